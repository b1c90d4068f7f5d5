/-
  TABLE, 5: slices.Insert at names, one element.
-/
import Derived.Test.YtmlmhnhilemjhaaDoorTB4
namespace Go.Proofs.YtmlmhnhilemjhaaDoor
open Go.RowKit
set_option linter.unusedVariables false
set_option maxRecDepth 100000
set_option linter.unusedSimpArgs false

/-- an element has been inserted -/
def insPost (w : World) (e : TypeId) (sz : Nat) (v : Value) (n : Nat) (xs : List Value) (E : Ending) (w' : World) : Prop :=
  ∃ v', E = .returned v' ∧ owns w' e sz v' (n + 1) xs ∧ keepBut (homes v) w w' ∧ ∀ x ∈ homes v', x ∈ homes v ∨ w.heap.size ≤ x
theorem rowAt.shape {w : World} {g : Nat} {t : TypeId} {cs : Array Value} (h : rowAt w g t cs) : w.shape? g = some (t, cs.size) := by
  unfold rowAt at h
  simp [World.shape?, h]
theorem rowAt.readsAt {w : World} {g : Nat} {t : TypeId} {cs : Array Value} (h : rowAt w g t cs) {o m sz : Nat} {l : List Value} (hl : l.length = m * sz) (hc : ∀ j u, l[j]? = some u → cs[o + j]? = some u) : reads w (some ⟨g, o, none⟩) g m sz l :=
  ⟨hl, fun _ => ⟨o, rfl, h.lt, fun j u hu => (h.cell _).trans (hc j u hu)⟩⟩
theorem rowAt.rangeReads {w : World} {g sz : Nat} {t : TypeId} {l : List Value} (h : rowAt w g t l.toArray) (hl : l.length = sz) : reads w (some ⟨g, 0, none⟩) g 1 sz l :=
  h.readsAt (by omega) (fun j u hu => by rw [Nat.zero_add]; simpa using hu)
theorem splice_size {α : Type} {L cs : List α} {off k : Nat} (hc : L.length = k) (hb : off + cs.length ≤ k) : (splice L off cs).toArray.size = k := by
  rw [List.size_toArray, length_splice _ _ _ (by omega), hc]
theorem owns_up {w' : World} {e : TypeId} {sz g n cap i : Nat} {cur : Array Value} {news X1 D : List Value} (r : rowAt w' g e (splice (splice cur.toList ((i + 1) * sz) D).toArray.toList (i * sz) news).toArray) (hn : news.length = sz)
    (h1 : cur.toList.take (i * sz) = X1) (hl : X1.length = i * sz) (hD : D.length = (n - i) * sz) (hc : cur.toList.length = cap * sz) (hi : i ≤ n) (hr : n + 1 ≤ cap) (hm : cap ≤ maxLen) :
    owns w' e sz (.slice (some ⟨g, 0, none⟩) (n + 1) cap) (n + 1) (X1 ++ (news ++ D)) := by
  have e1 : i * sz + sz = (i + 1) * sz := by rw [Nat.add_mul]; omega
  have e2 : i * sz + sz + (n - i) * sz = (n + 1) * sz := by rw [e1, ← Nat.add_mul]; congr 1; omega
  have e3 : (n + 1) * sz ≤ cap * sz := Nat.mul_le_mul_right _ hr
  have hs := splice_up (N := news) (X2 := D) h1 hl (by rw [hn, hD, hc, e2]; exact e3)
  rw [hn, hD, e2, e1] at hs
  have hl1 : (splice cur.toList ((i + 1) * sz) D).length = cap * sz := by rw [length_splice _ _ _ (by rw [hD, hc, ← e1, e2]; exact e3), hc]
  refine ⟨by simp only [List.length_append, hl, hn, hD]; omega, .inr ⟨g, cap, _, rfl, r, hr, hm, ?_, hs⟩⟩
  rw [List.size_toArray, length_splice _ _ _ (by show _ ≤ (splice cur.toList ((i + 1) * sz) D).length; rw [hl1, hn]; omega)]
  exact hl1
theorem owns_on {w' : World} {e : TypeId} {sz g n cap i : Nat} {news X1 Z D : List Value} (r : rowAt w' g e (splice (splice (X1 ++ Z).toArray.toList (i * sz) news).toArray.toList ((i + 1) * sz) D).toArray) (hn : news.length = sz)
    (hl : X1.length = i * sz) (hD : D.length = (n - i) * sz) (hc : (X1 ++ Z).length = cap * sz) (hi : i ≤ n) (hr : n + 1 ≤ cap) (hm : cap ≤ maxLen) :
    owns w' e sz (.slice (some ⟨g, 0, none⟩) (n + 1) cap) (n + 1) (X1 ++ (news ++ D)) := by
  have e1 : i * sz + sz = (i + 1) * sz := by rw [Nat.add_mul]; omega
  have e2 : i * sz + sz + (n - i) * sz = (n + 1) * sz := by rw [e1, ← Nat.add_mul]; congr 1; omega
  have e3 : (n + 1) * sz ≤ cap * sz := Nat.mul_le_mul_right _ hr
  have hs := splice_on (L := X1 ++ Z) (X1 := X1) (N := news) (X2 := D) (a := i * sz) (List.take_left' hl) hl (by rw [hn, hD, hc, e2]; exact e3)
  rw [hn, hD, e2, e1] at hs
  have hl1 : (splice (X1 ++ Z) (i * sz) news).length = cap * sz := by rw [length_splice _ _ _ (by rw [hc, hn]; omega), hc]
  refine ⟨by simp only [List.length_append, hl, hn, hD]; omega, .inr ⟨g, cap, _, rfl, r, hr, hm, ?_, hs⟩⟩
  rw [List.size_toArray, length_splice _ _ _ (by show _ ≤ (splice (X1 ++ Z) (i * sz) news).length; rw [hl1, hD, ← e1, e2]; exact e3)]
  exact hl1
theorem take_at {cur : Array Value} {k : Nat} {xs : List Value} (h : cur.toList.take k = xs) {j : Nat} {u : Value} (hu : xs[j]? = some u) : cur[j]? = some u := by
  rw [← h, List.getElem?_take] at hu
  split at hu
  · simpa using hu
  · cases hu

theorem infoN0 : (Tryd.prog.info? 28).map (fun i => (i.size, decide (i.bytes ≤ 1000), i.zero.map (·.cells.size))) = some (32, true, some 32) := by kernel_rfl
theorem infoN1 : ∃ (i : TypeInfo) (z : Value), Tryd.prog.info? 28 = some i ∧ i.size = 32 ∧ i.bytes ≤ 1000 ∧ i.zero = some z ∧ z.cells.size = 32 := by
  obtain ⟨i, hi, he⟩ := Option.map_eq_some_iff.1 infoN0
  injection he with h1 h2
  injection h2 with h2 h3
  obtain ⟨z, hz, h4⟩ := Option.map_eq_some_iff.1 h3
  exact ⟨i, z, hi, h1, by simpa using h2, hz, h4⟩
set_option maxHeartbeats 4000000 in
/-- at the end -/
theorem insEndN (v : Value) (n q : Nat) (xs news : List Value) (w : World) (hown : owns w 28 32 v n xs) (hr : reads w (some ⟨q, 0, none⟩) q 1 32 news) (h1 : ∀ u ∈ news, u.oneCell' = true) (hn : n ≤ 100000) :
    Calls Tryd.prog 80 #[v, .int .i64 n, .slice (some ⟨q, 0, none⟩) 1 1] w (insPost w 28 32 v n (xs ++ news)) := by
  obtain ⟨iE, zE, hi, hs, hb, hz, hzs⟩ := infoN1
  have HI := Lib.hid (And.intro hi (And.intro hs (And.intro hz hzs)))
  have HB := Lib.hid (show (n + 1) * iE.bytes ≤ 140737488355328 from Nat.le_trans (Nat.mul_le_mul (show n + 1 ≤ 100001 by omega) hb) (by omega))
  have HL := Lib.hid (show n + 1 ≤ maxLen by simp only [maxLen]; omega)
  have HO := Lib.hid hown
  have HR := Lib.hid hr
  have H1 := Lib.hid h1
  clear hi hs hb hz hzs hr h1
  have cs := hown.2
  clear hown
  rcases cs with ⟨rfl, rfl⟩ | ⟨g, cap, cur, rfl, hrow, hcap, hmx, hcs, htk⟩
  · go_enter Tryd.func80, Tryd.ntmps80
    go_wp2_with (refine wp_append _ rfl (.tmp 23) (.tmp 24) 47 rfl 28 iE zE 32 iE.bytes Tryd.underlying47 HI.out.1 HI.out.2.2.1 HI.out.2.1 rfl HI.out.2.2.2 (by decide) _ 0 xs rfl HO.out (some ⟨q, 0, none⟩) q 1 1 news rfl HR.out H1.out HB.out HL.out ?_; intro A' c' w' o4 k4 n4; have O4 := Lib.hid (And.intro o4 (And.intro k4 n4)); clear o4 k4 n4)
    go_ret
    exact ⟨_, rfl, O4.out.1, O4.out.2.1, O4.out.2.2⟩
  · have HC := Lib.hid (And.intro hrow (And.intro hmx (And.intro hcs htk)))
    clear hrow hmx hcs htk
    go_enter Tryd.func80, Tryd.ntmps80
    go_wp2_with (refine wp_append _ rfl (.tmp 23) (.tmp 24) 47 rfl 28 iE zE 32 iE.bytes Tryd.underlying47 HI.out.1 HI.out.2.2.1 HI.out.2.1 rfl HI.out.2.2.2 (by decide) _ n xs rfl HO.out (some ⟨q, 0, none⟩) q 1 1 news rfl HR.out H1.out HB.out HL.out ?_; intro A' c' w' o4 k4 n4; have O4 := Lib.hid (And.intro o4 (And.intro k4 n4)); clear o4 k4 n4)
    all_goals go_ret
    all_goals exact ⟨_, rfl, O4.out.1, O4.out.2.1, O4.out.2.2⟩

theorem underN : Tryd.prog.underlying 47 = some (.slice 28) := Tryd.underlying47
theorem sizeN : ∀ w : World, (sizeOf 28).run Tryd.prog w = .ok 32 w := fun w => by
  obtain ⟨iE, zE, hi, hs, _⟩ := infoN1
  simp [sizeOf, typeInfo, hi, hs]
theorem apartN {w : World} {q g o lb cb : Nat} {cq cg : Array Value} (hq : rowAt w q 28 cq) (hg : rowAt w g 28 cg) (hne : q ≠ g) (hcg : cg.size ≠ 0) :
    (callFunc 84 #[.slice (some ⟨q, 0, none⟩) 1 1, .slice (some ⟨g, o, none⟩) lb cb]).run Tryd.prog w = .ok (.value (.bool false)) w := by
  rw [run_callFunc_extern Tryd.func84 (by kernel_rfl) (by kernel_rfl) (by kernel_rfl) (e := Extern.SlicesOverlaps.overlaps #[47, 47] #[4]) (by kernel_rfl),
    Lib.run_overlaps_apart w 47 4 28 underN 32 sizeN ⟨q, 0, none⟩ ⟨g, o, none⟩ 1 1 lb cb hne 28 28 cq.size cg.size hq.shape hg.shape hcg (hq.free 0) (hq.free _)]
  rfl
set_option maxHeartbeats 4000000 in
/-- inside, where there is room -/
theorem insRoomN (g n cap i q : Nat) (cur : Array Value) (news : List Value) (w : World) (hrow : rowAt w g 28 cur) (hcs : cur.size = cap * 32) (hmx : cap ≤ maxLen) (hi : i < n) (hroom : n + 1 ≤ cap) (hq : rowAt w q 28 news.toArray) (hqg : q ≠ g) (hnl : news.length = 32)
    (h1 : ∀ u ∈ news, u.oneCell' = true) (h2 : ∀ u ∈ cur.toList.take (n * 32), u.oneCell' = true) (hn : n ≤ 100000) :
    Calls Tryd.prog 80 #[.slice (some ⟨g, 0, none⟩) n cap, .int .i64 i, .slice (some ⟨q, 0, none⟩) 1 1] w
      (insPost w 28 32 (.slice (some ⟨g, 0, none⟩) n cap) n ((cur.toList.take (n * 32)).take (i * 32) ++ (news ++ (cur.toList.take (n * 32)).drop (i * 32)))) := by
  obtain ⟨iE, zE, hi', hs, hb, hz, hzs⟩ := infoN1
  have HI := Lib.hid (And.intro hi' (And.intro hs (And.intro hz hzs)))
  clear hi' hs hb hz hzs
  obtain ⟨X, hX⟩ : ∃ X, cur.toList.take (n * 32) = X := ⟨_, rfl⟩
  have hXl : X.length = n * 32 := by rw [← hX, List.length_take, Array.length_toList, hcs]; omega
  rw [hX] at h2 ⊢
  have HX := Lib.hid (And.intro hX hXl)
  have hdl : (X.drop (i * 32)).length = (n - i) * 32 := by rw [List.length_drop, hXl, Nat.sub_mul]
  obtain ⟨D, hD⟩ : ∃ D, X.drop (i * 32) = D := ⟨_, rfl⟩
  rw [hD] at hdl ⊢
  obtain ⟨X1, hX1⟩ : ∃ X1, X.take (i * 32) = X1 := ⟨_, rfl⟩
  rw [hX1]
  have HX1 := Lib.hid (show cur.toList.take (i * 32) = X1 ∧ X1.length = i * 32 from ⟨by rw [← hX1, ← hX, List.take_take, Nat.min_eq_left (by omega)], by rw [← hX1, List.length_take, hXl]; omega⟩)
  clear hX1
  have hov : ∀ o lb cb, (callFunc 84 #[.slice (some ⟨q, 0, none⟩) 1 1, .slice (some ⟨g, o, none⟩) lb cb]).run Tryd.prog w = .ok (.value (.bool false)) w := fun o lb cb => apartN hq hrow hqg (by omega)
  have rD : reads w (some ⟨g, i * 32, none⟩) g (n - i) 32 D := hrow.readsAt hdl (fun j u hu => by rw [← hD, List.getElem?_drop] at hu; exact take_at hX hu)
  have HD := Lib.hid (And.intro hdl (And.intro hD (And.intro (rD.keepS ((keepBut.refl [] w).drew) (by simp)) (And.intro hcs hmx))))
  have HR := Lib.hid (And.intro (show rowAt w.drew g 28 cur from hrow) (show rowAt w.drew q 28 news.toArray from hq))
  have HN := Lib.hid (And.intro hnl (And.intro h1 (show ∀ u ∈ D, u.oneCell' = true from fun u hu => h2 u (by rw [← hD] at hu; exact List.mem_of_mem_drop hu))))
  clear hX hXl hdl hD rD hrow hq hnl h1 h2 hcs
  have hz1 : ¬ ((i : Int) = (n : Int)) := by omega
  have hz2 : ¬ ((cap : Int) < (n : Int) + 1) := by omega
  have hz3 : (n : Int) + 1 ≤ (cap : Int) := by omega
  have hin : i ≤ n := by omega
  have hw1 : IntKind.i64.wrap ((i : Int) + 1) = (i : Int) + 1 := by rw [IntKind.wrap_i64]; omega
  have hw2 : IntKind.i64.wrap ((n : Int) + 1) = (n : Int) + 1 := by rw [IntKind.wrap_i64]; omega
  have htn : ((i : Int) + 1).toNat = i + 1 := by omega
  have htm : ((n : Int) + 1).toNat = n + 1 := by omega
  have hb2 : ¬ (cap = i + 1) := by omega
  have hb3 : (i : Int) + 1 ≤ (n : Int) + 1 := by omega
  have hb4 : ¬ (cap = i) := by omega
  have hb5 : (i : Int) ≤ (n : Int) + 1 := by omega
  have hb6 : (0 : Int) ≤ (i : Int) + 1 := by omega
  have hb7 : (0 : Int) ≤ (n : Int) + 1 := by omega
  go_enter Tryd.func80, Tryd.ntmps80
  go_wp2_with (simp only [hov])
  go_region_law (refine step_copyN _ rfl (.tmp 73) (.tmp 76) 47 47 rfl 28 underN iE HI.out.1 32 HI.out.2.1 g ((i + 1) * 32) (n - i) (cap - (i + 1)) (some ⟨g, i * 32, none⟩) g (n + 1 - i) (cap - i) (n - i) (by simp [Act.eval, Act.put]) (by simp [Act.eval, Act.put]) cur _ HR.out.1 D (by simp only [Nat.min_def]; split <;> omega) HD.out.2.2.1 (by have := HD.out.1; have := HD.out.2.2.2.1; rw [HD.out.1, HD.out.2.2.2.1, ← Nat.add_mul]; exact Nat.mul_le_mul_right _ (by omega)) HN.out.2.2 ?_; intro w2 r2 k2; have R2 := Lib.hid (And.intro r2 k2); clear r2 k2)
  have HM := Lib.hid (show D.length = (n - i) * 32 ∧ cur.toList.length = cap * 32 from ⟨HD.out.1, by rw [Array.length_toList]; exact HD.out.2.2.2.1⟩)
  go_wp2_with (refine wp_copyN _ rfl (.tmp 80) (.tmp 81) 47 47 rfl 28 underN iE HI.out.1 32 HI.out.2.1 g (i * 32) (n + 1 - i) (cap - i) (some ⟨q, 0, none⟩) q 1 1 1 (by simp [Act.eval, Act.put]) (by simp [Act.eval, Act.put]) _ _ R2.out.1 news (by simp only [Nat.min_def]; split <;> omega) ((R2.out.2.row HR.out.2 (by simp; exact hqg)).rangeReads HN.out.1) (by rw [splice_size HM.out.2 (by have := HM.out.1; omega), HN.out.1]; omega) HN.out.2.1 ?_; intro w3 r3 k3; have R3 := Lib.hid (And.intro r3 k3); clear r3 k3)
  go_ret
  refine ⟨_, rfl, owns_up R3.out.1 HN.out.1 HX1.out.1 HX1.out.2 HM.out.1 HM.out.2 (by omega) hroom HD.out.2.2.2.2, ((keepBut.refl _ w).drew.then R2.out.2 (fun x hx => .inl hx)).then R3.out.2 (fun x hx => .inl hx), fun x hx => .inl hx⟩
set_option maxHeartbeats 4000000 in
/-- inside, where there is no room -/
theorem insGrowN (g n cap i q : Nat) (cur : Array Value) (news : List Value) (w : World) (hrow : rowAt w g 28 cur) (hcs : cur.size = cap * 32) (hcap : n ≤ cap) (hi : i < n) (hroom : cap < n + 1) (hq : rowAt w q 28 news.toArray) (hnl : news.length = 32)
    (h1 : ∀ u ∈ news, u.oneCell' = true) (h2 : ∀ u ∈ cur.toList.take (n * 32), u.oneCell' = true) (hn : n ≤ 100000) :
    Calls Tryd.prog 80 #[.slice (some ⟨g, 0, none⟩) n cap, .int .i64 i, .slice (some ⟨q, 0, none⟩) 1 1] w
      (insPost w 28 32 (.slice (some ⟨g, 0, none⟩) n cap) n ((cur.toList.take (n * 32)).take (i * 32) ++ (news ++ (cur.toList.take (n * 32)).drop (i * 32)))) := by
  obtain ⟨iE, zE, hi', hs, hb, hz, hzs⟩ := infoN1
  have HI := Lib.hid (And.intro hi' (And.intro hs (And.intro hz hzs)))
  have HB := Lib.hid (show (i + (n + 1 - i)) * iE.bytes ≤ 140737488355328 from Nat.le_trans (Nat.mul_le_mul (show i + (n + 1 - i) ≤ 100001 by omega) hb) (by omega))
  have HL := Lib.hid (show i + (n + 1 - i) ≤ maxLen by simp only [maxLen]; omega)
  clear hi' hs hb hz hzs
  obtain ⟨X, hX⟩ : ∃ X, cur.toList.take (n * 32) = X := ⟨_, rfl⟩
  have hXl : X.length = n * 32 := by rw [← hX, List.length_take, Array.length_toList, hcs]; omega
  rw [hX] at h2 ⊢
  have hdl : (X.drop (i * 32)).length = (n - i) * 32 := by rw [List.length_drop, hXl, Nat.sub_mul]
  obtain ⟨D, hD⟩ : ∃ D, X.drop (i * 32) = D := ⟨_, rfl⟩
  rw [hD] at hdl ⊢
  obtain ⟨X1, hX1⟩ : ∃ X1, X.take (i * 32) = X1 := ⟨_, rfl⟩
  rw [hX1]
  have hX1l : X1.length = i * 32 := by rw [← hX1, List.length_take, hXl]; omega
  have rX : reads w (some ⟨g, 0, none⟩) g i 32 X1 := hrow.readsAt hX1l (fun j u hu => by
    rw [← hX1, List.getElem?_take] at hu
    split at hu
    · rw [Nat.zero_add]; exact take_at hX hu
    · cases hu)
  have rD : reads w (some ⟨g, i * 32, none⟩) g (n - i) 32 D := hrow.readsAt hdl (fun j u hu => by rw [← hD, List.getElem?_drop] at hu; exact take_at hX hu)
  have HD := Lib.hid (And.intro hdl (And.intro hX1l (And.intro rX rD)))
  have HR := Lib.hid (And.intro hrow hq)
  have HN := Lib.hid (And.intro hnl (And.intro h1 (show ∀ u ∈ D, u.oneCell' = true from fun u hu => h2 u (by rw [← hD] at hu; exact List.mem_of_mem_drop hu))))
  clear hX hXl hdl hD hX1 hX1l rX rD hrow hq hnl h1 h2 hcs
  have hz1 : ¬ ((i : Int) = (n : Int)) := by omega
  have hz2 : (cap : Int) < (n : Int) + 1 := by omega
  have hin : i ≤ n := by omega
  have hic : i ≤ cap := by omega
  have hw1 : IntKind.i64.wrap ((i : Int) + 1) = (i : Int) + 1 := by rw [IntKind.wrap_i64]; omega
  have hw2 : IntKind.i64.wrap ((n : Int) + 1) = (n : Int) + 1 := by rw [IntKind.wrap_i64]; omega
  have hw3 : IntKind.i64.wrap ((n : Int) + 1 - (i : Int)) = (n : Int) + 1 - (i : Int) := by rw [IntKind.wrap_i64]; omega
  have htn : ((i : Int) + 1).toNat = i + 1 := by omega
  have hb4 : ¬ (cap = i) := by omega
  have hb6 : (0 : Int) ≤ (i : Int) + 1 := by omega
  have hb3 : (i : Int) + 1 ≤ (n : Int) + 1 := by omega
  have hb5 : (i : Int) ≤ (n : Int) + 1 := by omega
  go_enter Tryd.func80, Tryd.ntmps80
  go_upto_region 10 with (refine wp_appendZeros _ rfl (.tmp 34) (.tmp 39) 47 3 rfl 28 iE zE 32 iE.bytes .i64 underN Tryd.underlying3 HI.out.1 HI.out.2.2.1 HI.out.2.1 rfl HI.out.2.2.2 (by decide) (some ⟨g, 0, none⟩) g i cap (n + 1 - i) X1 (by simp [Act.eval, Act.put]) HD.out.2.2.1 (by simp [Act.eval, Act.put]; omega) (by omega) (by omega) HB.out HL.out ?_; intro w2 c2 Z r2 h2a h2b h2l k2; rw [show i + (n + 1 - i) = n + 1 by omega] at h2a ⊢; have R2 := Lib.hid (And.intro r2 (And.intro k2 (And.intro h2b h2l))); clear r2 k2 h2b h2l)
  have hd4 : ¬ (c2 = i) := by omega
  have hd5 : ¬ (c2 = i + 1) := by omega
  have hbg : w.heap.size ≠ q ∧ w.heap.size ≠ g := ⟨fun e => by have := HR.out.2.lt; omega, fun e => by have := HR.out.1.lt; omega⟩
  have HG := Lib.hid hbg
  have S2 := Lib.hid (And.intro (((HR.out.2.rangeReads HN.out.1).keepS R2.out.2.1 (by simp))) (HD.out.2.2.2.keepS R2.out.2.1 (by simp)))
  clear hbg
  obtain ⟨b, hb⟩ : ∃ b, w.heap.size = b := ⟨_, rfl⟩
  rw [hb] at R2 HG ⊢
  have HE := Lib.hid hb
  clear hb
  go_upto_region 11 with (refine wp_copyN _ rfl (.tmp 43) (.tmp 44) 47 47 rfl 28 underN iE HI.out.1 32 HI.out.2.1 b (i * 32) (n + 1 - i) (c2 - i) (some ⟨q, 0, none⟩) q 1 1 1 (by simp [Act.eval, Act.put]) (by simp [Act.eval, Act.put]) _ _ R2.out.1 news (by simp only [Nat.min_def]; split <;> omega) S2.out.1 (by rw [HN.out.1]; simp only [List.size_toArray]; have := R2.out.2.2.2; omega) HN.out.2.1 ?_; intro w3 r3 k3; have R3 := Lib.hid (And.intro r3 k3); clear r3 k3)
  have HM := Lib.hid (show D.length = (n - i) * 32 ∧ (X1 ++ Z).length = c2 * 32 from ⟨HD.out.1, R2.out.2.2.2⟩)
  go_region_law (refine step_copyN _ rfl (.tmp 50) (.tmp 53) 47 47 rfl 28 underN iE HI.out.1 32 HI.out.2.1 b ((i + 1) * 32) (n - i) (c2 - (i + 1)) (some ⟨g, i * 32, none⟩) g (n - i) (cap - i) (n - i) (by simp [Act.eval, Act.put]) (by simp [Act.eval, Act.put]) _ _ (show rowAt w3.drew b 28 _ from R3.out.1) D (by simp only [Nat.min_def]; split <;> omega) ((S2.out.2.keepS R3.out.2 (by simp; exact fun _ => HG.out.2.symm)).keepS ((keepBut.refl [] w3).drew) (by simp)) (by rw [splice_size (show (X1 ++ Z).toArray.toList.length = c2 * 32 from HM.out.2) (by rw [HN.out.1]; omega), HM.out.1]; omega) HN.out.2.2 ?_; intro w4 r4 k4; have R4 := Lib.hid (And.intro r4 k4); clear r4 k4)
  go_wp2_with fail
  go_ret
  refine ⟨_, rfl, owns_on R4.out.1 HN.out.1 HD.out.2.1 HM.out.1 HM.out.2 (by omega) h2a R2.out.2.2.1, ?_, fun x hx => ?_⟩
  · exact (((R2.out.2.1.more (by simp)).then R3.out.2 (fun x hx => by simp at hx; subst hx; right; exact Nat.le_of_eq HE.out)).drew).then R4.out.2 (fun x hx => by simp at hx; subst hx; right; exact Nat.le_of_eq HE.out)
  · right
    have hx1 : x ∈ homes (.slice (some ⟨b, 0, none⟩) (n + 1) c2) := hx
    simp only [homes_some, List.mem_singleton] at hx1
    rw [hx1]
    exact Nat.le_of_eq HE.out
/-- one element more -/
theorem insN_any (v : Value) (n i q : Nat) (xs news : List Value) (w : World) (hown : owns w 28 32 v n xs) (hi : i ≤ n) (hq : rowAt w q 28 news.toArray) (hqv : q ∉ homes v) (hnl : news.length = 32)
    (h1 : ∀ u ∈ news, u.oneCell' = true) (h2 : ∀ u ∈ xs, u.oneCell' = true) (hn : n ≤ 100000) :
    Calls Tryd.prog 80 #[v, .int .i64 i, .slice (some ⟨q, 0, none⟩) 1 1] w (insPost w 28 32 v n (xs.take (i * 32) ++ (news ++ xs.drop (i * 32)))) := by
  rcases Nat.lt_or_ge i n with hlt | hge
  · rcases hown.2 with ⟨rfl, rfl⟩ | ⟨g, cap, cur, rfl, hrow, hcap, hmx, hcs, rfl⟩
    · omega
    · by_cases hr : n + 1 ≤ cap
      · exact insRoomN g n cap i q cur news w hrow hcs hmx hlt hr hq (fun e => hqv (by rw [e]; simp [homes_some])) hnl h1 h2 hn
      · exact insGrowN g n cap i q cur news w hrow hcs hcap hlt (by omega) hq hnl h1 h2 hn
  · obtain rfl : i = n := by omega
    rw [← hown.1, List.take_length, List.drop_length, List.append_nil]
    exact insEndN v i q xs news w hown (hq.rangeReads hnl) h1 hn
end Go.Proofs.YtmlmhnhilemjhaaDoor
