/-
  TABLE, 8: slices.Insert at answers, one element.
-/
import Derived.Test.YtmlmhnhilemjhaaDoorTB5
namespace Go.Proofs.YtmlmhnhilemjhaaDoor
open Go.RowKit
set_option linter.unusedVariables false
set_option maxRecDepth 100000
set_option linter.unusedSimpArgs false

theorem infoA0 : (Tryd.prog.info? 40).map (fun i => (i.size, decide (i.bytes ≤ 1000), i.zero.map (·.cells.size))) = some (38, true, some 38) := by kernel_rfl
theorem infoA1 : ∃ (i : TypeInfo) (z : Value), Tryd.prog.info? 40 = some i ∧ i.size = 38 ∧ i.bytes ≤ 1000 ∧ i.zero = some z ∧ z.cells.size = 38 := by
  obtain ⟨i, hi, he⟩ := Option.map_eq_some_iff.1 infoA0
  injection he with h1 h2
  injection h2 with h2 h3
  obtain ⟨z, hz, h4⟩ := Option.map_eq_some_iff.1 h3
  exact ⟨i, z, hi, h1, by simpa using h2, hz, h4⟩
set_option maxHeartbeats 4000000 in
/-- at the end -/
theorem insEndA (v : Value) (n q : Nat) (xs news : List Value) (w : World) (hown : owns w 40 38 v n xs) (hr : reads w (some ⟨q, 0, none⟩) q 1 38 news) (h1 : ∀ u ∈ news, u.oneCell' = true) (hn : n ≤ 100000) :
    Calls Tryd.prog 57 #[v, .int .i64 n, .slice (some ⟨q, 0, none⟩) 1 1] w (insPost w 40 38 v n (xs ++ news)) := by
  obtain ⟨iE, zE, hi, hs, hb, hz, hzs⟩ := infoA1
  have HI := Lib.hid (And.intro hi (And.intro hs (And.intro hz hzs)))
  have HB := Lib.hid (show (n + 1) * iE.bytes ≤ 140737488355328 from Nat.le_trans (Nat.mul_le_mul (show n + 1 ≤ 100001 by omega) hb) (by omega))
  have HL := Lib.hid (show n + 1 ≤ maxLen by simp only [maxLen]; omega)
  have HO := Lib.hid hown
  have HR := Lib.hid hr
  have H1 := Lib.hid h1
  clear hi hs hb hz hzs hr h1
  have cs := hown.2
  clear hown
  rcases cs with ⟨rfl, rfl⟩ | ⟨g, cap, cur, rfl, hrow, hcap, hmx, hcs, htk⟩
  · go_enter Tryd.func57, Tryd.ntmps57
    go_wp2_with (refine wp_append _ rfl (.tmp 23) (.tmp 24) 63 rfl 40 iE zE 38 iE.bytes Tryd.underlying63 HI.out.1 HI.out.2.2.1 HI.out.2.1 rfl HI.out.2.2.2 (by decide) _ 0 xs rfl HO.out (some ⟨q, 0, none⟩) q 1 1 news rfl HR.out H1.out HB.out HL.out ?_; intro A' c' w' o4 k4 n4; have O4 := Lib.hid (And.intro o4 (And.intro k4 n4)); clear o4 k4 n4)
    go_ret
    exact ⟨_, rfl, O4.out.1, O4.out.2.1, O4.out.2.2⟩
  · have HC := Lib.hid (And.intro hrow (And.intro hmx (And.intro hcs htk)))
    clear hrow hmx hcs htk
    go_enter Tryd.func57, Tryd.ntmps57
    go_wp2_with (refine wp_append _ rfl (.tmp 23) (.tmp 24) 63 rfl 40 iE zE 38 iE.bytes Tryd.underlying63 HI.out.1 HI.out.2.2.1 HI.out.2.1 rfl HI.out.2.2.2 (by decide) _ n xs rfl HO.out (some ⟨q, 0, none⟩) q 1 1 news rfl HR.out H1.out HB.out HL.out ?_; intro A' c' w' o4 k4 n4; have O4 := Lib.hid (And.intro o4 (And.intro k4 n4)); clear o4 k4 n4)
    all_goals go_ret
    all_goals exact ⟨_, rfl, O4.out.1, O4.out.2.1, O4.out.2.2⟩

theorem underA : Tryd.prog.underlying 63 = some (.slice 40) := Tryd.underlying63
theorem sizeA : ∀ w : World, (sizeOf 40).run Tryd.prog w = .ok 38 w := fun w => by
  obtain ⟨iE, zE, hi, hs, _⟩ := infoA1
  simp [sizeOf, typeInfo, hi, hs]
theorem apartA {w : World} {q g o lb cb : Nat} {cq cg : Array Value} (hq : rowAt w q 40 cq) (hg : rowAt w g 40 cg) (hne : q ≠ g) (hcg : cg.size ≠ 0) :
    (callFunc 76 #[.slice (some ⟨q, 0, none⟩) 1 1, .slice (some ⟨g, o, none⟩) lb cb]).run Tryd.prog w = .ok (.value (.bool false)) w := by
  rw [run_callFunc_extern Tryd.func76 (by kernel_rfl) (by kernel_rfl) (by kernel_rfl) (e := Extern.SlicesOverlaps.overlaps #[63, 63] #[4]) (by kernel_rfl),
    Lib.run_overlaps_apart w 63 4 40 underA 38 sizeA ⟨q, 0, none⟩ ⟨g, o, none⟩ 1 1 lb cb hne 40 40 cq.size cg.size hq.shape hg.shape hcg (hq.free 0) (hq.free _)]
  rfl
set_option maxHeartbeats 4000000 in
/-- inside, where there is room -/
theorem insRoomA (g n cap i q : Nat) (cur : Array Value) (news : List Value) (w : World) (hrow : rowAt w g 40 cur) (hcs : cur.size = cap * 38) (hmx : cap ≤ maxLen) (hi : i < n) (hroom : n + 1 ≤ cap) (hq : rowAt w q 40 news.toArray) (hqg : q ≠ g) (hnl : news.length = 38)
    (h1 : ∀ u ∈ news, u.oneCell' = true) (h2 : ∀ u ∈ cur.toList.take (n * 38), u.oneCell' = true) (hn : n ≤ 100000) :
    Calls Tryd.prog 57 #[.slice (some ⟨g, 0, none⟩) n cap, .int .i64 i, .slice (some ⟨q, 0, none⟩) 1 1] w
      (insPost w 40 38 (.slice (some ⟨g, 0, none⟩) n cap) n ((cur.toList.take (n * 38)).take (i * 38) ++ (news ++ (cur.toList.take (n * 38)).drop (i * 38)))) := by
  obtain ⟨iE, zE, hi', hs, hb, hz, hzs⟩ := infoA1
  have HI := Lib.hid (And.intro hi' (And.intro hs (And.intro hz hzs)))
  clear hi' hs hb hz hzs
  obtain ⟨X, hX⟩ : ∃ X, cur.toList.take (n * 38) = X := ⟨_, rfl⟩
  have hXl : X.length = n * 38 := by rw [← hX, List.length_take, Array.length_toList, hcs]; omega
  rw [hX] at h2 ⊢
  have HX := Lib.hid (And.intro hX hXl)
  have hdl : (X.drop (i * 38)).length = (n - i) * 38 := by rw [List.length_drop, hXl, Nat.sub_mul]
  obtain ⟨D, hD⟩ : ∃ D, X.drop (i * 38) = D := ⟨_, rfl⟩
  rw [hD] at hdl ⊢
  obtain ⟨X1, hX1⟩ : ∃ X1, X.take (i * 38) = X1 := ⟨_, rfl⟩
  rw [hX1]
  have HX1 := Lib.hid (show cur.toList.take (i * 38) = X1 ∧ X1.length = i * 38 from ⟨by rw [← hX1, ← hX, List.take_take, Nat.min_eq_left (by omega)], by rw [← hX1, List.length_take, hXl]; omega⟩)
  clear hX1
  have hov : ∀ o lb cb, (callFunc 76 #[.slice (some ⟨q, 0, none⟩) 1 1, .slice (some ⟨g, o, none⟩) lb cb]).run Tryd.prog w = .ok (.value (.bool false)) w := fun o lb cb => apartA hq hrow hqg (by omega)
  have rD : reads w (some ⟨g, i * 38, none⟩) g (n - i) 38 D := hrow.readsAt hdl (fun j u hu => by rw [← hD, List.getElem?_drop] at hu; exact take_at hX hu)
  have HD := Lib.hid (And.intro hdl (And.intro hD (And.intro (rD.keepS ((keepBut.refl [] w).drew) (by simp)) (And.intro hcs hmx))))
  have HR := Lib.hid (And.intro (show rowAt w.drew g 40 cur from hrow) (show rowAt w.drew q 40 news.toArray from hq))
  have HN := Lib.hid (And.intro hnl (And.intro h1 (show ∀ u ∈ D, u.oneCell' = true from fun u hu => h2 u (by rw [← hD] at hu; exact List.mem_of_mem_drop hu))))
  clear hX hXl hdl hD rD hrow hq hnl h1 h2 hcs
  have hz1 : ¬ ((i : Int) = (n : Int)) := by omega
  have hz2 : ¬ ((cap : Int) < (n : Int) + 1) := by omega
  have hz3 : (n : Int) + 1 ≤ (cap : Int) := by omega
  have hin : i ≤ n := by omega
  have hw1 : IntKind.i64.wrap ((i : Int) + 1) = (i : Int) + 1 := by rw [IntKind.wrap_i64]; omega
  have hw2 : IntKind.i64.wrap ((n : Int) + 1) = (n : Int) + 1 := by rw [IntKind.wrap_i64]; omega
  have htn : ((i : Int) + 1).toNat = i + 1 := by omega
  have htm : ((n : Int) + 1).toNat = n + 1 := by omega
  have hb2 : ¬ (cap = i + 1) := by omega
  have hb3 : (i : Int) + 1 ≤ (n : Int) + 1 := by omega
  have hb4 : ¬ (cap = i) := by omega
  have hb5 : (i : Int) ≤ (n : Int) + 1 := by omega
  have hb6 : (0 : Int) ≤ (i : Int) + 1 := by omega
  have hb7 : (0 : Int) ≤ (n : Int) + 1 := by omega
  go_enter Tryd.func57, Tryd.ntmps57
  go_wp2_with (simp only [hov])
  go_region_law (refine step_copyN _ rfl (.tmp 73) (.tmp 76) 63 63 rfl 40 underA iE HI.out.1 38 HI.out.2.1 g ((i + 1) * 38) (n - i) (cap - (i + 1)) (some ⟨g, i * 38, none⟩) g (n + 1 - i) (cap - i) (n - i) (by simp [Act.eval, Act.put]) (by simp [Act.eval, Act.put]) cur _ HR.out.1 D (by simp only [Nat.min_def]; split <;> omega) HD.out.2.2.1 (by have := HD.out.1; have := HD.out.2.2.2.1; rw [HD.out.1, HD.out.2.2.2.1, ← Nat.add_mul]; exact Nat.mul_le_mul_right _ (by omega)) HN.out.2.2 ?_; intro w2 r2 k2; have R2 := Lib.hid (And.intro r2 k2); clear r2 k2)
  have HM := Lib.hid (show D.length = (n - i) * 38 ∧ cur.toList.length = cap * 38 from ⟨HD.out.1, by rw [Array.length_toList]; exact HD.out.2.2.2.1⟩)
  go_wp2_with (refine wp_copyN _ rfl (.tmp 80) (.tmp 81) 63 63 rfl 40 underA iE HI.out.1 38 HI.out.2.1 g (i * 38) (n + 1 - i) (cap - i) (some ⟨q, 0, none⟩) q 1 1 1 (by simp [Act.eval, Act.put]) (by simp [Act.eval, Act.put]) _ _ R2.out.1 news (by simp only [Nat.min_def]; split <;> omega) ((R2.out.2.row HR.out.2 (by simp; exact hqg)).rangeReads HN.out.1) (by rw [splice_size HM.out.2 (by have := HM.out.1; omega), HN.out.1]; omega) HN.out.2.1 ?_; intro w3 r3 k3; have R3 := Lib.hid (And.intro r3 k3); clear r3 k3)
  go_ret
  refine ⟨_, rfl, owns_up R3.out.1 HN.out.1 HX1.out.1 HX1.out.2 HM.out.1 HM.out.2 (by omega) hroom HD.out.2.2.2.2, ((keepBut.refl _ w).drew.then R2.out.2 (fun x hx => .inl hx)).then R3.out.2 (fun x hx => .inl hx), fun x hx => .inl hx⟩
set_option maxHeartbeats 4000000 in
/-- inside, where there is no room -/
theorem insGrowA (g n cap i q : Nat) (cur : Array Value) (news : List Value) (w : World) (hrow : rowAt w g 40 cur) (hcs : cur.size = cap * 38) (hcap : n ≤ cap) (hi : i < n) (hroom : cap < n + 1) (hq : rowAt w q 40 news.toArray) (hnl : news.length = 38)
    (h1 : ∀ u ∈ news, u.oneCell' = true) (h2 : ∀ u ∈ cur.toList.take (n * 38), u.oneCell' = true) (hn : n ≤ 100000) :
    Calls Tryd.prog 57 #[.slice (some ⟨g, 0, none⟩) n cap, .int .i64 i, .slice (some ⟨q, 0, none⟩) 1 1] w
      (insPost w 40 38 (.slice (some ⟨g, 0, none⟩) n cap) n ((cur.toList.take (n * 38)).take (i * 38) ++ (news ++ (cur.toList.take (n * 38)).drop (i * 38)))) := by
  obtain ⟨iE, zE, hi', hs, hb, hz, hzs⟩ := infoA1
  have HI := Lib.hid (And.intro hi' (And.intro hs (And.intro hz hzs)))
  have HB := Lib.hid (show (i + (n + 1 - i)) * iE.bytes ≤ 140737488355328 from Nat.le_trans (Nat.mul_le_mul (show i + (n + 1 - i) ≤ 100001 by omega) hb) (by omega))
  have HL := Lib.hid (show i + (n + 1 - i) ≤ maxLen by simp only [maxLen]; omega)
  clear hi' hs hb hz hzs
  obtain ⟨X, hX⟩ : ∃ X, cur.toList.take (n * 38) = X := ⟨_, rfl⟩
  have hXl : X.length = n * 38 := by rw [← hX, List.length_take, Array.length_toList, hcs]; omega
  rw [hX] at h2 ⊢
  have hdl : (X.drop (i * 38)).length = (n - i) * 38 := by rw [List.length_drop, hXl, Nat.sub_mul]
  obtain ⟨D, hD⟩ : ∃ D, X.drop (i * 38) = D := ⟨_, rfl⟩
  rw [hD] at hdl ⊢
  obtain ⟨X1, hX1⟩ : ∃ X1, X.take (i * 38) = X1 := ⟨_, rfl⟩
  rw [hX1]
  have hX1l : X1.length = i * 38 := by rw [← hX1, List.length_take, hXl]; omega
  have rX : reads w (some ⟨g, 0, none⟩) g i 38 X1 := hrow.readsAt hX1l (fun j u hu => by
    rw [← hX1, List.getElem?_take] at hu
    split at hu
    · rw [Nat.zero_add]; exact take_at hX hu
    · cases hu)
  have rD : reads w (some ⟨g, i * 38, none⟩) g (n - i) 38 D := hrow.readsAt hdl (fun j u hu => by rw [← hD, List.getElem?_drop] at hu; exact take_at hX hu)
  have HD := Lib.hid (And.intro hdl (And.intro hX1l (And.intro rX rD)))
  have HR := Lib.hid (And.intro hrow hq)
  have HN := Lib.hid (And.intro hnl (And.intro h1 (show ∀ u ∈ D, u.oneCell' = true from fun u hu => h2 u (by rw [← hD] at hu; exact List.mem_of_mem_drop hu))))
  clear hX hXl hdl hD hX1 hX1l rX rD hrow hq hnl h1 h2 hcs
  have hz1 : ¬ ((i : Int) = (n : Int)) := by omega
  have hz2 : (cap : Int) < (n : Int) + 1 := by omega
  have hin : i ≤ n := by omega
  have hic : i ≤ cap := by omega
  have hw1 : IntKind.i64.wrap ((i : Int) + 1) = (i : Int) + 1 := by rw [IntKind.wrap_i64]; omega
  have hw2 : IntKind.i64.wrap ((n : Int) + 1) = (n : Int) + 1 := by rw [IntKind.wrap_i64]; omega
  have hw3 : IntKind.i64.wrap ((n : Int) + 1 - (i : Int)) = (n : Int) + 1 - (i : Int) := by rw [IntKind.wrap_i64]; omega
  have htn : ((i : Int) + 1).toNat = i + 1 := by omega
  have hb4 : ¬ (cap = i) := by omega
  have hb6 : (0 : Int) ≤ (i : Int) + 1 := by omega
  have hb3 : (i : Int) + 1 ≤ (n : Int) + 1 := by omega
  have hb5 : (i : Int) ≤ (n : Int) + 1 := by omega
  go_enter Tryd.func57, Tryd.ntmps57
  go_upto_region 10 with (refine wp_appendZeros _ rfl (.tmp 34) (.tmp 39) 63 3 rfl 40 iE zE 38 iE.bytes .i64 underA Tryd.underlying3 HI.out.1 HI.out.2.2.1 HI.out.2.1 rfl HI.out.2.2.2 (by decide) (some ⟨g, 0, none⟩) g i cap (n + 1 - i) X1 (by simp [Act.eval, Act.put]) HD.out.2.2.1 (by simp [Act.eval, Act.put]; omega) (by omega) (by omega) HB.out HL.out ?_; intro w2 c2 Z r2 h2a h2b h2l k2; rw [show i + (n + 1 - i) = n + 1 by omega] at h2a ⊢; have R2 := Lib.hid (And.intro r2 (And.intro k2 (And.intro h2b h2l))); clear r2 k2 h2b h2l)
  have hd4 : ¬ (c2 = i) := by omega
  have hd5 : ¬ (c2 = i + 1) := by omega
  have hbg : w.heap.size ≠ q ∧ w.heap.size ≠ g := ⟨fun e => by have := HR.out.2.lt; omega, fun e => by have := HR.out.1.lt; omega⟩
  have HG := Lib.hid hbg
  have S2 := Lib.hid (And.intro (((HR.out.2.rangeReads HN.out.1).keepS R2.out.2.1 (by simp))) (HD.out.2.2.2.keepS R2.out.2.1 (by simp)))
  clear hbg
  obtain ⟨b, hb⟩ : ∃ b, w.heap.size = b := ⟨_, rfl⟩
  rw [hb] at R2 HG ⊢
  have HE := Lib.hid hb
  clear hb
  go_upto_region 11 with (refine wp_copyN _ rfl (.tmp 43) (.tmp 44) 63 63 rfl 40 underA iE HI.out.1 38 HI.out.2.1 b (i * 38) (n + 1 - i) (c2 - i) (some ⟨q, 0, none⟩) q 1 1 1 (by simp [Act.eval, Act.put]) (by simp [Act.eval, Act.put]) _ _ R2.out.1 news (by simp only [Nat.min_def]; split <;> omega) S2.out.1 (by rw [HN.out.1]; simp only [List.size_toArray]; have := R2.out.2.2.2; omega) HN.out.2.1 ?_; intro w3 r3 k3; have R3 := Lib.hid (And.intro r3 k3); clear r3 k3)
  have HM := Lib.hid (show D.length = (n - i) * 38 ∧ (X1 ++ Z).length = c2 * 38 from ⟨HD.out.1, R2.out.2.2.2⟩)
  go_region_law (refine step_copyN _ rfl (.tmp 50) (.tmp 53) 63 63 rfl 40 underA iE HI.out.1 38 HI.out.2.1 b ((i + 1) * 38) (n - i) (c2 - (i + 1)) (some ⟨g, i * 38, none⟩) g (n - i) (cap - i) (n - i) (by simp [Act.eval, Act.put]) (by simp [Act.eval, Act.put]) _ _ (show rowAt w3.drew b 40 _ from R3.out.1) D (by simp only [Nat.min_def]; split <;> omega) ((S2.out.2.keepS R3.out.2 (by simp; exact fun _ => HG.out.2.symm)).keepS ((keepBut.refl [] w3).drew) (by simp)) (by rw [splice_size (show (X1 ++ Z).toArray.toList.length = c2 * 38 from HM.out.2) (by rw [HN.out.1]; omega), HM.out.1]; omega) HN.out.2.2 ?_; intro w4 r4 k4; have R4 := Lib.hid (And.intro r4 k4); clear r4 k4)
  go_wp2_with fail
  go_ret
  refine ⟨_, rfl, owns_on R4.out.1 HN.out.1 HD.out.2.1 HM.out.1 HM.out.2 (by omega) h2a R2.out.2.2.1, ?_, fun x hx => ?_⟩
  · exact (((R2.out.2.1.more (by simp)).then R3.out.2 (fun x hx => by simp at hx; subst hx; right; exact Nat.le_of_eq HE.out)).drew).then R4.out.2 (fun x hx => by simp at hx; subst hx; right; exact Nat.le_of_eq HE.out)
  · right
    have hx1 : x ∈ homes (.slice (some ⟨b, 0, none⟩) (n + 1) c2) := hx
    simp only [homes_some, List.mem_singleton] at hx1
    rw [hx1]
    exact Nat.le_of_eq HE.out
/-- one element more -/
theorem insA_any (v : Value) (n i q : Nat) (xs news : List Value) (w : World) (hown : owns w 40 38 v n xs) (hi : i ≤ n) (hq : rowAt w q 40 news.toArray) (hqv : q ∉ homes v) (hnl : news.length = 38)
    (h1 : ∀ u ∈ news, u.oneCell' = true) (h2 : ∀ u ∈ xs, u.oneCell' = true) (hn : n ≤ 100000) :
    Calls Tryd.prog 57 #[v, .int .i64 i, .slice (some ⟨q, 0, none⟩) 1 1] w (insPost w 40 38 v n (xs.take (i * 38) ++ (news ++ xs.drop (i * 38)))) := by
  rcases Nat.lt_or_ge i n with hlt | hge
  · rcases hown.2 with ⟨rfl, rfl⟩ | ⟨g, cap, cur, rfl, hrow, hcap, hmx, hcs, rfl⟩
    · omega
    · by_cases hr : n + 1 ≤ cap
      · exact insRoomA g n cap i q cur news w hrow hcs hmx hlt hr hq (fun e => hqv (by rw [e]; simp [homes_some])) hnl h1 h2 hn
      · exact insGrowA g n cap i q cur news w hrow hcs hcap hlt (by omega) hq hnl h1 h2 hn
  · obtain rfl : i = n := by omega
    rw [← hown.1, List.take_length, List.drop_length, List.append_nil]
    exact insEndA v i q xs news w hown (hq.rangeReads hnl) h1 hn
end Go.Proofs.YtmlmhnhilemjhaaDoor
