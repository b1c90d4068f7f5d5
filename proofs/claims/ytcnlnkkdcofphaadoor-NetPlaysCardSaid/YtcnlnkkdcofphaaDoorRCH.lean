/-
  RCH: RC18, RC19, RC20, joined.
-/
import Derived.Test.YtcnlnkkdcofphaaDoorRCG
import Derived.Test.YtcnlnkkdcofphaaDoorNet9
import Derived.Test.YtcnlnkkdcofphaaDoorNet11
import Derived.Deep.QuietTactic
import Derived.BigQuiet
section
namespace Go.Proofs.YtcnlnkkdcofphaaDoor
open Go.RowKit
set_option linter.unusedVariables false
set_option maxRecDepth 100000
set_option linter.unusedSimpArgs false

section
variable {P : Program} (w : World)
theorem append_noneO (t ty e : TypeId) (i : TypeInfo) (ht : P.underlying t = some (.slice e)) (hi : P.info? e = some i)
    (v : Value) (n sz : Nat) (xs : List Value) (hown : ownsO w e sz v n xs) (A : Option Addr) (c : Nat) :
    (Builtin.append_ #[t, t] ty #[v, .slice A 0 c]).run P w = .ok v w := by
  rcases hown.2 with ⟨rfl, rfl⟩ | ⟨g, off, cap, cur, rfl, _, hnc, _⟩
  · cases A <;> simp [Builtin.append_, run_underlying ht, sizeOf, typeInfo, hi, Builtin.lenOf, Builtin.firstCells, loadCells, loadCellsFrom]
  · cases A <;> simp [Builtin.append_, run_underlying ht, sizeOf, typeInfo, hi, Builtin.lenOf, Builtin.firstCells, hnc, storeCells, loadCells, loadCellsFrom]
theorem wp_appendZ {ops : Array Oper} {rest : List Oper} {o : Oper} {a : Act} {Q : Exit → Act → World → Prop} (hgd : o.guard = none) (s x : Operand) (t : TypeId)
    (ho : o.op = .call { callee := .builtin .append, args := #[s, x], argTypes := #[t, t] })
    (e : TypeId) (i : TypeInfo) (z : Value) (sz bytes : Nat) (ht : P.underlying t = some (.slice e)) (hi : P.info? e = some i) (hz : i.zero = some z)
    (hsize : i.size = sz) (hby : i.bytes = bytes) (hzs : z.cells.size = sz) (hsz : 0 < sz)
    (v : Value) (n : Nat) (xs : List Value) (hs : a.eval s = v) (hown : ownsO w e sz v n xs)
    (A : Option Addr) (g m c : Nat) (news : List Value) (hx : a.eval x = .slice A m c) (hr : reads w A g m sz news) (h1 : ∀ u ∈ news, u.oneCell' = true)
    (hbytes : (n + m) * bytes ≤ 140737488355328) (hlen : n + m ≤ maxLen)
    (h : ∀ A' c' w', ownsO w' e sz (.slice A' (n + m) c') (n + m) (xs ++ news) → keepBut (homes v) w w' → (∀ x ∈ homes (.slice A' (n + m) c'), x ∈ homes v ∨ w.heap.size ≤ x) → wpList P ops Q rest (a.put o.dst (.slice A' (n + m) c')) w') : wpList P ops Q (o :: rest) a w := by
  rcases Nat.eq_zero_or_pos m with hm | hm
  · subst hm
    have hn : news = [] := List.eq_nil_of_length_eq_zero (by simpa using hr.1)
    subst hn
    obtain ⟨A', c', rfl, _⟩ := id hown.form
    refine wpList_plain hgd fun K hK => ?_
    have hr2 := append_noneO (P := P) w t o.type e i ht hi (.slice A' n c') n sz xs hown A c
    unfold Oper.wp execOp
    simp only [ho, resolve, invoke, builtin, Sem.run_bind, Sem.run_pure, Result.andThen_ok, List.map_toArray, List.map_cons, List.map_nil, hs, hx, hr2]
    exact hK _ _ (h A' c' w (by simpa using hown) (keepBut.refl _ _) (fun x hx => .inl hx))
  · exact wp_appendO w hgd s x t ho e i z sz bytes ht hi hz hsize hby hzs hsz v n xs hs hown A g m c news hx hr h1 hm hbytes hlen h
end
theorem flatP_take_drop (T : List (PK × List Value)) (i : Nat) : flatP T = flatP (T.take i) ++ flatP (T.drop i) := by
  rw [← flatP_append, List.take_append_drop]
theorem readsTake {w : World} {g off n k i : Nat} {T : List (PK × List Value)} (h : ownsO w 40 87 (.slice (some ⟨g, off, none⟩) n k) n (flatP T)) (hl : ∀ t ∈ T, t.2.length = 87) (hn : T.length = n) (hi : i ≤ n) (hn0 : 0 < n) : reads w (some ⟨g, off, none⟩) g i 87 (flatP (T.take i)) := by
  obtain ⟨g', off', e, h1, _, h2⟩ := h.cell hn0
  injection e with e
  injection e with e1 e2
  subst e1 e2
  refine ⟨by rw [flatP_len _ (fun t ht => hl t (List.mem_of_mem_take ht)), List.length_take]; congr 1; omega, fun _ => ⟨off, rfl, h1, fun j u hu => h2 j u ?_⟩⟩
  rw [flatP_take_drop T i, List.getElem?_append_left (List.getElem?_eq_some_iff.1 hu).1]
  exact hu
theorem readsDrop {w : World} {g off n k i : Nat} {T : List (PK × List Value)} (h : ownsO w 40 87 (.slice (some ⟨g, off, none⟩) n k) n (flatP T)) (hl : ∀ t ∈ T, t.2.length = 87) (hn : T.length = n) (hi : i ≤ n) (hn0 : 0 < n) (A : Option Addr) (hA : i < n → A = some ⟨g, off + i * 87, none⟩) : reads w A g (n - i) 87 (flatP (T.drop i)) := by
  obtain ⟨g', off', e, h1, _, h2⟩ := h.cell hn0
  injection e with e
  injection e with e1 e2
  subst e1 e2
  refine ⟨by rw [flatP_len _ (fun t ht => hl t (List.mem_of_mem_drop ht)), List.length_drop, hn], fun h0 => ⟨off + i * 87, hA (by omega), h1, fun j u hu => ?_⟩⟩
  rw [Nat.add_assoc]
  refine h2 _ u ?_
  have ht : (flatP (T.take i)).length = i * 87 := by rw [flatP_len _ (fun t ht => hl t (List.mem_of_mem_take ht)), List.length_take]; congr 1; omega
  rw [flatP_take_drop T i, List.getElem?_append_right (by omega), ht, Nat.add_sub_cancel_left]
  exact hu
theorem flat_ones {w : World} {F : List Nat} {T : List (PK × List Value)} (h : ∀ t ∈ T, itemV w F t) : ∀ u ∈ flatP T, u.oneCell' = true := by
  induction T with
  | nil => simp [flatP]
  | cons t r ih =>
    intro u hu
    rcases List.mem_append.1 (show u ∈ t.2 ++ flatP r from hu) with hu | hu
    · exact (h t (by simp)).one u hu
    · exact ih (fun x hx => h x (by simp [hx])) u hu
def takePostM (p : Nat) (T : List (PK × List Value)) (F : List Nat) (c i : Nat) (pk : PK) (w : World) (e : Ending) (w' : World) : Prop :=
  ∃ v' X G, e = .returned (.tuple #[.agg (X : List Value).toArray, .int .i64 0]) ∧ itemV w' G (pk, X) ∧ newIn w w' G ∧ isM w' p v' (T.eraseIdx i) F c ∧ keepBut [p] w w' ∧ ∀ x ∈ homes v', w.heap.size ≤ x
theorem takeEndM {w w1 w2 w3 w4 w5 : World} {p c i b n : Nat} {v v4 v5 : Value} {T : List (PK × List Value)} {F G : List Nat} {X2 : List Value} {pk : PK} {Z : List Value} (h : isM w p v T F c) (hb : w.heap.size = b)
    (k1 : keepBut [] w w1) (r1 : rowAt w1 b 40 Z.toArray) (hZ : X2.length = Z.length) (i2 : itemV w2 G (pk, X2)) (n2 : newIn w1 w2 G) (k2 : keepBut [] w1 w2) (k3 : keepBut [] w2 w3) (k4 : keepBut [] w3 w4) (n4 : ∀ x ∈ homes v4, w3.heap.size ≤ x)
    (hn : n = (T.eraseIdx i).length) (o5 : ownsO w5 40 87 v5 n (flatP (T.take i) ++ flatP (T.drop (i + 1)))) (k5 : keepBut (homes v4) w4 w5) (n5 : ∀ x ∈ homes v5, x ∈ homes v4 ∨ w4.heap.size ≤ x) :
    takePostM p T F c i pk w (.returned (.tuple #[.agg X2.toArray, .int .i64 0])) ((w5.setCell ⟨p, 0, none⟩ v5).setCells b 0 X2) ∧ rowAt ((w5.setCell ⟨p, 0, none⟩ v5).setCells b 0 X2) b 40 X2.toArray := by
  have s1 := k1.size
  have s2 := k2.size
  have s3 := k3.size
  have s4 := k4.size
  have s5 := k5.size
  have hp := h.row.lt
  have hb1 := r1.lt
  have k13 := (k1.then k2 (by simp)).then k3 (by simp)
  have k14 := k13.then k4 (by simp)
  have h4 := h.over k14
  have hp4 : p ∉ homes v4 := fun hm => by have := n4 p hm; omega
  have hb4 : b ∉ homes v4 := fun hm => by have := n4 b hm; omega
  have n5' : ∀ x ∈ homes v5, w3.heap.size ≤ x := fun x hx => by rcases n5 x hx with h1 | h1; exact n4 x h1; omega
  have r5 := k5.row h4.row hp4
  have rb5 := k5.row ((((k2.then k3 (by simp)).then k4 (by simp)).row r1 (by simp))) hb4
  have ks : keepBut [p] w5 (w5.setCell ⟨p, 0, none⟩ v5) := (keepBut.refl [p] w5).setCell ⟨p, 0, none⟩ v5 (.inl (by simp))
  have kl : keepBut [b] (w5.setCell ⟨p, 0, none⟩ v5) ((w5.setCell ⟨p, 0, none⟩ v5).setCells b 0 X2) := (keepBut.refl [b] _).setL (.inl (by simp))
  have r6 := r5.set 0 v5
  have r7 := kl.row r6 (by simp; omega)
  have rb6 := ks.row rb5 (by simp; omega)
  have rb7 := rb6.setL (vs := X2) (o := 0)
  rw [putL_all (by rw [List.size_toArray, hZ])] at rb7
  have k57 : keepBut [p, b] w5 ((w5.setCell ⟨p, 0, none⟩ v5).setCells b 0 X2) := (ks.more (by simp)).then (kl.more (by simp)) (fun x hx => .inl hx)
  have k47 : keepBut (p :: b :: homes v4) w4 ((w5.setCell ⟨p, 0, none⟩ v5).setCells b 0 X2) := (k5.more (fun x hx => by simp [hx])).then (k57.more (by simp)) (fun x hx => .inl hx)
  have k37 : keepBut (p :: b :: homes v4) w3 ((w5.setCell ⟨p, 0, none⟩ v5).setCells b 0 X2) := (k4.more (by simp)).then k47 (fun x hx => .inl hx)
  have k27 : keepBut (p :: b :: homes v4) w2 ((w5.setCell ⟨p, 0, none⟩ v5).setCells b 0 X2) := (k3.more (by simp)).then k37 (fun x hx => .inl hx)
  have k17 := k37.size
  have hfar : ∀ y, y < w.heap.size → y ≠ p → y ∉ p :: b :: homes v4 := fun y hy hne hm => by
    simp only [List.mem_cons] at hm
    rcases hm with rfl | rfl | hm
    · exact hne rfl
    · omega
    · have := n4 y hm; omega
  rw [← flatP_append, ← List.eraseIdx_eq_take_drop_succ, hn] at o5
  refine ⟨⟨v5, X2, G, rfl, i2.keep k27 (fun y hy hm => ?_), fun y hy => ⟨by have := (n2 y hy).1; omega, by have := (n2 y hy).2; omega⟩, ⟨by simpa using r7, o5.keep k57 (fun x hx hm => ?_), fun t ht => ?_, fun y hy => ⟨?_, (h.far y hy).2.1, fun hm => ?_⟩⟩, ?_, fun x hx => by have := n5' x hx; omega⟩, rb7⟩
  · have g := n2 y hy
    simp only [List.mem_cons] at hm
    rcases hm with rfl | rfl | hm
    · omega
    · omega
    · have := n4 y hm; omega
  · have := n5' x hx
    simp only [List.mem_cons, List.not_mem_nil, or_false] at hm
    rcases hm with rfl | rfl <;> omega
  · exact ((h.its t (List.mem_of_mem_eraseIdx ht)).keep k13 (by simp)).keep k37 (fun y hy => hfar y (h.far y hy).1 (h.far y hy).2.1)
  · have := (h.far y hy).1; omega
  · have := n5' y hm; have := (h.far y hy).1; omega
  · exact (k13.more (by simp)).then k37 (fun x hx => by
      simp only [List.mem_cons] at hx ⊢
      rcases hx with rfl | rfl | hx
      · exact .inl (.inl rfl)
      · right; omega
      · right; have := n4 x hx; omega)
set_option maxHeartbeats 8000000 in
theorem takeM_any (p : Nat) (v : Value) (T : List (PK × List Value)) (F : List Nat) (c : Nat) (i : Nat) (t : PK × List Value) (w : World) (h : isM w p v T F c) (ht : T[i]? = some t) (hf : t.1.fits) (hk : T.length ≤ 100000) :
    Calls Tryd.prog 30 #[.pointer (some ⟨p, 0, none⟩), .int .i64 i] w (takePostM p T F c i t.1 w) := by
  have hi : i < T.length := (List.getElem?_eq_some_iff.1 ht).1
  obtain ⟨Z, hZl, hZ, hZb, hZi⟩ := zeroP
  have HZ := Lib.hid (And.intro hZ hZl)
  have k1 := (keepBut.refl [] w).alloc (.cells Z.toArray 40)
  have r1 := rowAt.new w 40 Z.toArray
  obtain ⟨w1, hw1⟩ : ∃ w1, w.alloc (.cells Z.toArray 40) = w1 := ⟨_, rfl⟩
  rw [hw1] at k1 r1
  have h1 := h.over k1
  have HA := Lib.hid (atM_any p v T F c i t w1 h1 ht hf)
  obtain ⟨A, k, rfl, hk1, hk2⟩ := h.form
  obtain ⟨g, off, rfl, hg, hh, _⟩ := h1.item ht
  obtain ⟨n, hn⟩ : ∃ n, T.length = n := ⟨_, rfl⟩
  rw [hn] at hk1 hh h1 hi hk h
  have HN := Lib.hid (And.intro h1 (And.intro hn (And.intro hk1 (And.intro hk2 (And.intro hi (And.intro hk h))))))
  have HW := Lib.hid hw1
  have R1 := Lib.hid r1
  have K1 := Lib.hid k1
  have hi0 : (0 : Int) ≤ (i : Int) := by omega
  have hi1 : (i : Int) < (n : Int) := by omega
  have hik : (i : Int) ≤ (k : Int) := by omega
  have hwr : IntKind.i64.wrap ((i : Int) + 1) = (i : Int) + 1 := by rw [IntKind.wrap_i64]; omega
  obtain ⟨iP, zP, hiP, hsP, hbP, hzP, hcP⟩ := info_P
  have HIP := Lib.hid (And.intro hiP (And.intro hsP (And.intro hbP (And.intro hzP hcP))))
  clear hiP hsP hbP hzP hcP hZl hZ hZb hZi hw1 k1 r1 hh h1 ht h hk hk1 hk2 hi hn
  go_enter Tryd.func30, Tryd.ntmps30
  go_upto_region 2 with (first
    | (with_reducible refine wpList_alloc_to _ _ rfl 40 rfl _ HZ.out.1 HW.out ?_)
    | (go_at_call 33; refine HA.out.mono ?_; rintro e w2 ⟨X2, G, rfl, i2, n2, k2⟩; have Q2 := Lib.hid (And.intro i2 (And.intro n2 k2)); have ST := Lib.hid (storedP (w := w2) (t := 40) (Z := Z) (X := X2) (by rw [i2.len]; exact HZ.out.2.symm)); obtain ⟨q, hq⟩ : ∃ q, w2.heap.size = q := ⟨_, rfl⟩; have HTH := Lib.hid (there_newP (w := w2) (t := 40) (Z := Z) (X := X2) (by rw [i2.len]; exact HZ.out.2.symm)); rw [hq] at ST HTH; have HQ := Lib.hid hq; clear i2 n2 k2)
    | (with_reducible refine wpList_alloc_to _ _ rfl 40 rfl _ HZ.out.1 rfl ?_)
    | (simp only [hq]; refine wpList_store_mid rfl 40 (.tmp 6) (.tmp 13) rfl q 0 X2.toArray rfl rfl HTH.out (by rw [List.size_toArray, Q2.out.1.len]; exact info_pk) (all_oneCell_toArray Q2.out.1.one) ?_))
  try simp only [hq]
  obtain ⟨w3, hw3⟩ : ∃ w3, (w2.alloc (.cells Z.toArray 40)).setCells q 0 X2 = w3 := ⟨_, rfl⟩
  rw [hw3] at ST ⊢
  have H3 := Lib.hid ((HN.out.1.over Q2.out.2.2).over ST.out.2)
  have H3O := Lib.hid (show ownsO w3 40 87 (.slice (some ⟨g, off, none⟩) n k) n (flatP T) from (by have h := H3.out.own; rw [HN.out.2.1] at h; exact h))
  have x3 : w3.cell? ⟨p, 0, none⟩ = some (.slice (some ⟨g, off, none⟩) n k) := H3.out.row.cell 0
  clear hw3 hq HA
  go_upto_region 6 with (at_builtin; refine wp_appendZ _ rfl _ _ 44 rfl 40 iP zP 87 iP.bytes Tryd.underlying44 HIP.out.1 HIP.out.2.2.2.1 HIP.out.2.1 rfl HIP.out.2.2.2.2 (by decide) (.slice none 0 0) 0 [] rfl (ownsO.nil _ _ _) (some ⟨g, off, none⟩) g i k (flatP (T.take i)) (by simp [Act.eval]) (readsTake H3O.out H3.out.lens HN.out.2.1 (by have := HN.out.2.2.2.2.1; omega) (by have := HN.out.2.2.2.2.1; omega)) (flat_ones (fun t ht => H3.out.its t (List.mem_of_mem_take ht))) (by have h1 := HIP.out.2.2.1; have h2 := HN.out.2.2.2.2; exact Nat.le_trans (Nat.mul_le_mul (show 0 + i ≤ 100000 by omega) h1) (by decide)) (by have h2 := HN.out.2.2.2.2; simp only [maxLen]; omega) ?_; intro A4 c4 w4 o4 k4 n4)
  simp only [Nat.zero_add, List.nil_append, homes_none] at o4 k4 n4
  have H4 := Lib.hid (And.intro o4 (And.intro (k4 : keepBut [] w3 w4) (fun x hx => (n4 x hx).resolve_left (by simp))))
  have H4N := Lib.hid (H3.out.over H4.out.2.1)
  have x4 : w4.cell? ⟨p, 0, none⟩ = some (.slice (some ⟨g, off, none⟩) n k) := H4N.out.row.cell 0
  have f4 : w4.frozen? ⟨p, 0, none⟩ = false := H4N.out.row.free 0
  clear o4 k4 n4 x3
  have hnn : i + (n - (i + 1)) = (T.eraseIdx i).length := by
    have h1 := HN.out.2.1
    have h2 := HN.out.2.2.2.2.1
    rw [List.length_eraseIdx, if_pos (by omega)]; omega
  have HNN := Lib.hid hnn
  clear hnn
  have HX := Lib.hid (show (Tryd.prog.info? 40).map (·.size) = some X2.length ∧ X2.length = Z.length by rw [Q2.out.1.len]; exact ⟨info_pk, HZ.out.2.symm⟩)
  by_cases hkk : k = i + 1
  all_goals
    go_upto_region 7 with (at_builtin; refine wp_appendZ _ rfl _ _ 44 rfl 40 iP zP 87 iP.bytes Tryd.underlying44 HIP.out.1 HIP.out.2.2.2.1 HIP.out.2.1 rfl HIP.out.2.2.2.2 (by decide) (.slice A4 i c4) i (flatP (T.take i)) rfl H4.out.1 _ g (n - (i + 1)) _ (flatP (T.drop (i + 1))) rfl (readsDrop (by have h := H4N.out.own; rw [HN.out.2.1] at h; exact h) H4N.out.lens HN.out.2.1 (by have := HN.out.2.2.2.2.1; omega) (by have := HN.out.2.2.2.2.1; omega) _ (by first | exact fun _ => rfl | (intro hh; have := HN.out.2.2.1; omega))) (flat_ones (fun t ht => H4N.out.its t (List.mem_of_mem_drop ht))) (by have h1 := HIP.out.2.2.1; have h2 := HN.out.2.2.2.2; exact Nat.le_trans (Nat.mul_le_mul (show i + (n - (i + 1)) ≤ 100000 by omega) h1) (by decide)) (by have h2 := HN.out.2.2.2.2; simp only [maxLen]; omega) ?_; intro A5 c5 w5 o5 k5 n5; have hp4 : p ∉ homes (.slice A4 i c4) := (fun hm => by have e1 := H4.out.2.2 p hm; have e2 := H3.out.row.lt; omega); have r5 := k5.row H4N.out.row hp4; have x5 : w5.cell? ⟨p, 0, none⟩ = some (.slice (some ⟨g, off, none⟩) n k) := r5.cell 0; have f5 : w5.frozen? ⟨p, 0, none⟩ = false := r5.free 0; have H5 := Lib.hid (And.intro o5 (And.intro k5 (And.intro n5 r5))); clear o5 k5 n5 hp4 r5 x4 f4)
    obtain ⟨w6, hw6⟩ : ∃ w6, w5.setCell ⟨p, 0, none⟩ (.slice A5 (i + (n - (i + 1))) c5) = w6 := ⟨_, rfl⟩
    have HE := Lib.hid (takeEndM HN.out.2.2.2.2.2.2 rfl K1.out R1.out HX.out.2 Q2.out.1 Q2.out.2.1 Q2.out.2.2 ST.out.2 H4.out.2.1 H4.out.2.2 HNN.out H5.out.1 H5.out.2.1 H5.out.2.2.1)
    have R6 := Lib.hid (show rowAt w6 q 40 X2.toArray ∧ w6.there w.heap.size 0 X2.toArray.size from (by
      have e1 := ST.out.1.lt
      have e2 := K1.out.size
      have e3 := Q2.out.2.2.size
      have e4 := HQ.out
      have e5 := R1.out.lt
      have e6 := ST.out.2.size
      have hp := HN.out.2.2.2.2.2.2.row.lt
      have ks : keepBut [p] w5 w6 := by rw [← hw6]; exact (keepBut.refl [p] w5).setCell ⟨p, 0, none⟩ _ (.inl (by simp))
      refine ⟨ks.row (H5.out.2.1.row (H4.out.2.1.row ST.out.1 (by simp)) (fun hm => by have := H4.out.2.2 q hm; omega)) (by simp; omega), ?_⟩
      refine (ks.row (H5.out.2.1.row ((((Q2.out.2.2.then ST.out.2 (by simp)).then H4.out.2.1 (by simp)).row R1.out (by simp))) (fun hm => by have := H4.out.2.2 _ hm; omega)) (by simp; omega)).there ?_
      have := HX.out.2
      simp only [List.size_toArray]; omega))
    rw [hw6] at HE ⊢
    clear hw6
    go_wp2_with (first
      | (refine wpList_load_mid rfl 40 (.tmp 6) rfl q 0 rfl X2 _ R6.out.1.rangeAll Tryd.underlying40 rfl HX.out.1 ?_)
      | (refine wpList_store_mid rfl 40 (.tmp 4) (.tmp 39) rfl w.heap.size 0 X2.toArray rfl rfl R6.out.2 (by rw [List.size_toArray]; exact HX.out.1) (all_oneCell_toArray Q2.out.1.one) ?_))
    refine bodyPost_ret (results_row_tmp rfl _ _ w.heap.size 40 _ (0, 0) _ rfl HE.out.2 Tryd.underlying40 rfl (by rw [List.size_toArray]; exact HX.out.1)) rfl ?_
    exact HE.out.1
end Go.Proofs.YtcnlnkkdcofphaaDoor
end

section
namespace Go.Proofs.YtcnlnkkdcofphaaDoor
open Go.RowKit
set_option linter.unusedVariables false
set_option maxRecDepth 100000
set_option linter.unusedSimpArgs false

set_option maxHeartbeats 4000000 in
theorem takeM_no (p : Nat) (v : Value) (T : List (PK × List Value)) (F : List Nat) (c : Nat) (i : Int) (w : World) (h : isM w p v T F c) (hi : ¬ (0 ≤ i ∧ i < T.length)) :
    Calls Tryd.prog 30 #[.pointer (some ⟨p, 0, none⟩), .int .i64 i] w (nonePost w) := by
  obtain ⟨Z, hZl, hZ, hZb, hZi⟩ := zeroP
  have HZ := Lib.hid (And.intro hZ hZl)
  have k1 := (keepBut.refl [] w).alloc (.cells Z.toArray 40)
  have r1 := rowAt.new w 40 Z.toArray
  obtain ⟨w1, hw1⟩ : ∃ w1, w.alloc (.cells Z.toArray 40) = w1 := ⟨_, rfl⟩
  rw [hw1] at k1 r1
  have HA := Lib.hid (atM_no p v T F c i w1 (h.over k1) hi)
  have HW := Lib.hid hw1
  have R1 := Lib.hid r1
  have K1 := Lib.hid k1
  clear hZl hZ hZb hZi hw1 k1 r1 h hi
  go_enter Tryd.func30, Tryd.ntmps30
  go_wp2_with (first
    | (with_reducible refine wpList_alloc_to _ _ rfl 40 rfl _ HZ.out.1 HW.out ?_)
    | (go_at_call 33; refine HA.out.mono ?_; rintro e w2 ⟨X2, rfl, i2, k2⟩; have Q2 := Lib.hid (And.intro i2 k2); have ST := Lib.hid (storedP (w := w2) (t := 40) (Z := Z) (X := X2) (by rw [i2.len]; exact HZ.out.2.symm)); obtain ⟨q, hq⟩ : ∃ q, w2.heap.size = q := ⟨_, rfl⟩; have HTH := Lib.hid (there_newP (w := w2) (t := 40) (Z := Z) (X := X2) (by rw [i2.len]; exact HZ.out.2.symm)); rw [hq] at ST HTH; obtain ⟨w3, hw3⟩ : ∃ w3, (w2.alloc (.cells Z.toArray 40)).setCells q 0 X2 = w3 := ⟨_, rfl⟩; rw [hw3] at ST; have HW3 := Lib.hid hw3; have RS := Lib.hid (show w3.there w.heap.size 0 X2.toArray.size from ((k2.then ST.out.2 (by simp)).row R1.out (by simp)).there (by have := i2.len; have := HZ.out.2; simp only [List.size_toArray] at *; omega)); clear i2 k2 hw3)
    | (with_reducible refine wpList_alloc_to _ _ rfl 40 rfl _ HZ.out.1 rfl ?_)
    | (simp only [hq]; refine wpList_store_mid rfl 40 (.tmp 6) (.tmp 13) rfl q 0 X2.toArray rfl rfl HTH.out (by rw [List.size_toArray, Q2.out.1.len]; exact info_pk) (all_oneCell_toArray Q2.out.1.one) ?_)
    | (refine wpList_load_mid rfl 40 (.tmp 6) rfl q 0 rfl X2 _ (by simp only [HW3.out]; exact ST.out.1.rangeAll) Tryd.underlying40 rfl (by rw [Q2.out.1.len]; exact info_pk) ?_)
    | (simp only [HW3.out]; refine wpList_store_mid rfl 40 (.tmp 4) (.tmp 17) rfl w.heap.size 0 X2.toArray rfl rfl RS.out (by rw [List.size_toArray, Q2.out.1.len]; exact info_pk) (all_oneCell_toArray Q2.out.1.one) ?_))
  have r3 := ((Q2.out.2.then ST.out.2 (by simp)).row R1.out (by simp)).setL (vs := X2) (o := 0)
  rw [putL_all (by rw [List.size_toArray, Q2.out.1.len, HZ.out.2])] at r3
  have k3 := (keepBut.refl [w.heap.size] w3).setL (vs := X2) (g := w.heap.size) (o := 0) (.inl (by simp))
  refine bodyPost_ret (results_row_tmp rfl _ _ w.heap.size 40 _ (0, 0) _ rfl r3 Tryd.underlying40 rfl (by rw [List.size_toArray, Q2.out.1.len]; exact info_pk)) rfl ?_
  exact ⟨X2, rfl, (Q2.out.1.keep ST.out.2 (by simp)).keep k3 (by simp), ((K1.out.then Q2.out.2 (by simp)).then ST.out.2 (by simp)).then k3 (by simp)⟩
set_option maxHeartbeats 4000000 in
theorem dropM_no (p : Nat) (v : Value) (T : List (PK × List Value)) (F : List Nat) (c : Nat) (i : Int) (w : World) (h : isM w p v T F c) (hi : ¬ (0 ≤ i ∧ i < T.length)) :
    Calls Tryd.prog 31 #[.pointer (some ⟨p, 0, none⟩), .int .i64 i] w fun e w' => e = .returned (.int .i64 9) ∧ keepBut [] w w' := by
  obtain ⟨Z, hZl, hZ, hZb, hZi⟩ := zeroP
  have HZ := Lib.hid (And.intro hZ hZl)
  clear hZl hZ hZb hZi
  go_enter Tryd.func31, Tryd.ntmps31
  go_wp2_with (first
    | (go_at_call 30; refine (takeM_no _ _ _ _ _ _ _ h hi).mono ?_; rintro e w2 ⟨X2, rfl, i2, k2⟩; have Q2 := Lib.hid (And.intro i2 k2); clear i2 k2)
    | (with_reducible refine wpList_alloc_to _ _ rfl 40 rfl _ HZ.out.1 rfl ?_)
    | (refine wpList_store_mid rfl 40 (.tmp 5) (.tmp 11) rfl w2.heap.size 0 X2.toArray rfl rfl (there_newP (by rw [Q2.out.1.len]; exact HZ.out.2.symm)) (by rw [List.size_toArray, Q2.out.1.len]; exact info_pk) (all_oneCell_toArray Q2.out.1.one) ?_))
  go_ret
  exact ⟨rfl, Q2.out.2.then (storedP (by rw [Q2.out.1.len]; exact HZ.out.2.symm)).2 (by simp)⟩
set_option maxHeartbeats 4000000 in
theorem dropM_any (p : Nat) (v : Value) (T : List (PK × List Value)) (F : List Nat) (c : Nat) (i : Nat) (t : PK × List Value) (w : World) (h : isM w p v T F c) (ht : T[i]? = some t) (hf : t.1.fits) (hk : T.length ≤ 100000) :
    Calls Tryd.prog 31 #[.pointer (some ⟨p, 0, none⟩), .int .i64 i] w fun e w' => ∃ v', e = .returned (.int .i64 0) ∧ isM w' p v' (T.eraseIdx i) F c ∧ keepBut [p] w w' ∧ ∀ x ∈ homes v', w.heap.size ≤ x := by
  obtain ⟨Z, hZl, hZ, hZb, hZi⟩ := zeroP
  have HZ := Lib.hid (And.intro hZ hZl)
  have HC := Lib.hid (takeM_any p v T F c i t w h ht hf hk)
  clear hZl hZ hZb hZi h ht hk
  go_enter Tryd.func31, Tryd.ntmps31
  go_wp2_with (first
    | (go_at_call 30; refine HC.out.mono ?_; rintro e w2 ⟨v2, X2, G, rfl, i2, q2⟩; have Q2 := Lib.hid (And.intro i2 q2); clear i2 q2)
    | (with_reducible refine wpList_alloc_to _ _ rfl 40 rfl _ HZ.out.1 rfl ?_)
    | (refine wpList_store_mid rfl 40 (.tmp 5) (.tmp 11) rfl w2.heap.size 0 X2.toArray rfl rfl (there_newP (by rw [Q2.out.1.len]; exact HZ.out.2.symm)) (by rw [List.size_toArray, Q2.out.1.len]; exact info_pk) (all_oneCell_toArray Q2.out.1.one) ?_))
  go_ret
  have hst := storedP (w := w2) (t := 40) (Z := Z) (X := X2) (by rw [Q2.out.1.len]; exact HZ.out.2.symm)
  exact ⟨v2, rfl, Q2.out.2.2.1.over hst.2, Q2.out.2.2.2.1.then hst.2 (by simp), Q2.out.2.2.2.2⟩
def toRelM (w : World) (T : List (PK × List Value)) (who : Int) (v5 v6 : Value) (wx : World) : Prop :=
  ∃ k : Nat, k ≤ T.length ∧ v6 = .int .i64 (k : Int) ∧ keepBut [] w wx ∧ owns wx 3 1 v5 (toK T who k).length ((toK T who k).map (Value.int .i64)) ∧ ∀ x ∈ homes v5, w.heap.size ≤ x
set_option maxHeartbeats 8000000 in
theorem toM_any (p : Nat) (v : Value) (T : List (PK × List Value)) (F : List Nat) (c : Nat) (who : Int) (w : World) (h : isM w p v T F c) (hk : T.length ≤ 100000) :
    Calls Tryd.prog 16 #[.pointer (some ⟨p, 0, none⟩), .int .i64 who] w fun e w' => ∃ u, e = .returned u ∧ owns w' 3 1 u (toK T who T.length).length ((toK T who T.length).map (Value.int .i64)) ∧ (∀ x ∈ homes u, w.heap.size ≤ x) ∧ keepBut [] w w' := by
  obtain ⟨A, k, rfl, hk1, hk2⟩ := h.form
  have HN := Lib.hid h
  have HC := Lib.hid (And.intro hk (And.intro hk1 hk2))
  clear h hk hk1 hk2
  go_enter Tryd.func16, Tryd.ntmps16
  go_upto_region 3 with fail
  go_loopw [5, 6] (fun v5 v6 wx => toRelM w T who v5 v6 wx) (fun _ v6 _ => T.length - (intOf v6).toNat)
  case atStart => exact ⟨0, Nat.zero_le _, rfl, keepBut.refl _ _, owns.nil _ _ _, by simp [homes_none]⟩
  case round =>
    obtain ⟨i, hi, rfl, kk, ho, hh⟩ := hrel
    have hnr := HN.out.over kk
    have x1 : wr.cell? ⟨p, 0, none⟩ = some (.slice A T.length k) := hnr.row.cell 0
    by_cases hlt : i < T.length
    · obtain ⟨t, ht⟩ : ∃ t, T[i]? = some t := ⟨T[i], List.getElem?_eq_getElem hlt⟩
      obtain ⟨g, off, rfl, hg, hg2, hr⟩ := hnr.item ht
      have hi2 : (i : Int) < (T.length : Int) := by omega
      have hi0 : (0 : Int) ≤ (i : Int) := by omega
      have hd : t.2[2]? = some (.int .i64 t.1.dst) := by
        obtain ⟨ev, av, cv, vv, bw, e1, e2⟩ := hnr.its t (List.mem_of_getElem? ht)
        rw [e1]; rfl
      have x2 : wr.cell? ⟨g, off + i * 87 + 2, none⟩ = some (.int .i64 t.1.dst) := hr 2 _ hd
      have HO := Lib.hid (And.intro ho (And.intro hh (And.intro kk ht)))
      have hwr : IntKind.i64.wrap ((i : Int) + 1) = (i : Int) + 1 := by rw [IntKind.wrap_i64]; have := HC.out.1; omega
      have KS : Hid ((toK T who i).length + 1 ≤ 200000) := Lib.hid (by have := toK_len T who i; have := HC.out.1; omega)
      obtain ⟨i0, hi0', hz0, hz1, hz2⟩ := info_parts infoIntc
      clear hnr hg hg2 hr hd ht ho hh kk
      by_cases hd : t.1.dst = who
      · have hq : (t.1.dst == who) = true := by simpa using hd
        have HS := Lib.hid (show toK T who (i + 1) = toK T who i ++ [(i : Int)] by simp [toK, HO.out.2.2.2, hd])
        clear hd
        go_wp2_with (at_builtin; refine wp_append _ rfl _ _ 35 rfl 3 i0 (.int .i64 0) 1 8 Tryd.underlying35 hi0' hz0 hz1 hz2 rfl (by decide) u5 (toK T who i).length _ rfl (HO.out.1.alloc _) (some ⟨wr.heap.size, 0, none⟩) wr.heap.size 1 1 [.int .i64 (i : Int)] (by simp [Act.eval]) (reads_one wr 3 (.int .i64 (i : Int))) (by intro u hu; simp at hu; subst hu; rfl) (by have := KS.out; omega) (by have := KS.out; unfold maxLen; omega) ?_; intro A4 c4 w4 o4 k4 h4)
        go_roundw
        case rel =>
          have s3 := HO.out.2.2.1.size
          refine ⟨i + 1, by omega, by go_num, HO.out.2.2.1.then (((keepBut.refl [] wr).alloc _).more (by simp) |>.then k4 (fun x hx => .inl hx)) (fun x hx => .inr (HO.out.2.1 x hx)), ?_, fun x hx => ?_⟩
          · rw [HS.out]
            simpa using o4
          · rcases h4 x hx with h5 | h5
            · exact HO.out.2.1 x h5
            · rw [World.size_alloc] at h5; omega
        case measure => simp [intOf]; omega
      · have hq : (t.1.dst == who) = false := by simpa using hd
        have HS := Lib.hid (show toK T who (i + 1) = toK T who i by simp [toK, HO.out.2.2.2, hd])
        clear hd
        go_wp2
        go_roundw
        case rel => exact ⟨i + 1, by omega, by go_num, HO.out.2.2.1, by rw [HS.out]; exact HO.out.1, HO.out.2.1⟩
        case measure => simp [intOf]; omega
    · obtain rfl : i = T.length := by omega
      have hlt' : ¬ (T.length : Int) < (T.length : Int) := by omega
      have HO := Lib.hid (And.intro ho (And.intro hh kk))
      clear ho hh kk hnr
      go_wp2
      go_ret
      exact ⟨_, rfl, HO.out⟩
end Go.Proofs.YtcnlnkkdcofphaaDoor
end

section
namespace Go.Proofs.YtcnlnkkdcofphaaDoor
open Go.RowKit
set_option linter.unusedVariables false
set_option maxRecDepth 100000
set_option linter.unusedSimpArgs false

/-- the blocks of both nets -/
def allB (p m : Nat) (vN vM : Value) (FN FM : List Nat) (x : Nat) : Prop := x ∈ p :: homes vN ∨ x ∈ m :: homes vM ∨ x ∈ FN ∨ x ∈ FM
/-- two nets apart, made since w0, apart from blocks N -/
structure bN0 (N : List Nat) (w0 w : World) (p m : Nat) (vN : Value) (TN : List (PK × List Value)) (FN : List Nat) (cN : Nat) (vM : Value) (TM : List (PK × List Value)) (FM : List Nat) (cM : Nat) : Prop where
  n : isN w p vN TN FN cN
  r : isM w m vM TM FM cM
  d1 : ∀ x ∈ p :: homes vN, x ∉ m :: homes vM
  d2 : ∀ y ∈ FM, y ∉ p :: homes vN
  d3 : ∀ y ∈ FN, y ∉ m :: homes vM
  kept : keepBut [] w0 w
  lo : ∀ x, allB p m vN vM FN FM x → w0.heap.size ≤ x
  far : ∀ x ∈ N, w0.heap.size ≤ x ∧ x < w.heap.size ∧ ¬ allB p m vN vM FN FM x
section
variable {N : List Nat} {w0 w w1 : World} {p m : Nat} {vN vM v' : Value} {TN TM T' : List (PK × List Value)} {FN FM F' : List Nat} {cN cM c' : Nat}
theorem bN0.lt (h : bN0 N w0 w p m vN TN FN cN vM TM FM cM) {x : Nat} (hx : allB p m vN vM FN FM x) : x < w.heap.size := by
  rcases hx with hx | hx | hx | hx
  · rcases List.mem_cons.1 hx with rfl | hx
    · exact h.n.row.lt
    · exact h.n.own.lt x hx
  · rcases List.mem_cons.1 hx with rfl | hx
    · exact h.r.row.lt
    · exact h.r.own.lt x hx
  · exact (h.n.far x hx).1
  · exact (h.r.far x hx).1
theorem bN0.net (h : bN0 N w0 w p m vN TN FN cN vM TM FM cM) (n' : isN w1 p v' T' F' c') (k : keepBut (p :: homes vN) w w1) (hh : ∀ x ∈ homes v', x ∈ homes vN ∨ w.heap.size ≤ x) (hF : ∀ y ∈ F', y ∈ FN ∨ w.heap.size ≤ y) : bN0 N w0 w1 p m v' T' F' c' vM TM FM cM := by
  have s := k.size
  have s0 := h.kept.size
  have hp : ∀ x ∈ p :: homes v', x ∈ p :: homes vN ∨ w.heap.size ≤ x := fun x hx => by
    rcases List.mem_cons.1 hx with rfl | hx
    · exact .inl (by simp)
    · exact (hh x hx).imp (fun h => by simp [h]) id
  have hm : ∀ x ∈ m :: homes vM, x < w.heap.size := fun x hx => h.lt (.inr (.inl hx))
  have hf : ∀ x ∈ FM, x < w.heap.size := fun x hx => h.lt (.inr (.inr (.inr hx)))
  refine ⟨n', h.r.keep k (fun hx => ?_) (fun x hx hxp => ?_) (fun y hy => h.d2 y hy), fun x hx hxm => ?_, fun y hy hxp => ?_, fun y hy hym => ?_, h.kept.then k (fun x hx => .inr (h.lo x (.inl hx))), fun x hx => ?_, fun x hx => ⟨(h.far x hx).1, Nat.lt_of_lt_of_le (h.far x hx).2.1 s, fun ha => ?_⟩⟩
  · exact h.d1 _ hx (by simp)
  · exact h.d1 x hxp (by simp [hx])
  · rcases hp x hx with h1 | h1
    · exact h.d1 x h1 hxm
    · have := hm x hxm; omega
  · rcases hp y hxp with h1 | h1
    · exact h.d2 y hy h1
    · have := hf y hy; omega
  · rcases hF y hy with h1 | h1
    · exact h.d3 y h1 hym
    · have := hm y hym; omega
  · rcases hx with hx | hx | hx | hx
    · rcases hp x hx with h1 | h1
      · exact h.lo x (.inl h1)
      · omega
    · exact h.lo x (.inr (.inl hx))
    · rcases hF x hx with h1 | h1
      · exact h.lo x (.inr (.inr (.inl h1)))
      · omega
    · exact h.lo x (.inr (.inr (.inr hx)))
  · have f := h.far x hx
    rcases ha with ha | ha | ha | ha
    · rcases hp x ha with h1 | h1
      · exact f.2.2 (.inl h1)
      · omega
    · exact f.2.2 (.inr (.inl ha))
    · rcases hF x ha with h1 | h1
      · exact f.2.2 (.inr (.inr (.inl h1)))
      · omega
    · exact f.2.2 (.inr (.inr (.inr ha)))
theorem bN0.ref (h : bN0 N w0 w p m vN TN FN cN vM TM FM cM) (r' : isM w1 m v' T' F' c') (k : keepBut (m :: homes vM) w w1) (hh : ∀ x ∈ homes v', x ∈ homes vM ∨ w.heap.size ≤ x) (hF : ∀ y ∈ F', y ∈ FM ∨ w.heap.size ≤ y) : bN0 N w0 w1 p m vN TN FN cN v' T' F' c' := by
  have s := k.size
  have s0 := h.kept.size
  have hp : ∀ x ∈ m :: homes v', x ∈ m :: homes vM ∨ w.heap.size ≤ x := fun x hx => by
    rcases List.mem_cons.1 hx with rfl | hx
    · exact .inl (by simp)
    · exact (hh x hx).imp (fun h => by simp [h]) id
  have hm : ∀ x ∈ p :: homes vN, x < w.heap.size := fun x hx => h.lt (.inl hx)
  have hf : ∀ x ∈ FN, x < w.heap.size := fun x hx => h.lt (.inr (.inr (.inl hx)))
  refine ⟨h.n.keep k (fun hx => ?_) (fun x hx hxp => ?_) (fun y hy => h.d3 y hy), r', fun x hx hxm => ?_, fun y hy hym => ?_, fun y hy hxp => ?_, h.kept.then k (fun x hx => .inr (h.lo x (.inr (.inl hx)))), fun x hx => ?_, fun x hx => ⟨(h.far x hx).1, Nat.lt_of_lt_of_le (h.far x hx).2.1 s, fun ha => ?_⟩⟩
  · exact h.d1 _ (by simp) hx
  · exact h.d1 x (by simp [hx]) hxp
  · rcases hp x hxm with h1 | h1
    · exact h.d1 x hx h1
    · have := hm x hx; omega
  · rcases hF y hy with h1 | h1
    · exact h.d2 y h1 hym
    · have := hm y hym; omega
  · rcases hp y hxp with h1 | h1
    · exact h.d3 y hy h1
    · have := hf y hy; omega
  · rcases hx with hx | hx | hx | hx
    · exact h.lo x (.inl hx)
    · rcases hp x hx with h1 | h1
      · exact h.lo x (.inr (.inl h1))
      · omega
    · exact h.lo x (.inr (.inr (.inl hx)))
    · rcases hF x hx with h1 | h1
      · exact h.lo x (.inr (.inr (.inr h1)))
      · omega
  · have f := h.far x hx
    rcases ha with ha | ha | ha | ha
    · exact f.2.2 (.inl ha)
    · rcases hp x ha with h1 | h1
      · exact f.2.2 (.inr (.inl h1))
      · omega
    · exact f.2.2 (.inr (.inr (.inl ha)))
    · rcases hF x ha with h1 | h1
      · exact f.2.2 (.inr (.inr (.inr h1)))
      · omega
theorem bN0.keep {S : List Nat} (h : bN0 N w0 w p m vN TN FN cN vM TM FM cM) (k : keepBut S w w1) (hS : ∀ x ∈ S, x ∈ N) : bN0 N w0 w1 p m vN TN FN cN vM TM FM cM := by
  have out : ∀ x, allB p m vN vM FN FM x → x ∉ S := fun x hx hm => (h.far x (hS x hm)).2.2 hx
  refine ⟨h.n.keep k (out p (.inl (by simp))) (fun x hx => out x (.inl (by simp [hx]))) (fun y hy => out y (.inr (.inr (.inl hy)))), h.r.keep k (out m (.inr (.inl (by simp)))) (fun x hx => out x (.inr (.inl (by simp [hx])))) (fun y hy => out y (.inr (.inr (.inr hy)))), h.d1, h.d2, h.d3, h.kept.then k (fun x hx => .inr (h.far x (hS x hx)).1), h.lo, fun x hx => ⟨(h.far x hx).1, Nat.lt_of_lt_of_le (h.far x hx).2.1 k.size, (h.far x hx).2.2⟩⟩
theorem bN0.over (h : bN0 N w0 w p m vN TN FN cN vM TM FM cM) (k : keepBut [] w w1) : bN0 N w0 w1 p m vN TN FN cN vM TM FM cM := h.keep k (by simp)
theorem bN0.also {G : List Nat} (h : bN0 N w0 w p m vN TN FN cN vM TM FM cM) (k : keepBut [] w w1) (hG : newIn w w1 G) : bN0 (N ++ G) w0 w1 p m vN TN FN cN vM TM FM cM := by
  have h1 := h.over k
  refine ⟨h1.n, h1.r, h1.d1, h1.d2, h1.d3, h1.kept, h1.lo, fun x hx => ?_⟩
  rcases List.mem_append.1 hx with hx | hx
  · exact h1.far x hx
  · have g := hG x hx
    have s := h.kept.size
    exact ⟨by omega, g.2, fun ha => by have := h.lt ha; omega⟩
theorem bN0.less {N' : List Nat} (h : bN0 N w0 w p m vN TN FN cN vM TM FM cM) (hN : ∀ x ∈ N', x ∈ N) : bN0 N' w0 w p m vN TN FN cN vM TM FM cM :=
  ⟨h.n, h.r, h.d1, h.d2, h.d3, h.kept, h.lo, fun x hx => h.far x (hN x hx)⟩
end
/-- both nets hold the packets L; c were ever put -/
structure nets (N : List Nat) (w0 w : World) (p m : Nat) (L : List PK) (c : Nat) : Prop where
  is : ∃ vN TN FN vM TM FM, bN0 N w0 w p m vN TN FN c vM TM FM c ∧ TN.map (·.1) = L ∧ TM.map (·.1) = L
  ok : ∀ k ∈ L, k.ok = true
theorem nets.over {N : List Nat} {w0 w w1 : World} {p m : Nat} {L : List PK} {c : Nat} (h : nets N w0 w p m L c) (k : keepBut [] w w1) : nets N w0 w1 p m L c := by
  obtain ⟨vN, TN, FN, vM, TM, FM, h1, h2⟩ := h.is
  exact ⟨⟨vN, TN, FN, vM, TM, FM, h1.over k, h2⟩, h.ok⟩
theorem nets.keep {N S : List Nat} {w0 w w1 : World} {p m : Nat} {L : List PK} {c : Nat} (h : nets N w0 w p m L c) (k : keepBut S w w1) (hS : ∀ x ∈ S, x ∈ N) : nets N w0 w1 p m L c := by
  obtain ⟨vN, TN, FN, vM, TM, FM, h1, h2⟩ := h.is
  exact ⟨⟨vN, TN, FN, vM, TM, FM, h1.keep k hS, h2⟩, h.ok⟩
theorem nets.also {N G : List Nat} {w0 w w1 : World} {p m : Nat} {L : List PK} {c : Nat} (h : nets N w0 w p m L c) (k : keepBut [] w w1) (hG : newIn w w1 G) : nets (N ++ G) w0 w1 p m L c := by
  obtain ⟨vN, TN, FN, vM, TM, FM, h1, h2⟩ := h.is
  exact ⟨⟨vN, TN, FN, vM, TM, FM, h1.also k hG, h2⟩, h.ok⟩
theorem nets.less {N N' : List Nat} {w0 w : World} {p m : Nat} {L : List PK} {c : Nat} (h : nets N w0 w p m L c) (hN : ∀ x ∈ N', x ∈ N) : nets N' w0 w p m L c := by
  obtain ⟨vN, TN, FN, vM, TM, FM, h1, h2⟩ := h.is
  exact ⟨⟨vN, TN, FN, vM, TM, FM, h1.less hN, h2⟩, h.ok⟩
theorem nets.kept {N : List Nat} {w0 w : World} {p m : Nat} {L : List PK} {c : Nat} (h : nets N w0 w p m L c) : keepBut [] w0 w := by
  obtain ⟨vN, TN, FN, vM, TM, FM, h1, h2⟩ := h.is
  exact h1.kept
theorem map_at {T : List (PK × List Value)} {L : List PK} (h : T.map (·.1) = L) {i : Nat} {k : PK} (hk : L[i]? = some k) : ∃ t, T[i]? = some t ∧ t.1 = k := by
  rw [← h, List.getElem?_map] at hk
  cases ht : T[i]? with
  | none => rw [ht] at hk; cases hk
  | some t => rw [ht] at hk; exact ⟨t, rfl, by simpa using hk⟩
theorem map_len {T : List (PK × List Value)} {L : List PK} (h : T.map (·.1) = L) : T.length = L.length := by rw [← h, List.length_map]
theorem map_erase {T : List (PK × List Value)} {L : List PK} (h : T.map (·.1) = L) (i : Nat) : (T.eraseIdx i).map (·.1) = L.eraseIdx i := by
  rw [← h, List.eraseIdx_eq_take_drop_succ, List.eraseIdx_eq_take_drop_succ, List.map_append, List.map_take, List.map_drop]
theorem map_snoc {T : List (PK × List Value)} {L : List PK} (h : T.map (·.1) = L) (k : PK) (X : List Value) : (T ++ [(k, X)]).map (·.1) = L ++ [k] := by
  rw [List.map_append, h]; rfl

/-- a slice of n numbers, in blocks of G, made since w0: their cells are there -/
def turnsI (k : IntKind) (w0 w : World) (A : Option Addr) (n : Nat) (G : List Nat) : Prop :=
  0 < n → ∃ g o, A = some ⟨g, o, none⟩ ∧ g ∈ G ∧ w0.heap.size ≤ g ∧ g < w.heap.size ∧ ∀ j, j < n → ∃ z, w.cell? ⟨g, o + j, none⟩ = some (.int k z)
theorem intsV.turns {w0 w : World} {G : List Nat} {v : Value} {l : List Int} (h : intsV w G v l) (hn : newIn w0 w G) : ∃ A c, v = .slice A l.length c ∧ l.length ≤ c ∧ c ≤ maxLen ∧ turnsI .i64 w0 w A l.length G := by
  obtain ⟨A, c, g, rfl, h2, h3, h5, h6⟩ := h
  refine ⟨A, c, rfl, h2, h3, fun hl => ?_⟩
  obtain ⟨o, rfl, hg, hc⟩ := h5.2 hl
  have hgG := h6 (List.length_pos_iff.1 hl)
  refine ⟨g, o, rfl, hgG, (hn g hgG).1, hg, fun j hj => ⟨l[j], hc j _ (by simp [List.getElem?_eq_getElem hj])⟩⟩
theorem bytesV.turns {w0 w : World} {G : List Nat} {v : Value} {l : List UInt8} (h : bytesV w G v l) (hn : newIn w0 w G) : ∃ A c, v = .slice A l.length c ∧ l.length ≤ c ∧ c ≤ maxLen ∧ turnsI .u8 w0 w A l.length G := by
  obtain ⟨A, c, g, rfl, h2, h3, h5, h6⟩ := h
  refine ⟨A, c, rfl, h2, h3, fun hl => ?_⟩
  obtain ⟨o, rfl, hg, hc⟩ := h5 (List.length_pos_iff.1 hl)
  have hgG := h6 (List.length_pos_iff.1 hl)
  exact ⟨g, o, rfl, hgG, (hn g hgG).1, hg, fun j hj => ⟨(l[j].toNat : Int), hc j _ (by simp [List.getElem?_eq_getElem hj])⟩⟩
theorem turnsI.keep {k : IntKind} {S : List Nat} {w0 w w' : World} {A : Option Addr} {n : Nat} {G : List Nat} (h : turnsI k w0 w A n G) (hk : keepBut S w w') (hS : ∀ y ∈ G, y ∉ S) : turnsI k w0 w' A n G := fun hn => by
  obtain ⟨g, o, h1, h2, h3, h4, h5⟩ := h hn
  refine ⟨g, o, h1, h2, h3, Nat.lt_of_lt_of_le h4 hk.size, fun j hj => ?_⟩
  obtain ⟨z, hz⟩ := h5 j hj
  exact ⟨z, (hk.cell (p := ⟨g, o + j, none⟩) h4 (hS g h2)).trans hz⟩
theorem turnsI.set {k : IntKind} {w0 w : World} {n : Nat} {G : List Nat} {g o i : Nat} {u : Int} (h : turnsI k w0 w (some ⟨g, o, none⟩) n G) (hi : i < n) : turnsI k w0 (w.setCell ⟨g, o + i, none⟩ (.int k u)) (some ⟨g, o, none⟩) n G := fun hn => by
  obtain ⟨g', o', h1, h2, h3, h4, h5⟩ := h hn
  injection h1 with h1
  injection h1 with h1a h1b
  subst h1a h1b
  refine ⟨g, o, rfl, h2, h3, by simpa using h4, fun j hj => ?_⟩
  by_cases hj2 : j = i
  · subst hj2
    obtain ⟨z, hz⟩ := h5 j hj
    exact ⟨u, World.cell?_setCell_same w _ _ hz⟩
  · obtain ⟨z, hz⟩ := h5 j hj
    exact ⟨z, (by rw [World.cell?_setCell_other w _ _ _ (by intro e; injection e with _ e2 _; omega)]; exact hz)⟩
theorem turnsI.drew {k : IntKind} {w0 w : World} {A : Option Addr} {n : Nat} {G : List Nat} (h : turnsI k w0 w A n G) : turnsI k w0 w.drew A n G := h.keep ((keepBut.refl [] w).drew) (by simp)

/-! the law's calls -/
structure ND where
  kind : Int
  n : Int
  raw : Bool
  p : PK
def ndL (d : ND) (X : List Value) : List Value := .int .i64 d.kind :: .int .i64 d.n :: .bool d.raw :: X
theorem ndL_len {d : ND} {X : List Value} (h : X.length = 87) : (ndL d X).length = 90 := by simp [ndL, h]
structure ndV (w : World) (F : List Nat) (d : ND) (X : List Value) : Prop where
  k : i64P d.kind
  i : i64P d.n
  v : itemV w F (d.p, X)
  f : d.p.fits
  e1 : i64P d.p.frm
  e2 : i64P d.p.dst
theorem ndV.keep {S F : List Nat} {w w' : World} {d : ND} {X : List Value} (h : ndV w F d X) (hk : keepBut S w w') (hS : ∀ y ∈ F, y ∉ S) : ndV w' F d X := ⟨h.k, h.i, h.v.keep hk hS, h.f, h.e1, h.e2⟩
theorem ndV.over {F : List Nat} {w w' : World} {d : ND} {X : List Value} (h : ndV w F d X) (hk : keepBut [] w w') : ndV w' F d X := h.keep hk (by simp)
theorem info_nd : (Tryd.prog.info? 42).map (·.size) = some 90 := by kernel_rfl
end Go.Proofs.YtcnlnkkdcofphaaDoor
end
