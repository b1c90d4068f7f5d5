/-
  VIEW, 5: the last step; Add.
-/
import Derived.Test.YtjipokilidhnoaaView4
namespace Go.Proofs.Ytjipokilidhnoaa
open Go.RowKit
set_option linter.unusedVariables false
set_option maxRecDepth 100000

def lastOf (l : List VR) : Int := match l.getLast? with | none => 0 | some r => r.step
/-- row i of a view, as it lies there -/
theorem isV.at {w : World} {p : Nat} {F : List Nat} {l : List VR} (h : isV w p F l) {i : Nat} {r : VR} (hi : l[i]? = some r) :
    ∃ g c A n C, w.cell? ⟨p, 1, none⟩ = some (.slice (some ⟨g, 0, none⟩) l.length c) ∧ l.length ≤ c ∧ c ≤ maxLen ∧ g ∈ F ∧ w.cell? ⟨g, i * 4, none⟩ = some (.int .i64 r.step) ∧ w.cell? ⟨g, i * 4 + 1, none⟩ = some (.int .i64 r.node) ∧ w.cell? ⟨g, i * 4 + 2, none⟩ = some (.int .i64 r.kind) ∧
      w.cell? ⟨g, i * 4 + 3, none⟩ = some (.slice A r.bytes.length n) ∧ heldB w C (.slice A r.bytes.length n) r.bytes ∧ (∀ y ∈ C, y ∈ F) ∧ g < w.heap.size := by
  obtain ⟨vb, T, C, h, rfl⟩ := h
  rw [List.getElem?_map] at hi
  cases ht : T[i]? with
  | none => rw [ht] at hi; cases hi
  | some t =>
    rw [ht] at hi
    simp at hi
    subst hi
    have hlt : i < T.length := (List.getElem?_eq_some_iff.1 ht).1
    rcases h.own.2 with ⟨_, h0⟩ | ⟨g, cap, cur, rfl, hg, h1, h2, h3, h4⟩
    · omega
    · obtain ⟨y0, y1, y2, y3⟩ := flatR_at T i t ht
      have hcell : ∀ j u, (flatR T)[j]? = some u → w.cell? ⟨g, j, none⟩ = some u := fun j u hu => by
        rw [hg.cell]
        rw [← h4, List.getElem?_take] at hu
        split at hu
        · simpa using hu
        · cases hu
      have hb := h.byt t (List.mem_of_getElem? ht)
      obtain ⟨A, n, gb, e, r2⟩ := id hb
      rw [e] at y3 hb
      exact ⟨g, cap, A, n, C, by simpa using h.row.cell 1, by simpa using h1, h2, h.vF g (by simp [homes_some]), hcell _ _ y0, hcell _ _ y1, hcell _ _ y2, hcell _ _ y3, hb, h.cF, hg.lt⟩

set_option maxHeartbeats 1000000 in
theorem last_any (p : Nat) (F : List Nat) (l : List VR) (w : World) (h : isV w p F l) (hl : l.length ≤ 1000000) :
    Calls Try.prog 46 #[.pointer (some ⟨p, 0, none⟩)] w fun e w' => e = .returned (.int .i64 (lastOf l)) ∧ keepBut [] w w' := by
  rcases Nat.eq_zero_or_pos l.length with h0 | h0
  · obtain rfl : l = [] := List.eq_nil_of_length_eq_zero h0
    obtain ⟨A, c, c1, _, _⟩ := h.c1
    have H := Lib.hid h
    clear h h0 hl
    simp only [List.length_nil] at c1
    go_enter Try.func46, Try.ntmps46
    go_wp2_with (go_at_call 32; refine (countR_any _ _ _ _ _ _ c1).mono ?_; rintro e w' ⟨rfl, rfl⟩)
    go_ret
    exact ⟨rfl, keepBut.refl _ _⟩
  · obtain ⟨m, hm⟩ : ∃ m, l.length = m + 1 := ⟨l.length - 1, by omega⟩
    obtain ⟨r, hr⟩ : ∃ r, l[m]? = some r := ⟨_, List.getElem?_eq_getElem (by omega)⟩
    obtain ⟨g, c, A, n, C, c1, hc1, hc2, hg, y0, -, -, -, -, -, -⟩ := h.at hr
    have HL := Lib.hid (show lastOf l = r.step by unfold lastOf; rw [List.getLast?_eq_getElem?, hm, Nat.add_sub_cancel, hr])
    rw [hm] at c1 hc1 hl
    unfold maxLen at hc2
    have hw : IntKind.i64.wrap (((m + 1 : Nat) : Int) - 1) = (m : Int) := by rw [wraps_i64 _ (by omega) (by omega)]; omega
    have hlt : (m : Int) < ((m + 1 : Nat) : Int) := by omega
    generalize r.step = st at *
    clear h hr h0 hm
    generalize m + 1 = L at *
    have c1d : w.drew.cell? ⟨p, 1, none⟩ = some (.slice (some ⟨g, 0, none⟩) L c) := c1
    have hne : ((L : Int) == 0) = false := by simp; omega
    go_enter Try.func46, Try.ntmps46
    go_upto_region 3 with (go_at_call 32; refine (countR_any _ _ _ _ _ _ c1).mono ?_; rintro e w' ⟨rfl, rfl⟩)
    go_region_held3 (fun w' => w'.cell? ⟨p, 1, none⟩ = some (.slice (some ⟨g, 0, none⟩) L c) ∧ w'.cell? ⟨g, m * 4, none⟩ = some (.int .i64 st)) (first | exact ⟨c1, y0⟩)
      (first
        | (go_at_call 32; (with_reducible refine (countR_any _ _ _ _ _ _ c1d).mono ?_); rintro e w' ⟨rfl, rfl⟩)
        | fail)
    go_wp2
    go_ret
    exact ⟨by rw [HL.out]; rfl, (keepBut.refl [] w).drew⟩
theorem four_keep {w w' : World} {F : List Nat} {t : Nat} {v0 v1 v2 v3 : Value} (hk : keepBut F w w') (ht : t < w.heap.size) (hF : t ∉ F)
    (h : w.cell? ⟨t, 0, none⟩ = some v0 ∧ w.cell? ⟨t, 1, none⟩ = some v1 ∧ w.cell? ⟨t, 2, none⟩ = some v2 ∧ w.cell? ⟨t, 3, none⟩ = some v3) :
    w'.cell? ⟨t, 0, none⟩ = some v0 ∧ w'.cell? ⟨t, 1, none⟩ = some v1 ∧ w'.cell? ⟨t, 2, none⟩ = some v2 ∧ w'.cell? ⟨t, 3, none⟩ = some v3 := by
  have e := fun o => hk.cell (p := ⟨t, o, none⟩) ht hF
  simp only [e]
  exact h
/-- what Add answers, and what the view is then -/
def addVR (l : List VR) (r : VR) : Int × List VR := if r.okay = false ∨ r.step < lastOf l then (2, l) else if 20000 ≤ l.length then (5, l) else (0, l ++ [r])
def addVPost (p : Nat) (F : List Nat) (l' : List VR) (er : Int) (w : World) (e : Ending) (w' : World) : Prop := e = .returned (.int .i64 er) ∧ vPost p F l' w w'
set_option maxHeartbeats 2000000 in
theorem addV_any (p : Nat) (F G : List Nat) (l : List VR) (s nd kd : Int) (b : List UInt8) (A : Option Addr) (c : Nat) (w : World) (h : isV w p F l) (hb : heldB w G (.slice A b.length c) b) (hl : l.length ≤ 20000) :
    Calls Try.prog 20 #[.pointer (some ⟨p, 0, none⟩), .agg #[.int .i64 s, .int .i64 nd, .int .i64 kd, .slice A b.length c]] w (addVPost p F (addVR l ⟨s, nd, kd, b⟩).2 (addVR l ⟨s, nd, kd, b⟩).1 w) := by
  have hbl : b.length ≤ 1000000 := by obtain ⟨_, _, _, e, _, _, h4, _⟩ := hb; exact h4
  have hr1 := rowAt.new w 46 #[.int .i64 s, .int .i64 nd, .int .i64 kd, .slice A b.length c]
  have hk1 := (keepBut.refl [] w).alloc (.cells #[.int .i64 s, .int .i64 nd, .int .i64 kd, .slice A b.length c] 46)
  obtain ⟨w1, hw1⟩ : ∃ w1, w.alloc (.cells #[.int .i64 s, .int .i64 nd, .int .i64 kd, .slice A b.length c] 46) = w1 := ⟨_, rfl⟩
  rw [hw1] at hr1 hk1
  have h1 := h.over hk1
  have y0 : w1.cell? ⟨w.heap.size, 0, none⟩ = some (.int .i64 s) := hr1.cell 0
  have y1 : w1.cell? ⟨w.heap.size, 1, none⟩ = some (.int .i64 nd) := hr1.cell 1
  have y2 : w1.cell? ⟨w.heap.size, 2, none⟩ = some (.int .i64 kd) := hr1.cell 2
  have y3 : w1.cell? ⟨w.heap.size, 3, none⟩ = some (.slice A b.length c) := hr1.cell 3
  have HW := Lib.hid hw1
  have H1 := Lib.hid (And.intro h1 (And.intro hr1 (And.intro hk1 (And.intro h (hb.keep hk1 (by simp))))))
  have HVA := Lib.hid (fun (W : World) => valid_any ⟨s, nd, kd, b⟩ A c W (by show b.length ≤ _; omega))
  have HLA := Lib.hid (fun (W : World) h => last_any p F l W h (by omega))
  have HRO := Lib.hid (show addVR l ⟨s, nd, kd, b⟩ = if VR.okay ⟨s, nd, kd, b⟩ = false ∨ s < lastOf l then (2, l) else if 20000 ≤ l.length then (5, l) else (0, l ++ [⟨s, nd, kd, b⟩]) from rfl)
  clear hr1 hk1 h1 hw1 h hb
  dsimp only at HVA
  generalize addVR l ⟨s, nd, kd, b⟩ = res at *
  generalize VR.okay ⟨s, nd, kd, b⟩ = ok at *
  generalize lastOf l = la at *
  have hsz : w.heap.size < w1.heap.size := H1.out.2.1.lt
  have sy : w1.cell? ⟨w.heap.size, 0, none⟩ = some (.int .i64 s) ∧ w1.cell? ⟨w.heap.size, 1, none⟩ = some (.int .i64 nd) ∧ w1.cell? ⟨w.heap.size, 2, none⟩ = some (.int .i64 kd) ∧ w1.cell? ⟨w.heap.size, 3, none⟩ = some (.slice A b.length c) := ⟨y0, y1, y2, y3⟩
  clear y0 y1 y2 y3
  have htF : w.heap.size ∉ F := fun hm => Nat.lt_irrefl _ (H1.out.2.2.2.1.lt _ hm)
  obtain ⟨t, ht⟩ : ∃ t, w.heap.size = t := ⟨_, rfl⟩
  rw [ht] at hsz sy htF
  have HT := Lib.hid ht
  clear ht
  have hcs : ok = false ∨ (ok = true ∧ s < la) ∨ (ok = true ∧ ¬ s < la) := by cases ok <;> simp <;> omega
  rcases hcs with rfl | ⟨rfl, h⟩ | ⟨rfl, h⟩
  · go_enter Try.func20, Try.ntmps20
    go_upto_region 1 with fail
    rw [HW.out, HT.out]
    go_upto_region 3 with (go_at_call 29; refine (noneV_any _ _ _ _ H1.out.1).mono ?_; rintro e w' ⟨rfl, rfl⟩)
    refine wp_region_held_drew (S := (fun w' => w'.cell? ⟨t, 0, none⟩ = some (.int .i64 s) ∧ w'.cell? ⟨t, 1, none⟩ = some (.int .i64 nd) ∧ w'.cell? ⟨t, 2, none⟩ = some (.int .i64 kd) ∧ w'.cell? ⟨t, 3, none⟩ = some (.slice A b.length c))) (by kernel_rfl) sy (fun _ => ?_)
    refine wpAnyH_take (i := 0) (oi := ⟨_, _, _, _, _, _⟩) (v := ?_) rfl (by kernel_rfl) (by kernel_rfl) (by kernel_rfl) (fun _ _ _ h => h) (Or.inl ⟨by rfl, ?_⟩) sy ?_
    rotate_left
    · intro w' hSw; (try dsimp only at hSw); (go_simp; try with_reducible rfl)
    try simp only [Act.put, List.setIfInBounds_toArray, List.set_cons_zero, List.set_cons_succ]
    refine wpAnyH_ready (rs := [1]) (by kernel_rfl) (by simp) ?_
    refine AllReadyH.cons (o := ⟨_, _, _, _, _, _⟩) rfl (fun K hK => ?_) AllReadyH.nil
    go_simp
    refine (HVA.out _).mono ?_
    rintro e w2 ⟨rfl, k2⟩
    have sy2 := four_keep (((keepBut.refl [] w1).drew).then k2 (by simp)) hsz (by simp) sy
    have K2 := Lib.hid (((keepBut.refl [] w1).drew).then k2 (by simp))
    clear k2
    go_wp2_with fail
    refine hK.out _ _ sy2 (fun _ => ?_)
    clear hK K
    try simp only [Act.put, List.setIfInBounds_toArray, List.set_cons_zero, List.set_cons_succ]
    refine wpAnyH_take (i := 2) (oi := ⟨_, _, _, _, _, _⟩) (v := ?_) rfl (by kernel_rfl) (by kernel_rfl) (by kernel_rfl) (fun _ _ _ h => h) (Or.inl ⟨by rfl, ?_⟩) sy2 ?_
    rotate_left
    · intro w' hSw; (try dsimp only at hSw); (go_simp; try with_reducible rfl)
    try simp only [Act.put, List.setIfInBounds_toArray, List.set_cons_zero, List.set_cons_succ]
    refine wpAnyH_take (i := 3) (oi := ⟨_, _, _, _, _, _⟩) (v := ?_) rfl (by kernel_rfl) (by kernel_rfl) (by kernel_rfl) (fun _ _ _ h => h) (Or.inl ⟨by rfl, ?_⟩) sy2 ?_
    rotate_left
    · intro w' hSw; (try dsimp only at hSw); (go_simp; try with_reducible rfl)
    try simp only [Act.put, List.setIfInBounds_toArray, List.set_cons_zero, List.set_cons_succ]
    refine wpAnyH_take (i := 4) (oi := ⟨_, _, _, _, _, _⟩) (v := undef) rfl (by kernel_rfl) (by kernel_rfl) (by kernel_rfl) (fun _ _ _ h => h) (Or.inr ⟨by rfl, rfl⟩) sy2 ?_
    try simp only [Act.put, List.setIfInBounds_toArray, List.set_cons_zero, List.set_cons_succ]
    refine wpAnyH_take (i := 5) (oi := ⟨_, _, _, _, _, _⟩) (v := undef) rfl (by kernel_rfl) (by kernel_rfl) (by kernel_rfl) (fun _ _ _ h => h) (Or.inr ⟨by rfl, rfl⟩) sy2 ?_
    try simp only [Act.put, List.setIfInBounds_toArray, List.set_cons_zero, List.set_cons_succ]
    refine wpAnyH_take (i := 6) (oi := ⟨_, _, _, _, _, _⟩) (v := undef) rfl (by kernel_rfl) (by kernel_rfl) (by kernel_rfl) (fun _ _ _ h => h) (Or.inr ⟨by rfl, rfl⟩) sy2 ?_
    try simp only [Act.put, List.setIfInBounds_toArray, List.set_cons_zero, List.set_cons_succ]
    refine wpAnyH_take (i := 7) (oi := ⟨_, _, _, _, _, _⟩) (v := undef) rfl (by kernel_rfl) (by kernel_rfl) (by kernel_rfl) (fun _ _ _ h => h) (Or.inr ⟨by rfl, rfl⟩) sy2 ?_
    try simp only [Act.put, List.setIfInBounds_toArray, List.set_cons_zero, List.set_cons_succ]
    refine wpAnyH_take (i := 8) (oi := ⟨_, _, _, _, _, _⟩) (v := undef) rfl (by kernel_rfl) (by kernel_rfl) (by kernel_rfl) (fun _ _ _ h => h) (Or.inr ⟨by rfl, rfl⟩) sy2 ?_
    try simp only [Act.put, List.setIfInBounds_toArray, List.set_cons_zero, List.set_cons_succ]
    refine wpAnyH_take (i := 9) (oi := ⟨_, _, _, _, _, _⟩) (v := ?_) rfl (by kernel_rfl) (by kernel_rfl) (by kernel_rfl) (fun _ _ _ h => h) (Or.inl ⟨by rfl, ?_⟩) sy2 ?_
    rotate_left
    · intro w' hSw; (try dsimp only at hSw); (go_simp; try with_reducible rfl)
    try simp only [Act.put, List.setIfInBounds_toArray, List.set_cons_zero, List.set_cons_succ]
    refine wpAnyH_take (i := 10) (oi := ⟨_, _, _, _, _, _⟩) (v := ?_) rfl (by kernel_rfl) (by kernel_rfl) (by kernel_rfl) (fun _ _ _ h => h) (Or.inl ⟨by rfl, ?_⟩) sy2 ?_
    rotate_left
    · intro w' hSw; (try dsimp only at hSw); (go_simp; try with_reducible rfl)
    try simp only [Act.put, List.setIfInBounds_toArray, List.set_cons_zero, List.set_cons_succ]
    refine wpAnyH_done (by kernel_rfl) ?_ _
    go_wp2
    go_ret
    have e : res = (2, l) := by rw [HRO.out]; simp
    rw [e]
    exact ⟨rfl, F, H1.out.2.2.2.1.over (H1.out.2.2.1.then K2.out (by simp)), (H1.out.2.2.1.then K2.out (by simp)).more (by simp), fun y hy => .inl hy⟩
  · go_enter Try.func20, Try.ntmps20
    go_upto_region 1 with fail
    rw [HW.out, HT.out]
    go_upto_region 3 with (go_at_call 29; refine (noneV_any _ _ _ _ H1.out.1).mono ?_; rintro e w' ⟨rfl, rfl⟩)
    go_region_held3 (fun w' => w'.cell? ⟨t, 0, none⟩ = some (.int .i64 s) ∧ w'.cell? ⟨t, 1, none⟩ = some (.int .i64 nd) ∧ w'.cell? ⟨t, 2, none⟩ = some (.int .i64 kd) ∧ w'.cell? ⟨t, 3, none⟩ = some (.slice A b.length c)) (first | exact sy | exact sy2 | exact sy3)
      (first
        | (go_at_call 26; (with_reducible refine (HVA.out _).mono ?_); rintro e w2 ⟨rfl, k2⟩; have sy2 := four_keep (((keepBut.refl [] w1).drew).then k2 (by simp)) hsz (by simp) sy; have K2 := Lib.hid (((keepBut.refl [] w1).drew).then k2 (by simp)); clear k2)
        | (go_at_call 46; (with_reducible refine (HLA.out _ (H1.out.1.over K2.out)).mono ?_); rintro e w3 ⟨rfl, k3⟩; have sy3 := four_keep (K2.out.then k3 (by simp)) hsz (by simp) sy; have K3 := Lib.hid (K2.out.then k3 (by simp)); clear k3)
        | fail)
    go_wp2
    go_ret
    have e : res = (2, l) := by rw [HRO.out, if_pos (.inr h)]
    rw [e]
    exact ⟨rfl, F, H1.out.2.2.2.1.over (H1.out.2.2.1.then K3.out (by simp)), (H1.out.2.2.1.then K3.out (by simp)).more (by simp), fun y hy => .inl hy⟩
  · have HRO2 := Lib.hid (show res = if 20000 ≤ l.length then (5, l) else (0, l ++ [⟨s, nd, kd, b⟩]) by rw [HRO.out, if_neg (by simp [h])])
    go_enter Try.func20, Try.ntmps20
    go_upto_region 1 with fail
    rw [HW.out, HT.out]
    go_upto_region 3 with (go_at_call 29; refine (noneV_any _ _ _ _ H1.out.1).mono ?_; rintro e w' ⟨rfl, rfl⟩)
    go_region_held3 (fun w' => w'.cell? ⟨t, 0, none⟩ = some (.int .i64 s) ∧ w'.cell? ⟨t, 1, none⟩ = some (.int .i64 nd) ∧ w'.cell? ⟨t, 2, none⟩ = some (.int .i64 kd) ∧ w'.cell? ⟨t, 3, none⟩ = some (.slice A b.length c)) (first | exact sy | exact sy2 | exact sy3)
      (first
        | (go_at_call 26; (with_reducible refine (HVA.out _).mono ?_); rintro e w2 ⟨rfl, k2⟩; have sy2 := four_keep (((keepBut.refl [] w1).drew).then k2 (by simp)) hsz (by simp) sy; have K2 := Lib.hid (((keepBut.refl [] w1).drew).then k2 (by simp)); clear k2)
        | (go_at_call 46; (with_reducible refine (HLA.out _ (H1.out.1.over K2.out)).mono ?_); rintro e w3 ⟨rfl, k3⟩; have sy3 := four_keep (K2.out.then k3 (by simp)) hsz (by simp) sy; have K3 := Lib.hid (K2.out.then k3 (by simp)); clear k3)
        | fail)
    have i3 := H1.out.1.over K3.out
    obtain ⟨A9, c9, c1, _, _⟩ := i3.c1
    have H3 := Lib.hid (And.intro i3 (H1.out.2.2.2.2.keep K3.out (by simp)))
    have hsz3 := Nat.lt_of_lt_of_le hsz K3.out.size
    clear i3 sy sy2
    by_cases h2 : l.length = 20000
    · rw [h2] at c1
      go_wp2_with (go_at_call 32; refine (countR_any _ _ _ _ _ _ c1).mono ?_; rintro e w' ⟨rfl, rfl⟩)
      go_ret
      have e : res = (5, l) := by rw [HRO2.out, if_pos (by omega)]
      rw [e]
      exact ⟨rfl, F, H1.out.2.2.2.1.over (H1.out.2.2.1.then K3.out (by simp)), (H1.out.2.2.1.then K3.out (by simp)).more (by simp), fun y hy => .inl hy⟩
    · have h3 : ¬ (20000 : Int) ≤ (l.length : Int) := by omega
      have HL := Lib.hid (show l.length < 20000 by omega)
      have hll : l.length ≤ 1000000 := by omega
      clear h2 hl
      go_upto_region 7 with (go_at_call 32; refine (countR_any _ _ _ _ _ _ c1).mono ?_; rintro e w' ⟨rfl, rfl⟩)
      go_region_held3 (fun w' => w'.cell? ⟨t, 0, none⟩ = some (.int .i64 s) ∧ w'.cell? ⟨t, 1, none⟩ = some (.int .i64 nd) ∧ w'.cell? ⟨t, 2, none⟩ = some (.int .i64 kd) ∧ w'.cell? ⟨t, 3, none⟩ = some (.slice A b.length c)) (first | exact sy3 | exact sy4 | exact sy5)
        (first
          | (go_at_call 42; (with_reducible refine (copiedR_any G s nd kd b A c _ (H3.out.2.keep ((keepBut.refl [] w3).drew) (by simp))).mono ?_); rintro e w4 ⟨A4, c4, rfl, G4, hh4, hG4, k4⟩; have sy4 := four_keep (((keepBut.refl [] w3).drew).then k4 (by simp)) hsz3 (by simp) sy3; have hGG : ∀ y ∈ G4, y ∉ F ∧ y < w4.heap.size := fun y hy => ⟨fun hm => Nat.lt_irrefl _ (Nat.lt_of_lt_of_le (H3.out.1.lt y hm) (hG4 y hy).1), (hG4 y hy).2⟩; have K4 := Lib.hid (And.intro hh4 (And.intro hG4 (((keepBut.refl [] w3).drew).then k4 (by simp)))); have i4 := H3.out.1.over K4.out.2.2; clear hh4 hG4 k4)
          | (go_at_call 27; (with_reducible refine (addR_n p F G4 l s nd kd b A4 c4 _ i4 K4.out.1 hGG hll).mono ?_); rintro e w5 ⟨rfl, F5, i5, k5, f5⟩; have sy5 := four_keep k5 (Nat.lt_of_lt_of_le hsz3 K4.out.2.2.size) htF sy4; have K5 := Lib.hid (And.intro i5 (And.intro k5 f5)); clear i5 k5 f5)
          | fail)
      go_wp2
      go_ret
      have e : res = (0, l ++ [⟨s, nd, kd, b⟩]) := by rw [HRO2.out, if_neg (by have := HL.out; omega)]
      rw [e]
      have kk := ((H1.out.2.2.1.then K3.out (by simp)).then K4.out.2.2 (by simp))
      refine ⟨rfl, F5, K5.out.1, (kk.more (T := F) (by simp)).then K5.out.2.1 (fun y hy => .inl hy), fun y hy => ?_⟩
      rcases K5.out.2.2 y hy with q | q | q
      · exact .inl q
      · have h6 : w3.heap.size ≤ y := (K4.out.2.1 y q).1
        exact .inr (Nat.le_trans (H1.out.2.2.1.then K3.out (by simp)).size h6)
      · exact .inr (Nat.le_trans kk.size q)
end Go.Proofs.Ytjipokilidhnoaa
