/-
  DISK: the document's own disk: Cut, Write, Swap.
-/
import Derived.Test.YtbjonlfjfjlelaaDiskRef2
import Derived.Deep.RegionLaw
namespace Go.Proofs.Ytbjonlfjfjlelaa
open Go.RowKit
set_option linter.unusedVariables false
set_option maxRecDepth 100000

theorem owns.disjoint {w : World} {e e' : TypeId} {sz sz' n n' : Nat} {v v' : Value} {xs xs' : List Value} (h : owns w e sz v n xs) (h' : owns w e' sz' v' n' xs') (hne : e ≠ e') : ∀ x ∈ homes v, x ∉ homes v' := by
  rcases h.2 with ⟨rfl, _⟩ | ⟨g, cap, cur, rfl, hr, _⟩
  · simp [homes_none]
  · intro x hx hm
    simp only [homes_some, List.mem_singleton] at hx
    subst hx
    exact h'.apart hr hne hm
/-- one piece more of what was written -/
theorem isRv.pushT {w w1 w3 w4 : World} {q : Nat} {F : List Nat} {d : DS} {vb vt v vt' : Value} {T : List (Value × List UInt8)} {l : List UInt8} {o : Obj} (h : isRv w q F d vb vt T) (hk : keepBut [] w w1) (ho : owns w1 5 1 v l.length (l.map bv)) (hf : ∀ x ∈ homes v, w.heap.size ≤ x)
    (hown : owns w3 28 1 vt' (T.length + 1) (T.map (·.1) ++ [v])) (hk3 : keepBut (homes vt) (w1.alloc o) w3) (hl3 : ∀ x ∈ homes vt', x ∈ homes vt ∨ (w1.alloc o).heap.size ≤ x)
    (hk4 : keepBut [q] w3 w4) (hr : rowAt w4 q 101 #[vb, .int .i64 (d.n : Int), .bool d.dead, .int .i64 (armI d.arm), vt']) :
    isRv w4 q (homes v ++ (homes vt' ++ F)) { d with t := d.t ++ [l] } vb vt' (T ++ [(v, l)]) ∧ keepBut F w w4 ∧ ∀ y ∈ homes v ++ (homes vt' ++ F), y ∈ F ∨ w.heap.size ≤ y := by
  have h1 := h.keep hk (by simp)
  have h2 := h1.keep ((keepBut.refl [] w1).alloc o) (by simp)
  have ho2 := ho.keep ((keepBut.refl [] w1).alloc o) (by simp)
  have hq3 : q ∉ homes vt := h2.ownT.apart h2.row (by decide)
  have row3 := hk3.row h2.row hq3
  have hq : ∀ {e : TypeId} {sz n : Nat} {v : Value} {xs : List Value}, owns w3 e sz v n xs → 101 ≠ e → ∀ x ∈ homes v, x ∉ [q] := fun ho hne x hx hm => ho.apart row3 hne (List.mem_singleton.1 hm ▸ hx)
  have hb3 := h2.own.keep hk3 (h2.own.disjoint h2.ownT (by decide))
  have hv3 := ho2.keep hk3 (ho2.disjoint h2.ownT (by decide))
  have s1 := hk.size
  have s3 := hk3.size
  have s4 := hk4.size
  have hlt1 : w1.heap.size ≤ (w1.alloc o).heap.size := by simp
  refine ⟨⟨hr, hb3.keep hk4 (hq hb3 (by decide)), h.nb, h.len, by rw [List.length_append, List.map_append]; exact hown.keep hk4 (hq hown (by decide)), by rw [List.map_append, h.tr]; rfl, fun y hy => ?_, ?_, fun x hx => ?_, fun x hx => ?_, fun x hx => ?_, h.arm⟩, ?_, fun y hy => ?_⟩
  · rcases List.mem_append.1 hy with hy | hy
    · have := (h2.rows y hy).1
      have h3 := this.keep hk3 (this.disjoint h2.ownT (by decide))
      exact ⟨h3.keep hk4 (hq h3 (by decide)), fun x hx => by simp; exact .inr (.inr ((h.rows y hy).2 x hx))⟩
    · simp at hy; subst hy
      exact ⟨hv3.keep hk4 (hq hv3 (by decide)), fun x hx => by simp; exact .inl hx⟩
  · simp; exact .inr (.inr h.qF)
  · simp; exact .inr (.inr (h.bF x hx))
  · simp; exact .inr (.inl hx)
  · simp at hx
    rcases hx with q1 | q1 | q1
    · have := ho.lt x q1; omega
    · have := hown.lt x q1; omega
    · have := h.lt x q1; omega
  · exact (((hk.alloc o).more (T := F) (by simp)).then hk3 (fun x hx => .inl (h.tF x hx))).then hk4 (fun x hx => .inl (by rw [List.mem_singleton.1 hx]; exact h.qF))
  · simp at hy
    rcases hy with q1 | q1 | q1
    · exact .inr (hf y q1)
    · rcases hl3 y q1 with q2 | q2
      · exact .inl (h.tF y q2)
      · exact .inr (by omega)
    · exact .inl q1

set_option maxHeartbeats 4000000 in
theorem cutR_any (q : Nat) (F : List Nat) (d : DS) (k : Int) (w : World) (h : isR w q F d) (hk0 : k ≤ 9223372036854775807) :
    Calls Try.prog 52 #[.pointer (some ⟨q, 0, none⟩), .int .i64 k] w (rPost q F (d.cut k).2 (.int .i64 (d.cut k).1) w) := by
  have c2 := h.cells.2.1
  cases hd : d.dead with
  | true =>
    rw [hd] at c2
    have HE := Lib.hid (show d.cut k = (130, d) by simp [DS.cut, hd])
    have H := Lib.hid h
    clear h hd
    go_enter Try.func52, Try.ntmps52
    go_wp2_with fail
    go_ret
    rw [HE.out]
    exact rPost.same H.out (keepBut.refl _ _)
  | false =>
    rw [hd] at c2
    obtain ⟨vb, vt, T, hv⟩ := id h
    obtain ⟨A, c, g, rfl, hc1, hc2, hsn, hgm⟩ := hv.own.seen
    have c0 : w.cell? ⟨q, 0, none⟩ = some (.slice A d.b.length c) := hv.row.cell 0
    have hlen := hv.len
    obtain ⟨L, hL⟩ : ∃ L, d.b.length = L := ⟨_, rfl⟩
    rw [hL] at c0 hlen hc1
    by_cases hbad : k < 0 ∨ (L : Int) < k
    · have HE := Lib.hid (show d.cut k = (9, d) by unfold DS.cut; rw [hd, hL, if_neg (by simp), if_pos hbad])
      have H := Lib.hid h
      have hor : k < 0 ∨ (¬ k < 0 ∧ (L : Int) < k) := by omega
      clear h hd hv hsn hgm hL hbad
      rcases hor with hor | ⟨hor, hor2⟩
      all_goals
        go_enter Try.func52, Try.ntmps52
        go_wp2_with fail
        go_ret
        rw [HE.out]
        exact rPost.same H.out (keepBut.refl _ _)
    · obtain ⟨m, hm⟩ : ∃ m : Nat, k = (m : Int) := ⟨k.toNat, by omega⟩
      subst hm
      have hmL : m ≤ L := by omega
      have hn0 : ¬ (m : Int) < 0 := by omega
      have hnL : ¬ (L : Int) < (m : Int) := by omega
      have HE := Lib.hid (show d.cut (m : Int) = (0, { d with b := d.b.take m, n := m }) by unfold DS.cut; rw [hd, hL, if_neg (by simp), if_neg (by omega)]; rfl)
      have hml : (d.b.take m).length = m := by rw [List.length_take, hL]; omega
      have c1 := h.cells.1
      have f0 := h.cells.2.2.2 0
      have f1 := h.cells.2.2.2 1
      have HH := Lib.hid (And.intro hv (And.intro hsn hml))
      have hmc : (m : Int) ≤ (c : Int) := by omega
      have hm0 : (0 : Int) ≤ (m : Int) := by omega
      clear h hd hv hsn hgm hL hbad hml
      go_enter Try.func52, Try.ntmps52
      go_wp2_with (go_at_call 49; (with_reducible refine (copyBytes_n A g c m (d.b.take m) _ HH.out.2.2 (HH.out.2.1.take m) (by omega)).mono ?_); rintro e w5 ⟨v, rfl, ho5, hf5, hk5⟩; rw [HH.out.2.2] at ho5; obtain ⟨A5, c5, rfl, -⟩ := ho5.form; have hr5 := hk5.row HH.out.1.row (by simp); have d05 : w5.cell? ⟨q, 0, none⟩ = some (.slice A d.b.length c) := hr5.cell 0; have d15 : w5.cell? ⟨q, 1, none⟩ = some (.int .i64 (d.n : Int)) := hr5.cell 1; have f05 := hr5.free 0; have f15 := hr5.free 1; have H5 := Lib.hid (And.intro ho5 (And.intro hf5 (And.intro hk5 hr5))); clear ho5 hf5 hk5 hr5)
      have kk := ((keepBut.refl [q] w5).setCell ⟨q, 0, none⟩ (.slice A5 m c5) (by simp)).setCell ⟨q, 1, none⟩ (.int .i64 (m : Int)) (by simp)
      have hr7 := (H5.out.2.2.2.set 0 (.slice A5 m c5)).set 1 (.int .i64 (m : Int))
      have hend := HH.out.1.newB (d' := { d with b := d.b.take m, n := m }) (l := d.b.take m) H5.out.2.2.1 (by rw [HH.out.2.2]; exact H5.out.1) (fun x hx => H5.out.2.1 x hx) kk hr7 rfl rfl (by rw [HH.out.2.2]; exact Nat.le_refl _) (by rw [HH.out.2.2]; omega) HH.out.1.arm
      have HX := Lib.hid hend
      clear hend kk hr7
      go_ret
      rw [HE.out]
      refine ⟨rfl, _, ⟨_, _, _, HX.out.1⟩, HX.out.2, fun y hy => ?_⟩
      rcases List.mem_append.1 hy with h1 | h1
      · exact .inr (H5.out.2.1 y h1)
      · exact .inl h1
end Go.Proofs.Ytbjonlfjfjlelaa
