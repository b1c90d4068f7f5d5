/-
  NET, 4: At.
-/
import Derived.Test.YtcnlnkkdcofphaaDoorNet3
namespace Go.Proofs.YtcnlnkkdcofphaaDoor
open Go.RowKit
set_option linter.unusedVariables false
set_option maxRecDepth 100000

theorem zeroP : ∃ Z : List Value, Z.length = 87 ∧ (Tryd.prog.info? 40).bind (·.zero) = some (.agg Z.toArray) ∧ (∀ w, (Instr.build 40 #[]).run Tryd.prog w = .ok (.agg Z.toArray) w) ∧ (∀ w, itemV w [] (pkZero, Z)) :=
  ⟨_, pkZ_len, zv_pk, run_buildPk, fun w => ⟨_, _, _, _, _, rfl, pkZero_val w []⟩⟩
def atPost (pk : PK) (w : World) (e : Ending) (w' : World) : Prop := ∃ X G, e = .returned (.tuple #[.agg (X : List Value).toArray, .int .i64 0]) ∧ itemV w' G (pk, X) ∧ newIn w w' G ∧ keepBut [] w w'
set_option maxHeartbeats 4000000 in
theorem atN_any (p : Nat) (v : Value) (T : List (PK × List Value)) (F : List Nat) (c : Nat) (i : Nat) (t : PK × List Value) (w : World) (h : isN w p v T F c) (ht : T[i]? = some t) (hf : t.1.fits) :
    Calls Tryd.prog 17 #[.pointer (some ⟨p, 0, none⟩), .int .i64 i] w (atPost t.1 w) := by
  have hi : i < T.length := (List.getElem?_eq_some_iff.1 ht).1
  obtain ⟨Z, hZl, hZ, hZb, hZi⟩ := zeroP
  have HZ := Lib.hid (And.intro hZ hZl)
  have k1 := (keepBut.refl [] w).alloc (.cells Z.toArray 40)
  have r1 := rowAt.new w 40 Z.toArray
  obtain ⟨w1, hw1⟩ : ∃ w1, w.alloc (.cells Z.toArray 40) = w1 := ⟨_, rfl⟩
  rw [hw1] at k1 r1
  have h1 := h.over k1
  obtain ⟨A, k, rfl, hk1, hk2⟩ := h.form
  obtain ⟨g, off, rfl, hg, hh, hr⟩ := h1.item ht
  have x1 : w1.cell? ⟨p, 1, none⟩ = some (.slice (some ⟨g, off, none⟩) T.length k) := h1.row.cell 1
  have HT := Lib.hid (h1.its t (List.mem_of_getElem? ht))
  have HI := Lib.hid (show (Tryd.prog.info? 40).map (·.size) = some t.2.length by rw [HT.out.len]; exact info_pk)
  have HR := Lib.hid hr
  have HN := Lib.hid h1
  have HW := Lib.hid hw1
  have R1 := Lib.hid r1
  have K1 := Lib.hid k1
  have hi0 : (0 : Int) ≤ (i : Int) := by omega
  have hi1 : (i : Int) < (T.length : Int) := by omega
  clear ht hr h h1 hi hg hZ hZl hZb hZi hw1 k1 r1 hh
  go_enter Tryd.func17, Tryd.ntmps17
  go_wp2_with (first
    | (with_reducible refine wpList_alloc_to _ _ rfl 40 rfl _ HZ.out.1 HW.out ?_)
    | (go_at_call 37; refine (findN_yes _ _ _ _ _ _ _ HN.out ⟨hi0, hi1⟩).mono ?_; rintro e w' ⟨rfl, rfl⟩)
    | (refine wpList_load_mid_g 40 (.tmp 19) rfl g (off + i * 87) rfl t.2 _ HR.out Tryd.underlying40 rfl HI.out rfl ?_)
    | (go_at_call 38; refine (copyX_any F t.1 t.2 _ HT.out hf).mono ?_; rintro e w2 ⟨X2, G, rfl, i2, n2, k2⟩; have Q2 := Lib.hid (And.intro i2 (And.intro n2 k2)); have RS := Lib.hid ((k2.row R1.out (by simp)).there (o := 0) (n := X2.toArray.size) (by have := i2.len; have := HZ.out.2; simp only [List.size_toArray] at *; omega)); clear i2 n2 k2)
    | (refine wpList_store_mid rfl 40 (.tmp 4) (.tmp 21) rfl w.heap.size 0 X2.toArray rfl rfl RS.out (by rw [List.size_toArray, Q2.out.1.len]; exact info_pk) (all_oneCell_toArray Q2.out.1.one) ?_))
  have l2 : X2.length = 87 := Q2.out.1.len
  have r3 := (Q2.out.2.2.row R1.out (by simp)).setL (vs := X2) (o := 0)
  rw [putL_all (by rw [l2, List.size_toArray]; exact HZ.out.2.symm)] at r3
  have k3 := (keepBut.refl [w.heap.size] w2).setL (vs := X2) (g := w.heap.size) (o := 0) (.inl (by simp))
  have s1 := K1.out.size
  have hs1 : w1.heap.size = w.heap.size + 1 := by rw [← HW.out]; exact World.size_alloc _ _
  refine bodyPost_ret (results_row_tmp rfl _ _ w.heap.size 40 _ (0, 0) _ rfl r3 Tryd.underlying40 rfl (by rw [List.size_toArray, l2]; exact info_pk)) rfl ?_
  refine ⟨X2, G, rfl, Q2.out.1.keep k3 (fun y hy hm => ?_), fun y hy => ⟨by have := (Q2.out.2.1 y hy).1; omega, Nat.lt_of_lt_of_le (Q2.out.2.1 y hy).2 k3.size⟩, (K1.out.then Q2.out.2.2 (by simp)).then k3 (by simp)⟩
  have := (Q2.out.2.1 y hy).1
  simp only [List.mem_singleton] at hm
  omega
end Go.Proofs.YtcnlnkkdcofphaaDoor
