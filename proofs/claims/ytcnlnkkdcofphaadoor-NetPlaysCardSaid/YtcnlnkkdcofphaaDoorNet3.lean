/-
  NET, 3: Put, Twice.
-/
import Derived.Test.YtcnlnkkdcofphaaDoorNetKit
namespace Go.Proofs.YtcnlnkkdcofphaaDoor
open Go.RowKit
set_option linter.unusedVariables false
set_option maxRecDepth 100000

theorem checkX_any (F : List Nat) (p : PK) (X : List Value) (w : World) (h : itemV w F (p, X)) (hfl : fieldsAt w) (hb1 : i64P p.frm) (hb2 : i64P p.dst) :
    Calls Tryd.prog 44 #[.agg X.toArray] w fun e w' => e = .returned (.int .i64 (toldP p.ok)) ∧ keepBut [] w w' := by
  obtain ⟨ev, av, cv, vv, bw, h1, h2⟩ := h
  dsimp only at h1 h2
  subst h1
  exact check_any F p ev av cv vv bw w h2 hfl hb1 hb2
theorem addPost.lift {p : Nat} {v : Value} {T : List (PK × List Value)} {F : List Nat} {c : Nat} {pk : PK} {w w1 w' : World} {e : Ending} (h : addPost p v T F c pk w1 e w') (k : keepBut [] w w1) : addPost p v T F c pk w e w' := by
  obtain ⟨v', X, G, h1, h2, h3, h4, h5⟩ := h
  have s := k.size
  exact ⟨v', X, G, h1, h2, (k.more (by simp)).then h3 (fun x hx => .inl hx), fun x hx => (h4 x hx).imp id (fun h => by omega), fun y hy => ⟨by have := (h5 y hy).1; omega, (h5 y hy).2⟩⟩
set_option maxHeartbeats 4000000 in
theorem putN_any (p : Nat) (v : Value) (T : List (PK × List Value)) (F : List Nat) (c : Nat) (F0 : List Nat) (pk : PK) (X : List Value) (w : World) (h : isN w p v T F c) (ht : itemV w F0 (pk, X)) (hF0 : ∀ y ∈ F0, y ∉ homes v) (hf : pk.fits) (hl : T.length < 2000) (hc : c < 1000000) (hfl : fieldsAt w) (hb1 : i64P pk.frm) (hb2 : i64P pk.dst) (hok : pk.ok = true) :
    Calls Tryd.prog 25 #[.pointer (some ⟨p, 0, none⟩), .agg X.toArray] w (addPost p v T F c pk w) := by
  have k1 := (keepBut.refl [] w).alloc (.cells X.toArray 40)
  have r1 := rowAt.new w 40 X.toArray
  obtain ⟨w1, hw1⟩ : ∃ w1, w.alloc (.cells X.toArray 40) = w1 := ⟨_, rfl⟩
  rw [hw1] at k1 r1
  have HI := Lib.hid (show (Tryd.prog.info? 40).map (·.size) = some X.length by rw [ht.len]; exact info_pk)
  have HT := Lib.hid (ht.keep k1 (by simp))
  have HW := Lib.hid hw1
  have HN := Lib.hid (h.over k1)
  have R1 := Lib.hid r1
  have K1 := Lib.hid k1
  have HF := Lib.hid (And.intro hF0 (And.intro hl hc))
  have HB := Lib.hid (And.intro (hfl.keep k1 (by simp)) (And.intro hb1 (And.intro hb2 hok)))
  clear h ht hF0 hl hc hfl hb1 hb2 hok k1 r1 hw1
  go_enter Tryd.func25, Tryd.ntmps25
  go_wp2_with (first
    | (with_reducible refine wpList_box_to _ _ rfl 40 (.tmp 1) rfl _ rfl HW.out ?_)
    | (go_at_call 36; refine (noneN_any _ _ _ _ _ _ HN.out).mono ?_; rintro e w' ⟨rfl, rfl⟩)
    | (refine wpList_load_mid_g 40 (.tmp 3) rfl w.heap.size 0 rfl X _ R1.out.rangeAll Tryd.underlying40 rfl HI.out rfl ?_)
    | (go_at_call 44; refine (checkX_any F0 pk X _ HT.out HB.out.1 HB.out.2.1 HB.out.2.2.1).mono ?_; rintro e w2 ⟨rfl, k2⟩; rw [show toldP pk.ok = 0 by rw [HB.out.2.2.2]; rfl]; have K2 := Lib.hid k2; clear k2)
    | (refine wpList_load_mid_g 40 (.tmp 3) rfl w.heap.size 0 rfl X _ (K2.out.row R1.out (by simp)).rangeAll Tryd.underlying40 rfl HI.out rfl ?_)
    | (go_at_call 45; refine (addN_any p v T F c F0 pk X _ (HN.out.over K2.out) (HT.out.keep K2.out (by simp)) HF.out.1 hf HF.out.2.1 HF.out.2.2).mono ?_; rintro e w3 ⟨v3, X3, G3, rfl, q3⟩; have Q3 := Lib.hid q3; clear q3))
  go_ret
  exact addPost.lift (addPost.lift ⟨v3, X3, G3, rfl, Q3.out⟩ K2.out) K1.out
/-- item i lies in the bag -/
theorem isN.item {w : World} {p : Nat} {A : Option Addr} {n k : Nat} {T : List (PK × List Value)} {F : List Nat} {c : Nat} (h : isN w p (.slice A n k) T F c) {i : Nat} {t : PK × List Value} (ht : T[i]? = some t) : ∃ g off, A = some ⟨g, off, none⟩ ∧ g < w.heap.size ∧ homes (.slice A n k) = [g] ∧ w.rangeAt g (off + i * 87) t.2 := by
  have hi : i < T.length := (List.getElem?_eq_some_iff.1 ht).1
  obtain ⟨A', k', e, _⟩ := h.form
  injection e with e1 e2 e3
  subst e2
  obtain ⟨g, off, h1, h2, h3, h4⟩ := h.own.cell (by omega)
  refine ⟨g, off, h1, h2, h3, fun j u hu => ?_⟩
  rw [Nat.add_assoc]
  exact h4 _ u (flatP_at T i t h.lens ht j u hu)
set_option maxHeartbeats 4000000 in
theorem twiceN_any (p : Nat) (v : Value) (T : List (PK × List Value)) (F : List Nat) (c : Nat) (i : Nat) (t : PK × List Value) (w : World) (h : isN w p v T F c) (ht : T[i]? = some t) (hf : t.1.fits) (hl : T.length < 2000) (hc : c < 1000000) :
    Calls Tryd.prog 29 #[.pointer (some ⟨p, 0, none⟩), .int .i64 i] w (addPost p v T F c t.1 w) := by
  have hi : i < T.length := (List.getElem?_eq_some_iff.1 ht).1
  obtain ⟨A, k, rfl, hk1, hk2⟩ := h.form
  obtain ⟨g, off, rfl, hg, hh, hr⟩ := h.item ht
  have x1 : w.cell? ⟨p, 1, none⟩ = some (.slice (some ⟨g, off, none⟩) T.length k) := h.row.cell 1
  have HT := Lib.hid (h.its t (List.mem_of_getElem? ht))
  have HI := Lib.hid (show (Tryd.prog.info? 40).map (·.size) = some t.2.length by rw [HT.out.len]; exact info_pk)
  have HR := Lib.hid hr
  have HN := Lib.hid h
  have HF := Lib.hid (And.intro hl (And.intro hc ht))
  have hi0 : (0 : Int) ≤ (i : Int) := by omega
  have hi1 : (i : Int) < (T.length : Int) := by omega
  clear ht hr h hl hc hi hg
  go_enter Tryd.func29, Tryd.ntmps29
  go_wp2_with (first
    | (go_at_call 37; refine (findN_yes _ _ _ _ _ _ _ HN.out ⟨hi0, hi1⟩).mono ?_; rintro e w' ⟨rfl, rfl⟩)
    | (refine wpList_load_mid_g 40 (.tmp 18) rfl g (off + i * 87) rfl t.2 _ HR.out Tryd.underlying40 rfl HI.out rfl ?_)
    | (go_at_call 45; refine (addN_any p _ T F c F t.1 t.2 _ HN.out HT.out (fun y hy => (HN.out.far y hy).2.2) hf HF.out.1 HF.out.2.1).mono ?_; rintro e w3 ⟨v3, X3, G3, rfl, q3⟩; have Q3 := Lib.hid q3; clear q3))
  go_ret
  exact ⟨v3, X3, G3, rfl, Q3.out⟩
end Go.Proofs.YtcnlnkkdcofphaaDoor
