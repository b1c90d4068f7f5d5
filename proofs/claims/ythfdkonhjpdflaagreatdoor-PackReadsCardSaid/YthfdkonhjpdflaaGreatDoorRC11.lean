/-
  RC, 11: the document's Check.
-/
import Derived.Test.YthfdkonhjpdflaaGreatDoorRCD
namespace Go.Proofs.YthfdkonhjpdflaaGreatDoor
open Go.RowKit
set_option linter.unusedVariables false
set_option maxRecDepth 100000
set_option linter.unusedSimpArgs false

/-! short names -/
theorem sT {α : Type} {l : List α} {i : Nat} {a : α} : l.toArray.setIfInBounds i a = (l.set i a).toArray := List.setIfInBounds_toArray _ _ _
theorem s0 {α : Type} {x a : α} {l : List α} : (x :: l).set 0 a = a :: l := List.set_cons_zero
theorem sS {α : Type} {x a : α} {l : List α} {i : Nat} : (x :: l).set (i + 1) a = x :: l.set i a := List.set_cons_succ
theorem tk {P : Program} {md : Region.Mode} {ops : Array Oper} {Q : Exit → Act → World → Prop} {S : World → Prop} {fuel : Nat} {listed : Array Bool} {a : Act} {w : World} (i : Nat) (oi : Oper) (v : Value) (hi : ops[i]? = some oi)
    (hs : Region.noSelect ops = true) (hf : Region.free md ops listed i = true) (hr : (Region.ready md ops listed).contains i = true)
    (hQ : ∀ c a w, Q (.panic c) (a.put oi.dst v) w → Q (.panic c) a w) (hy : YieldsIf P ops S oi v a) (hS : S w)
    (h : wpAnyH P md ops Q S fuel (listed.setIfInBounds i true) (a.put oi.dst v) w) : wpAnyH P md ops Q S (fuel + 1) listed a w := wpAnyH_take hi hs hf hr hQ hy hS h
set_option maxHeartbeats 16000000 in
theorem checkD (F : List Nat) (p : PK) (ev av cv vv bw : Value) (w : World) (h : pkV w F p ev av cv vv bw) (hf : p.fits) :
    Calls Tryz.prog 10 #[.agg (pkL p ev av cv vv bw).toArray] w fun e w' => e = .returned (.int .i64 (toldP p.okD)) ∧ keepBut [] w w' := by
  have k1 := (keepBut.refl [] w).alloc (.cells (pkL p ev av cv vv bw).toArray 34)
  have r1 := rowAt.new w 34 (pkL p ev av cv vv bw).toArray
  obtain ⟨w1, hw1⟩ : ∃ w1, w.alloc (.cells (pkL p ev av cv vv bw).toArray 34) = w1 := ⟨_, rfl⟩
  rw [hw1] at k1 r1
  have a1 := r1.pk h.rn h.an
  have HW := Lib.hid hw1
  have HA := Lib.hid (And.intro a1 (And.intro (h.over k1) (And.intro k1 r1)))
  have HF := Lib.hid hf
  have x0 := a1.c0
  have x1 := a1.c1
  have x2 := a1.c2
  clear a1 k1 r1 hw1 h hf
  have H1 := Lib.hid (withinR p.kind 1 14 w1)
  have H2 := Lib.hid (nodeR p.frm w1)
  have H3 := Lib.hid (nodeR p.dst w1)
  obtain ⟨B1, hB1⟩ : ∃ B, p.headD = B := ⟨_, rfl⟩
  have HB1 := Lib.hid hB1
  obtain ⟨fin, hfin⟩ : ∃ b, p.okD = b := ⟨_, rfl⟩
  have HF0 := Lib.hid hfin
  rw [hfin]
  clear hfin hB1
  go_enter Tryz.func10, Tryz.ntmps10
  go_upto_region 2 with (with_reducible refine wpList_box_to _ _ rfl 34 (.tmp 0) rfl _ rfl HW.out ?_)
  go_cut [4] (fun v4 wx => v4 = .bool B1 ∧ wx = w1)
  case first =>
    have HB2 := Lib.hid (show B1 = (inP p.kind 1 14 && (nodeP p.frm && nodeP p.dst)) from HB1.out.symm)
    clear HB1
    generalize inP p.kind 1 14 = a at *
    generalize nodeP p.frm = b at *
    generalize nodeP p.dst = c at *
    cases a <;> cases b <;> cases c
    all_goals
      go_wp2_with (first
        | (go_at_call 67; refine H1.out.mono ?_; rintro e w' ⟨rfl, rfl⟩)
        | (go_at_call 68; with_reducible refine H2.out.mono ?_; rintro e w' ⟨rfl, rfl⟩)
        | (go_at_call 68; with_reducible refine H3.out.mono ?_; rintro e w' ⟨rfl, rfl⟩))
      go_meet
      case rel => exact ⟨by rw [HB2.out]; rfl, rfl⟩
  case rest =>
    obtain ⟨rfl, rfl⟩ := hcut
    clear x1 x2 H1 H2 H3
    obtain ⟨B2, hB2⟩ : ∃ B, (B1 && (p.numD && (p.seqD && p.balD))) = B := ⟨_, rfl⟩
    have HB2 := Lib.hid hB2
    clear hB2
    have HP := Lib.hid (fun w' (hk : keepBut [] wc w') => HA.out.1.keep hk (by simp))
    go_upto_region 3 with fail
    go_cut [4] (fun v4 wx => v4 = .bool B2 ∧ keepBut [] wc wx)
    case first =>
      clear x0
      refine wp_region_held_drew (S := keepBut [] wc) (by kernel_rfl) (keepBut.refl [] wc).drew (fun kW => ?_)
      obtain ⟨W0, hW0⟩ : ∃ W, wc.drew = W := ⟨_, rfl⟩
      rw [hW0] at kW ⊢
      clear hW0
      cases B1
      · refine tk 0 ⟨_, _, _, _, _, _⟩ ?_ rfl (by kernel_rfl) (by kernel_rfl) (by kernel_rfl) (fun _ _ _ h => h) (Or.inl ⟨by rfl, ?_⟩) kW ?_
        rotate_left
        · intro w' hSw; clear hSw; (go_simp; try with_reducible rfl)
        try simp only [Act.put, sT, s0, sS]
        refine tk 1 ⟨_, _, _, _, _, _⟩ ?_ rfl (by kernel_rfl) (by kernel_rfl) (by kernel_rfl) (fun _ _ _ h => h) (Or.inl ⟨by rfl, ?_⟩) kW ?_
        rotate_left
        · intro w' hSw; clear hSw; (go_simp; try with_reducible rfl)
        try simp only [Act.put, sT, s0, sS]
        refine tk 2 ⟨_, _, _, _, _, _⟩ undef rfl (by kernel_rfl) (by kernel_rfl) (by kernel_rfl) (fun _ _ _ h => h) (Or.inr ⟨by rfl, rfl⟩) kW ?_
        try simp only [Act.put, sT, s0, sS]
        refine tk 3 ⟨_, _, _, _, _, _⟩ undef rfl (by kernel_rfl) (by kernel_rfl) (by kernel_rfl) (fun _ _ _ h => h) (Or.inr ⟨by rfl, rfl⟩) kW ?_
        try simp only [Act.put, sT, s0, sS]
        refine tk 4 ⟨_, _, _, _, _, _⟩ undef rfl (by kernel_rfl) (by kernel_rfl) (by kernel_rfl) (fun _ _ _ h => h) (Or.inr ⟨by rfl, rfl⟩) kW ?_
        try simp only [Act.put, sT, s0, sS]
        refine tk 5 ⟨_, _, _, _, _, _⟩ undef rfl (by kernel_rfl) (by kernel_rfl) (by kernel_rfl) (fun _ _ _ h => h) (Or.inr ⟨by rfl, rfl⟩) kW ?_
        try simp only [Act.put, sT, s0, sS]
        refine tk 6 ⟨_, _, _, _, _, _⟩ undef rfl (by kernel_rfl) (by kernel_rfl) (by kernel_rfl) (fun _ _ _ h => h) (Or.inr ⟨by rfl, rfl⟩) kW ?_
        try simp only [Act.put, sT, s0, sS]
        refine tk 7 ⟨_, _, _, _, _, _⟩ undef rfl (by kernel_rfl) (by kernel_rfl) (by kernel_rfl) (fun _ _ _ h => h) (Or.inr ⟨by rfl, rfl⟩) kW ?_
        try simp only [Act.put, sT, s0, sS]
        refine tk 8 ⟨_, _, _, _, _, _⟩ undef rfl (by kernel_rfl) (by kernel_rfl) (by kernel_rfl) (fun _ _ _ h => h) (Or.inr ⟨by rfl, rfl⟩) kW ?_
        try simp only [Act.put, sT, s0, sS]
        refine tk 9 ⟨_, _, _, _, _, _⟩ undef rfl (by kernel_rfl) (by kernel_rfl) (by kernel_rfl) (fun _ _ _ h => h) (Or.inr ⟨by rfl, rfl⟩) kW ?_
        try simp only [Act.put, sT, s0, sS]
        refine tk 10 ⟨_, _, _, _, _, _⟩ undef rfl (by kernel_rfl) (by kernel_rfl) (by kernel_rfl) (fun _ _ _ h => h) (Or.inr ⟨by rfl, rfl⟩) kW ?_
        try simp only [Act.put, sT, s0, sS]
        refine tk 11 ⟨_, _, _, _, _, _⟩ undef rfl (by kernel_rfl) (by kernel_rfl) (by kernel_rfl) (fun _ _ _ h => h) (Or.inr ⟨by rfl, rfl⟩) kW ?_
        try simp only [Act.put, sT, s0, sS]
        refine tk 12 ⟨_, _, _, _, _, _⟩ undef rfl (by kernel_rfl) (by kernel_rfl) (by kernel_rfl) (fun _ _ _ h => h) (Or.inr ⟨by rfl, rfl⟩) kW ?_
        try simp only [Act.put, sT, s0, sS]
        refine tk 13 ⟨_, _, _, _, _, _⟩ undef rfl (by kernel_rfl) (by kernel_rfl) (by kernel_rfl) (fun _ _ _ h => h) (Or.inr ⟨by rfl, rfl⟩) kW ?_
        try simp only [Act.put, sT, s0, sS]
        refine tk 14 ⟨_, _, _, _, _, _⟩ ?_ rfl (by kernel_rfl) (by kernel_rfl) (by kernel_rfl) (fun _ _ _ h => h) (Or.inl ⟨by rfl, ?_⟩) kW ?_
        rotate_left
        · intro w' hSw; clear hSw; (go_simp; try with_reducible rfl)
        try simp only [Act.put, sT, s0, sS]
        refine tk 15 ⟨_, _, _, _, _, _⟩ ?_ rfl (by kernel_rfl) (by kernel_rfl) (by kernel_rfl) (fun _ _ _ h => h) (Or.inl ⟨by rfl, ?_⟩) kW ?_
        rotate_left
        · intro w' hSw; clear hSw; (go_simp; try with_reducible rfl)
        try simp only [Act.put, sT, s0, sS]
        refine tk 16 ⟨_, _, _, _, _, _⟩ undef rfl (by kernel_rfl) (by kernel_rfl) (by kernel_rfl) (fun _ _ _ h => h) (Or.inr ⟨by rfl, rfl⟩) kW ?_
        try simp only [Act.put, sT, s0, sS]
        refine tk 17 ⟨_, _, _, _, _, _⟩ undef rfl (by kernel_rfl) (by kernel_rfl) (by kernel_rfl) (fun _ _ _ h => h) (Or.inr ⟨by rfl, rfl⟩) kW ?_
        try simp only [Act.put, sT, s0, sS]
        refine tk 18 ⟨_, _, _, _, _, _⟩ undef rfl (by kernel_rfl) (by kernel_rfl) (by kernel_rfl) (fun _ _ _ h => h) (Or.inr ⟨by rfl, rfl⟩) kW ?_
        try simp only [Act.put, sT, s0, sS]
        refine tk 19 ⟨_, _, _, _, _, _⟩ undef rfl (by kernel_rfl) (by kernel_rfl) (by kernel_rfl) (fun _ _ _ h => h) (Or.inr ⟨by rfl, rfl⟩) kW ?_
        try simp only [Act.put, sT, s0, sS]
        refine tk 20 ⟨_, _, _, _, _, _⟩ undef rfl (by kernel_rfl) (by kernel_rfl) (by kernel_rfl) (fun _ _ _ h => h) (Or.inr ⟨by rfl, rfl⟩) kW ?_
        try simp only [Act.put, sT, s0, sS]
        refine tk 21 ⟨_, _, _, _, _, _⟩ undef rfl (by kernel_rfl) (by kernel_rfl) (by kernel_rfl) (fun _ _ _ h => h) (Or.inr ⟨by rfl, rfl⟩) kW ?_
        try simp only [Act.put, sT, s0, sS]
        refine tk 22 ⟨_, _, _, _, _, _⟩ undef rfl (by kernel_rfl) (by kernel_rfl) (by kernel_rfl) (fun _ _ _ h => h) (Or.inr ⟨by rfl, rfl⟩) kW ?_
        try simp only [Act.put, sT, s0, sS]
        refine tk 23 ⟨_, _, _, _, _, _⟩ undef rfl (by kernel_rfl) (by kernel_rfl) (by kernel_rfl) (fun _ _ _ h => h) (Or.inr ⟨by rfl, rfl⟩) kW ?_
        try simp only [Act.put, sT, s0, sS]
        refine tk 24 ⟨_, _, _, _, _, _⟩ undef rfl (by kernel_rfl) (by kernel_rfl) (by kernel_rfl) (fun _ _ _ h => h) (Or.inr ⟨by rfl, rfl⟩) kW ?_
        try simp only [Act.put, sT, s0, sS]
        refine tk 25 ⟨_, _, _, _, _, _⟩ undef rfl (by kernel_rfl) (by kernel_rfl) (by kernel_rfl) (fun _ _ _ h => h) (Or.inr ⟨by rfl, rfl⟩) kW ?_
        try simp only [Act.put, sT, s0, sS]
        refine tk 26 ⟨_, _, _, _, _, _⟩ undef rfl (by kernel_rfl) (by kernel_rfl) (by kernel_rfl) (fun _ _ _ h => h) (Or.inr ⟨by rfl, rfl⟩) kW ?_
        try simp only [Act.put, sT, s0, sS]
        refine tk 27 ⟨_, _, _, _, _, _⟩ undef rfl (by kernel_rfl) (by kernel_rfl) (by kernel_rfl) (fun _ _ _ h => h) (Or.inr ⟨by rfl, rfl⟩) kW ?_
        try simp only [Act.put, sT, s0, sS]
        refine tk 28 ⟨_, _, _, _, _, _⟩ undef rfl (by kernel_rfl) (by kernel_rfl) (by kernel_rfl) (fun _ _ _ h => h) (Or.inr ⟨by rfl, rfl⟩) kW ?_
        try simp only [Act.put, sT, s0, sS]
        refine tk 29 ⟨_, _, _, _, _, _⟩ undef rfl (by kernel_rfl) (by kernel_rfl) (by kernel_rfl) (fun _ _ _ h => h) (Or.inr ⟨by rfl, rfl⟩) kW ?_
        try simp only [Act.put, sT, s0, sS]
        refine tk 30 ⟨_, _, _, _, _, _⟩ ?_ rfl (by kernel_rfl) (by kernel_rfl) (by kernel_rfl) (fun _ _ _ h => h) (Or.inl ⟨by rfl, ?_⟩) kW ?_
        rotate_left
        · intro w' hSw; clear hSw; (go_simp; try with_reducible rfl)
        try simp only [Act.put, sT, s0, sS]
        refine tk 31 ⟨_, _, _, _, _, _⟩ ?_ rfl (by kernel_rfl) (by kernel_rfl) (by kernel_rfl) (fun _ _ _ h => h) (Or.inl ⟨by rfl, ?_⟩) kW ?_
        rotate_left
        · intro w' hSw; clear hSw; (go_simp; try with_reducible rfl)
        try simp only [Act.put, sT, s0, sS]
        refine tk 32 ⟨_, _, _, _, _, _⟩ undef rfl (by kernel_rfl) (by kernel_rfl) (by kernel_rfl) (fun _ _ _ h => h) (Or.inr ⟨by rfl, rfl⟩) kW ?_
        try simp only [Act.put, sT, s0, sS]
        refine tk 33 ⟨_, _, _, _, _, _⟩ undef rfl (by kernel_rfl) (by kernel_rfl) (by kernel_rfl) (fun _ _ _ h => h) (Or.inr ⟨by rfl, rfl⟩) kW ?_
        try simp only [Act.put, sT, s0, sS]
        refine tk 34 ⟨_, _, _, _, _, _⟩ undef rfl (by kernel_rfl) (by kernel_rfl) (by kernel_rfl) (fun _ _ _ h => h) (Or.inr ⟨by rfl, rfl⟩) kW ?_
        try simp only [Act.put, sT, s0, sS]
        refine tk 35 ⟨_, _, _, _, _, _⟩ undef rfl (by kernel_rfl) (by kernel_rfl) (by kernel_rfl) (fun _ _ _ h => h) (Or.inr ⟨by rfl, rfl⟩) kW ?_
        try simp only [Act.put, sT, s0, sS]
        refine tk 36 ⟨_, _, _, _, _, _⟩ undef rfl (by kernel_rfl) (by kernel_rfl) (by kernel_rfl) (fun _ _ _ h => h) (Or.inr ⟨by rfl, rfl⟩) kW ?_
        try simp only [Act.put, sT, s0, sS]
        refine tk 37 ⟨_, _, _, _, _, _⟩ undef rfl (by kernel_rfl) (by kernel_rfl) (by kernel_rfl) (fun _ _ _ h => h) (Or.inr ⟨by rfl, rfl⟩) kW ?_
        try simp only [Act.put, sT, s0, sS]
        refine tk 38 ⟨_, _, _, _, _, _⟩ undef rfl (by kernel_rfl) (by kernel_rfl) (by kernel_rfl) (fun _ _ _ h => h) (Or.inr ⟨by rfl, rfl⟩) kW ?_
        try simp only [Act.put, sT, s0, sS]
        refine tk 39 ⟨_, _, _, _, _, _⟩ undef rfl (by kernel_rfl) (by kernel_rfl) (by kernel_rfl) (fun _ _ _ h => h) (Or.inr ⟨by rfl, rfl⟩) kW ?_
        try simp only [Act.put, sT, s0, sS]
        refine tk 40 ⟨_, _, _, _, _, _⟩ undef rfl (by kernel_rfl) (by kernel_rfl) (by kernel_rfl) (fun _ _ _ h => h) (Or.inr ⟨by rfl, rfl⟩) kW ?_
        try simp only [Act.put, sT, s0, sS]
        refine tk 41 ⟨_, _, _, _, _, _⟩ undef rfl (by kernel_rfl) (by kernel_rfl) (by kernel_rfl) (fun _ _ _ h => h) (Or.inr ⟨by rfl, rfl⟩) kW ?_
        try simp only [Act.put, sT, s0, sS]
        refine tk 42 ⟨_, _, _, _, _, _⟩ undef rfl (by kernel_rfl) (by kernel_rfl) (by kernel_rfl) (fun _ _ _ h => h) (Or.inr ⟨by rfl, rfl⟩) kW ?_
        try simp only [Act.put, sT, s0, sS]
        refine tk 43 ⟨_, _, _, _, _, _⟩ undef rfl (by kernel_rfl) (by kernel_rfl) (by kernel_rfl) (fun _ _ _ h => h) (Or.inr ⟨by rfl, rfl⟩) kW ?_
        try simp only [Act.put, sT, s0, sS]
        refine tk 44 ⟨_, _, _, _, _, _⟩ ?_ rfl (by kernel_rfl) (by kernel_rfl) (by kernel_rfl) (fun _ _ _ h => h) (Or.inl ⟨by rfl, ?_⟩) kW ?_
        rotate_left
        · intro w' hSw; clear hSw; (go_simp; try with_reducible rfl)
        try simp only [Act.put, sT, s0, sS]
        refine tk 45 ⟨_, _, _, _, _, _⟩ ?_ rfl (by kernel_rfl) (by kernel_rfl) (by kernel_rfl) (fun _ _ _ h => h) (Or.inl ⟨by rfl, ?_⟩) kW ?_
        rotate_left
        · intro w' hSw; clear hSw; (go_simp; try with_reducible rfl)
        try simp only [Act.put, sT, s0, sS]
        refine wpAnyH_done (by kernel_rfl) ?_ _
        have HKW := Lib.hid kW
        clear kW
        have HV := Lib.hid (show B2 = false by rw [← HB2.out]; rfl)
        go_wp2_with fail
        go_meet
        case rel => exact ⟨by rw [HV.out], HKW.out⟩
      · refine tk 0 ⟨_, _, _, _, _, _⟩ ?_ rfl (by kernel_rfl) (by kernel_rfl) (by kernel_rfl) (fun _ _ _ h => h) (Or.inl ⟨by rfl, ?_⟩) kW ?_
        rotate_left
        · intro w' hSw; clear hSw; (go_simp; try with_reducible rfl)
        try simp only [Act.put, sT, s0, sS]
        refine tk 1 ⟨_, _, _, _, _, _⟩ ?_ rfl (by kernel_rfl) (by kernel_rfl) (by kernel_rfl) (fun _ _ _ h => h) (Or.inl ⟨by rfl, ?_⟩) kW ?_
        rotate_left
        · intro w' hSw; clear hSw; (go_simp; try with_reducible rfl)
        try simp only [Act.put, sT, s0, sS]
        refine tk 2 ⟨_, _, _, _, _, _⟩ ?_ rfl (by kernel_rfl) (by kernel_rfl) (by kernel_rfl) (fun _ _ _ h => h) (Or.inl ⟨by rfl, ?_⟩) kW ?_
        rotate_left
        · intro w' hSw; clear hSw; (go_simp; try with_reducible rfl)
        try simp only [Act.put, sT, s0, sS]
        refine (Bool.eq_false_or_eq_true (numK.contains p.kind)).elim (fun h0 => ?_) (fun h0 => ?_)
        focus
         refine wpAnyH_ready (rs := [3]) (by kernel_rfl) (by simp) ?_
         refine AllReadyH.cons (o := ⟨_, _, _, _, _, _⟩) rfl (fun K hK => ?_) AllReadyH.nil
         go_simp
         refine (hasNumR p.kind _).mono ?_; rintro e w' ⟨rfl, kk⟩
         replace kW := kW.then kk (by simp)
         clear kk
         rw [h0]
         go_wp2_with fail
         refine hK.out _ _ kW (fun _ => ?_)
         clear hK K
         try simp only [Act.put, sT, s0, sS]
         refine tk 4 ⟨_, _, _, _, _, _⟩ ?_ rfl (by kernel_rfl) (by kernel_rfl) (by kernel_rfl) (fun _ _ _ h => h) (Or.inl ⟨by rfl, ?_⟩) kW ?_
         rotate_left
         · intro w' hSw; clear hSw; (go_simp; try with_reducible rfl)
         try simp only [Act.put, sT, s0, sS]
         refine tk 5 ⟨_, _, _, _, _, _⟩ ?_ rfl (by kernel_rfl) (by kernel_rfl) (by kernel_rfl) (fun _ _ _ h => h) (Or.inl ⟨by rfl, ?_⟩) kW ?_
         rotate_left
         · intro w' hSw; clear hSw; (go_simp; try with_reducible rfl)
         try simp only [Act.put, sT, s0, sS]
         refine tk 6 ⟨_, _, _, _, _, _⟩ ?_ rfl (by kernel_rfl) (by kernel_rfl) (by kernel_rfl) (fun _ _ _ h => h) (Or.inl ⟨by rfl, ?_⟩) kW ?_
         rotate_left
         · intro w' hSw; have xc := (HP.out w' hSw).c3; clear hSw; (go_simp; try with_reducible rfl)
         try simp only [Act.put, sT, s0, sS]
         refine (Bool.eq_false_or_eq_true (inP p.num 0 9007199254740991)).elim (fun i0 => ?_) (fun i0 => ?_)
         focus
          refine wpAnyH_ready (rs := [7]) (by kernel_rfl) (by simp) ?_
          refine AllReadyH.cons (o := ⟨_, _, _, _, _, _⟩) rfl (fun K hK => ?_) AllReadyH.nil
          go_simp
          refine (numberR p.num _).mono ?_; rintro e w' ⟨rfl, rfl⟩
          rw [i0]
          go_wp2_with fail
          refine hK.out _ _ kW (fun _ => ?_)
          clear hK K
          try simp only [Act.put, sT, s0, sS]
          refine tk 8 ⟨_, _, _, _, _, _⟩ ?_ rfl (by kernel_rfl) (by kernel_rfl) (by kernel_rfl) (fun _ _ _ h => h) (Or.inl ⟨by rfl, ?_⟩) kW ?_
          rotate_left
          · intro w' hSw; clear hSw; (go_simp; try with_reducible rfl)
          try simp only [Act.put, sT, s0, sS]
          refine tk 9 ⟨_, _, _, _, _, _⟩ ?_ rfl (by kernel_rfl) (by kernel_rfl) (by kernel_rfl) (fun _ _ _ h => h) (Or.inl ⟨by rfl, ?_⟩) kW ?_
          rotate_left
          · intro w' hSw; clear hSw; (go_simp; try with_reducible rfl)
          try simp only [Act.put, sT, s0, sS]
          refine tk 10 ⟨_, _, _, _, _, _⟩ undef rfl (by kernel_rfl) (by kernel_rfl) (by kernel_rfl) (fun _ _ _ h => h) (Or.inr ⟨by rfl, rfl⟩) kW ?_
          try simp only [Act.put, sT, s0, sS]
          refine tk 11 ⟨_, _, _, _, _, _⟩ undef rfl (by kernel_rfl) (by kernel_rfl) (by kernel_rfl) (fun _ _ _ h => h) (Or.inr ⟨by rfl, rfl⟩) kW ?_
          try simp only [Act.put, sT, s0, sS]
          refine tk 12 ⟨_, _, _, _, _, _⟩ undef rfl (by kernel_rfl) (by kernel_rfl) (by kernel_rfl) (fun _ _ _ h => h) (Or.inr ⟨by rfl, rfl⟩) kW ?_
          try simp only [Act.put, sT, s0, sS]
          refine tk 13 ⟨_, _, _, _, _, _⟩ ?_ rfl (by kernel_rfl) (by kernel_rfl) (by kernel_rfl) (fun _ _ _ h => h) (Or.inl ⟨by rfl, ?_⟩) kW ?_
          rotate_left
          · intro w' hSw; clear hSw; (go_simp; try with_reducible rfl)
          try simp only [Act.put, sT, s0, sS]
          refine tk 14 ⟨_, _, _, _, _, _⟩ ?_ rfl (by kernel_rfl) (by kernel_rfl) (by kernel_rfl) (fun _ _ _ h => h) (Or.inl ⟨by rfl, ?_⟩) kW ?_
          rotate_left
          · intro w' hSw; clear hSw; (go_simp; try with_reducible rfl)
          try simp only [Act.put, sT, s0, sS]
          refine tk 15 ⟨_, _, _, _, _, _⟩ ?_ rfl (by kernel_rfl) (by kernel_rfl) (by kernel_rfl) (fun _ _ _ h => h) (Or.inl ⟨by rfl, ?_⟩) kW ?_
          rotate_left
          · intro w' hSw; clear hSw; (go_simp; try with_reducible rfl)
          try simp only [Act.put, sT, s0, sS]
          have D0 : p.numD = true := by simp only [PK.numD, h0, i0, Bool.true_and, Bool.and_true, Bool.false_and, Bool.and_false, Bool.or_true, Bool.true_or, Bool.or_false, Bool.false_or]
          clear h0 i0
         rotate_left
         focus
          refine wpAnyH_ready (rs := [7]) (by kernel_rfl) (by simp) ?_
          refine AllReadyH.cons (o := ⟨_, _, _, _, _, _⟩) rfl (fun K hK => ?_) AllReadyH.nil
          go_simp
          refine (numberR p.num _).mono ?_; rintro e w' ⟨rfl, rfl⟩
          rw [i0]
          go_wp2_with fail
          refine hK.out _ _ kW (fun _ => ?_)
          clear hK K
          try simp only [Act.put, sT, s0, sS]
          refine tk 8 ⟨_, _, _, _, _, _⟩ ?_ rfl (by kernel_rfl) (by kernel_rfl) (by kernel_rfl) (fun _ _ _ h => h) (Or.inl ⟨by rfl, ?_⟩) kW ?_
          rotate_left
          · intro w' hSw; clear hSw; (go_simp; try with_reducible rfl)
          try simp only [Act.put, sT, s0, sS]
          refine tk 9 ⟨_, _, _, _, _, _⟩ ?_ rfl (by kernel_rfl) (by kernel_rfl) (by kernel_rfl) (fun _ _ _ h => h) (Or.inl ⟨by rfl, ?_⟩) kW ?_
          rotate_left
          · intro w' hSw; clear hSw; (go_simp; try with_reducible rfl)
          try simp only [Act.put, sT, s0, sS]
          refine tk 10 ⟨_, _, _, _, _, _⟩ ?_ rfl (by kernel_rfl) (by kernel_rfl) (by kernel_rfl) (fun _ _ _ h => h) (Or.inl ⟨by rfl, ?_⟩) kW ?_
          rotate_left
          · intro w' hSw; clear hSw; (go_simp; try with_reducible rfl)
          try simp only [Act.put, sT, s0, sS]
          refine tk 11 ⟨_, _, _, _, _, _⟩ ?_ rfl (by kernel_rfl) (by kernel_rfl) (by kernel_rfl) (fun _ _ _ h => h) (Or.inl ⟨by rfl, ?_⟩) kW ?_
          rotate_left
          · intro w' hSw; have xc := (HP.out w' hSw).c3; clear hSw; (go_simp; try with_reducible rfl)
          try simp only [Act.put, sT, s0, sS]
          refine (Bool.eq_false_or_eq_true (p.num == 0)).elim (fun z0 => ?_) (fun z0 => ?_)
          focus
           refine tk 12 ⟨_, _, _, _, _, _⟩ ?_ rfl (by kernel_rfl) (by kernel_rfl) (by kernel_rfl) (fun _ _ _ h => h) (Or.inl ⟨by rfl, ?_⟩) kW ?_
           rotate_left
           · intro w' hSw; clear hSw; (go_simp; try with_reducible rfl)
           try simp only [Act.put, sT, s0, sS]
           refine tk 13 ⟨_, _, _, _, _, _⟩ ?_ rfl (by kernel_rfl) (by kernel_rfl) (by kernel_rfl) (fun _ _ _ h => h) (Or.inl ⟨by rfl, ?_⟩) kW ?_
           rotate_left
           · intro w' hSw; clear hSw; (go_simp; try with_reducible rfl)
           try simp only [Act.put, sT, s0, sS]
           refine tk 14 ⟨_, _, _, _, _, _⟩ ?_ rfl (by kernel_rfl) (by kernel_rfl) (by kernel_rfl) (fun _ _ _ h => h) (Or.inl ⟨by rfl, ?_⟩) kW ?_
           rotate_left
           · intro w' hSw; clear hSw; (go_simp; try with_reducible rfl)
           try simp only [Act.put, sT, s0, sS]
           refine tk 15 ⟨_, _, _, _, _, _⟩ ?_ rfl (by kernel_rfl) (by kernel_rfl) (by kernel_rfl) (fun _ _ _ h => h) (Or.inl ⟨by rfl, ?_⟩) kW ?_
           rotate_left
           · intro w' hSw; clear hSw; (go_simp; try with_reducible rfl)
           try simp only [Act.put, sT, s0, sS]
           have D0 : p.numD = true := by simp only [PK.numD, h0, i0, z0, Bool.true_and, Bool.and_true, Bool.false_and, Bool.and_false, Bool.or_true, Bool.true_or, Bool.or_false, Bool.false_or]
           clear h0 i0 z0
          rotate_left
          focus
           refine tk 12 ⟨_, _, _, _, _, _⟩ ?_ rfl (by kernel_rfl) (by kernel_rfl) (by kernel_rfl) (fun _ _ _ h => h) (Or.inl ⟨by rfl, ?_⟩) kW ?_
           rotate_left
           · intro w' hSw; clear hSw; (go_simp; try with_reducible rfl)
           try simp only [Act.put, sT, s0, sS]
           refine tk 13 ⟨_, _, _, _, _, _⟩ ?_ rfl (by kernel_rfl) (by kernel_rfl) (by kernel_rfl) (fun _ _ _ h => h) (Or.inl ⟨by rfl, ?_⟩) kW ?_
           rotate_left
           · intro w' hSw; clear hSw; (go_simp; try with_reducible rfl)
           try simp only [Act.put, sT, s0, sS]
           refine tk 14 ⟨_, _, _, _, _, _⟩ ?_ rfl (by kernel_rfl) (by kernel_rfl) (by kernel_rfl) (fun _ _ _ h => h) (Or.inl ⟨by rfl, ?_⟩) kW ?_
           rotate_left
           · intro w' hSw; clear hSw; (go_simp; try with_reducible rfl)
           try simp only [Act.put, sT, s0, sS]
           refine tk 15 ⟨_, _, _, _, _, _⟩ ?_ rfl (by kernel_rfl) (by kernel_rfl) (by kernel_rfl) (fun _ _ _ h => h) (Or.inl ⟨by rfl, ?_⟩) kW ?_
           rotate_left
           · intro w' hSw; clear hSw; (go_simp; try with_reducible rfl)
           try simp only [Act.put, sT, s0, sS]
           have D0 : p.numD = false := by simp only [PK.numD, h0, i0, z0, Bool.true_and, Bool.and_true, Bool.false_and, Bool.and_false, Bool.or_true, Bool.true_or, Bool.or_false, Bool.false_or]
           clear h0 i0 z0
           refine tk 16 ⟨_, _, _, _, _, _⟩ undef rfl (by kernel_rfl) (by kernel_rfl) (by kernel_rfl) (fun _ _ _ h => h) (Or.inr ⟨by rfl, rfl⟩) kW ?_
           try simp only [Act.put, sT, s0, sS]
           refine tk 17 ⟨_, _, _, _, _, _⟩ undef rfl (by kernel_rfl) (by kernel_rfl) (by kernel_rfl) (fun _ _ _ h => h) (Or.inr ⟨by rfl, rfl⟩) kW ?_
           try simp only [Act.put, sT, s0, sS]
           refine tk 18 ⟨_, _, _, _, _, _⟩ undef rfl (by kernel_rfl) (by kernel_rfl) (by kernel_rfl) (fun _ _ _ h => h) (Or.inr ⟨by rfl, rfl⟩) kW ?_
           try simp only [Act.put, sT, s0, sS]
           refine tk 19 ⟨_, _, _, _, _, _⟩ undef rfl (by kernel_rfl) (by kernel_rfl) (by kernel_rfl) (fun _ _ _ h => h) (Or.inr ⟨by rfl, rfl⟩) kW ?_
           try simp only [Act.put, sT, s0, sS]
           refine tk 20 ⟨_, _, _, _, _, _⟩ undef rfl (by kernel_rfl) (by kernel_rfl) (by kernel_rfl) (fun _ _ _ h => h) (Or.inr ⟨by rfl, rfl⟩) kW ?_
           try simp only [Act.put, sT, s0, sS]
           refine tk 21 ⟨_, _, _, _, _, _⟩ undef rfl (by kernel_rfl) (by kernel_rfl) (by kernel_rfl) (fun _ _ _ h => h) (Or.inr ⟨by rfl, rfl⟩) kW ?_
           try simp only [Act.put, sT, s0, sS]
           refine tk 22 ⟨_, _, _, _, _, _⟩ undef rfl (by kernel_rfl) (by kernel_rfl) (by kernel_rfl) (fun _ _ _ h => h) (Or.inr ⟨by rfl, rfl⟩) kW ?_
           try simp only [Act.put, sT, s0, sS]
           refine tk 23 ⟨_, _, _, _, _, _⟩ undef rfl (by kernel_rfl) (by kernel_rfl) (by kernel_rfl) (fun _ _ _ h => h) (Or.inr ⟨by rfl, rfl⟩) kW ?_
           try simp only [Act.put, sT, s0, sS]
           refine tk 24 ⟨_, _, _, _, _, _⟩ undef rfl (by kernel_rfl) (by kernel_rfl) (by kernel_rfl) (fun _ _ _ h => h) (Or.inr ⟨by rfl, rfl⟩) kW ?_
           try simp only [Act.put, sT, s0, sS]
           refine tk 25 ⟨_, _, _, _, _, _⟩ undef rfl (by kernel_rfl) (by kernel_rfl) (by kernel_rfl) (fun _ _ _ h => h) (Or.inr ⟨by rfl, rfl⟩) kW ?_
           try simp only [Act.put, sT, s0, sS]
           refine tk 26 ⟨_, _, _, _, _, _⟩ undef rfl (by kernel_rfl) (by kernel_rfl) (by kernel_rfl) (fun _ _ _ h => h) (Or.inr ⟨by rfl, rfl⟩) kW ?_
           try simp only [Act.put, sT, s0, sS]
           refine tk 27 ⟨_, _, _, _, _, _⟩ undef rfl (by kernel_rfl) (by kernel_rfl) (by kernel_rfl) (fun _ _ _ h => h) (Or.inr ⟨by rfl, rfl⟩) kW ?_
           try simp only [Act.put, sT, s0, sS]
           refine tk 28 ⟨_, _, _, _, _, _⟩ undef rfl (by kernel_rfl) (by kernel_rfl) (by kernel_rfl) (fun _ _ _ h => h) (Or.inr ⟨by rfl, rfl⟩) kW ?_
           try simp only [Act.put, sT, s0, sS]
           refine tk 29 ⟨_, _, _, _, _, _⟩ undef rfl (by kernel_rfl) (by kernel_rfl) (by kernel_rfl) (fun _ _ _ h => h) (Or.inr ⟨by rfl, rfl⟩) kW ?_
           try simp only [Act.put, sT, s0, sS]
           refine tk 30 ⟨_, _, _, _, _, _⟩ ?_ rfl (by kernel_rfl) (by kernel_rfl) (by kernel_rfl) (fun _ _ _ h => h) (Or.inl ⟨by rfl, ?_⟩) kW ?_
           rotate_left
           · intro w' hSw; clear hSw; (go_simp; try with_reducible rfl)
           try simp only [Act.put, sT, s0, sS]
           refine tk 31 ⟨_, _, _, _, _, _⟩ ?_ rfl (by kernel_rfl) (by kernel_rfl) (by kernel_rfl) (fun _ _ _ h => h) (Or.inl ⟨by rfl, ?_⟩) kW ?_
           rotate_left
           · intro w' hSw; clear hSw; (go_simp; try with_reducible rfl)
           try simp only [Act.put, sT, s0, sS]
           refine tk 32 ⟨_, _, _, _, _, _⟩ undef rfl (by kernel_rfl) (by kernel_rfl) (by kernel_rfl) (fun _ _ _ h => h) (Or.inr ⟨by rfl, rfl⟩) kW ?_
           try simp only [Act.put, sT, s0, sS]
           refine tk 33 ⟨_, _, _, _, _, _⟩ undef rfl (by kernel_rfl) (by kernel_rfl) (by kernel_rfl) (fun _ _ _ h => h) (Or.inr ⟨by rfl, rfl⟩) kW ?_
           try simp only [Act.put, sT, s0, sS]
           refine tk 34 ⟨_, _, _, _, _, _⟩ undef rfl (by kernel_rfl) (by kernel_rfl) (by kernel_rfl) (fun _ _ _ h => h) (Or.inr ⟨by rfl, rfl⟩) kW ?_
           try simp only [Act.put, sT, s0, sS]
           refine tk 35 ⟨_, _, _, _, _, _⟩ undef rfl (by kernel_rfl) (by kernel_rfl) (by kernel_rfl) (fun _ _ _ h => h) (Or.inr ⟨by rfl, rfl⟩) kW ?_
           try simp only [Act.put, sT, s0, sS]
           refine tk 36 ⟨_, _, _, _, _, _⟩ undef rfl (by kernel_rfl) (by kernel_rfl) (by kernel_rfl) (fun _ _ _ h => h) (Or.inr ⟨by rfl, rfl⟩) kW ?_
           try simp only [Act.put, sT, s0, sS]
           refine tk 37 ⟨_, _, _, _, _, _⟩ undef rfl (by kernel_rfl) (by kernel_rfl) (by kernel_rfl) (fun _ _ _ h => h) (Or.inr ⟨by rfl, rfl⟩) kW ?_
           try simp only [Act.put, sT, s0, sS]
           refine tk 38 ⟨_, _, _, _, _, _⟩ undef rfl (by kernel_rfl) (by kernel_rfl) (by kernel_rfl) (fun _ _ _ h => h) (Or.inr ⟨by rfl, rfl⟩) kW ?_
           try simp only [Act.put, sT, s0, sS]
           refine tk 39 ⟨_, _, _, _, _, _⟩ undef rfl (by kernel_rfl) (by kernel_rfl) (by kernel_rfl) (fun _ _ _ h => h) (Or.inr ⟨by rfl, rfl⟩) kW ?_
           try simp only [Act.put, sT, s0, sS]
           refine tk 40 ⟨_, _, _, _, _, _⟩ undef rfl (by kernel_rfl) (by kernel_rfl) (by kernel_rfl) (fun _ _ _ h => h) (Or.inr ⟨by rfl, rfl⟩) kW ?_
           try simp only [Act.put, sT, s0, sS]
           refine tk 41 ⟨_, _, _, _, _, _⟩ undef rfl (by kernel_rfl) (by kernel_rfl) (by kernel_rfl) (fun _ _ _ h => h) (Or.inr ⟨by rfl, rfl⟩) kW ?_
           try simp only [Act.put, sT, s0, sS]
           refine tk 42 ⟨_, _, _, _, _, _⟩ undef rfl (by kernel_rfl) (by kernel_rfl) (by kernel_rfl) (fun _ _ _ h => h) (Or.inr ⟨by rfl, rfl⟩) kW ?_
           try simp only [Act.put, sT, s0, sS]
           refine tk 43 ⟨_, _, _, _, _, _⟩ undef rfl (by kernel_rfl) (by kernel_rfl) (by kernel_rfl) (fun _ _ _ h => h) (Or.inr ⟨by rfl, rfl⟩) kW ?_
           try simp only [Act.put, sT, s0, sS]
           refine tk 44 ⟨_, _, _, _, _, _⟩ ?_ rfl (by kernel_rfl) (by kernel_rfl) (by kernel_rfl) (fun _ _ _ h => h) (Or.inl ⟨by rfl, ?_⟩) kW ?_
           rotate_left
           · intro w' hSw; clear hSw; (go_simp; try with_reducible rfl)
           try simp only [Act.put, sT, s0, sS]
           refine tk 45 ⟨_, _, _, _, _, _⟩ ?_ rfl (by kernel_rfl) (by kernel_rfl) (by kernel_rfl) (fun _ _ _ h => h) (Or.inl ⟨by rfl, ?_⟩) kW ?_
           rotate_left
           · intro w' hSw; clear hSw; (go_simp; try with_reducible rfl)
           try simp only [Act.put, sT, s0, sS]
           refine wpAnyH_done (by kernel_rfl) ?_ _
           have HKW := Lib.hid kW
           clear kW
           have HV := Lib.hid (show B2 = false by rw [← HB2.out]; simp only [D0, Bool.true_and, Bool.and_true, Bool.false_and, Bool.and_false, Bool.or_true, Bool.true_or, Bool.or_false, Bool.false_or])
           go_wp2_with fail
           go_meet
           case rel => exact ⟨by rw [HV.out], HKW.out⟩
        rotate_left 2
        focus
         refine wpAnyH_ready (rs := [3]) (by kernel_rfl) (by simp) ?_
         refine AllReadyH.cons (o := ⟨_, _, _, _, _, _⟩) rfl (fun K hK => ?_) AllReadyH.nil
         go_simp
         refine (hasNumR p.kind _).mono ?_; rintro e w' ⟨rfl, kk⟩
         replace kW := kW.then kk (by simp)
         clear kk
         rw [h0]
         go_wp2_with fail
         refine hK.out _ _ kW (fun _ => ?_)
         clear hK K
         try simp only [Act.put, sT, s0, sS]
         refine tk 4 ⟨_, _, _, _, _, _⟩ ?_ rfl (by kernel_rfl) (by kernel_rfl) (by kernel_rfl) (fun _ _ _ h => h) (Or.inl ⟨by rfl, ?_⟩) kW ?_
         rotate_left
         · intro w' hSw; clear hSw; (go_simp; try with_reducible rfl)
         try simp only [Act.put, sT, s0, sS]
         refine tk 5 ⟨_, _, _, _, _, _⟩ undef rfl (by kernel_rfl) (by kernel_rfl) (by kernel_rfl) (fun _ _ _ h => h) (Or.inr ⟨by rfl, rfl⟩) kW ?_
         try simp only [Act.put, sT, s0, sS]
         refine tk 6 ⟨_, _, _, _, _, _⟩ undef rfl (by kernel_rfl) (by kernel_rfl) (by kernel_rfl) (fun _ _ _ h => h) (Or.inr ⟨by rfl, rfl⟩) kW ?_
         try simp only [Act.put, sT, s0, sS]
         refine tk 7 ⟨_, _, _, _, _, _⟩ undef rfl (by kernel_rfl) (by kernel_rfl) (by kernel_rfl) (fun _ _ _ h => h) (Or.inr ⟨by rfl, rfl⟩) kW ?_
         try simp only [Act.put, sT, s0, sS]
         refine tk 8 ⟨_, _, _, _, _, _⟩ ?_ rfl (by kernel_rfl) (by kernel_rfl) (by kernel_rfl) (fun _ _ _ h => h) (Or.inl ⟨by rfl, ?_⟩) kW ?_
         rotate_left
         · intro w' hSw; clear hSw; (go_simp; try with_reducible rfl)
         try simp only [Act.put, sT, s0, sS]
         refine tk 9 ⟨_, _, _, _, _, _⟩ ?_ rfl (by kernel_rfl) (by kernel_rfl) (by kernel_rfl) (fun _ _ _ h => h) (Or.inl ⟨by rfl, ?_⟩) kW ?_
         rotate_left
         · intro w' hSw; clear hSw; (go_simp; try with_reducible rfl)
         try simp only [Act.put, sT, s0, sS]
         refine tk 10 ⟨_, _, _, _, _, _⟩ ?_ rfl (by kernel_rfl) (by kernel_rfl) (by kernel_rfl) (fun _ _ _ h => h) (Or.inl ⟨by rfl, ?_⟩) kW ?_
         rotate_left
         · intro w' hSw; clear hSw; (go_simp; try with_reducible rfl)
         try simp only [Act.put, sT, s0, sS]
         refine tk 11 ⟨_, _, _, _, _, _⟩ ?_ rfl (by kernel_rfl) (by kernel_rfl) (by kernel_rfl) (fun _ _ _ h => h) (Or.inl ⟨by rfl, ?_⟩) kW ?_
         rotate_left
         · intro w' hSw; have xc := (HP.out w' hSw).c3; clear hSw; (go_simp; try with_reducible rfl)
         try simp only [Act.put, sT, s0, sS]
         refine (Bool.eq_false_or_eq_true (p.num == 0)).elim (fun z0 => ?_) (fun z0 => ?_)
         focus
          refine tk 12 ⟨_, _, _, _, _, _⟩ ?_ rfl (by kernel_rfl) (by kernel_rfl) (by kernel_rfl) (fun _ _ _ h => h) (Or.inl ⟨by rfl, ?_⟩) kW ?_
          rotate_left
          · intro w' hSw; clear hSw; (go_simp; try with_reducible rfl)
          try simp only [Act.put, sT, s0, sS]
          refine tk 13 ⟨_, _, _, _, _, _⟩ ?_ rfl (by kernel_rfl) (by kernel_rfl) (by kernel_rfl) (fun _ _ _ h => h) (Or.inl ⟨by rfl, ?_⟩) kW ?_
          rotate_left
          · intro w' hSw; clear hSw; (go_simp; try with_reducible rfl)
          try simp only [Act.put, sT, s0, sS]
          refine tk 14 ⟨_, _, _, _, _, _⟩ ?_ rfl (by kernel_rfl) (by kernel_rfl) (by kernel_rfl) (fun _ _ _ h => h) (Or.inl ⟨by rfl, ?_⟩) kW ?_
          rotate_left
          · intro w' hSw; clear hSw; (go_simp; try with_reducible rfl)
          try simp only [Act.put, sT, s0, sS]
          refine tk 15 ⟨_, _, _, _, _, _⟩ ?_ rfl (by kernel_rfl) (by kernel_rfl) (by kernel_rfl) (fun _ _ _ h => h) (Or.inl ⟨by rfl, ?_⟩) kW ?_
          rotate_left
          · intro w' hSw; clear hSw; (go_simp; try with_reducible rfl)
          try simp only [Act.put, sT, s0, sS]
          have D0 : p.numD = true := by simp only [PK.numD, h0, z0, Bool.true_and, Bool.and_true, Bool.false_and, Bool.and_false, Bool.or_true, Bool.true_or, Bool.or_false, Bool.false_or]
          clear h0 z0
         rotate_left
         focus
          refine tk 12 ⟨_, _, _, _, _, _⟩ ?_ rfl (by kernel_rfl) (by kernel_rfl) (by kernel_rfl) (fun _ _ _ h => h) (Or.inl ⟨by rfl, ?_⟩) kW ?_
          rotate_left
          · intro w' hSw; clear hSw; (go_simp; try with_reducible rfl)
          try simp only [Act.put, sT, s0, sS]
          refine tk 13 ⟨_, _, _, _, _, _⟩ ?_ rfl (by kernel_rfl) (by kernel_rfl) (by kernel_rfl) (fun _ _ _ h => h) (Or.inl ⟨by rfl, ?_⟩) kW ?_
          rotate_left
          · intro w' hSw; clear hSw; (go_simp; try with_reducible rfl)
          try simp only [Act.put, sT, s0, sS]
          refine tk 14 ⟨_, _, _, _, _, _⟩ ?_ rfl (by kernel_rfl) (by kernel_rfl) (by kernel_rfl) (fun _ _ _ h => h) (Or.inl ⟨by rfl, ?_⟩) kW ?_
          rotate_left
          · intro w' hSw; clear hSw; (go_simp; try with_reducible rfl)
          try simp only [Act.put, sT, s0, sS]
          refine tk 15 ⟨_, _, _, _, _, _⟩ ?_ rfl (by kernel_rfl) (by kernel_rfl) (by kernel_rfl) (fun _ _ _ h => h) (Or.inl ⟨by rfl, ?_⟩) kW ?_
          rotate_left
          · intro w' hSw; clear hSw; (go_simp; try with_reducible rfl)
          try simp only [Act.put, sT, s0, sS]
          have D0 : p.numD = false := by simp only [PK.numD, h0, z0, Bool.true_and, Bool.and_true, Bool.false_and, Bool.and_false, Bool.or_true, Bool.true_or, Bool.or_false, Bool.false_or]
          clear h0 z0
          refine tk 16 ⟨_, _, _, _, _, _⟩ undef rfl (by kernel_rfl) (by kernel_rfl) (by kernel_rfl) (fun _ _ _ h => h) (Or.inr ⟨by rfl, rfl⟩) kW ?_
          try simp only [Act.put, sT, s0, sS]
          refine tk 17 ⟨_, _, _, _, _, _⟩ undef rfl (by kernel_rfl) (by kernel_rfl) (by kernel_rfl) (fun _ _ _ h => h) (Or.inr ⟨by rfl, rfl⟩) kW ?_
          try simp only [Act.put, sT, s0, sS]
          refine tk 18 ⟨_, _, _, _, _, _⟩ undef rfl (by kernel_rfl) (by kernel_rfl) (by kernel_rfl) (fun _ _ _ h => h) (Or.inr ⟨by rfl, rfl⟩) kW ?_
          try simp only [Act.put, sT, s0, sS]
          refine tk 19 ⟨_, _, _, _, _, _⟩ undef rfl (by kernel_rfl) (by kernel_rfl) (by kernel_rfl) (fun _ _ _ h => h) (Or.inr ⟨by rfl, rfl⟩) kW ?_
          try simp only [Act.put, sT, s0, sS]
          refine tk 20 ⟨_, _, _, _, _, _⟩ undef rfl (by kernel_rfl) (by kernel_rfl) (by kernel_rfl) (fun _ _ _ h => h) (Or.inr ⟨by rfl, rfl⟩) kW ?_
          try simp only [Act.put, sT, s0, sS]
          refine tk 21 ⟨_, _, _, _, _, _⟩ undef rfl (by kernel_rfl) (by kernel_rfl) (by kernel_rfl) (fun _ _ _ h => h) (Or.inr ⟨by rfl, rfl⟩) kW ?_
          try simp only [Act.put, sT, s0, sS]
          refine tk 22 ⟨_, _, _, _, _, _⟩ undef rfl (by kernel_rfl) (by kernel_rfl) (by kernel_rfl) (fun _ _ _ h => h) (Or.inr ⟨by rfl, rfl⟩) kW ?_
          try simp only [Act.put, sT, s0, sS]
          refine tk 23 ⟨_, _, _, _, _, _⟩ undef rfl (by kernel_rfl) (by kernel_rfl) (by kernel_rfl) (fun _ _ _ h => h) (Or.inr ⟨by rfl, rfl⟩) kW ?_
          try simp only [Act.put, sT, s0, sS]
          refine tk 24 ⟨_, _, _, _, _, _⟩ undef rfl (by kernel_rfl) (by kernel_rfl) (by kernel_rfl) (fun _ _ _ h => h) (Or.inr ⟨by rfl, rfl⟩) kW ?_
          try simp only [Act.put, sT, s0, sS]
          refine tk 25 ⟨_, _, _, _, _, _⟩ undef rfl (by kernel_rfl) (by kernel_rfl) (by kernel_rfl) (fun _ _ _ h => h) (Or.inr ⟨by rfl, rfl⟩) kW ?_
          try simp only [Act.put, sT, s0, sS]
          refine tk 26 ⟨_, _, _, _, _, _⟩ undef rfl (by kernel_rfl) (by kernel_rfl) (by kernel_rfl) (fun _ _ _ h => h) (Or.inr ⟨by rfl, rfl⟩) kW ?_
          try simp only [Act.put, sT, s0, sS]
          refine tk 27 ⟨_, _, _, _, _, _⟩ undef rfl (by kernel_rfl) (by kernel_rfl) (by kernel_rfl) (fun _ _ _ h => h) (Or.inr ⟨by rfl, rfl⟩) kW ?_
          try simp only [Act.put, sT, s0, sS]
          refine tk 28 ⟨_, _, _, _, _, _⟩ undef rfl (by kernel_rfl) (by kernel_rfl) (by kernel_rfl) (fun _ _ _ h => h) (Or.inr ⟨by rfl, rfl⟩) kW ?_
          try simp only [Act.put, sT, s0, sS]
          refine tk 29 ⟨_, _, _, _, _, _⟩ undef rfl (by kernel_rfl) (by kernel_rfl) (by kernel_rfl) (fun _ _ _ h => h) (Or.inr ⟨by rfl, rfl⟩) kW ?_
          try simp only [Act.put, sT, s0, sS]
          refine tk 30 ⟨_, _, _, _, _, _⟩ ?_ rfl (by kernel_rfl) (by kernel_rfl) (by kernel_rfl) (fun _ _ _ h => h) (Or.inl ⟨by rfl, ?_⟩) kW ?_
          rotate_left
          · intro w' hSw; clear hSw; (go_simp; try with_reducible rfl)
          try simp only [Act.put, sT, s0, sS]
          refine tk 31 ⟨_, _, _, _, _, _⟩ ?_ rfl (by kernel_rfl) (by kernel_rfl) (by kernel_rfl) (fun _ _ _ h => h) (Or.inl ⟨by rfl, ?_⟩) kW ?_
          rotate_left
          · intro w' hSw; clear hSw; (go_simp; try with_reducible rfl)
          try simp only [Act.put, sT, s0, sS]
          refine tk 32 ⟨_, _, _, _, _, _⟩ undef rfl (by kernel_rfl) (by kernel_rfl) (by kernel_rfl) (fun _ _ _ h => h) (Or.inr ⟨by rfl, rfl⟩) kW ?_
          try simp only [Act.put, sT, s0, sS]
          refine tk 33 ⟨_, _, _, _, _, _⟩ undef rfl (by kernel_rfl) (by kernel_rfl) (by kernel_rfl) (fun _ _ _ h => h) (Or.inr ⟨by rfl, rfl⟩) kW ?_
          try simp only [Act.put, sT, s0, sS]
          refine tk 34 ⟨_, _, _, _, _, _⟩ undef rfl (by kernel_rfl) (by kernel_rfl) (by kernel_rfl) (fun _ _ _ h => h) (Or.inr ⟨by rfl, rfl⟩) kW ?_
          try simp only [Act.put, sT, s0, sS]
          refine tk 35 ⟨_, _, _, _, _, _⟩ undef rfl (by kernel_rfl) (by kernel_rfl) (by kernel_rfl) (fun _ _ _ h => h) (Or.inr ⟨by rfl, rfl⟩) kW ?_
          try simp only [Act.put, sT, s0, sS]
          refine tk 36 ⟨_, _, _, _, _, _⟩ undef rfl (by kernel_rfl) (by kernel_rfl) (by kernel_rfl) (fun _ _ _ h => h) (Or.inr ⟨by rfl, rfl⟩) kW ?_
          try simp only [Act.put, sT, s0, sS]
          refine tk 37 ⟨_, _, _, _, _, _⟩ undef rfl (by kernel_rfl) (by kernel_rfl) (by kernel_rfl) (fun _ _ _ h => h) (Or.inr ⟨by rfl, rfl⟩) kW ?_
          try simp only [Act.put, sT, s0, sS]
          refine tk 38 ⟨_, _, _, _, _, _⟩ undef rfl (by kernel_rfl) (by kernel_rfl) (by kernel_rfl) (fun _ _ _ h => h) (Or.inr ⟨by rfl, rfl⟩) kW ?_
          try simp only [Act.put, sT, s0, sS]
          refine tk 39 ⟨_, _, _, _, _, _⟩ undef rfl (by kernel_rfl) (by kernel_rfl) (by kernel_rfl) (fun _ _ _ h => h) (Or.inr ⟨by rfl, rfl⟩) kW ?_
          try simp only [Act.put, sT, s0, sS]
          refine tk 40 ⟨_, _, _, _, _, _⟩ undef rfl (by kernel_rfl) (by kernel_rfl) (by kernel_rfl) (fun _ _ _ h => h) (Or.inr ⟨by rfl, rfl⟩) kW ?_
          try simp only [Act.put, sT, s0, sS]
          refine tk 41 ⟨_, _, _, _, _, _⟩ undef rfl (by kernel_rfl) (by kernel_rfl) (by kernel_rfl) (fun _ _ _ h => h) (Or.inr ⟨by rfl, rfl⟩) kW ?_
          try simp only [Act.put, sT, s0, sS]
          refine tk 42 ⟨_, _, _, _, _, _⟩ undef rfl (by kernel_rfl) (by kernel_rfl) (by kernel_rfl) (fun _ _ _ h => h) (Or.inr ⟨by rfl, rfl⟩) kW ?_
          try simp only [Act.put, sT, s0, sS]
          refine tk 43 ⟨_, _, _, _, _, _⟩ undef rfl (by kernel_rfl) (by kernel_rfl) (by kernel_rfl) (fun _ _ _ h => h) (Or.inr ⟨by rfl, rfl⟩) kW ?_
          try simp only [Act.put, sT, s0, sS]
          refine tk 44 ⟨_, _, _, _, _, _⟩ ?_ rfl (by kernel_rfl) (by kernel_rfl) (by kernel_rfl) (fun _ _ _ h => h) (Or.inl ⟨by rfl, ?_⟩) kW ?_
          rotate_left
          · intro w' hSw; clear hSw; (go_simp; try with_reducible rfl)
          try simp only [Act.put, sT, s0, sS]
          refine tk 45 ⟨_, _, _, _, _, _⟩ ?_ rfl (by kernel_rfl) (by kernel_rfl) (by kernel_rfl) (fun _ _ _ h => h) (Or.inl ⟨by rfl, ?_⟩) kW ?_
          rotate_left
          · intro w' hSw; clear hSw; (go_simp; try with_reducible rfl)
          try simp only [Act.put, sT, s0, sS]
          refine wpAnyH_done (by kernel_rfl) ?_ _
          have HKW := Lib.hid kW
          clear kW
          have HV := Lib.hid (show B2 = false by rw [← HB2.out]; simp only [D0, Bool.true_and, Bool.and_true, Bool.false_and, Bool.and_false, Bool.or_true, Bool.true_or, Bool.or_false, Bool.false_or])
          go_wp2_with fail
          go_meet
          case rel => exact ⟨by rw [HV.out], HKW.out⟩
        all_goals
         refine tk 16 ⟨_, _, _, _, _, _⟩ ?_ rfl (by kernel_rfl) (by kernel_rfl) (by kernel_rfl) (fun _ _ _ h => h) (Or.inl ⟨by rfl, ?_⟩) kW ?_
         rotate_left
         · intro w' hSw; clear hSw; (go_simp; try with_reducible rfl)
         try simp only [Act.put, sT, s0, sS]
         refine (Bool.eq_false_or_eq_true (seqK.contains p.kind)).elim (fun h1 => ?_) (fun h1 => ?_)
         focus
          refine wpAnyH_ready (rs := [17]) (by kernel_rfl) (by simp) ?_
          refine AllReadyH.cons (o := ⟨_, _, _, _, _, _⟩) rfl (fun K hK => ?_) AllReadyH.nil
          go_simp
          refine (hasSeqR p.kind _).mono ?_; rintro e w' ⟨rfl, kk⟩
          replace kW := kW.then kk (by simp)
          clear kk
          rw [h1]
          go_wp2_with fail
          refine hK.out _ _ kW (fun _ => ?_)
          clear hK K
          try simp only [Act.put, sT, s0, sS]
          refine tk 18 ⟨_, _, _, _, _, _⟩ ?_ rfl (by kernel_rfl) (by kernel_rfl) (by kernel_rfl) (fun _ _ _ h => h) (Or.inl ⟨by rfl, ?_⟩) kW ?_
          rotate_left
          · intro w' hSw; clear hSw; (go_simp; try with_reducible rfl)
          try simp only [Act.put, sT, s0, sS]
          refine tk 19 ⟨_, _, _, _, _, _⟩ ?_ rfl (by kernel_rfl) (by kernel_rfl) (by kernel_rfl) (fun _ _ _ h => h) (Or.inl ⟨by rfl, ?_⟩) kW ?_
          rotate_left
          · intro w' hSw; clear hSw; (go_simp; try with_reducible rfl)
          try simp only [Act.put, sT, s0, sS]
          refine tk 20 ⟨_, _, _, _, _, _⟩ ?_ rfl (by kernel_rfl) (by kernel_rfl) (by kernel_rfl) (fun _ _ _ h => h) (Or.inl ⟨by rfl, ?_⟩) kW ?_
          rotate_left
          · intro w' hSw; have xc := (HP.out w' hSw).c4; clear hSw; (go_simp; try with_reducible rfl)
          try simp only [Act.put, sT, s0, sS]
          refine (Bool.eq_false_or_eq_true (inP p.seq (leastP p.kind) 9007199254740990)).elim (fun i1 => ?_) (fun i1 => ?_)
          focus
           refine tk 21 ⟨_, _, _, _, _, _⟩ ?_ rfl (by kernel_rfl) (by kernel_rfl) (by kernel_rfl) (fun _ _ _ h => h) (Or.inl ⟨by rfl, ?_⟩) kW ?_
           rotate_left
           · intro w' hSw; clear hSw; (go_simp; try with_reducible rfl)
           try simp only [Act.put, sT, s0, sS]
           refine wpAnyH_ready (rs := [22]) (by kernel_rfl) (by simp) ?_
           refine AllReadyH.cons (o := ⟨_, _, _, _, _, _⟩) rfl (fun K hK => ?_) AllReadyH.nil
           go_simp
           refine (leastR p.kind _).mono ?_; rintro e w' ⟨rfl, rfl⟩
           go_wp2_with fail
           refine hK.out _ _ kW (fun _ => ?_)
           clear hK K
           try simp only [Act.put, sT, s0, sS]
           refine wpAnyH_ready (rs := [23]) (by kernel_rfl) (by simp) ?_
           refine AllReadyH.cons (o := ⟨_, _, _, _, _, _⟩) rfl (fun K hK => ?_) AllReadyH.nil
           go_simp
           refine (withinR p.seq (leastP p.kind) 9007199254740990 _).mono ?_; rintro e w' ⟨rfl, rfl⟩
           rw [i1]
           go_wp2_with fail
           refine hK.out _ _ kW (fun _ => ?_)
           clear hK K
           try simp only [Act.put, sT, s0, sS]
           refine tk 24 ⟨_, _, _, _, _, _⟩ ?_ rfl (by kernel_rfl) (by kernel_rfl) (by kernel_rfl) (fun _ _ _ h => h) (Or.inl ⟨by rfl, ?_⟩) kW ?_
           rotate_left
           · intro w' hSw; clear hSw; (go_simp; try with_reducible rfl)
           try simp only [Act.put, sT, s0, sS]
           refine tk 25 ⟨_, _, _, _, _, _⟩ ?_ rfl (by kernel_rfl) (by kernel_rfl) (by kernel_rfl) (fun _ _ _ h => h) (Or.inl ⟨by rfl, ?_⟩) kW ?_
           rotate_left
           · intro w' hSw; clear hSw; (go_simp; try with_reducible rfl)
           try simp only [Act.put, sT, s0, sS]
           refine tk 26 ⟨_, _, _, _, _, _⟩ undef rfl (by kernel_rfl) (by kernel_rfl) (by kernel_rfl) (fun _ _ _ h => h) (Or.inr ⟨by rfl, rfl⟩) kW ?_
           try simp only [Act.put, sT, s0, sS]
           refine tk 27 ⟨_, _, _, _, _, _⟩ undef rfl (by kernel_rfl) (by kernel_rfl) (by kernel_rfl) (fun _ _ _ h => h) (Or.inr ⟨by rfl, rfl⟩) kW ?_
           try simp only [Act.put, sT, s0, sS]
           refine tk 28 ⟨_, _, _, _, _, _⟩ undef rfl (by kernel_rfl) (by kernel_rfl) (by kernel_rfl) (fun _ _ _ h => h) (Or.inr ⟨by rfl, rfl⟩) kW ?_
           try simp only [Act.put, sT, s0, sS]
           refine tk 29 ⟨_, _, _, _, _, _⟩ ?_ rfl (by kernel_rfl) (by kernel_rfl) (by kernel_rfl) (fun _ _ _ h => h) (Or.inl ⟨by rfl, ?_⟩) kW ?_
           rotate_left
           · intro w' hSw; clear hSw; (go_simp; try with_reducible rfl)
           try simp only [Act.put, sT, s0, sS]
           refine tk 30 ⟨_, _, _, _, _, _⟩ ?_ rfl (by kernel_rfl) (by kernel_rfl) (by kernel_rfl) (fun _ _ _ h => h) (Or.inl ⟨by rfl, ?_⟩) kW ?_
           rotate_left
           · intro w' hSw; clear hSw; (go_simp; try with_reducible rfl)
           try simp only [Act.put, sT, s0, sS]
           refine tk 31 ⟨_, _, _, _, _, _⟩ ?_ rfl (by kernel_rfl) (by kernel_rfl) (by kernel_rfl) (fun _ _ _ h => h) (Or.inl ⟨by rfl, ?_⟩) kW ?_
           rotate_left
           · intro w' hSw; clear hSw; (go_simp; try with_reducible rfl)
           try simp only [Act.put, sT, s0, sS]
           have D1 : p.seqD = true := by simp only [PK.seqD, h1, i1, Bool.true_and, Bool.and_true, Bool.false_and, Bool.and_false, Bool.or_true, Bool.true_or, Bool.or_false, Bool.false_or]
           clear h1 i1
          rotate_left
          focus
           refine tk 21 ⟨_, _, _, _, _, _⟩ ?_ rfl (by kernel_rfl) (by kernel_rfl) (by kernel_rfl) (fun _ _ _ h => h) (Or.inl ⟨by rfl, ?_⟩) kW ?_
           rotate_left
           · intro w' hSw; clear hSw; (go_simp; try with_reducible rfl)
           try simp only [Act.put, sT, s0, sS]
           refine wpAnyH_ready (rs := [22]) (by kernel_rfl) (by simp) ?_
           refine AllReadyH.cons (o := ⟨_, _, _, _, _, _⟩) rfl (fun K hK => ?_) AllReadyH.nil
           go_simp
           refine (leastR p.kind _).mono ?_; rintro e w' ⟨rfl, rfl⟩
           go_wp2_with fail
           refine hK.out _ _ kW (fun _ => ?_)
           clear hK K
           try simp only [Act.put, sT, s0, sS]
           refine wpAnyH_ready (rs := [23]) (by kernel_rfl) (by simp) ?_
           refine AllReadyH.cons (o := ⟨_, _, _, _, _, _⟩) rfl (fun K hK => ?_) AllReadyH.nil
           go_simp
           refine (withinR p.seq (leastP p.kind) 9007199254740990 _).mono ?_; rintro e w' ⟨rfl, rfl⟩
           rw [i1]
           go_wp2_with fail
           refine hK.out _ _ kW (fun _ => ?_)
           clear hK K
           try simp only [Act.put, sT, s0, sS]
           refine tk 24 ⟨_, _, _, _, _, _⟩ ?_ rfl (by kernel_rfl) (by kernel_rfl) (by kernel_rfl) (fun _ _ _ h => h) (Or.inl ⟨by rfl, ?_⟩) kW ?_
           rotate_left
           · intro w' hSw; clear hSw; (go_simp; try with_reducible rfl)
           try simp only [Act.put, sT, s0, sS]
           refine tk 25 ⟨_, _, _, _, _, _⟩ ?_ rfl (by kernel_rfl) (by kernel_rfl) (by kernel_rfl) (fun _ _ _ h => h) (Or.inl ⟨by rfl, ?_⟩) kW ?_
           rotate_left
           · intro w' hSw; clear hSw; (go_simp; try with_reducible rfl)
           try simp only [Act.put, sT, s0, sS]
           refine tk 26 ⟨_, _, _, _, _, _⟩ ?_ rfl (by kernel_rfl) (by kernel_rfl) (by kernel_rfl) (fun _ _ _ h => h) (Or.inl ⟨by rfl, ?_⟩) kW ?_
           rotate_left
           · intro w' hSw; clear hSw; (go_simp; try with_reducible rfl)
           try simp only [Act.put, sT, s0, sS]
           refine tk 27 ⟨_, _, _, _, _, _⟩ ?_ rfl (by kernel_rfl) (by kernel_rfl) (by kernel_rfl) (fun _ _ _ h => h) (Or.inl ⟨by rfl, ?_⟩) kW ?_
           rotate_left
           · intro w' hSw; have xc := (HP.out w' hSw).c4; clear hSw; (go_simp; try with_reducible rfl)
           try simp only [Act.put, sT, s0, sS]
           refine (Bool.eq_false_or_eq_true (p.seq == 0)).elim (fun z1 => ?_) (fun z1 => ?_)
           focus
            refine tk 28 ⟨_, _, _, _, _, _⟩ ?_ rfl (by kernel_rfl) (by kernel_rfl) (by kernel_rfl) (fun _ _ _ h => h) (Or.inl ⟨by rfl, ?_⟩) kW ?_
            rotate_left
            · intro w' hSw; clear hSw; (go_simp; try with_reducible rfl)
            try simp only [Act.put, sT, s0, sS]
            refine tk 29 ⟨_, _, _, _, _, _⟩ ?_ rfl (by kernel_rfl) (by kernel_rfl) (by kernel_rfl) (fun _ _ _ h => h) (Or.inl ⟨by rfl, ?_⟩) kW ?_
            rotate_left
            · intro w' hSw; clear hSw; (go_simp; try with_reducible rfl)
            try simp only [Act.put, sT, s0, sS]
            refine tk 30 ⟨_, _, _, _, _, _⟩ ?_ rfl (by kernel_rfl) (by kernel_rfl) (by kernel_rfl) (fun _ _ _ h => h) (Or.inl ⟨by rfl, ?_⟩) kW ?_
            rotate_left
            · intro w' hSw; clear hSw; (go_simp; try with_reducible rfl)
            try simp only [Act.put, sT, s0, sS]
            refine tk 31 ⟨_, _, _, _, _, _⟩ ?_ rfl (by kernel_rfl) (by kernel_rfl) (by kernel_rfl) (fun _ _ _ h => h) (Or.inl ⟨by rfl, ?_⟩) kW ?_
            rotate_left
            · intro w' hSw; clear hSw; (go_simp; try with_reducible rfl)
            try simp only [Act.put, sT, s0, sS]
            have D1 : p.seqD = true := by simp only [PK.seqD, h1, i1, z1, Bool.true_and, Bool.and_true, Bool.false_and, Bool.and_false, Bool.or_true, Bool.true_or, Bool.or_false, Bool.false_or]
            clear h1 i1 z1
           rotate_left
           focus
            refine tk 28 ⟨_, _, _, _, _, _⟩ ?_ rfl (by kernel_rfl) (by kernel_rfl) (by kernel_rfl) (fun _ _ _ h => h) (Or.inl ⟨by rfl, ?_⟩) kW ?_
            rotate_left
            · intro w' hSw; clear hSw; (go_simp; try with_reducible rfl)
            try simp only [Act.put, sT, s0, sS]
            refine tk 29 ⟨_, _, _, _, _, _⟩ ?_ rfl (by kernel_rfl) (by kernel_rfl) (by kernel_rfl) (fun _ _ _ h => h) (Or.inl ⟨by rfl, ?_⟩) kW ?_
            rotate_left
            · intro w' hSw; clear hSw; (go_simp; try with_reducible rfl)
            try simp only [Act.put, sT, s0, sS]
            refine tk 30 ⟨_, _, _, _, _, _⟩ ?_ rfl (by kernel_rfl) (by kernel_rfl) (by kernel_rfl) (fun _ _ _ h => h) (Or.inl ⟨by rfl, ?_⟩) kW ?_
            rotate_left
            · intro w' hSw; clear hSw; (go_simp; try with_reducible rfl)
            try simp only [Act.put, sT, s0, sS]
            refine tk 31 ⟨_, _, _, _, _, _⟩ ?_ rfl (by kernel_rfl) (by kernel_rfl) (by kernel_rfl) (fun _ _ _ h => h) (Or.inl ⟨by rfl, ?_⟩) kW ?_
            rotate_left
            · intro w' hSw; clear hSw; (go_simp; try with_reducible rfl)
            try simp only [Act.put, sT, s0, sS]
            have D1 : p.seqD = false := by simp only [PK.seqD, h1, i1, z1, Bool.true_and, Bool.and_true, Bool.false_and, Bool.and_false, Bool.or_true, Bool.true_or, Bool.or_false, Bool.false_or]
            clear h1 i1 z1
            refine tk 32 ⟨_, _, _, _, _, _⟩ undef rfl (by kernel_rfl) (by kernel_rfl) (by kernel_rfl) (fun _ _ _ h => h) (Or.inr ⟨by rfl, rfl⟩) kW ?_
            try simp only [Act.put, sT, s0, sS]
            refine tk 33 ⟨_, _, _, _, _, _⟩ undef rfl (by kernel_rfl) (by kernel_rfl) (by kernel_rfl) (fun _ _ _ h => h) (Or.inr ⟨by rfl, rfl⟩) kW ?_
            try simp only [Act.put, sT, s0, sS]
            refine tk 34 ⟨_, _, _, _, _, _⟩ undef rfl (by kernel_rfl) (by kernel_rfl) (by kernel_rfl) (fun _ _ _ h => h) (Or.inr ⟨by rfl, rfl⟩) kW ?_
            try simp only [Act.put, sT, s0, sS]
            refine tk 35 ⟨_, _, _, _, _, _⟩ undef rfl (by kernel_rfl) (by kernel_rfl) (by kernel_rfl) (fun _ _ _ h => h) (Or.inr ⟨by rfl, rfl⟩) kW ?_
            try simp only [Act.put, sT, s0, sS]
            refine tk 36 ⟨_, _, _, _, _, _⟩ undef rfl (by kernel_rfl) (by kernel_rfl) (by kernel_rfl) (fun _ _ _ h => h) (Or.inr ⟨by rfl, rfl⟩) kW ?_
            try simp only [Act.put, sT, s0, sS]
            refine tk 37 ⟨_, _, _, _, _, _⟩ undef rfl (by kernel_rfl) (by kernel_rfl) (by kernel_rfl) (fun _ _ _ h => h) (Or.inr ⟨by rfl, rfl⟩) kW ?_
            try simp only [Act.put, sT, s0, sS]
            refine tk 38 ⟨_, _, _, _, _, _⟩ undef rfl (by kernel_rfl) (by kernel_rfl) (by kernel_rfl) (fun _ _ _ h => h) (Or.inr ⟨by rfl, rfl⟩) kW ?_
            try simp only [Act.put, sT, s0, sS]
            refine tk 39 ⟨_, _, _, _, _, _⟩ undef rfl (by kernel_rfl) (by kernel_rfl) (by kernel_rfl) (fun _ _ _ h => h) (Or.inr ⟨by rfl, rfl⟩) kW ?_
            try simp only [Act.put, sT, s0, sS]
            refine tk 40 ⟨_, _, _, _, _, _⟩ undef rfl (by kernel_rfl) (by kernel_rfl) (by kernel_rfl) (fun _ _ _ h => h) (Or.inr ⟨by rfl, rfl⟩) kW ?_
            try simp only [Act.put, sT, s0, sS]
            refine tk 41 ⟨_, _, _, _, _, _⟩ undef rfl (by kernel_rfl) (by kernel_rfl) (by kernel_rfl) (fun _ _ _ h => h) (Or.inr ⟨by rfl, rfl⟩) kW ?_
            try simp only [Act.put, sT, s0, sS]
            refine tk 42 ⟨_, _, _, _, _, _⟩ undef rfl (by kernel_rfl) (by kernel_rfl) (by kernel_rfl) (fun _ _ _ h => h) (Or.inr ⟨by rfl, rfl⟩) kW ?_
            try simp only [Act.put, sT, s0, sS]
            refine tk 43 ⟨_, _, _, _, _, _⟩ undef rfl (by kernel_rfl) (by kernel_rfl) (by kernel_rfl) (fun _ _ _ h => h) (Or.inr ⟨by rfl, rfl⟩) kW ?_
            try simp only [Act.put, sT, s0, sS]
            refine tk 44 ⟨_, _, _, _, _, _⟩ ?_ rfl (by kernel_rfl) (by kernel_rfl) (by kernel_rfl) (fun _ _ _ h => h) (Or.inl ⟨by rfl, ?_⟩) kW ?_
            rotate_left
            · intro w' hSw; clear hSw; (go_simp; try with_reducible rfl)
            try simp only [Act.put, sT, s0, sS]
            refine tk 45 ⟨_, _, _, _, _, _⟩ ?_ rfl (by kernel_rfl) (by kernel_rfl) (by kernel_rfl) (fun _ _ _ h => h) (Or.inl ⟨by rfl, ?_⟩) kW ?_
            rotate_left
            · intro w' hSw; clear hSw; (go_simp; try with_reducible rfl)
            try simp only [Act.put, sT, s0, sS]
            refine wpAnyH_done (by kernel_rfl) ?_ _
            have HKW := Lib.hid kW
            clear kW
            have HV := Lib.hid (show B2 = false by rw [← HB2.out]; simp only [D0, D1, Bool.true_and, Bool.and_true, Bool.false_and, Bool.and_false, Bool.or_true, Bool.true_or, Bool.or_false, Bool.false_or])
            go_wp2_with fail
            go_meet
            case rel => exact ⟨by rw [HV.out], HKW.out⟩
         rotate_left 2
         focus
          refine wpAnyH_ready (rs := [17]) (by kernel_rfl) (by simp) ?_
          refine AllReadyH.cons (o := ⟨_, _, _, _, _, _⟩) rfl (fun K hK => ?_) AllReadyH.nil
          go_simp
          refine (hasSeqR p.kind _).mono ?_; rintro e w' ⟨rfl, kk⟩
          replace kW := kW.then kk (by simp)
          clear kk
          rw [h1]
          go_wp2_with fail
          refine hK.out _ _ kW (fun _ => ?_)
          clear hK K
          try simp only [Act.put, sT, s0, sS]
          refine tk 18 ⟨_, _, _, _, _, _⟩ ?_ rfl (by kernel_rfl) (by kernel_rfl) (by kernel_rfl) (fun _ _ _ h => h) (Or.inl ⟨by rfl, ?_⟩) kW ?_
          rotate_left
          · intro w' hSw; clear hSw; (go_simp; try with_reducible rfl)
          try simp only [Act.put, sT, s0, sS]
          refine tk 19 ⟨_, _, _, _, _, _⟩ undef rfl (by kernel_rfl) (by kernel_rfl) (by kernel_rfl) (fun _ _ _ h => h) (Or.inr ⟨by rfl, rfl⟩) kW ?_
          try simp only [Act.put, sT, s0, sS]
          refine tk 20 ⟨_, _, _, _, _, _⟩ undef rfl (by kernel_rfl) (by kernel_rfl) (by kernel_rfl) (fun _ _ _ h => h) (Or.inr ⟨by rfl, rfl⟩) kW ?_
          try simp only [Act.put, sT, s0, sS]
          refine tk 21 ⟨_, _, _, _, _, _⟩ undef rfl (by kernel_rfl) (by kernel_rfl) (by kernel_rfl) (fun _ _ _ h => h) (Or.inr ⟨by rfl, rfl⟩) kW ?_
          try simp only [Act.put, sT, s0, sS]
          refine tk 22 ⟨_, _, _, _, _, _⟩ undef rfl (by kernel_rfl) (by kernel_rfl) (by kernel_rfl) (fun _ _ _ h => h) (Or.inr ⟨by rfl, rfl⟩) kW ?_
          try simp only [Act.put, sT, s0, sS]
          refine tk 23 ⟨_, _, _, _, _, _⟩ undef rfl (by kernel_rfl) (by kernel_rfl) (by kernel_rfl) (fun _ _ _ h => h) (Or.inr ⟨by rfl, rfl⟩) kW ?_
          try simp only [Act.put, sT, s0, sS]
          refine tk 24 ⟨_, _, _, _, _, _⟩ ?_ rfl (by kernel_rfl) (by kernel_rfl) (by kernel_rfl) (fun _ _ _ h => h) (Or.inl ⟨by rfl, ?_⟩) kW ?_
          rotate_left
          · intro w' hSw; clear hSw; (go_simp; try with_reducible rfl)
          try simp only [Act.put, sT, s0, sS]
          refine tk 25 ⟨_, _, _, _, _, _⟩ ?_ rfl (by kernel_rfl) (by kernel_rfl) (by kernel_rfl) (fun _ _ _ h => h) (Or.inl ⟨by rfl, ?_⟩) kW ?_
          rotate_left
          · intro w' hSw; clear hSw; (go_simp; try with_reducible rfl)
          try simp only [Act.put, sT, s0, sS]
          refine tk 26 ⟨_, _, _, _, _, _⟩ ?_ rfl (by kernel_rfl) (by kernel_rfl) (by kernel_rfl) (fun _ _ _ h => h) (Or.inl ⟨by rfl, ?_⟩) kW ?_
          rotate_left
          · intro w' hSw; clear hSw; (go_simp; try with_reducible rfl)
          try simp only [Act.put, sT, s0, sS]
          refine tk 27 ⟨_, _, _, _, _, _⟩ ?_ rfl (by kernel_rfl) (by kernel_rfl) (by kernel_rfl) (fun _ _ _ h => h) (Or.inl ⟨by rfl, ?_⟩) kW ?_
          rotate_left
          · intro w' hSw; have xc := (HP.out w' hSw).c4; clear hSw; (go_simp; try with_reducible rfl)
          try simp only [Act.put, sT, s0, sS]
          refine (Bool.eq_false_or_eq_true (p.seq == 0)).elim (fun z1 => ?_) (fun z1 => ?_)
          focus
           refine tk 28 ⟨_, _, _, _, _, _⟩ ?_ rfl (by kernel_rfl) (by kernel_rfl) (by kernel_rfl) (fun _ _ _ h => h) (Or.inl ⟨by rfl, ?_⟩) kW ?_
           rotate_left
           · intro w' hSw; clear hSw; (go_simp; try with_reducible rfl)
           try simp only [Act.put, sT, s0, sS]
           refine tk 29 ⟨_, _, _, _, _, _⟩ ?_ rfl (by kernel_rfl) (by kernel_rfl) (by kernel_rfl) (fun _ _ _ h => h) (Or.inl ⟨by rfl, ?_⟩) kW ?_
           rotate_left
           · intro w' hSw; clear hSw; (go_simp; try with_reducible rfl)
           try simp only [Act.put, sT, s0, sS]
           refine tk 30 ⟨_, _, _, _, _, _⟩ ?_ rfl (by kernel_rfl) (by kernel_rfl) (by kernel_rfl) (fun _ _ _ h => h) (Or.inl ⟨by rfl, ?_⟩) kW ?_
           rotate_left
           · intro w' hSw; clear hSw; (go_simp; try with_reducible rfl)
           try simp only [Act.put, sT, s0, sS]
           refine tk 31 ⟨_, _, _, _, _, _⟩ ?_ rfl (by kernel_rfl) (by kernel_rfl) (by kernel_rfl) (fun _ _ _ h => h) (Or.inl ⟨by rfl, ?_⟩) kW ?_
           rotate_left
           · intro w' hSw; clear hSw; (go_simp; try with_reducible rfl)
           try simp only [Act.put, sT, s0, sS]
           have D1 : p.seqD = true := by simp only [PK.seqD, h1, z1, Bool.true_and, Bool.and_true, Bool.false_and, Bool.and_false, Bool.or_true, Bool.true_or, Bool.or_false, Bool.false_or]
           clear h1 z1
          rotate_left
          focus
           refine tk 28 ⟨_, _, _, _, _, _⟩ ?_ rfl (by kernel_rfl) (by kernel_rfl) (by kernel_rfl) (fun _ _ _ h => h) (Or.inl ⟨by rfl, ?_⟩) kW ?_
           rotate_left
           · intro w' hSw; clear hSw; (go_simp; try with_reducible rfl)
           try simp only [Act.put, sT, s0, sS]
           refine tk 29 ⟨_, _, _, _, _, _⟩ ?_ rfl (by kernel_rfl) (by kernel_rfl) (by kernel_rfl) (fun _ _ _ h => h) (Or.inl ⟨by rfl, ?_⟩) kW ?_
           rotate_left
           · intro w' hSw; clear hSw; (go_simp; try with_reducible rfl)
           try simp only [Act.put, sT, s0, sS]
           refine tk 30 ⟨_, _, _, _, _, _⟩ ?_ rfl (by kernel_rfl) (by kernel_rfl) (by kernel_rfl) (fun _ _ _ h => h) (Or.inl ⟨by rfl, ?_⟩) kW ?_
           rotate_left
           · intro w' hSw; clear hSw; (go_simp; try with_reducible rfl)
           try simp only [Act.put, sT, s0, sS]
           refine tk 31 ⟨_, _, _, _, _, _⟩ ?_ rfl (by kernel_rfl) (by kernel_rfl) (by kernel_rfl) (fun _ _ _ h => h) (Or.inl ⟨by rfl, ?_⟩) kW ?_
           rotate_left
           · intro w' hSw; clear hSw; (go_simp; try with_reducible rfl)
           try simp only [Act.put, sT, s0, sS]
           have D1 : p.seqD = false := by simp only [PK.seqD, h1, z1, Bool.true_and, Bool.and_true, Bool.false_and, Bool.and_false, Bool.or_true, Bool.true_or, Bool.or_false, Bool.false_or]
           clear h1 z1
           refine tk 32 ⟨_, _, _, _, _, _⟩ undef rfl (by kernel_rfl) (by kernel_rfl) (by kernel_rfl) (fun _ _ _ h => h) (Or.inr ⟨by rfl, rfl⟩) kW ?_
           try simp only [Act.put, sT, s0, sS]
           refine tk 33 ⟨_, _, _, _, _, _⟩ undef rfl (by kernel_rfl) (by kernel_rfl) (by kernel_rfl) (fun _ _ _ h => h) (Or.inr ⟨by rfl, rfl⟩) kW ?_
           try simp only [Act.put, sT, s0, sS]
           refine tk 34 ⟨_, _, _, _, _, _⟩ undef rfl (by kernel_rfl) (by kernel_rfl) (by kernel_rfl) (fun _ _ _ h => h) (Or.inr ⟨by rfl, rfl⟩) kW ?_
           try simp only [Act.put, sT, s0, sS]
           refine tk 35 ⟨_, _, _, _, _, _⟩ undef rfl (by kernel_rfl) (by kernel_rfl) (by kernel_rfl) (fun _ _ _ h => h) (Or.inr ⟨by rfl, rfl⟩) kW ?_
           try simp only [Act.put, sT, s0, sS]
           refine tk 36 ⟨_, _, _, _, _, _⟩ undef rfl (by kernel_rfl) (by kernel_rfl) (by kernel_rfl) (fun _ _ _ h => h) (Or.inr ⟨by rfl, rfl⟩) kW ?_
           try simp only [Act.put, sT, s0, sS]
           refine tk 37 ⟨_, _, _, _, _, _⟩ undef rfl (by kernel_rfl) (by kernel_rfl) (by kernel_rfl) (fun _ _ _ h => h) (Or.inr ⟨by rfl, rfl⟩) kW ?_
           try simp only [Act.put, sT, s0, sS]
           refine tk 38 ⟨_, _, _, _, _, _⟩ undef rfl (by kernel_rfl) (by kernel_rfl) (by kernel_rfl) (fun _ _ _ h => h) (Or.inr ⟨by rfl, rfl⟩) kW ?_
           try simp only [Act.put, sT, s0, sS]
           refine tk 39 ⟨_, _, _, _, _, _⟩ undef rfl (by kernel_rfl) (by kernel_rfl) (by kernel_rfl) (fun _ _ _ h => h) (Or.inr ⟨by rfl, rfl⟩) kW ?_
           try simp only [Act.put, sT, s0, sS]
           refine tk 40 ⟨_, _, _, _, _, _⟩ undef rfl (by kernel_rfl) (by kernel_rfl) (by kernel_rfl) (fun _ _ _ h => h) (Or.inr ⟨by rfl, rfl⟩) kW ?_
           try simp only [Act.put, sT, s0, sS]
           refine tk 41 ⟨_, _, _, _, _, _⟩ undef rfl (by kernel_rfl) (by kernel_rfl) (by kernel_rfl) (fun _ _ _ h => h) (Or.inr ⟨by rfl, rfl⟩) kW ?_
           try simp only [Act.put, sT, s0, sS]
           refine tk 42 ⟨_, _, _, _, _, _⟩ undef rfl (by kernel_rfl) (by kernel_rfl) (by kernel_rfl) (fun _ _ _ h => h) (Or.inr ⟨by rfl, rfl⟩) kW ?_
           try simp only [Act.put, sT, s0, sS]
           refine tk 43 ⟨_, _, _, _, _, _⟩ undef rfl (by kernel_rfl) (by kernel_rfl) (by kernel_rfl) (fun _ _ _ h => h) (Or.inr ⟨by rfl, rfl⟩) kW ?_
           try simp only [Act.put, sT, s0, sS]
           refine tk 44 ⟨_, _, _, _, _, _⟩ ?_ rfl (by kernel_rfl) (by kernel_rfl) (by kernel_rfl) (fun _ _ _ h => h) (Or.inl ⟨by rfl, ?_⟩) kW ?_
           rotate_left
           · intro w' hSw; clear hSw; (go_simp; try with_reducible rfl)
           try simp only [Act.put, sT, s0, sS]
           refine tk 45 ⟨_, _, _, _, _, _⟩ ?_ rfl (by kernel_rfl) (by kernel_rfl) (by kernel_rfl) (fun _ _ _ h => h) (Or.inl ⟨by rfl, ?_⟩) kW ?_
           rotate_left
           · intro w' hSw; clear hSw; (go_simp; try with_reducible rfl)
           try simp only [Act.put, sT, s0, sS]
           refine wpAnyH_done (by kernel_rfl) ?_ _
           have HKW := Lib.hid kW
           clear kW
           have HV := Lib.hid (show B2 = false by rw [← HB2.out]; simp only [D0, D1, Bool.true_and, Bool.and_true, Bool.false_and, Bool.and_false, Bool.or_true, Bool.true_or, Bool.or_false, Bool.false_or])
           go_wp2_with fail
           go_meet
           case rel => exact ⟨by rw [HV.out], HKW.out⟩
         all_goals
          refine tk 32 ⟨_, _, _, _, _, _⟩ ?_ rfl (by kernel_rfl) (by kernel_rfl) (by kernel_rfl) (fun _ _ _ h => h) (Or.inl ⟨by rfl, ?_⟩) kW ?_
          rotate_left
          · intro w' hSw; clear hSw; (go_simp; try with_reducible rfl)
          try simp only [Act.put, sT, s0, sS]
          refine (Bool.eq_false_or_eq_true (ballotK.contains p.kind)).elim (fun h2 => ?_) (fun h2 => ?_)
          focus
           refine wpAnyH_ready (rs := [33]) (by kernel_rfl) (by simp) ?_
           refine AllReadyH.cons (o := ⟨_, _, _, _, _, _⟩) rfl (fun K hK => ?_) AllReadyH.nil
           go_simp
           refine (hasBallotR p.kind _).mono ?_; rintro e w' ⟨rfl, kk⟩
           replace kW := kW.then kk (by simp)
           clear kk
           rw [h2]
           go_wp2_with fail
           refine hK.out _ _ kW (fun _ => ?_)
           clear hK K
           try simp only [Act.put, sT, s0, sS]
           refine tk 34 ⟨_, _, _, _, _, _⟩ ?_ rfl (by kernel_rfl) (by kernel_rfl) (by kernel_rfl) (fun _ _ _ h => h) (Or.inl ⟨by rfl, ?_⟩) kW ?_
           rotate_left
           · intro w' hSw; clear hSw; (go_simp; try with_reducible rfl)
           try simp only [Act.put, sT, s0, sS]
           refine tk 35 ⟨_, _, _, _, _, _⟩ ?_ rfl (by kernel_rfl) (by kernel_rfl) (by kernel_rfl) (fun _ _ _ h => h) (Or.inl ⟨by rfl, ?_⟩) kW ?_
           rotate_left
           · intro w' hSw; clear hSw; (go_simp; try with_reducible rfl)
           try simp only [Act.put, sT, s0, sS]
           refine tk 36 ⟨_, _, _, _, _, _⟩ ?_ rfl (by kernel_rfl) (by kernel_rfl) (by kernel_rfl) (fun _ _ _ h => h) (Or.inl ⟨by rfl, ?_⟩) kW ?_
           rotate_left
           · intro w' hSw; have xc := (HP.out w' hSw).c5; clear hSw; (go_simp; try with_reducible rfl)
           try simp only [Act.put, sT, s0, sS]
           refine (Bool.eq_false_or_eq_true (inP p.ballot 0 9007199254740991)).elim (fun i2 => ?_) (fun i2 => ?_)
           focus
            refine wpAnyH_ready (rs := [37]) (by kernel_rfl) (by simp) ?_
            refine AllReadyH.cons (o := ⟨_, _, _, _, _, _⟩) rfl (fun K hK => ?_) AllReadyH.nil
            go_simp
            refine (numberR p.ballot _).mono ?_; rintro e w' ⟨rfl, rfl⟩
            rw [i2]
            go_wp2_with fail
            refine hK.out _ _ kW (fun _ => ?_)
            clear hK K
            try simp only [Act.put, sT, s0, sS]
            refine tk 38 ⟨_, _, _, _, _, _⟩ ?_ rfl (by kernel_rfl) (by kernel_rfl) (by kernel_rfl) (fun _ _ _ h => h) (Or.inl ⟨by rfl, ?_⟩) kW ?_
            rotate_left
            · intro w' hSw; clear hSw; (go_simp; try with_reducible rfl)
            try simp only [Act.put, sT, s0, sS]
            refine tk 39 ⟨_, _, _, _, _, _⟩ ?_ rfl (by kernel_rfl) (by kernel_rfl) (by kernel_rfl) (fun _ _ _ h => h) (Or.inl ⟨by rfl, ?_⟩) kW ?_
            rotate_left
            · intro w' hSw; clear hSw; (go_simp; try with_reducible rfl)
            try simp only [Act.put, sT, s0, sS]
            refine tk 40 ⟨_, _, _, _, _, _⟩ undef rfl (by kernel_rfl) (by kernel_rfl) (by kernel_rfl) (fun _ _ _ h => h) (Or.inr ⟨by rfl, rfl⟩) kW ?_
            try simp only [Act.put, sT, s0, sS]
            refine tk 41 ⟨_, _, _, _, _, _⟩ undef rfl (by kernel_rfl) (by kernel_rfl) (by kernel_rfl) (fun _ _ _ h => h) (Or.inr ⟨by rfl, rfl⟩) kW ?_
            try simp only [Act.put, sT, s0, sS]
            refine tk 42 ⟨_, _, _, _, _, _⟩ undef rfl (by kernel_rfl) (by kernel_rfl) (by kernel_rfl) (fun _ _ _ h => h) (Or.inr ⟨by rfl, rfl⟩) kW ?_
            try simp only [Act.put, sT, s0, sS]
            refine tk 43 ⟨_, _, _, _, _, _⟩ ?_ rfl (by kernel_rfl) (by kernel_rfl) (by kernel_rfl) (fun _ _ _ h => h) (Or.inl ⟨by rfl, ?_⟩) kW ?_
            rotate_left
            · intro w' hSw; clear hSw; (go_simp; try with_reducible rfl)
            try simp only [Act.put, sT, s0, sS]
            refine tk 44 ⟨_, _, _, _, _, _⟩ ?_ rfl (by kernel_rfl) (by kernel_rfl) (by kernel_rfl) (fun _ _ _ h => h) (Or.inl ⟨by rfl, ?_⟩) kW ?_
            rotate_left
            · intro w' hSw; clear hSw; (go_simp; try with_reducible rfl)
            try simp only [Act.put, sT, s0, sS]
            refine tk 45 ⟨_, _, _, _, _, _⟩ ?_ rfl (by kernel_rfl) (by kernel_rfl) (by kernel_rfl) (fun _ _ _ h => h) (Or.inl ⟨by rfl, ?_⟩) kW ?_
            rotate_left
            · intro w' hSw; clear hSw; (go_simp; try with_reducible rfl)
            try simp only [Act.put, sT, s0, sS]
            have D2 : p.balD = true := by simp only [PK.balD, h2, i2, Bool.true_and, Bool.and_true, Bool.false_and, Bool.and_false, Bool.or_true, Bool.true_or, Bool.or_false, Bool.false_or]
            clear h2 i2
           rotate_left
           focus
            refine wpAnyH_ready (rs := [37]) (by kernel_rfl) (by simp) ?_
            refine AllReadyH.cons (o := ⟨_, _, _, _, _, _⟩) rfl (fun K hK => ?_) AllReadyH.nil
            go_simp
            refine (numberR p.ballot _).mono ?_; rintro e w' ⟨rfl, rfl⟩
            rw [i2]
            go_wp2_with fail
            refine hK.out _ _ kW (fun _ => ?_)
            clear hK K
            try simp only [Act.put, sT, s0, sS]
            refine tk 38 ⟨_, _, _, _, _, _⟩ ?_ rfl (by kernel_rfl) (by kernel_rfl) (by kernel_rfl) (fun _ _ _ h => h) (Or.inl ⟨by rfl, ?_⟩) kW ?_
            rotate_left
            · intro w' hSw; clear hSw; (go_simp; try with_reducible rfl)
            try simp only [Act.put, sT, s0, sS]
            refine tk 39 ⟨_, _, _, _, _, _⟩ ?_ rfl (by kernel_rfl) (by kernel_rfl) (by kernel_rfl) (fun _ _ _ h => h) (Or.inl ⟨by rfl, ?_⟩) kW ?_
            rotate_left
            · intro w' hSw; clear hSw; (go_simp; try with_reducible rfl)
            try simp only [Act.put, sT, s0, sS]
            refine tk 40 ⟨_, _, _, _, _, _⟩ ?_ rfl (by kernel_rfl) (by kernel_rfl) (by kernel_rfl) (fun _ _ _ h => h) (Or.inl ⟨by rfl, ?_⟩) kW ?_
            rotate_left
            · intro w' hSw; clear hSw; (go_simp; try with_reducible rfl)
            try simp only [Act.put, sT, s0, sS]
            refine tk 41 ⟨_, _, _, _, _, _⟩ ?_ rfl (by kernel_rfl) (by kernel_rfl) (by kernel_rfl) (fun _ _ _ h => h) (Or.inl ⟨by rfl, ?_⟩) kW ?_
            rotate_left
            · intro w' hSw; have xc := (HP.out w' hSw).c5; clear hSw; (go_simp; try with_reducible rfl)
            try simp only [Act.put, sT, s0, sS]
            refine (Bool.eq_false_or_eq_true (p.ballot == 0)).elim (fun z2 => ?_) (fun z2 => ?_)
            focus
             refine tk 42 ⟨_, _, _, _, _, _⟩ ?_ rfl (by kernel_rfl) (by kernel_rfl) (by kernel_rfl) (fun _ _ _ h => h) (Or.inl ⟨by rfl, ?_⟩) kW ?_
             rotate_left
             · intro w' hSw; clear hSw; (go_simp; try with_reducible rfl)
             try simp only [Act.put, sT, s0, sS]
             refine tk 43 ⟨_, _, _, _, _, _⟩ ?_ rfl (by kernel_rfl) (by kernel_rfl) (by kernel_rfl) (fun _ _ _ h => h) (Or.inl ⟨by rfl, ?_⟩) kW ?_
             rotate_left
             · intro w' hSw; clear hSw; (go_simp; try with_reducible rfl)
             try simp only [Act.put, sT, s0, sS]
             refine tk 44 ⟨_, _, _, _, _, _⟩ ?_ rfl (by kernel_rfl) (by kernel_rfl) (by kernel_rfl) (fun _ _ _ h => h) (Or.inl ⟨by rfl, ?_⟩) kW ?_
             rotate_left
             · intro w' hSw; clear hSw; (go_simp; try with_reducible rfl)
             try simp only [Act.put, sT, s0, sS]
             refine tk 45 ⟨_, _, _, _, _, _⟩ ?_ rfl (by kernel_rfl) (by kernel_rfl) (by kernel_rfl) (fun _ _ _ h => h) (Or.inl ⟨by rfl, ?_⟩) kW ?_
             rotate_left
             · intro w' hSw; clear hSw; (go_simp; try with_reducible rfl)
             try simp only [Act.put, sT, s0, sS]
             have D2 : p.balD = true := by simp only [PK.balD, h2, i2, z2, Bool.true_and, Bool.and_true, Bool.false_and, Bool.and_false, Bool.or_true, Bool.true_or, Bool.or_false, Bool.false_or]
             clear h2 i2 z2
            rotate_left
            focus
             refine tk 42 ⟨_, _, _, _, _, _⟩ ?_ rfl (by kernel_rfl) (by kernel_rfl) (by kernel_rfl) (fun _ _ _ h => h) (Or.inl ⟨by rfl, ?_⟩) kW ?_
             rotate_left
             · intro w' hSw; clear hSw; (go_simp; try with_reducible rfl)
             try simp only [Act.put, sT, s0, sS]
             refine tk 43 ⟨_, _, _, _, _, _⟩ ?_ rfl (by kernel_rfl) (by kernel_rfl) (by kernel_rfl) (fun _ _ _ h => h) (Or.inl ⟨by rfl, ?_⟩) kW ?_
             rotate_left
             · intro w' hSw; clear hSw; (go_simp; try with_reducible rfl)
             try simp only [Act.put, sT, s0, sS]
             refine tk 44 ⟨_, _, _, _, _, _⟩ ?_ rfl (by kernel_rfl) (by kernel_rfl) (by kernel_rfl) (fun _ _ _ h => h) (Or.inl ⟨by rfl, ?_⟩) kW ?_
             rotate_left
             · intro w' hSw; clear hSw; (go_simp; try with_reducible rfl)
             try simp only [Act.put, sT, s0, sS]
             refine tk 45 ⟨_, _, _, _, _, _⟩ ?_ rfl (by kernel_rfl) (by kernel_rfl) (by kernel_rfl) (fun _ _ _ h => h) (Or.inl ⟨by rfl, ?_⟩) kW ?_
             rotate_left
             · intro w' hSw; clear hSw; (go_simp; try with_reducible rfl)
             try simp only [Act.put, sT, s0, sS]
             have D2 : p.balD = false := by simp only [PK.balD, h2, i2, z2, Bool.true_and, Bool.and_true, Bool.false_and, Bool.and_false, Bool.or_true, Bool.true_or, Bool.or_false, Bool.false_or]
             clear h2 i2 z2
             refine wpAnyH_done (by kernel_rfl) ?_ _
             have HKW := Lib.hid kW
             clear kW
             have HV := Lib.hid (show B2 = false by rw [← HB2.out]; simp only [D0, D1, D2, Bool.true_and, Bool.and_true, Bool.false_and, Bool.and_false, Bool.or_true, Bool.true_or, Bool.or_false, Bool.false_or])
             go_wp2_with fail
             go_meet
             case rel => exact ⟨by rw [HV.out], HKW.out⟩
          rotate_left 2
          focus
           refine wpAnyH_ready (rs := [33]) (by kernel_rfl) (by simp) ?_
           refine AllReadyH.cons (o := ⟨_, _, _, _, _, _⟩) rfl (fun K hK => ?_) AllReadyH.nil
           go_simp
           refine (hasBallotR p.kind _).mono ?_; rintro e w' ⟨rfl, kk⟩
           replace kW := kW.then kk (by simp)
           clear kk
           rw [h2]
           go_wp2_with fail
           refine hK.out _ _ kW (fun _ => ?_)
           clear hK K
           try simp only [Act.put, sT, s0, sS]
           refine tk 34 ⟨_, _, _, _, _, _⟩ ?_ rfl (by kernel_rfl) (by kernel_rfl) (by kernel_rfl) (fun _ _ _ h => h) (Or.inl ⟨by rfl, ?_⟩) kW ?_
           rotate_left
           · intro w' hSw; clear hSw; (go_simp; try with_reducible rfl)
           try simp only [Act.put, sT, s0, sS]
           refine tk 35 ⟨_, _, _, _, _, _⟩ undef rfl (by kernel_rfl) (by kernel_rfl) (by kernel_rfl) (fun _ _ _ h => h) (Or.inr ⟨by rfl, rfl⟩) kW ?_
           try simp only [Act.put, sT, s0, sS]
           refine tk 36 ⟨_, _, _, _, _, _⟩ undef rfl (by kernel_rfl) (by kernel_rfl) (by kernel_rfl) (fun _ _ _ h => h) (Or.inr ⟨by rfl, rfl⟩) kW ?_
           try simp only [Act.put, sT, s0, sS]
           refine tk 37 ⟨_, _, _, _, _, _⟩ undef rfl (by kernel_rfl) (by kernel_rfl) (by kernel_rfl) (fun _ _ _ h => h) (Or.inr ⟨by rfl, rfl⟩) kW ?_
           try simp only [Act.put, sT, s0, sS]
           refine tk 38 ⟨_, _, _, _, _, _⟩ ?_ rfl (by kernel_rfl) (by kernel_rfl) (by kernel_rfl) (fun _ _ _ h => h) (Or.inl ⟨by rfl, ?_⟩) kW ?_
           rotate_left
           · intro w' hSw; clear hSw; (go_simp; try with_reducible rfl)
           try simp only [Act.put, sT, s0, sS]
           refine tk 39 ⟨_, _, _, _, _, _⟩ ?_ rfl (by kernel_rfl) (by kernel_rfl) (by kernel_rfl) (fun _ _ _ h => h) (Or.inl ⟨by rfl, ?_⟩) kW ?_
           rotate_left
           · intro w' hSw; clear hSw; (go_simp; try with_reducible rfl)
           try simp only [Act.put, sT, s0, sS]
           refine tk 40 ⟨_, _, _, _, _, _⟩ ?_ rfl (by kernel_rfl) (by kernel_rfl) (by kernel_rfl) (fun _ _ _ h => h) (Or.inl ⟨by rfl, ?_⟩) kW ?_
           rotate_left
           · intro w' hSw; clear hSw; (go_simp; try with_reducible rfl)
           try simp only [Act.put, sT, s0, sS]
           refine tk 41 ⟨_, _, _, _, _, _⟩ ?_ rfl (by kernel_rfl) (by kernel_rfl) (by kernel_rfl) (fun _ _ _ h => h) (Or.inl ⟨by rfl, ?_⟩) kW ?_
           rotate_left
           · intro w' hSw; have xc := (HP.out w' hSw).c5; clear hSw; (go_simp; try with_reducible rfl)
           try simp only [Act.put, sT, s0, sS]
           refine (Bool.eq_false_or_eq_true (p.ballot == 0)).elim (fun z2 => ?_) (fun z2 => ?_)
           focus
            refine tk 42 ⟨_, _, _, _, _, _⟩ ?_ rfl (by kernel_rfl) (by kernel_rfl) (by kernel_rfl) (fun _ _ _ h => h) (Or.inl ⟨by rfl, ?_⟩) kW ?_
            rotate_left
            · intro w' hSw; clear hSw; (go_simp; try with_reducible rfl)
            try simp only [Act.put, sT, s0, sS]
            refine tk 43 ⟨_, _, _, _, _, _⟩ ?_ rfl (by kernel_rfl) (by kernel_rfl) (by kernel_rfl) (fun _ _ _ h => h) (Or.inl ⟨by rfl, ?_⟩) kW ?_
            rotate_left
            · intro w' hSw; clear hSw; (go_simp; try with_reducible rfl)
            try simp only [Act.put, sT, s0, sS]
            refine tk 44 ⟨_, _, _, _, _, _⟩ ?_ rfl (by kernel_rfl) (by kernel_rfl) (by kernel_rfl) (fun _ _ _ h => h) (Or.inl ⟨by rfl, ?_⟩) kW ?_
            rotate_left
            · intro w' hSw; clear hSw; (go_simp; try with_reducible rfl)
            try simp only [Act.put, sT, s0, sS]
            refine tk 45 ⟨_, _, _, _, _, _⟩ ?_ rfl (by kernel_rfl) (by kernel_rfl) (by kernel_rfl) (fun _ _ _ h => h) (Or.inl ⟨by rfl, ?_⟩) kW ?_
            rotate_left
            · intro w' hSw; clear hSw; (go_simp; try with_reducible rfl)
            try simp only [Act.put, sT, s0, sS]
            have D2 : p.balD = true := by simp only [PK.balD, h2, z2, Bool.true_and, Bool.and_true, Bool.false_and, Bool.and_false, Bool.or_true, Bool.true_or, Bool.or_false, Bool.false_or]
            clear h2 z2
           rotate_left
           focus
            refine tk 42 ⟨_, _, _, _, _, _⟩ ?_ rfl (by kernel_rfl) (by kernel_rfl) (by kernel_rfl) (fun _ _ _ h => h) (Or.inl ⟨by rfl, ?_⟩) kW ?_
            rotate_left
            · intro w' hSw; clear hSw; (go_simp; try with_reducible rfl)
            try simp only [Act.put, sT, s0, sS]
            refine tk 43 ⟨_, _, _, _, _, _⟩ ?_ rfl (by kernel_rfl) (by kernel_rfl) (by kernel_rfl) (fun _ _ _ h => h) (Or.inl ⟨by rfl, ?_⟩) kW ?_
            rotate_left
            · intro w' hSw; clear hSw; (go_simp; try with_reducible rfl)
            try simp only [Act.put, sT, s0, sS]
            refine tk 44 ⟨_, _, _, _, _, _⟩ ?_ rfl (by kernel_rfl) (by kernel_rfl) (by kernel_rfl) (fun _ _ _ h => h) (Or.inl ⟨by rfl, ?_⟩) kW ?_
            rotate_left
            · intro w' hSw; clear hSw; (go_simp; try with_reducible rfl)
            try simp only [Act.put, sT, s0, sS]
            refine tk 45 ⟨_, _, _, _, _, _⟩ ?_ rfl (by kernel_rfl) (by kernel_rfl) (by kernel_rfl) (fun _ _ _ h => h) (Or.inl ⟨by rfl, ?_⟩) kW ?_
            rotate_left
            · intro w' hSw; clear hSw; (go_simp; try with_reducible rfl)
            try simp only [Act.put, sT, s0, sS]
            have D2 : p.balD = false := by simp only [PK.balD, h2, z2, Bool.true_and, Bool.and_true, Bool.false_and, Bool.and_false, Bool.or_true, Bool.true_or, Bool.or_false, Bool.false_or]
            clear h2 z2
            refine wpAnyH_done (by kernel_rfl) ?_ _
            have HKW := Lib.hid kW
            clear kW
            have HV := Lib.hid (show B2 = false by rw [← HB2.out]; simp only [D0, D1, D2, Bool.true_and, Bool.and_true, Bool.false_and, Bool.and_false, Bool.or_true, Bool.true_or, Bool.or_false, Bool.false_or])
            go_wp2_with fail
            go_meet
            case rel => exact ⟨by rw [HV.out], HKW.out⟩
          all_goals
           refine wpAnyH_done (by kernel_rfl) ?_ _
           have HKW := Lib.hid kW
           clear kW
           have HV := Lib.hid (show B2 = true by rw [← HB2.out]; simp only [D0, D1, D2, Bool.true_and, Bool.and_true, Bool.false_and, Bool.and_false, Bool.or_true, Bool.true_or, Bool.or_false, Bool.false_or])
           go_wp2_with fail
           go_meet
           case rel => exact ⟨by rw [HV.out], HKW.out⟩
    case rest =>
      obtain ⟨rfl, hk⟩ := hcut
      have HA2 := Lib.hid (And.intro (HA.out.1.keep hk (by simp)) (And.intro (HA.out.2.1.over hk) (And.intro (HA.out.2.2.1.then hk (by simp)) (hk.row HA.out.2.2.2 (by simp)))))
      clear hk
      have x6 := HA2.out.1.c6
      have HP2 := Lib.hid (partsD_any F p ev av cv vv bw wc HA2.out.2.1 HF.out)
      have HI := Lib.hid (show (Tryz.prog.info? 34).map (·.size) = some (pkL p ev av cv vv bw).length by rw [pkL_len HA2.out.2.1.rn HA2.out.2.1.an]; exact info_pk)
      obtain ⟨PD, hPD⟩ : ∃ b, p.partsD = b := ⟨_, rfl⟩
      rw [hPD] at HP2
      obtain ⟨rd, hrd⟩ : ∃ b, p.ready = b := ⟨_, rfl⟩
      rw [hrd] at x6
      have HFN := Lib.hid (show fin = ((B2 && ((p.kind == 8) || !rd)) && PD) by rw [← HF0.out, ← HB2.out, ← HB1.out, ← hrd, ← hPD]; rfl)
      clear hPD hrd HB2 HP HF
      rcases Bool.eq_false_or_eq_true (p.kind == 8) with g8 | g8
      all_goals
        rw [g8] at HFN
        cases B2
        · have HFE := Lib.hid (show fin = false by rw [HFN.out]; rfl)
          go_wp2_with (go_at_call 71; refine (argR _ _).mono ?_; rintro e w' ⟨rfl, rfl⟩)
          go_ret
          exact ⟨by rw [HFE.out]; rfl, HA2.out.2.2.1⟩
        · cases rd <;> cases PD
          all_goals
            go_wp2_with (first
              | (refine wpList_load_mid_g 34 (.tmp 1) rfl w.heap.size 0 rfl (pkL p ev av cv vv bw) _ HA2.out.2.2.2.rangeAll Tryz.underlying34 rfl HI.out ?_ ?_; · rfl)
              | (go_at_call 72; refine HP2.out.mono ?_; rintro e w' ⟨rfl, k3⟩; have HK3 := Lib.hid (HA2.out.2.2.1.then k3 (by simp)); clear k3 x6)
              | (go_at_call 71; refine (argR _ _).mono ?_; rintro e w' ⟨rfl, rfl⟩))
            go_ret
            first | exact ⟨by rw [HFN.out]; rfl, HK3.out⟩ | exact ⟨by rw [HFN.out]; rfl, HA2.out.2.2.1⟩
end Go.Proofs.YthfdkonhjpdflaaGreatDoor
