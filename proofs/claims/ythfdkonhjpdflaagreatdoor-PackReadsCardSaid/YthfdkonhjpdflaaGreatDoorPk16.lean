/-
  PACK, 16: which packets may be.
-/
import Derived.Test.YthfdkonhjpdflaaGreatDoorPk15
namespace Go.Proofs.YthfdkonhjpdflaaGreatDoor
open Go.RowKit
set_option linter.unusedVariables false
set_option maxRecDepth 100000

def PK.parts (p : PK) (h : Int) : Bool := inP p.num 0 9007199254740991 && (inP p.ballot 0 9007199254740991 && (seqP p.kind p.seq && (decide (p.bytes.length ≤ 32768) && (((bitA h 16 == 0) || p.req.ok) && (((bitA h 32 == 0) || p.ans.ok) && (((bitA h 64 == 0) || p.conf.ok) && vtsOk p.votes))))))
def PK.ok (p : PK) : Bool := !(fieldsP p.kind == 0) && (nodeP p.frm && (nodeP p.dst && (p.same (p.cut (fieldsP p.kind)) && p.parts (fieldsP p.kind))))
theorem ite_off {b : Bool} {A B : Prop} (hb : b = false) (h : B) : if b = true then A else B := by rw [if_neg (by simp [hb])]; exact h
def i64P (n : Int) : Prop := -9223372036854775808 ≤ n ∧ n ≤ 9223372036854775807
set_option maxHeartbeats 32000000 in
theorem check_any (F : List Nat) (p : PK) (ev av cv vv bw : Value) (w : World) (h : pkV w F p ev av cv vv bw) (hfl : fieldsAt w) (hb1 : i64P p.frm) (hb2 : i64P p.dst) :
    Calls Tryz.prog 9 #[.agg (pkL p ev av cv vv bw).toArray] w fun e w' => e = .returned (.int .i64 (toldP p.ok)) ∧ keepBut [] w w' := by
  obtain ⟨hb1, hb1'⟩ := hb1
  obtain ⟨hb2, hb2'⟩ := hb2
  have k1 := (keepBut.refl [] w).alloc (.cells (pkL p ev av cv vv bw).toArray 34)
  have r1 := rowAt.new w 34 (pkL p ev av cv vv bw).toArray
  have hv := h.over k1
  obtain ⟨w1, hw1⟩ : ∃ w1, w.alloc (.cells (pkL p ev av cv vv bw).toArray 34) = w1 := ⟨_, rfl⟩
  rw [hw1] at k1 r1 hv
  have hrn := h.rn
  have han := h.an
  have HIp := Lib.hid (show (Tryz.prog.info? 34).map (·.size) = some (pkL p ev av cv vv bw).length by rw [pkL_len hrn han]; exact info_pk)
  have HIr := Lib.hid (show (Tryz.prog.info? 26).map (·.size) = some (rqL p.req ev).length by rw [rqL_len hrn]; exact info_rq)
  have HIa := Lib.hid (show (Tryz.prog.info? 28).map (·.size) = some (anL p.ans av).length by rw [anL_len han]; exact info_an)
  have HF := Lib.hid (fieldsOf_any p.kind w1 (hfl.keep k1 (by simp)))
  have HP := Lib.hid (fun w' (hk : keepBut [] w1 w') => (hk.row r1 (by simp)).pk hrn han)
  have HPA := Lib.hid (fun w' (hk : keepBut [] w1 w') => (hk.row r1 (by simp)).rangeAll)
  have HN1 := Lib.hid (isNode_any p.frm hb1 hb1')
  have HN2 := Lib.hid (isNode_any p.dst hb2 hb2')
  have HRD := Lib.hid (fun w' (hk : keepBut [] w1 w') n => reduced_any F p ev av cv vv bw n w' (hv.over hk))
  have HSM := Lib.hid (fun w' (hk : keepBut [] w1 w') n => pkSame_any F F p (p.cut n) ev av cv vv bw _ _ _ _ _ w' (hv.over hk) ((hv.over hk).cut n))
  have HCQ := Lib.hid (fun w' (hk : keepBut [] w1 w') => checkReq_any F p.req ev w' ⟨hrn, (hv.over hk).re⟩)
  have HCA := Lib.hid (fun w' (hk : keepBut [] w1 w') => checkAns_any F p.ans av w' ⟨han, (hv.over hk).ae⟩)
  have HCC := Lib.hid (fun w' (hk : keepBut [] w1 w') => checkConf_any F p.conf cv w' (hv.over hk).cc)
  have HCV := Lib.hid (fun w' (hk : keepBut [] w1 w') => checkVotes_any F p.votes vv w' (hv.over hk).vs)
  have HS0 := Lib.hid (show p.ok = (!(fieldsP p.kind == 0) && (nodeP p.frm && (nodeP p.dst && (p.same (p.cut (fieldsP p.kind)) && (inP p.num 0 9007199254740991 && (inP p.ballot 0 9007199254740991 && (seqP p.kind p.seq && (decide (p.bytes.length ≤ 32768) && (((bitA (fieldsP p.kind) 16 == 0) || p.req.ok) && (((bitA (fieldsP p.kind) 32 == 0) || p.ans.ok) && (((bitA (fieldsP p.kind) 64 == 0) || p.conf.ok) && vtsOk p.votes))))))))))) from rfl)
  have HW := Lib.hid (And.intro hw1 k1)
  obtain ⟨A3, k3, g3, rfl, _⟩ := id hv.cc
  obtain ⟨A4, k4, g4, T4, rfl, _⟩ := id hv.vs
  obtain ⟨A5, k5, g5, rfl, _, hk5, _⟩ := id hv.bs
  obtain ⟨L3, hL3⟩ : ∃ L, p.conf.chain.length = L := ⟨_, rfl⟩
  obtain ⟨L4, hL4⟩ : ∃ L, p.votes.length = L := ⟨_, rfl⟩
  obtain ⟨L5, hL5⟩ : ∃ L, p.bytes.length = L := ⟨_, rfl⟩
  rw [hL3, hL4, hL5] at HIp HP HPA HRD HSM HW
  rw [hL3] at HCC
  rw [hL4] at HCV
  rw [hL5] at HS0
  rw [hL3, hL4, hL5]
  have hb5 : L5 ≤ 9223372036854775807 := by unfold maxLen at hk5; omega
  generalize fieldsP p.kind = H at *
  generalize p.ok = ok at *
  clear hL3 hL4 hL5 k1 r1 hv hw1 hrn han h hfl hb1 hb1' hb2 hb2' hk5
  have HE := Lib.hid (HP.out w1 (keepBut.refl _ _)).c0
  by_cases hH : H = 0
  · subst hH
    have HS := Lib.hid (show ok = false by rw [HS0.out]; simp [])
    clear HS0
    go_enter Tryz.func9, Tryz.ntmps9
    have x0 := HE.out
    go_upto_region 2 with (first
      | (with_reducible refine wpList_box_to _ _ rfl 34 (.tmp 0) rfl _ rfl HW.out.1 ?_)
      | (go_at_call 40; refine HF.out.mono ?_; rintro e w' ⟨rfl, rfl⟩))
    clear x0
    refine wp_region_held_drew (S := keepBut [] w1) (by kernel_rfl) (keepBut.refl [] w1).drew (fun kW => ?_)
    obtain ⟨W0, hW0⟩ : ∃ W, w1.drew = W := ⟨_, rfl⟩
    rw [hW0] at kW ⊢
    clear hW0
    refine wpAnyH_take (i := 0) (oi := ⟨_, _, _, _, _, _⟩) (v := ?_) rfl (by kernel_rfl) (by kernel_rfl) (by kernel_rfl) (fun _ _ _ h => h) (Or.inl ⟨by rfl, ?_⟩) kW ?_
    rotate_left
    · intro w' hSw; clear hSw; (go_simp; try with_reducible rfl)
    try simp only [Act.put, List.setIfInBounds_toArray, List.set_cons_zero, List.set_cons_succ]
    refine wpAnyH_take (i := 1) (oi := ⟨_, _, _, _, _, _⟩) (v := ?_) rfl (by kernel_rfl) (by kernel_rfl) (by kernel_rfl) (fun _ _ _ h => h) (Or.inl ⟨by rfl, ?_⟩) kW ?_
    rotate_left
    · intro w' hSw; clear hSw; (go_simp; try with_reducible rfl)
    try simp only [Act.put, List.setIfInBounds_toArray, List.set_cons_zero, List.set_cons_succ]
    refine wpAnyH_take (i := 2) (oi := ⟨_, _, _, _, _, _⟩) (v := ?_) rfl (by kernel_rfl) (by kernel_rfl) (by kernel_rfl) (fun _ _ _ h => h) (Or.inl ⟨by rfl, ?_⟩) kW ?_
    rotate_left
    · intro w' hSw; clear hSw; (go_simp; try with_reducible rfl)
    try simp only [Act.put, List.setIfInBounds_toArray, List.set_cons_zero, List.set_cons_succ]
    refine wpAnyH_take (i := 3) (oi := ⟨_, _, _, _, _, _⟩) (v := undef) rfl (by kernel_rfl) (by kernel_rfl) (by kernel_rfl) (fun _ _ _ h => h) (Or.inr ⟨by rfl, rfl⟩) kW ?_
    try simp only [Act.put, List.setIfInBounds_toArray, List.set_cons_zero, List.set_cons_succ]
    refine wpAnyH_take (i := 4) (oi := ⟨_, _, _, _, _, _⟩) (v := undef) rfl (by kernel_rfl) (by kernel_rfl) (by kernel_rfl) (fun _ _ _ h => h) (Or.inr ⟨by rfl, rfl⟩) kW ?_
    try simp only [Act.put, List.setIfInBounds_toArray, List.set_cons_zero, List.set_cons_succ]
    refine wpAnyH_ready (rs := [5]) (by kernel_rfl) (by simp) ?_
    refine AllReadyH.cons (o := ⟨_, _, _, _, _, _⟩) rfl (fun K hK => ?_) AllReadyH.nil
    refine ite_off ?_ ?_
    · rfl
    refine hK.out _ _ kW (fun _ => ?_)
    clear hK K
    try simp only [Act.put, List.setIfInBounds_toArray, List.set_cons_zero, List.set_cons_succ]
    refine wpAnyH_take (i := 6) (oi := ⟨_, _, _, _, _, _⟩) (v := undef) rfl (by kernel_rfl) (by kernel_rfl) (by kernel_rfl) (fun _ _ _ h => h) (Or.inr ⟨by rfl, rfl⟩) kW ?_
    try simp only [Act.put, List.setIfInBounds_toArray, List.set_cons_zero, List.set_cons_succ]
    refine wpAnyH_take (i := 7) (oi := ⟨_, _, _, _, _, _⟩) (v := ?_) rfl (by kernel_rfl) (by kernel_rfl) (by kernel_rfl) (fun _ _ _ h => h) (Or.inl ⟨by rfl, ?_⟩) kW ?_
    rotate_left
    · intro w' hSw; clear hSw; (go_simp; try with_reducible rfl)
    try simp only [Act.put, List.setIfInBounds_toArray, List.set_cons_zero, List.set_cons_succ]
    refine wpAnyH_take (i := 8) (oi := ⟨_, _, _, _, _, _⟩) (v := ?_) rfl (by kernel_rfl) (by kernel_rfl) (by kernel_rfl) (fun _ _ _ h => h) (Or.inl ⟨by rfl, ?_⟩) kW ?_
    rotate_left
    · intro w' hSw; clear hSw; (go_simp; try with_reducible rfl)
    try simp only [Act.put, List.setIfInBounds_toArray, List.set_cons_zero, List.set_cons_succ]
    refine wpAnyH_take (i := 9) (oi := ⟨_, _, _, _, _, _⟩) (v := undef) rfl (by kernel_rfl) (by kernel_rfl) (by kernel_rfl) (fun _ _ _ h => h) (Or.inr ⟨by rfl, rfl⟩) kW ?_
    try simp only [Act.put, List.setIfInBounds_toArray, List.set_cons_zero, List.set_cons_succ]
    refine wpAnyH_take (i := 10) (oi := ⟨_, _, _, _, _, _⟩) (v := undef) rfl (by kernel_rfl) (by kernel_rfl) (by kernel_rfl) (fun _ _ _ h => h) (Or.inr ⟨by rfl, rfl⟩) kW ?_
    try simp only [Act.put, List.setIfInBounds_toArray, List.set_cons_zero, List.set_cons_succ]
    refine wpAnyH_ready (rs := [11]) (by kernel_rfl) (by simp) ?_
    refine AllReadyH.cons (o := ⟨_, _, _, _, _, _⟩) rfl (fun K hK => ?_) AllReadyH.nil
    refine ite_off ?_ ?_
    · rfl
    refine hK.out _ _ kW (fun _ => ?_)
    clear hK K
    try simp only [Act.put, List.setIfInBounds_toArray, List.set_cons_zero, List.set_cons_succ]
    refine wpAnyH_take (i := 12) (oi := ⟨_, _, _, _, _, _⟩) (v := undef) rfl (by kernel_rfl) (by kernel_rfl) (by kernel_rfl) (fun _ _ _ h => h) (Or.inr ⟨by rfl, rfl⟩) kW ?_
    try simp only [Act.put, List.setIfInBounds_toArray, List.set_cons_zero, List.set_cons_succ]
    refine wpAnyH_take (i := 13) (oi := ⟨_, _, _, _, _, _⟩) (v := ?_) rfl (by kernel_rfl) (by kernel_rfl) (by kernel_rfl) (fun _ _ _ h => h) (Or.inl ⟨by rfl, ?_⟩) kW ?_
    rotate_left
    · intro w' hSw; clear hSw; (go_simp; try with_reducible rfl)
    try simp only [Act.put, List.setIfInBounds_toArray, List.set_cons_zero, List.set_cons_succ]
    refine wpAnyH_take (i := 14) (oi := ⟨_, _, _, _, _, _⟩) (v := ?_) rfl (by kernel_rfl) (by kernel_rfl) (by kernel_rfl) (fun _ _ _ h => h) (Or.inl ⟨by rfl, ?_⟩) kW ?_
    rotate_left
    · intro w' hSw; clear hSw; (go_simp; try with_reducible rfl)
    try simp only [Act.put, List.setIfInBounds_toArray, List.set_cons_zero, List.set_cons_succ]
    refine wpAnyH_take (i := 15) (oi := ⟨_, _, _, _, _, _⟩) (v := undef) rfl (by kernel_rfl) (by kernel_rfl) (by kernel_rfl) (fun _ _ _ h => h) (Or.inr ⟨by rfl, rfl⟩) kW ?_
    try simp only [Act.put, List.setIfInBounds_toArray, List.set_cons_zero, List.set_cons_succ]
    refine wpAnyH_take (i := 16) (oi := ⟨_, _, _, _, _, _⟩) (v := undef) rfl (by kernel_rfl) (by kernel_rfl) (by kernel_rfl) (fun _ _ _ h => h) (Or.inr ⟨by rfl, rfl⟩) kW ?_
    try simp only [Act.put, List.setIfInBounds_toArray, List.set_cons_zero, List.set_cons_succ]
    refine wpAnyH_take (i := 17) (oi := ⟨_, _, _, _, _, _⟩) (v := undef) rfl (by kernel_rfl) (by kernel_rfl) (by kernel_rfl) (fun _ _ _ h => h) (Or.inr ⟨by rfl, rfl⟩) kW ?_
    try simp only [Act.put, List.setIfInBounds_toArray, List.set_cons_zero, List.set_cons_succ]
    refine wpAnyH_ready (rs := [18]) (by kernel_rfl) (by simp) ?_
    refine AllReadyH.cons (o := ⟨_, _, _, _, _, _⟩) rfl (fun K hK => ?_) AllReadyH.nil
    refine ite_off ?_ ?_
    · rfl
    refine hK.out _ _ kW (fun _ => ?_)
    clear hK K
    try simp only [Act.put, List.setIfInBounds_toArray, List.set_cons_zero, List.set_cons_succ]
    refine wpAnyH_ready (rs := [19]) (by kernel_rfl) (by simp) ?_
    refine AllReadyH.cons (o := ⟨_, _, _, _, _, _⟩) rfl (fun K hK => ?_) AllReadyH.nil
    refine ite_off ?_ ?_
    · rfl
    refine hK.out _ _ kW (fun _ => ?_)
    clear hK K
    try simp only [Act.put, List.setIfInBounds_toArray, List.set_cons_zero, List.set_cons_succ]
    refine wpAnyH_take (i := 20) (oi := ⟨_, _, _, _, _, _⟩) (v := undef) rfl (by kernel_rfl) (by kernel_rfl) (by kernel_rfl) (fun _ _ _ h => h) (Or.inr ⟨by rfl, rfl⟩) kW ?_
    try simp only [Act.put, List.setIfInBounds_toArray, List.set_cons_zero, List.set_cons_succ]
    refine wpAnyH_take (i := 21) (oi := ⟨_, _, _, _, _, _⟩) (v := ?_) rfl (by kernel_rfl) (by kernel_rfl) (by kernel_rfl) (fun _ _ _ h => h) (Or.inl ⟨by rfl, ?_⟩) kW ?_
    rotate_left
    · intro w' hSw; clear hSw; (go_simp; try with_reducible rfl)
    try simp only [Act.put, List.setIfInBounds_toArray, List.set_cons_zero, List.set_cons_succ]
    refine wpAnyH_done (by kernel_rfl) ?_ _
    have HKW := Lib.hid kW
    clear kW
    go_wp2_with fail
    go_ret
    exact ⟨by rw [HS.out]; rfl, HW.out.2.then HKW.out (by simp)⟩
  · have hHb : (H == 0) = false := by simpa using hH
    rcases Bool.eq_false_or_eq_true (nodeP p.frm) with n1 | n1
    rotate_left
    · skip
      have HS := Lib.hid (show ok = false by rw [HS0.out]; simp [n1])
      clear HS0
      go_enter Tryz.func9, Tryz.ntmps9
      have x0 := HE.out
      go_upto_region 2 with (first
        | (with_reducible refine wpList_box_to _ _ rfl 34 (.tmp 0) rfl _ rfl HW.out.1 ?_)
        | (go_at_call 40; refine HF.out.mono ?_; rintro e w' ⟨rfl, rfl⟩))
      clear x0
      refine wp_region_held_drew (S := keepBut [] w1) (by kernel_rfl) (keepBut.refl [] w1).drew (fun kW => ?_)
      obtain ⟨W0, hW0⟩ : ∃ W, w1.drew = W := ⟨_, rfl⟩
      rw [hW0] at kW ⊢
      clear hW0
      refine wpAnyH_take (i := 0) (oi := ⟨_, _, _, _, _, _⟩) (v := ?_) rfl (by kernel_rfl) (by kernel_rfl) (by kernel_rfl) (fun _ _ _ h => h) (Or.inl ⟨by rfl, ?_⟩) kW ?_
      rotate_left
      · intro w' hSw; clear hSw; (go_simp; try with_reducible rfl)
      try simp only [Act.put, List.setIfInBounds_toArray, List.set_cons_zero, List.set_cons_succ]
      refine wpAnyH_take (i := 1) (oi := ⟨_, _, _, _, _, _⟩) (v := ?_) rfl (by kernel_rfl) (by kernel_rfl) (by kernel_rfl) (fun _ _ _ h => h) (Or.inl ⟨by rfl, ?_⟩) kW ?_
      rotate_left
      · intro w' hSw; clear hSw; (go_simp; try with_reducible rfl)
      try simp only [Act.put, List.setIfInBounds_toArray, List.set_cons_zero, List.set_cons_succ]
      refine wpAnyH_take (i := 2) (oi := ⟨_, _, _, _, _, _⟩) (v := ?_) rfl (by kernel_rfl) (by kernel_rfl) (by kernel_rfl) (fun _ _ _ h => h) (Or.inl ⟨by rfl, ?_⟩) kW ?_
      rotate_left
      · intro w' hSw; clear hSw; (go_simp; try with_reducible rfl)
      try simp only [Act.put, List.setIfInBounds_toArray, List.set_cons_zero, List.set_cons_succ]
      refine wpAnyH_take (i := 3) (oi := ⟨_, _, _, _, _, _⟩) (v := ?_) rfl (by kernel_rfl) (by kernel_rfl) (by kernel_rfl) (fun _ _ _ h => h) (Or.inl ⟨by rfl, ?_⟩) kW ?_
      rotate_left
      · intro w' hSw; clear hSw; (go_simp; try with_reducible rfl)
      try simp only [Act.put, List.setIfInBounds_toArray, List.set_cons_zero, List.set_cons_succ]
      refine wpAnyH_take (i := 4) (oi := ⟨_, _, _, _, _, _⟩) (v := ?_) rfl (by kernel_rfl) (by kernel_rfl) (by kernel_rfl) (fun _ _ _ h => h) (Or.inl ⟨by rfl, ?_⟩) kW ?_
      rotate_left
      · intro w' hSw; have xc := (HP.out w' hSw).c1; clear hSw; (go_simp; try with_reducible rfl)
      try simp only [Act.put, List.setIfInBounds_toArray, List.set_cons_zero, List.set_cons_succ]
      refine wpAnyH_ready (rs := [5]) (by kernel_rfl) (by simp) ?_
      refine AllReadyH.cons (o := ⟨_, _, _, _, _, _⟩) rfl (fun K hK => ?_) AllReadyH.nil
      go_simp
      refine (HN1.out _).mono ?_; rintro e w' ⟨rfl, rfl⟩
      rw [n1]
      go_wp2_with fail
      refine hK.out _ _ kW (fun _ => ?_)
      clear hK K
      try simp only [Act.put, List.setIfInBounds_toArray, List.set_cons_zero, List.set_cons_succ]
      refine wpAnyH_take (i := 6) (oi := ⟨_, _, _, _, _, _⟩) (v := ?_) rfl (by kernel_rfl) (by kernel_rfl) (by kernel_rfl) (fun _ _ _ h => h) (Or.inl ⟨by rfl, ?_⟩) kW ?_
      rotate_left
      · intro w' hSw; clear hSw; (go_simp; try with_reducible rfl)
      try simp only [Act.put, List.setIfInBounds_toArray, List.set_cons_zero, List.set_cons_succ]
      refine wpAnyH_take (i := 7) (oi := ⟨_, _, _, _, _, _⟩) (v := ?_) rfl (by kernel_rfl) (by kernel_rfl) (by kernel_rfl) (fun _ _ _ h => h) (Or.inl ⟨by rfl, ?_⟩) kW ?_
      rotate_left
      · intro w' hSw; clear hSw; (go_simp; try with_reducible rfl)
      try simp only [Act.put, List.setIfInBounds_toArray, List.set_cons_zero, List.set_cons_succ]
      refine wpAnyH_take (i := 8) (oi := ⟨_, _, _, _, _, _⟩) (v := ?_) rfl (by kernel_rfl) (by kernel_rfl) (by kernel_rfl) (fun _ _ _ h => h) (Or.inl ⟨by rfl, ?_⟩) kW ?_
      rotate_left
      · intro w' hSw; clear hSw; (go_simp; try with_reducible rfl)
      try simp only [Act.put, List.setIfInBounds_toArray, List.set_cons_zero, List.set_cons_succ]
      refine wpAnyH_take (i := 9) (oi := ⟨_, _, _, _, _, _⟩) (v := undef) rfl (by kernel_rfl) (by kernel_rfl) (by kernel_rfl) (fun _ _ _ h => h) (Or.inr ⟨by rfl, rfl⟩) kW ?_
      try simp only [Act.put, List.setIfInBounds_toArray, List.set_cons_zero, List.set_cons_succ]
      refine wpAnyH_take (i := 10) (oi := ⟨_, _, _, _, _, _⟩) (v := undef) rfl (by kernel_rfl) (by kernel_rfl) (by kernel_rfl) (fun _ _ _ h => h) (Or.inr ⟨by rfl, rfl⟩) kW ?_
      try simp only [Act.put, List.setIfInBounds_toArray, List.set_cons_zero, List.set_cons_succ]
      refine wpAnyH_ready (rs := [11]) (by kernel_rfl) (by simp) ?_
      refine AllReadyH.cons (o := ⟨_, _, _, _, _, _⟩) rfl (fun K hK => ?_) AllReadyH.nil
      refine ite_off ?_ ?_
      · rfl
      refine hK.out _ _ kW (fun _ => ?_)
      clear hK K
      try simp only [Act.put, List.setIfInBounds_toArray, List.set_cons_zero, List.set_cons_succ]
      refine wpAnyH_take (i := 12) (oi := ⟨_, _, _, _, _, _⟩) (v := undef) rfl (by kernel_rfl) (by kernel_rfl) (by kernel_rfl) (fun _ _ _ h => h) (Or.inr ⟨by rfl, rfl⟩) kW ?_
      try simp only [Act.put, List.setIfInBounds_toArray, List.set_cons_zero, List.set_cons_succ]
      refine wpAnyH_take (i := 13) (oi := ⟨_, _, _, _, _, _⟩) (v := ?_) rfl (by kernel_rfl) (by kernel_rfl) (by kernel_rfl) (fun _ _ _ h => h) (Or.inl ⟨by rfl, ?_⟩) kW ?_
      rotate_left
      · intro w' hSw; clear hSw; (go_simp; try with_reducible rfl)
      try simp only [Act.put, List.setIfInBounds_toArray, List.set_cons_zero, List.set_cons_succ]
      refine wpAnyH_take (i := 14) (oi := ⟨_, _, _, _, _, _⟩) (v := ?_) rfl (by kernel_rfl) (by kernel_rfl) (by kernel_rfl) (fun _ _ _ h => h) (Or.inl ⟨by rfl, ?_⟩) kW ?_
      rotate_left
      · intro w' hSw; clear hSw; (go_simp; try with_reducible rfl)
      try simp only [Act.put, List.setIfInBounds_toArray, List.set_cons_zero, List.set_cons_succ]
      refine wpAnyH_take (i := 15) (oi := ⟨_, _, _, _, _, _⟩) (v := undef) rfl (by kernel_rfl) (by kernel_rfl) (by kernel_rfl) (fun _ _ _ h => h) (Or.inr ⟨by rfl, rfl⟩) kW ?_
      try simp only [Act.put, List.setIfInBounds_toArray, List.set_cons_zero, List.set_cons_succ]
      refine wpAnyH_take (i := 16) (oi := ⟨_, _, _, _, _, _⟩) (v := undef) rfl (by kernel_rfl) (by kernel_rfl) (by kernel_rfl) (fun _ _ _ h => h) (Or.inr ⟨by rfl, rfl⟩) kW ?_
      try simp only [Act.put, List.setIfInBounds_toArray, List.set_cons_zero, List.set_cons_succ]
      refine wpAnyH_take (i := 17) (oi := ⟨_, _, _, _, _, _⟩) (v := undef) rfl (by kernel_rfl) (by kernel_rfl) (by kernel_rfl) (fun _ _ _ h => h) (Or.inr ⟨by rfl, rfl⟩) kW ?_
      try simp only [Act.put, List.setIfInBounds_toArray, List.set_cons_zero, List.set_cons_succ]
      refine wpAnyH_ready (rs := [18]) (by kernel_rfl) (by simp) ?_
      refine AllReadyH.cons (o := ⟨_, _, _, _, _, _⟩) rfl (fun K hK => ?_) AllReadyH.nil
      refine ite_off ?_ ?_
      · rfl
      refine hK.out _ _ kW (fun _ => ?_)
      clear hK K
      try simp only [Act.put, List.setIfInBounds_toArray, List.set_cons_zero, List.set_cons_succ]
      refine wpAnyH_ready (rs := [19]) (by kernel_rfl) (by simp) ?_
      refine AllReadyH.cons (o := ⟨_, _, _, _, _, _⟩) rfl (fun K hK => ?_) AllReadyH.nil
      refine ite_off ?_ ?_
      · rfl
      refine hK.out _ _ kW (fun _ => ?_)
      clear hK K
      try simp only [Act.put, List.setIfInBounds_toArray, List.set_cons_zero, List.set_cons_succ]
      refine wpAnyH_take (i := 20) (oi := ⟨_, _, _, _, _, _⟩) (v := undef) rfl (by kernel_rfl) (by kernel_rfl) (by kernel_rfl) (fun _ _ _ h => h) (Or.inr ⟨by rfl, rfl⟩) kW ?_
      try simp only [Act.put, List.setIfInBounds_toArray, List.set_cons_zero, List.set_cons_succ]
      refine wpAnyH_take (i := 21) (oi := ⟨_, _, _, _, _, _⟩) (v := ?_) rfl (by kernel_rfl) (by kernel_rfl) (by kernel_rfl) (fun _ _ _ h => h) (Or.inl ⟨by rfl, ?_⟩) kW ?_
      rotate_left
      · intro w' hSw; clear hSw; (go_simp; try with_reducible rfl)
      try simp only [Act.put, List.setIfInBounds_toArray, List.set_cons_zero, List.set_cons_succ]
      refine wpAnyH_done (by kernel_rfl) ?_ _
      have HKW := Lib.hid kW
      clear kW
      go_wp2_with fail
      go_ret
      exact ⟨by rw [HS.out]; rfl, HW.out.2.then HKW.out (by simp)⟩
    rcases Bool.eq_false_or_eq_true (nodeP p.dst) with n2 | n2
    rotate_left
    · skip
      have HS := Lib.hid (show ok = false by rw [HS0.out]; simp [n1, n2])
      clear HS0
      go_enter Tryz.func9, Tryz.ntmps9
      have x0 := HE.out
      go_upto_region 2 with (first
        | (with_reducible refine wpList_box_to _ _ rfl 34 (.tmp 0) rfl _ rfl HW.out.1 ?_)
        | (go_at_call 40; refine HF.out.mono ?_; rintro e w' ⟨rfl, rfl⟩))
      clear x0
      refine wp_region_held_drew (S := keepBut [] w1) (by kernel_rfl) (keepBut.refl [] w1).drew (fun kW => ?_)
      obtain ⟨W0, hW0⟩ : ∃ W, w1.drew = W := ⟨_, rfl⟩
      rw [hW0] at kW ⊢
      clear hW0
      refine wpAnyH_take (i := 0) (oi := ⟨_, _, _, _, _, _⟩) (v := ?_) rfl (by kernel_rfl) (by kernel_rfl) (by kernel_rfl) (fun _ _ _ h => h) (Or.inl ⟨by rfl, ?_⟩) kW ?_
      rotate_left
      · intro w' hSw; clear hSw; (go_simp; try with_reducible rfl)
      try simp only [Act.put, List.setIfInBounds_toArray, List.set_cons_zero, List.set_cons_succ]
      refine wpAnyH_take (i := 1) (oi := ⟨_, _, _, _, _, _⟩) (v := ?_) rfl (by kernel_rfl) (by kernel_rfl) (by kernel_rfl) (fun _ _ _ h => h) (Or.inl ⟨by rfl, ?_⟩) kW ?_
      rotate_left
      · intro w' hSw; clear hSw; (go_simp; try with_reducible rfl)
      try simp only [Act.put, List.setIfInBounds_toArray, List.set_cons_zero, List.set_cons_succ]
      refine wpAnyH_take (i := 2) (oi := ⟨_, _, _, _, _, _⟩) (v := ?_) rfl (by kernel_rfl) (by kernel_rfl) (by kernel_rfl) (fun _ _ _ h => h) (Or.inl ⟨by rfl, ?_⟩) kW ?_
      rotate_left
      · intro w' hSw; clear hSw; (go_simp; try with_reducible rfl)
      try simp only [Act.put, List.setIfInBounds_toArray, List.set_cons_zero, List.set_cons_succ]
      refine wpAnyH_take (i := 3) (oi := ⟨_, _, _, _, _, _⟩) (v := ?_) rfl (by kernel_rfl) (by kernel_rfl) (by kernel_rfl) (fun _ _ _ h => h) (Or.inl ⟨by rfl, ?_⟩) kW ?_
      rotate_left
      · intro w' hSw; clear hSw; (go_simp; try with_reducible rfl)
      try simp only [Act.put, List.setIfInBounds_toArray, List.set_cons_zero, List.set_cons_succ]
      refine wpAnyH_take (i := 4) (oi := ⟨_, _, _, _, _, _⟩) (v := ?_) rfl (by kernel_rfl) (by kernel_rfl) (by kernel_rfl) (fun _ _ _ h => h) (Or.inl ⟨by rfl, ?_⟩) kW ?_
      rotate_left
      · intro w' hSw; have xc := (HP.out w' hSw).c1; clear hSw; (go_simp; try with_reducible rfl)
      try simp only [Act.put, List.setIfInBounds_toArray, List.set_cons_zero, List.set_cons_succ]
      refine wpAnyH_ready (rs := [5]) (by kernel_rfl) (by simp) ?_
      refine AllReadyH.cons (o := ⟨_, _, _, _, _, _⟩) rfl (fun K hK => ?_) AllReadyH.nil
      go_simp
      refine (HN1.out _).mono ?_; rintro e w' ⟨rfl, rfl⟩
      rw [n1]
      go_wp2_with fail
      refine hK.out _ _ kW (fun _ => ?_)
      clear hK K
      try simp only [Act.put, List.setIfInBounds_toArray, List.set_cons_zero, List.set_cons_succ]
      refine wpAnyH_take (i := 6) (oi := ⟨_, _, _, _, _, _⟩) (v := ?_) rfl (by kernel_rfl) (by kernel_rfl) (by kernel_rfl) (fun _ _ _ h => h) (Or.inl ⟨by rfl, ?_⟩) kW ?_
      rotate_left
      · intro w' hSw; clear hSw; (go_simp; try with_reducible rfl)
      try simp only [Act.put, List.setIfInBounds_toArray, List.set_cons_zero, List.set_cons_succ]
      refine wpAnyH_take (i := 7) (oi := ⟨_, _, _, _, _, _⟩) (v := ?_) rfl (by kernel_rfl) (by kernel_rfl) (by kernel_rfl) (fun _ _ _ h => h) (Or.inl ⟨by rfl, ?_⟩) kW ?_
      rotate_left
      · intro w' hSw; clear hSw; (go_simp; try with_reducible rfl)
      try simp only [Act.put, List.setIfInBounds_toArray, List.set_cons_zero, List.set_cons_succ]
      refine wpAnyH_take (i := 8) (oi := ⟨_, _, _, _, _, _⟩) (v := ?_) rfl (by kernel_rfl) (by kernel_rfl) (by kernel_rfl) (fun _ _ _ h => h) (Or.inl ⟨by rfl, ?_⟩) kW ?_
      rotate_left
      · intro w' hSw; clear hSw; (go_simp; try with_reducible rfl)
      try simp only [Act.put, List.setIfInBounds_toArray, List.set_cons_zero, List.set_cons_succ]
      refine wpAnyH_take (i := 9) (oi := ⟨_, _, _, _, _, _⟩) (v := ?_) rfl (by kernel_rfl) (by kernel_rfl) (by kernel_rfl) (fun _ _ _ h => h) (Or.inl ⟨by rfl, ?_⟩) kW ?_
      rotate_left
      · intro w' hSw; clear hSw; (go_simp; try with_reducible rfl)
      try simp only [Act.put, List.setIfInBounds_toArray, List.set_cons_zero, List.set_cons_succ]
      refine wpAnyH_take (i := 10) (oi := ⟨_, _, _, _, _, _⟩) (v := ?_) rfl (by kernel_rfl) (by kernel_rfl) (by kernel_rfl) (fun _ _ _ h => h) (Or.inl ⟨by rfl, ?_⟩) kW ?_
      rotate_left
      · intro w' hSw; have xc := (HP.out w' hSw).c2; clear hSw; (go_simp; try with_reducible rfl)
      try simp only [Act.put, List.setIfInBounds_toArray, List.set_cons_zero, List.set_cons_succ]
      refine wpAnyH_ready (rs := [11]) (by kernel_rfl) (by simp) ?_
      refine AllReadyH.cons (o := ⟨_, _, _, _, _, _⟩) rfl (fun K hK => ?_) AllReadyH.nil
      go_simp
      refine (HN2.out _).mono ?_; rintro e w' ⟨rfl, rfl⟩
      rw [n2]
      go_wp2_with fail
      refine hK.out _ _ kW (fun _ => ?_)
      clear hK K
      try simp only [Act.put, List.setIfInBounds_toArray, List.set_cons_zero, List.set_cons_succ]
      refine wpAnyH_take (i := 12) (oi := ⟨_, _, _, _, _, _⟩) (v := ?_) rfl (by kernel_rfl) (by kernel_rfl) (by kernel_rfl) (fun _ _ _ h => h) (Or.inl ⟨by rfl, ?_⟩) kW ?_
      rotate_left
      · intro w' hSw; clear hSw; (go_simp; try with_reducible rfl)
      try simp only [Act.put, List.setIfInBounds_toArray, List.set_cons_zero, List.set_cons_succ]
      refine wpAnyH_take (i := 13) (oi := ⟨_, _, _, _, _, _⟩) (v := ?_) rfl (by kernel_rfl) (by kernel_rfl) (by kernel_rfl) (fun _ _ _ h => h) (Or.inl ⟨by rfl, ?_⟩) kW ?_
      rotate_left
      · intro w' hSw; clear hSw; (go_simp; try with_reducible rfl)
      try simp only [Act.put, List.setIfInBounds_toArray, List.set_cons_zero, List.set_cons_succ]
      refine wpAnyH_take (i := 14) (oi := ⟨_, _, _, _, _, _⟩) (v := ?_) rfl (by kernel_rfl) (by kernel_rfl) (by kernel_rfl) (fun _ _ _ h => h) (Or.inl ⟨by rfl, ?_⟩) kW ?_
      rotate_left
      · intro w' hSw; clear hSw; (go_simp; try with_reducible rfl)
      try simp only [Act.put, List.setIfInBounds_toArray, List.set_cons_zero, List.set_cons_succ]
      refine wpAnyH_take (i := 15) (oi := ⟨_, _, _, _, _, _⟩) (v := undef) rfl (by kernel_rfl) (by kernel_rfl) (by kernel_rfl) (fun _ _ _ h => h) (Or.inr ⟨by rfl, rfl⟩) kW ?_
      try simp only [Act.put, List.setIfInBounds_toArray, List.set_cons_zero, List.set_cons_succ]
      refine wpAnyH_take (i := 16) (oi := ⟨_, _, _, _, _, _⟩) (v := undef) rfl (by kernel_rfl) (by kernel_rfl) (by kernel_rfl) (fun _ _ _ h => h) (Or.inr ⟨by rfl, rfl⟩) kW ?_
      try simp only [Act.put, List.setIfInBounds_toArray, List.set_cons_zero, List.set_cons_succ]
      refine wpAnyH_take (i := 17) (oi := ⟨_, _, _, _, _, _⟩) (v := undef) rfl (by kernel_rfl) (by kernel_rfl) (by kernel_rfl) (fun _ _ _ h => h) (Or.inr ⟨by rfl, rfl⟩) kW ?_
      try simp only [Act.put, List.setIfInBounds_toArray, List.set_cons_zero, List.set_cons_succ]
      refine wpAnyH_ready (rs := [18]) (by kernel_rfl) (by simp) ?_
      refine AllReadyH.cons (o := ⟨_, _, _, _, _, _⟩) rfl (fun K hK => ?_) AllReadyH.nil
      refine ite_off ?_ ?_
      · rfl
      refine hK.out _ _ kW (fun _ => ?_)
      clear hK K
      try simp only [Act.put, List.setIfInBounds_toArray, List.set_cons_zero, List.set_cons_succ]
      refine wpAnyH_ready (rs := [19]) (by kernel_rfl) (by simp) ?_
      refine AllReadyH.cons (o := ⟨_, _, _, _, _, _⟩) rfl (fun K hK => ?_) AllReadyH.nil
      refine ite_off ?_ ?_
      · rfl
      refine hK.out _ _ kW (fun _ => ?_)
      clear hK K
      try simp only [Act.put, List.setIfInBounds_toArray, List.set_cons_zero, List.set_cons_succ]
      refine wpAnyH_take (i := 20) (oi := ⟨_, _, _, _, _, _⟩) (v := undef) rfl (by kernel_rfl) (by kernel_rfl) (by kernel_rfl) (fun _ _ _ h => h) (Or.inr ⟨by rfl, rfl⟩) kW ?_
      try simp only [Act.put, List.setIfInBounds_toArray, List.set_cons_zero, List.set_cons_succ]
      refine wpAnyH_take (i := 21) (oi := ⟨_, _, _, _, _, _⟩) (v := ?_) rfl (by kernel_rfl) (by kernel_rfl) (by kernel_rfl) (fun _ _ _ h => h) (Or.inl ⟨by rfl, ?_⟩) kW ?_
      rotate_left
      · intro w' hSw; clear hSw; (go_simp; try with_reducible rfl)
      try simp only [Act.put, List.setIfInBounds_toArray, List.set_cons_zero, List.set_cons_succ]
      refine wpAnyH_done (by kernel_rfl) ?_ _
      have HKW := Lib.hid kW
      clear kW
      go_wp2_with fail
      go_ret
      exact ⟨by rw [HS.out]; rfl, HW.out.2.then HKW.out (by simp)⟩
    rcases Bool.eq_false_or_eq_true (p.same (p.cut H)) with n3 | n3
    rotate_left
    · skip
      have HS := Lib.hid (show ok = false by rw [HS0.out]; simp [n1, n2, n3])
      clear HS0
      go_enter Tryz.func9, Tryz.ntmps9
      have x0 := HE.out
      go_upto_region 2 with (first
        | (with_reducible refine wpList_box_to _ _ rfl 34 (.tmp 0) rfl _ rfl HW.out.1 ?_)
        | (go_at_call 40; refine HF.out.mono ?_; rintro e w' ⟨rfl, rfl⟩))
      clear x0
      refine wp_region_held_drew (S := keepBut [] w1) (by kernel_rfl) (keepBut.refl [] w1).drew (fun kW => ?_)
      obtain ⟨W0, hW0⟩ : ∃ W, w1.drew = W := ⟨_, rfl⟩
      rw [hW0] at kW ⊢
      clear hW0
      refine wpAnyH_take (i := 0) (oi := ⟨_, _, _, _, _, _⟩) (v := ?_) rfl (by kernel_rfl) (by kernel_rfl) (by kernel_rfl) (fun _ _ _ h => h) (Or.inl ⟨by rfl, ?_⟩) kW ?_
      rotate_left
      · intro w' hSw; clear hSw; (go_simp; try with_reducible rfl)
      try simp only [Act.put, List.setIfInBounds_toArray, List.set_cons_zero, List.set_cons_succ]
      refine wpAnyH_take (i := 1) (oi := ⟨_, _, _, _, _, _⟩) (v := ?_) rfl (by kernel_rfl) (by kernel_rfl) (by kernel_rfl) (fun _ _ _ h => h) (Or.inl ⟨by rfl, ?_⟩) kW ?_
      rotate_left
      · intro w' hSw; clear hSw; (go_simp; try with_reducible rfl)
      try simp only [Act.put, List.setIfInBounds_toArray, List.set_cons_zero, List.set_cons_succ]
      refine wpAnyH_take (i := 2) (oi := ⟨_, _, _, _, _, _⟩) (v := ?_) rfl (by kernel_rfl) (by kernel_rfl) (by kernel_rfl) (fun _ _ _ h => h) (Or.inl ⟨by rfl, ?_⟩) kW ?_
      rotate_left
      · intro w' hSw; clear hSw; (go_simp; try with_reducible rfl)
      try simp only [Act.put, List.setIfInBounds_toArray, List.set_cons_zero, List.set_cons_succ]
      refine wpAnyH_take (i := 3) (oi := ⟨_, _, _, _, _, _⟩) (v := ?_) rfl (by kernel_rfl) (by kernel_rfl) (by kernel_rfl) (fun _ _ _ h => h) (Or.inl ⟨by rfl, ?_⟩) kW ?_
      rotate_left
      · intro w' hSw; clear hSw; (go_simp; try with_reducible rfl)
      try simp only [Act.put, List.setIfInBounds_toArray, List.set_cons_zero, List.set_cons_succ]
      refine wpAnyH_take (i := 4) (oi := ⟨_, _, _, _, _, _⟩) (v := ?_) rfl (by kernel_rfl) (by kernel_rfl) (by kernel_rfl) (fun _ _ _ h => h) (Or.inl ⟨by rfl, ?_⟩) kW ?_
      rotate_left
      · intro w' hSw; have xc := (HP.out w' hSw).c1; clear hSw; (go_simp; try with_reducible rfl)
      try simp only [Act.put, List.setIfInBounds_toArray, List.set_cons_zero, List.set_cons_succ]
      refine wpAnyH_ready (rs := [5]) (by kernel_rfl) (by simp) ?_
      refine AllReadyH.cons (o := ⟨_, _, _, _, _, _⟩) rfl (fun K hK => ?_) AllReadyH.nil
      go_simp
      refine (HN1.out _).mono ?_; rintro e w' ⟨rfl, rfl⟩
      rw [n1]
      go_wp2_with fail
      refine hK.out _ _ kW (fun _ => ?_)
      clear hK K
      try simp only [Act.put, List.setIfInBounds_toArray, List.set_cons_zero, List.set_cons_succ]
      refine wpAnyH_take (i := 6) (oi := ⟨_, _, _, _, _, _⟩) (v := ?_) rfl (by kernel_rfl) (by kernel_rfl) (by kernel_rfl) (fun _ _ _ h => h) (Or.inl ⟨by rfl, ?_⟩) kW ?_
      rotate_left
      · intro w' hSw; clear hSw; (go_simp; try with_reducible rfl)
      try simp only [Act.put, List.setIfInBounds_toArray, List.set_cons_zero, List.set_cons_succ]
      refine wpAnyH_take (i := 7) (oi := ⟨_, _, _, _, _, _⟩) (v := ?_) rfl (by kernel_rfl) (by kernel_rfl) (by kernel_rfl) (fun _ _ _ h => h) (Or.inl ⟨by rfl, ?_⟩) kW ?_
      rotate_left
      · intro w' hSw; clear hSw; (go_simp; try with_reducible rfl)
      try simp only [Act.put, List.setIfInBounds_toArray, List.set_cons_zero, List.set_cons_succ]
      refine wpAnyH_take (i := 8) (oi := ⟨_, _, _, _, _, _⟩) (v := ?_) rfl (by kernel_rfl) (by kernel_rfl) (by kernel_rfl) (fun _ _ _ h => h) (Or.inl ⟨by rfl, ?_⟩) kW ?_
      rotate_left
      · intro w' hSw; clear hSw; (go_simp; try with_reducible rfl)
      try simp only [Act.put, List.setIfInBounds_toArray, List.set_cons_zero, List.set_cons_succ]
      refine wpAnyH_take (i := 9) (oi := ⟨_, _, _, _, _, _⟩) (v := ?_) rfl (by kernel_rfl) (by kernel_rfl) (by kernel_rfl) (fun _ _ _ h => h) (Or.inl ⟨by rfl, ?_⟩) kW ?_
      rotate_left
      · intro w' hSw; clear hSw; (go_simp; try with_reducible rfl)
      try simp only [Act.put, List.setIfInBounds_toArray, List.set_cons_zero, List.set_cons_succ]
      refine wpAnyH_take (i := 10) (oi := ⟨_, _, _, _, _, _⟩) (v := ?_) rfl (by kernel_rfl) (by kernel_rfl) (by kernel_rfl) (fun _ _ _ h => h) (Or.inl ⟨by rfl, ?_⟩) kW ?_
      rotate_left
      · intro w' hSw; have xc := (HP.out w' hSw).c2; clear hSw; (go_simp; try with_reducible rfl)
      try simp only [Act.put, List.setIfInBounds_toArray, List.set_cons_zero, List.set_cons_succ]
      refine wpAnyH_ready (rs := [11]) (by kernel_rfl) (by simp) ?_
      refine AllReadyH.cons (o := ⟨_, _, _, _, _, _⟩) rfl (fun K hK => ?_) AllReadyH.nil
      go_simp
      refine (HN2.out _).mono ?_; rintro e w' ⟨rfl, rfl⟩
      rw [n2]
      go_wp2_with fail
      refine hK.out _ _ kW (fun _ => ?_)
      clear hK K
      try simp only [Act.put, List.setIfInBounds_toArray, List.set_cons_zero, List.set_cons_succ]
      refine wpAnyH_take (i := 12) (oi := ⟨_, _, _, _, _, _⟩) (v := ?_) rfl (by kernel_rfl) (by kernel_rfl) (by kernel_rfl) (fun _ _ _ h => h) (Or.inl ⟨by rfl, ?_⟩) kW ?_
      rotate_left
      · intro w' hSw; clear hSw; (go_simp; try with_reducible rfl)
      try simp only [Act.put, List.setIfInBounds_toArray, List.set_cons_zero, List.set_cons_succ]
      refine wpAnyH_take (i := 13) (oi := ⟨_, _, _, _, _, _⟩) (v := ?_) rfl (by kernel_rfl) (by kernel_rfl) (by kernel_rfl) (fun _ _ _ h => h) (Or.inl ⟨by rfl, ?_⟩) kW ?_
      rotate_left
      · intro w' hSw; clear hSw; (go_simp; try with_reducible rfl)
      try simp only [Act.put, List.setIfInBounds_toArray, List.set_cons_zero, List.set_cons_succ]
      refine wpAnyH_take (i := 14) (oi := ⟨_, _, _, _, _, _⟩) (v := ?_) rfl (by kernel_rfl) (by kernel_rfl) (by kernel_rfl) (fun _ _ _ h => h) (Or.inl ⟨by rfl, ?_⟩) kW ?_
      rotate_left
      · intro w' hSw; clear hSw; (go_simp; try with_reducible rfl)
      try simp only [Act.put, List.setIfInBounds_toArray, List.set_cons_zero, List.set_cons_succ]
      refine wpAnyH_take (i := 15) (oi := ⟨_, _, _, _, _, _⟩) (v := .agg (pkL p ev av (.slice A3 L3 k3) (.slice A4 L4 k4) (.slice A5 L5 k5)).toArray) rfl (by kernel_rfl) (by kernel_rfl) (by kernel_rfl) (fun _ _ _ h => h) (yieldsIf_mid 34 (.tmp 1) rfl w.heap.size 0 rfl _ _ (fun w' hSw => HPA.out w' hSw) Tryz.underlying34 rfl HIp.out ?_) kW ?_
      · rfl
      try simp only [Act.put, List.setIfInBounds_toArray, List.set_cons_zero, List.set_cons_succ]
      refine wpAnyH_take (i := 16) (oi := ⟨_, _, _, _, _, _⟩) (v := .agg (pkL p ev av (.slice A3 L3 k3) (.slice A4 L4 k4) (.slice A5 L5 k5)).toArray) rfl (by kernel_rfl) (by kernel_rfl) (by kernel_rfl) (fun _ _ _ h => h) (yieldsIf_mid 34 (.tmp 1) rfl w.heap.size 0 rfl _ _ (fun w' hSw => HPA.out w' hSw) Tryz.underlying34 rfl HIp.out ?_) kW ?_
      · rfl
      try simp only [Act.put, List.setIfInBounds_toArray, List.set_cons_zero, List.set_cons_succ]
      refine wpAnyH_take (i := 17) (oi := ⟨_, _, _, _, _, _⟩) (v := ?_) rfl (by kernel_rfl) (by kernel_rfl) (by kernel_rfl) (fun _ _ _ h => h) (Or.inl ⟨by rfl, ?_⟩) kW ?_
      rotate_left
      · intro w' hSw; clear hSw; (go_simp; try with_reducible rfl)
      try simp only [Act.put, List.setIfInBounds_toArray, List.set_cons_zero, List.set_cons_succ]
      refine wpAnyH_ready (rs := [18]) (by kernel_rfl) (by simp) ?_
      refine AllReadyH.cons (o := ⟨_, _, _, _, _, _⟩) rfl (fun K hK => ?_) AllReadyH.nil
      go_simp
      refine (HRD.out _ kW _).mono ?_; rintro e w' ⟨rfl, kk⟩
      replace kW := kW.then kk (by simp)
      clear kk
      go_wp2_with fail
      refine hK.out _ _ kW (fun _ => ?_)
      clear hK K
      try simp only [Act.put, List.setIfInBounds_toArray, List.set_cons_zero, List.set_cons_succ]
      refine wpAnyH_ready (rs := [19]) (by kernel_rfl) (by simp) ?_
      refine AllReadyH.cons (o := ⟨_, _, _, _, _, _⟩) rfl (fun K hK => ?_) AllReadyH.nil
      go_simp
      refine (HSM.out _ kW _).mono ?_; rintro e w' ⟨rfl, kk⟩
      replace kW := kW.then kk (by simp)
      clear kk
      rw [n3]
      go_wp2_with fail
      refine hK.out _ _ kW (fun _ => ?_)
      clear hK K
      try simp only [Act.put, List.setIfInBounds_toArray, List.set_cons_zero, List.set_cons_succ]
      refine wpAnyH_take (i := 20) (oi := ⟨_, _, _, _, _, _⟩) (v := ?_) rfl (by kernel_rfl) (by kernel_rfl) (by kernel_rfl) (fun _ _ _ h => h) (Or.inl ⟨by rfl, ?_⟩) kW ?_
      rotate_left
      · intro w' hSw; clear hSw; (go_simp; try with_reducible rfl)
      try simp only [Act.put, List.setIfInBounds_toArray, List.set_cons_zero, List.set_cons_succ]
      refine wpAnyH_take (i := 21) (oi := ⟨_, _, _, _, _, _⟩) (v := ?_) rfl (by kernel_rfl) (by kernel_rfl) (by kernel_rfl) (fun _ _ _ h => h) (Or.inl ⟨by rfl, ?_⟩) kW ?_
      rotate_left
      · intro w' hSw; clear hSw; (go_simp; try with_reducible rfl)
      try simp only [Act.put, List.setIfInBounds_toArray, List.set_cons_zero, List.set_cons_succ]
      refine wpAnyH_done (by kernel_rfl) ?_ _
      have HKW := Lib.hid kW
      clear kW
      go_wp2_with fail
      go_ret
      exact ⟨by rw [HS.out]; rfl, HW.out.2.then HKW.out (by simp)⟩
    go_enter Tryz.func9, Tryz.ntmps9
    have x0 := HE.out
    go_upto_region 2 with (first
      | (with_reducible refine wpList_box_to _ _ rfl 34 (.tmp 0) rfl _ rfl HW.out.1 ?_)
      | (go_at_call 40; refine HF.out.mono ?_; rintro e w' ⟨rfl, rfl⟩))
    clear x0
    refine wp_region_held_drew (S := keepBut [] w1) (by kernel_rfl) (keepBut.refl [] w1).drew (fun kW => ?_)
    obtain ⟨W0, hW0⟩ : ∃ W, w1.drew = W := ⟨_, rfl⟩
    rw [hW0] at kW ⊢
    clear hW0
    refine wpAnyH_take (i := 0) (oi := ⟨_, _, _, _, _, _⟩) (v := ?_) rfl (by kernel_rfl) (by kernel_rfl) (by kernel_rfl) (fun _ _ _ h => h) (Or.inl ⟨by rfl, ?_⟩) kW ?_
    rotate_left
    · intro w' hSw; clear hSw; (go_simp; try with_reducible rfl)
    try simp only [Act.put, List.setIfInBounds_toArray, List.set_cons_zero, List.set_cons_succ]
    refine wpAnyH_take (i := 1) (oi := ⟨_, _, _, _, _, _⟩) (v := ?_) rfl (by kernel_rfl) (by kernel_rfl) (by kernel_rfl) (fun _ _ _ h => h) (Or.inl ⟨by rfl, ?_⟩) kW ?_
    rotate_left
    · intro w' hSw; clear hSw; (go_simp; try with_reducible rfl)
    try simp only [Act.put, List.setIfInBounds_toArray, List.set_cons_zero, List.set_cons_succ]
    refine wpAnyH_take (i := 2) (oi := ⟨_, _, _, _, _, _⟩) (v := ?_) rfl (by kernel_rfl) (by kernel_rfl) (by kernel_rfl) (fun _ _ _ h => h) (Or.inl ⟨by rfl, ?_⟩) kW ?_
    rotate_left
    · intro w' hSw; clear hSw; (go_simp; try with_reducible rfl)
    try simp only [Act.put, List.setIfInBounds_toArray, List.set_cons_zero, List.set_cons_succ]
    refine wpAnyH_take (i := 3) (oi := ⟨_, _, _, _, _, _⟩) (v := ?_) rfl (by kernel_rfl) (by kernel_rfl) (by kernel_rfl) (fun _ _ _ h => h) (Or.inl ⟨by rfl, ?_⟩) kW ?_
    rotate_left
    · intro w' hSw; clear hSw; (go_simp; try with_reducible rfl)
    try simp only [Act.put, List.setIfInBounds_toArray, List.set_cons_zero, List.set_cons_succ]
    refine wpAnyH_take (i := 4) (oi := ⟨_, _, _, _, _, _⟩) (v := ?_) rfl (by kernel_rfl) (by kernel_rfl) (by kernel_rfl) (fun _ _ _ h => h) (Or.inl ⟨by rfl, ?_⟩) kW ?_
    rotate_left
    · intro w' hSw; have xc := (HP.out w' hSw).c1; clear hSw; (go_simp; try with_reducible rfl)
    try simp only [Act.put, List.setIfInBounds_toArray, List.set_cons_zero, List.set_cons_succ]
    refine wpAnyH_ready (rs := [5]) (by kernel_rfl) (by simp) ?_
    refine AllReadyH.cons (o := ⟨_, _, _, _, _, _⟩) rfl (fun K hK => ?_) AllReadyH.nil
    go_simp
    refine (HN1.out _).mono ?_; rintro e w' ⟨rfl, rfl⟩
    rw [n1]
    go_wp2_with fail
    refine hK.out _ _ kW (fun _ => ?_)
    clear hK K
    try simp only [Act.put, List.setIfInBounds_toArray, List.set_cons_zero, List.set_cons_succ]
    refine wpAnyH_take (i := 6) (oi := ⟨_, _, _, _, _, _⟩) (v := ?_) rfl (by kernel_rfl) (by kernel_rfl) (by kernel_rfl) (fun _ _ _ h => h) (Or.inl ⟨by rfl, ?_⟩) kW ?_
    rotate_left
    · intro w' hSw; clear hSw; (go_simp; try with_reducible rfl)
    try simp only [Act.put, List.setIfInBounds_toArray, List.set_cons_zero, List.set_cons_succ]
    refine wpAnyH_take (i := 7) (oi := ⟨_, _, _, _, _, _⟩) (v := ?_) rfl (by kernel_rfl) (by kernel_rfl) (by kernel_rfl) (fun _ _ _ h => h) (Or.inl ⟨by rfl, ?_⟩) kW ?_
    rotate_left
    · intro w' hSw; clear hSw; (go_simp; try with_reducible rfl)
    try simp only [Act.put, List.setIfInBounds_toArray, List.set_cons_zero, List.set_cons_succ]
    refine wpAnyH_take (i := 8) (oi := ⟨_, _, _, _, _, _⟩) (v := ?_) rfl (by kernel_rfl) (by kernel_rfl) (by kernel_rfl) (fun _ _ _ h => h) (Or.inl ⟨by rfl, ?_⟩) kW ?_
    rotate_left
    · intro w' hSw; clear hSw; (go_simp; try with_reducible rfl)
    try simp only [Act.put, List.setIfInBounds_toArray, List.set_cons_zero, List.set_cons_succ]
    refine wpAnyH_take (i := 9) (oi := ⟨_, _, _, _, _, _⟩) (v := ?_) rfl (by kernel_rfl) (by kernel_rfl) (by kernel_rfl) (fun _ _ _ h => h) (Or.inl ⟨by rfl, ?_⟩) kW ?_
    rotate_left
    · intro w' hSw; clear hSw; (go_simp; try with_reducible rfl)
    try simp only [Act.put, List.setIfInBounds_toArray, List.set_cons_zero, List.set_cons_succ]
    refine wpAnyH_take (i := 10) (oi := ⟨_, _, _, _, _, _⟩) (v := ?_) rfl (by kernel_rfl) (by kernel_rfl) (by kernel_rfl) (fun _ _ _ h => h) (Or.inl ⟨by rfl, ?_⟩) kW ?_
    rotate_left
    · intro w' hSw; have xc := (HP.out w' hSw).c2; clear hSw; (go_simp; try with_reducible rfl)
    try simp only [Act.put, List.setIfInBounds_toArray, List.set_cons_zero, List.set_cons_succ]
    refine wpAnyH_ready (rs := [11]) (by kernel_rfl) (by simp) ?_
    refine AllReadyH.cons (o := ⟨_, _, _, _, _, _⟩) rfl (fun K hK => ?_) AllReadyH.nil
    go_simp
    refine (HN2.out _).mono ?_; rintro e w' ⟨rfl, rfl⟩
    rw [n2]
    go_wp2_with fail
    refine hK.out _ _ kW (fun _ => ?_)
    clear hK K
    try simp only [Act.put, List.setIfInBounds_toArray, List.set_cons_zero, List.set_cons_succ]
    refine wpAnyH_take (i := 12) (oi := ⟨_, _, _, _, _, _⟩) (v := ?_) rfl (by kernel_rfl) (by kernel_rfl) (by kernel_rfl) (fun _ _ _ h => h) (Or.inl ⟨by rfl, ?_⟩) kW ?_
    rotate_left
    · intro w' hSw; clear hSw; (go_simp; try with_reducible rfl)
    try simp only [Act.put, List.setIfInBounds_toArray, List.set_cons_zero, List.set_cons_succ]
    refine wpAnyH_take (i := 13) (oi := ⟨_, _, _, _, _, _⟩) (v := ?_) rfl (by kernel_rfl) (by kernel_rfl) (by kernel_rfl) (fun _ _ _ h => h) (Or.inl ⟨by rfl, ?_⟩) kW ?_
    rotate_left
    · intro w' hSw; clear hSw; (go_simp; try with_reducible rfl)
    try simp only [Act.put, List.setIfInBounds_toArray, List.set_cons_zero, List.set_cons_succ]
    refine wpAnyH_take (i := 14) (oi := ⟨_, _, _, _, _, _⟩) (v := ?_) rfl (by kernel_rfl) (by kernel_rfl) (by kernel_rfl) (fun _ _ _ h => h) (Or.inl ⟨by rfl, ?_⟩) kW ?_
    rotate_left
    · intro w' hSw; clear hSw; (go_simp; try with_reducible rfl)
    try simp only [Act.put, List.setIfInBounds_toArray, List.set_cons_zero, List.set_cons_succ]
    refine wpAnyH_take (i := 15) (oi := ⟨_, _, _, _, _, _⟩) (v := .agg (pkL p ev av (.slice A3 L3 k3) (.slice A4 L4 k4) (.slice A5 L5 k5)).toArray) rfl (by kernel_rfl) (by kernel_rfl) (by kernel_rfl) (fun _ _ _ h => h) (yieldsIf_mid 34 (.tmp 1) rfl w.heap.size 0 rfl _ _ (fun w' hSw => HPA.out w' hSw) Tryz.underlying34 rfl HIp.out ?_) kW ?_
    · rfl
    try simp only [Act.put, List.setIfInBounds_toArray, List.set_cons_zero, List.set_cons_succ]
    refine wpAnyH_take (i := 16) (oi := ⟨_, _, _, _, _, _⟩) (v := .agg (pkL p ev av (.slice A3 L3 k3) (.slice A4 L4 k4) (.slice A5 L5 k5)).toArray) rfl (by kernel_rfl) (by kernel_rfl) (by kernel_rfl) (fun _ _ _ h => h) (yieldsIf_mid 34 (.tmp 1) rfl w.heap.size 0 rfl _ _ (fun w' hSw => HPA.out w' hSw) Tryz.underlying34 rfl HIp.out ?_) kW ?_
    · rfl
    try simp only [Act.put, List.setIfInBounds_toArray, List.set_cons_zero, List.set_cons_succ]
    refine wpAnyH_take (i := 17) (oi := ⟨_, _, _, _, _, _⟩) (v := ?_) rfl (by kernel_rfl) (by kernel_rfl) (by kernel_rfl) (fun _ _ _ h => h) (Or.inl ⟨by rfl, ?_⟩) kW ?_
    rotate_left
    · intro w' hSw; clear hSw; (go_simp; try with_reducible rfl)
    try simp only [Act.put, List.setIfInBounds_toArray, List.set_cons_zero, List.set_cons_succ]
    refine wpAnyH_ready (rs := [18]) (by kernel_rfl) (by simp) ?_
    refine AllReadyH.cons (o := ⟨_, _, _, _, _, _⟩) rfl (fun K hK => ?_) AllReadyH.nil
    go_simp
    refine (HRD.out _ kW _).mono ?_; rintro e w' ⟨rfl, kk⟩
    replace kW := kW.then kk (by simp)
    clear kk
    go_wp2_with fail
    refine hK.out _ _ kW (fun _ => ?_)
    clear hK K
    try simp only [Act.put, List.setIfInBounds_toArray, List.set_cons_zero, List.set_cons_succ]
    refine wpAnyH_ready (rs := [19]) (by kernel_rfl) (by simp) ?_
    refine AllReadyH.cons (o := ⟨_, _, _, _, _, _⟩) rfl (fun K hK => ?_) AllReadyH.nil
    go_simp
    refine (HSM.out _ kW _).mono ?_; rintro e w' ⟨rfl, kk⟩
    replace kW := kW.then kk (by simp)
    clear kk
    rw [n3]
    go_wp2_with fail
    refine hK.out _ _ kW (fun _ => ?_)
    clear hK K
    try simp only [Act.put, List.setIfInBounds_toArray, List.set_cons_zero, List.set_cons_succ]
    refine wpAnyH_take (i := 20) (oi := ⟨_, _, _, _, _, _⟩) (v := ?_) rfl (by kernel_rfl) (by kernel_rfl) (by kernel_rfl) (fun _ _ _ h => h) (Or.inl ⟨by rfl, ?_⟩) kW ?_
    rotate_left
    · intro w' hSw; clear hSw; (go_simp; try with_reducible rfl)
    try simp only [Act.put, List.setIfInBounds_toArray, List.set_cons_zero, List.set_cons_succ]
    refine wpAnyH_take (i := 21) (oi := ⟨_, _, _, _, _, _⟩) (v := ?_) rfl (by kernel_rfl) (by kernel_rfl) (by kernel_rfl) (fun _ _ _ h => h) (Or.inl ⟨by rfl, ?_⟩) kW ?_
    rotate_left
    · intro w' hSw; clear hSw; (go_simp; try with_reducible rfl)
    try simp only [Act.put, List.setIfInBounds_toArray, List.set_cons_zero, List.set_cons_succ]
    refine wpAnyH_done (by kernel_rfl) ?_ _
    have HKW := Lib.hid kW
    clear kW
    go_upto_region 4 with fail
    have HS1 := Lib.hid (show ok = (inP p.num 0 9007199254740991 && (inP p.ballot 0 9007199254740991 && (seqP p.kind p.seq && (decide (L5 ≤ 32768) && (((bitA H 16 == 0) || p.req.ok) && (((bitA H 32 == 0) || p.ans.ok) && (((bitA H 64 == 0) || p.conf.ok) && vtsOk p.votes))))))) by rw [HS0.out]; simp [hHb, n1, n2, n3])
    clear HS0 HRD HSM HN1 HN2 HF HE HPA HIp
    have HA := Lib.hid (HP.out _ HKW.out)
    rcases Bool.eq_false_or_eq_true (inP p.num 0 9007199254740991) with c1 | c1
    rotate_left
    · skip
      have HS := Lib.hid (show ok = false by rw [HS1.out]; simp [bitA, c1])
      clear HS1
      have x0 := HA.out.c0
      have x3 := HA.out.c3
      have x4 := HA.out.c4
      have x5 := HA.out.c5
      have x10 := HA.out.d3
      have x11 := HA.out.d4
      go_wp2_with (first
        | (go_at_call 64; refine (isSeq_any _ _ _).mono ?_; rintro e w' ⟨rfl, rfl⟩)
        | (go_at_call 63; refine (isNumber_any _ _).mono ?_; rintro e w' ⟨rfl, rfl⟩)
        | (go_at_call 66; refine (told_any _ _).mono ?_; rintro e w' ⟨rfl, rfl⟩))
      go_ret
      exact ⟨by rw [HS.out]; first | rfl | simp_all, HW.out.2.then HKW.out (by simp)⟩
    rcases Bool.eq_false_or_eq_true (inP p.ballot 0 9007199254740991) with c2 | c2
    rotate_left
    · skip
      have HS := Lib.hid (show ok = false by rw [HS1.out]; simp [bitA, c1, c2])
      clear HS1
      have x0 := HA.out.c0
      have x3 := HA.out.c3
      have x4 := HA.out.c4
      have x5 := HA.out.c5
      have x10 := HA.out.d3
      have x11 := HA.out.d4
      go_wp2_with (first
        | (go_at_call 64; refine (isSeq_any _ _ _).mono ?_; rintro e w' ⟨rfl, rfl⟩)
        | (go_at_call 63; refine (isNumber_any _ _).mono ?_; rintro e w' ⟨rfl, rfl⟩)
        | (go_at_call 66; refine (told_any _ _).mono ?_; rintro e w' ⟨rfl, rfl⟩))
      go_ret
      exact ⟨by rw [HS.out]; first | rfl | simp_all, HW.out.2.then HKW.out (by simp)⟩
    rcases Bool.eq_false_or_eq_true (seqP p.kind p.seq) with c3 | c3
    rotate_left
    · skip
      have HS := Lib.hid (show ok = false by rw [HS1.out]; simp [bitA, c1, c2, c3])
      clear HS1
      have x0 := HA.out.c0
      have x3 := HA.out.c3
      have x4 := HA.out.c4
      have x5 := HA.out.c5
      have x10 := HA.out.d3
      have x11 := HA.out.d4
      go_wp2_with (first
        | (go_at_call 64; refine (isSeq_any _ _ _).mono ?_; rintro e w' ⟨rfl, rfl⟩)
        | (go_at_call 63; refine (isNumber_any _ _).mono ?_; rintro e w' ⟨rfl, rfl⟩)
        | (go_at_call 66; refine (told_any _ _).mono ?_; rintro e w' ⟨rfl, rfl⟩))
      go_ret
      exact ⟨by rw [HS.out]; first | rfl | simp_all, HW.out.2.then HKW.out (by simp)⟩
    by_cases l0 : (L5 : Int) ≤ 32768
    rotate_left
    · have l1 : ¬ L5 ≤ 32768 := by omega
      have d1 := decide_eq_false l0
      have HS := Lib.hid (show ok = false by rw [HS1.out]; simp [bitA, c1, c2, c3, l1])
      clear HS1
      have x0 := HA.out.c0
      have x3 := HA.out.c3
      have x4 := HA.out.c4
      have x5 := HA.out.c5
      have x10 := HA.out.d3
      have x11 := HA.out.d4
      go_wp2_with (first
        | (go_at_call 64; refine (isSeq_any _ _ _).mono ?_; rintro e w' ⟨rfl, rfl⟩)
        | (go_at_call 63; refine (isNumber_any _ _).mono ?_; rintro e w' ⟨rfl, rfl⟩)
        | (go_at_call 66; refine (told_any _ _).mono ?_; rintro e w' ⟨rfl, rfl⟩))
      go_ret
      exact ⟨by rw [HS.out]; first | rfl | simp_all, HW.out.2.then HKW.out (by simp)⟩
    have l1 : L5 ≤ 32768 := by omega
    have d1 := decide_eq_true l0
    rcases Bool.eq_false_or_eq_true (bits BinOp.and IntKind.i64 H 16 == 0) with b1 | b1
    · skip
      rcases Bool.eq_false_or_eq_true (bits BinOp.and IntKind.i64 H 32 == 0) with b2 | b2
      · skip
        rcases Bool.eq_false_or_eq_true (bits BinOp.and IntKind.i64 H 64 == 0) with b3 | b3
        · skip
          rcases Bool.eq_false_or_eq_true (vtsOk p.votes) with v1 | v1
          rotate_left
          · skip
            have HS := Lib.hid (show ok = false by rw [HS1.out]; simp [bitA, c1, c2, c3, l1, b1, b2, b3, v1])
            clear HS1
            have x0 := HA.out.c0
            have x3 := HA.out.c3
            have x4 := HA.out.c4
            have x5 := HA.out.c5
            have x10 := HA.out.d3
            have x11 := HA.out.d4
            go_wp2_with (first
              | (go_at_call 64; refine (isSeq_any _ _ _).mono ?_; rintro e w' ⟨rfl, rfl⟩)
              | (go_at_call 63; refine (isNumber_any _ _).mono ?_; rintro e w' ⟨rfl, rfl⟩)
              | (go_at_call 66; refine (told_any _ _).mono ?_; rintro e w' ⟨rfl, rfl⟩)
              | (go_at_call 65; refine (HCV.out _ HKW.out).mono ?_; rintro e w' ⟨rfl, kk⟩; have HKV := Lib.hid (HKW.out.then kk (by simp)); clear kk; have x10 := (HP.out _ HKV.out).d3; rw [v1]; try dsimp only [toldP]))
            go_ret
            exact ⟨by rw [HS.out]; first | rfl | simp_all, HW.out.2.then HKV.out (by simp)⟩
          have HS := Lib.hid (show ok = true by rw [HS1.out]; simp [bitA, c1, c2, c3, l1, b1, b2, b3, v1])
          clear HS1
          have x0 := HA.out.c0
          have x3 := HA.out.c3
          have x4 := HA.out.c4
          have x5 := HA.out.c5
          have x10 := HA.out.d3
          have x11 := HA.out.d4
          go_wp2_with (first
            | (go_at_call 64; refine (isSeq_any _ _ _).mono ?_; rintro e w' ⟨rfl, rfl⟩)
            | (go_at_call 63; refine (isNumber_any _ _).mono ?_; rintro e w' ⟨rfl, rfl⟩)
            | (go_at_call 66; refine (told_any _ _).mono ?_; rintro e w' ⟨rfl, rfl⟩)
            | (go_at_call 65; refine (HCV.out _ HKW.out).mono ?_; rintro e w' ⟨rfl, kk⟩; have HKV := Lib.hid (HKW.out.then kk (by simp)); clear kk; have x10 := (HP.out _ HKV.out).d3; rw [v1]; try dsimp only [toldP]))
          go_ret
          exact ⟨by rw [HS.out]; first | rfl | simp_all, HW.out.2.then HKV.out (by simp)⟩
        · skip
          rcases Bool.eq_false_or_eq_true (p.conf.ok) with f1 | f1
          rotate_left
          · skip
            have HS := Lib.hid (show ok = false by rw [HS1.out]; simp [bitA, c1, c2, c3, l1, b1, b2, b3, f1])
            clear HS1
            have x0 := HA.out.c0
            have x3 := HA.out.c3
            have x4 := HA.out.c4
            have x5 := HA.out.c5
            have x10 := HA.out.d3
            have x11 := HA.out.d4
            go_wp2_with (first
              | (go_at_call 64; refine (isSeq_any _ _ _).mono ?_; rintro e w' ⟨rfl, rfl⟩)
              | (go_at_call 63; refine (isNumber_any _ _).mono ?_; rintro e w' ⟨rfl, rfl⟩)
              | (go_at_call 66; refine (told_any _ _).mono ?_; rintro e w' ⟨rfl, rfl⟩)
              | (refine wpList_load_mid_g 31 (.tmp 78) rfl w.heap.size 82 rfl (cfL p.conf (.slice A3 L3 k3)) _ (by have hp := HP.out _ HKW.out; exact fun j v hv => match j, hv with | 0, hv => by cases hv; exact hp.d0 | 1, hv => by cases hv; exact hp.d1 | 2, hv => by cases hv; exact hp.d2) Tryz.underlying31 rfl info_cf ?_ ?_; · rfl)
              | (go_at_call 22; refine (HCC.out _ HKW.out).mono ?_; rintro e w' ⟨rfl, kk⟩; have HKC := Lib.hid (HKW.out.then kk (by simp)); clear kk; have x10 := (HP.out _ HKC.out).d3; rw [f1]; try dsimp only [toldP]))
            go_ret
            exact ⟨by rw [HS.out]; first | rfl | simp_all, HW.out.2.then HKC.out (by simp)⟩
          rcases Bool.eq_false_or_eq_true (vtsOk p.votes) with v1 | v1
          rotate_left
          · skip
            have HS := Lib.hid (show ok = false by rw [HS1.out]; simp [bitA, c1, c2, c3, l1, b1, b2, b3, f1, v1])
            clear HS1
            have x0 := HA.out.c0
            have x3 := HA.out.c3
            have x4 := HA.out.c4
            have x5 := HA.out.c5
            have x10 := HA.out.d3
            have x11 := HA.out.d4
            go_wp2_with (first
              | (go_at_call 64; refine (isSeq_any _ _ _).mono ?_; rintro e w' ⟨rfl, rfl⟩)
              | (go_at_call 63; refine (isNumber_any _ _).mono ?_; rintro e w' ⟨rfl, rfl⟩)
              | (go_at_call 66; refine (told_any _ _).mono ?_; rintro e w' ⟨rfl, rfl⟩)
              | (refine wpList_load_mid_g 31 (.tmp 78) rfl w.heap.size 82 rfl (cfL p.conf (.slice A3 L3 k3)) _ (by have hp := HP.out _ HKW.out; exact fun j v hv => match j, hv with | 0, hv => by cases hv; exact hp.d0 | 1, hv => by cases hv; exact hp.d1 | 2, hv => by cases hv; exact hp.d2) Tryz.underlying31 rfl info_cf ?_ ?_; · rfl)
              | (go_at_call 22; refine (HCC.out _ HKW.out).mono ?_; rintro e w' ⟨rfl, kk⟩; have HKC := Lib.hid (HKW.out.then kk (by simp)); clear kk; have x10 := (HP.out _ HKC.out).d3; rw [f1]; try dsimp only [toldP])
              | (go_at_call 65; refine (HCV.out _ HKC.out).mono ?_; rintro e w' ⟨rfl, kk⟩; have HKV := Lib.hid (HKC.out.then kk (by simp)); clear kk; have x10 := (HP.out _ HKV.out).d3; rw [v1]; try dsimp only [toldP]))
            go_ret
            exact ⟨by rw [HS.out]; first | rfl | simp_all, HW.out.2.then HKV.out (by simp)⟩
          have HS := Lib.hid (show ok = true by rw [HS1.out]; simp [bitA, c1, c2, c3, l1, b1, b2, b3, f1, v1])
          clear HS1
          have x0 := HA.out.c0
          have x3 := HA.out.c3
          have x4 := HA.out.c4
          have x5 := HA.out.c5
          have x10 := HA.out.d3
          have x11 := HA.out.d4
          go_wp2_with (first
            | (go_at_call 64; refine (isSeq_any _ _ _).mono ?_; rintro e w' ⟨rfl, rfl⟩)
            | (go_at_call 63; refine (isNumber_any _ _).mono ?_; rintro e w' ⟨rfl, rfl⟩)
            | (go_at_call 66; refine (told_any _ _).mono ?_; rintro e w' ⟨rfl, rfl⟩)
            | (refine wpList_load_mid_g 31 (.tmp 78) rfl w.heap.size 82 rfl (cfL p.conf (.slice A3 L3 k3)) _ (by have hp := HP.out _ HKW.out; exact fun j v hv => match j, hv with | 0, hv => by cases hv; exact hp.d0 | 1, hv => by cases hv; exact hp.d1 | 2, hv => by cases hv; exact hp.d2) Tryz.underlying31 rfl info_cf ?_ ?_; · rfl)
            | (go_at_call 22; refine (HCC.out _ HKW.out).mono ?_; rintro e w' ⟨rfl, kk⟩; have HKC := Lib.hid (HKW.out.then kk (by simp)); clear kk; have x10 := (HP.out _ HKC.out).d3; rw [f1]; try dsimp only [toldP])
            | (go_at_call 65; refine (HCV.out _ HKC.out).mono ?_; rintro e w' ⟨rfl, kk⟩; have HKV := Lib.hid (HKC.out.then kk (by simp)); clear kk; have x10 := (HP.out _ HKV.out).d3; rw [v1]; try dsimp only [toldP]))
          go_ret
          exact ⟨by rw [HS.out]; first | rfl | simp_all, HW.out.2.then HKV.out (by simp)⟩
      · skip
        rcases Bool.eq_false_or_eq_true (p.ans.ok) with a1 | a1
        rotate_left
        · skip
          have HS := Lib.hid (show ok = false by rw [HS1.out]; simp [bitA, c1, c2, c3, l1, b1, b2, a1])
          clear HS1
          have x0 := HA.out.c0
          have x3 := HA.out.c3
          have x4 := HA.out.c4
          have x5 := HA.out.c5
          have x10 := HA.out.d3
          have x11 := HA.out.d4
          go_wp2_with (first
            | (go_at_call 64; refine (isSeq_any _ _ _).mono ?_; rintro e w' ⟨rfl, rfl⟩)
            | (go_at_call 63; refine (isNumber_any _ _).mono ?_; rintro e w' ⟨rfl, rfl⟩)
            | (go_at_call 66; refine (told_any _ _).mono ?_; rintro e w' ⟨rfl, rfl⟩)
            | (refine wpList_load_mid_g 28 (.tmp 67) rfl w.heap.size 44 rfl (anL p.ans av) _ (HP.out _ HKW.out).an Tryz.underlying28 rfl HIa.out ?_ ?_; · rfl)
            | (go_at_call 21; refine (HCA.out _ HKW.out).mono ?_; rintro e w' ⟨rfl, kk⟩; have HKA := Lib.hid (HKW.out.then kk (by simp)); clear kk; have x10 := (HP.out _ HKA.out).d3; rw [a1]; try dsimp only [toldP]))
          go_ret
          exact ⟨by rw [HS.out]; first | rfl | simp_all, HW.out.2.then HKA.out (by simp)⟩
        rcases Bool.eq_false_or_eq_true (bits BinOp.and IntKind.i64 H 64 == 0) with b3 | b3
        · skip
          rcases Bool.eq_false_or_eq_true (vtsOk p.votes) with v1 | v1
          rotate_left
          · skip
            have HS := Lib.hid (show ok = false by rw [HS1.out]; simp [bitA, c1, c2, c3, l1, b1, b2, a1, b3, v1])
            clear HS1
            have x0 := HA.out.c0
            have x3 := HA.out.c3
            have x4 := HA.out.c4
            have x5 := HA.out.c5
            have x10 := HA.out.d3
            have x11 := HA.out.d4
            go_wp2_with (first
              | (go_at_call 64; refine (isSeq_any _ _ _).mono ?_; rintro e w' ⟨rfl, rfl⟩)
              | (go_at_call 63; refine (isNumber_any _ _).mono ?_; rintro e w' ⟨rfl, rfl⟩)
              | (go_at_call 66; refine (told_any _ _).mono ?_; rintro e w' ⟨rfl, rfl⟩)
              | (refine wpList_load_mid_g 28 (.tmp 67) rfl w.heap.size 44 rfl (anL p.ans av) _ (HP.out _ HKW.out).an Tryz.underlying28 rfl HIa.out ?_ ?_; · rfl)
              | (go_at_call 21; refine (HCA.out _ HKW.out).mono ?_; rintro e w' ⟨rfl, kk⟩; have HKA := Lib.hid (HKW.out.then kk (by simp)); clear kk; have x10 := (HP.out _ HKA.out).d3; rw [a1]; try dsimp only [toldP])
              | (go_at_call 65; refine (HCV.out _ HKA.out).mono ?_; rintro e w' ⟨rfl, kk⟩; have HKV := Lib.hid (HKA.out.then kk (by simp)); clear kk; have x10 := (HP.out _ HKV.out).d3; rw [v1]; try dsimp only [toldP]))
            go_ret
            exact ⟨by rw [HS.out]; first | rfl | simp_all, HW.out.2.then HKV.out (by simp)⟩
          have HS := Lib.hid (show ok = true by rw [HS1.out]; simp [bitA, c1, c2, c3, l1, b1, b2, a1, b3, v1])
          clear HS1
          have x0 := HA.out.c0
          have x3 := HA.out.c3
          have x4 := HA.out.c4
          have x5 := HA.out.c5
          have x10 := HA.out.d3
          have x11 := HA.out.d4
          go_wp2_with (first
            | (go_at_call 64; refine (isSeq_any _ _ _).mono ?_; rintro e w' ⟨rfl, rfl⟩)
            | (go_at_call 63; refine (isNumber_any _ _).mono ?_; rintro e w' ⟨rfl, rfl⟩)
            | (go_at_call 66; refine (told_any _ _).mono ?_; rintro e w' ⟨rfl, rfl⟩)
            | (refine wpList_load_mid_g 28 (.tmp 67) rfl w.heap.size 44 rfl (anL p.ans av) _ (HP.out _ HKW.out).an Tryz.underlying28 rfl HIa.out ?_ ?_; · rfl)
            | (go_at_call 21; refine (HCA.out _ HKW.out).mono ?_; rintro e w' ⟨rfl, kk⟩; have HKA := Lib.hid (HKW.out.then kk (by simp)); clear kk; have x10 := (HP.out _ HKA.out).d3; rw [a1]; try dsimp only [toldP])
            | (go_at_call 65; refine (HCV.out _ HKA.out).mono ?_; rintro e w' ⟨rfl, kk⟩; have HKV := Lib.hid (HKA.out.then kk (by simp)); clear kk; have x10 := (HP.out _ HKV.out).d3; rw [v1]; try dsimp only [toldP]))
          go_ret
          exact ⟨by rw [HS.out]; first | rfl | simp_all, HW.out.2.then HKV.out (by simp)⟩
        · skip
          rcases Bool.eq_false_or_eq_true (p.conf.ok) with f1 | f1
          rotate_left
          · skip
            have HS := Lib.hid (show ok = false by rw [HS1.out]; simp [bitA, c1, c2, c3, l1, b1, b2, a1, b3, f1])
            clear HS1
            have x0 := HA.out.c0
            have x3 := HA.out.c3
            have x4 := HA.out.c4
            have x5 := HA.out.c5
            have x10 := HA.out.d3
            have x11 := HA.out.d4
            go_wp2_with (first
              | (go_at_call 64; refine (isSeq_any _ _ _).mono ?_; rintro e w' ⟨rfl, rfl⟩)
              | (go_at_call 63; refine (isNumber_any _ _).mono ?_; rintro e w' ⟨rfl, rfl⟩)
              | (go_at_call 66; refine (told_any _ _).mono ?_; rintro e w' ⟨rfl, rfl⟩)
              | (refine wpList_load_mid_g 28 (.tmp 67) rfl w.heap.size 44 rfl (anL p.ans av) _ (HP.out _ HKW.out).an Tryz.underlying28 rfl HIa.out ?_ ?_; · rfl)
              | (go_at_call 21; refine (HCA.out _ HKW.out).mono ?_; rintro e w' ⟨rfl, kk⟩; have HKA := Lib.hid (HKW.out.then kk (by simp)); clear kk; have x10 := (HP.out _ HKA.out).d3; rw [a1]; try dsimp only [toldP])
              | (refine wpList_load_mid_g 31 (.tmp 78) rfl w.heap.size 82 rfl (cfL p.conf (.slice A3 L3 k3)) _ (by have hp := HP.out _ HKA.out; exact fun j v hv => match j, hv with | 0, hv => by cases hv; exact hp.d0 | 1, hv => by cases hv; exact hp.d1 | 2, hv => by cases hv; exact hp.d2) Tryz.underlying31 rfl info_cf ?_ ?_; · rfl)
              | (go_at_call 22; refine (HCC.out _ HKA.out).mono ?_; rintro e w' ⟨rfl, kk⟩; have HKC := Lib.hid (HKA.out.then kk (by simp)); clear kk; have x10 := (HP.out _ HKC.out).d3; rw [f1]; try dsimp only [toldP]))
            go_ret
            exact ⟨by rw [HS.out]; first | rfl | simp_all, HW.out.2.then HKC.out (by simp)⟩
          rcases Bool.eq_false_or_eq_true (vtsOk p.votes) with v1 | v1
          rotate_left
          · skip
            have HS := Lib.hid (show ok = false by rw [HS1.out]; simp [bitA, c1, c2, c3, l1, b1, b2, a1, b3, f1, v1])
            clear HS1
            have x0 := HA.out.c0
            have x3 := HA.out.c3
            have x4 := HA.out.c4
            have x5 := HA.out.c5
            have x10 := HA.out.d3
            have x11 := HA.out.d4
            go_wp2_with (first
              | (go_at_call 64; refine (isSeq_any _ _ _).mono ?_; rintro e w' ⟨rfl, rfl⟩)
              | (go_at_call 63; refine (isNumber_any _ _).mono ?_; rintro e w' ⟨rfl, rfl⟩)
              | (go_at_call 66; refine (told_any _ _).mono ?_; rintro e w' ⟨rfl, rfl⟩)
              | (refine wpList_load_mid_g 28 (.tmp 67) rfl w.heap.size 44 rfl (anL p.ans av) _ (HP.out _ HKW.out).an Tryz.underlying28 rfl HIa.out ?_ ?_; · rfl)
              | (go_at_call 21; refine (HCA.out _ HKW.out).mono ?_; rintro e w' ⟨rfl, kk⟩; have HKA := Lib.hid (HKW.out.then kk (by simp)); clear kk; have x10 := (HP.out _ HKA.out).d3; rw [a1]; try dsimp only [toldP])
              | (refine wpList_load_mid_g 31 (.tmp 78) rfl w.heap.size 82 rfl (cfL p.conf (.slice A3 L3 k3)) _ (by have hp := HP.out _ HKA.out; exact fun j v hv => match j, hv with | 0, hv => by cases hv; exact hp.d0 | 1, hv => by cases hv; exact hp.d1 | 2, hv => by cases hv; exact hp.d2) Tryz.underlying31 rfl info_cf ?_ ?_; · rfl)
              | (go_at_call 22; refine (HCC.out _ HKA.out).mono ?_; rintro e w' ⟨rfl, kk⟩; have HKC := Lib.hid (HKA.out.then kk (by simp)); clear kk; have x10 := (HP.out _ HKC.out).d3; rw [f1]; try dsimp only [toldP])
              | (go_at_call 65; refine (HCV.out _ HKC.out).mono ?_; rintro e w' ⟨rfl, kk⟩; have HKV := Lib.hid (HKC.out.then kk (by simp)); clear kk; have x10 := (HP.out _ HKV.out).d3; rw [v1]; try dsimp only [toldP]))
            go_ret
            exact ⟨by rw [HS.out]; first | rfl | simp_all, HW.out.2.then HKV.out (by simp)⟩
          have HS := Lib.hid (show ok = true by rw [HS1.out]; simp [bitA, c1, c2, c3, l1, b1, b2, a1, b3, f1, v1])
          clear HS1
          have x0 := HA.out.c0
          have x3 := HA.out.c3
          have x4 := HA.out.c4
          have x5 := HA.out.c5
          have x10 := HA.out.d3
          have x11 := HA.out.d4
          go_wp2_with (first
            | (go_at_call 64; refine (isSeq_any _ _ _).mono ?_; rintro e w' ⟨rfl, rfl⟩)
            | (go_at_call 63; refine (isNumber_any _ _).mono ?_; rintro e w' ⟨rfl, rfl⟩)
            | (go_at_call 66; refine (told_any _ _).mono ?_; rintro e w' ⟨rfl, rfl⟩)
            | (refine wpList_load_mid_g 28 (.tmp 67) rfl w.heap.size 44 rfl (anL p.ans av) _ (HP.out _ HKW.out).an Tryz.underlying28 rfl HIa.out ?_ ?_; · rfl)
            | (go_at_call 21; refine (HCA.out _ HKW.out).mono ?_; rintro e w' ⟨rfl, kk⟩; have HKA := Lib.hid (HKW.out.then kk (by simp)); clear kk; have x10 := (HP.out _ HKA.out).d3; rw [a1]; try dsimp only [toldP])
            | (refine wpList_load_mid_g 31 (.tmp 78) rfl w.heap.size 82 rfl (cfL p.conf (.slice A3 L3 k3)) _ (by have hp := HP.out _ HKA.out; exact fun j v hv => match j, hv with | 0, hv => by cases hv; exact hp.d0 | 1, hv => by cases hv; exact hp.d1 | 2, hv => by cases hv; exact hp.d2) Tryz.underlying31 rfl info_cf ?_ ?_; · rfl)
            | (go_at_call 22; refine (HCC.out _ HKA.out).mono ?_; rintro e w' ⟨rfl, kk⟩; have HKC := Lib.hid (HKA.out.then kk (by simp)); clear kk; have x10 := (HP.out _ HKC.out).d3; rw [f1]; try dsimp only [toldP])
            | (go_at_call 65; refine (HCV.out _ HKC.out).mono ?_; rintro e w' ⟨rfl, kk⟩; have HKV := Lib.hid (HKC.out.then kk (by simp)); clear kk; have x10 := (HP.out _ HKV.out).d3; rw [v1]; try dsimp only [toldP]))
          go_ret
          exact ⟨by rw [HS.out]; first | rfl | simp_all, HW.out.2.then HKV.out (by simp)⟩
    · skip
      rcases Bool.eq_false_or_eq_true (p.req.ok) with q1 | q1
      rotate_left
      · skip
        have HS := Lib.hid (show ok = false by rw [HS1.out]; simp [bitA, c1, c2, c3, l1, b1, q1])
        clear HS1
        have x0 := HA.out.c0
        have x3 := HA.out.c3
        have x4 := HA.out.c4
        have x5 := HA.out.c5
        have x10 := HA.out.d3
        have x11 := HA.out.d4
        go_wp2_with (first
          | (go_at_call 64; refine (isSeq_any _ _ _).mono ?_; rintro e w' ⟨rfl, rfl⟩)
          | (go_at_call 63; refine (isNumber_any _ _).mono ?_; rintro e w' ⟨rfl, rfl⟩)
          | (go_at_call 66; refine (told_any _ _).mono ?_; rintro e w' ⟨rfl, rfl⟩)
          | (refine wpList_load_mid_g 26 (.tmp 56) rfl w.heap.size 7 rfl (rqL p.req ev) _ (HP.out _ HKW.out).rq Tryz.underlying26 rfl HIr.out ?_ ?_; · rfl)
          | (go_at_call 20; refine (HCQ.out _ HKW.out).mono ?_; rintro e w' ⟨rfl, kk⟩; have HKQ := Lib.hid (HKW.out.then kk (by simp)); clear kk; have x10 := (HP.out _ HKQ.out).d3; rw [q1]; try dsimp only [toldP]))
        go_ret
        exact ⟨by rw [HS.out]; first | rfl | simp_all, HW.out.2.then HKQ.out (by simp)⟩
      rcases Bool.eq_false_or_eq_true (bits BinOp.and IntKind.i64 H 32 == 0) with b2 | b2
      · skip
        rcases Bool.eq_false_or_eq_true (bits BinOp.and IntKind.i64 H 64 == 0) with b3 | b3
        · skip
          rcases Bool.eq_false_or_eq_true (vtsOk p.votes) with v1 | v1
          rotate_left
          · skip
            have HS := Lib.hid (show ok = false by rw [HS1.out]; simp [bitA, c1, c2, c3, l1, b1, q1, b2, b3, v1])
            clear HS1
            have x0 := HA.out.c0
            have x3 := HA.out.c3
            have x4 := HA.out.c4
            have x5 := HA.out.c5
            have x10 := HA.out.d3
            have x11 := HA.out.d4
            go_wp2_with (first
              | (go_at_call 64; refine (isSeq_any _ _ _).mono ?_; rintro e w' ⟨rfl, rfl⟩)
              | (go_at_call 63; refine (isNumber_any _ _).mono ?_; rintro e w' ⟨rfl, rfl⟩)
              | (go_at_call 66; refine (told_any _ _).mono ?_; rintro e w' ⟨rfl, rfl⟩)
              | (refine wpList_load_mid_g 26 (.tmp 56) rfl w.heap.size 7 rfl (rqL p.req ev) _ (HP.out _ HKW.out).rq Tryz.underlying26 rfl HIr.out ?_ ?_; · rfl)
              | (go_at_call 20; refine (HCQ.out _ HKW.out).mono ?_; rintro e w' ⟨rfl, kk⟩; have HKQ := Lib.hid (HKW.out.then kk (by simp)); clear kk; have x10 := (HP.out _ HKQ.out).d3; rw [q1]; try dsimp only [toldP])
              | (go_at_call 65; refine (HCV.out _ HKQ.out).mono ?_; rintro e w' ⟨rfl, kk⟩; have HKV := Lib.hid (HKQ.out.then kk (by simp)); clear kk; have x10 := (HP.out _ HKV.out).d3; rw [v1]; try dsimp only [toldP]))
            go_ret
            exact ⟨by rw [HS.out]; first | rfl | simp_all, HW.out.2.then HKV.out (by simp)⟩
          have HS := Lib.hid (show ok = true by rw [HS1.out]; simp [bitA, c1, c2, c3, l1, b1, q1, b2, b3, v1])
          clear HS1
          have x0 := HA.out.c0
          have x3 := HA.out.c3
          have x4 := HA.out.c4
          have x5 := HA.out.c5
          have x10 := HA.out.d3
          have x11 := HA.out.d4
          go_wp2_with (first
            | (go_at_call 64; refine (isSeq_any _ _ _).mono ?_; rintro e w' ⟨rfl, rfl⟩)
            | (go_at_call 63; refine (isNumber_any _ _).mono ?_; rintro e w' ⟨rfl, rfl⟩)
            | (go_at_call 66; refine (told_any _ _).mono ?_; rintro e w' ⟨rfl, rfl⟩)
            | (refine wpList_load_mid_g 26 (.tmp 56) rfl w.heap.size 7 rfl (rqL p.req ev) _ (HP.out _ HKW.out).rq Tryz.underlying26 rfl HIr.out ?_ ?_; · rfl)
            | (go_at_call 20; refine (HCQ.out _ HKW.out).mono ?_; rintro e w' ⟨rfl, kk⟩; have HKQ := Lib.hid (HKW.out.then kk (by simp)); clear kk; have x10 := (HP.out _ HKQ.out).d3; rw [q1]; try dsimp only [toldP])
            | (go_at_call 65; refine (HCV.out _ HKQ.out).mono ?_; rintro e w' ⟨rfl, kk⟩; have HKV := Lib.hid (HKQ.out.then kk (by simp)); clear kk; have x10 := (HP.out _ HKV.out).d3; rw [v1]; try dsimp only [toldP]))
          go_ret
          exact ⟨by rw [HS.out]; first | rfl | simp_all, HW.out.2.then HKV.out (by simp)⟩
        · skip
          rcases Bool.eq_false_or_eq_true (p.conf.ok) with f1 | f1
          rotate_left
          · skip
            have HS := Lib.hid (show ok = false by rw [HS1.out]; simp [bitA, c1, c2, c3, l1, b1, q1, b2, b3, f1])
            clear HS1
            have x0 := HA.out.c0
            have x3 := HA.out.c3
            have x4 := HA.out.c4
            have x5 := HA.out.c5
            have x10 := HA.out.d3
            have x11 := HA.out.d4
            go_wp2_with (first
              | (go_at_call 64; refine (isSeq_any _ _ _).mono ?_; rintro e w' ⟨rfl, rfl⟩)
              | (go_at_call 63; refine (isNumber_any _ _).mono ?_; rintro e w' ⟨rfl, rfl⟩)
              | (go_at_call 66; refine (told_any _ _).mono ?_; rintro e w' ⟨rfl, rfl⟩)
              | (refine wpList_load_mid_g 26 (.tmp 56) rfl w.heap.size 7 rfl (rqL p.req ev) _ (HP.out _ HKW.out).rq Tryz.underlying26 rfl HIr.out ?_ ?_; · rfl)
              | (go_at_call 20; refine (HCQ.out _ HKW.out).mono ?_; rintro e w' ⟨rfl, kk⟩; have HKQ := Lib.hid (HKW.out.then kk (by simp)); clear kk; have x10 := (HP.out _ HKQ.out).d3; rw [q1]; try dsimp only [toldP])
              | (refine wpList_load_mid_g 31 (.tmp 78) rfl w.heap.size 82 rfl (cfL p.conf (.slice A3 L3 k3)) _ (by have hp := HP.out _ HKQ.out; exact fun j v hv => match j, hv with | 0, hv => by cases hv; exact hp.d0 | 1, hv => by cases hv; exact hp.d1 | 2, hv => by cases hv; exact hp.d2) Tryz.underlying31 rfl info_cf ?_ ?_; · rfl)
              | (go_at_call 22; refine (HCC.out _ HKQ.out).mono ?_; rintro e w' ⟨rfl, kk⟩; have HKC := Lib.hid (HKQ.out.then kk (by simp)); clear kk; have x10 := (HP.out _ HKC.out).d3; rw [f1]; try dsimp only [toldP]))
            go_ret
            exact ⟨by rw [HS.out]; first | rfl | simp_all, HW.out.2.then HKC.out (by simp)⟩
          rcases Bool.eq_false_or_eq_true (vtsOk p.votes) with v1 | v1
          rotate_left
          · skip
            have HS := Lib.hid (show ok = false by rw [HS1.out]; simp [bitA, c1, c2, c3, l1, b1, q1, b2, b3, f1, v1])
            clear HS1
            have x0 := HA.out.c0
            have x3 := HA.out.c3
            have x4 := HA.out.c4
            have x5 := HA.out.c5
            have x10 := HA.out.d3
            have x11 := HA.out.d4
            go_wp2_with (first
              | (go_at_call 64; refine (isSeq_any _ _ _).mono ?_; rintro e w' ⟨rfl, rfl⟩)
              | (go_at_call 63; refine (isNumber_any _ _).mono ?_; rintro e w' ⟨rfl, rfl⟩)
              | (go_at_call 66; refine (told_any _ _).mono ?_; rintro e w' ⟨rfl, rfl⟩)
              | (refine wpList_load_mid_g 26 (.tmp 56) rfl w.heap.size 7 rfl (rqL p.req ev) _ (HP.out _ HKW.out).rq Tryz.underlying26 rfl HIr.out ?_ ?_; · rfl)
              | (go_at_call 20; refine (HCQ.out _ HKW.out).mono ?_; rintro e w' ⟨rfl, kk⟩; have HKQ := Lib.hid (HKW.out.then kk (by simp)); clear kk; have x10 := (HP.out _ HKQ.out).d3; rw [q1]; try dsimp only [toldP])
              | (refine wpList_load_mid_g 31 (.tmp 78) rfl w.heap.size 82 rfl (cfL p.conf (.slice A3 L3 k3)) _ (by have hp := HP.out _ HKQ.out; exact fun j v hv => match j, hv with | 0, hv => by cases hv; exact hp.d0 | 1, hv => by cases hv; exact hp.d1 | 2, hv => by cases hv; exact hp.d2) Tryz.underlying31 rfl info_cf ?_ ?_; · rfl)
              | (go_at_call 22; refine (HCC.out _ HKQ.out).mono ?_; rintro e w' ⟨rfl, kk⟩; have HKC := Lib.hid (HKQ.out.then kk (by simp)); clear kk; have x10 := (HP.out _ HKC.out).d3; rw [f1]; try dsimp only [toldP])
              | (go_at_call 65; refine (HCV.out _ HKC.out).mono ?_; rintro e w' ⟨rfl, kk⟩; have HKV := Lib.hid (HKC.out.then kk (by simp)); clear kk; have x10 := (HP.out _ HKV.out).d3; rw [v1]; try dsimp only [toldP]))
            go_ret
            exact ⟨by rw [HS.out]; first | rfl | simp_all, HW.out.2.then HKV.out (by simp)⟩
          have HS := Lib.hid (show ok = true by rw [HS1.out]; simp [bitA, c1, c2, c3, l1, b1, q1, b2, b3, f1, v1])
          clear HS1
          have x0 := HA.out.c0
          have x3 := HA.out.c3
          have x4 := HA.out.c4
          have x5 := HA.out.c5
          have x10 := HA.out.d3
          have x11 := HA.out.d4
          go_wp2_with (first
            | (go_at_call 64; refine (isSeq_any _ _ _).mono ?_; rintro e w' ⟨rfl, rfl⟩)
            | (go_at_call 63; refine (isNumber_any _ _).mono ?_; rintro e w' ⟨rfl, rfl⟩)
            | (go_at_call 66; refine (told_any _ _).mono ?_; rintro e w' ⟨rfl, rfl⟩)
            | (refine wpList_load_mid_g 26 (.tmp 56) rfl w.heap.size 7 rfl (rqL p.req ev) _ (HP.out _ HKW.out).rq Tryz.underlying26 rfl HIr.out ?_ ?_; · rfl)
            | (go_at_call 20; refine (HCQ.out _ HKW.out).mono ?_; rintro e w' ⟨rfl, kk⟩; have HKQ := Lib.hid (HKW.out.then kk (by simp)); clear kk; have x10 := (HP.out _ HKQ.out).d3; rw [q1]; try dsimp only [toldP])
            | (refine wpList_load_mid_g 31 (.tmp 78) rfl w.heap.size 82 rfl (cfL p.conf (.slice A3 L3 k3)) _ (by have hp := HP.out _ HKQ.out; exact fun j v hv => match j, hv with | 0, hv => by cases hv; exact hp.d0 | 1, hv => by cases hv; exact hp.d1 | 2, hv => by cases hv; exact hp.d2) Tryz.underlying31 rfl info_cf ?_ ?_; · rfl)
            | (go_at_call 22; refine (HCC.out _ HKQ.out).mono ?_; rintro e w' ⟨rfl, kk⟩; have HKC := Lib.hid (HKQ.out.then kk (by simp)); clear kk; have x10 := (HP.out _ HKC.out).d3; rw [f1]; try dsimp only [toldP])
            | (go_at_call 65; refine (HCV.out _ HKC.out).mono ?_; rintro e w' ⟨rfl, kk⟩; have HKV := Lib.hid (HKC.out.then kk (by simp)); clear kk; have x10 := (HP.out _ HKV.out).d3; rw [v1]; try dsimp only [toldP]))
          go_ret
          exact ⟨by rw [HS.out]; first | rfl | simp_all, HW.out.2.then HKV.out (by simp)⟩
      · skip
        rcases Bool.eq_false_or_eq_true (p.ans.ok) with a1 | a1
        rotate_left
        · skip
          have HS := Lib.hid (show ok = false by rw [HS1.out]; simp [bitA, c1, c2, c3, l1, b1, q1, b2, a1])
          clear HS1
          have x0 := HA.out.c0
          have x3 := HA.out.c3
          have x4 := HA.out.c4
          have x5 := HA.out.c5
          have x10 := HA.out.d3
          have x11 := HA.out.d4
          go_wp2_with (first
            | (go_at_call 64; refine (isSeq_any _ _ _).mono ?_; rintro e w' ⟨rfl, rfl⟩)
            | (go_at_call 63; refine (isNumber_any _ _).mono ?_; rintro e w' ⟨rfl, rfl⟩)
            | (go_at_call 66; refine (told_any _ _).mono ?_; rintro e w' ⟨rfl, rfl⟩)
            | (refine wpList_load_mid_g 26 (.tmp 56) rfl w.heap.size 7 rfl (rqL p.req ev) _ (HP.out _ HKW.out).rq Tryz.underlying26 rfl HIr.out ?_ ?_; · rfl)
            | (go_at_call 20; refine (HCQ.out _ HKW.out).mono ?_; rintro e w' ⟨rfl, kk⟩; have HKQ := Lib.hid (HKW.out.then kk (by simp)); clear kk; have x10 := (HP.out _ HKQ.out).d3; rw [q1]; try dsimp only [toldP])
            | (refine wpList_load_mid_g 28 (.tmp 67) rfl w.heap.size 44 rfl (anL p.ans av) _ (HP.out _ HKQ.out).an Tryz.underlying28 rfl HIa.out ?_ ?_; · rfl)
            | (go_at_call 21; refine (HCA.out _ HKQ.out).mono ?_; rintro e w' ⟨rfl, kk⟩; have HKA := Lib.hid (HKQ.out.then kk (by simp)); clear kk; have x10 := (HP.out _ HKA.out).d3; rw [a1]; try dsimp only [toldP]))
          go_ret
          exact ⟨by rw [HS.out]; first | rfl | simp_all, HW.out.2.then HKA.out (by simp)⟩
        rcases Bool.eq_false_or_eq_true (bits BinOp.and IntKind.i64 H 64 == 0) with b3 | b3
        · skip
          rcases Bool.eq_false_or_eq_true (vtsOk p.votes) with v1 | v1
          rotate_left
          · skip
            have HS := Lib.hid (show ok = false by rw [HS1.out]; simp [bitA, c1, c2, c3, l1, b1, q1, b2, a1, b3, v1])
            clear HS1
            have x0 := HA.out.c0
            have x3 := HA.out.c3
            have x4 := HA.out.c4
            have x5 := HA.out.c5
            have x10 := HA.out.d3
            have x11 := HA.out.d4
            go_wp2_with (first
              | (go_at_call 64; refine (isSeq_any _ _ _).mono ?_; rintro e w' ⟨rfl, rfl⟩)
              | (go_at_call 63; refine (isNumber_any _ _).mono ?_; rintro e w' ⟨rfl, rfl⟩)
              | (go_at_call 66; refine (told_any _ _).mono ?_; rintro e w' ⟨rfl, rfl⟩)
              | (refine wpList_load_mid_g 26 (.tmp 56) rfl w.heap.size 7 rfl (rqL p.req ev) _ (HP.out _ HKW.out).rq Tryz.underlying26 rfl HIr.out ?_ ?_; · rfl)
              | (go_at_call 20; refine (HCQ.out _ HKW.out).mono ?_; rintro e w' ⟨rfl, kk⟩; have HKQ := Lib.hid (HKW.out.then kk (by simp)); clear kk; have x10 := (HP.out _ HKQ.out).d3; rw [q1]; try dsimp only [toldP])
              | (refine wpList_load_mid_g 28 (.tmp 67) rfl w.heap.size 44 rfl (anL p.ans av) _ (HP.out _ HKQ.out).an Tryz.underlying28 rfl HIa.out ?_ ?_; · rfl)
              | (go_at_call 21; refine (HCA.out _ HKQ.out).mono ?_; rintro e w' ⟨rfl, kk⟩; have HKA := Lib.hid (HKQ.out.then kk (by simp)); clear kk; have x10 := (HP.out _ HKA.out).d3; rw [a1]; try dsimp only [toldP])
              | (go_at_call 65; refine (HCV.out _ HKA.out).mono ?_; rintro e w' ⟨rfl, kk⟩; have HKV := Lib.hid (HKA.out.then kk (by simp)); clear kk; have x10 := (HP.out _ HKV.out).d3; rw [v1]; try dsimp only [toldP]))
            go_ret
            exact ⟨by rw [HS.out]; first | rfl | simp_all, HW.out.2.then HKV.out (by simp)⟩
          have HS := Lib.hid (show ok = true by rw [HS1.out]; simp [bitA, c1, c2, c3, l1, b1, q1, b2, a1, b3, v1])
          clear HS1
          have x0 := HA.out.c0
          have x3 := HA.out.c3
          have x4 := HA.out.c4
          have x5 := HA.out.c5
          have x10 := HA.out.d3
          have x11 := HA.out.d4
          go_wp2_with (first
            | (go_at_call 64; refine (isSeq_any _ _ _).mono ?_; rintro e w' ⟨rfl, rfl⟩)
            | (go_at_call 63; refine (isNumber_any _ _).mono ?_; rintro e w' ⟨rfl, rfl⟩)
            | (go_at_call 66; refine (told_any _ _).mono ?_; rintro e w' ⟨rfl, rfl⟩)
            | (refine wpList_load_mid_g 26 (.tmp 56) rfl w.heap.size 7 rfl (rqL p.req ev) _ (HP.out _ HKW.out).rq Tryz.underlying26 rfl HIr.out ?_ ?_; · rfl)
            | (go_at_call 20; refine (HCQ.out _ HKW.out).mono ?_; rintro e w' ⟨rfl, kk⟩; have HKQ := Lib.hid (HKW.out.then kk (by simp)); clear kk; have x10 := (HP.out _ HKQ.out).d3; rw [q1]; try dsimp only [toldP])
            | (refine wpList_load_mid_g 28 (.tmp 67) rfl w.heap.size 44 rfl (anL p.ans av) _ (HP.out _ HKQ.out).an Tryz.underlying28 rfl HIa.out ?_ ?_; · rfl)
            | (go_at_call 21; refine (HCA.out _ HKQ.out).mono ?_; rintro e w' ⟨rfl, kk⟩; have HKA := Lib.hid (HKQ.out.then kk (by simp)); clear kk; have x10 := (HP.out _ HKA.out).d3; rw [a1]; try dsimp only [toldP])
            | (go_at_call 65; refine (HCV.out _ HKA.out).mono ?_; rintro e w' ⟨rfl, kk⟩; have HKV := Lib.hid (HKA.out.then kk (by simp)); clear kk; have x10 := (HP.out _ HKV.out).d3; rw [v1]; try dsimp only [toldP]))
          go_ret
          exact ⟨by rw [HS.out]; first | rfl | simp_all, HW.out.2.then HKV.out (by simp)⟩
        · skip
          rcases Bool.eq_false_or_eq_true (p.conf.ok) with f1 | f1
          rotate_left
          · skip
            have HS := Lib.hid (show ok = false by rw [HS1.out]; simp [bitA, c1, c2, c3, l1, b1, q1, b2, a1, b3, f1])
            clear HS1
            have x0 := HA.out.c0
            have x3 := HA.out.c3
            have x4 := HA.out.c4
            have x5 := HA.out.c5
            have x10 := HA.out.d3
            have x11 := HA.out.d4
            go_wp2_with (first
              | (go_at_call 64; refine (isSeq_any _ _ _).mono ?_; rintro e w' ⟨rfl, rfl⟩)
              | (go_at_call 63; refine (isNumber_any _ _).mono ?_; rintro e w' ⟨rfl, rfl⟩)
              | (go_at_call 66; refine (told_any _ _).mono ?_; rintro e w' ⟨rfl, rfl⟩)
              | (refine wpList_load_mid_g 26 (.tmp 56) rfl w.heap.size 7 rfl (rqL p.req ev) _ (HP.out _ HKW.out).rq Tryz.underlying26 rfl HIr.out ?_ ?_; · rfl)
              | (go_at_call 20; refine (HCQ.out _ HKW.out).mono ?_; rintro e w' ⟨rfl, kk⟩; have HKQ := Lib.hid (HKW.out.then kk (by simp)); clear kk; have x10 := (HP.out _ HKQ.out).d3; rw [q1]; try dsimp only [toldP])
              | (refine wpList_load_mid_g 28 (.tmp 67) rfl w.heap.size 44 rfl (anL p.ans av) _ (HP.out _ HKQ.out).an Tryz.underlying28 rfl HIa.out ?_ ?_; · rfl)
              | (go_at_call 21; refine (HCA.out _ HKQ.out).mono ?_; rintro e w' ⟨rfl, kk⟩; have HKA := Lib.hid (HKQ.out.then kk (by simp)); clear kk; have x10 := (HP.out _ HKA.out).d3; rw [a1]; try dsimp only [toldP])
              | (refine wpList_load_mid_g 31 (.tmp 78) rfl w.heap.size 82 rfl (cfL p.conf (.slice A3 L3 k3)) _ (by have hp := HP.out _ HKA.out; exact fun j v hv => match j, hv with | 0, hv => by cases hv; exact hp.d0 | 1, hv => by cases hv; exact hp.d1 | 2, hv => by cases hv; exact hp.d2) Tryz.underlying31 rfl info_cf ?_ ?_; · rfl)
              | (go_at_call 22; refine (HCC.out _ HKA.out).mono ?_; rintro e w' ⟨rfl, kk⟩; have HKC := Lib.hid (HKA.out.then kk (by simp)); clear kk; have x10 := (HP.out _ HKC.out).d3; rw [f1]; try dsimp only [toldP]))
            go_ret
            exact ⟨by rw [HS.out]; first | rfl | simp_all, HW.out.2.then HKC.out (by simp)⟩
          rcases Bool.eq_false_or_eq_true (vtsOk p.votes) with v1 | v1
          rotate_left
          · skip
            have HS := Lib.hid (show ok = false by rw [HS1.out]; simp [bitA, c1, c2, c3, l1, b1, q1, b2, a1, b3, f1, v1])
            clear HS1
            have x0 := HA.out.c0
            have x3 := HA.out.c3
            have x4 := HA.out.c4
            have x5 := HA.out.c5
            have x10 := HA.out.d3
            have x11 := HA.out.d4
            go_wp2_with (first
              | (go_at_call 64; refine (isSeq_any _ _ _).mono ?_; rintro e w' ⟨rfl, rfl⟩)
              | (go_at_call 63; refine (isNumber_any _ _).mono ?_; rintro e w' ⟨rfl, rfl⟩)
              | (go_at_call 66; refine (told_any _ _).mono ?_; rintro e w' ⟨rfl, rfl⟩)
              | (refine wpList_load_mid_g 26 (.tmp 56) rfl w.heap.size 7 rfl (rqL p.req ev) _ (HP.out _ HKW.out).rq Tryz.underlying26 rfl HIr.out ?_ ?_; · rfl)
              | (go_at_call 20; refine (HCQ.out _ HKW.out).mono ?_; rintro e w' ⟨rfl, kk⟩; have HKQ := Lib.hid (HKW.out.then kk (by simp)); clear kk; have x10 := (HP.out _ HKQ.out).d3; rw [q1]; try dsimp only [toldP])
              | (refine wpList_load_mid_g 28 (.tmp 67) rfl w.heap.size 44 rfl (anL p.ans av) _ (HP.out _ HKQ.out).an Tryz.underlying28 rfl HIa.out ?_ ?_; · rfl)
              | (go_at_call 21; refine (HCA.out _ HKQ.out).mono ?_; rintro e w' ⟨rfl, kk⟩; have HKA := Lib.hid (HKQ.out.then kk (by simp)); clear kk; have x10 := (HP.out _ HKA.out).d3; rw [a1]; try dsimp only [toldP])
              | (refine wpList_load_mid_g 31 (.tmp 78) rfl w.heap.size 82 rfl (cfL p.conf (.slice A3 L3 k3)) _ (by have hp := HP.out _ HKA.out; exact fun j v hv => match j, hv with | 0, hv => by cases hv; exact hp.d0 | 1, hv => by cases hv; exact hp.d1 | 2, hv => by cases hv; exact hp.d2) Tryz.underlying31 rfl info_cf ?_ ?_; · rfl)
              | (go_at_call 22; refine (HCC.out _ HKA.out).mono ?_; rintro e w' ⟨rfl, kk⟩; have HKC := Lib.hid (HKA.out.then kk (by simp)); clear kk; have x10 := (HP.out _ HKC.out).d3; rw [f1]; try dsimp only [toldP])
              | (go_at_call 65; refine (HCV.out _ HKC.out).mono ?_; rintro e w' ⟨rfl, kk⟩; have HKV := Lib.hid (HKC.out.then kk (by simp)); clear kk; have x10 := (HP.out _ HKV.out).d3; rw [v1]; try dsimp only [toldP]))
            go_ret
            exact ⟨by rw [HS.out]; first | rfl | simp_all, HW.out.2.then HKV.out (by simp)⟩
          have HS := Lib.hid (show ok = true by rw [HS1.out]; simp [bitA, c1, c2, c3, l1, b1, q1, b2, a1, b3, f1, v1])
          clear HS1
          have x0 := HA.out.c0
          have x3 := HA.out.c3
          have x4 := HA.out.c4
          have x5 := HA.out.c5
          have x10 := HA.out.d3
          have x11 := HA.out.d4
          go_wp2_with (first
            | (go_at_call 64; refine (isSeq_any _ _ _).mono ?_; rintro e w' ⟨rfl, rfl⟩)
            | (go_at_call 63; refine (isNumber_any _ _).mono ?_; rintro e w' ⟨rfl, rfl⟩)
            | (go_at_call 66; refine (told_any _ _).mono ?_; rintro e w' ⟨rfl, rfl⟩)
            | (refine wpList_load_mid_g 26 (.tmp 56) rfl w.heap.size 7 rfl (rqL p.req ev) _ (HP.out _ HKW.out).rq Tryz.underlying26 rfl HIr.out ?_ ?_; · rfl)
            | (go_at_call 20; refine (HCQ.out _ HKW.out).mono ?_; rintro e w' ⟨rfl, kk⟩; have HKQ := Lib.hid (HKW.out.then kk (by simp)); clear kk; have x10 := (HP.out _ HKQ.out).d3; rw [q1]; try dsimp only [toldP])
            | (refine wpList_load_mid_g 28 (.tmp 67) rfl w.heap.size 44 rfl (anL p.ans av) _ (HP.out _ HKQ.out).an Tryz.underlying28 rfl HIa.out ?_ ?_; · rfl)
            | (go_at_call 21; refine (HCA.out _ HKQ.out).mono ?_; rintro e w' ⟨rfl, kk⟩; have HKA := Lib.hid (HKQ.out.then kk (by simp)); clear kk; have x10 := (HP.out _ HKA.out).d3; rw [a1]; try dsimp only [toldP])
            | (refine wpList_load_mid_g 31 (.tmp 78) rfl w.heap.size 82 rfl (cfL p.conf (.slice A3 L3 k3)) _ (by have hp := HP.out _ HKA.out; exact fun j v hv => match j, hv with | 0, hv => by cases hv; exact hp.d0 | 1, hv => by cases hv; exact hp.d1 | 2, hv => by cases hv; exact hp.d2) Tryz.underlying31 rfl info_cf ?_ ?_; · rfl)
            | (go_at_call 22; refine (HCC.out _ HKA.out).mono ?_; rintro e w' ⟨rfl, kk⟩; have HKC := Lib.hid (HKA.out.then kk (by simp)); clear kk; have x10 := (HP.out _ HKC.out).d3; rw [f1]; try dsimp only [toldP])
            | (go_at_call 65; refine (HCV.out _ HKC.out).mono ?_; rintro e w' ⟨rfl, kk⟩; have HKV := Lib.hid (HKC.out.then kk (by simp)); clear kk; have x10 := (HP.out _ HKV.out).d3; rw [v1]; try dsimp only [toldP]))
          go_ret
          exact ⟨by rw [HS.out]; first | rfl | simp_all, HW.out.2.then HKV.out (by simp)⟩
end Go.Proofs.YthfdkonhjpdflaaGreatDoor
