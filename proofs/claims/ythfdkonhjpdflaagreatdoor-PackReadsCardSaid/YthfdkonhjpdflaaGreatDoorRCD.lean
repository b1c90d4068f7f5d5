/-
  RCD: RC10, RC12, joined.
-/
import Derived.Test.YthfdkonhjpdflaaGreatDoorRCB
import Derived.Test.YthfdkonhjpdflaaGreatDoorPk9
import Derived.Test.YthfdkonhjpdflaaGreatDoorPk16
section
namespace Go.Proofs.YthfdkonhjpdflaaGreatDoor
open Go.RowKit
set_option linter.unusedVariables false
set_option maxRecDepth 100000
set_option linter.unusedSimpArgs false

/-- which parts may be -/
def PK.partsD (p : PK) : Bool := ((decide (p.kind = 11) && vtsOk p.votes) || decide (p.votes.length = 0)) && (((decide (p.kind = 6) && decide (p.bytes.length ≤ 32768)) || decide (p.bytes.length = 0)) && ((if reqK.contains p.kind then p.req.ok else p.req.same rqZero) && ((if p.kind = 2 then p.ans.ok else p.ans.same anZero) && (if confK2.contains p.kind then p.conf.ok else p.conf.same cfZero))))
theorem build_rqZ (w : World) : (Instr.build 26 #[]).run Tryz.prog w = .ok (.agg (rqL rqZero nilV).toArray) w := by kernel_rfl
theorem build_anZ (w : World) : (Instr.build 28 #[]).run Tryz.prog w = .ok (.agg (anL anZero nilV).toArray) w := by kernel_rfl
theorem build_cfZ (w : World) : (Instr.build 31 #[]).run Tryz.prog w = .ok (.agg (cfL cfZero nilV).toArray) w := by kernel_rfl
set_option maxHeartbeats 16000000 in
theorem partsD_any (F : List Nat) (p : PK) (ev av cv vv bw : Value) (w : World) (h : pkV w F p ev av cv vv bw) (hf : p.fits) :
    Calls Tryz.prog 72 #[.agg (pkL p ev av cv vv bw).toArray] w fun e w' => e = .returned (.bool p.partsD) ∧ keepBut [] w w' := by
  have k1 := (keepBut.refl [] w).alloc (.cells (pkL p ev av cv vv bw).toArray 34)
  have r1 := rowAt.new w 34 (pkL p ev av cv vv bw).toArray
  obtain ⟨w1, hw1⟩ : ∃ w1, w.alloc (.cells (pkL p ev av cv vv bw).toArray 34) = w1 := ⟨_, rfl⟩
  rw [hw1] at k1 r1
  have a1 := r1.pk h.rn h.an
  have HW := Lib.hid hw1
  have HA := Lib.hid (And.intro a1 (And.intro (h.over k1) k1))
  have x0 := a1.c0
  have x7 := a1.d3
  have x8 := a1.d4
  obtain ⟨VA, vc, vg, TV, rfl, hv1, hv2, hv3, hv4, hv5, hv6⟩ := id h.vs
  obtain ⟨BA, bc, bg, rfl, _, _, sb, _⟩ := id h.bs
  have HFc := Lib.hid hf.c
  clear a1 k1 r1 hw1 h hf hv1 hv2 hv3 hv4 hv5 hv6 sb
  obtain ⟨fin, hfin⟩ : ∃ b, p.partsD = b := ⟨_, rfl⟩
  have HF0 := Lib.hid hfin
  rw [hfin]
  clear hfin
  go_enter Tryz.func72, Tryz.ntmps72
  go_upto_region 1 with (with_reducible refine wpList_box_to _ _ rfl 34 (.tmp 0) rfl _ rfl HW.out ?_)
  obtain ⟨B1, hB1⟩ : ∃ B, ((decide (p.kind = 11) && vtsOk p.votes) || decide (p.votes.length = 0)) = B := ⟨_, rfl⟩
  obtain ⟨B2, hB2⟩ : ∃ B, ((decide (p.kind = 6) && decide (p.bytes.length ≤ 32768)) || decide (p.bytes.length = 0)) = B := ⟨_, rfl⟩
  have HB1 := Lib.hid hB1
  have HB2 := Lib.hid hB2
  clear hB1 hB2
  go_cut [3] (fun v3 wx => v3 = .bool B1 ∧ keepBut [] w1 wx)
  case first =>
    have HC := Lib.hid (votesD F p.votes _ w1 HA.out.2.1.vs)
    have HR := Lib.hid (keepBut.refl [] w1)
    obtain ⟨B, hB⟩ : ∃ B, vtsOk p.votes = B := ⟨_, rfl⟩
    rw [hB] at HC HB1
    clear hB x8
    by_cases h0 : p.votes.length = 0
    · have g0 : ((p.votes.length : Int) == 0) = true := by simp [h0]
      have HZ := Lib.hid (show decide (p.votes.length = 0) = true by simp [h0])
      clear h0
      by_cases hk : p.kind = 11
      · have HD := Lib.hid (show decide (p.kind = 11) = true by simp [hk])
        rw [hk] at x0
        clear hk
        cases B
        all_goals
          go_wp2_with (go_at_call 135; refine HC.out.mono ?_; rintro e w' ⟨rfl, k3⟩; have HK3 := Lib.hid k3; have x7 := (k3.cell (p := ⟨w.heap.size, 85, none⟩) (World.block_lt_of_cell? w1 _ x7) (by simp)).trans x7; clear k3)
          go_meet
          case rel => exact ⟨by rw [← HB1.out, HD.out, HZ.out]; rfl, HK3.out⟩
      · have g1 : (p.kind == 11) = false := by simp [hk]
        have HD := Lib.hid (show decide (p.kind = 11) = false by simp [hk])
        clear hk
        go_wp2_with fail
        go_meet
        case rel => exact ⟨by rw [← HB1.out, HD.out, HZ.out]; rfl, HR.out⟩
    · have g0 : ((p.votes.length : Int) == 0) = false := beq_eq_false_iff_ne.2 (by omega)
      have HZ := Lib.hid (show decide (p.votes.length = 0) = false from decide_eq_false h0)
      clear h0
      by_cases hk : p.kind = 11
      · have HD := Lib.hid (show decide (p.kind = 11) = true by simp [hk])
        rw [hk] at x0
        clear hk
        cases B
        all_goals
          go_wp2_with (go_at_call 135; refine HC.out.mono ?_; rintro e w' ⟨rfl, k3⟩; have HK3 := Lib.hid k3; have x7 := (k3.cell (p := ⟨w.heap.size, 85, none⟩) (World.block_lt_of_cell? w1 _ x7) (by simp)).trans x7; clear k3)
          go_meet
          case rel => exact ⟨by rw [← HB1.out, HD.out, HZ.out]; rfl, HK3.out⟩
      · have g1 : (p.kind == 11) = false := by simp [hk]
        have HD := Lib.hid (show decide (p.kind = 11) = false by simp [hk])
        clear hk
        go_wp2_with fail
        go_meet
        case rel => exact ⟨by rw [← HB1.out, HD.out, HZ.out]; rfl, HR.out⟩
  case rest =>
    obtain ⟨rfl, hk⟩ := hcut
    have HA2 := Lib.hid (And.intro (HA.out.1.keep hk (by simp)) (And.intro (HA.out.2.1.over hk) (HA.out.2.2.then hk (by simp))))
    clear x0 x7 x8 hk
    have x0 := HA2.out.1.c0
    have x8 := HA2.out.1.d4
    have HR := Lib.hid (keepBut.refl [] wc)
    go_upto_region 2 with fail
    go_cut [3] (fun v3 wx => v3 = .bool (B1 && B2) ∧ wx = wc)
    case first =>
      cases B1
      · go_wp2_with fail
        go_meet
        case rel => exact ⟨rfl, rfl⟩
      · by_cases hk : p.kind = 6
        · have HD := Lib.hid (show decide (p.kind = 6) = true by simp [hk])
          rw [hk] at x0
          clear hk
          by_cases h1 : (p.bytes.length : Int) ≤ 32768
          · have d1 := decide_eq_true h1
            have HZ := Lib.hid (show B2 = true by rw [← HB2.out, HD.out, show decide (p.bytes.length ≤ 32768) = true from decide_eq_true (by omega)]; rfl)
            go_wp2_with fail
            go_meet
            case rel => exact ⟨by rw [HZ.out]; rfl, rfl⟩
          · have d1 := decide_eq_false h1
            have g1 : ((p.bytes.length : Int) == 0) = false := beq_eq_false_iff_ne.2 (by omega)
            have HZ := Lib.hid (show B2 = false by rw [← HB2.out, HD.out, show decide (p.bytes.length ≤ 32768) = false from decide_eq_false (by omega), show decide (p.bytes.length = 0) = false from decide_eq_false (by omega)]; rfl)
            go_wp2_with fail
            go_meet
            case rel => exact ⟨by rw [HZ.out]; rfl, rfl⟩
        · have g0 : (p.kind == 6) = false := by simp [hk]
          have HD := Lib.hid (show decide (p.kind = 6) = false by simp [hk])
          clear hk
          by_cases h1 : p.bytes.length = 0
          · have g1 : ((p.bytes.length : Int) == 0) = true := by simp [h1]
            have HZ := Lib.hid (show B2 = true by rw [← HB2.out, HD.out, show decide (p.bytes.length = 0) = true from decide_eq_true h1]; rfl)
            clear h1
            go_wp2_with fail
            go_meet
            case rel => exact ⟨by rw [HZ.out]; rfl, rfl⟩
          · have g1 : ((p.bytes.length : Int) == 0) = false := beq_eq_false_iff_ne.2 (by omega)
            have HZ := Lib.hid (show B2 = false by rw [← HB2.out, HD.out, show decide (p.bytes.length = 0) = false from decide_eq_false h1]; rfl)
            clear h1
            go_wp2_with fail
            go_meet
            case rel => exact ⟨by rw [HZ.out]; rfl, rfl⟩
    case rest =>
      obtain ⟨rfl, rfl⟩ := hcut
      obtain ⟨B12, hB12⟩ : ∃ B, (B1 && B2) = B := ⟨_, rfl⟩
      have HB12 := Lib.hid hB12
      rw [hB12]
      obtain ⟨cR, hcR⟩ : ∃ b, reqK.contains p.kind = b := ⟨_, rfl⟩
      have HQ := Lib.hid (hasReqR p.kind wc)
      rw [hcR] at HQ
      have HcR := Lib.hid hcR
      clear hcR hB12
      go_upto_if 38 with (go_at_call 57; refine HQ.out.mono ?_; rintro e wq ⟨rfl, k3⟩; have HA3 := Lib.hid (And.intro (HA2.out.1.keep k3 (by simp)) (And.intro (HA2.out.2.1.over k3) (HA2.out.2.2.then k3 (by simp)))); clear k3 x0 x8)
      obtain ⟨B3, hB3⟩ : ∃ B, (if reqK.contains p.kind then p.req.ok else p.req.same rqZero) = B := ⟨_, rfl⟩
      have HB3 := Lib.hid hB3
      have HB1' := HB1
      have HB2' := HB2
      clear hB3 HQ HA HR HB1 HB2
      have HI := Lib.hid (show (Tryz.prog.info? 26).map (·.size) = some (rqL p.req ev).length by rw [rqL_len HA3.out.2.1.rn]; exact info_rq)
      go_cut [3] (fun v3 wx => v3 = .bool (B12 && B3) ∧ keepBut [] wq wx)
      case first =>
        have HR := Lib.hid (keepBut.refl [] wq)
        have HC := Lib.hid (checkReqD F p.req ev wq ⟨HA3.out.2.1.rn, HA3.out.2.1.re⟩)
        have HE := Lib.hid (sameReqD F [] p.req rqZero ev nilV wq ⟨HA3.out.2.1.rn, HA3.out.2.1.re⟩ ⟨rqZero_name, bytesV.nil _ _⟩)
        cases B12
        · cases cR
          all_goals
            go_wp2_with fail
            go_meet
            case rel => exact ⟨rfl, HR.out⟩
        · cases cR
          · have hb3 := HB3.out
            rw [HcR.out] at hb3
            simp only [Bool.false_eq_true, if_false] at hb3
            rw [hb3] at HE
            have HZ := Lib.hid (build_rqZ wq)
            clear hb3
            go_wp2_with (first
              | (refine wpList_load_mid_g 26 (.tmp 48) rfl w.heap.size 7 rfl (rqL p.req ev) _ HA3.out.1.rq Tryz.underlying26 rfl HI.out ?_ ?_; · rfl)
              | (refine wpList_build_v_g _ 26 rfl _ HZ.out ?_ ?_; · rfl)
              | (go_at_call 36; refine HE.out.mono ?_; rintro e w' ⟨rfl, k3⟩; have HK3 := Lib.hid k3; clear k3))
            go_meet
            case rel => exact ⟨rfl, HK3.out⟩
          · have hb3 := HB3.out
            rw [HcR.out] at hb3
            simp only [if_true] at hb3
            rw [hb3] at HC
            clear hb3
            cases B3
            all_goals
              simp only [toldP, Bool.false_eq_true, if_false, if_true] at HC
              go_wp2_with (first
                | (refine wpList_load_mid_g 26 (.tmp 41) rfl w.heap.size 7 rfl (rqL p.req ev) _ HA3.out.1.rq Tryz.underlying26 rfl HI.out ?_ ?_; · rfl)
                | (go_at_call 80; refine HC.out.mono ?_; rintro e w' ⟨rfl, k3⟩; have HK3 := Lib.hid k3; clear k3))
              go_meet
              case rel => exact ⟨rfl, HK3.out⟩
      case rest =>
        obtain ⟨rfl, hk⟩ := hcut
        have HA4 := Lib.hid (And.intro (HA3.out.1.keep hk (by simp)) (And.intro (HA3.out.2.1.over hk) (HA3.out.2.2.then hk (by simp))))
        clear hk
        have x0 := HA4.out.1.c0
        obtain ⟨C1, hC1⟩ : ∃ B, (B12 && B3) = B := ⟨_, rfl⟩
        have HC1 := Lib.hid hC1
        rw [hC1]
        clear hC1 HA3 HI
        obtain ⟨B4, hB4⟩ : ∃ B, (if p.kind = 2 then p.ans.ok else p.ans.same anZero) = B := ⟨_, rfl⟩
        have HB4 := Lib.hid hB4
        clear hB4
        have HI := Lib.hid (show (Tryz.prog.info? 28).map (·.size) = some (anL p.ans av).length by rw [anL_len HA4.out.2.1.an]; exact info_an)
        go_upto_if 55 with fail
        clear x0
        go_cut [3] (fun v3 wx => v3 = .bool (C1 && B4) ∧ keepBut [] wc wx)
        case first =>
          have HR := Lib.hid (keepBut.refl [] wc)
          have HC := Lib.hid (checkAnsD F p.ans av wc ⟨HA4.out.2.1.an, HA4.out.2.1.ae⟩)
          have HE := Lib.hid (sameAnsD F [] p.ans anZero av nilV wc ⟨HA4.out.2.1.an, HA4.out.2.1.ae⟩ ⟨anZero_name, bytesV.nil _ _⟩)
          by_cases hk : p.kind = 2
          · have g0 : (p.kind == 2) = true := by simp [hk]
            have hb4 := HB4.out
            rw [if_pos hk] at hb4
            rw [hb4] at HC
            clear hb4 hk
            cases C1
            · go_wp2_with fail
              go_meet
              case rel => exact ⟨rfl, HR.out⟩
            · cases B4
              all_goals
                simp only [toldP, Bool.false_eq_true, if_false, if_true] at HC
                go_wp2_with (first
                  | (refine wpList_load_mid_g 28 (.tmp 58) rfl w.heap.size 44 rfl (anL p.ans av) _ HA4.out.1.an Tryz.underlying28 rfl HI.out ?_ ?_; · rfl)
                  | (go_at_call 82; refine HC.out.mono ?_; rintro e w' ⟨rfl, k3⟩; have HK3 := Lib.hid k3; clear k3))
                go_meet
                case rel => exact ⟨rfl, HK3.out⟩
          · have g0 : (p.kind == 2) = false := by simp [hk]
            have hb4 := HB4.out
            rw [if_neg hk] at hb4
            rw [hb4] at HE
            have HZ := Lib.hid (build_anZ wc)
            clear hb4 hk
            cases C1
            · go_wp2_with fail
              go_meet
              case rel => exact ⟨rfl, HR.out⟩
            · go_wp2_with (first
                | (refine wpList_load_mid_g 28 (.tmp 65) rfl w.heap.size 44 rfl (anL p.ans av) _ HA4.out.1.an Tryz.underlying28 rfl HI.out ?_ ?_; · rfl)
                | (refine wpList_build_v_g _ 28 rfl _ HZ.out ?_ ?_; · rfl)
                | (go_at_call 37; refine HE.out.mono ?_; rintro e w' ⟨rfl, k3⟩; have HK3 := Lib.hid k3; clear k3))
              go_meet
              case rel => exact ⟨rfl, HK3.out⟩
        case rest =>
          obtain ⟨rfl, hk⟩ := hcut
          have HA5 := Lib.hid (And.intro (HA4.out.1.keep hk (by simp)) (And.intro (HA4.out.2.1.over hk) (HA4.out.2.2.then hk (by simp))))
          clear hk
          have x0 := HA5.out.1.c0
          obtain ⟨D1, hD1⟩ : ∃ B, (C1 && B4) = B := ⟨_, rfl⟩
          have HD1 := Lib.hid hD1
          rw [hD1]
          clear hD1 HA4 HI
          obtain ⟨cF, hcF⟩ : ∃ b, confK2.contains p.kind = b := ⟨_, rfl⟩
          have HQ := Lib.hid (hasConfR p.kind wc)
          rw [hcF] at HQ
          have HcF := Lib.hid hcF
          clear hcF
          go_upto_if 72 with (go_at_call 59; refine HQ.out.mono ?_; rintro e wq ⟨rfl, k3⟩; have HA6 := Lib.hid (And.intro (HA5.out.1.keep k3 (by simp)) (And.intro (HA5.out.2.1.over k3) (HA5.out.2.2.then k3 (by simp)))); clear k3 x0)
          have u0 := HA6.out.1.d0
          have u1 := HA6.out.1.d1
          have u2 := HA6.out.1.d2
          have HFIN := Lib.hid (show fin = (D1 && (if confK2.contains p.kind then p.conf.ok else p.conf.same cfZero)) by rw [← HF0.out]; unfold PK.partsD; rw [HB1'.out, HB2'.out, HB3.out, HB4.out, ← HD1.out, ← HC1.out, ← HB12.out]; simp only [Bool.and_assoc])
          have HC := Lib.hid (checkConfD F p.conf cv wq HA6.out.2.1.cc)
          have HE := Lib.hid (sameConfD F [] p.conf cfZero cv nilV wq HA6.out.2.1.cc (intsV.nil _ _) HFc.out (by simp [cfZero]))
          cases D1
          · have HF := Lib.hid (show fin = false by rw [HFIN.out]; rfl)
            cases cF
            all_goals
              go_wp2_with fail
              go_ret
              exact ⟨by rw [HF.out]; rfl, HA6.out.2.2⟩
          · cases cF
            · have HF := Lib.hid (show fin = p.conf.same cfZero by rw [HFIN.out, HcF.out]; simp)
              go_wp2_with (go_at_call 38; refine HE.out.mono ?_; rintro e w' ⟨rfl, k3⟩; have HK3 := Lib.hid (HA6.out.2.2.then k3 (by simp)); clear k3 u0 u1 u2)
              go_ret
              exact ⟨by rw [HF.out]; rfl, HK3.out⟩
            · have HF := Lib.hid (show fin = p.conf.ok by rw [HFIN.out, HcF.out]; simp)
              generalize p.conf.ok = cfo at *
              cases cfo
              all_goals
                simp only [toldP, Bool.false_eq_true, if_false, if_true] at HC
                go_wp2_with (go_at_call 83; refine HC.out.mono ?_; rintro e w' ⟨rfl, k3⟩; have HK3 := Lib.hid (HA6.out.2.2.then k3 (by simp)); clear k3 u0 u1 u2)
                go_ret
                exact ⟨by rw [HF.out]; rfl, HK3.out⟩
end Go.Proofs.YthfdkonhjpdflaaGreatDoor
end

section
namespace Go.Proofs.YthfdkonhjpdflaaGreatDoor
open Go.RowKit
set_option linter.unusedVariables false
set_option maxRecDepth 100000
set_option linter.unusedSimpArgs false

/-- which packets may be, as the document says it -/
def PK.headD (p : PK) : Bool := inP p.kind 1 14 && (nodeP p.frm && nodeP p.dst)
def PK.numD (p : PK) : Bool := (numK.contains p.kind && inP p.num 0 9007199254740991) || (p.num == 0)
def PK.seqD (p : PK) : Bool := (seqK.contains p.kind && inP p.seq (leastP p.kind) 9007199254740990) || (p.seq == 0)
def PK.balD (p : PK) : Bool := (ballotK.contains p.kind && inP p.ballot 0 9007199254740991) || (p.ballot == 0)
def PK.okD (p : PK) : Bool := ((p.headD && (p.numD && (p.seqD && p.balD))) && ((p.kind == 8) || !p.ready)) && p.partsD

structure kindB (k n : Int) : Prop where
  f : fieldsP k = n
  nz : (n == 0) = false
  hd : inP k 1 14 = true
  b1 : numK.contains k = !(bitA n 1 == 0)
  b2 : seqK.contains k = !(bitA n 2 == 0)
  b3 : ballotK.contains k = !(bitA n 4 == 0)
  b4 : (k == 8) = !(bitA n 8 == 0)
  b5 : reqK.contains k = !(bitA n 16 == 0)
  b6 : decide (k = 2) = !(bitA n 32 == 0)
  b7 : confK2.contains k = !(bitA n 64 == 0)
  b8 : decide (k = 11) = !(bitA n 128 == 0)
  b9 : decide (k = 6) = !(bitA n 256 == 0)
theorem kinds {k : Int} (h : 1 ≤ k ∧ k ≤ 14) : ∃ n, kindB k n := by
  have : k = 1 ∨ k = 2 ∨ k = 3 ∨ k = 4 ∨ k = 5 ∨ k = 6 ∨ k = 7 ∨ k = 8 ∨ k = 9 ∨ k = 10 ∨ k = 11 ∨ k = 12 ∨ k = 13 ∨ k = 14 := by omega
  rcases this with rfl | rfl | rfl | rfl | rfl | rfl | rfl | rfl | rfl | rfl | rfl | rfl | rfl | rfl
  · exact ⟨16, by decide +kernel, by decide +kernel, by decide +kernel, by decide +kernel, by decide +kernel, by decide +kernel, by decide +kernel, by decide +kernel, by decide +kernel, by decide +kernel, by decide +kernel, by decide +kernel⟩
  · exact ⟨32, by decide +kernel, by decide +kernel, by decide +kernel, by decide +kernel, by decide +kernel, by decide +kernel, by decide +kernel, by decide +kernel, by decide +kernel, by decide +kernel, by decide +kernel, by decide +kernel⟩
  · exact ⟨19, by decide +kernel, by decide +kernel, by decide +kernel, by decide +kernel, by decide +kernel, by decide +kernel, by decide +kernel, by decide +kernel, by decide +kernel, by decide +kernel, by decide +kernel, by decide +kernel⟩
  · exact ⟨3, by decide +kernel, by decide +kernel, by decide +kernel, by decide +kernel, by decide +kernel, by decide +kernel, by decide +kernel, by decide +kernel, by decide +kernel, by decide +kernel, by decide +kernel, by decide +kernel⟩
  · exact ⟨3, by decide +kernel, by decide +kernel, by decide +kernel, by decide +kernel, by decide +kernel, by decide +kernel, by decide +kernel, by decide +kernel, by decide +kernel, by decide +kernel, by decide +kernel, by decide +kernel⟩
  · exact ⟨259, by decide +kernel, by decide +kernel, by decide +kernel, by decide +kernel, by decide +kernel, by decide +kernel, by decide +kernel, by decide +kernel, by decide +kernel, by decide +kernel, by decide +kernel, by decide +kernel⟩
  · exact ⟨64, by decide +kernel, by decide +kernel, by decide +kernel, by decide +kernel, by decide +kernel, by decide +kernel, by decide +kernel, by decide +kernel, by decide +kernel, by decide +kernel, by decide +kernel, by decide +kernel⟩
  · exact ⟨9, by decide +kernel, by decide +kernel, by decide +kernel, by decide +kernel, by decide +kernel, by decide +kernel, by decide +kernel, by decide +kernel, by decide +kernel, by decide +kernel, by decide +kernel, by decide +kernel⟩
  · exact ⟨1024, by decide +kernel, by decide +kernel, by decide +kernel, by decide +kernel, by decide +kernel, by decide +kernel, by decide +kernel, by decide +kernel, by decide +kernel, by decide +kernel, by decide +kernel, by decide +kernel⟩
  · exact ⟨6, by decide +kernel, by decide +kernel, by decide +kernel, by decide +kernel, by decide +kernel, by decide +kernel, by decide +kernel, by decide +kernel, by decide +kernel, by decide +kernel, by decide +kernel, by decide +kernel⟩
  · exact ⟨134, by decide +kernel, by decide +kernel, by decide +kernel, by decide +kernel, by decide +kernel, by decide +kernel, by decide +kernel, by decide +kernel, by decide +kernel, by decide +kernel, by decide +kernel, by decide +kernel⟩
  · exact ⟨70, by decide +kernel, by decide +kernel, by decide +kernel, by decide +kernel, by decide +kernel, by decide +kernel, by decide +kernel, by decide +kernel, by decide +kernel, by decide +kernel, by decide +kernel, by decide +kernel⟩
  · exact ⟨6, by decide +kernel, by decide +kernel, by decide +kernel, by decide +kernel, by decide +kernel, by decide +kernel, by decide +kernel, by decide +kernel, by decide +kernel, by decide +kernel, by decide +kernel, by decide +kernel⟩
  · exact ⟨4, by decide +kernel, by decide +kernel, by decide +kernel, by decide +kernel, by decide +kernel, by decide +kernel, by decide +kernel, by decide +kernel, by decide +kernel, by decide +kernel, by decide +kernel, by decide +kernel⟩
theorem intC (b x lo hi : Int) (h0 : lo ≤ 0) (h1 : 0 ≤ hi) : (((!(b == 0)) && inP x lo hi) || (x == 0)) = ((x == oI b x) && inP x lo hi) := by
  unfold oI
  by_cases hx : x = 0
  · subst hx
    rw [inP_yes ⟨h0, h1⟩]
    simp
  · have e : (x == 0) = false := by simpa using hx
    by_cases hb : b = 0
    · subst hb; simp [e]
    · have hb' : (b == 0) = false := by simpa using hb
      rw [if_neg hb]; simp [e, hb']
theorem boolC (b : Int) (x : Bool) : ((!(b == 0)) || !x) = (x == oB b x) := by
  unfold oB
  by_cases hb : b = 0
  · subst hb; cases x <;> rfl
  · have hb' : (b == 0) = false := by simpa using hb
    rw [if_neg hb]; cases x <;> simp [hb']
theorem RQ.same_self (r : RQ) : r.same r = true := by simp [RQ.same]
theorem AN.same_self (r : AN) : r.same r = true := by simp [AN.same]
theorem CF.same_self (r : CF) : r.same r = true := by simp [CF.same]
theorem vEq_self : ∀ l : List VT, vEq l l = true
  | [] => rfl
  | v :: r => by simp [vEq, VT.same, CF.same_self, vEq_self r]
theorem vEq_nil (l : List VT) : vEq l [] = decide (l.length = 0) := by cases l <;> simp [vEq]
theorem partC {α : Type} (b : Int) (x z : α) (same : α → α → Bool) (ok : α → Bool) (hs : same x x = true) : (if (!(b == 0)) = true then ok x else same x z) = (same x (oV b z x) && ((b == 0) || ok x)) := by
  unfold oV
  by_cases hb : b = 0
  · subst hb; simp
  · have hb' : (b == 0) = false := by simpa using hb
    rw [if_neg hb]; simp [hs, hb']
theorem votesC (b : Int) (l : List VT) : (((!(b == 0)) && vtsOk l) || decide (l.length = 0)) = (vEq l (oV b [] l) && vtsOk l) := by
  unfold oV
  by_cases hb : b = 0
  · subst hb
    rw [if_pos rfl, vEq_nil]
    cases l with
    | nil => simp [vtsOk, vtsB]
    | cons a r => simp
  · have hb' : (b == 0) = false := by simpa using hb
    rw [if_neg hb, vEq_self, hb']
    cases l with
    | nil => simp [vtsOk, vtsB]
    | cons a r => simp
theorem bytesC (b : Int) (l : List UInt8) : (((!(b == 0)) && decide (l.length ≤ 32768)) || decide (l.length = 0)) = ((l == oV b [] l) && decide (l.length ≤ 32768)) := by
  unfold oV
  by_cases hb : b = 0
  · subst hb
    rw [if_pos rfl]
    cases l with
    | nil => simp
    | cons a r => simp
  · have hb' : (b == 0) = false := by simpa using hb
    rw [if_neg hb, hb']
    cases l with
    | nil => simp
    | cons a r => simp
theorem okD_ok (p : PK) : p.okD = p.ok := by
  by_cases hk : 1 ≤ p.kind ∧ p.kind ≤ 14
  · obtain ⟨n, h⟩ := kinds hk
    have e1 : p.numD = ((p.num == oI (bitA n 1) p.num) && inP p.num 0 9007199254740991) := by unfold PK.numD; rw [h.b1]; exact intC _ _ _ _ (by omega) (by omega)
    have e2 : p.seqD = ((p.seq == oI (bitA n 2) p.seq) && seqP p.kind p.seq) := by
      unfold PK.seqD
      rw [h.b2, intC _ _ _ _ (by unfold leastP; split <;> omega) (by omega)]
      rfl
    have e3 : p.balD = ((p.ballot == oI (bitA n 4) p.ballot) && inP p.ballot 0 9007199254740991) := by unfold PK.balD; rw [h.b3]; exact intC _ _ _ _ (by omega) (by omega)
    have e4 : ((p.kind == 8) || !p.ready) = (p.ready == oB (bitA n 8) p.ready) := by rw [h.b4]; exact boolC _ _
    have e5 : (if reqK.contains p.kind then p.req.ok else p.req.same rqZero) = (p.req.same (oV (bitA n 16) rqZero p.req) && ((bitA n 16 == 0) || p.req.ok)) := by rw [h.b5]; exact partC _ p.req rqZero RQ.same RQ.ok (RQ.same_self _)
    have e6 : (if p.kind = 2 then p.ans.ok else p.ans.same anZero) = (p.ans.same (oV (bitA n 32) anZero p.ans) && ((bitA n 32 == 0) || p.ans.ok)) := by
      rw [← partC _ p.ans anZero AN.same AN.ok (AN.same_self _), ← h.b6]
      simp only [decide_eq_true_eq]
    have e7 : (if confK2.contains p.kind then p.conf.ok else p.conf.same cfZero) = (p.conf.same (oV (bitA n 64) cfZero p.conf) && ((bitA n 64 == 0) || p.conf.ok)) := by rw [h.b7]; exact partC _ p.conf cfZero CF.same CF.ok (CF.same_self _)
    have e8 : ((decide (p.kind = 11) && vtsOk p.votes) || decide (p.votes.length = 0)) = (vEq p.votes (oV (bitA n 128) [] p.votes) && vtsOk p.votes) := by rw [h.b8]; exact votesC _ _
    have e9 : ((decide (p.kind = 6) && decide (p.bytes.length ≤ 32768)) || decide (p.bytes.length = 0)) = ((p.bytes == oV (bitA n 256) [] p.bytes) && decide (p.bytes.length ≤ 32768)) := by rw [h.b9]; exact bytesC _ _
    unfold PK.okD PK.partsD PK.headD PK.ok PK.parts
    rw [e1, e2, e3, e4, e5, e6, e7, e8, e9, h.f, h.nz, h.hd]
    unfold PK.same PK.cut
    dsimp only
    rw [show (p.kind == p.kind) = true by simp, show (p.frm == p.frm) = true by simp, show (p.dst == p.dst) = true by simp]
    simp only [Bool.true_and, Bool.not_false]
    generalize nodeP p.frm = a1
    generalize nodeP p.dst = a2
    generalize (p.num == oI (bitA n 1) p.num) = a3
    generalize inP p.num 0 9007199254740991 = a4
    generalize (p.seq == oI (bitA n 2) p.seq) = a5
    generalize seqP p.kind p.seq = a6
    generalize (p.ballot == oI (bitA n 4) p.ballot) = a7
    generalize inP p.ballot 0 9007199254740991 = a8
    generalize (p.ready == oB (bitA n 8) p.ready) = a9
    generalize p.req.same (oV (bitA n 16) rqZero p.req) = b1
    generalize (bitA n 16 == 0 || p.req.ok) = b2
    generalize p.ans.same (oV (bitA n 32) anZero p.ans) = b3
    generalize (bitA n 32 == 0 || p.ans.ok) = b4
    generalize p.conf.same (oV (bitA n 64) cfZero p.conf) = b5
    generalize (bitA n 64 == 0 || p.conf.ok) = b6
    generalize vEq p.votes (oV (bitA n 128) [] p.votes) = b7
    generalize vtsOk p.votes = b8
    generalize (p.bytes == oV (bitA n 256) [] p.bytes) = b9
    generalize decide (p.bytes.length ≤ 32768) = c1
    ac_rfl
  · have h1 : inP p.kind 1 14 = false := inP_no hk
    have h2 : (fieldsP p.kind == 0) = true := by
      unfold fieldsP
      by_cases h : 0 ≤ p.kind ∧ p.kind ≤ 14
      · rw [if_pos h]
        obtain h0 : p.kind = 0 := by omega
        rw [h0]; rfl
      · rw [if_neg h]; rfl
    unfold PK.okD PK.headD PK.ok
    rw [h1, h2]
    simp
end Go.Proofs.YthfdkonhjpdflaaGreatDoor
end
