/-
  RC, 6: the document's CheckConf.
-/
import Derived.Test.YthfdkonhjpdflaaGreatDoorRC3
import Derived.Test.YthfdkonhjpdflaaGreatDoorPk12
namespace Go.Proofs.YthfdkonhjpdflaaGreatDoor
open Go.RowKit
set_option linter.unusedVariables false
set_option maxRecDepth 100000
set_option linter.unusedSimpArgs false

theorem chainC_step {l : List Int} {i k : Nat} {a b : Int} {vk C : Bool} (hlk : k < i) (hb : l[k]? = some b) :
    (vk && (!(((l.take i).drop k).contains a) && C)) = ((vk && (b != a)) && (!(((l.take i).drop (k + 1)).contains a) && C)) := by
  have e : (l.take i)[k]? = some b := by rw [List.getElem?_take, if_pos hlk]; exact hb
  obtain ⟨hl', he⟩ := List.getElem?_eq_some_iff.1 e
  have hq : (b != a) = !(a == b) := by
    by_cases h : a = b
    · subst h; rfl
    · have h' : ¬ b = a := fun e => h e.symm
      rw [show (b != a) = true from by simpa using h', show (a == b) = false from by simpa using h]; rfl
  rw [List.drop_eq_getElem_cons hl', he, List.contains_cons, hq, Bool.not_or]
  simp only [Bool.and_assoc]
set_option maxHeartbeats 16000000 in
theorem checkConfD (F : List Nat) (r : CF) (cv : Value) (w : World) (h : intsV w F cv r.chain) :
    Calls Tryz.prog 83 #[.agg (cfL r cv).toArray] w fun e w' => e = .returned (.int .i64 (toldP r.ok)) ∧ keepBut [] w w' := by
  obtain ⟨A, c, g, rfl, _, hcm, hA, _⟩ := h
  have hlm : r.chain.length ≤ 9223372036854775807 := by unfold maxLen at hcm; omega
  have k1 := (keepBut.refl [] w).alloc (.cells (cfL r (.slice A r.chain.length c)).toArray 31)
  have r1 := rowAt.new w 31 (cfL r (.slice A r.chain.length c)).toArray
  obtain ⟨w1, hw1⟩ : ∃ w1, w.alloc (.cells (cfL r (.slice A r.chain.length c)).toArray 31) = w1 := ⟨_, rfl⟩
  rw [hw1] at k1 r1
  have HW := Lib.hid (And.intro hw1 (And.intro k1 (hA.keepS k1 (by simp))))
  have x0 : w1.cell? ⟨w.heap.size, 0, none⟩ = some (.int .i64 r.num) := r1.cell 0
  have x1 : w1.cell? ⟨w.heap.size, 1, none⟩ = some (.int .i64 r.full) := r1.cell 1
  have x2 : w1.cell? ⟨w.heap.size, 2, none⟩ = some (.slice A r.chain.length c) := r1.cell 2
  have hbs : w.heap.size < w1.heap.size := by rw [← hw1, World.size_alloc]; omega
  have HS0 : Hid (r.ok = ((inP r.num 0 9007199254740991 && (inP (r.chain.length : Int) 1 4 && inP r.full 1 r.chain.length)) && chainB [] r.chain)) := Lib.hid (by
    have e1 : decide (1 ≤ r.chain.length) = decide ((1 : Int) ≤ (r.chain.length : Int)) := decide_eq_decide.2 (by omega)
    have e2 : decide (r.chain.length ≤ 4) = decide ((r.chain.length : Int) ≤ 4) := decide_eq_decide.2 (by omega)
    unfold CF.ok inP
    rw [e1, e2]
    simp only [Bool.and_assoc])
  generalize r.ok = ok at *
  obtain ⟨a0, a1, l⟩ := r
  dsimp only at hlm x0 x1 x2 HS0 HW ⊢
  obtain ⟨L, hL⟩ : ∃ L, l.length = L := ⟨_, rfl⟩
  rw [hL] at hlm x2 HS0 HW ⊢
  clear k1 r1 hw1 hA
  obtain ⟨b0, hb0⟩ : ∃ b, inP a0 0 9007199254740991 = b := ⟨_, rfl⟩
  obtain ⟨b1, hb1⟩ : ∃ b, inP (L : Int) 1 4 = b := ⟨_, rfl⟩
  obtain ⟨b2, hb2⟩ : ∃ b, inP a1 1 (L : Int) = b := ⟨_, rfl⟩
  have H0 := Lib.hid (withinR a1 1 L w1)
  have H1 := Lib.hid (withinR L 1 4 w1)
  have H2 := Lib.hid (numberR a0 w1)
  rw [hb0] at HS0 H2
  rw [hb1] at HS0 H1
  rw [hb2] at HS0 H0
  clear hb0 hb1 hb2
  have HL := Lib.hid (And.intro hL hbs)
  clear hL hbs hcm
  go_enter Tryz.func83, Tryz.ntmps83
  go_upto_region 1 with (with_reducible refine wpList_box_to _ _ rfl 31 (.tmp 0) rfl _ rfl HW.out.1 ?_)
  go_cut [3] (fun v3 wx => v3 = .bool (b0 && (b1 && b2)) ∧ wx = w1)
  case first =>
    cases b0 <;> cases b1 <;> cases b2
    all_goals
      go_wp2_with (first
        | (go_at_call 69; refine H2.out.mono ?_; rintro e w' ⟨rfl, rfl⟩)
        | (go_at_call 67; with_reducible refine H1.out.mono ?_; rintro e w' ⟨rfl, rfl⟩)
        | (go_at_call 67; with_reducible refine H0.out.mono ?_; rintro e w' ⟨rfl, rfl⟩))
      go_meet
      case rel => exact ⟨rfl, rfl⟩
  case rest =>
    obtain ⟨rfl, rfl⟩ := hcut
    clear H0 H1 H2 x0 x1
    generalize (b0 && (b1 && b2)) = B at *
    go_upto_region 3 with fail
    go_loopw [3, 4, 5] (fun v3 v4 _ wx => ∃ (i : Nat) (v : Bool), i ≤ L ∧ v3 = .bool v ∧ v4 = .int .i64 (i : Int) ∧ ok = (v && chainB (l.take i) (l.drop i)) ∧ keepBut [] w wx ∧ keepBut [] wc wx) (fun _ v4 _ _ => L - (intOf v4).toNat)
    case atStart => exact ⟨0, B, by omega, rfl, rfl, HS0.out, HW.out.2.1, keepBut.refl _ _⟩
    case round =>
      obtain ⟨i, v, hi, rfl, rfl, ht, hk, hk1⟩ := hrel
      by_cases hlt : i < L
      · have hlt' : (i : Int) < (L : Int) := by omega
        obtain ⟨a, ha⟩ : ∃ a, l[i]? = some a := ⟨_, List.getElem?_eq_getElem (by rw [HL.out.1]; omega)⟩
        obtain ⟨o, rfl, hgl, hcA⟩ := HW.out.2.2.2 (by omega)
        have y0 := (hk1.cell (p := ⟨g, o + i, none⟩) hgl (by simp)).trans (hcA i (.int .i64 a) (by rw [List.getElem?_map, ha]; rfl))
        have x2' := (hk1.cell (p := ⟨w.heap.size, 2, none⟩) HL.out.2 (by simp)).trans x2
        have hs : ok = ((v && inP a 10 13) && (!((l.take i).contains a) && chainB (l.take (i + 1)) (l.drop (i + 1)))) := by rw [ht, chainB_step ha, Bool.and_assoc]
        have hread := Lib.hid (fun j (hj : j < i) => (⟨l[j]'(by rw [HL.out.1]; omega), List.getElem?_eq_getElem _, (hk1.cell (p := ⟨g, o + j, none⟩) hgl (by simp)).trans (hcA j (.int .i64 (l[j]'(by rw [HL.out.1]; omega))) (by rw [List.getElem?_map, List.getElem?_eq_getElem (by rw [HL.out.1]; omega)]; rfl))⟩ : ∃ b, l[j]? = some b ∧ wr.cell? ⟨g, o + j, none⟩ = some (.int .i64 b)))
        have HR := Lib.hid (And.intro hs (And.intro hk (And.intro hk1 ha)))
        have HP := Lib.hid (replicaR a wr)
        clear hs hk hk1 ha ht
        go_upto_region 5 with fail
        go_cut [3] (fun v3 wx => v3 = .bool (v && inP a 10 13) ∧ wx = wr)
        case first =>
          cases v
          all_goals
            go_wp2_with (go_at_call 134; refine HP.out.mono ?_; rintro e w' ⟨rfl, rfl⟩)
            go_meet
            case rel => exact ⟨rfl, rfl⟩
        case rest =>
          obtain ⟨rfl, rfl⟩ := hcut
          generalize (v && inP a 10 13) = B2 at *
          clear HP
          go_upto_region 7 with fail
          go_loopw [3, 5] (fun v3 v5 wx => ∃ (k : Nat) (v : Bool), k ≤ i ∧ v3 = .bool v ∧ v5 = .int .i64 (k : Int) ∧ ok = (v && (!(((l.take i).drop k).contains a) && chainB (l.take (i + 1)) (l.drop (i + 1)))) ∧ keepBut [] wc wx) (fun _ v5 _ => i - (intOf v5).toNat)
          case atStart => exact ⟨0, B2, by omega, rfl, rfl, HR.out.1, keepBut.refl _ _⟩
          case round =>
            obtain ⟨k, vk, hki, rfl, rfl, htk, hkk⟩ := hrel
            by_cases hlk : k < i
            · have hlk' : (k : Int) < (i : Int) := by omega
              obtain ⟨b, hb, cb⟩ := hread.out k hlk
              have y0' := (hkk.cell (p := ⟨g, o + i, none⟩) (World.block_lt_of_cell? wc _ y0) (by simp)).trans y0
              have z0' := (hkk.cell (p := ⟨g, o + k, none⟩) (World.block_lt_of_cell? wc _ cb) (by simp)).trans cb
              have x2'' := (hkk.cell (p := ⟨w.heap.size, 2, none⟩) (World.block_lt_of_cell? wc _ x2') (by simp)).trans x2'
              have hn := chainC_step (C := chainB (l.take (i + 1)) (l.drop (i + 1))) (vk := vk) (a := a) hlk hb
              have HN := Lib.hid (And.intro (htk.trans hn) hkk)
              clear htk hkk hn hb cb
              by_cases hba : b = a
              · have t3 : (b != a) = false := by simp [hba]
                have HB := Lib.hid t3
                clear hba
                cases vk
                all_goals
                  go_upto_region 9 with fail
                  go_quiet (fail)
                  go_wp2
                  go_roundw
                  case rel => exact ⟨k + 1, _, by omega, rfl, by go_num, by rw [HN.out.1, HB.out]; simp, HN.out.2.drewN _⟩
                  case measure => simp [intOf]; omega
              · have t3 : (b != a) = true := by simp [hba]
                have HB := Lib.hid t3
                clear hba
                cases vk
                all_goals
                  go_upto_region 9 with fail
                  go_quiet (fail)
                  go_wp2
                  go_roundw
                  case rel => exact ⟨k + 1, _, by omega, rfl, by go_num, by rw [HN.out.1, HB.out]; simp, HN.out.2.drewN _⟩
                  case measure => simp [intOf]; omega
            · obtain rfl : k = i := by omega
              have hfin : ok = (vk && chainB (l.take (k + 1)) (l.drop (k + 1))) := by
                rw [htk, List.drop_eq_nil_of_le (by rw [List.length_take]; omega)]
                simp
              have HN := Lib.hid (And.intro hfin (And.intro (HR.out.2.1.then hkk (by simp)) (HR.out.2.2.1.then hkk (by simp))))
              clear htk hkk hfin
              go_wp2
              go_roundw
              case rel => exact ⟨k + 1, vk, by omega, rfl, by go_num, HN.out.1, HN.out.2.1, HN.out.2.2⟩
              case measure => simp [intOf]; omega
      · obtain rfl : i = L := by omega
        have hv : ok = v := by rw [ht, List.drop_eq_nil_of_le (by rw [HL.out.1]; exact Nat.le_refl _)]; simp [chainB]
        have x2' := (hk1.cell (p := ⟨w.heap.size, 2, none⟩) HL.out.2 (by simp)).trans x2
        have HV := Lib.hid (And.intro hv hk)
        clear hv hk ht hk1
        go_wp2_with (go_at_call 71; refine (argR _ _).mono ?_; rintro e w' ⟨rfl, rfl⟩)
        go_ret
        exact ⟨by rw [HV.out.1]; rfl, HV.out.2⟩
end Go.Proofs.YthfdkonhjpdflaaGreatDoor
