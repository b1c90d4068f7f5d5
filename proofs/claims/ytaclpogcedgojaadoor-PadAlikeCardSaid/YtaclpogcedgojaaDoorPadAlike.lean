/-
  PadAlike: values of one class are as long as each other, when they are padded; a tombstone is as long as a short value.
-/
import Derived.Test.YtaclpogcedgojaaDoorPadBack
import Derived.LoopTactic
import Derived.RegionTactic
namespace Go.Proofs.YtaclpogcedgojaaDoor
open Go.RowKit
set_option linter.unusedVariables false

theorem classP_mono (a b S T : Nat) (h : a ≤ b) (hb : b ≤ 250) (hS : classP (a : Int) = (S : Int)) (hT : classP (b : Int) = (T : Int)) : S ≤ T := by
  unfold classP at hS hT
  rw [if_neg (by omega)] at hS hT
  split at hS <;> split at hT
  all_goals (try split at hS) <;> (try split at hT)
  all_goals omega

theorem two_new (w : World) (X Y : Array Value) (t : TypeId) : rowAt ((w.alloc (.cells X t)).alloc (.cells Y t)).drew w.heap.size t X ∧ rowAt ((w.alloc (.cells X t)).alloc (.cells Y t)).drew (w.heap.size + 1) t Y ∧ keepBut [] w ((w.alloc (.cells X t)).alloc (.cells Y t)).drew := by
  refine ⟨((keepBut.refl [] (w.alloc (.cells X t))).alloc (.cells Y t)).drew.row (rowAt.new w t X) (by simp), ?_, (((keepBut.refl [] w).alloc _).alloc _).drew⟩
  have := rowAt.new (w.alloc (.cells X t)) t Y
  have h2 := ((keepBut.refl [] ((w.alloc (.cells X t)).alloc (.cells Y t))).drew).row this (by simp)
  simpa using h2
def alikeCut (w : World) (a b : Nat) (v7 v8 : Value) (wx : World) : Prop :=
  ∃ g h, v7 = .slice (some ⟨g, 0, none⟩) a a ∧ v8 = .slice (some ⟨h, 0, none⟩) b b ∧ rowAt wx g 5 ((List.replicate a (0 : UInt8)).map bv).toArray ∧ rowAt wx h 5 ((List.replicate b (0 : UInt8)).map bv).toArray ∧ g ≠ h ∧ w.heap.size ≤ g ∧ w.heap.size ≤ h ∧ keepBut [] w wx
def alikeRel (w : World) (a b g h : Nat) (c : UInt8) (v9 : Value) (wx : World) : Prop :=
  ∃ j : Nat, v9 = .int .i64 (j : Int) ∧ j ≤ a ∧ rowAt wx g 5 ((List.replicate j c ++ List.replicate (a - j) 0).map bv).toArray ∧ rowAt wx h 5 ((List.replicate b (0 : UInt8)).map bv).toArray ∧ keepBut [] w wx

set_option maxRecDepth 100000 in
set_option maxHeartbeats 2000000 in
theorem padAlike_law (a0 b0 c0 : Int) (w : World) (wa : (Lit.int .i64 a0).wf = true) (wb : (Lit.int .i64 b0).wf = true) (wc0 : (Lit.int .u8 c0).wf = true) (h : classesAt w) :
    Calls Tryd.prog 6 #[.int .i64 a0, .int .i64 b0, .int .u8 c0] w (yesPost w) := by
  have hat : -9223372036854775808 ≤ a0 ∧ a0 ≤ 9223372036854775807 := by simpa [Lit.wf, IntKind.min, IntKind.max, IntKind.signed, IntKind.bits] using wa
  have hbt : -9223372036854775808 ≤ b0 ∧ b0 ≤ 9223372036854775807 := by simpa [Lit.wf, IntKind.min, IntKind.max, IntKind.signed, IntKind.bits] using wb
  have hct : 0 ≤ c0 ∧ c0 ≤ 255 := by simpa [Lit.wf, IntKind.min, IntKind.max, IntKind.signed, IntKind.bits] using wc0
  obtain ⟨c, rfl⟩ : ∃ c : UInt8, c0 = (c.toNat : Int) := ⟨UInt8.ofNat c0.toNat, by rw [UInt8.toNat_ofNat']; omega⟩
  clear wa wb wc0 hct
  obtain ⟨a, ha⟩ : ∃ a : Nat, a0 % 251 = (a : Int) := ⟨(a0 % 251).toNat, by omega⟩
  obtain ⟨b, hb⟩ : ∃ b : Nat, b0 % 251 = (b : Int) := ⟨(b0 % 251).toNat, by omega⟩
  have ha2 : a ≤ 250 := by omega
  have hb2 : b ≤ 250 := by omega
  have HA := Lib.hid ha
  have HB := Lib.hid hb
  clear ha hb
  have mka := make_bytes a (by omega)
  have mkb := make_bytes b (by omega)
  go_enter Tryd.func6, Tryd.ntmps6
  go_wp2_with fail
  refine (bring_any _ _ hat.1 hat.2 (by omega) (by omega) _).mono ?_; rintro e w' ⟨rfl, rfl⟩; rw [HA.out]
  go_wp2_with fail
  refine (bring_any _ _ hbt.1 hbt.2 (by omega) (by omega) _).mono ?_; rintro e w' ⟨rfl, rfl⟩; rw [HB.out]
  go_upto_region 2 with fail
  go_cut [7, 8] (fun v7 v8 wx => alikeCut w a b v7 v8 wx)
  case first =>
    go_region
    all_goals
      go_wp2_with fail
      go_meet
    · have q := two_new w (zeroRow a) (zeroRow b) 5
      exact ⟨w.heap.size, w.heap.size + 1, rfl, rfl, by rw [← zeroRow_eq]; exact q.1, by rw [← zeroRow_eq]; exact q.2.1, by omega, by omega, by omega, q.2.2⟩
    · have q := two_new w (zeroRow b) (zeroRow a) 5
      exact ⟨w.heap.size + 1, w.heap.size, rfl, rfl, by rw [← zeroRow_eq]; exact q.2.1, by rw [← zeroRow_eq]; exact q.1, by omega, by omega, by omega, q.2.2⟩
  case rest =>
    obtain ⟨g, k, rfl, rfl, rg, rk, hgk, hg, hkk, k0⟩ := hcut
    generalize wc = w1 at *
    clear mka mkb
    go_wp2_with fail
    go_loopw [9] (fun v9 wr => alikeRel w a b g k c v9 wr) (fun v9 _ => a - (intOf v9).toNat)
    case atStart => exact ⟨0, rfl, Nat.zero_le _, by simpa using rg, rk, k0⟩
    case round =>
      clear rg rk k0
      obtain ⟨j, rfl, hja, rg, rk, k0⟩ := hrel
      by_cases hlt : j < a
      · have hlt' : (j : Int) < (a : Int) := by omega
        have hcell : wr.cell? ⟨g, j, none⟩ = some (.int .u8 0) := by
          have := rowB_cell rg j 0 (by rw [List.getElem?_append_right (by simp), List.length_replicate, Nat.sub_self, List.getElem?_replicate, if_pos (by omega)])
          exact this
        have hfree := rg.free j
        have rg2 := rowB_set rg j c
        have hset : (List.replicate j c ++ List.replicate (a - j) 0).set j c = List.replicate (j + 1) c ++ List.replicate (a - (j + 1)) (0 : UInt8) := by
          rw [List.set_append_right _ _ (by simp)]
          simp only [List.length_replicate, Nat.sub_self]
          obtain ⟨m, hm⟩ : ∃ m, a - j = m + 1 := ⟨a - j - 1, by omega⟩
          rw [hm, List.replicate_succ, List.set_cons_zero, show a - (j + 1) = m by omega, List.replicate_succ']
          simp
        rw [hset] at rg2
        have rk2 := ((keepBut.refl [g] wr).setCell ⟨g, j, none⟩ (bv c) (by simp)).row rk (by simp; omega)
        have k2 : keepBut [] w (wr.setCell ⟨g, j, none⟩ (bv c)) := k0.setCell _ _ (.inr hg)
        have HH := Lib.hid (And.intro rg2 (And.intro rk2 k2))
        clear rg rk k0 rg2 hset rk2 k2
        go_wp2_with fail
        go_roundw
        case rel => exact ⟨j + 1, by go_num, by omega, HH.out.1, HH.out.2.1, HH.out.2.2⟩
        case measure => simp [intOf]; omega
      · obtain rfl : j = a := by omega
        have hlt' : ¬ (j : Int) < (j : Int) := by omega
        obtain ⟨Sa, hSa, _, _, _, hPa, hPla⟩ := padP_value (List.replicate j c) (by simpa using ha2)
        obtain ⟨Sb, hSb, _, _, _, hPb, hPlb⟩ := padP_value (List.replicate b (0 : UInt8)) (by simpa using hb2)
        rw [List.length_replicate] at hSa hSb
        have hmono : (j : Int) ≤ (b : Int) → Sa ≤ Sb := fun hx => classP_mono j b Sa Sb (by omega) hb2 hSa hSb
        have hSaj : j + 3 ≤ Sa := by
          rcases classP_cases j with ⟨_, h2⟩ | ⟨S, _, h2, _, _, h5⟩
          · rw [h2] at hSa; omega
          · omega
        have sa : seen wr (some ⟨g, 0, none⟩) g (List.replicate j c) := by
          rw [Nat.sub_self, List.replicate_zero, List.append_nil] at rg
          exact seen_row rg (by simp [List.take_of_length_le])
        have sb : seen wr (some ⟨k, 0, none⟩) k (List.replicate b (0 : UInt8)) := seen_row rk (by simp [List.take_of_length_le])
        have hc1 := h.keep k0
        have HH := Lib.hid (And.intro hPa (And.intro hPb (And.intro hPla (And.intro hPlb (And.intro hSa hSb)))))
        have HL1 : Hid ((List.replicate j c).length = j) := Lib.hid (by simp)
        have HL2 : Hid ((List.replicate b (0 : UInt8)).length = b) := Lib.hid (by simp)
        have HS := Lib.hid (And.intro sa sb)
        generalize List.replicate j c = xa at *
        generalize List.replicate b (0 : UInt8) = xb at *
        clear rg rk hPa hPb hPla hPlb hSa hSb sa sb
        have hm1 : (j : Int) ≤ (b : Int) → ¬ (Sb : Int) < (Sa : Int) := fun hx => by have := hmono hx; omega
        have HM := Lib.hid hm1
        clear hm1 hmono
        go_wp2_with fail
        refine (pad_n _ g _ j xa false _ HL1.out hc1 HS.out.1 (by omega)).mono ?_; rintro e w2 ⟨v2, rfl, ho2, hf2, k2⟩
        rw [HH.out.1] at ho2 ⊢
        obtain ⟨A2, c2, g2, rfl, _, _, _⟩ := seen_homes ho2
        simp only [HH.out.2.2.1]
        have hc2 := hc1.keep k2
        have kk2 := k0.then k2 (by simp)
        clear ho2 hf2 hc1
        go_wp2_with fail
        refine (pad_n _ k _ b xb false _ HL2.out hc2 (HS.out.2.keep k2 (by simp)) (by omega)).mono ?_; rintro e w3 ⟨v3, rfl, ho3, hf3, k3⟩
        rw [HH.out.2.1] at ho3 ⊢
        obtain ⟨A3, c3, g3, rfl, _, _, _⟩ := seen_homes ho3
        simp only [HH.out.2.2.2.1]
        have hc3 := hc2.keep k3
        have kk3 := kk2.then k3 (by simp)
        clear ho3 hf3 hc2 k2
        go_wp2_with fail
        refine (pad_n _ 0 _ 0 [] true _ rfl hc3 (seen.nil _ _ _) (by omega)).mono ?_; rintro e w4 ⟨v4, rfl, ho4, hf4, k4⟩
        rw [padP_grave] at ho4 ⊢
        obtain ⟨A4, c4, g4, rfl, _, _, t4⟩ := seen_homes ho4
        rw [show (graveBytes 16).length = 16 from rfl]
        have hc4 := hc3.keep k4
        have kk4 := kk3.then k4 (by simp)
        clear ho4 hf4 hc3 k3
        go_wp2_with fail
        refine (pad_n _ 0 _ 0 [] false _ rfl hc4 (seen.nil _ _ _) (by omega)).mono ?_; rintro e w5 ⟨v5, rfl, ho5, hf5, k5⟩
        rw [show padP [] false = (padBytes [] 16, 0) by decide] at ho5 ⊢
        obtain ⟨A5, c5, g5, rfl, _, _, t5⟩ := seen_homes ho5
        rw [show (padBytes [] 16).length = 16 from rfl]
        have hc5 := hc4.keep k5
        have kk5 := kk4.then k5 (by simp)
        have t45 := t4.keep k5 (by simp)
        clear ho5 hf5 hc4 k4 t4
        have hge : (j : Int) + 3 ≤ (Sa : Int) := by omega
        go_wp2_with fail
        refine (class_any _ _ hc5).mono ?_; rintro e w' ⟨rfl, rfl⟩; rw [HH.out.2.2.2.2.1]
        go_wp2_with fail
        refine (class_any _ _ hc5).mono ?_; rintro e w' ⟨rfl, rfl⟩; rw [HH.out.2.2.2.2.2]
        have hab : (j : Int) ≤ (b : Int) ∧ ¬ (Sb : Int) < (Sa : Int) ∨ ¬ (j : Int) ≤ (b : Int) := by
          by_cases hx : (j : Int) ≤ (b : Int)
          · exact .inl ⟨hx, by have := HM.out hx; omega⟩
          · exact .inr hx
        rcases hab with ⟨x1, x2⟩ | x1
        all_goals
          go_wp2_with fail
          refine (eqBytes_n _ _ g4 g5 _ _ 16 16 (graveBytes 16) (padBytes [] 16) _ rfl rfl t45 t5).mono ?_; rintro e w6 ⟨rfl, rfl⟩
          rw [show (graveBytes 16 == padBytes [] 16) = false by decide]
          go_wp2_with fail
          refine (works_any _ hc5).mono ?_; rintro e w7 ⟨rfl, k7⟩
          go_wp2_with fail
          go_ret
          exact ⟨rfl, kk5.then k7 (by simp)⟩
end Go.Proofs.YtaclpogcedgojaaDoor
