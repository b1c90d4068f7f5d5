/-
  LeadPlays: what a leader answers, call by call, is what the chapter says.
-/
import Derived.Test.YtbjonlfjfjlelaaLeadAll
namespace Go.Proofs.Ytbjonlfjfjlelaa
open Go.RowKit
set_option linter.unusedVariables false
set_option maxRecDepth 100000

set_option maxHeartbeats 8000000 in
theorem leadPlays_walk (id : Int) (A : Option Addr) (n d : Nat) (w : World) (hwid : (Lit.int .i64 id).wf = true) (ps : lDos w A n) (hnd : n ≤ d) (hd : d ≤ maxLen) :
    Calls Try.prog 5 #[.int .i64 id, .slice A n d] w (yesPost w) := by
  unfold maxLen at hd
  have HPS := Lib.hid ps
  clear ps hwid
  by_cases hid : id < 0 ∨ 3 ≤ id
  · have HID := Lib.hid hid
    clear hid
    go_enter Try.func5, Try.ntmps5
    go_wp2_with fail
    refine (newL_no id _ HID.out).mono ?_; rintro e w1 ⟨rfl, rfl⟩
    go_wp2_with fail
    refine (newM_no id _ HID.out).mono ?_; rintro e w1 ⟨rfl, rfl⟩
    go_wp2_with fail
    go_loopw [9] (fun v9 wx => v9 = .int .i64 0 ∧ wx = w) (fun _ _ => 0)
    case atStart => exact ⟨rfl, rfl⟩
    case round =>
      obtain ⟨rfl, rfl⟩ := hrel
      have hor : ¬ (0 : Int) < (n : Int) ∨ (0 : Int) < (n : Int) := by omega
      rcases hor with hor | hor
      all_goals
        go_wp2_with fail
        refine (works_any _).mono ?_; rintro e w5 ⟨rfl, hk5⟩
        have HK := Lib.hid hk5
        clear hk5
        go_wp2_with fail
        go_ret
        exact ⟨rfl, HK.out⟩
  · have h0 : 0 ≤ id := by omega
    have h1 : id < 3 := by omega
    clear hid
    go_enter Try.func5, Try.ntmps5
    go_wp2_with fail
    refine (newL_any id _ h0 h1).mono ?_; intro e w1 hq; obtain ⟨p, F0, rfl, h1'⟩ := lOn.start (keepBut.refl [] w) hq
    have H1 := Lib.hid h1'
    clear hq h1'
    go_wp2_with fail
    refine (newM_any id _ h0 h1).mono ?_; intro e w2 hq; obtain ⟨q, G0, rfl, h2, hG2, hk2⟩ := hq
    have hB : both w w2 p F0 (LS.new id) q G0 (LS.new id) [] := ⟨H1.out.1.over hk2, h2, H1.out.2.1, fun y hy => Nat.le_trans H1.out.2.2.size (hG2 y hy), fun y hy hm => by
      have := H1.out.1.lt y hy
      have := hG2 y hm
      omega, by simp, by simp, by simp, H1.out.2.2.then hk2 (by simp)⟩
    have H2 := Lib.hid (And.intro hB (inP.new id h0 h1))
    clear hB h2 hk2 hG2 H1
    go_wp2_with fail
    go_loopw [9, 10, 11, 12, 13, 14, 15, 16, 51, 52, 53, 54, 55, 56, 57, 58, 59, 60, 61, 62, 63, 64, 65, 66, 67, 68, 69, 70, 71, 72, 73, 74, 75, 76, 77, 78, 79, 80, 81, 82, 83, 84, 85, 91, 92, 93, 94, 95, 96, 97, 98, 99, 100, 101, 102, 103, 104, 105] (fun v9 _ _ _ _ _ _ _ _ _ _ _ _ _ _ _ _ _ _ _ _ _ _ _ _ _ _ _ _ _ _ _ _ _ _ _ _ _ _ _ _ _ _ _ _ _ _ _ _ _ _ _ _ _ _ _ _ _ wx => plRel w p q n v9 wx) (fun v9 _ _ _ _ _ _ _ _ _ _ _ _ _ _ _ _ _ _ _ _ _ _ _ _ _ _ _ _ _ _ _ _ _ _ _ _ _ _ _ _ _ _ _ _ _ _ _ _ _ _ _ _ _ _ _ _ _ _ => n - (intOf v9).toNat)
    case atStart => exact ⟨0, _, _, _, by omega, by omega, rfl, H2.out.1, H2.out.2⟩
    case round =>
      obtain ⟨i, F, G, s, hi, hi60, rfl, hB, hin⟩ := hrel
      clear H2
      have HB := Lib.hid (And.intro hB hin)
      clear hB hin
      by_cases hlt : i < n ∧ i < 60
      · obtain ⟨hlt1, hlt2⟩ := hlt
        have hlt1' : (i : Int) < (n : Int) := by omega
        have hlt2' : (i : Int) < 60 := by omega
        obtain ⟨gA, o, rfl, hgA, hall⟩ := HPS.out (by omega)
        obtain ⟨k, a, b, nn, near, num, full, cv, cl, A8, c8, vl, e0, e1, e2, e3, e4, e5, e6, e7, e8, q0, q1, hcl, hv1, hv2, hv⟩ := hall i hlt1
        obtain ⟨A7, n7, g7, rfl, hcl2⟩ := _root_.id hcl
        have hkw := HB.out.1.kept
        have hkc := fun z => hkw.cell (p := ⟨gA, z, none⟩) hgA (by simp)
        have z0 := e0; have z1 := e1; have z2 := e2; have z3 := e3; have z4 := e4; have z5 := e5; have z6 := e6; have z7 := e7; have z8 := e8
        rw [← hkc] at e0 e1 e2 e3 e4 e5 e6 e7 e8
        have q0' : -9223372036854775808 ≤ k ∧ k ≤ 9223372036854775807 := by simpa [Lit.wf, IntKind.min, IntKind.max, IntKind.signed, IntKind.bits] using q0
        have q1' : -9223372036854775808 ≤ a ∧ a ≤ 9223372036854775807 := by simpa [Lit.wf, IntKind.min, IntKind.max, IntKind.signed, IntKind.bits] using q1
        have HC := Lib.hid (step_any w wr.drew p F s q G i k a b nn near num full A7 n7 cl A8 c8 vl (HB.out.1.over ((keepBut.refl [] wr).drew)) HB.out.2 hlt2 q0' q1' hcl hv1 hv2 hv)
        have HN : Hid (w.cell? ⟨gA, o + i * 9, none⟩ = some (.int .i64 k) ∧ w.cell? ⟨gA, o + i * 9 + 1, none⟩ = some (.int .i64 a) ∧ w.cell? ⟨gA, o + i * 9 + 2, none⟩ = some (.int .i64 b) ∧ w.cell? ⟨gA, o + i * 9 + 3, none⟩ = some (.int .i64 nn) ∧ w.cell? ⟨gA, o + i * 9 + 4, none⟩ = some (.bool near) ∧ w.cell? ⟨gA, o + i * 9 + 5, none⟩ = some (.int .i64 num) ∧ w.cell? ⟨gA, o + i * 9 + 6, none⟩ = some (.int .i64 full) ∧ w.cell? ⟨gA, o + i * 9 + 7, none⟩ = some (.slice A7 cl.length n7) ∧ w.cell? ⟨gA, o + i * 9 + 8, none⟩ = some (.slice A8 vl.length c8)) := Lib.hid ⟨z0, z1, z2, z3, z4, z5, z6, z7, z8⟩
        have sx : wr.cell? ⟨gA, o + i * 9, none⟩ = some (.int .i64 k) ∧ wr.cell? ⟨gA, o + i * 9 + 1, none⟩ = some (.int .i64 a) ∧ wr.cell? ⟨gA, o + i * 9 + 2, none⟩ = some (.int .i64 b) ∧ wr.cell? ⟨gA, o + i * 9 + 3, none⟩ = some (.int .i64 nn) ∧ wr.cell? ⟨gA, o + i * 9 + 4, none⟩ = some (.bool near) ∧ wr.cell? ⟨gA, o + i * 9 + 5, none⟩ = some (.int .i64 num) ∧ wr.cell? ⟨gA, o + i * 9 + 6, none⟩ = some (.int .i64 full) ∧ wr.cell? ⟨gA, o + i * 9 + 7, none⟩ = some (.slice A7 cl.length n7) ∧ wr.cell? ⟨gA, o + i * 9 + 8, none⟩ = some (.slice A8 vl.length c8) := ⟨e0, e1, e2, e3, e4, e5, e6, e7, e8⟩
        clear z0 z1 z2 z3 z4 z5 z6 z7 z8 e0 e1 e2 e3 e4 e5 e6 e7 e8
        clear hkc hkw q0 q1 hcl hcl2 hv hall
        go_upto_region 8 with fail
        go_cut [51, 52, 53, 54, 55, 56, 57, 58, 59, 60, 61, 62, 63, 64, 65, 66, 67, 68, 69, 70, 71, 72, 73, 74, 75, 76, 77, 78, 79, 80, 81, 82, 83, 84, 85] (fun _ _ _ _ _ _ _ _ _ _ _ _ _ _ _ _ _ _ _ _ _ _ _ _ _ _ _ _ _ _ _ _ _ _ v85 wx => v85 = .bool false ∧ plMid w p q i wx)
        case first =>
          obtain ⟨f0, f1, f2, f3, f4, f5, f6, f7, f8⟩ := nine_keep ((keepBut.refl [] wr).drew) (Nat.lt_of_lt_of_le hgA HB.out.1.kept.size) sx
          clear sx
          refine wp_region_held_drew (S := fun _ => True) (by kernel_rfl) trivial (fun _ => ?_)
          refine wpAnyH_take (i := 0) (oi := ⟨_, _, _, _, _, _⟩) (v := ?_) rfl (by kernel_rfl) (by kernel_rfl) (by kernel_rfl) (fun _ _ _ h => h) (Or.inl ⟨by rfl, ?_⟩) trivial ?_
          rotate_left
          · intro w' hSw; (try dsimp only at hSw); (go_simp; try with_reducible rfl)
          try simp only [Act.put, List.setIfInBounds_toArray, List.set_cons_zero, List.set_cons_succ]
          refine wpAnyH_take (i := 1) (oi := ⟨_, _, _, _, _, _⟩) (v := ?_) rfl (by kernel_rfl) (by kernel_rfl) (by kernel_rfl) (fun _ _ _ h => h) (Or.inl ⟨by rfl, ?_⟩) trivial ?_
          rotate_left
          · intro w' hSw; (try dsimp only at hSw); (go_simp; try with_reducible rfl)
          try simp only [Act.put, List.setIfInBounds_toArray, List.set_cons_zero, List.set_cons_succ]
          refine wpAnyH_take (i := 2) (oi := ⟨_, _, _, _, _, _⟩) (v := ?_) rfl (by kernel_rfl) (by kernel_rfl) (by kernel_rfl) (fun _ _ _ h => h) (Or.inl ⟨by rfl, ?_⟩) trivial ?_
          rotate_left
          · intro w' hSw; (try dsimp only at hSw); (go_simp; try with_reducible rfl)
          try simp only [Act.put, List.setIfInBounds_toArray, List.set_cons_zero, List.set_cons_succ]
          refine wpAnyH_take (i := 3) (oi := ⟨_, _, _, _, _, _⟩) (v := ?_) rfl (by kernel_rfl) (by kernel_rfl) (by kernel_rfl) (fun _ _ _ h => h) (Or.inl ⟨by rfl, ?_⟩) trivial ?_
          rotate_left
          · intro w' hSw; (try dsimp only at hSw); (go_simp; try with_reducible rfl)
          try simp only [Act.put, List.setIfInBounds_toArray, List.set_cons_zero, List.set_cons_succ]
          refine wpAnyH_take (i := 4) (oi := ⟨_, _, _, _, _, _⟩) (v := ?_) rfl (by kernel_rfl) (by kernel_rfl) (by kernel_rfl) (fun _ _ _ h => h) (Or.inl ⟨by rfl, ?_⟩) trivial ?_
          rotate_left
          · intro w' hSw; (try dsimp only at hSw); (go_simp; try with_reducible rfl)
          try simp only [Act.put, List.setIfInBounds_toArray, List.set_cons_zero, List.set_cons_succ]
          refine wpAnyH_ready (rs := [5]) (by kernel_rfl) (by simp) ?_
          refine AllReadyH.cons (o := ⟨_, _, _, _, _, _⟩) rfl (fun K hK => ?_) AllReadyH.nil
          go_simp
          refine hK.out _ _ trivial (fun _ => ?_)
          clear hK K f0 f1 f2 f3 f4 f5 f6 f7 f8
          try simp only [Act.put, List.setIfInBounds_toArray, List.set_cons_zero, List.set_cons_succ]
          refine wpAnyH_ready (rs := [6]) (by kernel_rfl) (by simp) ?_
          refine AllReadyH.cons (o := ⟨_, _, _, _, _, _⟩) rfl (fun K hK => ?_) AllReadyH.nil
          go_simp
          refine HC.out.mono ?_
          rintro e w3 ⟨rfl, F3, G3, s3, hB3, hin3⟩
          go_wp2_with fail
          refine hK.out _ _ trivial (fun _ => ?_)
          clear hK K
          try simp only [Act.put, List.setIfInBounds_toArray, List.set_cons_zero, List.set_cons_succ]
          refine wpAnyH_of_any _ _ _ _ (wpAny_of_held (S := fun w' => w'.cell? ⟨q, 1, none⟩ = some (.int .i64 s3.bal) ∧ w'.cell? ⟨q, 2, none⟩ = some (.int .i64 s3.frm) ∧ w'.cell? ⟨q, 3, none⟩ = some (.int .i64 s3.ph)) _ _ _ _ ?_)
          have sq : w3.cell? ⟨q, 1, none⟩ = some (.int .i64 s3.bal) ∧ w3.cell? ⟨q, 2, none⟩ = some (.int .i64 s3.frm) ∧ w3.cell? ⟨q, 3, none⟩ = some (.int .i64 s3.ph) := ⟨hB3.m.c1, hB3.m.c2, hB3.m.c3.1⟩
          have H3 := Lib.hid (And.intro hB3 hin3)
          clear hB3 hin3
          refine wpAnyH_take (i := 7) (oi := ⟨_, _, _, _, _, _⟩) (v := ?_) rfl (by kernel_rfl) (by kernel_rfl) (by kernel_rfl) (fun _ _ _ h => h) (Or.inl ⟨by rfl, ?_⟩) sq ?_
          rotate_left
          · intro w' hSw; (try dsimp only at hSw); (go_simp; try with_reducible rfl)
          try simp only [Act.put, List.setIfInBounds_toArray, List.set_cons_zero, List.set_cons_succ]
          refine wpAnyH_take (i := 8) (oi := ⟨_, _, _, _, _, _⟩) (v := ?_) rfl (by kernel_rfl) (by kernel_rfl) (by kernel_rfl) (fun _ _ _ h => h) (Or.inl ⟨by rfl, ?_⟩) sq ?_
          rotate_left
          · intro w' hSw; (try dsimp only at hSw); (go_simp; try with_reducible rfl)
          try simp only [Act.put, List.setIfInBounds_toArray, List.set_cons_zero, List.set_cons_succ]
          refine wpAnyH_take (i := 9) (oi := ⟨_, _, _, _, _, _⟩) (v := ?_) rfl (by kernel_rfl) (by kernel_rfl) (by kernel_rfl) (fun _ _ _ h => h) (Or.inl ⟨by rfl, ?_⟩) sq ?_
          rotate_left
          · intro w' hSw; (try dsimp only at hSw); (go_simp; try with_reducible rfl)
          try simp only [Act.put, List.setIfInBounds_toArray, List.set_cons_zero, List.set_cons_succ]
          refine wpAnyH_take (i := 11) (oi := ⟨_, _, _, _, _, _⟩) (v := ?_) rfl (by kernel_rfl) (by kernel_rfl) (by kernel_rfl) (fun _ _ _ h => h) (Or.inl ⟨by rfl, ?_⟩) sq ?_
          rotate_left
          · intro w' hSw; (try dsimp only at hSw); (go_simp; try with_reducible rfl)
          try simp only [Act.put, List.setIfInBounds_toArray, List.set_cons_zero, List.set_cons_succ]
          refine wpAnyH_take (i := 12) (oi := ⟨_, _, _, _, _, _⟩) (v := ?_) rfl (by kernel_rfl) (by kernel_rfl) (by kernel_rfl) (fun _ _ _ h => h) (Or.inl ⟨by rfl, ?_⟩) sq ?_
          rotate_left
          · intro w' hSw; (try dsimp only at hSw); (go_simp; try with_reducible rfl)
          try simp only [Act.put, List.setIfInBounds_toArray, List.set_cons_zero, List.set_cons_succ]
          refine wpAnyH_take (i := 13) (oi := ⟨_, _, _, _, _, _⟩) (v := ?_) rfl (by kernel_rfl) (by kernel_rfl) (by kernel_rfl) (fun _ _ _ h => h) (Or.inl ⟨by rfl, ?_⟩) sq ?_
          rotate_left
          · intro w' hSw; (try dsimp only at hSw); (go_simp; try with_reducible rfl)
          try simp only [Act.put, List.setIfInBounds_toArray, List.set_cons_zero, List.set_cons_succ]
          refine wpAnyH_take (i := 14) (oi := ⟨_, _, _, _, _, _⟩) (v := ?_) rfl (by kernel_rfl) (by kernel_rfl) (by kernel_rfl) (fun _ _ _ h => h) (Or.inl ⟨by rfl, ?_⟩) sq ?_
          rotate_left
          · intro w' hSw; (try dsimp only at hSw); (go_simp; try with_reducible rfl)
          try simp only [Act.put, List.setIfInBounds_toArray, List.set_cons_zero, List.set_cons_succ]
          refine wpAnyH_ready (rs := [10]) (by kernel_rfl) (by simp) ?_
          refine AllReadyH.cons (o := ⟨_, _, _, _, _, _⟩) rfl (fun K hK => ?_) AllReadyH.nil
          go_simp
          refine (ballotL_any p F3 s3 _ H3.out.1.l).mono ?_
          rintro e w4 ⟨rfl, rfl⟩
          go_wp2_with fail
          refine hK.out _ _ sq (fun _ => ?_)
          clear hK K
          try simp only [Act.put, List.setIfInBounds_toArray, List.set_cons_zero, List.set_cons_succ]
          refine wpAnyH_take (i := 15) (oi := ⟨_, _, _, _, _, _⟩) (v := ?_) rfl (by kernel_rfl) (by kernel_rfl) (by kernel_rfl) (fun _ _ _ h => h) (Or.inl ⟨by rfl, ?_⟩) sq ?_
          rotate_left
          · intro w' hSw; (try dsimp only at hSw); (go_simp; try with_reducible rfl)
          try simp only [Act.put, List.setIfInBounds_toArray, List.set_cons_zero, List.set_cons_succ]
          refine wpAnyH_take (i := 16) (oi := ⟨_, _, _, _, _, _⟩) (v := ?_) rfl (by kernel_rfl) (by kernel_rfl) (by kernel_rfl) (fun _ _ _ h => h) (Or.inl ⟨by rfl, ?_⟩) sq ?_
          rotate_left
          · intro w' hSw; (try dsimp only at hSw); (go_simp; try with_reducible rfl)
          try simp only [Act.put, List.setIfInBounds_toArray, List.set_cons_zero, List.set_cons_succ]
          refine wpAnyH_take (i := 17) (oi := ⟨_, _, _, _, _, _⟩) (v := ?_) rfl (by kernel_rfl) (by kernel_rfl) (by kernel_rfl) (fun _ _ _ h => h) (Or.inl ⟨by rfl, ?_⟩) sq ?_
          rotate_left
          · intro w' hSw; (try dsimp only at hSw); (go_simp; try with_reducible rfl)
          try simp only [Act.put, List.setIfInBounds_toArray, List.set_cons_zero, List.set_cons_succ]
          refine wpAnyH_take (i := 18) (oi := ⟨_, _, _, _, _, _⟩) (v := ?_) rfl (by kernel_rfl) (by kernel_rfl) (by kernel_rfl) (fun _ _ _ h => h) (Or.inl ⟨by rfl, ?_⟩) sq ?_
          rotate_left
          · intro w' hSw; (try dsimp only at hSw); (go_simp; try with_reducible rfl)
          try simp only [Act.put, List.setIfInBounds_toArray, List.set_cons_zero, List.set_cons_succ]
          refine wpAnyH_take (i := 20) (oi := ⟨_, _, _, _, _, _⟩) (v := ?_) rfl (by kernel_rfl) (by kernel_rfl) (by kernel_rfl) (fun _ _ _ h => h) (Or.inl ⟨by rfl, ?_⟩) sq ?_
          rotate_left
          · intro w' hSw; (try dsimp only at hSw); (go_simp; try with_reducible rfl)
          try simp only [Act.put, List.setIfInBounds_toArray, List.set_cons_zero, List.set_cons_succ]
          refine wpAnyH_take (i := 21) (oi := ⟨_, _, _, _, _, _⟩) (v := ?_) rfl (by kernel_rfl) (by kernel_rfl) (by kernel_rfl) (fun _ _ _ h => h) (Or.inl ⟨by rfl, ?_⟩) sq ?_
          rotate_left
          · intro w' hSw; (try dsimp only at hSw); (go_simp; try with_reducible rfl)
          try simp only [Act.put, List.setIfInBounds_toArray, List.set_cons_zero, List.set_cons_succ]
          refine wpAnyH_take (i := 22) (oi := ⟨_, _, _, _, _, _⟩) (v := ?_) rfl (by kernel_rfl) (by kernel_rfl) (by kernel_rfl) (fun _ _ _ h => h) (Or.inl ⟨by rfl, ?_⟩) sq ?_
          rotate_left
          · intro w' hSw; (try dsimp only at hSw); (go_simp; try with_reducible rfl)
          try simp only [Act.put, List.setIfInBounds_toArray, List.set_cons_zero, List.set_cons_succ]
          refine wpAnyH_take (i := 23) (oi := ⟨_, _, _, _, _, _⟩) (v := ?_) rfl (by kernel_rfl) (by kernel_rfl) (by kernel_rfl) (fun _ _ _ h => h) (Or.inl ⟨by rfl, ?_⟩) sq ?_
          rotate_left
          · intro w' hSw; (try dsimp only at hSw); (go_simp; try with_reducible rfl)
          try simp only [Act.put, List.setIfInBounds_toArray, List.set_cons_zero, List.set_cons_succ]
          refine wpAnyH_ready (rs := [19]) (by kernel_rfl) (by simp) ?_
          refine AllReadyH.cons (o := ⟨_, _, _, _, _, _⟩) rfl (fun K hK => ?_) AllReadyH.nil
          go_simp
          refine (fromL_any p F3 s3 _ H3.out.1.l).mono ?_
          rintro e w4 ⟨rfl, rfl⟩
          go_wp2_with fail
          refine hK.out _ _ sq (fun _ => ?_)
          clear hK K
          try simp only [Act.put, List.setIfInBounds_toArray, List.set_cons_zero, List.set_cons_succ]
          refine wpAnyH_take (i := 24) (oi := ⟨_, _, _, _, _, _⟩) (v := ?_) rfl (by kernel_rfl) (by kernel_rfl) (by kernel_rfl) (fun _ _ _ h => h) (Or.inl ⟨by rfl, ?_⟩) sq ?_
          rotate_left
          · intro w' hSw; (try dsimp only at hSw); (go_simp; try with_reducible rfl)
          try simp only [Act.put, List.setIfInBounds_toArray, List.set_cons_zero, List.set_cons_succ]
          refine wpAnyH_take (i := 25) (oi := ⟨_, _, _, _, _, _⟩) (v := ?_) rfl (by kernel_rfl) (by kernel_rfl) (by kernel_rfl) (fun _ _ _ h => h) (Or.inl ⟨by rfl, ?_⟩) sq ?_
          rotate_left
          · intro w' hSw; (try dsimp only at hSw); (go_simp; try with_reducible rfl)
          try simp only [Act.put, List.setIfInBounds_toArray, List.set_cons_zero, List.set_cons_succ]
          refine wpAnyH_take (i := 26) (oi := ⟨_, _, _, _, _, _⟩) (v := ?_) rfl (by kernel_rfl) (by kernel_rfl) (by kernel_rfl) (fun _ _ _ h => h) (Or.inl ⟨by rfl, ?_⟩) sq ?_
          rotate_left
          · intro w' hSw; (try dsimp only at hSw); (go_simp; try with_reducible rfl)
          try simp only [Act.put, List.setIfInBounds_toArray, List.set_cons_zero, List.set_cons_succ]
          refine wpAnyH_take (i := 27) (oi := ⟨_, _, _, _, _, _⟩) (v := ?_) rfl (by kernel_rfl) (by kernel_rfl) (by kernel_rfl) (fun _ _ _ h => h) (Or.inl ⟨by rfl, ?_⟩) sq ?_
          rotate_left
          · intro w' hSw; (try dsimp only at hSw); (go_simp; try with_reducible rfl)
          try simp only [Act.put, List.setIfInBounds_toArray, List.set_cons_zero, List.set_cons_succ]
          refine wpAnyH_take (i := 29) (oi := ⟨_, _, _, _, _, _⟩) (v := ?_) rfl (by kernel_rfl) (by kernel_rfl) (by kernel_rfl) (fun _ _ _ h => h) (Or.inl ⟨by rfl, ?_⟩) sq ?_
          rotate_left
          · intro w' hSw; (try dsimp only at hSw); (go_simp; try with_reducible rfl)
          try simp only [Act.put, List.setIfInBounds_toArray, List.set_cons_zero, List.set_cons_succ]
          refine wpAnyH_take (i := 30) (oi := ⟨_, _, _, _, _, _⟩) (v := ?_) rfl (by kernel_rfl) (by kernel_rfl) (by kernel_rfl) (fun _ _ _ h => h) (Or.inl ⟨by rfl, ?_⟩) sq ?_
          rotate_left
          · intro w' hSw; (try dsimp only at hSw); (go_simp; try with_reducible rfl)
          try simp only [Act.put, List.setIfInBounds_toArray, List.set_cons_zero, List.set_cons_succ]
          refine wpAnyH_take (i := 31) (oi := ⟨_, _, _, _, _, _⟩) (v := ?_) rfl (by kernel_rfl) (by kernel_rfl) (by kernel_rfl) (fun _ _ _ h => h) (Or.inl ⟨by rfl, ?_⟩) sq ?_
          rotate_left
          · intro w' hSw; (try dsimp only at hSw); (go_simp; try with_reducible rfl)
          try simp only [Act.put, List.setIfInBounds_toArray, List.set_cons_zero, List.set_cons_succ]
          refine wpAnyH_take (i := 32) (oi := ⟨_, _, _, _, _, _⟩) (v := ?_) rfl (by kernel_rfl) (by kernel_rfl) (by kernel_rfl) (fun _ _ _ h => h) (Or.inl ⟨by rfl, ?_⟩) sq ?_
          rotate_left
          · intro w' hSw; (try dsimp only at hSw); (go_simp; try with_reducible rfl)
          try simp only [Act.put, List.setIfInBounds_toArray, List.set_cons_zero, List.set_cons_succ]
          refine wpAnyH_ready (rs := [28]) (by kernel_rfl) (by simp) ?_
          refine AllReadyH.cons (o := ⟨_, _, _, _, _, _⟩) rfl (fun K hK => ?_) AllReadyH.nil
          go_simp
          refine (phaseL_any p F3 s3 _ H3.out.1.l).mono ?_
          rintro e w4 ⟨rfl, rfl⟩
          go_wp2_with fail
          refine hK.out _ _ sq (fun _ => ?_)
          clear hK K
          try simp only [Act.put, List.setIfInBounds_toArray, List.set_cons_zero, List.set_cons_succ]
          refine wpAnyH_take (i := 33) (oi := ⟨_, _, _, _, _, _⟩) (v := ?_) rfl (by kernel_rfl) (by kernel_rfl) (by kernel_rfl) (fun _ _ _ h => h) (Or.inl ⟨by rfl, ?_⟩) sq ?_
          rotate_left
          · intro w' hSw; (try dsimp only at hSw); (go_simp; try with_reducible rfl)
          try simp only [Act.put, List.setIfInBounds_toArray, List.set_cons_zero, List.set_cons_succ]
          refine wpAnyH_take (i := 34) (oi := ⟨_, _, _, _, _, _⟩) (v := ?_) rfl (by kernel_rfl) (by kernel_rfl) (by kernel_rfl) (fun _ _ _ h => h) (Or.inl ⟨by rfl, ?_⟩) sq ?_
          rotate_left
          · intro w' hSw; (try dsimp only at hSw); (go_simp; try with_reducible rfl)
          try simp only [Act.put, List.setIfInBounds_toArray, List.set_cons_zero, List.set_cons_succ]
          refine wpAnyH_done (by kernel_rfl) ?_ _
          all_goals
            go_wp2
            go_meet
            exact ⟨by simp, F3, G3, s3, H3.out.1, H3.out.2⟩
        case rest =>
          obtain ⟨rfl, F3, G3, s3, hB3, hin3⟩ := hcut
          generalize wc = w3 at *
          have H3 := Lib.hid (And.intro hB3 hin3)
          clear hB3 hin3 sx HN HC HB
          go_wp2_with fail
          refine (pendingL_any p F3 s3 (i + 1) _ H3.out.1.l H3.out.2).mono ?_; intro e w4 hq; obtain ⟨cv, rfl, hn⟩ := hq; obtain ⟨A4, n4, G4, rfl, hh4, hk4⟩ := hn.slice; clear hn
          have H4 := Lib.hid (And.intro (H3.out.1.over hk4) hh4)
          clear hk4 hh4
          unfold confV
          go_upto_region 11 with fail
          have ka := (keepBut.refl [] w4).alloc (.cells #[.int .i64 s3.prop.num, .int .i64 s3.prop.full, .slice A4 s3.prop.chain.length n4] 55)
          have ra := rowAt.new w4 55 #[.int .i64 s3.prop.num, .int .i64 s3.prop.full, .slice A4 s3.prop.chain.length n4]
          have b5 := H4.out.1.over ka
          have hh5 := H4.out.2.keep ka (by simp)
          clear ka H4
          generalize w4.alloc (.cells #[.int .i64 s3.prop.num, .int .i64 s3.prop.full, .slice A4 s3.prop.chain.length n4] 55) = w5 at *
          generalize w4.heap.size = tc at *
          obtain ⟨A6, n6, C6, x1, x2, x3, hp6⟩ := b5.m.propHeld
          have x0 := b5.m.c8.1
          have c0 : w5.cell? ⟨tc, 0, none⟩ = some (.int .i64 s3.prop.num) := ra.cell 0
          have c1 : w5.cell? ⟨tc, 1, none⟩ = some (.int .i64 s3.prop.full) := ra.cell 1
          have c2 : w5.cell? ⟨tc, 2, none⟩ = some (.slice A4 s3.prop.chain.length n4) := ra.cell 2
          have sy : w5.cell? ⟨q, 8, none⟩ = some (.bool s3.pend) ∧ w5.cell? ⟨tc, 0, none⟩ = some (.int .i64 s3.prop.num) ∧ w5.cell? ⟨tc, 1, none⟩ = some (.int .i64 s3.prop.full) ∧ w5.cell? ⟨tc, 2, none⟩ = some (.slice A4 s3.prop.chain.length n4) ∧ w5.cell? ⟨q, 9, none⟩ = some (.int .i64 s3.prop.num) ∧ w5.cell? ⟨q, 10, none⟩ = some (.int .i64 s3.prop.full) ∧ w5.cell? ⟨q, 11, none⟩ = some (.slice A6 s3.prop.chain.length n6) := ⟨x0, c0, c1, c2, x1, x2, x3⟩
          have H5 := Lib.hid (And.intro b5 (And.intro hh5 (And.intro hp6 (And.intro (b5.m.lt q b5.m.mem) ra.lt))))
          clear x0 x1 x2 x3 c0 c1 c2 b5 hh5 hp6 ra
          go_cut [91, 92, 93, 94, 95, 96, 97, 98, 99, 100, 101, 102, 103, 104, 105] (fun _ _ _ _ _ _ _ _ _ _ _ _ _ _ v105 wx => v105 = .bool false ∧ keepBut [] w5 wx)
          case first =>
            go_region_held (fun w' => w'.cell? ⟨q, 8, none⟩ = some (.bool s3.pend) ∧ w'.cell? ⟨tc, 0, none⟩ = some (.int .i64 s3.prop.num) ∧ w'.cell? ⟨tc, 1, none⟩ = some (.int .i64 s3.prop.full) ∧ w'.cell? ⟨tc, 2, none⟩ = some (.slice A4 s3.prop.chain.length n4) ∧ w'.cell? ⟨q, 9, none⟩ = some (.int .i64 s3.prop.num) ∧ w'.cell? ⟨q, 10, none⟩ = some (.int .i64 s3.prop.full) ∧ w'.cell? ⟨q, 11, none⟩ = some (.slice A6 s3.prop.chain.length n6)) (first | exact sy | exact sy6)
              (first
                | (go_at_call 34; (with_reducible refine (sameC_any G4 C6 s3.prop.num s3.prop.full s3.prop.chain A4 A6 n4 n6 w5.drew (H5.out.2.1.keep ((keepBut.refl [] w5).drew) (by simp)) (H5.out.2.2.1.keep ((keepBut.refl [] w5).drew) (by simp))).mono ?_); rintro e w6 ⟨rfl, k6⟩; have k56 := ((keepBut.refl [] w5).drew).then k6 (by simp); have sy6 := seven_keep k56 H5.out.2.2.2.1 H5.out.2.2.2.2 sy)
                | fail)
            all_goals
              go_wp2
              go_meet
              exact ⟨by simp, k56⟩
          case rest =>
            obtain ⟨rfl, k6⟩ := hcut
            generalize wc = w6 at *
            have H6 := Lib.hid (H5.out.1.over k6)
            clear k6 sy H5
            go_wp2_with fail
            go_loopw [12, 13, 14, 15, 16] (fun v12 _ _ _ _ wx => plIn w p F3 q G3 s3 v12 wx) (fun v12 _ _ _ _ _ => (14 - intOf v12).toNat)
            case atStart => exact ⟨-1, by omega, by omega, rfl, H6.out⟩
            case round =>
              obtain ⟨m, hm0, hm1, rfl, hB⟩ := hrel
              have HB := Lib.hid hB
              clear hB
              by_cases hlt14 : m < 14
              · go_wp2_with fail
                refine (boundL_any p F3 s3 m _ HB.out.l).mono ?_; intro e w7 hq; obtain ⟨cv, rfl, hn⟩ := hq; obtain ⟨A7', n7', G7, rfl, hh7, hk7⟩ := hn.slice; clear hn
                have H7 := Lib.hid (And.intro (HB.out.over hk7) hh7)
                clear hk7 hh7 HB
                unfold confV
                go_upto_region 17 with fail
                have ka := (keepBut.refl [] w7).alloc (.cells #[.int .i64 (s3.boundOf m).1.num, .int .i64 (s3.boundOf m).1.full, .slice A7' (s3.boundOf m).1.chain.length n7'] 55)
                have ra := rowAt.new w7 55 #[.int .i64 (s3.boundOf m).1.num, .int .i64 (s3.boundOf m).1.full, .slice A7' (s3.boundOf m).1.chain.length n7']
                have HM := Lib.hid (fun (W : World) h => boundM_any q G3 s3 m W h (by have := H3.out.2.len; omega))
                have H8 := Lib.hid (And.intro (H7.out.1.over ka) (And.intro (H7.out.2.keep ka (by simp)) ra))
                clear ka ra H7
                generalize w7.alloc (.cells #[.int .i64 (s3.boundOf m).1.num, .int .i64 (s3.boundOf m).1.full, .slice A7' (s3.boundOf m).1.chain.length n7'] 55) = w8 at *
                generalize w7.heap.size = ua at *
                generalize s3.boundOf m = bo at *
                obtain ⟨⟨bn, bf, bch⟩, bb⟩ := bo
                dsimp only at H8 HM ⊢
                go_wp2_with fail
                refine (HM.out _ H8.out.1.m).mono ?_; intro e w9 hq; obtain ⟨cv, rfl, hn⟩ := hq; obtain ⟨A9, n9, G9, rfl, hh9, hk9⟩ := hn.slice; clear hn
                have H9 := Lib.hid (And.intro (H8.out.1.over hk9) (And.intro (H8.out.2.1.keep hk9 (by simp)) (And.intro (hk9.row H8.out.2.2 (by simp)) hh9)))
                clear hk9 hh9 H8 HM
                unfold confV
                dsimp only at H9 ⊢
                go_upto_region 18 with fail
                have kd := (keepBut.refl [] w9).alloc (.cells #[.int .i64 bn, .int .i64 bf, .slice A9 bch.length n9] 55)
                have rd := rowAt.new w9 55 #[.int .i64 bn, .int .i64 bf, .slice A9 bch.length n9]
                have rc := kd.row H9.out.2.2.1 (by simp)
                have HS := Lib.hid (sameC_any G7 G9 bn bf bch A7' A9 n7' n9 _ (H9.out.2.1.keep kd (by simp)) (H9.out.2.2.2.keep kd (by simp)))
                have HA := Lib.hid (H9.out.1.over kd)
                clear kd H9
                generalize w9.alloc (.cells #[.int .i64 bn, .int .i64 bf, .slice A9 bch.length n9] 55) = wa at *
                generalize w9.heap.size = ub at *
                have z0 : wa.cell? ⟨ua, 0, none⟩ = some (.int .i64 bn) := rc.cell 0
                have z1 : wa.cell? ⟨ua, 1, none⟩ = some (.int .i64 bf) := rc.cell 1
                have z2 : wa.cell? ⟨ua, 2, none⟩ = some (.slice A7' bch.length n7') := rc.cell 2
                have z3 : wa.cell? ⟨ub, 0, none⟩ = some (.int .i64 bn) := rd.cell 0
                have z4 : wa.cell? ⟨ub, 1, none⟩ = some (.int .i64 bf) := rd.cell 1
                have z5 : wa.cell? ⟨ub, 2, none⟩ = some (.slice A9 bch.length n9) := rd.cell 2
                clear rc rd
                go_wp2_with fail
                refine HS.out.mono ?_; rintro e wb ⟨rfl, kb⟩
                have HF := Lib.hid (HA.out.over kb)
                clear kb HA HS z0 z1 z2 z3 z4 z5
                go_wp2_with fail
                go_roundw
                case rel => exact ⟨m + 1, by omega, by omega, by go_num, HF.out⟩
                case measure => simp [intOf]; omega
              · obtain rfl : m = 14 := by omega
                go_wp2_with fail
                go_roundw
                case rel => exact ⟨i + 1, F3, G3, s3, by omega, by omega, by go_num, HB.out, H3.out.2⟩
                case measure => simp [intOf]; omega
      · have hor : ¬ (i : Int) < (n : Int) ∨ ((i : Int) < (n : Int) ∧ ¬ (i : Int) < 60) := by omega
        rcases hor with hor | ⟨hor, hor2⟩
        all_goals
          go_wp2_with fail
          refine (works_any _).mono ?_; rintro e w5 ⟨rfl, hk5⟩
          have HK := Lib.hid (HB.out.1.kept.then hk5 (by simp))
          clear hk5
          go_wp2_with fail
          go_ret
          exact ⟨rfl, HK.out⟩
end Go.Proofs.Ytbjonlfjfjlelaa
