/-
  DiskTears: of what was not synced a crash, and a Sync that fails, leave just that many of the first bytes.
-/
import Derived.Test.YtaclpogcedgojaaDisk8
import Derived.Deep.QuietTactic
import Derived.BigQuiet
import Derived.Deep.CutBlock
import Derived.Deep.DeepCutAuto
namespace Go.Proofs.Ytaclpogcedgojaa
open Go.RowKit
set_option linter.unusedVariables false

def tearsCut1 (w : World) (A : Option Addr) (n c : Nat) (B : Option Addr) (m d : Nat) (x0 x1 : Int) (v0 v1 : Value) (wx : World) : Prop :=
  v0 = .slice A n c ∧ v1 = .slice B m d ∧ keepBut [] w wx ∧ rowAt wx w.heap.size 43 #[.int .i64 x0, .int .i64 x1]
def tearsCut2 (w : World) (want : List UInt8) (v : Value) (wx : World) : Prop :=
  owns wx 5 1 v want.length (want.map bv) ∧ keepBut [] w wx ∧ ∀ y ∈ homes v, w.heap.size ≤ y
/-- a disk, and bytes beside it -/
def beside (w0 w : World) (p : Nat) (F : List Nat) (d : DS) (v : Value) (l : List UInt8) : Prop :=
  dOn w0 w p F d ∧ owns w 5 1 v l.length (l.map bv) ∧ ∀ y ∈ F, y ∉ homes v
theorem beside.step {w0 w w' : World} {p : Nat} {F : List Nat} {d d' : DS} {r : Int} {e : Ending} {v : Value} {l : List UInt8} (h : beside w0 w p F d v l) (hp : dPost p F d' r w e w') :
    e = .returned (.int .i64 r) ∧ ∃ F', beside w0 w' p F' d' v l ∧ keepBut F w w' := by
  obtain ⟨he, F', a, b, c⟩ := h.1.step hp
  refine ⟨he, F', ⟨a, h.2.1.keep b (fun y hy hm => h.2.2 y hm hy), fun y hy hm => ?_⟩, b⟩
  rcases c y hy with h1 | h1
  · exact h.2.2 y h1 hm
  · have := h.2.1.lt y hm; omega
theorem beside.over {w0 w w' : World} {p : Nat} {F : List Nat} {d : DS} {v : Value} {l : List UInt8} (h : beside w0 w p F d v l) (hk : keepBut [] w w') : beside w0 w' p F d v l :=
  ⟨h.1.over hk, h.2.1.keep hk (by simp), h.2.2⟩
theorem beside.alloc {w0 w : World} {p : Nat} {F : List Nat} {d : DS} {v : Value} {l : List UInt8} (h : beside w0 w p F d v l) (o : Obj) : beside w0 (w.alloc o) p F d v l := h.over ((keepBut.refl [] w).alloc o)
theorem dOn.arg {w0 w : World} {p : Nat} {F : List Nat} {d : DS} {A : Option Addr} {g : Nat} {l : List UInt8} (h : dOn w0 w p F d) (hs : seen w0 A g l) : seen w A g l ∧ (l ≠ [] → g ∉ F) :=
  ⟨hs.keep h.2.2 (by simp), fun hne hm => by obtain ⟨o, _, hlt, _⟩ := hs hne; have := h.2.1 g hm; omega⟩
theorem dOn.keepOff {S : List Nat} {w0 w w' : World} {p : Nat} {F : List Nat} {d : DS} (h : dOn w0 w p F d) (hk : keepBut S w w') (hS : ∀ y ∈ F, y ∉ S) (hn : ∀ y ∈ S, w0.heap.size ≤ y) : dOn w0 w' p F d :=
  ⟨h.1.keep hk hS, h.2.1, h.2.2.then hk (fun y hy => .inr (hn y hy))⟩
def tearsCut3 (w0 : World) (p : Nat) (v : Value) (want l m : List UInt8) (v6 : Value) (wx : World) : Prop :=
  ∃ F arm, v6 = .bool false ∧ beside w0 wx p F ⟨want, want.length, true, arm, [l, m]⟩ v want
theorem tears_die (l m : List UInt8) (k : Nat) (arm : Option Nat) (t : List (List UInt8)) :
    DS.die ⟨l ++ m, l.length, false, arm, t⟩ k = ⟨l ++ m.take (min k m.length), (l ++ m.take (min k m.length)).length, true, arm, t⟩ := by
  have e : (l ++ m).length - l.length = m.length := by simp
  simp only [DS.die, e]
  congr 1
  · rw [List.take_append]; simp [List.take_of_length_le]
  · simp

theorem tears_cut2 {w3 w4 w5 : World} {want l mm : List UInt8} {v4 : Value} {A5 : Option Addr} {c5 n : Nat} (hw : want = l ++ mm) (hk4 : keepBut [] w3 w4) (hf : ∀ y ∈ homes v4, w3.drew.heap.size ≤ y)
    (ho : owns w5 5 1 (.slice A5 (l.length + n) c5) (l.length + n) (l.map bv ++ mm.map bv)) (hk5 : keepBut (homes v4) w4 w5) (hl : ∀ y ∈ homes (.slice A5 (l.length + n) c5), y ∈ homes v4 ∨ w4.heap.size ≤ y) :
    tearsCut2 w3 want (.slice A5 (l.length + n) c5) w5 := by
  have e : want.length = l.length + n := by have := ho.1; rw [hw]; simp at this ⊢; omega
  refine ⟨by rw [e, hw, List.map_append]; exact ho, hk4.then hk5 (fun y hy => .inr (hf y hy)), fun y hy => ?_⟩
  rcases hl y hy with h1 | h1
  · exact hf y h1
  · have := hk4.size; omega
theorem bd_i64 {a : Int} (h : (Lit.int .i64 a).wf = true) : -9223372036854775808 ≤ a ∧ a ≤ 9223372036854775807 := by
  simpa [Lit.wf, IntKind.min, IntKind.max, IntKind.signed, IntKind.bits] using h

set_option maxRecDepth 100000 in
set_option maxHeartbeats 2000000 in
theorem diskTears_walk (A : Option Addr) (g c : Nat) (l0 : List UInt8) (B : Option Addr) (h d : Nat) (m0 : List UInt8) (x0 x1 : Int) (w : World)
    (hl : seen w A g l0) (hlc : l0.length ≤ c) (hcm : c ≤ maxLen) (hm : seen w B h m0) (hmc : m0.length ≤ d) (hdm : d ≤ maxLen)
    (hx0 : -9223372036854775808 ≤ x0 ∧ x0 ≤ 9223372036854775807) (hx1 : -9223372036854775808 ≤ x1 ∧ x1 ≤ 9223372036854775807) :
    Calls Try.prog 5 #[.slice A l0.length c, .slice B m0.length d, .agg #[.int .i64 x0, .int .i64 x1]] w (yesPost w) := by
  unfold maxLen at hcm hdm
  obtain ⟨l, hL⟩ : ∃ l, l = l0.take 300 := ⟨_, rfl⟩
  obtain ⟨m, hM⟩ : ∃ m, m = m0.take 300 := ⟨_, rfl⟩
  have sl : seen w A g l := by rw [hL]; exact hl.take 300
  have sm : seen w B h m := by rw [hM]; exact hm.take 300
  have hmd : m.length ≤ d := by rw [hM, List.length_take]; omega
  have l3 : l.length ≤ 300 := by rw [hL, List.length_take]; omega
  have m3 : m.length ≤ 300 := by rw [hM, List.length_take]; omega
  have e1 : (if 300 < (l0.length : Int) then 300 else (l0.length : Int)).toNat = l.length := by rw [hL, List.length_take]; split <;> omega
  have e2 : (if 300 < (m0.length : Int) then 300 else (m0.length : Int)).toNat = m.length := by rw [hM, List.length_take]; split <;> omega
  have E1 := Lib.hid e1
  have E2 := Lib.hid e2
  clear e1 e2 hL hM hl hm
  go_enter Try.func5, Try.ntmps5
  go_upto_region 1 with fail
  go_cut [0, 1] (fun v0 v1 wx => tearsCut1 w A l.length c B m.length d x0 x1 v0 v1 wx)
  case first =>
    go_quiet (fail)
    go_wp2_with fail
    all_goals
      go_meet
      refine ⟨?_, ?_, ((keepBut.refl [] w).alloc _).drewN _, rowAt.new w _ _⟩
      · rw [← E1.out]; congr 1; split <;> omega
      · rw [← E2.out]; congr 1; split <;> omega
  case rest =>
    obtain ⟨rfl, rfl, k1, r1⟩ := hcut
    generalize wc = wA at *
    have sl' : seen wA A g l := sl.keep k1 (by simp)
    have sm' : seen wA B h m := sm.keep k1 (by simp)
    clear sl sm
    go_wp2_with fail
    refine (newD_any _).mono ?_; intro e w1 hq; obtain ⟨p, F1, rfl, h1⟩ := dOn.start (keepBut.refl [] wA) hq; clear hq
    go_wp2_with fail
    have a1 := h1.arg sl'
    refine (writeD_n _ _ _ _ _ _ l.length l _ rfl h1.1 a1.1 a1.2 (by omega) (by simp [DS.new])).mono ?_; intro e w2 hq; obtain ⟨rfl, F2, h2, -, -⟩ := h1.step hq; clear hq h1 a1
    have q2 : DS.new.write l = (0, ⟨l, 0, false, none, [l]⟩) := by
      have : ¬ 1048576 < l.length := by omega
      simp [DS.write, DS.new, this]
    rw [q2] at h2 ⊢; clear q2
    go_wp2_with fail
    refine (sync_any _ _ _ _ h2.1).mono ?_; intro e w3 hq; obtain ⟨rfl, F3, h3, -, -⟩ := h2.step hq; clear hq h2
    rw [show DS.sync ⟨l, 0, false, none, [l]⟩ = (0, ⟨l, l.length, false, none, [l]⟩) from rfl] at h3 ⊢
    have c0 : w3.cell? ⟨w.heap.size, 0, none⟩ = some (.int .i64 x0) := (h3.2.2.row r1 (by simp)).cell 0
    obtain ⟨k, hk⟩ : ∃ k : Nat, x0 % ((m.length : Int) + 3) = (k : Int) := ⟨(x0 % ((m.length : Int) + 3)).toNat, by have := Int.emod_nonneg x0 (show ((m.length : Int) + 3) ≠ 0 by omega); omega⟩
    have hk2 : k ≤ 303 := by have := Int.emod_lt_of_pos x0 (show (0 : Int) < (m.length : Int) + 3 by omega); omega
    have HK := Lib.hid hk; clear hk
    go_wp2_with fail
    refine (bring_any _ _ hx0.1 hx0.2 (by omega) (by omega) _).mono ?_; rintro e w' ⟨rfl, rfl⟩; rw [HK.out]
    clear c0
    obtain ⟨want, hw⟩ : ∃ want, want = l ++ m.take (min k m.length) := ⟨_, rfl⟩
    go_upto_region 6 with fail
    go_cut [9] (fun v9 wx => tearsCut2 w3 want v9 wx)
    case first =>
      obtain ⟨i0, hi0, hz0, hz1, hz2⟩ := info_parts infoU8
      have s3 := (h3.arg sl').1
      have t3 := (h3.arg sm').1
      have cs : (m.length < k ∧ want = l ++ m) ∨ (¬ m.length < k ∧ want = l ++ m.take k) := by
        rcases Nat.lt_or_ge m.length k with h1 | h1
        · exact .inl ⟨h1, by rw [hw, Nat.min_eq_right (by omega), List.take_length]⟩
        · exact .inr ⟨by omega, by rw [hw, Nat.min_eq_left h1]⟩
      clear hw sl' sm' E1 E2 hlc hmc hcm
      rcases cs with ⟨hlt, hw⟩ | ⟨hlt, hw⟩
      · have R : ∀ W, keepBut [] w3 W → reads W B h m.length 1 (m.map bv) := fun W hK => (t3.keep hK (by simp)).reads
        have HW := Lib.hid hw
        have HR := Lib.hid R
        clear hw R t3
        go_region_law (first | (refine step_append _ rfl (.tmp 38) (.tmp 44) 28 rfl 5 i0 (.int .u8 0) 1 1 Try.underlying28 hi0 hz0 hz1 hz2 rfl (by decide) _ l.length (l.map bv) rfl ho4 B h m.length d _ rfl (HR.out _ hk4') (by intro u hu; simp at hu; obtain ⟨b, _, rfl⟩ := hu; rfl) (by omega) (by unfold maxLen; omega) ?_; intro A5 c5 w5 hown5 hkb5 hloc5) | (go_simp; go_at_call 17; refine (copyBytes_n _ _ _ l.length _ _ rfl (s3.keep ((keepBut.refl [] w3).drew) (by simp)) (by omega)).mono ?_; rintro e w4 ⟨v4, rfl, ho4, hf4, hk4⟩; have hk4' := ((keepBut.refl [] w3).drew).then hk4 (by simp)))
        all_goals
          go_wp2_with fail
          go_meet
          exact tears_cut2 HW.out hk4' hf4 hown5 hkb5 hloc5
      · have hkd : k ≤ d := by omega
        have R : ∀ W, keepBut [] w3 W → reads W B h k 1 ((m.take k).map bv) := fun W hK => by
          have := ((t3.keep hK (by simp)).take k).reads
          rw [List.length_take, Nat.min_eq_left (by omega)] at this; exact this
        generalize m.take k = mm at hw R
        have HW := Lib.hid hw
        have HR := Lib.hid R
        clear hw R t3
        go_region_law (first | (refine step_append _ rfl (.tmp 38) (.tmp 44) 28 rfl 5 i0 (.int .u8 0) 1 1 Try.underlying28 hi0 hz0 hz1 hz2 rfl (by decide) _ l.length (l.map bv) rfl ho4 B h k d _ rfl (HR.out _ hk4') (by intro u hu; simp at hu; obtain ⟨b, _, rfl⟩ := hu; rfl) (by omega) (by unfold maxLen; omega) ?_; intro A5 c5 w5 hown5 hkb5 hloc5) | (go_simp; go_at_call 17; refine (copyBytes_n _ _ _ l.length _ _ rfl (s3.keep ((keepBut.refl [] w3).drew) (by simp)) (by omega)).mono ?_; rintro e w4 ⟨v4, rfl, ho4, hf4, hk4⟩; have hk4' := ((keepBut.refl [] w3).drew).then hk4 (by simp)))
        all_goals
          go_wp2_with fail
          go_meet
          exact tears_cut2 HW.out hk4' hf4 hown5 hkb5 hloc5
    case rest =>
      obtain ⟨o6, k6, f6⟩ := hcut
      generalize wc = w6 at *
      have b6 : beside wA w6 p F3 ⟨l, l.length, false, none, [l]⟩ u9 want := ⟨h3.over k6, o6, fun y hy hm => by have := h3.1.lt y hy; have := f6 y hm; omega⟩
      have hv9 : ∀ y ∈ homes u9, wA.heap.size ≤ y := fun y hy => by have := f6 y hy; have := h3.2.2.size; omega
      have hwl : want.length ≤ 600 := by rw [hw, List.length_append, List.length_take]; omega
      clear o6 k6 f6 h3
      have c1 : w6.cell? ⟨w.heap.size, 1, none⟩ = some (.int .i64 x1) := (b6.1.2.2.row r1 (by simp)).cell 1
      go_upto_if 49 with fail
      go_cut [6] (fun v6 wx => tearsCut3 wA p u9 want l m v6 wx)
      case first =>
        have a6 := b6.1.arg sm'
        have HW := Lib.hid hw
        clear hw
        have hsum : ¬ 1048576 < l.length + m.length := by omega
        by_cases hpar : (x1.tmod 2 == 0) = true
        · go_wp2_with fail
          refine (arm_any _ _ _ _ _ b6.1.1 (by omega)).mono ?_; intro e w7 hq; obtain ⟨rfl, F7, b7, k7⟩ := b6.step hq; clear hq
          rw [show DS.armed ⟨l, l.length, false, none, [l]⟩ (k : Int) = (0, ⟨l, l.length, false, some k, [l]⟩) by simp [DS.armed]] at b7 ⊢
          have a7 := b7.1.arg sm'
          clear b6 a6 c1
          go_wp2_with fail
          refine (writeD_n _ _ _ _ _ _ m.length m _ rfl b7.1.1 a7.1 a7.2 (by omega) (by simp)).mono ?_; intro e w8 hq; obtain ⟨rfl, F8, b8, k8⟩ := b7.step hq; clear hq
          rw [show DS.write ⟨l, l.length, false, some k, [l]⟩ m = (0, ⟨l ++ m, l.length, false, some k, [l, m]⟩) by simp [DS.write, hsum]] at b8 ⊢
          go_wp2_with fail
          refine (sync_any _ _ _ _ b8.1.1).mono ?_; intro e w9 hq; obtain ⟨rfl, F9, b9, k9⟩ := b8.step hq; clear hq
          rw [show DS.sync ⟨l ++ m, l.length, false, some k, [l, m]⟩ = (130, DS.die ⟨l ++ m, l.length, false, some k, [l, m]⟩ k) from rfl, tears_die, ← HW.out] at b9
          rw [show DS.sync ⟨l ++ m, l.length, false, some k, [l, m]⟩ = (130, DS.die ⟨l ++ m, l.length, false, some k, [l, m]⟩ k) from rfl]
          clear b7 b8 k7 k8 k9 a7
          go_wp2_with fail
          go_meet
          exact ⟨F9, some k, rfl, b9⟩
        · have hpar' : (x1.tmod 2 == 0) = false := by simpa using hpar
          clear hpar
          go_wp2_with fail
          refine (writeD_n _ _ _ _ _ _ m.length m _ rfl b6.1.1 a6.1 a6.2 (by omega) (by simp)).mono ?_; intro e w8 hq; obtain ⟨rfl, F8, b8, k8⟩ := b6.step hq; clear hq
          rw [show DS.write ⟨l, l.length, false, none, [l]⟩ m = (0, ⟨l ++ m, l.length, false, none, [l, m]⟩) by simp [DS.write, hsum]] at b8 ⊢
          go_wp2_with fail
          refine (crash_any _ _ _ _ _ b8.1.1 (by omega)).mono ?_; intro e w9 hq; obtain ⟨rfl, F9, b9, k9⟩ := b8.step hq; clear hq
          rw [show DS.crash ⟨l ++ m, l.length, false, none, [l, m]⟩ (k : Int) = (0, DS.die ⟨l ++ m, l.length, false, none, [l, m]⟩ k) by simp [DS.crash], tears_die, ← HW.out] at b9
          rw [show DS.crash ⟨l ++ m, l.length, false, none, [l, m]⟩ (k : Int) = (0, DS.die ⟨l ++ m, l.length, false, none, [l, m]⟩ k) by simp [DS.crash]]
          clear b6 b8 k8 k9 a6
          go_wp2_with fail
          go_meet
          exact ⟨F9, none, rfl, b9⟩
      case rest =>
        obtain ⟨F7, arm, rfl, b7⟩ := hcut
        clear b6 c1 hw E1 E2 hlc hmc hcm hdm
        generalize wc = w7 at *
        go_wp2_with fail
        refine (dead_any _ _ _ _ b7.1.1).mono ?_; rintro e w' ⟨rfl, rfl⟩
        go_wp2_with fail
        refine (readD_any _ _ _ _ b7.1.1).mono ?_; rintro e w8 ⟨rfl, hr8, hk8⟩
        have b8 := b7.over hk8
        obtain ⟨A9, c9, g9, rfl, hc9, hm9, s9, hg9⟩ := b8.2.1.seen
        clear b7
        go_wp2_with fail
        refine (eqBytes_n _ _ w7.heap.size g9 _ _ want.length want.length want want _ rfl rfl (seen_row hr8 (by simp [List.take_of_length_le])) s9).mono ?_; rintro e w9 ⟨rfl, rfl⟩
        rw [show (want == want) = true by simp]
        clear hr8 hk8
        go_wp2_with fail
        refine (synced_any _ _ _ _ b8.1.1).mono ?_; rintro e w9 ⟨rfl, rfl⟩
        go_wp2_with fail
        refine (sync_any _ _ _ _ b8.1.1).mono ?_; intro e w9 hq; obtain ⟨rfl, F9, b9, -⟩ := b8.step hq; clear hq
        rw [show DS.sync ⟨want, want.length, true, arm, [l, m]⟩ = (130, ⟨want, want.length, true, arm, [l, m]⟩) from rfl] at b9 ⊢
        clear b8 s9 hg9
        have a9 := b9.1.arg sl'
        go_wp2_with fail
        refine (swapD_n _ _ _ _ _ _ l.length l _ rfl b9.1.1 a9.1 a9.2 (by omega) (by simp)).mono ?_; intro e w10 hq; obtain ⟨rfl, F10, b10, -⟩ := b9.step hq; clear hq
        rw [show DS.swap ⟨want, want.length, true, arm, [l, m]⟩ l = (130, ⟨want, want.length, true, arm, [l, m]⟩) from rfl] at b10 ⊢
        clear b9 a9
        go_wp2_with fail
        refine (cutD_any _ _ _ _ _ b10.1.1 (by omega)).mono ?_; intro e w11 hq; obtain ⟨rfl, F11, b11, -⟩ := b10.step hq; clear hq
        rw [show DS.cut ⟨want, want.length, true, arm, [l, m]⟩ 0 = (130, ⟨want, want.length, true, arm, [l, m]⟩) from rfl] at b11 ⊢
        clear b10
        go_wp2_with fail
        refine (arm_any _ _ _ _ _ b11.1.1 (by omega)).mono ?_; intro e w12 hq; obtain ⟨rfl, F12, b12, -⟩ := b11.step hq; clear hq
        rw [show DS.armed ⟨want, want.length, true, arm, [l, m]⟩ 1 = (130, ⟨want, want.length, true, arm, [l, m]⟩) from rfl] at b12 ⊢
        clear b11
        go_wp2_with fail
        refine (revive_any _ _ _ _ b12.1.1).mono ?_; intro e w13 hq; obtain ⟨rfl, F13, b13, -⟩ := b12.step hq; clear hq
        rw [show DS.revive ⟨want, want.length, true, arm, [l, m]⟩ = ⟨want, want.length, false, none, [l, m]⟩ from rfl] at b13
        clear b12
        go_wp2_with fail
        have g13 := b13.1.notin
        have b13a := b13.alloc (.cells #[.int .u8 7] 5)
        refine (writeD_n _ _ _ _ _ _ 1 [7] _ rfl b13a.1.1 (by exact seen_new w13 _ [7] _ _ rfl) (fun _ => g13) (by omega) (by simp)).mono ?_; intro e w14 hq; obtain ⟨rfl, F14, b14, -⟩ := b13a.step hq; clear hq
        have q14 : DS.write ⟨want, want.length, false, none, [l, m]⟩ [7] = (0, ⟨want ++ [7], want.length, false, none, [l, m, [7]]⟩) := by
          have : ¬ 1048576 < want.length + 1 := by omega
          simp [DS.write, this]
        rw [q14] at b14 ⊢; clear q14 b13 b13a g13
        go_wp2_with fail
        refine (readD_any _ _ _ _ b14.1.1).mono ?_; rintro e w15 ⟨rfl, hr15, hk15⟩
        have b15 := b14.over hk15
        have hv14 := b14.2.1.lt
        obtain ⟨i0, hi0, hz0, hz1, hz2⟩ := info_parts infoU8
        have HB := Lib.hid b15
        clear b14
        go_wp2_with (at_builtin; refine wp_append_g _ (.tmp 126) (.tmp 127) 28 rfl 5 i0 (.int .u8 0) 1 1 Try.underlying28 hi0 hz0 hz1 hz2 rfl (by decide) (.slice A9 want.length c9) want.length _ rfl (HB.out.2.1.alloc _) _ _ 1 1 _ rfl (reads_one _ _ _) (by intro u hu; simp at hu; subst hu; rfl) (by omega) (by unfold maxLen; omega) ?_ (by rfl); intro A16 c16 w16 hown16 hkb16 hloc16)
        have hr16 := hkb16.row (((keepBut.refl [] w15).alloc (.cells #[.int .u8 7] 5)).row hr15 (by simp)) (fun hm => by have := hv14 _ hm; omega)
        have o16 : owns w16 5 1 (.slice A16 (want ++ [7]).length c16) (want ++ [7]).length ((want ++ [7]).map bv) := by
          rw [List.map_append, List.length_append]; exact hown16
        obtain ⟨A17, c17, g17, he17, _, _, s17, _⟩ := o16.seen
        obtain ⟨rfl, rfl⟩ : A16 = A17 ∧ c16 = c17 := by injection he17 with e1 e2 e3; exact ⟨e1, e3⟩
        have d16 := (HB.out.1.alloc (.cells #[.int .u8 7] 5)).keepOff hkb16 HB.out.2.2 hv9
        have HD := Lib.hid d16
        have HS := Lib.hid (And.intro (seen_row (l := want ++ [7]) hr16 (by simp [List.take_of_length_le])) s17)
        clear hr16 o16 he17 s17 d16 hown16 hkb16 hloc16 hr15 hk15 b15 hv14 HB
        refine (eqBytes_n _ _ w14.heap.size g17 _ _ (want.length + 1) (want.length + 1) (want ++ [7]) (want ++ [7]) _ (by simp) (by simp) HS.out.1 HS.out.2).mono ?_; rintro e w17 ⟨rfl, rfl⟩
        rw [show ((want ++ [7]) == (want ++ [7])) = true by simp]
        go_wp2_with fail
        refine (synced_any _ _ _ _ HD.out.1).mono ?_; rintro e w17 ⟨rfl, rfl⟩
        go_wp2_with fail
        refine (works_any _).mono ?_; rintro e w18 ⟨rfl, hk18⟩
        go_wp2_with fail
        go_ret
        exact ⟨rfl, (k1.then HD.out.2.2 (by simp)).then hk18 (by simp)⟩

theorem diskTears_law (A : Option Addr) (g c : Nat) (l0 : List UInt8) (B : Option Addr) (h d : Nat) (m0 : List UInt8) (x0 x1 : Int) (w : World)
    (hl : seen w A g l0) (hlc : l0.length ≤ c) (hcm : c ≤ maxLen) (hm : seen w B h m0) (hmc : m0.length ≤ d) (hdm : d ≤ maxLen)
    (hx0 : (Lit.int .i64 x0).wf = true) (hx1 : (Lit.int .i64 x1).wf = true) :
    Calls Try.prog 5 #[.slice A l0.length c, .slice B m0.length d, .agg #[.int .i64 x0, .int .i64 x1]] w (yesPost w) :=
  diskTears_walk A g c l0 B h d m0 x0 x1 w hl hlc hcm hm hmc hdm (bd_i64 hx0) (bd_i64 hx1)
end Go.Proofs.Ytaclpogcedgojaa
