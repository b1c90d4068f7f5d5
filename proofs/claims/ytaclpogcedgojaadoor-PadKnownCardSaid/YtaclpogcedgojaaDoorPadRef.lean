/-
  PAD: the document's answer, call by call.
-/
import Derived.Test.YtaclpogcedgojaaDoorPadBack
import Derived.LoopTactic
import Derived.Laws.BitsAllLaws
namespace Go.Proofs.YtaclpogcedgojaaDoor
open Go.RowKit
set_option linter.unusedVariables false

set_option maxHeartbeats 1000000 in
theorem refClass_any (n : Int) (w : World) (hn : -9223372036854775808 ≤ n ∧ n ≤ 9223372036854775807) : Calls Tryd.prog 15 #[.int .i64 n] w fun e w' => e = .returned (.int .i64 (classP n)) ∧ w = w' := by
  by_cases h0 : n < 0
  · have HP := Lib.hid (show classP n = 0 by unfold classP; rw [if_pos (.inl h0)])
    go_enter Tryd.func15, Tryd.ntmps15
    go_wp2
    go_ret
    exact ⟨by rw [HP.out]; rfl, rfl⟩
  · by_cases h1 : 250 < n
    · have HP := Lib.hid (show classP n = 0 by unfold classP; rw [if_pos (.inr h1)])
      go_enter Tryd.func15, Tryd.ntmps15
      go_wp2
      go_ret
      exact ⟨by rw [HP.out]; rfl, rfl⟩
    · by_cases h2 : n ≤ 13
      · have HP := Lib.hid (show classP n = 16 by unfold classP; rw [if_neg (by omega), if_pos h2])
        go_enter Tryd.func15, Tryd.ntmps15
        go_wp2
        go_ret
        exact ⟨by rw [HP.out]; rfl, rfl⟩
      · by_cases h3 : n ≤ 61
        · have HP := Lib.hid (show classP n = 64 by unfold classP; rw [if_neg (by omega), if_neg h2, if_pos h3])
          go_enter Tryd.func15, Tryd.ntmps15
          go_wp2
          go_ret
          exact ⟨by rw [HP.out]; rfl, rfl⟩
        · have HP := Lib.hid (show classP n = 256 by unfold classP; rw [if_neg (by omega), if_neg h2, if_neg h3])
          go_enter Tryd.func15, Tryd.ntmps15
          go_wp2
          go_ret
          exact ⟨by rw [HP.out]; rfl, rfl⟩

def refRel (w : World) (S : Nat) (base : List UInt8) (v8 : Value) (wx : World) : Prop :=
  ∃ (k m : Nat) (xs : List Value), m = base.length + k ∧ xs = (base ++ List.replicate k 0).map bv ∧ m ≤ S ∧ owns wx 5 1 v8 m xs ∧ (∀ y ∈ homes v8, w.heap.size ≤ y) ∧ keepBut [] w wx
theorem heads_row (n : Nat) (h : n ≤ 250) : (#[.int .u8 0, .int .u8 ((n : Int) / 256), .int .u8 ((n : Int) % 256)] : Array Value) = (([0, UInt8.ofNat (n / 256), UInt8.ofNat (n % 256)] : List UInt8).map bv).toArray := by
  simp only [List.map_cons, List.map_nil, bv, UInt8.toNat_ofNat']
  have e1 : n / 256 % 2 ^ 8 = 0 := by omega
  have e2 : n % 256 % 2 ^ 8 = n := by omega
  rw [e1, e2]
  have e3 : (n : Int) / 256 = 0 := by omega
  have e4 : (n : Int) % 256 = n := by omega
  rw [e3, e4]
  rfl
theorem grave_eq (S : Nat) (h : 3 ≤ S) : graveBytes S = ([1, 0, 0] : List UInt8) ++ List.replicate (S - ([1, 0, 0] : List UInt8).length) 0 := by
  obtain ⟨k, rfl⟩ : ∃ k, S = k + 3 := ⟨S - 3, by omega⟩
  unfold graveBytes
  rw [show k + 3 - 1 = k + 1 + 1 from rfl, List.replicate_succ, List.replicate_succ]
  rfl
theorem refLoop_end {wr : World} {S : Nat} {base : List UInt8} {v8 : Value} {m k : Nat} {xs : List Value} {out : List UInt8} (hm : m = base.length + k) (hx : xs = (base ++ List.replicate k 0).map bv) (ho : owns wr 5 1 v8 m xs)
    (hS : m = S) (hout : out = base ++ List.replicate (S - base.length) 0) : owns wr 5 1 v8 out.length (out.map bv) := by
  have : out = base ++ List.replicate k 0 := by rw [hout]; congr 2; omega
  rw [this, ← hx]
  have : (base ++ List.replicate k 0).length = m := by rw [hm]; simp
  rw [this]; exact ho

set_option maxRecDepth 100000 in
set_option maxHeartbeats 2000000 in
theorem refPad_any (A : Option Addr) (g c : Nat) (l : List UInt8) (tomb : Bool) (w : World) (hs : seen w A g l) (hb : l.length ≤ 140737488355328) :
    Calls Tryd.prog 12 #[.slice A l.length c, .bool tomb] w (padPost (padP l tomb) w) := by
  by_cases hbad : tomb = true ∧ l ≠ []
  · have HP := Lib.hid (show padP l tomb = ([], 2) by unfold padP; rw [if_pos hbad])
    obtain ⟨rfl, hne⟩ := hbad
    have hpos : (0 : Int) < (l.length : Int) := by have := List.length_pos_iff.2 hne; omega
    clear hne
    go_enter Tryd.func12, Tryd.ntmps12
    go_wp2
    go_ret2
    rw [HP.out]
    exact ⟨_, rfl, owns.nil _ _ _, by simp [homes_none], keepBut.refl _ _⟩
  · have hguard : tomb = false ∨ (tomb = true ∧ l = []) := by
      cases tomb with
      | false => exact .inl rfl
      | true => exact .inr ⟨rfl, by by_cases h0 : l = []; exact h0; exact absurd ⟨rfl, h0⟩ hbad⟩
    rcases classP_cases l.length with ⟨hbig, hc0⟩ | ⟨S, hn, hS, hS0, hS2, hS1⟩
    · have HP := Lib.hid (show padP l tomb = ([], 70) by unfold padP; rw [if_neg hbad, if_pos hc0])
      have hneg : tomb = false := by
        rcases hguard with h1 | ⟨_, h1⟩
        · exact h1
        · rw [h1] at hbig; simp at hbig
      subst hneg
      have HC := Lib.hid hc0
      clear hc0 hbad hguard
      go_enter Tryd.func12, Tryd.ntmps12
      go_wp2_with (go_at_call 15; refine (refClass_any _ _ (by omega)).mono ?_; rintro e w' ⟨rfl, rfl⟩; rw [HC.out])
      go_ret2
      rw [HP.out]
      exact ⟨_, rfl, owns.nil _ _ _, by simp [homes_none], keepBut.refl _ _⟩
    · have hS' : ((S : Int) == 0) = false := by simp; omega
      have hne0 : classP (l.length : Int) ≠ 0 := by rw [hS]; omega
      have HC := Lib.hid hS
      have HS := Lib.hid hs
      obtain ⟨i0, hi0, hz0, hz1, hz2⟩ := info_parts infoU8
      clear hS hs
      rcases hguard with rfl | ⟨rfl, rfl⟩
      · have HP := Lib.hid (show padP l false = (padBytes l S, 0) by unfold padP; rw [if_neg hbad, if_neg hne0, if_neg (by simp), HC.out]; rfl)
        clear hbad hne0
        go_enter Tryd.func12, Tryd.ntmps12
        go_upto_region 10 with (go_at_call 15; refine (refClass_any _ _ (by omega)).mono ?_; rintro e w' ⟨rfl, rfl⟩; rw [HC.out])
        have r0 := rowAt.new w 5 #[.int .u8 0, .int .u8 ((l.length : Int) / 256), .int .u8 ((l.length : Int) % 256)]
        have k0 := (keepBut.refl [] w).alloc (.cells #[.int .u8 0, .int .u8 ((l.length : Int) / 256), .int .u8 ((l.length : Int) % 256)] 5)
        have s0 := HS.out.keep k0 (by simp)
        rw [heads_row _ hn] at r0
        have o0 := owns_row_all r0 (by simp [maxLen])
        rw [← heads_row _ hn] at o0
        generalize w.alloc (.cells #[.int .u8 0, .int .u8 ((l.length : Int) / 256), .int .u8 ((l.length : Int) % 256)] 5) = w1 at *
        have hg1 : w.heap.size ≤ w.heap.size := Nat.le_refl _
        have HO := Lib.hid (And.intro o0 s0.reads)
        clear r0 o0 s0
        go_upto_block 1 with (at_builtin; refine wp_append _ rfl (.tmp 31) (.tmp 32) 22 rfl 5 i0 (.int .u8 0) 1 1 Tryd.underlying22 hi0 hz0 hz1 hz2 rfl (by decide) (.slice (some ⟨w.heap.size, 0, none⟩) 3 3) 3 _ rfl HO.out.1 A g l.length c _ rfl HO.out.2 (by intro u hu; simp at hu; obtain ⟨b, _, rfl⟩ := hu; rfl) (by omega) (by unfold maxLen; omega) ?_; intro A4 c4 w4 hown4 hkb4 hloc4)
        obtain ⟨base, hbase⟩ : ∃ base, base = ([0, UInt8.ofNat (l.length / 256), UInt8.ofNat (l.length % 256)] : List UInt8) ++ l := ⟨_, rfl⟩
        go_wp2_with fail
        have hbl : base.length ≤ S := by rw [hbase]; simp; omega
        have HBL := Lib.hid hbase
        clear hbase
        go_loopw [8] (fun v8 wx => refRel w S base v8 wx) (fun v8 _ => S - (match v8 with | .slice _ n _ => n | _ => 0))
        case atStart => exact ⟨0, 3 + l.length, ([0, UInt8.ofNat (l.length / 256), UInt8.ofNat (l.length % 256)] : List UInt8).map bv ++ l.map bv, by rw [HBL.out]; simp; omega, by rw [HBL.out]; simp, by omega, hown4, fun y hy => by
            rcases hloc4 y hy with h1 | h1
            · simp [homes_some] at h1; omega
            · have := k0.size; omega, k0.then hkb4 (by simp [homes_some])⟩
        case round =>
          obtain ⟨k, m, xs, hm, hx, hmS, ho, hh, hk⟩ := hrel
          obtain ⟨A8, c8, rfl, hc8, hm8, _, _⟩ := ho.form
          have HX := Lib.hid (And.intro hm (And.intro hx (And.intro ho (And.intro hh hk))))
          clear hm hx ho hh hk
          by_cases hlt : m < S
          · have hlt' : (m : Int) < (S : Int) := by omega
            go_wp2_with (at_builtin; refine wp_append _ rfl (.tmp 38) (.tmp 39) 22 rfl 5 i0 (.int .u8 0) 1 1 Tryd.underlying22 hi0 hz0 hz1 hz2 rfl (by decide) (.slice A8 m c8) m xs rfl (HX.out.2.2.1.alloc _) _ _ 1 1 _ rfl (reads_one _ _ _) (by intro u hu; simp at hu; subst hu; rfl) (by omega) (by unfold maxLen; omega) ?_; intro A5 c5 w5 hown5 hkb5 hloc5)
            go_roundw
            case rel =>
              obtain ⟨hm, hx, ho, hh, hk⟩ := HX.out
              refine ⟨k + 1, m + 1, xs ++ [.int .u8 0], by omega, by rw [hx]; simp [List.replicate_succ', bv], by omega, hown5, fun y hy => ?_, (hk.alloc _).then hkb5 (fun y hy => .inr (hh y hy))⟩
              rcases hloc5 y hy with h1 | h1
              · exact hh y h1
              · have := hk.size; simp at h1; omega
            case measure => simp; omega
          · have hmS' : m = S := by omega
            have hlt' : ¬ (m : Int) < (S : Int) := by omega
            have HMS := Lib.hid hmS'
            clear hmS'
            go_wp2_with fail
            go_ret2
            rw [HP.out]
            obtain ⟨hm, hx, ho, hh, hk⟩ := HX.out
            exact ⟨_, rfl, refLoop_end hm hx ho HMS.out (by rw [HBL.out]; unfold padBytes; congr 2; simp; omega), hh, hk⟩
      · have HP := Lib.hid (show padP [] true = (graveBytes S, 0) by unfold padP; rw [if_neg hbad, if_neg hne0, if_pos rfl, HC.out]; rfl)
        clear hbad hne0
        go_enter Tryd.func12, Tryd.ntmps12
        go_upto_region 10 with (go_at_call 15; refine (refClass_any _ _ (by omega)).mono ?_; rintro e w' ⟨rfl, rfl⟩; rw [show ((([] : List UInt8).length : Nat) : Int) = 0 from rfl] at HC; rw [HC.out])
        have r0 := rowAt.new w 5 #[.int .u8 1, .int .u8 0, .int .u8 0]
        have k0 := (keepBut.refl [] w).alloc (.cells #[.int .u8 1, .int .u8 0, .int .u8 0] 5)
        have s0 := HS.out.keep k0 (by simp)
        rw [show (#[.int .u8 1, .int .u8 0, .int .u8 0] : Array Value) = (([1, 0, 0] : List UInt8).map bv).toArray from rfl] at r0
        have o0 : owns (w.alloc (.cells #[.int .u8 1, .int .u8 0, .int .u8 0] 5)) 5 1 (.slice (some ⟨w.heap.size, 0, none⟩) 3 3) 3 (([1, 0, 0] : List UInt8).map bv) := owns_row_all r0 (by simp [maxLen])
        generalize w.alloc (.cells #[.int .u8 1, .int .u8 0, .int .u8 0] 5) = w1 at *
        have hg1 : w.heap.size ≤ w.heap.size := Nat.le_refl _
        have HO := Lib.hid (And.intro o0 s0.reads)
        clear r0 o0 s0
        go_upto_block 1 with (at_builtin; refine wp_append _ rfl (.tmp 31) (.tmp 32) 22 rfl 5 i0 (.int .u8 0) 1 1 Tryd.underlying22 hi0 hz0 hz1 hz2 rfl (by decide) (.slice (some ⟨w.heap.size, 0, none⟩) 3 3) 3 _ rfl HO.out.1 A g 0 c _ rfl HO.out.2 (by intro u hu; simp at hu) (by omega) (by unfold maxLen; omega) ?_; intro A4 c4 w4 hown4 hkb4 hloc4)
        obtain ⟨base, hbase⟩ : ∃ base, base = ([1, 0, 0] : List UInt8) := ⟨_, rfl⟩
        go_wp2_with fail
        have hbl : base.length ≤ S := by rw [hbase]; simp; omega
        have HBL := Lib.hid hbase
        clear hbase
        go_loopw [8] (fun v8 wx => refRel w S base v8 wx) (fun v8 _ => S - (match v8 with | .slice _ n _ => n | _ => 0))
        case atStart => exact ⟨0, 3 + 0, ([1, 0, 0] : List UInt8).map bv ++ ([] : List UInt8).map bv, by rw [HBL.out]; rfl, by rw [HBL.out]; rfl, by omega, hown4, fun y hy => by
            rcases hloc4 y hy with h1 | h1
            · simp [homes_some] at h1; omega
            · have := k0.size; omega, k0.then hkb4 (by simp [homes_some])⟩
        case round =>
          obtain ⟨k, m, xs, hm, hx, hmS, ho, hh, hk⟩ := hrel
          obtain ⟨A8, c8, rfl, hc8, hm8, _, _⟩ := ho.form
          have HX := Lib.hid (And.intro hm (And.intro hx (And.intro ho (And.intro hh hk))))
          clear hm hx ho hh hk
          by_cases hlt : m < S
          · have hlt' : (m : Int) < (S : Int) := by omega
            go_wp2_with (at_builtin; refine wp_append _ rfl (.tmp 38) (.tmp 39) 22 rfl 5 i0 (.int .u8 0) 1 1 Tryd.underlying22 hi0 hz0 hz1 hz2 rfl (by decide) (.slice A8 m c8) m xs rfl (HX.out.2.2.1.alloc _) _ _ 1 1 _ rfl (reads_one _ _ _) (by intro u hu; simp at hu; subst hu; rfl) (by omega) (by unfold maxLen; omega) ?_; intro A5 c5 w5 hown5 hkb5 hloc5)
            go_roundw
            case rel =>
              obtain ⟨hm, hx, ho, hh, hk⟩ := HX.out
              refine ⟨k + 1, m + 1, xs ++ [.int .u8 0], by omega, by rw [hx]; simp [List.replicate_succ', bv], by omega, hown5, fun y hy => ?_, (hk.alloc _).then hkb5 (fun y hy => .inr (hh y hy))⟩
              rcases hloc5 y hy with h1 | h1
              · exact hh y h1
              · have := hk.size; simp at h1; omega
            case measure => simp; omega
          · have hmS' : m = S := by omega
            have hlt' : ¬ (m : Int) < (S : Int) := by omega
            have HMS := Lib.hid hmS'
            clear hmS'
            go_wp2_with fail
            go_ret2
            rw [HP.out]
            obtain ⟨hm, hx, ho, hh, hk⟩ := HX.out
            exact ⟨_, rfl, refLoop_end hm hx ho HMS.out (by rw [HBL.out]; exact grave_eq S (by omega)), hh, hk⟩
end Go.Proofs.YtaclpogcedgojaaDoor
