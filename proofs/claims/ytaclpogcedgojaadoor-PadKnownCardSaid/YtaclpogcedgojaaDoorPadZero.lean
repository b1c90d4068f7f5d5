/-
  PAD: isZero.
-/
import Derived.Test.YtaclpogcedgojaaDoorPadClass
namespace Go.Proofs.YtaclpogcedgojaaDoor
open Go.RowKit
set_option linter.unusedVariables false

def allZero (l : List UInt8) : Bool := l.all (· == 0)

set_option maxRecDepth 100000 in
set_option maxHeartbeats 1000000 in
theorem isZero_any (A : Option Addr) (g c : Nat) (l : List UInt8) (w : World) (hs : seen w A g l) (hb : l.length ≤ 140737488355328) :
    Calls Tryd.prog 20 #[.slice A l.length c] w fun e w' => e = .returned (.bool (allZero l)) ∧ w = w' := by
  go_enter Tryd.func20, Tryd.ntmps20
  go_wp2
  go_loop [7] (fun i => ∃ k : Nat, k ≤ l.length ∧ i = .int .i64 k ∧ allZero (l.take k) = true) (fun i => l.length - (intOf i).toNat)
  case atStart => exact ⟨0, Nat.zero_le _, rfl, rfl⟩
  case round =>
    obtain ⟨k, hk, rfl, hz⟩ := hrel
    by_cases hlt : k < l.length
    · obtain ⟨b, hb2⟩ : ∃ b, l[k]? = some b := ⟨l[k]'hlt, by simp⟩
      obtain ⟨o, rfl, hgl, hc⟩ := hs (by rintro rfl; simp at hlt)
      have hcell := hc k b hb2
      unfold bv at hcell
      by_cases h0 : b = 0
      · subst h0
        have hz1 : allZero (l.take (k + 1)) = true := by
          unfold allZero at hz ⊢
          rw [List.take_add_one, hb2]; simp only [Option.toList_some, List.all_append, hz, Bool.true_and]; rfl
        have HZ := Lib.hid hz1
        clear hz hz1 hc hs
        simp at hcell
        go_wp2
        go_round
        case rel => exact ⟨k + 1, by omega, by go_num, HZ.out⟩
        case measure => simp [intOf]; omega
      · have hz0 : allZero l = false := by
          unfold allZero
          rw [List.all_eq_false]
          exact ⟨b, List.mem_of_getElem? hb2, by simpa using h0⟩
        have HZ := Lib.hid hz0
        have d1 : ((b.toNat : Int) != 0) = true := by
          have : b.toNat ≠ 0 := fun h => h0 (by rw [← UInt8.toNat_inj]; simpa using h)
          simp; omega
        clear hz hz0 hc hs h0
        go_wp2
        go_ret
        exact ⟨by rw [HZ.out]; rfl, rfl⟩
    · obtain rfl : k = l.length := by omega
      rw [List.take_length] at hz
      have HZ := Lib.hid hz
      clear hz hs
      go_wp2
      go_ret
      exact ⟨by rw [HZ.out]; rfl, rfl⟩
end Go.Proofs.YtaclpogcedgojaaDoor
