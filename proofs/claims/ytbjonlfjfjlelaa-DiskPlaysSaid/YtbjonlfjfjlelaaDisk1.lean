/-
  DISK, 1: copied.
-/
import Derived.Test.YtbjonlfjfjlelaaMemCopy
namespace Go.Proofs.Ytbjonlfjfjlelaa
open Go.RowKit
set_option linter.unusedVariables false

/-- a copy of bytes in one new block, filled to the brim -/
def copiedPost (l : List UInt8) (w : World) (e : Ending) (w' : World) : Prop :=
  e = .returned (.slice (some ⟨w.heap.size, 0, none⟩) l.length l.length) ∧ rowAt w' w.heap.size 5 (l.map bv).toArray ∧ keepBut [] w w'

set_option maxHeartbeats 400000 in
theorem copied_any (A : Option Addr) (g c : Nat) (l : List UInt8) (w : World) (hs : seen w A g l) (hb : l.length ≤ 140737488355328) :
    Calls Try.prog 59 #[.slice A l.length c] w (copiedPost l w) := by
  have hmk := make_bytes l.length (by omega)
  have hr := rowAt.new w 5 (zeroRow l.length)
  have hs' := hs.keep ((keepBut.refl [] w).alloc (.cells (zeroRow l.length) 5)) (by simp)
  have hk := (keepBut.refl [] w).alloc (.cells (zeroRow l.length) 5)
  have H := Lib.hid (And.intro hr (And.intro hs' hk))
  clear hr hs' hk hs
  go_enter Try.func59, Try.ntmps59
  go_wp2_with (with_reducible refine wp_copy _ rfl (.tmp 7) (.tmp 8) 28 28 rfl 5 Try.underlying28 infoSize1 w.heap.size 0 l.length l.length A g c l rfl rfl (zeroRow l.length) 5 H.out.1 H.out.2.1 (Nat.le_refl _) (by rw [zeroRow_size]; omega) ?_; intro w2 hr2 hk2)
  go_ret
  rw [splice_whole (by simp [zeroRow_size])] at hr2
  exact ⟨rfl, hr2, H.out.2.2.then hk2 (by simp)⟩
end Go.Proofs.Ytbjonlfjfjlelaa
