/-
  PACK, 8: a configuration that a kind has not; which parts may be.
-/
import Derived.Test.YthfdkonhjpdflaaGreatDoorPk7
namespace Go.Proofs.YthfdkonhjpdflaaGreatDoor
open Go.RowKit
set_option linter.unusedVariables false
set_option maxRecDepth 100000

def cfZero : CF := ⟨0, 0, []⟩
set_option maxHeartbeats 1000000 in
theorem onlyConf_any (bit : Int) (c : CF) (A : Option Addr) (n k : Nat) (w : World) :
    Calls Tryz.prog 131 #[.int .i64 bit, .agg (cfL c (.slice A n k)).toArray] w fun e w' => e = .returned (.agg (if bit = 0 then cfL cfZero (.slice none 0 0) else cfL c (.slice A n k)).toArray) ∧ keepBut [] w w' := by
  obtain ⟨cn, cf, cl⟩ := c
  unfold cfL
  dsimp only [cfZero]
  have k1 := (keepBut.refl [] w).alloc (.cells #[.int .i64 cn, .int .i64 cf, .slice A n k] 31)
  have k2 := k1.alloc (.cells #[.int .i64 0, .int .i64 0, .slice none 0 0] 31)
  have k3 := k2.alloc (.cells #[.int .i64 0, .int .i64 0, .slice none 0 0] 31)
  have q2 := (keepBut.refl [] (w.alloc (.cells #[.int .i64 cn, .int .i64 cf, .slice A n k] 31))).alloc (.cells #[.int .i64 0, .int .i64 0, .slice none 0 0] 31)
  have q3 := (keepBut.refl [] ((w.alloc (.cells #[.int .i64 cn, .int .i64 cf, .slice A n k] 31)).alloc (.cells #[.int .i64 0, .int .i64 0, .slice none 0 0] 31))).alloc (.cells #[.int .i64 0, .int .i64 0, .slice none 0 0] 31)
  have r1 := q3.row (q2.row (rowAt.new w 31 #[.int .i64 cn, .int .i64 cf, .slice A n k]) (by simp)) (by simp)
  have r2 := q3.row (rowAt.new (w.alloc (.cells #[.int .i64 cn, .int .i64 cf, .slice A n k] 31)) 31 #[.int .i64 0, .int .i64 0, .slice none 0 0]) (by simp)
  rw [World.size_alloc] at r2
  have r3 := rowAt.new ((w.alloc (.cells #[.int .i64 cn, .int .i64 cf, .slice A n k] 31)).alloc (.cells #[.int .i64 0, .int .i64 0, .slice none 0 0] 31)) 31 #[.int .i64 0, .int .i64 0, .slice none 0 0]
  rw [World.size_alloc, World.size_alloc] at r3
  obtain ⟨w3, hw3⟩ : ∃ w3, ((w.alloc (.cells #[.int .i64 cn, .int .i64 cf, .slice A n k] 31)).alloc (.cells #[.int .i64 0, .int .i64 0, .slice none 0 0] 31)).alloc (.cells #[.int .i64 0, .int .i64 0, .slice none 0 0] 31) = w3 := ⟨_, rfl⟩
  rw [hw3] at r1 r2 r3 k3
  have HW := Lib.hid hw3
  have f0 := r2.free 0
  have f1 := r2.free 1
  have f2 := r2.free 2
  have x0 : w3.cell? ⟨w.heap.size, 0, none⟩ = some (.int .i64 cn) := r1.cell 0
  have x1 : w3.cell? ⟨w.heap.size, 1, none⟩ = some (.int .i64 cf) := r1.cell 1
  have x2 : w3.cell? ⟨w.heap.size, 2, none⟩ = some (.slice A n k) := r1.cell 2
  have y0 : w3.cell? ⟨w.heap.size + 1, 0, none⟩ = some (.int .i64 0) := r2.cell 0
  have y1 : w3.cell? ⟨w.heap.size + 1, 1, none⟩ = some (.int .i64 0) := r2.cell 1
  have y2 : w3.cell? ⟨w.heap.size + 1, 2, none⟩ = some (.slice none 0 0) := r2.cell 2
  have z0 : w3.cell? ⟨w.heap.size + 1 + 1, 0, none⟩ = some (.int .i64 0) := r3.cell 0
  have z1 : w3.cell? ⟨w.heap.size + 1 + 1, 1, none⟩ = some (.int .i64 0) := r3.cell 1
  have z2 : w3.cell? ⟨w.heap.size + 1 + 1, 2, none⟩ = some (.slice none 0 0) := r3.cell 2
  have HR := Lib.hid (And.intro r2 k3)
  clear k1 k2 k3 q2 q3 r1 r2 r3 hw3
  by_cases hb : bit = 0
  · subst hb
    have rs := ((HR.out.1.set 0 (.int .i64 0)).set 1 (.int .i64 0)).set 2 (.slice none 0 0)
    have ks := ((HR.out.2.setCell ⟨w.heap.size + 1, 0, none⟩ (.int .i64 0) (.inr (by simp))).setCell ⟨w.heap.size + 1, 1, none⟩ (.int .i64 0) (.inr (by simp))).setCell ⟨w.heap.size + 1, 2, none⟩ (.slice none 0 0) (.inr (by simp))
    have HS := Lib.hid (And.intro rs ks)
    clear rs ks
    go_enter Tryz.func131, Tryz.ntmps131
    go_upto_region 2 with fail
    rw [HW.out]
    go_wp2_with fail
    refine bodyPost_ret (results_cell_row rfl _ _ (w.heap.size + 1) 31 _ (0, 0) _ rfl HS.out.1 Tryz.underlying31 rfl (by kernel_rfl)) rfl ?_
    exact ⟨rfl, HS.out.2⟩
  · have rs := ((HR.out.1.set 0 (.int .i64 cn)).set 1 (.int .i64 cf)).set 2 (.slice A n k)
    have ks := ((HR.out.2.setCell ⟨w.heap.size + 1, 0, none⟩ (.int .i64 cn) (.inr (by simp))).setCell ⟨w.heap.size + 1, 1, none⟩ (.int .i64 cf) (.inr (by simp))).setCell ⟨w.heap.size + 1, 2, none⟩ (.slice A n k) (.inr (by simp))
    have HS := Lib.hid (And.intro rs ks)
    have hb1 : (bit == 0) = false := by simpa using hb
    rw [if_neg hb]
    clear rs ks hb
    go_enter Tryz.func131, Tryz.ntmps131
    go_upto_region 2 with fail
    rw [HW.out]
    go_wp2_with fail
    refine bodyPost_ret (results_cell_row rfl _ _ (w.heap.size + 1) 31 _ (0, 0) _ rfl HS.out.1 Tryz.underlying31 rfl (by kernel_rfl)) rfl ?_
    exact ⟨rfl, HS.out.2⟩
end Go.Proofs.YthfdkonhjpdflaaGreatDoor
