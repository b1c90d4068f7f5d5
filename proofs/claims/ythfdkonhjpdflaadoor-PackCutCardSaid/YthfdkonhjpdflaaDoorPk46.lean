/-
  PACK, 46: the law's helper made, of the kinds all.
-/
import Derived.Test.YthfdkonhjpdflaaDoorPk42
import Derived.Test.YthfdkonhjpdflaaDoorPk43
import Derived.Test.YthfdkonhjpdflaaDoorPk44
import Derived.Test.YthfdkonhjpdflaaDoorPk45
namespace Go.Proofs.YthfdkonhjpdflaaDoor
open Go.RowKit
set_option linter.unusedVariables false
set_option maxRecDepth 100000
set_option linter.unusedSimpArgs false

theorem made_any (F : List Nat) (s : SD) (v : Value) (w : World) (hs : SDok s) (hv : bytesV w F v s.b) :
    Calls Tryd.prog 7 #[.agg (sdL s v).toArray] w (MADE s w) := by
  have h : 1 + s.kind % 14 = 1 ∨ 1 + s.kind % 14 = 2 ∨ 1 + s.kind % 14 = 3 ∨ 1 + s.kind % 14 = 4 ∨ 1 + s.kind % 14 = 5 ∨ 1 + s.kind % 14 = 6 ∨ 1 + s.kind % 14 = 7 ∨ 1 + s.kind % 14 = 8 ∨ 1 + s.kind % 14 = 9 ∨ 1 + s.kind % 14 = 10 ∨ 1 + s.kind % 14 = 11 ∨ 1 + s.kind % 14 = 12 ∨ 1 + s.kind % 14 = 13 ∨ 1 + s.kind % 14 = 14 := by omega
  rcases h with h | h | h | h | h | h | h | h | h | h | h | h | h | h
  · exact made_g0 F s v w hs hv (fun k hk he => hk (by rw [← he, h]; decide))
  · exact made_g2 F s v w hs hv (fun k hk he => hk (by rw [← he, h]; decide))
  · exact made_g0 F s v w hs hv (fun k hk he => hk (by rw [← he, h]; decide))
  · exact made_g0 F s v w hs hv (fun k hk he => hk (by rw [← he, h]; decide))
  · exact made_g0 F s v w hs hv (fun k hk he => hk (by rw [← he, h]; decide))
  · exact made_g2 F s v w hs hv (fun k hk he => hk (by rw [← he, h]; decide))
  · exact made_g1 F s v w hs hv (fun k hk he => hk (by rw [← he, h]; decide))
  · exact made_g2 F s v w hs hv (fun k hk he => hk (by rw [← he, h]; decide))
  · exact made_g0 F s v w hs hv (fun k hk he => hk (by rw [← he, h]; decide))
  · exact made_g1 F s v w hs hv (fun k hk he => hk (by rw [← he, h]; decide))
  · exact made_g3 F s v w hs hv (fun k hk he => hk (by rw [← he, h]; decide))
  · exact made_g1 F s v w hs hv (fun k hk he => hk (by rw [← he, h]; decide))
  · exact made_g1 F s v w hs hv (fun k hk he => hk (by rw [← he, h]; decide))
  · exact made_g1 F s v w hs hv (fun k hk he => hk (by rw [← he, h]; decide))
end Go.Proofs.YthfdkonhjpdflaaDoor
