/-
  VIEW: a list of seeds of a length, opened.
-/
import Derived.Test.YtjipokilidhnoaaViewSeeds
namespace Go.Proofs.Ytjipokilidhnoaa
open Go.ChangeShapes Go.WideShapes Go.ChangeAt Go.RowKit
set_option linter.unusedVariables false
def seedls (w : World) (A : Option Addr) (n : Nat) : Prop := ∃ l : List SD, l.length = n ∧ seedsV w A l
theorem open_seedls {H : Type} {enc : TypeId × Value → H} {W : World} {sp : Nat → Bool} {hd : Bool} {fuel : Nat} {cs : List Value} {x : DataW H × List MemPlace}
    (h : DataW.trod enc Try.prog W 0 sp hd fuel 23 cs = some x) :
    ∃ A n c, cs = [.slice A n c] ∧ n ≤ c ∧ c ≤ maxLen ∧ seedls W A n := by
  obtain ⟨A, c, l, h1, h2, h3, h4⟩ := open_seeds h
  exact ⟨A, l.length, c, h1, h2, h3, l, rfl, h4⟩
end Go.Proofs.Ytjipokilidhnoaa
