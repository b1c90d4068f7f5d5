/-
  LEAD: the law's own step, what it is about.
-/
import Derived.Test.YtbjonlfjfjlelaaLeadBoth
namespace Go.Proofs.Ytbjonlfjfjlelaa
open Go.RowKit
set_option linter.unusedVariables false
set_option maxRecDepth 100000

def rowD (k a b n : Int) (near : Bool) (num full : Int) (cv vs : Value) : Array Value := #[.int .i64 k, .int .i64 a, .int .i64 b, .int .i64 n, .bool near, .int .i64 num, .int .i64 full, cv, vs]
def stepPost (w0 : World) (p q i : Nat) (e : Ending) (w' : World) : Prop := e = .returned (.bool true) ∧ ∃ F' G' s', both w0 w' p F' s' q G' s' [] ∧ inP s' (i + 1)
def stepIn (w0 : World) (p : Nat) (F : List Nat) (s : LS) (q : Nat) (G : List Nat) (ta : Nat) (k a : Int) (near : Bool) (num full : Int) (cv vs : Value) (wx : World) : Prop :=
  ∃ b n : Int, rowAt wx ta 58 (rowD k a b n near num full cv vs) ∧ both w0 wx p F s q G s [ta]

end Go.Proofs.Ytbjonlfjfjlelaa
