/-
  TABLE, 41: a request of a table's, purely.
-/
import Derived.Test.YtmlmhnhilemjhaaDoorTB40
namespace Go.Proofs.YtmlmhnhilemjhaaDoor
open Go.RowKit
set_option linter.unusedVariables false
set_option maxRecDepth 100000
set_option linter.unusedSimpArgs false

/-- an ask, as numbers -/
structure ASK where
  client : Int
  kind : Int
  name : Int
  above : Int
  again : Bool
def askL (x : ASK) : List Value := [.int .i64 x.client, .int .i64 x.kind, .int .i64 x.name, .int .i64 x.above, .bool x.again]
structure ASK.ok (x : ASK) : Prop where
  c : -9223372036854775808 ≤ x.client ∧ x.client ≤ 9223372036854775807
  k : -9223372036854775808 ≤ x.kind ∧ x.kind ≤ 9223372036854775807
  n : -9223372036854775808 ≤ x.name ∧ x.name ≤ 9223372036854775807
  a : -9223372036854775808 ≤ x.above ∧ x.above ≤ 9223372036854775807
def ASK.c3 (x : ASK) : Nat := (x.client % 3).toNat
def ASK.n6 (x : ASK) : Nat := (x.name % 6).toNat
def numAt (ns : List Int) (j : Nat) : Int := match ns[j]? with | some k => k | none => 0
def numsP (x : ASK) (ns : List Int) : List Int := if x.again = false ∨ numAt ns x.c3 = 0 then ns.set x.c3 (numAt ns x.c3 + 1) else ns
def madeP (P : PT) (x : ASK) (ns : List Int) : RQ :=
  if 1 + x.kind % 4 = 2 then ⟨x.c3, numAt (numsP x ns) x.c3, 1 + x.kind % 4, max 1 (P.ver (nameP x.n6) + x.above % 3), nameP x.n6, envP (wrap64 (x.client + x.above))⟩
  else if 1 + x.kind % 4 = 4 then ⟨x.c3, numAt (numsP x ns) x.c3, 1 + x.kind % 4, max 1 (min 255 (P.epoch + x.above % 3)), nameZ, []⟩
  else ⟨x.c3, numAt (numsP x ns) x.c3, 1 + x.kind % 4, 0, nameP x.n6, []⟩
theorem c3_lt (x : ASK) : x.c3 < 3 ∧ x.client % 3 = (x.c3 : Int) := by unfold ASK.c3; omega
theorem n6_lt (x : ASK) : x.n6 < 6 ∧ x.name % 6 = (x.n6 : Int) := by unfold ASK.n6; omega
theorem rqL_setEnv {r : RQ} {ev : Value} (h : r.name.length = 32) {v : Value} {l : List UInt8} : (rqL r ev).toArray.setIfInBounds 36 v = (rqL { r with env := l } v).toArray :=
  set_mid (a := .int .i64 r.client :: .int .i64 r.num :: .int .i64 r.kind :: .int .i64 r.version :: nameL r.name) (b := []) (x := ev) (by simp [rqL]) (by simp [nameL_len, h]) v
theorem rqL_setVer {r : RQ} {ev : Value} (n : Int) : (rqL r ev).toArray.setIfInBounds 3 (.int .i64 n) = (rqL { r with version := n } ev).toArray := rfl
theorem numAt_get {ns : List Int} (h : ns.length = 3) {j : Nat} (hj : j < 3) : ns[j]? = some (numAt ns j) := by
  unfold numAt
  rw [List.getElem?_eq_getElem (by omega)]
theorem numsP_len {x : ASK} {ns : List Int} (h : ns.length = 3) : (numsP x ns).length = 3 := by unfold numsP; split <;> simp [h]
theorem numsP_at {x : ASK} {ns : List Int} (h : ns.length = 3) {j : Nat} (hj : j < 3) : numAt (numsP x ns) j = if j = x.c3 ∧ (x.again = false ∨ numAt ns x.c3 = 0) then numAt ns x.c3 + 1 else numAt ns j := by
  unfold numsP
  split
  · rename_i hc
    unfold numAt
    rw [List.getElem?_set]
    by_cases e : x.c3 = j
    · subst e
      rw [if_pos rfl, if_pos (by have := (c3_lt x).1; omega), if_pos ⟨rfl, hc⟩]
    · rw [if_neg e, if_neg (fun h => e h.1.symm)]
  · rename_i hc
    rw [if_neg (fun h => hc h.2)]
/-- what made gives -/
def madePost (w0 : World) (N : List Nat) (p g : Nat) (P : PT) (x : ASK) (ns : List Int) (w : World) (e : Ending) (w' : World) : Prop :=
  ∃ v G, e = .returned (.agg (rqL (madeP P x ns) v).toArray) ∧ rqV w' G (madeP P x ns) v ∧ newIn w w' G ∧ rowAt w' g 26 ((numsP x ns).map (Value.int .i64)).toArray ∧ lawT w0 N w' p P ∧ keepBut [g] w w'
end Go.Proofs.YtmlmhnhilemjhaaDoor
