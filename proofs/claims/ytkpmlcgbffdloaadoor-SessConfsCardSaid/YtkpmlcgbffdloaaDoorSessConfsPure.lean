/-
  SESSCONFS, the pure part: which configs it learns, and what it sends then.
-/
import Derived.Test.YtkpmlcgbffdloaaDoorSessAgainPure
namespace Go.Proofs.YtkpmlcgbffdloaaDoor
set_option linter.unusedVariables false
set_option maxRecDepth 100000
set_option linter.unusedSimpArgs false

def csS (tk : Nat) (cf : CF) (b : Bool) : SS := ⟨2, 1000, 100000, 2, 1, tk, true, false, b, (getR 7).as 2 1, cf⟩
theorem cs_start : begunS 1000 100000 = csS 0 cfZero false := ag_start 1000 100000
theorem cs_stray (tk : Nat) (cf : CF) (b : Bool) (n : Int) (l : List Int) : (csS tk cf b).takeP (confK 21 n l) = ((anZero, false), csS tk cf b) := by
  unfold SS.takeP
  rw [if_neg (by show ¬ (21 : Int) = 20 + 2; decide)]
theorem cs_learn (tk : Nat) (cf : CF) (b : Bool) (n : Int) (l : List Int) (h : cf.num < n ∨ cf.chain = []) : (csS tk cf b).takeP (confK 22 n l) = ((anZero, false), csS tk ⟨n, 1, l⟩ false) := by
  unfold SS.takeP
  rw [if_pos (by show (22 : Int) = 20 + 2; decide), if_pos (by rfl)]
  unfold SS.learn
  rw [if_pos (by exact h)]
  rfl
theorem cs_old (tk : Nat) (cf : CF) (b : Bool) (n : Int) (l : List Int) (h : ¬ (cf.num < n ∨ cf.chain = [])) : (csS tk cf b).takeP (confK 22 n l) = ((anZero, false), csS tk cf b) := by
  unfold SS.takeP
  rw [if_pos (by show (22 : Int) = 20 + 2; decide), if_pos (by rfl)]
  unfold SS.learn
  rw [if_neg (by exact h)]
def reqTo (h : Int) : PK := ⟨1, 22, h, 0, 0, 0, false, (getR 7).as 2 1, anZero, cfZero, [], []⟩
theorem cs_mod (tk : Nat) (h : tk ≤ 200) : ¬ ((tk : Int) + 1) % 1000 = 0 := by omega
theorem cs_fresh (tk : Nat) (n f h : Int) (r : List Int) (ht : tk ≤ 200) : (csS tk ⟨n, f, h :: r⟩ false).tickP = ([reqTo h], csS (tk + 1) ⟨n, f, h :: r⟩ true) := by
  have hm := cs_mod tk ht
  unfold SS.tickP
  rw [if_neg (by simp [csS]), if_neg (by show ¬ ((100000 : Int) < (tk : Int) + 1); omega)]
  simp [SS.tickL, csS, ifL, cfZero, SS.asksK, SS.ask, PK.from, SS.setTicks, SS.setSent, SS.reqK, SS.reqP, reqTo, hm]
theorem cs_quiet (tk : Nat) (cf : CF) (h : cf.chain ≠ []) (ht : tk ≤ 200) : (csS tk cf true).tickP = ([], csS (tk + 1) cf true) := by
  have hm := cs_mod tk ht
  unfold SS.tickP
  rw [if_neg (by simp [csS]), if_neg (by show ¬ ((100000 : Int) < (tk : Int) + 1); omega)]
  simp [SS.tickL, csS, ifL, SS.setTicks, SS.setSent, hm]
theorem cs_send1 (h : Int) (hh : h ≠ 0) : sendsF false h [reqTo h] 0 0 = true := by
  have : (h == 0) = false := by simp [hh]
  simp [sendsF, reqTo, hh]
theorem cs_send0 : sendsF false 0 [] 0 0 = true := by decide
end Go.Proofs.YtkpmlcgbffdloaaDoor
