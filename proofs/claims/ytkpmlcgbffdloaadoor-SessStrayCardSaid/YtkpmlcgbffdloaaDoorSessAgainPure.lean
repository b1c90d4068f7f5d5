/-
  SESSAGAIN, the pure part: what is sent, tick by tick.
-/
import Derived.Test.YtkpmlcgbffdloaaDoorSess22
namespace Go.Proofs.YtkpmlcgbffdloaaDoor
set_option linter.unusedVariables false
set_option maxRecDepth 100000
set_option linter.unusedSimpArgs false

/-- the session behind k ticks; on: it has learned of the config, and sent the request -/
def agS (l m : Int) (k : Nat) (on : Bool) : SS :=
  ⟨2, l, m, 2, 1, k, true, false, on, (getR 7).as 2 1, if on then ⟨1, 1, [12]⟩ else cfZero⟩
/-- just when it has learned of it -/
def agM (l m : Int) (k : Nat) : SS := ⟨2, l, m, 2, 1, k, true, false, false, (getR 7).as 2 1, ⟨1, 1, [12]⟩⟩
/-- given up -/
def agE (l m : Int) (k : Nat) (on : Bool) : SS :=
  ⟨2, l, m, 2, 1, k, false, true, on, (getR 7).as 2 1, if on then ⟨1, 1, [12]⟩ else cfZero⟩
theorem ag_start (l m : Int) : begunS l m = agS l m 0 false := by
  simp only [begunS, SS.start, SS.took, SS.setReq, SS.setWaits, SS.setLate, SS.setSent, SS.setTicks, SS.setLast, SS.setNext, agS]
  rfl
theorem ag_take (l m : Int) (k : Nat) : (agS l m k false).takeP (confK 22 1 [12]) = ((anZero, false), agM l m k) := by
  unfold SS.takeP
  rw [if_pos (by show (22 : Int) = 20 + 2; decide), if_pos (by rfl)]
  unfold SS.learn
  rw [if_pos (by left; show (0 : Int) < 1; decide)]
  rfl
def agReq : PK := ⟨1, 22, 12, 0, 0, 0, false, (getR 7).as 2 1, anZero, cfZero, [], []⟩
def agAsks : List PK := [⟨9, 22, 0, 0, 0, 0, false, rqZero, anZero, cfZero, [], []⟩, ⟨9, 22, 1, 0, 0, 0, false, rqZero, anZero, cfZero, [], []⟩, ⟨9, 22, 2, 0, 0, 0, false, rqZero, anZero, cfZero, [], []⟩]
/-- is it a tick on which is asked again? -/
def agA (l : Int) (k : Nat) : Bool := decide (((k : Int) + 1) % l = 0)
theorem ag_tick0 (l m : Int) (k : Nat) (h : (k : Int) + 1 ≤ m) : (agS l m k false).tickP = (agAsks, agS l m (k + 1) false) := by
  unfold SS.tickP
  rw [if_neg (by simp [agS]), if_neg (by show ¬ (m < (k : Int) + 1); omega)]
  simp [SS.tickL, agS, ifL, cfZero, SS.asksK, SS.ask, PK.from, agAsks, SS.setTicks, SS.setSent]
theorem ag_tickM (l m : Int) (k : Nat) (h : (k : Int) + 1 ≤ m) : (agM l m k).tickP = (agReq :: ifL (agA l k) agAsks, agS l m (k + 1) true) := by
  unfold SS.tickP
  rw [if_neg (by simp [agM]), if_neg (by show ¬ (m < (k : Int) + 1); omega)]
  simp [SS.tickL, agM, agS, ifL, cfZero, SS.asksK, SS.ask, PK.from, agAsks, SS.setTicks, SS.setSent, agA, SS.reqK, SS.reqP, agReq]
  by_cases hh : ((k : Int) + 1) % l = 0 <;> simp [hh]
theorem ag_tick1 (l m : Int) (k : Nat) (h : (k : Int) + 1 ≤ m) : (agS l m k true).tickP = (ifL (agA l k) (agAsks ++ [agReq]), agS l m (k + 1) true) := by
  unfold SS.tickP
  rw [if_neg (by simp [agS]), if_neg (by show ¬ (m < (k : Int) + 1); omega)]
  simp [SS.tickL, agM, agS, ifL, cfZero, SS.asksK, SS.ask, PK.from, agAsks, SS.setTicks, SS.setSent, agA, SS.reqK, SS.reqP, agReq]
  by_cases hh : ((k : Int) + 1) % l = 0 <;> simp [hh]
theorem ag_late (l m : Int) (k : Nat) (on : Bool) (h : m < (k : Int) + 1) : (agS l m k on).tickP = ([], agE l m (k + 1) on) := by
  unfold SS.tickP
  rw [if_neg (by simp [agS]), if_pos (by show m < (k : Int) + 1; exact h)]
  simp [agS, agE, SS.setTicks, SS.setWaits, SS.setLate]
theorem ag_send0 : sendsF true 0 agAsks 0 0 = true := by decide
theorem ag_sendM (b : Bool) : sendsF b 12 (agReq :: ifL b agAsks) 0 0 = true := by cases b <;> decide
theorem ag_send1 (b : Bool) : sendsF b (if b then 12 else 0) (ifL b (agAsks ++ [agReq])) 0 0 = true := by cases b <;> decide
theorem ag_ask (l m : Int) (k : Nat) (on : Bool) : ∃ s', (agE l m k on).askP (getR 1) = ((2, 0), s') ∧ s'.late = false := by
  refine ⟨(agE l m k on).took (getR 1), ?_, rfl⟩
  unfold SS.askP
  rw [if_neg (by simp [agE]), if_neg (by show ¬ (9007199254740991 : Int) < 2; decide), if_pos (by show RQ.tok ((getR 1).as 2 2) = true; rfl)]
  rfl
end Go.Proofs.YtkpmlcgbffdloaaDoor
