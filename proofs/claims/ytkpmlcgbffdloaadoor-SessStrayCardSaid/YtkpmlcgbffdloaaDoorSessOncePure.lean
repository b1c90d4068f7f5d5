/-
  SESSONCE, the pure part.
-/
import Derived.Test.YtkpmlcgbffdloaaDoorSessAgainPure
namespace Go.Proofs.YtkpmlcgbffdloaaDoor
set_option linter.unusedVariables false
set_option maxRecDepth 100000
set_option linter.unusedSimpArgs false

def onS (k : Nat) (r : RQ) : SS := ⟨2, 5, 1000, (k : Int) + 1, (k : Int), 0, true, false, false, r, cfZero⟩
def onT (k : Nat) (r : RQ) : SS := ⟨2, 5, 1000, (k : Int) + 1, (k : Int), 0, false, false, false, r, cfZero⟩
theorem on_start : begunS 5 1000 = onS 1 ((getR 7).as 2 1) := ag_start 5 1000
def anK (c n cd v : Int) : AN := ⟨c, n, cd, v, 0, List.replicate 32 0, []⟩
def anP (f c n cd v : Int) : PK := ⟨2, f, 22, 0, 0, 0, false, rqZero, anK c n cd v, cfZero, [], []⟩
theorem on_take (k : Nat) (r : RQ) (f c n cd v : Int) (h : c = 2 ∧ n = (k : Int)) : (onS k r).takeP (anP f c n cd v) = ((anK c n cd v, true), onT k r) := by
  obtain ⟨rfl, rfl⟩ := h
  unfold SS.takeP
  rw [if_pos (by show (22 : Int) = 20 + 2; decide), if_neg (by show ¬ (2 : Int) = 7; decide), if_pos (by rfl)]
  unfold SS.ansP
  rw [if_pos (by simp [SS.fits, onS, anP, anK])]
  rfl
theorem on_pass (k : Nat) (r : RQ) (f c n cd v : Int) (h : ¬ (c = 2 ∧ n = (k : Int))) : (onS k r).takeP (anP f c n cd v) = ((anZero, false), onS k r) := by
  unfold SS.takeP
  rw [if_pos (by show (22 : Int) = 20 + 2; decide), if_neg (by show ¬ (2 : Int) = 7; decide), if_pos (by rfl)]
  unfold SS.ansP
  rw [if_neg (by
    have e : (onS k r).fits (anP f c n cd v).ans = (decide (c = 2) && decide (n = (k : Int))) := rfl
    rw [e, Bool.and_eq_true, decide_eq_true_eq, decide_eq_true_eq]; exact h)]
theorem on_again (k : Nat) (r : RQ) (f c n cd v : Int) : (onT k r).takeP (anP f c n cd v) = ((anZero, false), onT k r) := by
  unfold SS.takeP
  rw [if_pos (by show (22 : Int) = 20 + 2; decide), if_neg (by show ¬ (2 : Int) = 7; decide), if_pos (by rfl)]
  unfold SS.ansP
  rw [if_neg (by simp [SS.fits, onT])]
theorem on_ask (k : Nat) (r : RQ) (hk : k ≤ 1000) : (onT k r).askP (getR 9) = (((k : Int) + 1, 0), onS (k + 1) ((getR 9).as 2 ((k : Int) + 1))) := by
  unfold SS.askP
  have ht : ((getR 9).as 2 ((k : Int) + 1)).tok = true := by
    unfold RQ.tok
    have : inP ((k : Int) + 1) 1 9007199254740991 = true := inP_yes ⟨by omega, by omega⟩
    simp only [RQ.as, getR, this, Bool.true_and]
    rfl
  rw [if_neg (by simp [onT]), if_neg (by show ¬ (9007199254740991 : Int) < (k : Int) + 1; omega), if_pos (by exact ht)]
  simp [onT, onS, SS.took, SS.setReq, SS.setWaits, SS.setLate, SS.setSent, SS.setTicks, SS.setLast, SS.setNext]
end Go.Proofs.YtkpmlcgbffdloaaDoor
