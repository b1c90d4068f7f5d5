/-
  SWEEP, 7: the chapter's sweeps, as the statements ask for them.
-/
import Derived.Test.YtoejfgjdmcamaaaSweep6
namespace Go.Proofs.Ytoejfgjdmcamaaa
open Go.RowKit
set_option linter.unusedVariables false
set_option maxRecDepth 100000

/-- a sweep that was made since w0, when nothing that was there in w0 has changed -/
def sOn (w0 w : World) (p : Nat) (s : SS) : Prop := isS w p s ∧ w0.heap.size ≤ p ∧ keepBut [] w0 w
theorem sOn.step {w0 w w' : World} {p : Nat} {s s' : SS} {v : Value} {e : Ending} (h : sOn w0 w p s) (hp : sPost p s' v w e w') : e = .returned v ∧ sOn w0 w' p s' :=
  ⟨hp.1, hp.2.1, h.2.1, h.2.2.then hp.2.2 (by simpa using h.2.1)⟩
theorem sOn.start {w0 w w' : World} {s : SS} {e : Ending} (hk : keepBut [] w0 w) (h : newSPost s w e w') : ∃ p, e = .returned (.tuple #[.pointer (some ⟨p, 0, none⟩), .int .i64 0]) ∧ sOn w0 w' p s := by
  obtain ⟨p, he, a, b, c⟩ := h
  exact ⟨p, he, a, by have := hk.size; omega, hk.then b (by simp)⟩
theorem sOn.over {w0 w w' : World} {p : Nat} {s : SS} (h : sOn w0 w p s) (hk : keepBut [] w w') : sOn w0 w' p s := ⟨h.1.keep hk (by simp), h.2.1, h.2.2.then hk (by simp)⟩
def yesPost (w : World) (e : Ending) (w' : World) : Prop := e = .returned (.bool true) ∧ keepBut [] w w'

def name1 : Array Value := zeroName.setIfInBounds 0 (.int .u8 1)
theorem neq_zero (w : World) : (binOp .neq 23 (.agg zeroName) (.agg zeroName)).run Try.prog w = .ok (.bool false) w := by kernel_rfl
theorem neq_one (w : World) : (binOp .neq 23 (.agg name1) (.agg zeroName)).run Try.prog w = .ok (.bool true) w := by kernel_rfl
theorem build_one (w : World) : (Instr.build 23 #[(0, .int .u8 1)]).run Try.prog w = .ok (.agg name1) w := by kernel_rfl
theorem wpList_build_one {P : Program} (w : World) {ops : Array Oper} {rest : List Oper} {o : Oper} {a : Act} {Q : Exit → Act → World → Prop} (hgd : o.guard = none) (t : TypeId) (k : Nat) (x : Value) (ho : o.op = .build t #[(k, .const x)])
    (v : Value) (hr : (Instr.build t #[(k, x)]).run P w = .ok v w) (h : wpList P ops Q rest (a.put o.dst v) w) : wpList P ops Q (o :: rest) a w := by
  refine wpList_plain hgd fun K hK => ?_
  have hK' := hK _ _ h
  have hx : a.eval (.const x) = x := rfl
  unfold Oper.wp execOp
  simp only [ho, List.map_toArray, List.map_cons, List.map_nil, Sem.run_bind, hx, hr, Result.andThen_ok, Sem.run_pure]
  exact hK'

set_option maxHeartbeats 4000000 in
theorem works_any (w : World) : Calls Try.prog 13 #[] w (yesPost w) := by
  go_enter Try.func13, Try.ntmps13
  go_wp2_with (with_reducible refine wpList_build_v _ rfl 23 rfl _ (build_name _) ?_)
  refine (newS_any true false 1 zeroName _ (by omega) (by omega) rfl neq_zero).mono ?_; intro e w1 hq; obtain ⟨p, rfl, h1⟩ := sOn.start (keepBut.refl [] w) hq; clear hq
  rw [show SS.new true false 1 = ⟨1, false, 1, false, 0, 0, 0, 0⟩ from rfl] at h1
  go_wp2_with fail
  refine (phase_any _ _ _ h1.1 (by simp)).mono ?_; rintro e w2 ⟨rfl, rfl⟩
  go_wp2_with fail
  refine (lawnext_any p _ ⟨1, false, 1, true, 0, 0, 0, 0⟩ 5 0 _ h1.1 ⟨by simp, by simp, by simp, by simp, by simp, by simp, by simp, by simp, by simp, by simp, by simp⟩ (by simp [SS.next, SS.ended, SS.deed])).mono ?_; intro e w2 hq; obtain ⟨rfl, h2⟩ := h1.step hq; clear hq h1
  go_wp2_with fail
  refine (lawnext_any p _ ⟨1, false, 1, true, 0, 0, 0, 0⟩ 0 170 _ h2.1 ⟨by simp, by simp, by simp, by simp, by simp, by simp, by simp, by simp, by simp, by simp, by simp⟩ (by simp [SS.next])).mono ?_; intro e w3 hq; obtain ⟨rfl, h3⟩ := h2.step hq; clear hq h2
  go_wp2_with fail
  refine (took_any p _ 0 none 0 0 false 0 0 0 _ h3.1 ⟨by simp, by simp, by simp, by simp, by simp, by simp, by simp, by simp, by simp, by simp, by simp⟩ rfl).mono ?_; intro e w4 hq; obtain ⟨rfl, h4⟩ := h3.step hq; clear hq h3
  rw [show SS.res ⟨1, false, 1, true, 0, 0, 0, 0⟩ 0 ((0 : Int) != 0) = ⟨3, false, 1, false, 0, 0, 0, 0⟩ from rfl] at h4
  go_wp2_with fail
  refine (phase_any _ _ _ h4.1 (by simp)).mono ?_; rintro e w5 ⟨rfl, rfl⟩
  go_wp2_with fail
  refine (lawtook_any p _ 0 none 0 0 false 0 5 6 6 _ h4.1 ⟨by simp, by simp, by simp, by simp, by simp, by simp, by simp, by simp, by simp, by simp, by simp⟩ rfl (by simp) rfl
    (by rw [show SS.after ⟨3, false, 1, false, 0, 0, 0, 0⟩ 0 ((5 : Int) != 6) = ⟨3, false, 1, false, 1, 1, 0, 0⟩ from rfl]; exact ⟨by simp, by simp, by simp, by simp, by simp, by simp, by simp, by simp, by simp, by simp, by simp⟩)).mono ?_; intro e w5 hq; obtain ⟨rfl, h5⟩ := h4.step hq; clear hq h4
  rw [show SS.after ⟨3, false, 1, false, 0, 0, 0, 0⟩ 0 ((5 : Int) != 6) = ⟨3, false, 1, false, 1, 1, 0, 0⟩ from rfl] at h5
  go_wp2_with fail
  refine (lawtook_any p _ 212 none 0 0 false 0 0 0 6 _ h5.1 ⟨by simp, by simp, by simp, by simp, by simp, by simp, by simp, by simp, by simp, by simp, by simp⟩ rfl (by simp) rfl
    (by rw [show SS.after ⟨3, false, 1, false, 1, 1, 0, 0⟩ 212 ((0 : Int) != 0) = ⟨3, false, 1, false, 1, 1, 1, 0⟩ from rfl]; exact ⟨by simp, by simp, by simp, by simp, by simp, by simp, by simp, by simp, by simp, by simp, by simp⟩)).mono ?_; intro e w6 hq; obtain ⟨rfl, h6⟩ := h5.step hq; clear hq h5
  rw [show SS.after ⟨3, false, 1, false, 1, 1, 0, 0⟩ 212 ((0 : Int) != 0) = ⟨3, false, 1, false, 1, 1, 1, 0⟩ from rfl] at h6
  go_wp2_with fail
  refine (lawtook_any p _ 210 none 0 0 false 0 0 0 6 _ h6.1 ⟨by simp, by simp, by simp, by simp, by simp, by simp, by simp, by simp, by simp, by simp, by simp⟩ rfl (by simp) rfl
    (by rw [show SS.after ⟨3, false, 1, false, 1, 1, 1, 0⟩ 210 ((0 : Int) != 0) = ⟨4, false, 1, false, 1, 1, 0, 0⟩ from rfl]; exact ⟨by simp, by simp, by simp, by simp, by simp, by simp, by simp, by simp, by simp, by simp, by simp⟩)).mono ?_; intro e w7 hq; obtain ⟨rfl, h7⟩ := h6.step hq; clear hq h6
  rw [show SS.after ⟨3, false, 1, false, 1, 1, 1, 0⟩ 210 ((0 : Int) != 0) = ⟨4, false, 1, false, 1, 1, 0, 0⟩ from rfl] at h7
  go_wp2_with fail
  refine (phase_any _ _ _ h7.1 (by simp)).mono ?_; rintro e w8 ⟨rfl, rfl⟩
  go_wp2_with fail
  refine (seenS_any _ _ _ h7.1 (by simp)).mono ?_; rintro e w8 ⟨rfl, rfl⟩
  go_wp2_with fail
  refine (sealedS_any _ _ _ h7.1 (by simp)).mono ?_; rintro e w8 ⟨rfl, rfl⟩
  have hk7 := Lib.hid h7.2.2
  clear h7
  go_wp2_with (with_reducible refine wpList_build_one _ rfl 23 0 (.int .u8 1) rfl _ (build_one _) ?_)
  refine (newS_any false true 0 name1 _ (by omega) (by omega) rfl neq_one).mono ?_; intro e w8 hq; obtain ⟨q, rfl, g1⟩ := sOn.start hk7.out hq; clear hq hk7
  rw [show SS.new false true 0 = ⟨2, true, 0, false, 0, 0, 0, 0⟩ from rfl] at g1
  go_wp2_with fail
  refine (phase_any _ _ _ g1.1 (by simp)).mono ?_; rintro e w9 ⟨rfl, rfl⟩
  go_wp2_with fail
  refine (lawtook_any q _ 212 none 0 0 false 0 0 0 6 _ g1.1 ⟨by simp, by simp, by simp, by simp, by simp, by simp, by simp, by simp, by simp, by simp, by simp⟩ rfl (by simp) rfl
    (by rw [show SS.after ⟨2, true, 0, false, 0, 0, 0, 0⟩ 212 ((0 : Int) != 0) = ⟨5, true, 0, false, 0, 0, 1, 212⟩ from rfl]; exact ⟨by simp, by simp, by simp, by simp, by simp, by simp, by simp, by simp, by simp, by simp, by simp⟩)).mono ?_; intro e w9 hq; obtain ⟨rfl, g2⟩ := g1.step hq; clear hq g1
  rw [show SS.after ⟨2, true, 0, false, 0, 0, 0, 0⟩ 212 ((0 : Int) != 0) = ⟨5, true, 0, false, 0, 0, 1, 212⟩ from rfl] at g2
  go_wp2_with fail
  refine (phase_any _ _ _ g2.1 (by simp)).mono ?_; rintro e w10 ⟨rfl, rfl⟩
  go_wp2_with fail
  refine (why_any _ _ _ g2.1 (by simp)).mono ?_; rintro e w10 ⟨rfl, rfl⟩
  have hk9 := Lib.hid g2.2.2
  clear g2
  go_wp2_with fail
  go_ret
  exact ⟨rfl, hk9.out⟩
end Go.Proofs.Ytoejfgjdmcamaaa
