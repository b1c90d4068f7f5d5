/-
  LONE: a call that goes over a communication, in one goroutine: pieces without one by 'wp', a call by its contract, the communication by a law of LoneSelect.
-/
import Derived.Conc.LoneSelect
import Derived.Test.YtcnlnkkdcofphaaDoorLow1
namespace Go.Proofs.YtcnlnkkdcofphaaDoor
open Go.Conc Go.RowKit
set_option linter.unusedVariables false

section
variable {P : Program} {QQ : Goroutine → World → Prop} {b : Frame} {a : Act} {k : List Item} {cs : List Frame} {w : World}
theorem LoneTo.one {fr fr' : Frame} {w' : World} (h : Go.step P (lone fr cs w) = .next (lone fr' cs w')) (h' : LoneTo P QQ (G fr' cs) w') : LoneTo P QQ (G fr cs) w :=
  LoneTo.step h h'
theorem LoneTo.piece {c : Code} {Q : Exit → Act → World → Prop} (h : c.wp P Q a w) (hk : ∀ e a' w', Q e a' w' → e = .normal ∧ LoneTo P QQ (G (b.at a' k) cs) w') : LoneTo P QQ (G (b.at a (.code c :: k)) cs) w := by
  obtain ⟨e, a', w', hq, har⟩ := h b k cs
  obtain ⟨rfl, g', w2, hs, hq2⟩ := hk _ _ _ hq
  exact ⟨g', w2, Steps.trans har hs, hq2⟩
theorem LoneTo.seq {x y : Code} (h : LoneTo P QQ (G (b.at a (.code x :: .code y :: k)) cs) w) : LoneTo P QQ (G (b.at a (.code (.seq x y) :: k)) cs) w := LoneTo.one step_seq h
theorem LoneTo.block {id : Nat} {x : Code} (h : LoneTo P QQ (G (b.at a (.code x :: .inBlock id :: k)) cs) w) : LoneTo P QQ (G (b.at a (.code (.block id x) :: k)) cs) w := LoneTo.one step_block h
theorem LoneTo.inBlock {id : Nat} (h : LoneTo P QQ (G (b.at a k) cs) w) : LoneTo P QQ (G (b.at a (.inBlock id :: k)) cs) w := LoneTo.one step_inBlock h
theorem LoneTo.skip (h : LoneTo P QQ (G (b.at a k) cs) w) : LoneTo P QQ (G (b.at a (.code .skip :: k)) cs) w := LoneTo.one step_skip h
theorem LoneTo.cond {c : Operand} {x y : Code} {t : Bool} (hc : a.eval c = .bool t) (h : LoneTo P QQ (G (b.at a (.code (if t then x else y) :: k)) cs) w) : LoneTo P QQ (G (b.at a (.code (.cond c x y) :: k)) cs) w := LoneTo.one (step_cond hc) h
theorem LoneTo.loop {x : Code} (h : LoneTo P QQ (G (b.at a (.code x :: .inLoop x :: k)) cs) w) : LoneTo P QQ (G (b.at a (.code (.loop x) :: k)) cs) w := LoneTo.one step_loop h
theorem LoneTo.inLoop {x : Code} (h : LoneTo P QQ (G (b.at a (.code x :: .inLoop x :: k)) cs) w) : LoneTo P QQ (G (b.at a (.inLoop x :: k)) cs) w := LoneTo.one step_inLoop h
theorem LoneTo.exit {id : Nat} {k' : List Item} (he : exitTo id k = some k') (h : LoneTo P QQ (G (b.at a k') cs) w) : LoneTo P QQ (G (b.at a (.code (.exit id) :: k)) cs) w := LoneTo.one (step_exit he) h
theorem LoneTo.region {id : Nat} {ops : Array Oper} (h : LoneTo P QQ (G (b.at a (.inRegion ops (List.range ops.size) :: k)) cs) w) : LoneTo P QQ (G (b.at a (.code (.region id ops false) :: k)) cs) w := LoneTo.one step_region h
theorem LoneTo.rend {ops : Array Oper} (h : LoneTo P QQ (G (b.at a k) cs) w) : LoneTo P QQ (G (b.at a (.inRegion ops [] :: k)) cs) w :=
  LoneTo.one (fr := b.at a (.inRegion ops [] :: k)) (fr' := b.at a k) (step_lone_go (by simp [stepG, stepG.exec, Frame.at])) h
theorem LoneTo.ret (h : LoneTo P QQ (G { b.at a (.code .ret :: k) with mode := .returning } cs) w) : LoneTo P QQ (G (b.at a (.code .ret :: k)) cs) w := LoneTo.one step_ret h
theorem LoneTo.fin (h : LoneTo P QQ (G { b.at a [] with mode := .returning } cs) w) : LoneTo P QQ (G (b.at a []) cs) w := LoneTo.one step_end h
theorem LoneTo.oskip {ops : Array Oper} {i : Nat} {rest : List Nat} {o : Oper} (ho : ops[i]? = some o) (hw : Region.wanted o (yielded ops a.tmps) = false) (h : LoneTo P QQ (G (b.at (a.put o.dst undef) (.inRegion ops rest :: k)) cs) w) : LoneTo P QQ (G (b.at a (.inRegion ops (i :: rest) :: k)) cs) w := by
  have hs := step_op_skip (P := P) (b := b) (a := a) (k := k) (cs := cs) (w := w) (ops := ops) (i := i) (rest := rest) (by simp [ho, hw])
  simp only [ho, Option.bind_some] at hs
  exact LoneTo.one hs h
/-- an operation that yields a value -/
theorem LoneTo.value {ops : Array Oper} {i : Nat} {rest : List Nat} {o : Oper} {v : Value} {w' : World} (ho : ops[i]? = some o) (hw : Region.wanted o (yielded ops a.tmps) = true) (hr : (execOp a.eval o).run P w = .ok (.value v) w') (h : LoneTo P QQ (G (b.at (a.put o.dst v) (.inRegion ops rest :: k)) cs) w') : LoneTo P QQ (G (b.at a (.inRegion ops (i :: rest) :: k)) cs) w := by
  have hg := stepG_op (P := P) (b := b) (a := a) (k := k) (cs := cs) (w := w) (rest := rest) ho hw
  have hf : (b.at a (.inRegion ops (i :: rest) :: k)).finish v = b.at (a.put o.dst v) (.inRegion ops rest :: k) := by rw [Frame.finish_at, ho]; rfl
  exact LoneTo.one (step_lone_go (by rw [hg, ← hf]; simp [stepG.apply, hr])) h
/-- a call, by its contract -/
theorem LoneTo.call {ops : Array Oper} {i : Nat} {rest : List Nat} {o : Oper} {f : FuncId} {args : Array Value} {w' : World} {R : Ending → World → Prop} (ho : ops[i]? = some o) (hw : Region.wanted o (yielded ops a.tmps) = true) (hr : (execOp a.eval o).run P w = .ok (.enter f args) w') (hc : Calls P f args w' R)
    (h : ∀ e w2, R e w2 → ∃ v, e = .returned v ∧ LoneTo P QQ (G (b.at (a.put o.dst v) (.inRegion ops rest :: k)) cs) w2) : LoneTo P QQ (G (b.at a (.inRegion ops (i :: rest) :: k)) cs) w := by
  have hg := stepG_op (P := P) (b := b) (a := a) (k := k) (cs := cs) (w := w) (rest := rest) ho hw
  obtain ⟨e, w2, fr, hR, hsteps, _, hleave⟩ := hc (b.at a (.inRegion ops (i :: rest) :: k) :: cs)
  obtain ⟨v, rfl, g3, w3, hs3, hq3⟩ := h e w2 hR
  have hf : (b.at a (.inRegion ops (i :: rest) :: k)).finish v = b.at (a.put o.dst v) (.inRegion ops rest :: k) := by rw [Frame.finish_at, ho]; rfl
  have henter : Go.step P (lone (b.at a (.inRegion ops (i :: rest) :: k)) cs w) = .next (lone (Frame.enter P f args .normal) (b.at a (.inRegion ops (i :: rest) :: k) :: cs) w') := step_lone_go (by rw [hg]; simp [stepG.apply, hr, Frame.at])
  have hl := step_leave_returned (cs := cs) (c := b.at a (.inRegion ops (i :: rest) :: k)) hleave
  rw [hf] at hl
  exact ⟨g3, w3, Steps.head henter (Steps.trans hsteps (Steps.head hl hs3)), hq3⟩
/-- the machine's own step at a communication -/
theorem LoneTo.comm {ops : Array Oper} {i : Nat} {rest : List Nat} {o : Oper} {v : Value} {w' : World} (ho : ops[i]? = some o) (hs : Go.step P (solo (G (b.at a (.inRegion ops (i :: rest) :: k)) cs) w) = .next (solo (G ((b.at a (.inRegion ops (i :: rest) :: k)).finish v) cs) w')) (h : LoneTo P QQ (G (b.at (a.put o.dst v) (.inRegion ops rest :: k)) cs) w') : LoneTo P QQ (G (b.at a (.inRegion ops (i :: rest) :: k)) cs) w := by
  have hf : (b.at a (.inRegion ops (i :: rest) :: k)).finish v = b.at (a.put o.dst v) (.inRegion ops rest :: k) := by rw [Frame.finish_at, ho]; rfl
  rw [hf] at hs
  exact LoneTo.step hs h
end
/-- a channel with room for cap things, that holds buf, is open, and no timer's -/
def chanAt (w : World) (q cap : Nat) (buf : List Value) : Prop := ∃ s r, w.heap[q]? = some (.chan cap buf.toArray false s r false)
theorem chanAt.lt {w : World} {q cap : Nat} {buf : List Value} (h : chanAt w q cap buf) : q < w.heap.size := by
  obtain ⟨s, r, h⟩ := h
  exact (Array.getElem?_eq_some_iff.1 h).1
theorem chanAt.keep {S : List Nat} {w w' : World} {q cap : Nat} {buf : List Value} (h : chanAt w q cap buf) (hk : keepBut S w w') (hq : q ∉ S) : chanAt w' q cap buf := by
  obtain ⟨s, r, h1⟩ := h
  exact ⟨s, r, (hk.block q (chanAt.lt ⟨s, r, h1⟩) hq).trans h1⟩
theorem chanAt.new (w : World) (cap : Nat) : chanAt (w.alloc (.chan cap #[] false 0 0 false)) w.heap.size cap [] := ⟨0, 0, heap_alloc_new w _⟩
theorem chanAt.row {w : World} {q cap g : Nat} {buf : List Value} {t : TypeId} {cs : Array Value} (h : chanAt w q cap buf) (hr : rowAt w g t cs) : g ≠ q := by
  rintro rfl
  obtain ⟨s, r, h1⟩ := h
  unfold rowAt at hr
  rw [h1] at hr
  cases hr
theorem keepBut.chan {S : List Nat} {a w : World} {q : Nat} (h : keepBut S a w) (hq : q ∈ S ∨ a.heap.size ≤ q) (cap : Nat) (buf : Array Value) (cl : Bool) (s r : Nat) (tm : Bool) : keepBut S a (w.setChan q cap buf cl s r tm) :=
  ⟨h.os, h.tape, h.output, by rw [size_setChan]; exact h.size, fun k hk hS => by
    simp only [World.setChan]
    rw [Array.getElem?_setIfInBounds_ne (by rintro rfl; rcases hq with hq | hq; exact hS hq; omega)]
    exact h.block k hk hS, fun k hs => by
    have h1 := h.soft k hs
    by_cases hkq : q = k
    · subst hkq
      intro i
      unfold World.frozen?
      simp only [World.setChan]
      by_cases hlt : q < w.heap.size
      · rw [Array.getElem?_setIfInBounds_self_of_lt hlt]
      · rw [Array.getElem?_eq_none (by simp; omega)]
    · refine h1.of ?_
      simp only [World.setChan]
      rw [Array.getElem?_setIfInBounds_ne hkq]⟩
end Go.Proofs.YtcnlnkkdcofphaaDoor
