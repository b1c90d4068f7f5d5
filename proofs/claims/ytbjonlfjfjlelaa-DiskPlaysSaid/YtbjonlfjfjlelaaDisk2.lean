/-
  DISK, 2: what a disk is in memory; the calls that only look.
-/
import Derived.Test.YtbjonlfjfjlelaaDisk1
import Derived.Laws.EntriesVeiled
import Derived.Outline
import Derived.Deep.DeepMust
namespace Go.Proofs.Ytbjonlfjfjlelaa
open Go.RowKit
set_option linter.unusedVariables false

/-- a disk, as the chapter has it -/
structure DS where
  b : List UInt8
  n : Nat
  dead : Bool
  arm : Option Nat
  t : List (List UInt8)

/-- what a sync does now -/
def syncAt (w : World) (v : Value) (x : Nat) : Option Nat → Prop
  | none => v = .func (.func 48) #[] #[]
  | some k => v = .func (.func 81) #[] #[.pointer (some ⟨x, 0, none⟩)] ∧ rowAt w x 3 #[.int .i64 (k : Int)] ∧ k ≤ 9223372036854775807

/-- a piece of the trace: a block filled to the brim -/
def tv (y : Nat × List UInt8) : Value := .slice (some ⟨y.1, 0, none⟩) y.2.length y.2.length

/-- block p is the disk d; all that hangs on it lies in the blocks F -/
def isD (w : World) (p : Nat) (F : List Nat) (d : DS) : Prop :=
  ∃ (vb vs vt : Value) (x : Nat) (T : List (Nat × List UInt8)), rowAt w p 44 #[vb, .int .i64 (d.n : Int), .bool d.dead, vs, vt] ∧ owns w 5 1 vb d.b.length (d.b.map bv) ∧
    d.n ≤ d.b.length ∧ d.b.length ≤ 1048576 ∧ syncAt w vs x d.arm ∧ owns w 28 1 vt T.length (T.map tv) ∧ T.map (·.2) = d.t ∧
    (∀ y ∈ T, rowAt w y.1 5 (y.2.map bv).toArray ∧ y.1 ∈ F ∧ y.1 ∉ homes vb) ∧ p ∈ F ∧ x ∈ F ∧ (∀ y ∈ homes vb, y ∈ F) ∧ (∀ y ∈ homes vt, y ∈ F) ∧ (∀ y ∈ F, y < w.heap.size)

theorem isD.keep {S : List Nat} {w w' : World} {p : Nat} {F : List Nat} {d : DS} (h : isD w p F d) (hk : keepBut S w w') (hS : ∀ y ∈ F, y ∉ S) : isD w' p F d := by
  obtain ⟨vb, vs, vt, x, T, h1, h2, h3, h4, h5, h6, h7, h8, h9, h10, h11, h12, h13⟩ := h
  refine ⟨vb, vs, vt, x, T, hk.row h1 (hS _ h9), h2.keep hk (fun y hy => hS y (h11 y hy)), h3, h4, ?_, h6.keep hk (fun y hy => hS y (h12 y hy)), h7,
    fun y hy => ⟨hk.row (h8 y hy).1 (hS _ (h8 y hy).2.1), (h8 y hy).2⟩, h9, h10, h11, h12, fun y hy => Nat.lt_of_lt_of_le (h13 y hy) hk.size⟩
  cases ha : d.arm with
  | none => rw [ha] at h5; exact h5
  | some k => rw [ha] at h5; exact ⟨h5.1, hk.row h5.2.1 (hS _ h10), h5.2.2⟩
theorem isD.lt {w : World} {p : Nat} {F : List Nat} {d : DS} (h : isD w p F d) : ∀ y ∈ F, y < w.heap.size := by
  obtain ⟨vb, vs, vt, x, T, h1, h2, h3, h4, h5, h6, h7, h8, h9, h10, h11, h12, h13⟩ := h; exact h13
theorem isD.alloc {w : World} {p : Nat} {F : List Nat} {d : DS} (h : isD w p F d) (o : Obj) : isD (w.alloc o) p F d := h.keep ((keepBut.refl [] w).alloc o) (by simp)

theorem syncAt.func {w : World} {v : Value} {x : Nat} {k : Option Nat} (h : syncAt w v x k) : ∃ f cs, v = .func f #[] cs := by
  cases k with
  | none => exact ⟨_, _, h⟩
  | some k => exact ⟨_, _, h.1⟩

theorem run_equalIn_func_nil {P : Program} (w : World) (n : Nat) {t : TypeId} {ps rs : Array TypeId} {v : Bool} (ht : P.underlying t = some (.func ps rs v)) (f : Fn) (cs ds : Array Value) :
    (Op.equalIn (n + 1) t (.func f cs ds) .nilFunc).run P w = .ok false w := by
  simp [Op.equalIn, run_underlying ht]
theorem run_eql_func_nil {P : Program} (w : World) {t : TypeId} {ps rs : Array TypeId} {v : Bool} (ht : P.underlying t = some (.func ps rs v)) (f : Fn) (cs ds : Array Value) :
    (binOp .eql t (.func f cs ds) .nilFunc).run P w = .ok (.bool false) w := by
  simp only [binOp]
  simp [Op.equal, Op.maxDepth, run_equalIn_func_nil w 9999 ht f cs ds]

set_option maxHeartbeats 400000 in
theorem none_any (p : Nat) (F : List Nat) (d : DS) (w : World) (h : isD w p F d) :
    Calls Try.prog 60 #[.pointer (some ⟨p, 0, none⟩)] w fun e w' => e = .returned (.bool false) ∧ w = w' := by
  obtain ⟨vb, vs, vt, x, T, h1, h2, h3, h4, h5, h6⟩ := h
  have hc3 : w.cell? ⟨p, 3, none⟩ = some vs := h1.cell 3
  obtain ⟨f, cs, rfl⟩ := h5.func
  have hq := run_eql_func_nil (P := Try.prog) w Try.underlying42 f #[] cs
  clear h2 h3 h4 h5 h6
  go_enter Try.func60, Try.ntmps60
  go_wp2
  go_ret
  exact ⟨rfl, rfl⟩
end Go.Proofs.Ytbjonlfjfjlelaa
