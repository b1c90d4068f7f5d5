/-
  COPYB: the builtin copy of bytes into a row, alone and in a region that draws.
-/
import Derived.Test.YthfdkonhjpdflaaGreatDoorLow3
import Derived.Laws.CopyOwn
import Derived.Deep.OwnRows
namespace Go.Proofs.YthfdkonhjpdflaaGreatDoor
open Go.RowKit
set_option linter.unusedVariables false

theorem run_copy {P : Program} (w : World) (dT sT ty e : TypeId) (hu : P.underlying dT = some (.slice e)) (hsz : (P.info? e).map (·.size) = some 1)
    (g off dLen dCap : Nat) (A : Option Addr) (gs c : Nat) (l : List UInt8) (cur : Array Value) (t : TypeId) (hg : rowAt w g t cur) (hsrc : seen w A gs l)
    (hn : l.length ≤ dLen) (hfit : off + l.length ≤ cur.size) :
    ∃ w', (Builtin.copy_ #[dT, sT] ty #[.slice (some ⟨g, off, none⟩) dLen dCap, .slice A l.length c]).run P w = .ok (.int .i64 (l.length : Int)) w' ∧
      rowAt w' g t (splice cur.toList off (l.map bv)).toArray ∧ keepBut [g] w w' := by
  by_cases h0 : l.length = 0
  · obtain rfl : l = [] := List.eq_nil_of_length_eq_zero h0
    have hr := run_copy_none (P := P) w dT sT ty e (some ⟨g, off, none⟩) A dLen dCap 0 c hu hsz (by simp)
    exact ⟨w, hr, by simpa [splice] using hg, keepBut.refl _ _⟩
  · obtain ⟨o, rfl, hlt, hc⟩ := hsrc (by rintro rfl; simp at h0)
    have hr := run_copy_row (P := P) w dT sT ty e g off dLen dCap ⟨gs, o, none⟩ l.length c cur t (l.map bv) hu hsz hg (by rw [List.length_map]; exact (Nat.min_eq_left hn).symm)
      (fun j v hj => by
        obtain ⟨b, hb, rfl⟩ : ∃ b, l[j]? = some b ∧ bv b = v := by simpa using hj
        rw [add_plain]; exact hc j b hb)
      (by simpa using hfit) (by intro u hu; simp at hu; obtain ⟨b, _, rfl⟩ := hu; rfl)
    rw [goInt, List.length_map] at hr
    refine ⟨_, hr, ?_, ⟨rfl, rfl, rfl, by simp [World.setRow], fun k hk hS => setRow_other w g k _ (fun e => hS (by simp [e])), fun k hs => ?_⟩⟩
    rotate_left
    · by_cases e : k = g
      · subst e
        intro i
        unfold World.frozen?
        dsimp only
        rw [setRow_heap w k cur _ t _ hg]
        simp
      · exact hs.of (setRow_other w g k _ e)
    have := setRow_heap w g cur (cur.toList.take off ++ l.map bv ++ cur.toList.drop (off + l.length)).toArray t _ hg
    unfold rowAt
    rw [this]
    simp [splice]
theorem step_copy {P : Program} {ops : Array Oper} {o : Oper} {a : Act} {w : World} {K : Act → World → Prop} {Q : Exit → Act → World → Prop} {E : Prop} (hgd : o.guard = none) (d s : Operand) (dT sT : TypeId)
    (ho : o.op = .call { callee := .builtin .copy, args := #[d, s], argTypes := #[dT, sT] }) (e : TypeId) (hu : P.underlying dT = some (.slice e)) (hsz : (P.info? e).map (·.size) = some 1)
    (g off dLen dCap : Nat) (A : Option Addr) (gs c : Nat) (l : List UInt8) (hd : a.eval d = .slice (some ⟨g, off, none⟩) dLen dCap) (hs : a.eval s = .slice A l.length c)
    (cur : Array Value) (t : TypeId) (hg : rowAt w g t cur) (hsrc : seen w A gs l) (hn : l.length ≤ dLen) (hfit : off + l.length ≤ cur.size)
    (h : ∀ w', rowAt w' g t (splice cur.toList off (l.map bv)).toArray → keepBut [g] w w' → K (a.put o.dst (.int .i64 (l.length : Int))) w') :
    if Region.wanted o (yielded ops a.tmps) = true then Oper.wp P o a w K Q else E := by
  have hw : Region.wanted o (yielded ops a.tmps) = true := by simp [Region.wanted, hgd]
  rw [if_pos hw]
  obtain ⟨w', hrun, h1, h2⟩ := run_copy (P := P) w dT sT o.type e hu hsz g off dLen dCap A gs c l cur t hg hsrc hn hfit
  unfold Oper.wp
  simp [execOp, ho, resolve, invoke, builtin, hd, hs, hrun, Result.andThen]
  exact h w' h1 h2
end Go.Proofs.YthfdkonhjpdflaaGreatDoor
