/-
  SWEEP: a name that came in: its comparison with the name of noughts has one answer, in whatever world.
-/
import Derived.Test.YtoejfgjdmcamaaaSweep7
import Derived.ChangeKeysEq
import Derived.Laws.StructEq
namespace Go.Proofs.Ytoejfgjdmcamaaa
open Go.RowKit
set_option linter.unusedVariables false
set_option maxRecDepth 100000

theorem mapM_all {α β : Type} {f : α → Option β} {g : α → β} : ∀ (l : List α), (∀ i ∈ l, f i = some (g i)) → l.mapM f = some (l.map g)
  | [], _ => rfl
  | a :: r, h => by
    rw [List.mapM_cons, h a (by simp), mapM_all r (fun i hi => h i (by simp [hi]))]
    rfl
def nameOf (l : List Int) : Array Value := (l.map (Value.int .u8)).toArray
theorem nameOf_size (l : List Int) : (nameOf l).size = l.length := by simp [nameOf]
theorem cellsU8n : Try.prog.cellsOf 5 = 1 := by kernel_rfl
theorem name_lits (l : List Int) (hl : l.length = 32) (hb : ∀ b ∈ l, (Lit.int .u8 b).wf = true) :
    (List.range 32).mapM (fun i => Try.prog.keyLits 1 5 (((nameOf l).toList.drop (i * Try.prog.cellsOf 5)).take (Try.prog.cellsOf 5))) = some ((List.range 32).map fun i => [Lit.int .u8 (l.getD i 0)]) := by
  refine mapM_all _ (fun i hi => ?_)
  have hi' : i < l.length := by rw [hl]; exact List.mem_range.1 hi
  rw [cellsU8n, Nat.mul_one]
  have e : ((nameOf l).toList.drop i).take 1 = [.int .u8 (l.getD i 0)] := by
    have hd : (l.map (Value.int .u8)).drop i = Value.int .u8 l[i] :: (l.map (Value.int .u8)).drop (i + 1) := by
      rw [List.drop_eq_getElem_cons (show i < (l.map (Value.int .u8)).length by simpa using hi')]
      simp only [List.getElem_map]
    show (((l.map (Value.int .u8)).toArray.toList.drop i).take 1) = _
    rw [List.toList_toArray, hd, List.getD_eq_getElem?_getD, List.getElem?_eq_getElem hi']
    rfl
  rw [e]
  have hw : (Lit.int .u8 (l.getD i 0)).wf = true := hb _ (by
    rw [List.getD_eq_getElem?_getD, List.getElem?_eq_getElem hi']
    exact List.getElem_mem hi')
  unfold Program.keyLits
  rw [Try.underlying5]
  show (if IntKind.u8 = IntKind.u8 ∧ _ then _ else _) = _
  rw [if_pos ⟨rfl, hw⟩]
theorem zeroName_of : zeroName = nameOf (List.replicate 32 0) := rfl
theorem plainU8 : Try.prog.plainKey 5 = true := by kernel_rfl
theorem infoU8n : (Try.prog.info? 5).map (fun i => (i.zero, i.size, i.bytes)) = some (some (.int .u8 0), 1, 1) := by kernel_rfl
open Classical in
theorem name_neq (l : List Int) (hl : l.length = 32) (hb : ∀ b ∈ l, (Lit.int .u8 b).wf = true) :
    ∃ bk : Bool, ∀ w, (binOp .neq 23 (.agg (nameOf l)) (.agg zeroName)).run Try.prog w = .ok (.bool bk) w := by
  obtain ⟨i0, hi0, _⟩ := info_parts infoU8n
  have h1 := name_lits l hl hb
  have h2 := name_lits (List.replicate 32 0) (by simp) (fun b hb => by simp at hb; subst hb; rfl)
  refine ⟨!(decide (((List.range 32).map fun i => [Lit.int .u8 (l.getD i 0)]).flatten = ((List.range 32).map fun i => [Lit.int .u8 ((List.replicate 32 (0 : Int)).getD i 0)]).flatten)), fun w => ?_⟩
  obtain ⟨r, hr, hiff⟩ := run_eqItems_plain (P := Try.prog) w 9998 plainU8 (nameOf l) (nameOf (List.replicate 32 0)) _ _ _ h1 h2
  rw [run_neq_struct, zeroName_of, run_equalIn_array w 9999 (nameOf l) (nameOf (List.replicate 32 0)) Try.underlying23 hi0, hr]
  simp only [Result.andThen_ok]
  congr 3
  cases r with
  | true => exact (decide_eq_true (hiff.1 rfl)).symm
  | false => exact (decide_eq_false (fun h => by have := hiff.2 h; cases this)).symm
end Go.Proofs.Ytoejfgjdmcamaaa
