/-
  BEGINS: how a sweep begins, as it came in: a struct with an array in it.
-/
import Derived.Test.YtoejfgjdmcamaaaOpen
import Derived.Deep.Slices
import Derived.ChangeSame
namespace Go.Proofs.Ytoejfgjdmcamaaa
open Go.ChangeShapes Go.WideShapes Go.ChangeAt Go.RowKit
set_option linter.unusedVariables false

def beginOf (rot : Bool) (l : List Int) (pat : Int) : Array Value := (Value.bool rot :: (l.map (Value.int .u8) ++ [Value.int .i64 pat])).toArray
theorem bgShape : (match Try.prog.underlying 25 with | some (.struct fs) => fs.toList.map (fun f => (f.offset, f.type)) | _ => []) = [(0, 4), (1, 23), (33, 3)] := by kernel_rfl
theorem bgFields : ∃ f0 f1 f2 : Field, Try.prog.underlying 25 = some (.struct #[f0, f1, f2]) ∧ f0.offset = 0 ∧ f0.type = 4 ∧ f1.offset = 1 ∧ f1.type = 23 ∧ f2.offset = 33 ∧ f2.type = 3 := by
  have h := bgShape
  cases hu : Try.prog.underlying 25 with
  | none => rw [hu] at h; simp at h
  | some u =>
    rw [hu] at h
    cases u <;> simp at h
    rename_i fs
    obtain ⟨l⟩ := fs
    match l, h with
    | [f0, f1, f2], h => simp at h; exact ⟨f0, f1, f2, rfl, by simp [h]⟩
theorem bgC0 : Try.prog.cellsOf 4 = 1 := by kernel_rfl
theorem bgC1 : Try.prog.cellsOf 23 = 32 := by kernel_rfl
theorem bgC2 : Try.prog.cellsOf 3 = 1 := by kernel_rfl
theorem bgC3 : Try.prog.cellsOf 5 = 1 := by kernel_rfl
theorem bgC : Try.prog.cellsOf 25 = 34 := by kernel_rfl
theorem take_one {α : Type} {L : List α} {i : Nat} {x : α} (h : (L.drop i).take 1 = [x]) : L[i]? = some x := by
  have : ((L.drop i).take 1)[0]? = some x := by rw [h]; rfl
  rw [List.getElem?_take, if_pos (by omega), List.getElem?_drop] at this
  simpa using this
theorem open_begin {H : Type} {enc : TypeId × Value → H} {W : World} {r : Reach} {b0 base : Nat} {sp : Nat → Bool} {hd : Bool} {v : Value} {d : DataW H} {p : List MemPlace}
    (hv : Value.okWide Try.prog W r b0 25 v) (h : DataW.Trod enc Try.prog W base sp hd 25 v d p) :
    ∃ (rot : Bool) (l : List Int) (pat : Int), v = .agg (beginOf rot l pat) ∧ l.length = 32 ∧ (∀ b ∈ l, (Lit.int .u8 b).wf = true) ∧ (Lit.int .i64 pat).wf = true := by
  obtain ⟨f0, f1, f2, hu, o0, t0, o1, t1, o2, t2⟩ := bgFields
  obtain ⟨cs, rfl, hsz⟩ := okWide_struct hu hv
  rw [bgC] at hsz
  obtain ⟨fuel, hf⟩ := h
  obtain ⟨xs, k, hk, hxy, _, hxl, hff⟩ := DataW.trod_struct hu hf
  have g0 := hff 0 f0 rfl
  rw [o0, t0, bgC0] at g0
  have g1 := hff 1 f1 rfl
  rw [o1, t1, bgC1] at g1
  have g2 := hff 2 f2 rfl
  rw [o2, t2, bgC2] at g2
  match xs, hxl with
  | [y0, y1, y2], _ =>
    simp only [Value.cells] at g0 g1 g2
    obtain ⟨L, hL⟩ : ∃ L, cs.toList = L := ⟨_, rfl⟩
    have hLl : L.length = 34 := by rw [← hL]; simpa using hsz
    rw [hL] at g0 g1 g2
    obtain ⟨z0, e0, _⟩ := DataW.trod_bool Try.underlying4 g0
    obtain ⟨z2, e2, _, w2⟩ := DataW.trod_int Try.underlying3 g2
    obtain ⟨M, hM⟩ : ∃ M, (L.drop 1).take 32 = M := ⟨_, rfl⟩
    rw [hM] at g1
    have hMl : M.length = 32 := by rw [← hM, List.length_take, List.length_drop]; omega
    obtain ⟨xs2, m2, _, _, _, hl2, hx2⟩ := DataW.trod_array Try.underlying23 g1
    have each : ∀ i, i < 32 → ∃ b : Int, M[i]? = some (.int .u8 b) ∧ (Lit.int .u8 b).wf = true := fun i hi => by
      have h0 := hx2 i (by omega)
      rw [bgC3, Nat.mul_one, List.getElem?_eq_getElem (show i < xs2.length by omega)] at h0
      obtain ⟨b, e, _, wb⟩ := DataW.trod_int Try.underlying5 h0
      exact ⟨b, take_one e, wb⟩
    have hml : M = (M.map intOf).map (Value.int .u8) := by
      refine List.ext_getElem? fun i => ?_
      rw [List.map_map, List.getElem?_map]
      by_cases hi : i < 32
      · obtain ⟨b, e, _⟩ := each i hi
        rw [e]; rfl
      · rw [List.getElem?_eq_none (by omega)]; rfl
    refine ⟨z0, M.map intOf, z2, ?_, by simp [hMl], fun b hb => ?_, w2⟩
    · have hL3 : L = L.take 1 ++ ((L.drop 1).take 32 ++ (L.drop 33).take 1) := by
        have e3 : (L.drop 33).take 1 = L.drop 33 := List.take_of_length_le (by rw [List.length_drop]; omega)
        rw [e3]
        have e4 : (L.drop 1).drop 32 = L.drop 33 := by rw [List.drop_drop]
        rw [← e4, List.take_append_drop, List.take_append_drop]
      have e0' : L.take 1 = [.bool z0] := by simpa using e0
      rw [e0', e2, hM] at hL3
      unfold beginOf
      rw [← hml]
      congr 1
      rw [← Array.toArray_toList (xs := cs), hL, hL3]
      simp
    · obtain ⟨u, hu', rfl⟩ := List.mem_map.1 hb
      obtain ⟨i, hi, rfl⟩ := List.getElem_of_mem hu'
      obtain ⟨b, e, wb⟩ := each i (by omega)
      rw [List.getElem?_eq_getElem hi] at e
      injection e with e
      rw [e]
      exact wb
end Go.Proofs.Ytoejfgjdmcamaaa
