/-
  TABLE, 28: requests and answers built of their parts.
-/
import Derived.Test.YtmlmhnhilemjhaaDoorTB27
import Derived.Laws.Tables
import Derived.Deep.MidRow
namespace Go.Proofs.YtmlmhnhilemjhaaDoor
open Go.RowKit
set_option linter.unusedVariables false
set_option maxRecDepth 100000
set_option linter.unusedSimpArgs false

theorem fill_cons (place : Nat → Option (Nat × Nat)) (cells : Array Value) (i : Nat) (v : Value) (rest : List (Nat × Value)) (off size : Nat) (hp : place i = some (off, size)) (hs : v.cells.size = size) (hl : off + size ≤ cells.size) :
    Instr.fill place cells ((i, v) :: rest) = Instr.fill place (putL cells off v.cells.toList) rest := by
  rw [Instr.fill, hp]
  have h1 : decide (v.cells.size ≠ size) = false := by simp [hs]
  have h2 : decide (off + v.cells.size > cells.size) = false := by simp [hs]; omega
  simp only [h1, h2]
  rw [if_neg (by simp)]
  congr 1
  rw [← Array.foldl_toList, Array.toList_zipIdx]
  exact fold_putL v.cells.toList 0 off cells
theorem wpList_build_pt {P : Program} (w : World) {ops : Array Oper} {rest : List Oper} {o : Oper} {a : Act} {Q : Exit → Act → World → Prop} (hgd : o.guard = none) (t : TypeId) (parts : Array (Nat × Operand)) (ho : o.op = .build t parts)
    (cells : Array Value) (hb : P.built t (parts.map fun (i, x) => (i, a.eval x)).toList = some cells) (h : wpList P ops Q rest (a.put o.dst (.agg cells)) w) : wpList P ops Q (o :: rest) a w :=
  wpList_plain hgd fun K hK => by
    unfold Oper.wp execOp
    simp only [ho, Sem.run_bind, run_build w t _ cells hb, Result.andThen_ok]
    exact hK _ _ h
def rqPlaces : List (Nat × Nat) := [(0, 1), (1, 1), (2, 1), (3, 1), (4, 32), (36, 1)]
theorem rq_places : (match Tryd.prog.underlying 31 with | some (.struct fields) => fields.toList.mapM (fun f => (Tryd.prog.info? f.type).map fun i => (f.offset, i.size)) | _ => none) = some rqPlaces := by kernel_rfl
theorem built_rq (parts : List (Nat × Value)) : Tryd.prog.built 31 parts = Instr.fill (rqPlaces.toArray[·]?) (rqL rqZero nilV).toArray parts := by
  have h1 := rq_places
  have h2 := zv_rq
  cases hu : Tryd.prog.underlying 31 with
  | none => rw [hu] at h1; cases h1
  | some d =>
    rw [hu] at h1
    cases d with
    | struct fields =>
      cases hi : Tryd.prog.info? 31 with
      | none => rw [hi] at h2; cases h2
      | some it =>
        rw [hi] at h2
        have hz : it.zero = some (.agg (rqL rqZero nilV).toArray) := h2
        unfold Program.built
        simp only [hi, hu, hz, h1]
        rfl
    | _ => cases h1
def anPlaces : List (Nat × Nat) := [(0, 1), (1, 1), (2, 1), (3, 1), (4, 1), (5, 32), (37, 1)]
theorem an_places : (match Tryd.prog.underlying 40 with | some (.struct fields) => fields.toList.mapM (fun f => (Tryd.prog.info? f.type).map fun i => (f.offset, i.size)) | _ => none) = some anPlaces := by kernel_rfl
theorem built_an (parts : List (Nat × Value)) : Tryd.prog.built 40 parts = Instr.fill (anPlaces.toArray[·]?) (anL anZero nilV).toArray parts := by
  have h1 := an_places
  have h2 := zv_an
  cases hu : Tryd.prog.underlying 40 with
  | none => rw [hu] at h1; cases h1
  | some d =>
    rw [hu] at h1
    cases d with
    | struct fields =>
      cases hi : Tryd.prog.info? 40 with
      | none => rw [hi] at h2; cases h2
      | some it =>
        rw [hi] at h2
        have hz : it.zero = some (.agg (anL anZero nilV).toArray) := h2
        unfold Program.built
        simp only [hi, hu, hz, h1]
        rfl
    | _ => cases h1
theorem rq_put_client (r : RQ) (ev : Value) (n : Int) : putL (rqL r ev).toArray 0 [.int .i64 n] = (rqL { r with client := n } ev).toArray :=
  putL_mid (a := []) (x := [.int .i64 r.client]) (b := .int .i64 r.num :: .int .i64 r.kind :: .int .i64 r.version :: (nameL r.name ++ [ev])) rfl rfl rfl
theorem rq_put_num (r : RQ) (ev : Value) (n : Int) : putL (rqL r ev).toArray 1 [.int .i64 n] = (rqL { r with num := n } ev).toArray :=
  putL_mid (a := [.int .i64 r.client]) (x := [.int .i64 r.num]) (b := .int .i64 r.kind :: .int .i64 r.version :: (nameL r.name ++ [ev])) rfl rfl rfl
theorem rq_put_kind (r : RQ) (ev : Value) (n : Int) : putL (rqL r ev).toArray 2 [.int .i64 n] = (rqL { r with kind := n } ev).toArray :=
  putL_mid (a := [.int .i64 r.client, .int .i64 r.num]) (x := [.int .i64 r.kind]) (b := .int .i64 r.version :: (nameL r.name ++ [ev])) rfl rfl rfl
theorem rq_put_version (r : RQ) (ev : Value) (n : Int) : putL (rqL r ev).toArray 3 [.int .i64 n] = (rqL { r with version := n } ev).toArray :=
  putL_mid (a := [.int .i64 r.client, .int .i64 r.num, .int .i64 r.kind]) (x := [.int .i64 r.version]) (b := (nameL r.name ++ [ev])) rfl rfl rfl
theorem rq_put_env (r : RQ) (ev ev2 : Value) (h : r.name.length = 32) : putL (rqL r ev).toArray 36 [ev2] = (rqL r ev2).toArray :=
  putL_mid (a := .int .i64 r.client :: .int .i64 r.num :: .int .i64 r.kind :: .int .i64 r.version :: nameL r.name) (x := [ev]) (b := []) (by simp [rqL]) (by simp [nameL_len, h]) rfl
theorem an_put_client (r : AN) (ev : Value) (n : Int) : putL (anL r ev).toArray 0 [.int .i64 n] = (anL { r with client := n } ev).toArray :=
  putL_mid (a := []) (x := [.int .i64 r.client]) (b := .int .i64 r.num :: .int .i64 r.code :: .int .i64 r.version :: .int .i64 r.epoch :: (nameL r.name ++ [ev])) rfl rfl rfl
theorem an_put_num (r : AN) (ev : Value) (n : Int) : putL (anL r ev).toArray 1 [.int .i64 n] = (anL { r with num := n } ev).toArray :=
  putL_mid (a := [.int .i64 r.client]) (x := [.int .i64 r.num]) (b := .int .i64 r.code :: .int .i64 r.version :: .int .i64 r.epoch :: (nameL r.name ++ [ev])) rfl rfl rfl
theorem an_put_code (r : AN) (ev : Value) (n : Int) : putL (anL r ev).toArray 2 [.int .i64 n] = (anL { r with code := n } ev).toArray :=
  putL_mid (a := [.int .i64 r.client, .int .i64 r.num]) (x := [.int .i64 r.code]) (b := .int .i64 r.version :: .int .i64 r.epoch :: (nameL r.name ++ [ev])) rfl rfl rfl
theorem an_put_version (r : AN) (ev : Value) (n : Int) : putL (anL r ev).toArray 3 [.int .i64 n] = (anL { r with version := n } ev).toArray :=
  putL_mid (a := [.int .i64 r.client, .int .i64 r.num, .int .i64 r.code]) (x := [.int .i64 r.version]) (b := .int .i64 r.epoch :: (nameL r.name ++ [ev])) rfl rfl rfl
theorem an_put_epoch (r : AN) (ev : Value) (n : Int) : putL (anL r ev).toArray 4 [.int .i64 n] = (anL { r with epoch := n } ev).toArray :=
  putL_mid (a := [.int .i64 r.client, .int .i64 r.num, .int .i64 r.code, .int .i64 r.version]) (x := [.int .i64 r.epoch]) (b := (nameL r.name ++ [ev])) rfl rfl rfl
theorem an_put_env (r : AN) (ev ev2 : Value) (h : r.name.length = 32) : putL (anL r ev).toArray 37 [ev2] = (anL r ev2).toArray :=
  putL_mid (a := .int .i64 r.client :: .int .i64 r.num :: .int .i64 r.code :: .int .i64 r.version :: .int .i64 r.epoch :: nameL r.name) (x := [ev]) (b := []) (by simp [anL]) (by simp [nameL_len, h]) rfl
theorem build_an015 (client : Int) (num : Int) (nm : List UInt8) (hn : nm.length = 32) : Tryd.prog.built 40 [(0, .int .i64 client), (1, .int .i64 num), (5, .agg (nameL nm).toArray)] = some (anL ⟨client, num, 0, 0, 0, nm, []⟩ nilV).toArray := by
  rw [built_an]
  rw [fill_cons _ _ 0 _ _ 0 1 rfl rfl (by simp only [List.size_toArray]; rw [anL_len (by first | exact anZero_name | rfl)]; omega)]
  rw [show (Value.int .i64 client).cells.toList = [.int .i64 client] from rfl, an_put_client]
  rw [fill_cons _ _ 1 _ _ 1 1 rfl rfl (by simp only [List.size_toArray]; rw [anL_len (by first | exact anZero_name | rfl)]; omega)]
  rw [show (Value.int .i64 num).cells.toList = [.int .i64 num] from rfl, an_put_num]
  rw [fill_cons _ _ 5 _ _ 5 32 rfl (by simp only [Value.cells, List.size_toArray]; rw [nameL_len, hn]) (by simp only [List.size_toArray]; rw [anL_len (by first | exact anZero_name | rfl)]; omega)]
  rw [show (Value.agg (nameL nm).toArray).cells.toList = nameL nm from rfl, anL_setName (by first | exact anZero_name | rfl) hn]
  rfl
theorem build_an0 : Tryd.prog.built 40 [] = some (anL anZero nilV).toArray := by rw [built_an]; rfl
theorem build_rq12345 (num : Int) (kind : Int) (version : Int) (nm : List UInt8) (hn : nm.length = 32) (ev : Value) (hv : ev.oneCell' = true) : Tryd.prog.built 31 [(1, .int .i64 num), (2, .int .i64 kind), (3, .int .i64 version), (4, .agg (nameL nm).toArray), (5, ev)] = some (rqL ⟨0, num, kind, version, nm, []⟩ ev).toArray := by
  rw [built_rq]
  rw [fill_cons _ _ 1 _ _ 1 1 rfl rfl (by simp only [List.size_toArray]; rw [rqL_len (by first | exact rqZero_name | rfl)]; omega)]
  rw [show (Value.int .i64 num).cells.toList = [.int .i64 num] from rfl, rq_put_num]
  rw [fill_cons _ _ 2 _ _ 2 1 rfl rfl (by simp only [List.size_toArray]; rw [rqL_len (by first | exact rqZero_name | rfl)]; omega)]
  rw [show (Value.int .i64 kind).cells.toList = [.int .i64 kind] from rfl, rq_put_kind]
  rw [fill_cons _ _ 3 _ _ 3 1 rfl rfl (by simp only [List.size_toArray]; rw [rqL_len (by first | exact rqZero_name | rfl)]; omega)]
  rw [show (Value.int .i64 version).cells.toList = [.int .i64 version] from rfl, rq_put_version]
  rw [fill_cons _ _ 4 _ _ 4 32 rfl (by simp only [Value.cells, List.size_toArray]; rw [nameL_len, hn]) (by simp only [List.size_toArray]; rw [rqL_len (by first | exact rqZero_name | rfl)]; omega)]
  rw [show (Value.agg (nameL nm).toArray).cells.toList = nameL nm from rfl, rqL_setName (by first | exact rqZero_name | rfl) hn]
  rw [fill_cons _ _ 5 _ _ 36 1 rfl (by rw [cells_one hv]; rfl) (by simp only [List.size_toArray]; rw [rqL_len (by first | exact rqZero_name | exact hn | rfl)]; omega)]
  rw [show ev.cells.toList = [ev] by rw [cells_one hv], rq_put_env _ _ _ (by first | exact rqZero_name | exact hn | rfl)]
  rfl
theorem build_rq124 (num : Int) (kind : Int) (nm : List UInt8) (hn : nm.length = 32) : Tryd.prog.built 31 [(1, .int .i64 num), (2, .int .i64 kind), (4, .agg (nameL nm).toArray)] = some (rqL ⟨0, num, kind, 0, nm, []⟩ nilV).toArray := by
  rw [built_rq]
  rw [fill_cons _ _ 1 _ _ 1 1 rfl rfl (by simp only [List.size_toArray]; rw [rqL_len (by first | exact rqZero_name | rfl)]; omega)]
  rw [show (Value.int .i64 num).cells.toList = [.int .i64 num] from rfl, rq_put_num]
  rw [fill_cons _ _ 2 _ _ 2 1 rfl rfl (by simp only [List.size_toArray]; rw [rqL_len (by first | exact rqZero_name | rfl)]; omega)]
  rw [show (Value.int .i64 kind).cells.toList = [.int .i64 kind] from rfl, rq_put_kind]
  rw [fill_cons _ _ 4 _ _ 4 32 rfl (by simp only [Value.cells, List.size_toArray]; rw [nameL_len, hn]) (by simp only [List.size_toArray]; rw [rqL_len (by first | exact rqZero_name | rfl)]; omega)]
  rw [show (Value.agg (nameL nm).toArray).cells.toList = nameL nm from rfl, rqL_setName (by first | exact rqZero_name | rfl) hn]
  rfl
theorem build_rq12 (num : Int) (kind : Int) : Tryd.prog.built 31 [(1, .int .i64 num), (2, .int .i64 kind)] = some (rqL ⟨0, num, kind, 0, nameZ, []⟩ nilV).toArray := by
  rw [built_rq]
  rw [fill_cons _ _ 1 _ _ 1 1 rfl rfl (by simp only [List.size_toArray]; rw [rqL_len (by first | exact rqZero_name | rfl)]; omega)]
  rw [show (Value.int .i64 num).cells.toList = [.int .i64 num] from rfl, rq_put_num]
  rw [fill_cons _ _ 2 _ _ 2 1 rfl rfl (by simp only [List.size_toArray]; rw [rqL_len (by first | exact rqZero_name | rfl)]; omega)]
  rw [show (Value.int .i64 kind).cells.toList = [.int .i64 kind] from rfl, rq_put_kind]
  rfl
theorem build_rq123 (num : Int) (kind : Int) (version : Int) : Tryd.prog.built 31 [(1, .int .i64 num), (2, .int .i64 kind), (3, .int .i64 version)] = some (rqL ⟨0, num, kind, version, nameZ, []⟩ nilV).toArray := by
  rw [built_rq]
  rw [fill_cons _ _ 1 _ _ 1 1 rfl rfl (by simp only [List.size_toArray]; rw [rqL_len (by first | exact rqZero_name | rfl)]; omega)]
  rw [show (Value.int .i64 num).cells.toList = [.int .i64 num] from rfl, rq_put_num]
  rw [fill_cons _ _ 2 _ _ 2 1 rfl rfl (by simp only [List.size_toArray]; rw [rqL_len (by first | exact rqZero_name | rfl)]; omega)]
  rw [show (Value.int .i64 kind).cells.toList = [.int .i64 kind] from rfl, rq_put_kind]
  rw [fill_cons _ _ 3 _ _ 3 1 rfl rfl (by simp only [List.size_toArray]; rw [rqL_len (by first | exact rqZero_name | rfl)]; omega)]
  rw [show (Value.int .i64 version).cells.toList = [.int .i64 version] from rfl, rq_put_version]
  rfl
theorem build_rq0124 (client : Int) (num : Int) (kind : Int) (nm : List UInt8) (hn : nm.length = 32) : Tryd.prog.built 31 [(0, .int .i64 client), (1, .int .i64 num), (2, .int .i64 kind), (4, .agg (nameL nm).toArray)] = some (rqL ⟨client, num, kind, 0, nm, []⟩ nilV).toArray := by
  rw [built_rq]
  rw [fill_cons _ _ 0 _ _ 0 1 rfl rfl (by simp only [List.size_toArray]; rw [rqL_len (by first | exact rqZero_name | rfl)]; omega)]
  rw [show (Value.int .i64 client).cells.toList = [.int .i64 client] from rfl, rq_put_client]
  rw [fill_cons _ _ 1 _ _ 1 1 rfl rfl (by simp only [List.size_toArray]; rw [rqL_len (by first | exact rqZero_name | rfl)]; omega)]
  rw [show (Value.int .i64 num).cells.toList = [.int .i64 num] from rfl, rq_put_num]
  rw [fill_cons _ _ 2 _ _ 2 1 rfl rfl (by simp only [List.size_toArray]; rw [rqL_len (by first | exact rqZero_name | rfl)]; omega)]
  rw [show (Value.int .i64 kind).cells.toList = [.int .i64 kind] from rfl, rq_put_kind]
  rw [fill_cons _ _ 4 _ _ 4 32 rfl (by simp only [Value.cells, List.size_toArray]; rw [nameL_len, hn]) (by simp only [List.size_toArray]; rw [rqL_len (by first | exact rqZero_name | rfl)]; omega)]
  rw [show (Value.agg (nameL nm).toArray).cells.toList = nameL nm from rfl, rqL_setName (by first | exact rqZero_name | rfl) hn]
  rfl
end Go.Proofs.YtmlmhnhilemjhaaDoor
