/-
  PACK, 14: a packet built of its parts; a part that is there if a bit is set.
-/
import Derived.Test.YthfdkonhjpdflaaDoorPk13
import Derived.Laws.Tables
import Derived.Deep.MidRow
namespace Go.Proofs.YthfdkonhjpdflaaDoor
open Go.RowKit
set_option linter.unusedVariables false
set_option maxRecDepth 100000

theorem fold_putL : ∀ (l : List Value) (k off : Nat) (cs : Array Value), (l.zipIdx k).foldl (fun cs (x : Value × Nat) => cs.setIfInBounds (off + x.2) x.1) cs = putL cs (off + k) l
  | [], _, _, _ => rfl
  | v :: r, k, off, cs => by
    rw [List.zipIdx_cons, List.foldl_cons, fold_putL r (k + 1) off, putL]
    rfl
theorem fill_cons (place : Nat → Option (Nat × Nat)) (cells : Array Value) (i : Nat) (v : Value) (rest : List (Nat × Value)) (off size : Nat) (hp : place i = some (off, size)) (hs : v.cells.size = size) (hl : off + size ≤ cells.size) :
    Instr.fill place cells ((i, v) :: rest) = Instr.fill place (putL cells off v.cells.toList) rest := by
  rw [Instr.fill, hp]
  have h1 : decide (v.cells.size ≠ size) = false := by simp [hs]
  have h2 : decide (off + v.cells.size > cells.size) = false := by simp [hs]; omega
  simp only [h1, h2]
  rw [if_neg (by simp)]
  congr 1
  rw [← Array.foldl_toList, Array.toList_zipIdx]
  exact fold_putL v.cells.toList 0 off cells
theorem putL_putL : ∀ (a b : List Value) (cs : Array Value) (o k : Nat), k = o + a.length → putL (putL cs o a) k b = putL cs o (a ++ b)
  | [], b, cs, o, k, h => by subst h; rfl
  | v :: r, b, cs, o, k, h => by
    rw [putL, putL_putL r b _ (o + 1) k (by rw [h, List.length_cons]; omega)]
    rfl
theorem cells_one {v : Value} (h : v.oneCell' = true) : v.cells = #[v] := by
  cases v <;> first | rfl | (simp [Value.oneCell'] at h)
def pkPlaces : List (Nat × Nat) := [(0, 1), (1, 1), (2, 1), (3, 1), (4, 1), (5, 1), (6, 1), (7, 37), (44, 38), (82, 3), (85, 1), (86, 1)]
theorem pk_places : (match Tryd.prog.underlying 38 with | some (.struct fields) => fields.toList.mapM (fun f => (Tryd.prog.info? f.type).map fun i => (f.offset, i.size)) | _ => none) = some pkPlaces := by kernel_rfl
theorem pk_zero : ((Tryd.prog.info? 38).bind (·.zero)).map (·.cells.size) = some 87 := by kernel_rfl
theorem info_pk : (Tryd.prog.info? 38).map (·.size) = some 87 := by kernel_rfl
theorem built_pk : ∃ z : Array Value, z.size = 87 ∧ ∀ parts, Tryd.prog.built 38 parts = Instr.fill (pkPlaces.toArray[·]?) z parts := by
  have h1 := pk_places
  have h2 := pk_zero
  cases hu : Tryd.prog.underlying 38 with
  | none => rw [hu] at h1; cases h1
  | some d =>
    rw [hu] at h1
    cases d with
    | struct fields =>
      cases hi : Tryd.prog.info? 38 with
      | none => rw [hi] at h2; cases h2
      | some it =>
        rw [hi] at h2
        cases hz : it.zero with
        | none => simp [hz] at h2
        | some z =>
          simp [hz] at h2
          refine ⟨z.cells, h2, fun parts => ?_⟩
          unfold Program.built
          simp only [hi, hu, hz, h1]
    | _ => cases h1
theorem build_pk (p : PK) (ev av cv vv bw : Value) (h1 : p.req.name.length = 32) (h2 : p.ans.name.length = 32) (hv : vv.oneCell' = true) (hb : bw.oneCell' = true) :
    Tryd.prog.built 38 [(0, .int .i64 p.kind), (1, .int .i64 p.frm), (2, .int .i64 p.dst), (3, .int .i64 p.num), (4, .int .i64 p.seq), (5, .int .i64 p.ballot), (6, .bool p.ready), (7, .agg (rqL p.req ev).toArray), (8, .agg (anL p.ans av).toArray), (9, .agg (cfL p.conf cv).toArray), (10, vv), (11, bw)] = some (pkL p ev av cv vv bw).toArray := by
  obtain ⟨z, hz, hf⟩ := built_pk
  have e1 : (rqL p.req ev).length = 37 := rqL_len h1
  have e2 : (anL p.ans av).length = 38 := anL_len h2
  have hsz : ∀ (o : Nat) (l : List Value) (c : Array Value), c.size = 87 → (putL c o l).size = 87 := fun o l c h => by rw [putL_size, h]
  rw [hf]
  rw [fill_cons _ _ 0 _ _ 0 1 rfl rfl (by rw [hz]; omega)]
  rw [fill_cons _ _ 1 _ _ 1 1 rfl rfl (by rw [hsz _ _ _ hz]; omega)]
  rw [fill_cons _ _ 2 _ _ 2 1 rfl rfl (by rw [hsz _ _ _ (hsz _ _ _ hz)]; omega)]
  rw [fill_cons _ _ 3 _ _ 3 1 rfl rfl (by simp only [putL_size, hz]; omega)]
  rw [fill_cons _ _ 4 _ _ 4 1 rfl rfl (by simp only [putL_size, hz]; omega)]
  rw [fill_cons _ _ 5 _ _ 5 1 rfl rfl (by simp only [putL_size, hz]; omega)]
  rw [fill_cons _ _ 6 _ _ 6 1 rfl rfl (by simp only [putL_size, hz]; omega)]
  rw [fill_cons _ _ 7 _ _ 7 37 rfl (by simp only [Value.cells, List.size_toArray, e1]) (by simp only [putL_size, hz]; omega)]
  rw [fill_cons _ _ 8 _ _ 44 38 rfl (by simp only [Value.cells, List.size_toArray, e2]) (by simp only [putL_size, hz]; omega)]
  rw [fill_cons _ _ 9 _ _ 82 3 rfl rfl (by simp only [putL_size, hz]; omega)]
  rw [fill_cons _ _ 10 _ _ 85 1 rfl (by rw [cells_one hv]; rfl) (by simp only [putL_size, hz]; omega)]
  rw [fill_cons _ _ 11 _ _ 86 1 rfl (by rw [cells_one hb]; rfl) (by simp only [putL_size, hz]; omega)]
  rw [Instr.fill]
  rw [cells_one hv, cells_one hb]
  have q : ∀ (a b c : List Value) (k : Nat), k = a.length → a ++ b = c → putL (putL z 0 a) k b = putL z 0 c := fun a b c k h hc => by rw [putL_putL a b z 0 k (by omega), hc]
  have hl : (pkL p ev av cv vv bw).length = z.size := by rw [pkL_len h1 h2, hz]
  rw [← putL_all hl]
  clear hl hf hsz
  obtain ⟨R, hR⟩ : ∃ R, rqL p.req ev = R := ⟨_, rfl⟩
  obtain ⟨N, hN⟩ : ∃ N, anL p.ans av = N := ⟨_, rfl⟩
  unfold pkL
  rw [hR] at e1 ⊢
  rw [hN] at e2 ⊢
  refine congrArg some ?_
  show putL (putL (putL (putL (putL (putL (putL (putL (putL (putL (putL (putL z 0 [_]) 1 [_]) 2 [_]) 3 [_]) 4 [_]) 5 [_]) 6 [_]) 7 R) 44 N) 82 (cfL p.conf cv)) 85 [vv]) 86 [bw] = _
  rw [q _ _ _ 1 rfl rfl, q _ _ _ 2 rfl rfl, q _ _ _ 3 rfl rfl, q _ _ _ 4 rfl rfl, q _ _ _ 5 rfl rfl, q _ _ _ 6 rfl rfl, q _ _ _ 7 rfl rfl]
  rw [putL_putL _ _ _ 0 44 (by simp [e1]), putL_putL _ _ _ 0 82 (by simp [e1, e2]), putL_putL _ _ _ 0 85 (by simp [e1, e2, cfL]), putL_putL _ _ _ 0 86 (by simp [e1, e2, cfL])]
  refine congrArg (putL z 0) ?_
  simp only [List.append_assoc, List.cons_append, List.nil_append]
section
variable {P : Program} {ops : Array Oper} {S : World → Prop} {o : Oper} {a : Act}
theorem yieldsIf_build (t : TypeId) (parts : Array (Nat × Operand)) (ho : o.op = .build t parts) (hw : Region.wanted o (yielded ops a.tmps) = true) (cells : Array Value) (h : P.built t (parts.map fun (i, x) => (i, a.eval x)).toList = some cells) : YieldsIf P ops S o (.agg cells) a :=
  Or.inl ⟨hw, fun w _ => by unfold execOp; simp only [ho, Sem.run_bind, run_build w t _ cells h, Result.andThen_ok]; rfl⟩
theorem yieldsIf_mid (ty : TypeId) (x : Operand) (ho : o.op = .load ty x) (b k : Nat) (hx : a.eval x = .pointer (some ⟨b, k, none⟩)) (cs : List Value) (d : TypeDesc) (hc : ∀ w, S w → w.rangeAt b k cs)
    (hu : P.underlying ty = some d) (hd : d.isRow = true) (hi : (P.info? ty).map (·.size) = some cs.length) (hw : Region.wanted o (yielded ops a.tmps) = true) : YieldsIf P ops S o (.agg cs.toArray) a :=
  Or.inl ⟨hw, fun w hS => by unfold execOp; simp only [ho, hx, Instr.loadAt, Instr.sureAddr, Sem.run_bind, Sem.run_pure, Result.andThen_ok, run_loadVar_mid w b k ty cs d (hc w hS) hu hd hi]⟩
end
def oI (bit x : Int) : Int := if bit = 0 then 0 else x
def oB (bit : Int) (x : Bool) : Bool := if bit = 0 then false else x
def oV {α : Type} (bit : Int) (z x : α) : α := if bit = 0 then z else x
def nilV : Value := .slice none 0 0
theorem onlyI (bit : Int) (x : Int) (w : World) : Calls Tryd.prog 83 #[.int .i64 bit, .int .i64 x] w fun e w' => e = .returned (.int .i64 (oI bit x)) ∧ w = w' :=
  (onlyInt_any bit x w).mono fun e w' ⟨h, h'⟩ => ⟨by rw [h]; unfold oI; split <;> rfl, h'⟩
theorem onlyB (bit : Int) (x : Bool) (w : World) : Calls Tryd.prog 84 #[.int .i64 bit, .bool x] w fun e w' => e = .returned (.bool (oB bit x)) ∧ w = w' :=
  (onlyBool_any bit x w).mono fun e w' ⟨h, h'⟩ => ⟨by rw [h]; unfold oB; split <;> rfl, h'⟩
theorem onlyVs (bit : Int) (A : Option Addr) (n c : Nat) (w : World) : Calls Tryd.prog 88 #[.int .i64 bit, .slice A n c] w fun e w' => e = .returned (oV bit nilV (.slice A n c)) ∧ w = w' :=
  (onlyVotes_any bit A n c w).mono fun e w' ⟨h, h'⟩ => ⟨by rw [h]; unfold oV nilV; split <;> rfl, h'⟩
theorem onlyBs (bit : Int) (A : Option Addr) (n c : Nat) (w : World) : Calls Tryd.prog 89 #[.int .i64 bit, .slice A n c] w fun e w' => e = .returned (oV bit nilV (.slice A n c)) ∧ w = w' :=
  (onlyBytes_any bit A n c w).mono fun e w' ⟨h, h'⟩ => ⟨by rw [h]; unfold oV nilV; split <;> rfl, h'⟩
theorem onlyR (bit : Int) (r : RQ) (ev : Value) (w : World) (hn : r.name.length = 32) (he : ev.oneCell' = true) : Calls Tryd.prog 85 #[.int .i64 bit, .agg (rqL r ev).toArray] w fun e w' => e = .returned (.agg (rqL (oV bit rqZero r) (oV bit nilV ev)).toArray) ∧ keepBut [] w w' :=
  (onlyReq_any bit r ev w hn he).mono fun e w' ⟨h, h'⟩ => ⟨by rw [h]; unfold oV nilV; split <;> rfl, h'⟩
theorem onlyA (bit : Int) (r : AN) (ev : Value) (w : World) (hn : r.name.length = 32) (he : ev.oneCell' = true) : Calls Tryd.prog 86 #[.int .i64 bit, .agg (anL r ev).toArray] w fun e w' => e = .returned (.agg (anL (oV bit anZero r) (oV bit nilV ev)).toArray) ∧ keepBut [] w w' :=
  (onlyAns_any bit r ev w hn he).mono fun e w' ⟨h, h'⟩ => ⟨by rw [h]; unfold oV nilV; split <;> rfl, h'⟩
theorem onlyC (bit : Int) (c : CF) (A : Option Addr) (n k : Nat) (w : World) : Calls Tryd.prog 87 #[.int .i64 bit, .agg (cfL c (.slice A n k)).toArray] w fun e w' => e = .returned (.agg (cfL (oV bit cfZero c) (oV bit nilV (.slice A n k))).toArray) ∧ keepBut [] w w' :=
  (onlyConf_any bit c A n k w).mono fun e w' ⟨h, h'⟩ => ⟨by rw [h]; unfold oV nilV; split <;> rfl, h'⟩
/-- what a packet would be with these fields alone -/
def bitA (n m : Int) : Int := bits .and .i64 n m
def PK.cut (p : PK) (n : Int) : PK :=
  ⟨p.kind, p.frm, p.dst, oI (bitA n 1) p.num, oI (bitA n 2) p.seq, oI (bitA n 4) p.ballot, oB (bitA n 8) p.ready, oV (bitA n 16) rqZero p.req, oV (bitA n 32) anZero p.ans, oV (bitA n 64) cfZero p.conf, oV (bitA n 128) [] p.votes, oV (bitA n 256) [] p.bytes⟩
theorem oV_bytes {w : World} {F : List Nat} {v : Value} {l : List UInt8} (b : Int) (h : bytesV w F v l) : bytesV w F (oV b nilV v) (oV b [] l) := by
  unfold oV; split
  · exact bytesV.nil w F
  · exact h
theorem pkV.cut {w : World} {F : List Nat} {p : PK} {ev av cv vv bw : Value} (h : pkV w F p ev av cv vv bw) (n : Int) :
    pkV w F (p.cut n) (oV (bitA n 16) nilV ev) (oV (bitA n 32) nilV av) (oV (bitA n 64) nilV cv) (oV (bitA n 128) nilV vv) (oV (bitA n 256) nilV bw) := by
  have hz : rqZero.name.length = 32 := by rw [show rqZero.name = List.replicate 32 0 from rfl, List.length_replicate]
  have hy : anZero.name.length = 32 := by rw [show anZero.name = List.replicate 32 0 from rfl, List.length_replicate]
  refine ⟨?_, ?_, ?_, ?_, ?_, ?_, oV_bytes _ h.bs⟩
  · show (oV (bitA n 16) rqZero p.req).name.length = 32
    unfold oV; split
    · exact hz
    · exact h.rn
  · show (oV (bitA n 32) anZero p.ans).name.length = 32
    unfold oV; split
    · exact hy
    · exact h.an
  · show bytesV w F _ (oV (bitA n 16) rqZero p.req).env
    unfold oV; split
    · exact bytesV.nil w F
    · exact h.re
  · show bytesV w F _ (oV (bitA n 32) anZero p.ans).env
    unfold oV; split
    · exact bytesV.nil w F
    · exact h.ae
  · show intsV w F _ (oV (bitA n 64) cfZero p.conf).chain
    unfold oV; split
    · exact intsV.nil w F
    · exact h.cc
  · show votesV w F _ (oV (bitA n 128) [] p.votes)
    unfold oV; split
    · exact votesV.nil w F
    · exact h.vs
end Go.Proofs.YthfdkonhjpdflaaDoor
