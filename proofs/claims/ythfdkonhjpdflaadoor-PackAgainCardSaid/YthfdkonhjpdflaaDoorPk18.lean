/-
  PACK, 18: a packet in memory of its own.
-/
import Derived.Test.YthfdkonhjpdflaaDoorPk17
namespace Go.Proofs.YthfdkonhjpdflaaDoor
open Go.RowKit
set_option linter.unusedVariables false
set_option maxRecDepth 100000

theorem set_mid {l a b : List Value} {x : Value} {k : Nat} (hl : l = a ++ x :: b) (hk : a.length = k) (u : Value) : l.toArray.setIfInBounds k u = (a ++ u :: b).toArray := by
  subst hl; subst hk
  rw [List.setIfInBounds_toArray]
  congr 1
  rw [List.set_append_right _ _ (Nat.le_refl _), Nat.sub_self, List.set_cons_zero]
section
variable {p : PK} {ev av cv vv bw : Value}
theorem pkL_setE (h : p.req.name.length = 32) (u : Value) : (pkL p ev av cv vv bw).toArray.setIfInBounds 43 u = (pkL p u av cv vv bw).toArray := by
  rw [set_mid (l := pkL p ev av cv vv bw) (a := [.int .i64 p.kind, .int .i64 p.frm, .int .i64 p.dst, .int .i64 p.num, .int .i64 p.seq, .int .i64 p.ballot, .bool p.ready, .int .i64 p.req.client, .int .i64 p.req.num, .int .i64 p.req.kind, .int .i64 p.req.version] ++ nameL p.req.name) (x := ev) (b := anL p.ans av ++ (cfL p.conf cv ++ [vv, bw])) (k := 43) (by simp [pkL, rqL]) (by simp [nameL_len, h]) u]
  simp [pkL, rqL]
theorem pkL_setA (h : p.req.name.length = 32) (h' : p.ans.name.length = 32) (u : Value) : (pkL p ev av cv vv bw).toArray.setIfInBounds 81 u = (pkL p ev u cv vv bw).toArray := by
  rw [set_mid (l := pkL p ev av cv vv bw) (a := [.int .i64 p.kind, .int .i64 p.frm, .int .i64 p.dst, .int .i64 p.num, .int .i64 p.seq, .int .i64 p.ballot, .bool p.ready] ++ (rqL p.req ev ++ ([.int .i64 p.ans.client, .int .i64 p.ans.num, .int .i64 p.ans.code, .int .i64 p.ans.version, .int .i64 p.ans.epoch] ++ nameL p.ans.name))) (x := av) (b := cfL p.conf cv ++ [vv, bw]) (k := 81) (by simp [pkL, anL]) (by simp [rqL_len h, nameL_len, h']) u]
  simp [pkL, anL]
theorem pkL_setT (h : p.req.name.length = 32) (h' : p.ans.name.length = 32) (u : Value) : (pkL p ev av cv vv bw).toArray.setIfInBounds 82 (.int .i64 p.conf.num) = (pkL p ev av cv vv bw).toArray ∧ (pkL p ev av cv vv bw).toArray.setIfInBounds 83 (.int .i64 p.conf.full) = (pkL p ev av cv vv bw).toArray ∧ (pkL p ev av cv vv bw).toArray.setIfInBounds 84 u = (pkL p ev av u vv bw).toArray ∧ (pkL p ev av cv vv bw).toArray.setIfInBounds 85 u = (pkL p ev av cv u bw).toArray ∧ (pkL p ev av cv vv bw).toArray.setIfInBounds 86 u = (pkL p ev av cv vv u).toArray := by
  have hp : ([Value.int .i64 p.kind, .int .i64 p.frm, .int .i64 p.dst, .int .i64 p.num, .int .i64 p.seq, .int .i64 p.ballot, .bool p.ready] ++ (rqL p.req ev ++ anL p.ans av)).length = 82 := by simp [rqL_len h, anL_len h']
  have he : pkL p ev av cv vv bw = ([Value.int .i64 p.kind, .int .i64 p.frm, .int .i64 p.dst, .int .i64 p.num, .int .i64 p.seq, .int .i64 p.ballot, .bool p.ready] ++ (rqL p.req ev ++ anL p.ans av)) ++ [.int .i64 p.conf.num, .int .i64 p.conf.full, cv, vv, bw] := by simp [pkL, cfL]
  have hu : ∀ cv vv bw, ([Value.int .i64 p.kind, .int .i64 p.frm, .int .i64 p.dst, .int .i64 p.num, .int .i64 p.seq, .int .i64 p.ballot, .bool p.ready] ++ (rqL p.req ev ++ anL p.ans av)) ++ [.int .i64 p.conf.num, .int .i64 p.conf.full, cv, vv, bw] = pkL p ev av cv vv bw := fun cv vv bw => by simp [pkL, cfL]
  generalize [Value.int .i64 p.kind, .int .i64 p.frm, .int .i64 p.dst, .int .i64 p.num, .int .i64 p.seq, .int .i64 p.ballot, .bool p.ready] ++ (rqL p.req ev ++ anL p.ans av) = Z at *
  refine ⟨?_, ?_, ?_, ?_, ?_⟩
  · rw [set_mid he hp, ← he]
  · rw [set_mid (a := Z ++ [.int .i64 p.conf.num]) (k := 83) (x := .int .i64 p.conf.full) (b := [cv, vv, bw]) (by rw [he]; simp) (by simp [hp]), ← hu]; simp
  · rw [set_mid (a := Z ++ [.int .i64 p.conf.num, .int .i64 p.conf.full]) (k := 84) (x := cv) (b := [vv, bw]) (by rw [he]; simp) (by simp [hp]), ← hu]; simp
  · rw [set_mid (a := Z ++ [.int .i64 p.conf.num, .int .i64 p.conf.full, cv]) (k := 85) (x := vv) (b := [bw]) (by rw [he]; simp) (by simp [hp]), ← hu]; simp
  · rw [set_mid (a := Z ++ [.int .i64 p.conf.num, .int .i64 p.conf.full, cv, vv]) (k := 86) (x := bw) (b := []) (by rw [he]; simp) (by simp [hp]), ← hu]; simp
theorem pkL_e (h : p.req.name.length = 32) : (pkL p ev av cv vv bw).toArray[43]? = some ev := pkL_req 36 _ (by have := rqL_env (ev := ev) h; simpa using this)
theorem pkL_a (h : p.req.name.length = 32) (h' : p.ans.name.length = 32) : (pkL p ev av cv vv bw).toArray[81]? = some av := pkL_ans h 37 _ (by have := anL_env (ev := av) h'; simpa using this)
end
/-- where the packet that is being copied stands -/
structure cpAt (w w' : World) (g : Nat) (p : PK) (ev av cv vv bw : Value) : Prop where
  row : rowAt w' g 38 (pkL p ev av cv vv bw).toArray
  res : rowAt w' (g + 1) 38 Tryd.zeroCells38
  kp : keepBut [] w w'
theorem cpAt.over {w a b : World} {g : Nat} {p : PK} {ev av cv vv bw : Value} (h : cpAt w a g p ev av cv vv bw) (hk : keepBut [] a b) : cpAt w b g p ev av cv vv bw :=
  ⟨hk.row h.row (by simp), hk.row h.res (by simp), h.kp.then hk (by simp)⟩
theorem cpAt.set {w a : World} {g : Nat} {p : PK} {ev av cv vv bw ev' av' cv' vv' bw' : Value} (h : cpAt w a g p ev av cv vv bw) (hg : w.heap.size ≤ g) (k : Nat) (u : Value) (he : (pkL p ev av cv vv bw).toArray.setIfInBounds k u = (pkL p ev' av' cv' vv' bw').toArray) :
    cpAt w (a.setCell ⟨g, k, none⟩ u) g p ev' av' cv' vv' bw' :=
  ⟨by rw [← he]; exact h.row.set k u, (((keepBut.refl [g] a).setCell ⟨g, k, none⟩ u (.inl (by simp))).row h.res (by simp)), h.kp.setCell _ _ (.inr hg)⟩
theorem newIn.keep {w a b : World} {G : List Nat} (h : newIn w a G) (hs : a.heap.size ≤ b.heap.size) : newIn w b G := fun y hy => ⟨(h y hy).1, Nat.lt_of_lt_of_le (h y hy).2 hs⟩
end Go.Proofs.YthfdkonhjpdflaaDoor
