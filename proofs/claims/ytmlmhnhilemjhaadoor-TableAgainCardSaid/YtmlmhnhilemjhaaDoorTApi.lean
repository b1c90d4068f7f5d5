/-
  TAPI: requests, answers, configs, votes and packets as values: the parts of Pk1 to Pk33 that name no function of package pack (joined by gen/mkapi.py).
-/
import Derived.Test.YtmlmhnhilemjhaaDoorLow3
import Derived.Test.YtmlmhnhilemjhaaDoorLow1
import Derived.Laws.Cover1
import Derived.Deep.RegionHeld3
import Derived.Deep.CutBlock
import Derived.Deep.DeepCutAuto
import Derived.BigRegion
import Derived.Outline
import Derived.Lib.Hide
import Derived.Handy
import Derived.BigQuiet
import Derived.Laws.Tables
import Derived.Deep.MidRow
import Derived.Laws.ResultCell
namespace Go.Proofs.YtmlmhnhilemjhaaDoor
open Go.RowKit
set_option linter.unusedVariables false
set_option maxRecDepth 100000
set_option linter.unusedSimpArgs false
section
def inP (n lo hi : Int) : Bool := decide (lo ≤ n) && decide (n ≤ hi)
theorem inP_yes {n lo hi : Int} (h : lo ≤ n ∧ n ≤ hi) : inP n lo hi = true := by unfold inP; simp [h.1, h.2]
theorem inP_no {n lo hi : Int} (h : ¬ (lo ≤ n ∧ n ≤ hi)) : inP n lo hi = false := by
  cases e : inP n lo hi with
  | false => rfl
  | true => exact absurd (by simpa [inP] using e) h
theorem inP_iff {n lo hi : Int} : inP n lo hi = true ↔ lo ≤ n ∧ n ≤ hi := by simp [inP]
def mxI : Int := 9007199254740991
def toldP (b : Bool) : Int := if b then 0 else 2
end
section
structure RQ where
  client : Int
  num : Int
  kind : Int
  version : Int
  name : List UInt8
  env : List UInt8
structure AN where
  client : Int
  num : Int
  code : Int
  version : Int
  epoch : Int
  name : List UInt8
  env : List UInt8
def bytesV (w : World) (F : List Nat) (v : Value) (l : List UInt8) : Prop :=
  ∃ (A : Option Addr) (c g : Nat), v = .slice A l.length c ∧ l.length ≤ c ∧ c ≤ maxLen ∧ seen w A g l ∧ (l ≠ [] → g ∈ F)
theorem bytesV.keep {S F : List Nat} {w w' : World} {v : Value} {l : List UInt8} (h : bytesV w F v l) (hk : keepBut S w w') (hS : ∀ y ∈ F, y ∉ S) : bytesV w' F v l := by
  obtain ⟨A, c, g, h1, h2, h3, h5, h6⟩ := h
  exact ⟨A, c, g, h1, h2, h3, h5.keep hk (fun hl => hS g (h6 hl)), h6⟩
theorem bytesV.more {F G : List Nat} {w : World} {v : Value} {l : List UInt8} (h : bytesV w F v l) (hF : ∀ y ∈ F, y ∈ G) : bytesV w G v l := by
  obtain ⟨A, c, g, h1, h2, h3, h5, h6⟩ := h
  exact ⟨A, c, g, h1, h2, h3, h5, fun hl => hF g (h6 hl)⟩
theorem bytesV.nil (w : World) (F : List Nat) : bytesV w F (.slice none 0 0) [] := ⟨none, 0, 0, rfl, by simp, by simp [maxLen], seen.nil _ _ _, fun h => absurd rfl h⟩
theorem reads.keepS {S : List Nat} {w w' : World} {A : Option Addr} {g n sz : Nat} {xs : List Value} (h : reads w A g n sz xs) (hk : keepBut S w w') (hS : 0 < n → g ∉ S) : reads w' A g n sz xs := by
  refine ⟨h.1, fun hn => ?_⟩
  obtain ⟨o, e1, e2, e3⟩ := h.2 hn
  exact ⟨o, e1, Nat.lt_of_lt_of_le e2 hk.size, fun j u hu => (hk.cell (p := ⟨g, o + j, none⟩) e2 (hS hn)).trans (e3 j u hu)⟩
def rqL (r : RQ) (ev : Value) : List Value := .int .i64 r.client :: .int .i64 r.num :: .int .i64 r.kind :: .int .i64 r.version :: (nameL r.name ++ [ev])
def anL (a : AN) (ev : Value) : List Value := .int .i64 a.client :: .int .i64 a.num :: .int .i64 a.code :: .int .i64 a.version :: .int .i64 a.epoch :: (nameL a.name ++ [ev])
theorem rqL_len {r : RQ} {ev : Value} (h : r.name.length = 32) : (rqL r ev).length = 37 := by simp [rqL, nameL_len, h]
theorem anL_len {a : AN} {ev : Value} (h : a.name.length = 32) : (anL a ev).length = 38 := by simp [anL, nameL_len, h]
theorem mid_at {l m r : List Value} {k : Nat} (hk : l.length = k) : ∀ j v, m[j]? = some v → (l ++ (m ++ r))[k + j]? = some v := fun j v hv => by
  subst hk
  rw [List.getElem?_append_right (by omega), show l.length + j - l.length = j by omega, List.getElem?_append_left (List.getElem?_eq_some_iff.1 hv).1]
  exact hv
theorem rqL_name (r : RQ) (ev : Value) : ∀ j v, (nameL r.name)[j]? = some v → (rqL r ev).toArray[4 + j]? = some v := fun j v hv => by
  have := mid_at (l := [.int .i64 r.client, .int .i64 r.num, .int .i64 r.kind, .int .i64 r.version]) (r := [ev]) rfl j v hv
  simpa [rqL] using this
theorem rqL_env {r : RQ} {ev : Value} (h : r.name.length = 32) : (rqL r ev).toArray[36]? = some ev := by
  have := mid_at (l := .int .i64 r.client :: .int .i64 r.num :: .int .i64 r.kind :: .int .i64 r.version :: nameL r.name) (m := [ev]) (r := []) (k := 36) (by simp [nameL_len, h]) 0 ev rfl
  simpa [rqL] using this
theorem anL_name (a : AN) (ev : Value) : ∀ j v, (nameL a.name)[j]? = some v → (anL a ev).toArray[5 + j]? = some v := fun j v hv => by
  have := mid_at (l := [.int .i64 a.client, .int .i64 a.num, .int .i64 a.code, .int .i64 a.version, .int .i64 a.epoch]) (r := [ev]) rfl j v hv
  simpa [anL] using this
theorem anL_env {a : AN} {ev : Value} (h : a.name.length = 32) : (anL a ev).toArray[37]? = some ev := by
  have := mid_at (l := .int .i64 a.client :: .int .i64 a.num :: .int .i64 a.code :: .int .i64 a.version :: .int .i64 a.epoch :: nameL a.name) (m := [ev]) (r := []) (k := 37) (by simp [nameL_len, h]) 0 ev rfl
  simpa [anL] using this
end
section
def RQ.same (r s : RQ) : Bool := (r.client == s.client) && ((r.num == s.num) && ((r.kind == s.kind) && ((r.version == s.version) && ((decide (r.name = s.name)) && (r.env == s.env)))))
def AN.same (r s : AN) : Bool := (r.client == s.client) && ((r.num == s.num) && ((r.code == s.code) && ((r.version == s.version) && ((r.epoch == s.epoch) && ((decide (r.name = s.name)) && (r.env == s.env))))))
def rqV (w : World) (F : List Nat) (r : RQ) (ev : Value) : Prop := r.name.length = 32 ∧ bytesV w F ev r.env
def anV (w : World) (F : List Nat) (a : AN) (ev : Value) : Prop := a.name.length = 32 ∧ bytesV w F ev a.env
theorem rowAt.two (w : World) (t : TypeId) (cs ds : Array Value) : rowAt ((w.alloc (.cells cs t)).alloc (.cells ds t)) w.heap.size t cs ∧ rowAt ((w.alloc (.cells cs t)).alloc (.cells ds t)) (w.heap.size + 1) t ds ∧ keepBut [] w ((w.alloc (.cells cs t)).alloc (.cells ds t)) := by
  have k1 := (keepBut.refl [] w).alloc (.cells cs t)
  have k2 := (keepBut.refl [] (w.alloc (.cells cs t))).alloc (.cells ds t)
  have r2 := rowAt.new (w.alloc (.cells cs t)) t ds
  rw [World.size_alloc] at r2
  exact ⟨k2.row (rowAt.new w t cs) (by simp), r2, k1.then k2 (by simp)⟩
end
section
theorem rqL_one (r : RQ) {ev : Value} (he : ev.oneCell' = true) : ∀ v ∈ rqL r ev, v.oneCell' = true := by
  intro v hv
  simp only [rqL, nameL, List.mem_cons, List.mem_append, List.mem_map, List.not_mem_nil, or_false] at hv
  rcases hv with rfl | rfl | rfl | rfl | ⟨b, _, rfl⟩ | rfl
  all_goals first | rfl | exact he
def rqZero : RQ := ⟨0, 0, 0, 0, List.replicate 32 0, []⟩
theorem rqZero_cells : (rqL rqZero (.slice none 0 0)).toArray = #[.int .i64 0, .int .i64 0, .int .i64 0, .int .i64 0, .int .u8 0, .int .u8 0, .int .u8 0, .int .u8 0, .int .u8 0, .int .u8 0, .int .u8 0, .int .u8 0, .int .u8 0, .int .u8 0, .int .u8 0, .int .u8 0, .int .u8 0, .int .u8 0, .int .u8 0, .int .u8 0, .int .u8 0, .int .u8 0, .int .u8 0, .int .u8 0, .int .u8 0, .int .u8 0, .int .u8 0, .int .u8 0, .int .u8 0, .int .u8 0, .int .u8 0, .int .u8 0, .int .u8 0, .int .u8 0, .int .u8 0, .int .u8 0, .slice none 0 0] := rfl
theorem info_rq : (Tryd.prog.info? 31).map (·.size) = some 37 := by kernel_rfl
theorem anL_one (r : AN) {ev : Value} (he : ev.oneCell' = true) : ∀ v ∈ anL r ev, v.oneCell' = true := by
  intro v hv
  simp only [anL, nameL, List.mem_cons, List.mem_append, List.mem_map, List.not_mem_nil, or_false] at hv
  rcases hv with rfl | rfl | rfl | rfl | rfl | ⟨b, _, rfl⟩ | rfl
  all_goals first | rfl | exact he
def anZero : AN := ⟨0, 0, 0, 0, 0, List.replicate 32 0, []⟩
theorem anZero_cells : (anL anZero (.slice none 0 0)).toArray = #[.int .i64 0, .int .i64 0, .int .i64 0, .int .i64 0, .int .i64 0, .int .u8 0, .int .u8 0, .int .u8 0, .int .u8 0, .int .u8 0, .int .u8 0, .int .u8 0, .int .u8 0, .int .u8 0, .int .u8 0, .int .u8 0, .int .u8 0, .int .u8 0, .int .u8 0, .int .u8 0, .int .u8 0, .int .u8 0, .int .u8 0, .int .u8 0, .int .u8 0, .int .u8 0, .int .u8 0, .int .u8 0, .int .u8 0, .int .u8 0, .int .u8 0, .int .u8 0, .int .u8 0, .int .u8 0, .int .u8 0, .int .u8 0, .int .u8 0, .slice none 0 0] := rfl
theorem info_an : (Tryd.prog.info? 40).map (·.size) = some 38 := by kernel_rfl
end
section
theorem wpList_box_to {P : Program} (w w' : World) {ops : Array Oper} {rest : List Oper} {o : Oper} {a : Act} {Q : Exit → Act → World → Prop} (hgd : o.guard = none) (t : TypeId) (x : Operand) (ho : o.op = .box t x)
    (bs : Array Value) (hx : a.eval x = .agg bs) (hw : w.alloc (.cells bs t) = w') (h : wpList P ops Q rest (a.put o.dst (.pointer (some ⟨w.heap.size, 0, none⟩))) w') : wpList P ops Q (o :: rest) a w := by
  subst hw
  exact wpList_box_agg w hgd t x ho bs hx h
end
section
def nameZ : List UInt8 := List.replicate 32 0
theorem nameZ_len : nameZ.length = 32 := List.length_replicate
theorem build_nameZ (w : World) : (Instr.build 28 #[]).run Tryd.prog w = .ok (.agg (nameL nameZ).toArray) w := by kernel_rfl
theorem wpList_build_v_g {P : Program} (w : World) {ops : Array Oper} {rest : List Oper} {o : Oper} {a : Act} {Q : Exit → Act → World → Prop} (t : TypeId) (ho : o.op = .build t #[])
    (v : Value) (hr : (Instr.build t #[]).run P w = .ok v w) (hw : Region.wanted o (yielded ops a.tmps) = true) (h : wpList P ops Q rest (a.put o.dst v) w) : wpList P ops Q (o :: rest) a w := by
  refine wpList_wantedP hw fun K hK => ?_
  have hK' := hK _ _ h
  unfold Oper.wp execOp
  simp only [ho, List.map_toArray, List.map_nil, Sem.run_bind, hr, Result.andThen_ok, Sem.run_pure]
  exact hK'
def RQ.ok (r : RQ) : Bool := inP r.client 0 2 && (inP r.num 1 9007199254740991 && (if r.kind = 1 ∨ r.kind = 3 then (r.version == 0) && (r.env.length == 0) else if r.kind = 2 then inP r.version 1 9007199254740991 && inP (r.env.length : Int) 1 1024 else if r.kind = 4 then inP r.version 1 255 && (decide (r.name = nameZ) && (r.env.length == 0)) else false))
def AN.ok (a : AN) : Bool := inP a.client 0 2 && (inP a.num 1 9007199254740991 && (inP a.code 0 3 && (inP a.version 0 9007199254740991 && (inP a.epoch 0 255 && decide (a.env.length ≤ 1024)))))
end
section
theorem cells_one {v : Value} (h : v.oneCell' = true) : v.cells = #[v] := by
  cases v <;> first | rfl | (simp [Value.oneCell'] at h)
section
variable {P : Program} {ops : Array Oper} {S : World → Prop} {o : Oper} {a : Act}
theorem yieldsIf_build (t : TypeId) (parts : Array (Nat × Operand)) (ho : o.op = .build t parts) (hw : Region.wanted o (yielded ops a.tmps) = true) (cells : Array Value) (h : P.built t (parts.map fun (i, x) => (i, a.eval x)).toList = some cells) : YieldsIf P ops S o (.agg cells) a :=
  Or.inl ⟨hw, fun w _ => by unfold execOp; simp only [ho, Sem.run_bind, run_build w t _ cells h, Result.andThen_ok]; rfl⟩
theorem yieldsIf_mid (ty : TypeId) (x : Operand) (ho : o.op = .load ty x) (b k : Nat) (hx : a.eval x = .pointer (some ⟨b, k, none⟩)) (cs : List Value) (d : TypeDesc) (hc : ∀ w, S w → w.rangeAt b k cs)
    (hu : P.underlying ty = some d) (hd : d.isRow = true) (hi : (P.info? ty).map (·.size) = some cs.length) (hw : Region.wanted o (yielded ops a.tmps) = true) : YieldsIf P ops S o (.agg cs.toArray) a :=
  Or.inl ⟨hw, fun w hS => by unfold execOp; simp only [ho, hx, Instr.loadAt, Instr.sureAddr, Sem.run_bind, Sem.run_pure, Result.andThen_ok, run_loadVar_mid w b k ty cs d (hc w hS) hu hd hi]⟩
end
def nilV : Value := .slice none 0 0
end
section
theorem bytesV.one {w : World} {F : List Nat} {v : Value} {l : List UInt8} (h : bytesV w F v l) : v.oneCell' = true := by
  obtain ⟨A, c, g, rfl, _⟩ := h; rfl
end
section
theorem ite_off {b : Bool} {A B : Prop} (hb : b = false) (h : B) : if b = true then A else B := by rw [if_neg (by simp [hb])]; exact h
def i64P (n : Int) : Prop := -9223372036854775808 ≤ n ∧ n ≤ 9223372036854775807
end
section
theorem reads.seenB {w : World} {A : Option Addr} {g : Nat} {l : List UInt8} (h : reads w A g l.length 1 (l.map bv)) : seen w A g l := fun hl => by
  obtain ⟨o, e1, e2, e3⟩ := h.2 (List.length_pos_iff.2 hl)
  exact ⟨o, e1, e2, fun j b hb => e3 j (bv b) (by rw [List.getElem?_map, hb]; rfl)⟩
def newIn (w w' : World) (G : List Nat) : Prop := ∀ y ∈ G, w.heap.size ≤ y ∧ y < w'.heap.size
theorem infoU8c : (Tryd.prog.info? 5).map (fun i => (i.zero, i.size, i.bytes)) = some (some (.int .u8 0), 1, 1) := by kernel_rfl
theorem infoIntc : (Tryd.prog.info? 3).map (fun i => (i.zero, i.size, i.bytes)) = some (some (.int .i64 0), 1, 8) := by kernel_rfl
end
section
theorem set_mid {l a b : List Value} {x : Value} {k : Nat} (hl : l = a ++ x :: b) (hk : a.length = k) (u : Value) : l.toArray.setIfInBounds k u = (a ++ u :: b).toArray := by
  subst hl; subst hk
  rw [List.setIfInBounds_toArray]
  congr 1
  rw [List.set_append_right _ _ (Nat.le_refl _), Nat.sub_self, List.set_cons_zero]
theorem newIn.keep {w a b : World} {G : List Nat} (h : newIn w a G) (hs : a.heap.size ≤ b.heap.size) : newIn w b G := fun y hy => ⟨(h y hy).1, Nat.lt_of_lt_of_le (h y hy).2 hs⟩
end
section
theorem kset (W : World) (b k : Nat) (u : Value) : keepBut [b] W (W.setCell ⟨b, k, none⟩ u) := (keepBut.refl [b] W).setCell ⟨b, k, none⟩ u (.inl (by simp))
end
section
theorem RQ.ok_facts {r : RQ} (h : r.ok = true) : (0 ≤ r.client ∧ r.client ≤ 2) ∧ (1 ≤ r.num ∧ r.num ≤ 9007199254740991) ∧ (1 ≤ r.kind ∧ r.kind ≤ 4) ∧ (0 ≤ r.version ∧ r.version ≤ 9007199254740991) ∧ r.env.length ≤ 1024 := by
  unfold RQ.ok at h
  rw [Bool.and_eq_true, Bool.and_eq_true, inP_iff, inP_iff] at h
  obtain ⟨h1, h2, h3⟩ := h
  refine ⟨h1, h2, ?_⟩
  split at h3
  · rename_i hk
    simp at h3
    rw [h3.1, h3.2]
    simp; omega
  · split at h3
    · rename_i hk
      rw [Bool.and_eq_true, inP_iff, inP_iff] at h3
      omega
    · split at h3
      · rename_i hk
        rw [Bool.and_eq_true, Bool.and_eq_true, inP_iff] at h3
        have := h3.2.2
        simp at this
        rw [this]
        simp; omega
      · cases h3
theorem AN.ok_facts {r : AN} (h : r.ok = true) : (0 ≤ r.client ∧ r.client ≤ 2) ∧ (1 ≤ r.num ∧ r.num ≤ 9007199254740991) ∧ (0 ≤ r.code ∧ r.code ≤ 3) ∧ (0 ≤ r.version ∧ r.version ≤ 9007199254740991) ∧ (0 ≤ r.epoch ∧ r.epoch ≤ 255) ∧ r.env.length ≤ 1024 := by
  unfold AN.ok at h
  simp only [Bool.and_eq_true, inP_iff, decide_eq_true_eq] at h
  exact h
end
section
theorem wpList_alloc_to {P : Program} (w w' : World) {ops : Array Oper} {rest : List Oper} {o : Oper} {a : Act} {Q : Exit → Act → World → Prop} (hgd : o.guard = none) (t : TypeId) (ho : o.op = .alloc t)
    (zs : Array Value) (hz : (P.info? t).bind (·.zero) = some (.agg zs)) (hw : w.alloc (.cells zs t) = w') (h : wpList P ops Q rest (a.put o.dst (.pointer (some ⟨w.heap.size, 0, none⟩))) w') : wpList P ops Q (o :: rest) a w := by
  subst hw
  cases hi : P.info? t with
  | none => rw [hi] at hz; cases hz
  | some i =>
    rw [hi] at hz
    have hz' : i.zero = some (.agg zs) := hz
    refine wpList_plain hgd fun K hK => ?_
    have hK' := hK _ _ h
    unfold Oper.wp execOp
    simp only [ho]
    simpa [Instr.alloc, zeroValue, typeInfo, hi, hz', newVar, newRow, Value.cells, go_sem] using hK'
theorem results_row_tmp {P : Program} {fn : Func} {p u : Tmp} {ty : TypeId} (h : fn.results = #[.cell p ty, .tmp u]) (tmps : Array Value) (w : World) (g : Nat) (t : TypeId) (cs : Array Value) (fr : Nat × Nat) (d : TypeDesc)
    (hp : tmps.getD p undef = .pointer (some ⟨g, 0, none⟩)) (hg : w.heap[g]? = some (.cells cs t fr))
    (hu : P.underlying ty = some d) (hd : (match d with | .struct _ | .array _ _ => true | _ => false) = true) (hi : (P.info? ty).map (·.size) = some cs.size) :
    (results fn tmps).run P w = .ok (.tuple #[.agg cs, tmps.getD u undef]) w := by
  rw [results_cell_tmp h, hp]
  simp [asAddr, run_loadVar_row w g t ty cs fr d hg hu hd hi]
theorem rqZero_name : rqZero.name.length = 32 := by rw [show rqZero.name = List.replicate 32 0 from rfl, List.length_replicate]
theorem anZero_name : anZero.name.length = 32 := by rw [show anZero.name = List.replicate 32 0 from rfl, List.length_replicate]
theorem zv_rq : (Tryd.prog.info? 31).bind (·.zero) = some (.agg (rqL rqZero nilV).toArray) := by kernel_rfl
theorem zv_an : (Tryd.prog.info? 40).bind (·.zero) = some (.agg (anL anZero nilV).toArray) := by kernel_rfl
theorem rqZ_len : (rqL rqZero nilV).length = 37 := rqL_len rqZero_name
theorem anZ_len : (anL anZero nilV).length = 38 := anL_len anZero_name
theorem rqZ_one : ∀ v ∈ rqL rqZero nilV, v.oneCell' = true := rqL_one rqZero rfl
theorem anZ_one : ∀ v ∈ anL anZero nilV, v.oneCell' = true := anL_one anZero rfl
end
section
theorem step_load_mid {P : Program} {ops : Array Oper} {op : Oper} {a : Act} {w : World} {K : Act → World → Prop} {Q : Exit → Act → World → Prop} {E : Prop} (hgd : op.guard = none) (ty : TypeId) (x : Operand) (ho : op.op = .load ty x)
    (b o : Nat) (hx : a.eval x = .pointer (some ⟨b, o, none⟩)) (cs : List Value) (d : TypeDesc) (hc : w.rangeAt b o cs)
    (hu : P.underlying ty = some d) (hd : d.isRow = true) (hi : (P.info? ty).map (·.size) = some cs.length)
    (h : K (a.put op.dst (.agg cs.toArray)) w) : if Region.wanted op (yielded ops a.tmps) = true then Oper.wp P op a w K Q else E := by
  rw [if_pos (by simp [Region.wanted, hgd])]
  exact wp_load_mid ty x ho b o hx cs d hc hu hd hi h
theorem step_store_mid {P : Program} {ops : Array Oper} {op : Oper} {a : Act} {w : World} {K : Act → World → Prop} {Q : Exit → Act → World → Prop} {E : Prop} (hgd : op.guard = none) (ty : TypeId) (x y : Operand) (ho : op.op = .store ty x y)
    (b o : Nat) (cells : Array Value) (hx : a.eval x = .pointer (some ⟨b, o, none⟩)) (hy : a.eval y = .agg cells)
    (ht : w.there b o cells.size) (hi : (P.info? ty).map (·.size) = some cells.size) (h1 : cells.all (·.oneCell') = true)
    (h : K (a.put op.dst undef) (w.setCells b o cells.toList)) : if Region.wanted op (yielded ops a.tmps) = true then Oper.wp P op a w K Q else E := by
  rw [if_pos (by simp [Region.wanted, hgd])]
  exact wp_store_mid ty x y ho b o cells hx hy ht hi h1 h
end
end Go.Proofs.YtmlmhnhilemjhaaDoor
