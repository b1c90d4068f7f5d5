/-
  TABLE, 4: laws of slices.Insert's builtins for elements of many cells: copy, append of zeros, overlaps.
-/
import Derived.Test.YtmlmhnhilemjhaaDoorTB3
import Derived.Laws.CopyOwn
import Derived.Lib.Overlaps
import Derived.Lib.AppendZerosOnto
namespace Go.Proofs.YtmlmhnhilemjhaaDoor
open Go.RowKit
set_option linter.unusedVariables false
set_option maxRecDepth 100000
set_option linter.unusedSimpArgs false

section
variable {P : Program} (w : World)
theorem run_firstCells_reads {A : Option Addr} {gs m sz sLen c : Nat} {cs : List Value} (h : reads w A gs m sz cs) :
    (Builtin.firstCells sz m (.slice A sLen c)).run P w = .ok cs.toArray w := by
  rcases Nat.eq_zero_or_pos m with h0 | h0
  · subst h0
    have hn : cs = [] := List.eq_nil_of_length_eq_zero (by simpa using h.1)
    subst hn
    cases A <;> simp [Builtin.firstCells, loadCells, loadCellsFrom]
  · obtain ⟨o, rfl, _, hc⟩ := h.2 h0
    have := run_loadCells_list (P := P) w ⟨gs, o, none⟩ cs (fun j v hj => by rw [add_plain]; exact hc j v hj)
    rw [h.1] at this
    simp only [Builtin.firstCells]
    exact this
theorem setRow_keep {g : Nat} {t : TypeId} {cur : Array Value} (hg : rowAt w g t cur) (cs : Array Value) : keepBut [g] w (w.setRow g cs) :=
  ⟨rfl, rfl, rfl, by simp [World.setRow], fun k hk hS => setRow_other w g k _ (fun e => hS (by simp [e])), fun k hs => by
    by_cases hkg : k = g
    · subst hkg; exact fun j => rowAt.free (setRow_heap w k cur cs t _ hg) j
    · exact hs.of (setRow_other w g k _ hkg)⟩
theorem run_copyN (dT sT ty e : TypeId) (hu : P.underlying dT = some (.slice e)) (i : TypeInfo) (hi : P.info? e = some i) (sz : Nat) (hsz : i.size = sz)
    (g off dLen dCap : Nat) (A : Option Addr) (gs sLen c m : Nat) (cur : Array Value) (t : TypeId) (hg : rowAt w g t cur) (cs : List Value) (hm : Nat.min sLen dLen = m) (hsrc : reads w A gs m sz cs)
    (hfit : off + cs.length ≤ cur.size) (h1 : ∀ v ∈ cs, v.oneCell' = true) :
    ∃ w', (Builtin.copy_ #[dT, sT] ty #[.slice (some ⟨g, off, none⟩) dLen dCap, .slice A sLen c]).run P w = .ok (.int .i64 (m : Int)) w' ∧
      rowAt w' g t (splice cur.toList off cs).toArray ∧ keepBut [g] w w' := by
  subst hsz
  have hl := run_firstCells_reads (P := P) w (sLen := sLen) (c := c) hsrc
  have hst := run_storeCells_at P g off t cs 0 cur w hg (by simpa using hfit) h1
  refine ⟨w.setRow g (cur.toList.take (off + 0) ++ cs ++ cur.toList.drop (off + 0 + cs.length)).toArray, ?_, ?_, setRow_keep w hg _⟩
  · have hm' : min sLen dLen = m := hm
    simp [Builtin.copy_, run_underlying hu, Builtin.lenOf, sizeOf, typeInfo, hi, hm', hm, hl, hst, goInt]
  · have := setRow_heap w g cur (cur.toList.take (off + 0) ++ cs ++ cur.toList.drop (off + 0 + cs.length)).toArray t _ hg
    unfold rowAt
    rw [this]
    simp [splice]
theorem wp_copyN {ops : Array Oper} {rest : List Oper} {o : Oper} {a : Act} {Q : Exit → Act → World → Prop} (hgd : o.guard = none) (d s : Operand) (dT sT : TypeId)
    (ho : o.op = .call { callee := .builtin .copy, args := #[d, s], argTypes := #[dT, sT] }) (e : TypeId) (hu : P.underlying dT = some (.slice e)) (i : TypeInfo) (hi : P.info? e = some i) (sz : Nat) (hsz : i.size = sz)
    (g off dLen dCap : Nat) (A : Option Addr) (gs sLen c m : Nat) (hd : a.eval d = .slice (some ⟨g, off, none⟩) dLen dCap) (hs : a.eval s = .slice A sLen c)
    (cur : Array Value) (t : TypeId) (hg : rowAt w g t cur) (cs : List Value) (hm : Nat.min sLen dLen = m) (hsrc : reads w A gs m sz cs)
    (hfit : off + cs.length ≤ cur.size) (h1 : ∀ v ∈ cs, v.oneCell' = true)
    (h : ∀ w', rowAt w' g t (splice cur.toList off cs).toArray → keepBut [g] w w' → wpList P ops Q rest (a.put o.dst (.int .i64 (m : Int))) w') : wpList P ops Q (o :: rest) a w := by
  refine wpList_plain hgd fun K hK => ?_
  obtain ⟨w', hrun, h2, h3⟩ := run_copyN (P := P) w dT sT o.type e hu i hi sz hsz g off dLen dCap A gs sLen c m cur t hg cs hm hsrc hfit h1
  unfold Oper.wp
  simp [execOp, ho, resolve, invoke, builtin, hd, hs, hrun, Result.andThen]
  exact hK _ _ (h w' h2 h3)
theorem step_copyN {ops : Array Oper} {o : Oper} {a : Act} {K : Act → World → Prop} {Q : Exit → Act → World → Prop} {E : Prop} (hgd : o.guard = none) (d s : Operand) (dT sT : TypeId)
    (ho : o.op = .call { callee := .builtin .copy, args := #[d, s], argTypes := #[dT, sT] }) (e : TypeId) (hu : P.underlying dT = some (.slice e)) (i : TypeInfo) (hi : P.info? e = some i) (sz : Nat) (hsz : i.size = sz)
    (g off dLen dCap : Nat) (A : Option Addr) (gs sLen c m : Nat) (hd : a.eval d = .slice (some ⟨g, off, none⟩) dLen dCap) (hs : a.eval s = .slice A sLen c)
    (cur : Array Value) (t : TypeId) (hg : rowAt w g t cur) (cs : List Value) (hm : Nat.min sLen dLen = m) (hsrc : reads w A gs m sz cs)
    (hfit : off + cs.length ≤ cur.size) (h1 : ∀ v ∈ cs, v.oneCell' = true)
    (h : ∀ w', rowAt w' g t (splice cur.toList off cs).toArray → keepBut [g] w w' → K (a.put o.dst (.int .i64 (m : Int))) w') :
    if Region.wanted o (yielded ops a.tmps) = true then Oper.wp P o a w K Q else E := by
  have hw : Region.wanted o (yielded ops a.tmps) = true := by simp [Region.wanted, hgd]
  rw [if_pos hw]
  obtain ⟨w', hrun, h2, h3⟩ := run_copyN (P := P) w dT sT o.type e hu i hi sz hsz g off dLen dCap A gs sLen c m cur t hg cs hm hsrc hfit h1
  unfold Oper.wp
  simp [execOp, ho, resolve, invoke, builtin, hd, hs, hrun, Result.andThen]
  exact h w' h2 h3
/-- append of k zeros where there is no room -/
theorem wp_appendZeros {ops : Array Oper} {rest : List Oper} {o : Oper} {a : Act} {Q : Exit → Act → World → Prop} (hgd : o.guard = none) (s x : Operand) (t tn : TypeId)
    (ho : o.op = .call { callee := .builtin .append, args := #[s, x], argTypes := #[t, tn] })
    (e : TypeId) (i : TypeInfo) (z : Value) (sz bytes : Nat) (kn : IntKind) (ht : P.underlying t = some (.slice e)) (htn : P.underlying tn = some (.int kn)) (hi : P.info? e = some i) (hz : i.zero = some z)
    (hsize : i.size = sz) (hby : i.bytes = bytes) (hzs : z.cells.size = sz) (hsz : 0 < sz)
    (A : Option Addr) (g n c k : Nat) (xs : List Value) (hs : a.eval s = .slice A n c) (hr : reads w A g n sz xs) (hx : a.eval x = .int .i64 (k : Int)) (h0 : 0 < k) (hc : c < n + k)
    (hbytes : (n + k) * bytes ≤ 140737488355328) (hlen : n + k ≤ maxLen)
    (h : ∀ w' c' (Z : List Value), rowAt w' w.heap.size e (xs ++ Z).toArray → n + k ≤ c' → c' ≤ maxLen → (xs ++ Z).length = c' * sz → keepBut [] w w' → wpList P ops Q rest (a.put o.dst (.slice (some ⟨w.heap.size, 0, none⟩) (n + k) c')) w') : wpList P ops Q (o :: rest) a w := by
  refine wpList_plain hgd fun K hK => ?_
  subst hsize
  subst hby
  have hold := run_firstCells_reads (P := P) w.drew (sLen := n) (c := c) (hr.keepS ((keepBut.refl [] w).drew) (by simp))
  have hrun := Lib.run_append_grow_zeros (P := P) w t tn o.type e i z .i64 kn ht htn hi hz A n c xs hold k h0 hsz hc (by simp only [maxLen] at hlen; omega) (by
    have : k * i.bytes ≤ (n + k) * i.bytes := Nat.mul_le_mul_right _ (by omega)
    omega) (growslice_fits (by omega) hbytes)
  unfold Oper.wp execOp
  simp only [ho, resolve, invoke, builtin, Sem.run_bind, Sem.run_pure, Result.andThen_ok, List.map_toArray, List.map_cons, List.map_nil, hs, hx, hrun]
  have hge := grownCap_ge w (n + k) c e
  have hcm : grownCap w (n + k) c e ≤ maxLen := grownCap_le_maxLen w (n + k) c e hlen
  refine hK _ _ (h _ _ ((Builtin.zeroCells z.cells k).toList ++ (Builtin.zeroCells z.cells (grownCap w (n + k) c e - (n + k))).toList) ?_ hge hcm ?_ (((keepBut.refl _ _).drew).alloc _))
  · have := rowAt.new w.drew e (xs.toArray ++ Builtin.zeroCells z.cells k ++ Builtin.zeroCells z.cells (grownCap w (n + k) c e - (n + k)))
    have e2 : (xs ++ ((Builtin.zeroCells z.cells k).toList ++ (Builtin.zeroCells z.cells (grownCap w (n + k) c e - (n + k))).toList)).toArray = xs.toArray ++ Builtin.zeroCells z.cells k ++ Builtin.zeroCells z.cells (grownCap w (n + k) c e - (n + k)) := by
      apply Array.ext'
      simp
    rw [e2]
    exact this
  · have h1 := hr.1
    simp only [List.length_append, Array.length_toList, size_zeroCells, hzs, h1]
    rw [← Nat.add_mul, ← Nat.add_mul]
    rw [show n + (k + (grownCap w (n + k) c e - (n + k))) = grownCap w (n + k) c e by omega]
end

theorem splice_up {α : Type} {L X1 N X2 : List α} {a : Nat} (ha : L.take a = X1) (hl : X1.length = a) (hb : a + N.length + X2.length ≤ L.length) :
    (splice (splice L (a + N.length) X2) a N).take (a + N.length + X2.length) = X1 ++ (N ++ X2) := by
  have e0 : (splice L (a + N.length) X2).take a = X1 := by
    unfold splice
    rw [List.take_append_of_le_length (by rw [List.length_take]; omega), List.take_take, Nat.min_eq_left (by omega), ha]
  have e1 : (splice L (a + N.length) X2).drop (a + N.length) = X2 ++ L.drop (a + N.length + X2.length) := by
    unfold splice
    exact List.drop_left' (by rw [List.length_take]; omega)
  show ((splice L (a + N.length) X2).take a ++ (N ++ (splice L (a + N.length) X2).drop (a + N.length))).take _ = _
  rw [e0, e1, show X1 ++ (N ++ (X2 ++ L.drop (a + N.length + X2.length))) = (X1 ++ (N ++ X2)) ++ L.drop (a + N.length + X2.length) by simp]
  exact List.take_left' (by simp only [List.length_append, hl]; omega)
theorem splice_on {α : Type} {L X1 N X2 : List α} {a : Nat} (ha : L.take a = X1) (hl : X1.length = a) (hb : a + N.length + X2.length ≤ L.length) :
    (splice (splice L a N) (a + N.length) X2).take (a + N.length + X2.length) = X1 ++ (N ++ X2) := by
  have e1 : (splice L a N).take (a + N.length) = X1 ++ N := by
    unfold splice
    rw [ha, ← List.append_assoc]
    exact List.take_left' (by simp [hl])
  show ((splice L a N).take (a + N.length) ++ (X2 ++ (splice L a N).drop (a + N.length + X2.length))).take _ = _
  rw [e1, show X1 ++ N ++ (X2 ++ (splice L a N).drop (a + N.length + X2.length)) = (X1 ++ (N ++ X2)) ++ (splice L a N).drop (a + N.length + X2.length) by simp]
  exact List.take_left' (by simp only [List.length_append, hl]; omega)
end Go.Proofs.YtmlmhnhilemjhaaDoor
