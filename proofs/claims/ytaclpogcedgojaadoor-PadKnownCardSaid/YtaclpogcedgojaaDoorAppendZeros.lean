/-
  APPEND OF MAKE: zeros behind a row of bytes of the call's own.
-/
import Derived.Test.YtaclpogcedgojaaDoorMemCopy
import Derived.Lib.AppendZerosOnto
namespace Go.Proofs.YtaclpogcedgojaaDoor
open Go.RowKit
set_option linter.unusedVariables false

theorem zero_cells (k : Nat) : Builtin.zeroCells (Value.int .u8 0).cells k = (List.replicate k (Value.int .u8 0)).toArray := by
  apply Array.ext
  · simp [Builtin.zeroCells, Value.cells]
  · intro i h1 h2
    simp [Builtin.zeroCells, Value.cells, Nat.mod_one]

theorem run_append_zeros {P : Program} (w : World) (t tn ty e : TypeId) (i : TypeInfo) (ht : P.underlying t = some (.slice e)) (htn : P.underlying tn = some (.int .i64)) (hi : P.info? e = some i) (hz : i.zero = some (.int .u8 0))
    (hsize : i.size = 1) (hby : i.bytes = 1) (v : Value) (n : Nat) (xs : List Value) (hown : owns w e 1 v n xs) (hn : 0 < n) (k : Nat) (hk : 0 < k) (hb : n + k ≤ 140737488355328) :
    ∃ v' w', (Builtin.append_ #[t, tn] ty #[v, .int .i64 k]).run P w = .ok v' w' ∧ owns w' e 1 v' (n + k) (xs ++ List.replicate k (.int .u8 0)) ∧ keepBut (homes v) w w' ∧
      (v'.ownBlock = v.ownBlock ∨ v'.ownBlock = some w.heap.size) := by
  have hall : (xs ++ List.replicate k (Value.int .u8 0)).length = (n + k) * 1 := by rw [List.length_append, hown.1, List.length_replicate, Nat.add_mul, Nat.mul_one k]
  rcases hown.2 with ⟨rfl, rfl⟩ | ⟨g', cap, cur, rfl, hg, hnc, hcm, hcs, htake⟩
  · omega
  · by_cases hroom : n + k ≤ cap
    · have h1 : ∀ u ∈ List.replicate k (Value.int .u8 0), u.oneCell' = true := by intro u hu; rw [(List.mem_replicate.1 hu).2]; rfl
      have hst := run_storeCells_at P g' n e (List.replicate k (Value.int .u8 0)) 0 cur w hg (by simp; omega) h1
      simp only [Nat.add_zero, List.length_replicate, List.append_assoc] at hst
      have hw : IntKind.i64.wrap (k : Int) = k := by rw [IntKind.wrap_i64]; omega
      have hneg : ¬ ((k : Int) < 0) := by omega
      have h48 : ¬ (281474976710656 < (k : Int)) := by omega
      have hk0 : ¬ k = 0 := by omega
      have hzc := zero_cells k
      have hrun : (Builtin.append_ #[t, tn] ty #[.slice (some ⟨g', 0, none⟩) n cap, .int .i64 k]).run P w = .ok (.slice (some ⟨g', 0, none⟩) (n + k) cap) (w.setRow g' (cur.toList.take n ++ List.replicate k (Value.int .u8 0) ++ cur.toList.drop (n + k)).toArray) := by
        simp [Builtin.append_, run_underlying ht, run_underlying htn, sizeOf, typeInfo, zeroValue, hi, hz, hsize, hby, asInt, asIntOf, hw, hneg, h48, hk0, hroom, hzc, Addr.add_lit, hst]
      refine ⟨_, _, hrun, ⟨hall, .inr ⟨g', cap, _, rfl, setRow_heap w g' cur _ e _ hg, hroom, hcm, ?_, ?_⟩⟩, ⟨rfl, rfl, rfl, by simp, fun j hj hS => setRow_other w g' j _ (fun e => hS (by simp [homes_some, e]))⟩, .inl rfl⟩
      · simp only [List.size_toArray, List.length_append, List.length_take, List.length_drop, Array.length_toList, List.length_replicate]
        omega
      · rw [Nat.mul_one] at htake
        rw [htake, ← hall]
        exact List.take_left
    · have holds : ∀ j u, xs[j]? = some u → w.cell? ((⟨g', 0, none⟩ : Addr).add j) = some u := by
        intro j u hu
        rw [add_plain, Nat.zero_add, rowAt.cell hg]
        rw [← htake, List.getElem?_take] at hu
        split at hu
        · simpa using hu
        · cases hu
      have hold := run_firstCells_some (P := P) w.drew i.size n ⟨g', 0, none⟩ n cap xs (by rw [hsize]; exact hown.1) (by simpa using holds)
      have hrun := Lib.run_append_grow_zeros (P := P) w t tn ty e i (.int .u8 0) .i64 .i64 ht htn hi hz (some ⟨g', 0, none⟩) n cap xs hold k hk (by omega) (by omega) (by omega) (by rw [hby]; omega) (growslice_fits (by omega) (by rw [hby]; omega))
      rw [zero_cells, zero_cells] at hrun
      have hge := grownCap_ge w (n + k) cap e
      have hcm' : grownCap w (n + k) cap e ≤ maxLen := grownCap_le_maxLen w (n + k) cap e (by unfold maxLen; omega)
      refine ⟨_, _, hrun, ⟨hall, .inr ⟨w.heap.size, _, _, rfl, rowAt.new w.drew _ _, hge, hcm', ?_, ?_⟩⟩, ((keepBut.refl _ _).drew).alloc _, .inr rfl⟩
      · have := hown.1
        simp only [Array.size_append, List.size_toArray, List.length_replicate]; omega
      · have hl : xs.length = n := by have := hown.1; omega
        simp only [Array.toList_append, List.append_assoc]
        rw [← List.append_assoc, ← hall]
        exact List.take_left
theorem infoU8z : (Tryd.prog.info? 5).map (fun i => (i.zero, i.size, i.bytes)) = some (some (.int .u8 0), 1, 1) := by kernel_rfl
/-- the same, as an operation under a guard that holds -/
theorem wp_append_zeros_g (w : World) {ops : Array Oper} {rest : List Oper} {o : Oper} {a : Act} {Q : Exit → Act → World → Prop} (s x : Operand)
    (ho : o.op = .call { callee := .builtin .append, args := #[s, x], argTypes := #[22, 3] })
    (v : Value) (n : Nat) (xs : List Value) (hs : a.eval s = v) (hown : owns w 5 1 v n xs) (k : Nat) (hx : a.eval x = .int .i64 (k : Int)) (hn : 0 < n) (hk : 0 < k) (hb : n + k ≤ 140737488355328)
    (h : ∀ A' c' w', owns w' 5 1 (.slice A' (n + k) c') (n + k) (xs ++ List.replicate k (.int .u8 0)) → keepBut (homes v) w w' → (∀ x ∈ homes (.slice A' (n + k) c'), x ∈ homes v ∨ w.heap.size ≤ x) → wpList Tryd.prog ops Q rest (a.put o.dst (.slice A' (n + k) c')) w')
    (hw : Region.wanted o (yielded ops a.tmps) = true) : wpList Tryd.prog ops Q (o :: rest) a w :=
  wpList_wanted hw fun K hK => by
    obtain ⟨i, hi, hz, hsz, hby⟩ := info_parts infoU8z
    obtain ⟨v', w', hr2, h2, h3, h4⟩ := run_append_zeros (P := Tryd.prog) w 22 3 o.type 5 i Tryd.underlying22 Tryd.underlying3 hi hz hsz hby v n xs hown hn k hk hb
    unfold Oper.wp execOp
    simp only [ho, resolve, invoke, builtin, Sem.run_bind, Sem.run_pure, Result.andThen_ok, List.map_toArray, List.map_cons, List.map_nil, hs, hx, hr2]
    obtain ⟨A', c', rfl, _⟩ := h2.form
    exact hK _ _ (h A' c' w' h2 h3 (fun x hx => (homes_after h4 hx).imp id (by omega)))
end Go.Proofs.YtaclpogcedgojaaDoor
