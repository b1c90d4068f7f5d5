/-
  SESS, 16: what a packet carries for a client.
-/
import Derived.Test.YtkpmlcgbffdloaaDoorSess15
namespace Go.Proofs.YtkpmlcgbffdloaaDoor
open Go.RowKit
set_option linter.unusedVariables false
set_option maxRecDepth 100000

theorem ta_cf (v : Value) (x : TypeId) (w : World) : (Instr.typeAssert (.iface 41 v) x 41 true).run Tryd.prog w = .ok (.tuple #[v, .bool true]) w := by
  simp [Instr.typeAssert, run_underlying Tryd.underlying41]
theorem ta_an (v : Value) (x : TypeId) (w : World) : (Instr.typeAssert (.iface 39 v) x 39 true).run Tryd.prog w = .ok (.tuple #[v, .bool true]) w := by
  simp [Instr.typeAssert, run_underlying Tryd.underlying39]
theorem zv_run {t : TypeId} {z : Value} (h : (Tryd.prog.info? t).bind (·.zero) = some z) (w : World) : (zeroValue t).run Tryd.prog w = .ok z w := by
  obtain ⟨i, hi, hz⟩ := Option.bind_eq_some_iff.1 h
  simp [zeroValue, typeInfo, hi, hz, go_sem]
theorem ta_cf_an (v : Value) (x : TypeId) (w : World) : (Instr.typeAssert (.iface 39 v) x 41 true).run Tryd.prog w = .ok (.tuple #[.agg (cfL cfZero nilV).toArray, .bool false]) w := by
  simp [Instr.typeAssert, run_underlying Tryd.underlying41, zv_run zv_cf]
theorem ta_cf_nil (x : TypeId) (w : World) : (Instr.typeAssert .nilIface x 41 true).run Tryd.prog w = .ok (.tuple #[.agg (cfL cfZero nilV).toArray, .bool false]) w := by
  simp [Instr.typeAssert, run_underlying Tryd.underlying41, zv_run zv_cf]
theorem ta_an_nil (x : TypeId) (w : World) : (Instr.typeAssert .nilIface x 39 true).run Tryd.prog w = .ok (.tuple #[.agg (anL anZero nilV).toArray, .bool false]) w := by
  simp [Instr.typeAssert, run_underlying Tryd.underlying39, zv_run zv_an]
def contV (p : PK) (av cv : Value) : Value := if p.kind = 7 then .iface 41 (.agg (cfL p.conf cv).toArray) else if p.kind = 2 then .iface 39 (.agg (anL p.ans av).toArray) else .nilIface
set_option maxHeartbeats 2000000 in
theorem contents_any (p : PK) (ev av cv vv bw : Value) (w : World) (h1 : p.req.name.length = 32) (h2 : p.ans.name.length = 32) :
    Calls Tryd.prog 44 #[.agg (pkL p ev av cv vv bw).toArray] w fun e w' => e = .returned (contV p av cv) ∧ keepBut [] w w' := by
  have k1 := (keepBut.refl [] w).alloc (.cells (pkL p ev av cv vv bw).toArray 44)
  have r1 := rowAt.new w 44 (pkL p ev av cv vv bw).toArray
  have hA := r1.pk h1 h2
  obtain ⟨X, hX⟩ : ∃ X, pkL p ev av cv vv bw = X := ⟨_, rfl⟩
  rw [hX] at k1 r1 hA ⊢
  obtain ⟨w1, hw1⟩ : ∃ w1, w.alloc (.cells X.toArray 44) = w1 := ⟨_, rfl⟩
  rw [hw1] at k1 r1 hA
  have y0 := hA.c0
  have ran := hA.an
  have rcf : w1.rangeAt w.heap.size 82 (cfL p.conf cv) := fun j v hv => by
    match j, hv with
    | 0, hv => have := hA.d0; simp [cfL] at hv; subst hv; exact this
    | 1, hv => have := hA.d1; simp [cfL] at hv; subst hv; exact this
    | 2, hv => have := hA.d2; simp [cfL] at hv; subst hv; exact this
  have hal : (Tryd.prog.info? 39).map (·.size) = some (anL p.ans av).length := by rw [anL_len h2]; exact info_anS
  obtain ⟨N, hN⟩ : ∃ N, anL p.ans av = N := ⟨_, rfl⟩
  obtain ⟨C, hC⟩ : ∃ C, cfL p.conf cv = C := ⟨_, rfl⟩
  rw [hN] at ran hal
  have hcl : (Tryd.prog.info? 41).map (·.size) = some C.length := by rw [← hC]; exact info_cf
  rw [hC] at rcf
  have HW := Lib.hid (And.intro hw1 k1)
  have HR := Lib.hid (And.intro ran (And.intro rcf (And.intro hal hcl)))
  have HN := Lib.hid (And.intro hN hC)
  have HC0 := Lib.hid (show contV p av cv = if p.kind = 7 then .iface 41 (.agg C.toArray) else if p.kind = 2 then .iface 39 (.agg N.toArray) else .nilIface by rw [← hN, ← hC]; rfl)
  obtain ⟨V, hV⟩ : ∃ V, contV p av cv = V := ⟨_, rfl⟩
  rw [hV] at HC0 ⊢
  have c1 : Tryd.prog.concrete 41 = true := by kernel_rfl
  have c2 : Tryd.prog.concrete 39 = true := by kernel_rfl
  clear hA ran rcf hal hcl hw1 k1 hN hC r1 hX h1 h2 hV
  obtain ⟨kd, hkd⟩ : ∃ k, p.kind = k := ⟨_, rfl⟩
  rw [hkd] at y0 HC0
  clear hkd
  have cs : kd = 7 ∨ ((kd == 7) = false ∧ kd = 2) ∨ ((kd == 7) = false ∧ (kd == 2) = false) := by
    by_cases h : kd = 7
    · exact .inl h
    · have h' : (kd == 7) = false := by simp [h]
      by_cases g : kd = 2
      · exact .inr (.inl ⟨h', g⟩)
      · exact .inr (.inr ⟨h', by simp [g]⟩)
  rcases cs with rfl | ⟨hk, rfl⟩ | ⟨hk, hk2⟩
  · have HV := Lib.hid (show V = .iface 41 (.agg C.toArray) by rw [HC0.out, if_pos rfl])
    clear HC0
    go_enter Tryd.func44, Tryd.ntmps44
    go_wp2_with (first
      | (with_reducible refine wpList_box_to _ _ rfl 44 (.tmp 0) rfl _ rfl HW.out.1 ?_)
      | (refine wpList_load_mid rfl 41 (.tmp 7) rfl w.heap.size 82 rfl C _ HR.out.2.1 Tryd.underlying41 rfl HR.out.2.2.2 ?_))
    go_ret
    exact ⟨by rw [HV.out]; rfl, HW.out.2⟩
  · have HV := Lib.hid (show V = .iface 39 (.agg N.toArray) by rw [HC0.out, if_neg (by decide), if_pos rfl])
    clear HC0
    go_enter Tryd.func44, Tryd.ntmps44
    go_wp2_with (first
      | (with_reducible refine wpList_box_to _ _ rfl 44 (.tmp 0) rfl _ rfl HW.out.1 ?_)
      | (refine wpList_load_mid rfl 39 (.tmp 12) rfl w.heap.size 44 rfl N _ HR.out.1 Tryd.underlying39 rfl HR.out.2.2.1 ?_))
    go_ret
    exact ⟨by rw [HV.out]; rfl, HW.out.2⟩
  · have HV := Lib.hid (show V = .nilIface by rw [HC0.out, if_neg (by simpa using hk), if_neg (by simpa using hk2)])
    clear HC0
    go_enter Tryd.func44, Tryd.ntmps44
    go_wp2_with (first
      | (with_reducible refine wpList_box_to _ _ rfl 44 (.tmp 0) rfl _ rfl HW.out.1 ?_))
    go_ret
    exact ⟨by rw [HV.out]; rfl, HW.out.2⟩
end Go.Proofs.YtkpmlcgbffdloaaDoor
