/-
  PACK, 25: what was read, if nothing remains and it may be so.
-/
import Derived.Test.YthfdkonhjpdflaaGreatDoorPkE
import Derived.Test.YthfdkonhjpdflaaGreatDoorLow2
import Derived.Laws.ResultCell
namespace Go.Proofs.YthfdkonhjpdflaaGreatDoor
open Go.RowKit
set_option linter.unusedVariables false
set_option maxRecDepth 100000
set_option linter.unusedSimpArgs false

theorem wpList_alloc_to {P : Program} (w w' : World) {ops : Array Oper} {rest : List Oper} {o : Oper} {a : Act} {Q : Exit → Act → World → Prop} (hgd : o.guard = none) (t : TypeId) (ho : o.op = .alloc t)
    (zs : Array Value) (hz : (P.info? t).bind (·.zero) = some (.agg zs)) (hw : w.alloc (.cells zs t) = w') (h : wpList P ops Q rest (a.put o.dst (.pointer (some ⟨w.heap.size, 0, none⟩))) w') : wpList P ops Q (o :: rest) a w := by
  subst hw
  cases hi : P.info? t with
  | none => rw [hi] at hz; cases hz
  | some i =>
    rw [hi] at hz
    have hz' : i.zero = some (.agg zs) := hz
    refine wpList_plain hgd fun K hK => ?_
    have hK' := hK _ _ h
    unfold Oper.wp execOp
    simp only [ho]
    simpa [Instr.alloc, zeroValue, typeInfo, hi, hz', newVar, newRow, Value.cells, go_sem] using hK'
theorem results_row_tmp {P : Program} {fn : Func} {p u : Tmp} {ty : TypeId} (h : fn.results = #[.cell p ty, .tmp u]) (tmps : Array Value) (w : World) (g : Nat) (t : TypeId) (cs : Array Value) (fr : Nat × Nat) (d : TypeDesc)
    (hp : tmps.getD p undef = .pointer (some ⟨g, 0, none⟩)) (hg : w.heap[g]? = some (.cells cs t fr))
    (hu : P.underlying ty = some d) (hd : (match d with | .struct _ | .array _ _ => true | _ => false) = true) (hi : (P.info? ty).map (·.size) = some cs.size) :
    (results fn tmps).run P w = .ok (.tuple #[.agg cs, tmps.getD u undef]) w := by
  rw [results_cell_tmp h, hp]
  simp [asAddr, run_loadVar_row w g t ty cs fr d hg hu hd hi]
def eL {α : Type} (E : Int) (x z : α) : α := if E = 0 then x else z
theorem eL_ok {α : Type} {E : Int} (x z : α) (h : E = 0) : eL E x z = x := by unfold eL; rw [if_pos h]
theorem eL_no {α : Type} {E : Int} (x z : α) (h : E ≠ 0) : eL E x z = z := by unfold eL; rw [if_neg h]
def endP (e : Int) (ok : Bool) : Int := if e = 0 then (if ok then 0 else 4) else e
def pkZero : PK := ⟨0, 0, 0, 0, 0, 0, false, rqZero, anZero, cfZero, [], []⟩
theorem rqZero_name : rqZero.name.length = 32 := by rw [show rqZero.name = List.replicate 32 0 from rfl, List.length_replicate]
theorem anZero_name : anZero.name.length = 32 := by rw [show anZero.name = List.replicate 32 0 from rfl, List.length_replicate]
theorem zv_rq : (Tryz.prog.info? 26).bind (·.zero) = some (.agg (rqL rqZero nilV).toArray) := by kernel_rfl
theorem zv_an : (Tryz.prog.info? 28).bind (·.zero) = some (.agg (anL anZero nilV).toArray) := by kernel_rfl
theorem zv_cf : (Tryz.prog.info? 31).bind (·.zero) = some (.agg (cfL cfZero nilV).toArray) := by kernel_rfl
theorem zv_pk : (Tryz.prog.info? 34).bind (·.zero) = some (.agg (pkL pkZero nilV nilV nilV nilV nilV).toArray) := by kernel_rfl
theorem rqZ_len : (rqL rqZero nilV).length = 37 := rqL_len rqZero_name
theorem anZ_len : (anL anZero nilV).length = 38 := anL_len anZero_name
theorem pkZ_len : (pkL pkZero nilV nilV nilV nilV nilV).length = 87 := pkL_len rqZero_name anZero_name
theorem rqZ_one : ∀ v ∈ rqL rqZero nilV, v.oneCell' = true := rqL_one rqZero rfl
theorem anZ_one : ∀ v ∈ anL anZero nilV, v.oneCell' = true := anL_one anZero rfl
theorem cfZ_one : ∀ v ∈ cfL cfZero nilV, v.oneCell' = true := by intro v hv; simp only [cfL, List.mem_cons, List.not_mem_nil, or_false] at hv; rcases hv with rfl | rfl | rfl <;> rfl
theorem pkZ_one : ∀ v ∈ pkL pkZero nilV nilV nilV nilV nilV, v.oneCell' = true := pkL_one rfl rfl rfl rfl rfl
theorem cfL_one (c : CF) {cv : Value} (h : cv.oneCell' = true) : ∀ v ∈ cfL c cv, v.oneCell' = true := by
  intro v hv; simp only [cfL, List.mem_cons, List.not_mem_nil, or_false] at hv; rcases hv with rfl | rfl | rfl
  · rfl
  · rfl
  · exact h

set_option maxHeartbeats 8000000 in
theorem endedReq_any (F : List Nat) (p g : Nat) (r : RS) (q : RQ) (ev : Value) (w : World) (hr : isR w p g r) (hq : rqV w F q ev) :
    Calls Tryz.prog 105 #[.pointer (some ⟨p, 0, none⟩), .agg (rqL q ev).toArray, .func (.func 20) #[] #[]] w fun e w' => e = .returned (.tuple #[.agg (eL (endP r.end_ q.ok) (rqL q ev) (rqL rqZero nilV)).toArray, .int .i64 (endP r.end_ q.ok)]) ∧ keepBut [] w w' := by
  have hqz : (rqL q ev).length = 37 := rqL_len hq.1
  have hqo : ∀ v ∈ rqL q ev, v.oneCell' = true := rqL_one q hq.2.one
  obtain ⟨X, hX⟩ : ∃ X, rqL q ev = X := ⟨_, rfl⟩
  obtain ⟨Z, hZ⟩ : ∃ Z, rqL rqZero nilV = Z := ⟨_, rfl⟩
  have zv := zv_rq
  have zl := rqZ_len
  have zo := rqZ_one
  have hcall := fun w1 (k : keepBut [] w w1) => checkReq_any F q ev w1 ⟨hq.1, hq.2.keep k (by simp)⟩
  rw [hZ] at zv zl zo ⊢
  rw [hX] at hqz hqo hcall ⊢
  obtain ⟨wA, hwA⟩ : ∃ wA, w.alloc (.cells X.toArray 26) = wA := ⟨_, rfl⟩
  obtain ⟨wB, hwB⟩ : ∃ wB, wA.alloc (.cells Z.toArray 26) = wB := ⟨_, rfl⟩
  obtain ⟨w3, hw3⟩ : ∃ w3, wB.alloc (.cells Z.toArray 26) = w3 := ⟨_, rfl⟩
  have rA := rowAt.new w 26 X.toArray
  have rB := rowAt.new wA 26 Z.toArray
  have r3 := rowAt.new wB 26 Z.toArray
  have kA := (keepBut.refl [] w).alloc (.cells X.toArray 26)
  have kB := (keepBut.refl [] wA).alloc (.cells Z.toArray 26)
  have k3 := (keepBut.refl [] wB).alloc (.cells Z.toArray 26)
  rw [hwA] at rA kA
  rw [hwB] at rB kB
  rw [hw3] at r3 k3
  have rA3 := k3.row (kB.row rA (by simp)) (by simp)
  have rB3 := k3.row rB (by simp)
  have kk := (kA.then kB (by simp)).then k3 (by simp)
  have hI : (Tryz.prog.info? 26).map (·.size) = some X.length := by rw [hqz]; exact info_rq
  have hJ : (Tryz.prog.info? 26).map (·.size) = some Z.length := by rw [zl]; exact info_rq
  have hlB : w.heap.size ≤ wA.heap.size := kA.size
  have hne : wA.heap.size ≠ w.heap.size := by have := rA.lt; omega
  have hne2 : wA.heap.size ≠ wB.heap.size := by have := rB.lt; omega
  have HW := Lib.hid (And.intro hwA (And.intro hwB (And.intro hw3 zv)))
  have HR := Lib.hid (And.intro rA3 (And.intro rB3 (And.intro r3 (And.intro kk (And.intro hI (And.intro hJ (And.intro hqo (And.intro zo (And.intro hqz (And.intro zl (hr.keep kk (by simp) (by simp))))))))))))
  have HC := Lib.hid (hcall w3 kk)
  have HN := Lib.hid (And.intro hne (And.intro hne2 hlB))
  clear hwA hwB hw3 zv rA rB r3 kA kB k3 rA3 rB3 kk hI hJ hqo zo hqz zl hr hcall hX hZ hq hne hne2 hlB
  by_cases he : r.end_ = 0
  · cases hok : q.ok
    · have HE := Lib.hid he
      have hE : Hid (endP r.end_ q.ok = 4) := Lib.hid (by unfold endP; rw [if_pos he, hok]; rfl)
      clear he
      go_enter Tryz.func105, Tryz.ntmps105
      go_upto_region 2 with (first
        | (with_reducible refine wpList_box_to _ _ rfl 26 (.tmp 1) rfl _ rfl HW.out.1 ?_)
        | (with_reducible refine wpList_alloc_to _ _ rfl 26 rfl _ HW.out.2.2.2 HW.out.2.1 ?_)
        | (with_reducible refine wpList_alloc_to _ _ rfl 26 rfl _ HW.out.2.2.2 HW.out.2.2.1 ?_))
      go_upto_region 3 with (go_at_call 147; refine (end_any p g r _ HR.out.2.2.2.2.2.2.2.2.2.2).mono ?_; rintro e w4 ⟨rfl, rfl⟩; rw [HE.out])
      go_upto_if 19 with (first
        | (refine wpList_load_mid rfl 26 (.tmp 4) rfl w.heap.size 0 rfl X _ HR.out.1.rangeAll Tryz.underlying26 rfl HR.out.2.2.2.2.1 ?_)
        | (go_at_call 20; refine (HC.out).mono ?_; rintro e w5 ⟨rfl, k5⟩; rw [hok]; have RB := Lib.hid (k5.row HR.out.2.1 (by simp)); have RS := Lib.hid (k5.row HR.out.2.2.1 (by simp)); have KK := Lib.hid (HR.out.2.2.2.1.then k5 (by simp)); clear k5))
      have rs := RB.out.setL (vs := Z) (o := 0)
      rw [putL_all (by have h1 := HR.out.2.2.2.2.2.2.2.2.2.1; have h2 := HR.out.2.2.2.2.2.2.2.2.2.1; simp only [List.size_toArray] <;> omega)] at rs
      have ks := KK.out.setL (vs := Z) (g := wA.heap.size) (o := 0) (.inr HN.out.2.2)
      have ht := RB.out.there (o := 0) (n := Z.toArray.size) (by have h1 := HR.out.2.2.2.2.2.2.2.2.2.1; have h2 := HR.out.2.2.2.2.2.2.2.2.2.1; simp only [List.size_toArray] <;> omega)
      have hJ : (Tryz.prog.info? 26).map (·.size) = some Z.toArray.size := by rw [List.size_toArray]; exact HR.out.2.2.2.2.2.1
      have HS := Lib.hid (And.intro rs (And.intro ks (And.intro ht hJ)))
      have HO := Lib.hid (all_oneCell_toArray HR.out.2.2.2.2.2.2.2.1)
      clear rs ks ht hJ
      go_wp2_with (first
        | (refine wpList_load_mid rfl 26 (.tmp 8) rfl wB.heap.size 0 rfl Z _ RS.out.rangeAll Tryz.underlying26 rfl HR.out.2.2.2.2.2.1 ?_)
        | (refine wpList_store_mid rfl 26 (.tmp 6) (.tmp 20) rfl wA.heap.size 0 Z.toArray rfl rfl HS.out.2.2.1 HS.out.2.2.2 HO.out ?_))
      refine bodyPost_ret (results_row_tmp rfl _ _ wA.heap.size 26 _ (0, 0) _ rfl HS.out.1 Tryz.underlying26 rfl HS.out.2.2.2) rfl ?_
      exact ⟨by rw [← hok, hE.out, eL_no _ _ (by decide)]; rfl, HS.out.2.1⟩
    · have HE := Lib.hid he
      have hE : Hid (endP r.end_ q.ok = 0) := Lib.hid (by unfold endP; rw [if_pos he, hok]; rfl)
      clear he
      go_enter Tryz.func105, Tryz.ntmps105
      go_upto_region 2 with (first
        | (with_reducible refine wpList_box_to _ _ rfl 26 (.tmp 1) rfl _ rfl HW.out.1 ?_)
        | (with_reducible refine wpList_alloc_to _ _ rfl 26 rfl _ HW.out.2.2.2 HW.out.2.1 ?_)
        | (with_reducible refine wpList_alloc_to _ _ rfl 26 rfl _ HW.out.2.2.2 HW.out.2.2.1 ?_))
      go_upto_region 3 with (go_at_call 147; refine (end_any p g r _ HR.out.2.2.2.2.2.2.2.2.2.2).mono ?_; rintro e w4 ⟨rfl, rfl⟩; rw [HE.out])
      go_upto_if 19 with (first
        | (refine wpList_load_mid rfl 26 (.tmp 4) rfl w.heap.size 0 rfl X _ HR.out.1.rangeAll Tryz.underlying26 rfl HR.out.2.2.2.2.1 ?_)
        | (go_at_call 20; refine (HC.out).mono ?_; rintro e w5 ⟨rfl, k5⟩; rw [hok]; have RB := Lib.hid (k5.row HR.out.2.1 (by simp)); have RS := Lib.hid (k5.row HR.out.1 (by simp)); have KK := Lib.hid (HR.out.2.2.2.1.then k5 (by simp)); clear k5))
      have rs := RB.out.setL (vs := X) (o := 0)
      rw [putL_all (by have h1 := HR.out.2.2.2.2.2.2.2.2.1; have h2 := HR.out.2.2.2.2.2.2.2.2.2.1; simp only [List.size_toArray] <;> omega)] at rs
      have ks := KK.out.setL (vs := X) (g := wA.heap.size) (o := 0) (.inr HN.out.2.2)
      have ht := RB.out.there (o := 0) (n := X.toArray.size) (by have h1 := HR.out.2.2.2.2.2.2.2.2.1; have h2 := HR.out.2.2.2.2.2.2.2.2.2.1; simp only [List.size_toArray] <;> omega)
      have hJ : (Tryz.prog.info? 26).map (·.size) = some X.toArray.size := by rw [List.size_toArray]; exact HR.out.2.2.2.2.1
      have HS := Lib.hid (And.intro rs (And.intro ks (And.intro ht hJ)))
      have HO := Lib.hid (all_oneCell_toArray HR.out.2.2.2.2.2.2.1)
      clear rs ks ht hJ
      go_wp2_with (first
        | (refine wpList_load_mid rfl 26 (.tmp 4) rfl w.heap.size 0 rfl X _ RS.out.rangeAll Tryz.underlying26 rfl HR.out.2.2.2.2.1 ?_)
        | (refine wpList_store_mid rfl 26 (.tmp 6) (.tmp 21) rfl wA.heap.size 0 X.toArray rfl rfl HS.out.2.2.1 HS.out.2.2.2 HO.out ?_))
      refine bodyPost_ret (results_row_tmp rfl _ _ wA.heap.size 26 _ (0, 0) _ rfl HS.out.1 Tryz.underlying26 rfl HS.out.2.2.2) rfl ?_
      exact ⟨by rw [← hok, hE.out, eL_ok _ _ rfl]; rfl, HS.out.2.1⟩
  · have hb : (r.end_ != 0) = true := by simp [he]
    have hE : Hid (endP r.end_ q.ok = r.end_ ∧ r.end_ ≠ 0) := Lib.hid ⟨by unfold endP; rw [if_neg he], he⟩
    clear he
    have RB := Lib.hid HR.out.2.1
    have RS := Lib.hid HR.out.2.2.1
    have KK := Lib.hid HR.out.2.2.2.1
    go_enter Tryz.func105, Tryz.ntmps105
    go_upto_region 2 with (first
      | (with_reducible refine wpList_box_to _ _ rfl 26 (.tmp 1) rfl _ rfl HW.out.1 ?_)
      | (with_reducible refine wpList_alloc_to _ _ rfl 26 rfl _ HW.out.2.2.2 HW.out.2.1 ?_)
      | (with_reducible refine wpList_alloc_to _ _ rfl 26 rfl _ HW.out.2.2.2 HW.out.2.2.1 ?_))
    go_upto_region 3 with (go_at_call 147; refine (end_any p g r _ HR.out.2.2.2.2.2.2.2.2.2.2).mono ?_; rintro e w4 ⟨rfl, rfl⟩)
    have rs := RB.out.setL (vs := Z) (o := 0)
    rw [putL_all (by have h1 := HR.out.2.2.2.2.2.2.2.2.2.1; have h2 := HR.out.2.2.2.2.2.2.2.2.2.1; simp only [List.size_toArray] <;> omega)] at rs
    have ks := KK.out.setL (vs := Z) (g := wA.heap.size) (o := 0) (.inr HN.out.2.2)
    have ht := RB.out.there (o := 0) (n := Z.toArray.size) (by have h1 := HR.out.2.2.2.2.2.2.2.2.2.1; have h2 := HR.out.2.2.2.2.2.2.2.2.2.1; simp only [List.size_toArray] <;> omega)
    have hJ : (Tryz.prog.info? 26).map (·.size) = some Z.toArray.size := by rw [List.size_toArray]; exact HR.out.2.2.2.2.2.1
    have HS := Lib.hid (And.intro rs (And.intro ks (And.intro ht hJ)))
    have HO := Lib.hid (all_oneCell_toArray HR.out.2.2.2.2.2.2.2.1)
    clear rs ks ht hJ
    go_wp2_with (first
      | (refine wpList_load_mid rfl 26 (.tmp 8) rfl wB.heap.size 0 rfl Z _ RS.out.rangeAll Tryz.underlying26 rfl HR.out.2.2.2.2.2.1 ?_)
      | (refine wpList_store_mid rfl 26 (.tmp 6) (.tmp 14) rfl wA.heap.size 0 Z.toArray rfl rfl HS.out.2.2.1 HS.out.2.2.2 HO.out ?_))
    refine bodyPost_ret (results_row_tmp rfl _ _ wA.heap.size 26 _ (0, 0) _ rfl HS.out.1 Tryz.underlying26 rfl HS.out.2.2.2) rfl ?_
    exact ⟨by rw [hE.out.1, eL_no _ _ hE.out.2]; rfl, HS.out.2.1⟩

set_option maxHeartbeats 8000000 in
theorem endedAns_any (F : List Nat) (p g : Nat) (r : RS) (q : AN) (ev : Value) (w : World) (hr : isR w p g r) (hq : anV w F q ev) :
    Calls Tryz.prog 111 #[.pointer (some ⟨p, 0, none⟩), .agg (anL q ev).toArray, .func (.func 21) #[] #[]] w fun e w' => e = .returned (.tuple #[.agg (eL (endP r.end_ q.ok) (anL q ev) (anL anZero nilV)).toArray, .int .i64 (endP r.end_ q.ok)]) ∧ keepBut [] w w' := by
  have hqz : (anL q ev).length = 38 := anL_len hq.1
  have hqo : ∀ v ∈ anL q ev, v.oneCell' = true := anL_one q hq.2.one
  obtain ⟨X, hX⟩ : ∃ X, anL q ev = X := ⟨_, rfl⟩
  obtain ⟨Z, hZ⟩ : ∃ Z, anL anZero nilV = Z := ⟨_, rfl⟩
  have zv := zv_an
  have zl := anZ_len
  have zo := anZ_one
  have hcall := fun w1 (k : keepBut [] w w1) => checkAns_any F q ev w1 ⟨hq.1, hq.2.keep k (by simp)⟩
  rw [hZ] at zv zl zo ⊢
  rw [hX] at hqz hqo hcall ⊢
  obtain ⟨wA, hwA⟩ : ∃ wA, w.alloc (.cells X.toArray 28) = wA := ⟨_, rfl⟩
  obtain ⟨wB, hwB⟩ : ∃ wB, wA.alloc (.cells Z.toArray 28) = wB := ⟨_, rfl⟩
  obtain ⟨w3, hw3⟩ : ∃ w3, wB.alloc (.cells Z.toArray 28) = w3 := ⟨_, rfl⟩
  have rA := rowAt.new w 28 X.toArray
  have rB := rowAt.new wA 28 Z.toArray
  have r3 := rowAt.new wB 28 Z.toArray
  have kA := (keepBut.refl [] w).alloc (.cells X.toArray 28)
  have kB := (keepBut.refl [] wA).alloc (.cells Z.toArray 28)
  have k3 := (keepBut.refl [] wB).alloc (.cells Z.toArray 28)
  rw [hwA] at rA kA
  rw [hwB] at rB kB
  rw [hw3] at r3 k3
  have rA3 := k3.row (kB.row rA (by simp)) (by simp)
  have rB3 := k3.row rB (by simp)
  have kk := (kA.then kB (by simp)).then k3 (by simp)
  have hI : (Tryz.prog.info? 28).map (·.size) = some X.length := by rw [hqz]; exact info_an
  have hJ : (Tryz.prog.info? 28).map (·.size) = some Z.length := by rw [zl]; exact info_an
  have hlB : w.heap.size ≤ wA.heap.size := kA.size
  have hne : wA.heap.size ≠ w.heap.size := by have := rA.lt; omega
  have hne2 : wA.heap.size ≠ wB.heap.size := by have := rB.lt; omega
  have HW := Lib.hid (And.intro hwA (And.intro hwB (And.intro hw3 zv)))
  have HR := Lib.hid (And.intro rA3 (And.intro rB3 (And.intro r3 (And.intro kk (And.intro hI (And.intro hJ (And.intro hqo (And.intro zo (And.intro hqz (And.intro zl (hr.keep kk (by simp) (by simp))))))))))))
  have HC := Lib.hid (hcall w3 kk)
  have HN := Lib.hid (And.intro hne (And.intro hne2 hlB))
  clear hwA hwB hw3 zv rA rB r3 kA kB k3 rA3 rB3 kk hI hJ hqo zo hqz zl hr hcall hX hZ hq hne hne2 hlB
  by_cases he : r.end_ = 0
  · cases hok : q.ok
    · have HE := Lib.hid he
      have hE : Hid (endP r.end_ q.ok = 4) := Lib.hid (by unfold endP; rw [if_pos he, hok]; rfl)
      clear he
      go_enter Tryz.func111, Tryz.ntmps111
      go_upto_region 2 with (first
        | (with_reducible refine wpList_box_to _ _ rfl 28 (.tmp 1) rfl _ rfl HW.out.1 ?_)
        | (with_reducible refine wpList_alloc_to _ _ rfl 28 rfl _ HW.out.2.2.2 HW.out.2.1 ?_)
        | (with_reducible refine wpList_alloc_to _ _ rfl 28 rfl _ HW.out.2.2.2 HW.out.2.2.1 ?_))
      go_upto_region 3 with (go_at_call 147; refine (end_any p g r _ HR.out.2.2.2.2.2.2.2.2.2.2).mono ?_; rintro e w4 ⟨rfl, rfl⟩; rw [HE.out])
      go_upto_if 19 with (first
        | (refine wpList_load_mid rfl 28 (.tmp 4) rfl w.heap.size 0 rfl X _ HR.out.1.rangeAll Tryz.underlying28 rfl HR.out.2.2.2.2.1 ?_)
        | (go_at_call 21; refine (HC.out).mono ?_; rintro e w5 ⟨rfl, k5⟩; rw [hok]; have RB := Lib.hid (k5.row HR.out.2.1 (by simp)); have RS := Lib.hid (k5.row HR.out.2.2.1 (by simp)); have KK := Lib.hid (HR.out.2.2.2.1.then k5 (by simp)); clear k5))
      have rs := RB.out.setL (vs := Z) (o := 0)
      rw [putL_all (by have h1 := HR.out.2.2.2.2.2.2.2.2.2.1; have h2 := HR.out.2.2.2.2.2.2.2.2.2.1; simp only [List.size_toArray] <;> omega)] at rs
      have ks := KK.out.setL (vs := Z) (g := wA.heap.size) (o := 0) (.inr HN.out.2.2)
      have ht := RB.out.there (o := 0) (n := Z.toArray.size) (by have h1 := HR.out.2.2.2.2.2.2.2.2.2.1; have h2 := HR.out.2.2.2.2.2.2.2.2.2.1; simp only [List.size_toArray] <;> omega)
      have hJ : (Tryz.prog.info? 28).map (·.size) = some Z.toArray.size := by rw [List.size_toArray]; exact HR.out.2.2.2.2.2.1
      have HS := Lib.hid (And.intro rs (And.intro ks (And.intro ht hJ)))
      have HO := Lib.hid (all_oneCell_toArray HR.out.2.2.2.2.2.2.2.1)
      clear rs ks ht hJ
      go_wp2_with (first
        | (refine wpList_load_mid rfl 28 (.tmp 8) rfl wB.heap.size 0 rfl Z _ RS.out.rangeAll Tryz.underlying28 rfl HR.out.2.2.2.2.2.1 ?_)
        | (refine wpList_store_mid rfl 28 (.tmp 6) (.tmp 20) rfl wA.heap.size 0 Z.toArray rfl rfl HS.out.2.2.1 HS.out.2.2.2 HO.out ?_))
      refine bodyPost_ret (results_row_tmp rfl _ _ wA.heap.size 28 _ (0, 0) _ rfl HS.out.1 Tryz.underlying28 rfl HS.out.2.2.2) rfl ?_
      exact ⟨by rw [← hok, hE.out, eL_no _ _ (by decide)]; rfl, HS.out.2.1⟩
    · have HE := Lib.hid he
      have hE : Hid (endP r.end_ q.ok = 0) := Lib.hid (by unfold endP; rw [if_pos he, hok]; rfl)
      clear he
      go_enter Tryz.func111, Tryz.ntmps111
      go_upto_region 2 with (first
        | (with_reducible refine wpList_box_to _ _ rfl 28 (.tmp 1) rfl _ rfl HW.out.1 ?_)
        | (with_reducible refine wpList_alloc_to _ _ rfl 28 rfl _ HW.out.2.2.2 HW.out.2.1 ?_)
        | (with_reducible refine wpList_alloc_to _ _ rfl 28 rfl _ HW.out.2.2.2 HW.out.2.2.1 ?_))
      go_upto_region 3 with (go_at_call 147; refine (end_any p g r _ HR.out.2.2.2.2.2.2.2.2.2.2).mono ?_; rintro e w4 ⟨rfl, rfl⟩; rw [HE.out])
      go_upto_if 19 with (first
        | (refine wpList_load_mid rfl 28 (.tmp 4) rfl w.heap.size 0 rfl X _ HR.out.1.rangeAll Tryz.underlying28 rfl HR.out.2.2.2.2.1 ?_)
        | (go_at_call 21; refine (HC.out).mono ?_; rintro e w5 ⟨rfl, k5⟩; rw [hok]; have RB := Lib.hid (k5.row HR.out.2.1 (by simp)); have RS := Lib.hid (k5.row HR.out.1 (by simp)); have KK := Lib.hid (HR.out.2.2.2.1.then k5 (by simp)); clear k5))
      have rs := RB.out.setL (vs := X) (o := 0)
      rw [putL_all (by have h1 := HR.out.2.2.2.2.2.2.2.2.1; have h2 := HR.out.2.2.2.2.2.2.2.2.2.1; simp only [List.size_toArray] <;> omega)] at rs
      have ks := KK.out.setL (vs := X) (g := wA.heap.size) (o := 0) (.inr HN.out.2.2)
      have ht := RB.out.there (o := 0) (n := X.toArray.size) (by have h1 := HR.out.2.2.2.2.2.2.2.2.1; have h2 := HR.out.2.2.2.2.2.2.2.2.2.1; simp only [List.size_toArray] <;> omega)
      have hJ : (Tryz.prog.info? 28).map (·.size) = some X.toArray.size := by rw [List.size_toArray]; exact HR.out.2.2.2.2.1
      have HS := Lib.hid (And.intro rs (And.intro ks (And.intro ht hJ)))
      have HO := Lib.hid (all_oneCell_toArray HR.out.2.2.2.2.2.2.1)
      clear rs ks ht hJ
      go_wp2_with (first
        | (refine wpList_load_mid rfl 28 (.tmp 4) rfl w.heap.size 0 rfl X _ RS.out.rangeAll Tryz.underlying28 rfl HR.out.2.2.2.2.1 ?_)
        | (refine wpList_store_mid rfl 28 (.tmp 6) (.tmp 21) rfl wA.heap.size 0 X.toArray rfl rfl HS.out.2.2.1 HS.out.2.2.2 HO.out ?_))
      refine bodyPost_ret (results_row_tmp rfl _ _ wA.heap.size 28 _ (0, 0) _ rfl HS.out.1 Tryz.underlying28 rfl HS.out.2.2.2) rfl ?_
      exact ⟨by rw [← hok, hE.out, eL_ok _ _ rfl]; rfl, HS.out.2.1⟩
  · have hb : (r.end_ != 0) = true := by simp [he]
    have hE : Hid (endP r.end_ q.ok = r.end_ ∧ r.end_ ≠ 0) := Lib.hid ⟨by unfold endP; rw [if_neg he], he⟩
    clear he
    have RB := Lib.hid HR.out.2.1
    have RS := Lib.hid HR.out.2.2.1
    have KK := Lib.hid HR.out.2.2.2.1
    go_enter Tryz.func111, Tryz.ntmps111
    go_upto_region 2 with (first
      | (with_reducible refine wpList_box_to _ _ rfl 28 (.tmp 1) rfl _ rfl HW.out.1 ?_)
      | (with_reducible refine wpList_alloc_to _ _ rfl 28 rfl _ HW.out.2.2.2 HW.out.2.1 ?_)
      | (with_reducible refine wpList_alloc_to _ _ rfl 28 rfl _ HW.out.2.2.2 HW.out.2.2.1 ?_))
    go_upto_region 3 with (go_at_call 147; refine (end_any p g r _ HR.out.2.2.2.2.2.2.2.2.2.2).mono ?_; rintro e w4 ⟨rfl, rfl⟩)
    have rs := RB.out.setL (vs := Z) (o := 0)
    rw [putL_all (by have h1 := HR.out.2.2.2.2.2.2.2.2.2.1; have h2 := HR.out.2.2.2.2.2.2.2.2.2.1; simp only [List.size_toArray] <;> omega)] at rs
    have ks := KK.out.setL (vs := Z) (g := wA.heap.size) (o := 0) (.inr HN.out.2.2)
    have ht := RB.out.there (o := 0) (n := Z.toArray.size) (by have h1 := HR.out.2.2.2.2.2.2.2.2.2.1; have h2 := HR.out.2.2.2.2.2.2.2.2.2.1; simp only [List.size_toArray] <;> omega)
    have hJ : (Tryz.prog.info? 28).map (·.size) = some Z.toArray.size := by rw [List.size_toArray]; exact HR.out.2.2.2.2.2.1
    have HS := Lib.hid (And.intro rs (And.intro ks (And.intro ht hJ)))
    have HO := Lib.hid (all_oneCell_toArray HR.out.2.2.2.2.2.2.2.1)
    clear rs ks ht hJ
    go_wp2_with (first
      | (refine wpList_load_mid rfl 28 (.tmp 8) rfl wB.heap.size 0 rfl Z _ RS.out.rangeAll Tryz.underlying28 rfl HR.out.2.2.2.2.2.1 ?_)
      | (refine wpList_store_mid rfl 28 (.tmp 6) (.tmp 14) rfl wA.heap.size 0 Z.toArray rfl rfl HS.out.2.2.1 HS.out.2.2.2 HO.out ?_))
    refine bodyPost_ret (results_row_tmp rfl _ _ wA.heap.size 28 _ (0, 0) _ rfl HS.out.1 Tryz.underlying28 rfl HS.out.2.2.2) rfl ?_
    exact ⟨by rw [hE.out.1, eL_no _ _ hE.out.2]; rfl, HS.out.2.1⟩

set_option maxHeartbeats 8000000 in
theorem endedConf_any (F : List Nat) (p g : Nat) (r : RS) (q : CF) (ev : Value) (w : World) (hr : isR w p g r) (hq : intsV w F ev q.chain) :
    Calls Tryz.prog 112 #[.pointer (some ⟨p, 0, none⟩), .agg (cfL q ev).toArray, .func (.func 22) #[] #[]] w fun e w' => e = .returned (.tuple #[.agg (eL (endP r.end_ q.ok) (cfL q ev) (cfL cfZero nilV)).toArray, .int .i64 (endP r.end_ q.ok)]) ∧ keepBut [] w w' := by
  have hqz : (cfL q ev).length = 3 := rfl
  have hqo : ∀ v ∈ cfL q ev, v.oneCell' = true := cfL_one q hq.one
  obtain ⟨X, hX⟩ : ∃ X, cfL q ev = X := ⟨_, rfl⟩
  obtain ⟨Z, hZ⟩ : ∃ Z, cfL cfZero nilV = Z := ⟨_, rfl⟩
  have zv := zv_cf
  have zl := (show (cfL cfZero nilV).length = 3 from rfl)
  have zo := cfZ_one
  have hcall := fun w1 (k : keepBut [] w w1) => checkConf_any F q ev w1 (hq.keep k (by simp))
  rw [hZ] at zv zl zo ⊢
  rw [hX] at hqz hqo hcall ⊢
  obtain ⟨wA, hwA⟩ : ∃ wA, w.alloc (.cells X.toArray 31) = wA := ⟨_, rfl⟩
  obtain ⟨wB, hwB⟩ : ∃ wB, wA.alloc (.cells Z.toArray 31) = wB := ⟨_, rfl⟩
  obtain ⟨w3, hw3⟩ : ∃ w3, wB.alloc (.cells Z.toArray 31) = w3 := ⟨_, rfl⟩
  have rA := rowAt.new w 31 X.toArray
  have rB := rowAt.new wA 31 Z.toArray
  have r3 := rowAt.new wB 31 Z.toArray
  have kA := (keepBut.refl [] w).alloc (.cells X.toArray 31)
  have kB := (keepBut.refl [] wA).alloc (.cells Z.toArray 31)
  have k3 := (keepBut.refl [] wB).alloc (.cells Z.toArray 31)
  rw [hwA] at rA kA
  rw [hwB] at rB kB
  rw [hw3] at r3 k3
  have rA3 := k3.row (kB.row rA (by simp)) (by simp)
  have rB3 := k3.row rB (by simp)
  have kk := (kA.then kB (by simp)).then k3 (by simp)
  have hI : (Tryz.prog.info? 31).map (·.size) = some X.length := by rw [hqz]; exact info_cf
  have hJ : (Tryz.prog.info? 31).map (·.size) = some Z.length := by rw [zl]; exact info_cf
  have hlB : w.heap.size ≤ wA.heap.size := kA.size
  have hne : wA.heap.size ≠ w.heap.size := by have := rA.lt; omega
  have hne2 : wA.heap.size ≠ wB.heap.size := by have := rB.lt; omega
  have HW := Lib.hid (And.intro hwA (And.intro hwB (And.intro hw3 zv)))
  have HR := Lib.hid (And.intro rA3 (And.intro rB3 (And.intro r3 (And.intro kk (And.intro hI (And.intro hJ (And.intro hqo (And.intro zo (And.intro hqz (And.intro zl (hr.keep kk (by simp) (by simp))))))))))))
  have HC := Lib.hid (hcall w3 kk)
  have HN := Lib.hid (And.intro hne (And.intro hne2 hlB))
  clear hwA hwB hw3 zv rA rB r3 kA kB k3 rA3 rB3 kk hI hJ hqo zo hqz zl hr hcall hX hZ hq hne hne2 hlB
  by_cases he : r.end_ = 0
  · cases hok : q.ok
    · have HE := Lib.hid he
      have hE : Hid (endP r.end_ q.ok = 4) := Lib.hid (by unfold endP; rw [if_pos he, hok]; rfl)
      clear he
      go_enter Tryz.func112, Tryz.ntmps112
      go_upto_region 2 with (first
        | (with_reducible refine wpList_box_to _ _ rfl 31 (.tmp 1) rfl _ rfl HW.out.1 ?_)
        | (with_reducible refine wpList_alloc_to _ _ rfl 31 rfl _ HW.out.2.2.2 HW.out.2.1 ?_)
        | (with_reducible refine wpList_alloc_to _ _ rfl 31 rfl _ HW.out.2.2.2 HW.out.2.2.1 ?_))
      go_upto_region 3 with (go_at_call 147; refine (end_any p g r _ HR.out.2.2.2.2.2.2.2.2.2.2).mono ?_; rintro e w4 ⟨rfl, rfl⟩; rw [HE.out])
      go_upto_if 19 with (first
        | (refine wpList_load_mid rfl 31 (.tmp 4) rfl w.heap.size 0 rfl X _ HR.out.1.rangeAll Tryz.underlying31 rfl HR.out.2.2.2.2.1 ?_)
        | (go_at_call 22; refine (HC.out).mono ?_; rintro e w5 ⟨rfl, k5⟩; rw [hok]; have RB := Lib.hid (k5.row HR.out.2.1 (by simp)); have RS := Lib.hid (k5.row HR.out.2.2.1 (by simp)); have KK := Lib.hid (HR.out.2.2.2.1.then k5 (by simp)); clear k5))
      have rs := RB.out.setL (vs := Z) (o := 0)
      rw [putL_all (by have h1 := HR.out.2.2.2.2.2.2.2.2.2.1; have h2 := HR.out.2.2.2.2.2.2.2.2.2.1; simp only [List.size_toArray] <;> omega)] at rs
      have ks := KK.out.setL (vs := Z) (g := wA.heap.size) (o := 0) (.inr HN.out.2.2)
      have ht := RB.out.there (o := 0) (n := Z.toArray.size) (by have h1 := HR.out.2.2.2.2.2.2.2.2.2.1; have h2 := HR.out.2.2.2.2.2.2.2.2.2.1; simp only [List.size_toArray] <;> omega)
      have hJ : (Tryz.prog.info? 31).map (·.size) = some Z.toArray.size := by rw [List.size_toArray]; exact HR.out.2.2.2.2.2.1
      have HS := Lib.hid (And.intro rs (And.intro ks (And.intro ht hJ)))
      have HO := Lib.hid (all_oneCell_toArray HR.out.2.2.2.2.2.2.2.1)
      clear rs ks ht hJ
      go_wp2_with (first
        | (refine wpList_load_mid rfl 31 (.tmp 8) rfl wB.heap.size 0 rfl Z _ RS.out.rangeAll Tryz.underlying31 rfl HR.out.2.2.2.2.2.1 ?_)
        | (refine wpList_store_mid rfl 31 (.tmp 6) (.tmp 20) rfl wA.heap.size 0 Z.toArray rfl rfl HS.out.2.2.1 HS.out.2.2.2 HO.out ?_))
      refine bodyPost_ret (results_row_tmp rfl _ _ wA.heap.size 31 _ (0, 0) _ rfl HS.out.1 Tryz.underlying31 rfl HS.out.2.2.2) rfl ?_
      exact ⟨by rw [← hok, hE.out, eL_no _ _ (by decide)]; rfl, HS.out.2.1⟩
    · have HE := Lib.hid he
      have hE : Hid (endP r.end_ q.ok = 0) := Lib.hid (by unfold endP; rw [if_pos he, hok]; rfl)
      clear he
      go_enter Tryz.func112, Tryz.ntmps112
      go_upto_region 2 with (first
        | (with_reducible refine wpList_box_to _ _ rfl 31 (.tmp 1) rfl _ rfl HW.out.1 ?_)
        | (with_reducible refine wpList_alloc_to _ _ rfl 31 rfl _ HW.out.2.2.2 HW.out.2.1 ?_)
        | (with_reducible refine wpList_alloc_to _ _ rfl 31 rfl _ HW.out.2.2.2 HW.out.2.2.1 ?_))
      go_upto_region 3 with (go_at_call 147; refine (end_any p g r _ HR.out.2.2.2.2.2.2.2.2.2.2).mono ?_; rintro e w4 ⟨rfl, rfl⟩; rw [HE.out])
      go_upto_if 19 with (first
        | (refine wpList_load_mid rfl 31 (.tmp 4) rfl w.heap.size 0 rfl X _ HR.out.1.rangeAll Tryz.underlying31 rfl HR.out.2.2.2.2.1 ?_)
        | (go_at_call 22; refine (HC.out).mono ?_; rintro e w5 ⟨rfl, k5⟩; rw [hok]; have RB := Lib.hid (k5.row HR.out.2.1 (by simp)); have RS := Lib.hid (k5.row HR.out.1 (by simp)); have KK := Lib.hid (HR.out.2.2.2.1.then k5 (by simp)); clear k5))
      have rs := RB.out.setL (vs := X) (o := 0)
      rw [putL_all (by have h1 := HR.out.2.2.2.2.2.2.2.2.1; have h2 := HR.out.2.2.2.2.2.2.2.2.2.1; simp only [List.size_toArray] <;> omega)] at rs
      have ks := KK.out.setL (vs := X) (g := wA.heap.size) (o := 0) (.inr HN.out.2.2)
      have ht := RB.out.there (o := 0) (n := X.toArray.size) (by have h1 := HR.out.2.2.2.2.2.2.2.2.1; have h2 := HR.out.2.2.2.2.2.2.2.2.2.1; simp only [List.size_toArray] <;> omega)
      have hJ : (Tryz.prog.info? 31).map (·.size) = some X.toArray.size := by rw [List.size_toArray]; exact HR.out.2.2.2.2.1
      have HS := Lib.hid (And.intro rs (And.intro ks (And.intro ht hJ)))
      have HO := Lib.hid (all_oneCell_toArray HR.out.2.2.2.2.2.2.1)
      clear rs ks ht hJ
      go_wp2_with (first
        | (refine wpList_load_mid rfl 31 (.tmp 4) rfl w.heap.size 0 rfl X _ RS.out.rangeAll Tryz.underlying31 rfl HR.out.2.2.2.2.1 ?_)
        | (refine wpList_store_mid rfl 31 (.tmp 6) (.tmp 21) rfl wA.heap.size 0 X.toArray rfl rfl HS.out.2.2.1 HS.out.2.2.2 HO.out ?_))
      refine bodyPost_ret (results_row_tmp rfl _ _ wA.heap.size 31 _ (0, 0) _ rfl HS.out.1 Tryz.underlying31 rfl HS.out.2.2.2) rfl ?_
      exact ⟨by rw [← hok, hE.out, eL_ok _ _ rfl]; rfl, HS.out.2.1⟩
  · have hb : (r.end_ != 0) = true := by simp [he]
    have hE : Hid (endP r.end_ q.ok = r.end_ ∧ r.end_ ≠ 0) := Lib.hid ⟨by unfold endP; rw [if_neg he], he⟩
    clear he
    have RB := Lib.hid HR.out.2.1
    have RS := Lib.hid HR.out.2.2.1
    have KK := Lib.hid HR.out.2.2.2.1
    go_enter Tryz.func112, Tryz.ntmps112
    go_upto_region 2 with (first
      | (with_reducible refine wpList_box_to _ _ rfl 31 (.tmp 1) rfl _ rfl HW.out.1 ?_)
      | (with_reducible refine wpList_alloc_to _ _ rfl 31 rfl _ HW.out.2.2.2 HW.out.2.1 ?_)
      | (with_reducible refine wpList_alloc_to _ _ rfl 31 rfl _ HW.out.2.2.2 HW.out.2.2.1 ?_))
    go_upto_region 3 with (go_at_call 147; refine (end_any p g r _ HR.out.2.2.2.2.2.2.2.2.2.2).mono ?_; rintro e w4 ⟨rfl, rfl⟩)
    have rs := RB.out.setL (vs := Z) (o := 0)
    rw [putL_all (by have h1 := HR.out.2.2.2.2.2.2.2.2.2.1; have h2 := HR.out.2.2.2.2.2.2.2.2.2.1; simp only [List.size_toArray] <;> omega)] at rs
    have ks := KK.out.setL (vs := Z) (g := wA.heap.size) (o := 0) (.inr HN.out.2.2)
    have ht := RB.out.there (o := 0) (n := Z.toArray.size) (by have h1 := HR.out.2.2.2.2.2.2.2.2.2.1; have h2 := HR.out.2.2.2.2.2.2.2.2.2.1; simp only [List.size_toArray] <;> omega)
    have hJ : (Tryz.prog.info? 31).map (·.size) = some Z.toArray.size := by rw [List.size_toArray]; exact HR.out.2.2.2.2.2.1
    have HS := Lib.hid (And.intro rs (And.intro ks (And.intro ht hJ)))
    have HO := Lib.hid (all_oneCell_toArray HR.out.2.2.2.2.2.2.2.1)
    clear rs ks ht hJ
    go_wp2_with (first
      | (refine wpList_load_mid rfl 31 (.tmp 8) rfl wB.heap.size 0 rfl Z _ RS.out.rangeAll Tryz.underlying31 rfl HR.out.2.2.2.2.2.1 ?_)
      | (refine wpList_store_mid rfl 31 (.tmp 6) (.tmp 14) rfl wA.heap.size 0 Z.toArray rfl rfl HS.out.2.2.1 HS.out.2.2.2 HO.out ?_))
    refine bodyPost_ret (results_row_tmp rfl _ _ wA.heap.size 31 _ (0, 0) _ rfl HS.out.1 Tryz.underlying31 rfl HS.out.2.2.2) rfl ?_
    exact ⟨by rw [hE.out.1, eL_no _ _ hE.out.2]; rfl, HS.out.2.1⟩

set_option maxHeartbeats 8000000 in
theorem endedPk_any (F : List Nat) (p g : Nat) (r : RS) (q : PK) (ev av cv vv bw : Value) (w : World) (hr : isR w p g r) (hq : pkV w F q ev av cv vv bw) (hfl : fieldsAt w) (hb1 : i64P q.frm) (hb2 : i64P q.dst) :
    Calls Tryz.prog 97 #[.pointer (some ⟨p, 0, none⟩), .agg (pkL q ev av cv vv bw).toArray, .func (.func 9) #[] #[]] w fun e w' => e = .returned (.tuple #[.agg (eL (endP r.end_ q.ok) (pkL q ev av cv vv bw) (pkL pkZero nilV nilV nilV nilV nilV)).toArray, .int .i64 (endP r.end_ q.ok)]) ∧ keepBut [] w w' := by
  have hqz : (pkL q ev av cv vv bw).length = 87 := pkL_len hq.rn hq.an
  have hqo : ∀ v ∈ pkL q ev av cv vv bw, v.oneCell' = true := pkL_one hq.re.one hq.ae.one hq.cc.one hq.vs.one hq.bs.one
  obtain ⟨X, hX⟩ : ∃ X, pkL q ev av cv vv bw = X := ⟨_, rfl⟩
  obtain ⟨Z, hZ⟩ : ∃ Z, pkL pkZero nilV nilV nilV nilV nilV = Z := ⟨_, rfl⟩
  have zv := zv_pk
  have zl := pkZ_len
  have zo := pkZ_one
  have hcall := fun w1 (k : keepBut [] w w1) => check_any F q ev av cv vv bw w1 (hq.keep k (by simp)) (hfl.keep k (by simp)) hb1 hb2
  rw [hZ] at zv zl zo ⊢
  rw [hX] at hqz hqo hcall ⊢
  obtain ⟨wA, hwA⟩ : ∃ wA, w.alloc (.cells X.toArray 34) = wA := ⟨_, rfl⟩
  obtain ⟨wB, hwB⟩ : ∃ wB, wA.alloc (.cells Z.toArray 34) = wB := ⟨_, rfl⟩
  obtain ⟨w3, hw3⟩ : ∃ w3, wB.alloc (.cells Z.toArray 34) = w3 := ⟨_, rfl⟩
  have rA := rowAt.new w 34 X.toArray
  have rB := rowAt.new wA 34 Z.toArray
  have r3 := rowAt.new wB 34 Z.toArray
  have kA := (keepBut.refl [] w).alloc (.cells X.toArray 34)
  have kB := (keepBut.refl [] wA).alloc (.cells Z.toArray 34)
  have k3 := (keepBut.refl [] wB).alloc (.cells Z.toArray 34)
  rw [hwA] at rA kA
  rw [hwB] at rB kB
  rw [hw3] at r3 k3
  have rA3 := k3.row (kB.row rA (by simp)) (by simp)
  have rB3 := k3.row rB (by simp)
  have kk := (kA.then kB (by simp)).then k3 (by simp)
  have hI : (Tryz.prog.info? 34).map (·.size) = some X.length := by rw [hqz]; exact info_pk
  have hJ : (Tryz.prog.info? 34).map (·.size) = some Z.length := by rw [zl]; exact info_pk
  have hlB : w.heap.size ≤ wA.heap.size := kA.size
  have hne : wA.heap.size ≠ w.heap.size := by have := rA.lt; omega
  have hne2 : wA.heap.size ≠ wB.heap.size := by have := rB.lt; omega
  have HW := Lib.hid (And.intro hwA (And.intro hwB (And.intro hw3 zv)))
  have HR := Lib.hid (And.intro rA3 (And.intro rB3 (And.intro r3 (And.intro kk (And.intro hI (And.intro hJ (And.intro hqo (And.intro zo (And.intro hqz (And.intro zl (hr.keep kk (by simp) (by simp))))))))))))
  have HC := Lib.hid (hcall w3 kk)
  have HN := Lib.hid (And.intro hne (And.intro hne2 hlB))
  clear hwA hwB hw3 zv rA rB r3 kA kB k3 rA3 rB3 kk hI hJ hqo zo hqz zl hr hcall hX hZ hq hne hne2 hlB
  by_cases he : r.end_ = 0
  · cases hok : q.ok
    · have HE := Lib.hid he
      have hE : Hid (endP r.end_ q.ok = 4) := Lib.hid (by unfold endP; rw [if_pos he, hok]; rfl)
      clear he
      go_enter Tryz.func97, Tryz.ntmps97
      go_upto_region 2 with (first
        | (with_reducible refine wpList_box_to _ _ rfl 34 (.tmp 1) rfl _ rfl HW.out.1 ?_)
        | (with_reducible refine wpList_alloc_to _ _ rfl 34 rfl _ HW.out.2.2.2 HW.out.2.1 ?_)
        | (with_reducible refine wpList_alloc_to _ _ rfl 34 rfl _ HW.out.2.2.2 HW.out.2.2.1 ?_))
      go_upto_region 3 with (go_at_call 147; refine (end_any p g r _ HR.out.2.2.2.2.2.2.2.2.2.2).mono ?_; rintro e w4 ⟨rfl, rfl⟩; rw [HE.out])
      go_upto_if 19 with (first
        | (refine wpList_load_mid rfl 34 (.tmp 4) rfl w.heap.size 0 rfl X _ HR.out.1.rangeAll Tryz.underlying34 rfl HR.out.2.2.2.2.1 ?_)
        | (go_at_call 9; refine (HC.out).mono ?_; rintro e w5 ⟨rfl, k5⟩; rw [hok]; have RB := Lib.hid (k5.row HR.out.2.1 (by simp)); have RS := Lib.hid (k5.row HR.out.2.2.1 (by simp)); have KK := Lib.hid (HR.out.2.2.2.1.then k5 (by simp)); clear k5))
      have rs := RB.out.setL (vs := Z) (o := 0)
      rw [putL_all (by have h1 := HR.out.2.2.2.2.2.2.2.2.2.1; have h2 := HR.out.2.2.2.2.2.2.2.2.2.1; simp only [List.size_toArray] <;> omega)] at rs
      have ks := KK.out.setL (vs := Z) (g := wA.heap.size) (o := 0) (.inr HN.out.2.2)
      have ht := RB.out.there (o := 0) (n := Z.toArray.size) (by have h1 := HR.out.2.2.2.2.2.2.2.2.2.1; have h2 := HR.out.2.2.2.2.2.2.2.2.2.1; simp only [List.size_toArray] <;> omega)
      have hJ : (Tryz.prog.info? 34).map (·.size) = some Z.toArray.size := by rw [List.size_toArray]; exact HR.out.2.2.2.2.2.1
      have HS := Lib.hid (And.intro rs (And.intro ks (And.intro ht hJ)))
      have HO := Lib.hid (all_oneCell_toArray HR.out.2.2.2.2.2.2.2.1)
      clear rs ks ht hJ
      go_wp2_with (first
        | (refine wpList_load_mid rfl 34 (.tmp 8) rfl wB.heap.size 0 rfl Z _ RS.out.rangeAll Tryz.underlying34 rfl HR.out.2.2.2.2.2.1 ?_)
        | (refine wpList_store_mid rfl 34 (.tmp 6) (.tmp 20) rfl wA.heap.size 0 Z.toArray rfl rfl HS.out.2.2.1 HS.out.2.2.2 HO.out ?_))
      refine bodyPost_ret (results_row_tmp rfl _ _ wA.heap.size 34 _ (0, 0) _ rfl HS.out.1 Tryz.underlying34 rfl HS.out.2.2.2) rfl ?_
      exact ⟨by rw [← hok, hE.out, eL_no _ _ (by decide)]; rfl, HS.out.2.1⟩
    · have HE := Lib.hid he
      have hE : Hid (endP r.end_ q.ok = 0) := Lib.hid (by unfold endP; rw [if_pos he, hok]; rfl)
      clear he
      go_enter Tryz.func97, Tryz.ntmps97
      go_upto_region 2 with (first
        | (with_reducible refine wpList_box_to _ _ rfl 34 (.tmp 1) rfl _ rfl HW.out.1 ?_)
        | (with_reducible refine wpList_alloc_to _ _ rfl 34 rfl _ HW.out.2.2.2 HW.out.2.1 ?_)
        | (with_reducible refine wpList_alloc_to _ _ rfl 34 rfl _ HW.out.2.2.2 HW.out.2.2.1 ?_))
      go_upto_region 3 with (go_at_call 147; refine (end_any p g r _ HR.out.2.2.2.2.2.2.2.2.2.2).mono ?_; rintro e w4 ⟨rfl, rfl⟩; rw [HE.out])
      go_upto_if 19 with (first
        | (refine wpList_load_mid rfl 34 (.tmp 4) rfl w.heap.size 0 rfl X _ HR.out.1.rangeAll Tryz.underlying34 rfl HR.out.2.2.2.2.1 ?_)
        | (go_at_call 9; refine (HC.out).mono ?_; rintro e w5 ⟨rfl, k5⟩; rw [hok]; have RB := Lib.hid (k5.row HR.out.2.1 (by simp)); have RS := Lib.hid (k5.row HR.out.1 (by simp)); have KK := Lib.hid (HR.out.2.2.2.1.then k5 (by simp)); clear k5))
      have rs := RB.out.setL (vs := X) (o := 0)
      rw [putL_all (by have h1 := HR.out.2.2.2.2.2.2.2.2.1; have h2 := HR.out.2.2.2.2.2.2.2.2.2.1; simp only [List.size_toArray] <;> omega)] at rs
      have ks := KK.out.setL (vs := X) (g := wA.heap.size) (o := 0) (.inr HN.out.2.2)
      have ht := RB.out.there (o := 0) (n := X.toArray.size) (by have h1 := HR.out.2.2.2.2.2.2.2.2.1; have h2 := HR.out.2.2.2.2.2.2.2.2.2.1; simp only [List.size_toArray] <;> omega)
      have hJ : (Tryz.prog.info? 34).map (·.size) = some X.toArray.size := by rw [List.size_toArray]; exact HR.out.2.2.2.2.1
      have HS := Lib.hid (And.intro rs (And.intro ks (And.intro ht hJ)))
      have HO := Lib.hid (all_oneCell_toArray HR.out.2.2.2.2.2.2.1)
      clear rs ks ht hJ
      go_wp2_with (first
        | (refine wpList_load_mid rfl 34 (.tmp 4) rfl w.heap.size 0 rfl X _ RS.out.rangeAll Tryz.underlying34 rfl HR.out.2.2.2.2.1 ?_)
        | (refine wpList_store_mid rfl 34 (.tmp 6) (.tmp 21) rfl wA.heap.size 0 X.toArray rfl rfl HS.out.2.2.1 HS.out.2.2.2 HO.out ?_))
      refine bodyPost_ret (results_row_tmp rfl _ _ wA.heap.size 34 _ (0, 0) _ rfl HS.out.1 Tryz.underlying34 rfl HS.out.2.2.2) rfl ?_
      exact ⟨by rw [← hok, hE.out, eL_ok _ _ rfl]; rfl, HS.out.2.1⟩
  · have hb : (r.end_ != 0) = true := by simp [he]
    have hE : Hid (endP r.end_ q.ok = r.end_ ∧ r.end_ ≠ 0) := Lib.hid ⟨by unfold endP; rw [if_neg he], he⟩
    clear he
    have RB := Lib.hid HR.out.2.1
    have RS := Lib.hid HR.out.2.2.1
    have KK := Lib.hid HR.out.2.2.2.1
    go_enter Tryz.func97, Tryz.ntmps97
    go_upto_region 2 with (first
      | (with_reducible refine wpList_box_to _ _ rfl 34 (.tmp 1) rfl _ rfl HW.out.1 ?_)
      | (with_reducible refine wpList_alloc_to _ _ rfl 34 rfl _ HW.out.2.2.2 HW.out.2.1 ?_)
      | (with_reducible refine wpList_alloc_to _ _ rfl 34 rfl _ HW.out.2.2.2 HW.out.2.2.1 ?_))
    go_upto_region 3 with (go_at_call 147; refine (end_any p g r _ HR.out.2.2.2.2.2.2.2.2.2.2).mono ?_; rintro e w4 ⟨rfl, rfl⟩)
    have rs := RB.out.setL (vs := Z) (o := 0)
    rw [putL_all (by have h1 := HR.out.2.2.2.2.2.2.2.2.2.1; have h2 := HR.out.2.2.2.2.2.2.2.2.2.1; simp only [List.size_toArray] <;> omega)] at rs
    have ks := KK.out.setL (vs := Z) (g := wA.heap.size) (o := 0) (.inr HN.out.2.2)
    have ht := RB.out.there (o := 0) (n := Z.toArray.size) (by have h1 := HR.out.2.2.2.2.2.2.2.2.2.1; have h2 := HR.out.2.2.2.2.2.2.2.2.2.1; simp only [List.size_toArray] <;> omega)
    have hJ : (Tryz.prog.info? 34).map (·.size) = some Z.toArray.size := by rw [List.size_toArray]; exact HR.out.2.2.2.2.2.1
    have HS := Lib.hid (And.intro rs (And.intro ks (And.intro ht hJ)))
    have HO := Lib.hid (all_oneCell_toArray HR.out.2.2.2.2.2.2.2.1)
    clear rs ks ht hJ
    go_wp2_with (first
      | (refine wpList_load_mid rfl 34 (.tmp 8) rfl wB.heap.size 0 rfl Z _ RS.out.rangeAll Tryz.underlying34 rfl HR.out.2.2.2.2.2.1 ?_)
      | (refine wpList_store_mid rfl 34 (.tmp 6) (.tmp 14) rfl wA.heap.size 0 Z.toArray rfl rfl HS.out.2.2.1 HS.out.2.2.2 HO.out ?_))
    refine bodyPost_ret (results_row_tmp rfl _ _ wA.heap.size 34 _ (0, 0) _ rfl HS.out.1 Tryz.underlying34 rfl HS.out.2.2.2) rfl ?_
    exact ⟨by rw [hE.out.1, eL_no _ _ hE.out.2]; rfl, HS.out.2.1⟩
end Go.Proofs.YthfdkonhjpdflaaGreatDoor
