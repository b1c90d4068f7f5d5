/-
  PACK, 45: the law's helper made, of the kinds [11].
-/
import Derived.Test.YthfdkonhjpdflaaDoorPk41
namespace Go.Proofs.YthfdkonhjpdflaaDoor
open Go.RowKit
set_option linter.unusedVariables false
set_option maxRecDepth 100000
set_option linter.unusedSimpArgs false

set_option maxHeartbeats 16000000 in
theorem made_g3 (F : List Nat) (s : SD) (v : Value) (w : World) (hs : SDok s) (hv : bytesV w F v s.b) (hgrp : ∀ k : Int, k ∉ ([11] : List Int) → ¬ 1 + s.kind % 14 = k) :
    Calls Tryd.prog 7 #[.agg (sdL s v).toArray] w (MADE s w) := by
  obtain ⟨Z, hZ⟩ : ∃ Z, pkL pkZero nilV nilV nilV nilV nilV = Z := ⟨_, rfl⟩
  have zv := zv_pk
  have zl : Z.length = 87 := by rw [← hZ]; exact pkZ_len
  rw [hZ] at zv
  obtain ⟨Y, hY⟩ : ∃ Y, sdL s v = Y := ⟨_, rfl⟩
  obtain ⟨wA, hwA⟩ : ∃ wA, w.alloc (.cells Y.toArray 25) = wA := ⟨_, rfl⟩
  obtain ⟨wB, hwB⟩ : ∃ wB, wA.alloc (.cells Z.toArray 38) = wB := ⟨_, rfl⟩
  have rA := rowAt.new w 25 Y.toArray
  have rB := rowAt.new wA 38 Z.toArray
  have kA := (keepBut.refl [] w).alloc (.cells Y.toArray 25)
  have kB := (keepBut.refl [] wA).alloc (.cells Z.toArray 38)
  rw [hwA] at rA kA
  rw [hwB] at rB kB
  have rA3 := kB.row rA (by simp)
  have kk := kA.then kB (by simp)
  have hA1 : wA.heap.size = w.heap.size + 1 := by rw [← hwA]; simp
  rw [hA1] at rB
  have HW := Lib.hid (And.intro hwA (And.intro hwB zv))
  have HR := Lib.hid (And.intro rA3 (And.intro rB (And.intro kk zl)))
  rw [hY]
  have HY := Lib.hid hY
  have HZ := Lib.hid hZ
  clear hwA hwB zv rA rB kA kB rA3 kk zl hZ hY
  obtain ⟨fa, hfa⟩ : ∃ a : Nat, s.frm % 10 = (a : Int) := ⟨(s.frm % 10).toNat, by omega⟩
  obtain ⟨da, hda⟩ : ∃ a : Nat, s.dst % 10 = (a : Int) := ⟨(s.dst % 10).toNat, by omega⟩
  have fa10 : fa < 10 := by omega
  have da10 : da < 10 := by omega
  have fa10' : (fa : Int) < 10 := by omega
  have da10' : (da : Int) < 10 := by omega
  have HF := Lib.hid hfa
  have HD := Lib.hid hda
  have hw1 : IntKind.i64.wrap (1 + s.kind % 14) = 1 + s.kind % 14 := wraps_i64 _ (by omega) (by omega)
  go_enter Tryd.func7, Tryd.ntmps7
  go_upto_region 1 with (first
    | (with_reducible refine wpList_alloc_to _ _ rfl 38 rfl _ HW.out.2.2 rfl ?_))
  rw [HW.out.1, HW.out.2.1]
  go_upto_region 2 with (go_at_call 23; refine (nodes_any _).mono ?_; intro e wC hq; obtain ⟨nb, rfl, hn1, hn2, hn3⟩ := hq; have HN := Lib.hid (And.intro hn1 (And.intro hn2 hn3)); clear hn1 hn2 hn3)
  have y0 : wC.drew.cell? ⟨w.heap.size, 0, none⟩ = some (.int .i64 s.kind) := ((HN.out.2.1.row HR.out.1 (by simp)).cell 0).trans (by rw [← HY.out]; rfl)
  have y1 : wC.drew.cell? ⟨w.heap.size, 1, none⟩ = some (.int .i64 s.frm) := ((HN.out.2.1.row HR.out.1 (by simp)).cell 1).trans (by rw [← HY.out]; rfl)
  have y2 : wC.drew.cell? ⟨w.heap.size, 2, none⟩ = some (.int .i64 s.dst) := ((HN.out.2.1.row HR.out.1 (by simp)).cell 2).trans (by rw [← HY.out]; rfl)
  have y3 : wC.drew.cell? ⟨nb, fa, none⟩ = some (.int .i64 (ndOf s.frm)) := (HN.out.1.cell fa).trans (nodes_at hfa fa10)
  have y4 : wC.drew.cell? ⟨nb, da, none⟩ = some (.int .i64 (ndOf s.dst)) := (HN.out.1.cell da).trans (nodes_at hda da10)
  clear hfa hda
  go_cut [4] (fun v4 wx => v4 = .pointer (some ⟨wC.heap.size, 0, none⟩) ∧ rowAt wx wC.heap.size 38 (pkL ⟨1 + s.kind % 14, ndOf s.frm, ndOf s.dst, 0, 0, 0, false, rqZero, anZero, cfZero, [], []⟩ nilV nilV nilV nilV nilV).toArray ∧ keepBut [] wC wx)
  case first =>
    have s1 : wC.drew.cell? ⟨w.heap.size, 0, none⟩ = some (.int .i64 s.kind) ∧ wC.drew.cell? ⟨w.heap.size, 1, none⟩ = some (.int .i64 s.frm) ∧ wC.drew.cell? ⟨w.heap.size, 2, none⟩ = some (.int .i64 s.dst) ∧ wC.drew.cell? ⟨nb, fa, none⟩ = some (.int .i64 (ndOf s.frm)) ∧ wC.drew.cell? ⟨nb, da, none⟩ = some (.int .i64 (ndOf s.dst)) := ⟨y0, y1, y2, y3, y4⟩
    clear y0 y1 y2 y3 y4
    refine wp_region_held_drew (S := fun w' => w'.cell? ⟨w.heap.size, 0, none⟩ = some (.int .i64 s.kind) ∧ w'.cell? ⟨w.heap.size, 1, none⟩ = some (.int .i64 s.frm) ∧ w'.cell? ⟨w.heap.size, 2, none⟩ = some (.int .i64 s.dst) ∧ w'.cell? ⟨nb, fa, none⟩ = some (.int .i64 (ndOf s.frm)) ∧ w'.cell? ⟨nb, da, none⟩ = some (.int .i64 (ndOf s.dst))) (by kernel_rfl) s1 (fun _ => ?_)
    refine wpAnyH_take (i := 0) (oi := ⟨_, _, _, _, _, _⟩) (v := ?_) rfl (by kernel_rfl) (by kernel_rfl) (by kernel_rfl) (fun _ _ _ h => h) (Or.inl ⟨by rfl, ?_⟩) s1 ?_
    rotate_left
    · intro w' hSw; (try dsimp only at hSw); (go_simp; try with_reducible rfl)
    try simp only [Act.put, List.setIfInBounds_toArray, List.set_cons_zero, List.set_cons_succ]
    refine wpAnyH_take (i := 1) (oi := ⟨_, _, _, _, _, _⟩) (v := ?_) rfl (by kernel_rfl) (by kernel_rfl) (by kernel_rfl) (fun _ _ _ h => h) (Or.inl ⟨by rfl, ?_⟩) s1 ?_
    rotate_left
    · intro w' hSw; (try dsimp only at hSw); (go_simp; try with_reducible rfl)
    try simp only [Act.put, List.setIfInBounds_toArray, List.set_cons_zero, List.set_cons_succ]
    refine wpAnyH_take (i := 4) (oi := ⟨_, _, _, _, _, _⟩) (v := ?_) rfl (by kernel_rfl) (by kernel_rfl) (by kernel_rfl) (fun _ _ _ h => h) (Or.inl ⟨by rfl, ?_⟩) s1 ?_
    rotate_left
    · intro w' hSw; (try dsimp only at hSw); (go_simp; try with_reducible rfl)
    try simp only [Act.put, List.setIfInBounds_toArray, List.set_cons_zero, List.set_cons_succ]
    refine wpAnyH_take (i := 5) (oi := ⟨_, _, _, _, _, _⟩) (v := ?_) rfl (by kernel_rfl) (by kernel_rfl) (by kernel_rfl) (fun _ _ _ h => h) (Or.inl ⟨by rfl, ?_⟩) s1 ?_
    rotate_left
    · intro w' hSw; (try dsimp only at hSw); (go_simp; try with_reducible rfl)
    try simp only [Act.put, List.setIfInBounds_toArray, List.set_cons_zero, List.set_cons_succ]
    refine wpAnyH_take (i := 6) (oi := ⟨_, _, _, _, _, _⟩) (v := ?_) rfl (by kernel_rfl) (by kernel_rfl) (by kernel_rfl) (fun _ _ _ h => h) (Or.inl ⟨by rfl, ?_⟩) s1 ?_
    rotate_left
    · intro w' hSw; (try dsimp only at hSw); (go_simp; try with_reducible rfl)
    try simp only [Act.put, List.setIfInBounds_toArray, List.set_cons_zero, List.set_cons_succ]
    refine wpAnyH_take (i := 7) (oi := ⟨_, _, _, _, _, _⟩) (v := ?_) rfl (by kernel_rfl) (by kernel_rfl) (by kernel_rfl) (fun _ _ _ h => h) (Or.inl ⟨by rfl, ?_⟩) s1 ?_
    rotate_left
    · intro w' hSw; (try dsimp only at hSw); (go_simp; try with_reducible rfl)
    try simp only [Act.put, List.setIfInBounds_toArray, List.set_cons_zero, List.set_cons_succ]
    refine wpAnyH_take (i := 8) (oi := ⟨_, _, _, _, _, _⟩) (v := ?_) rfl (by kernel_rfl) (by kernel_rfl) (by kernel_rfl) (fun _ _ _ h => h) (Or.inl ⟨by rfl, ?_⟩) s1 ?_
    rotate_left
    · intro w' hSw; (try dsimp only at hSw); (go_simp; try with_reducible rfl)
    try simp only [Act.put, List.setIfInBounds_toArray, List.set_cons_zero, List.set_cons_succ]
    refine wpAnyH_take (i := 12) (oi := ⟨_, _, _, _, _, _⟩) (v := ?_) rfl (by kernel_rfl) (by kernel_rfl) (by kernel_rfl) (fun _ _ _ h => h) (Or.inl ⟨by rfl, ?_⟩) s1 ?_
    rotate_left
    · intro w' hSw; (try dsimp only at hSw); (go_simp; try with_reducible rfl)
    try simp only [Act.put, List.setIfInBounds_toArray, List.set_cons_zero, List.set_cons_succ]
    refine wpAnyH_take (i := 13) (oi := ⟨_, _, _, _, _, _⟩) (v := ?_) rfl (by kernel_rfl) (by kernel_rfl) (by kernel_rfl) (fun _ _ _ h => h) (Or.inl ⟨by rfl, ?_⟩) s1 ?_
    rotate_left
    · intro w' hSw; (try dsimp only at hSw); (go_simp; try with_reducible rfl)
    try simp only [Act.put, List.setIfInBounds_toArray, List.set_cons_zero, List.set_cons_succ]
    refine wpAnyH_take (i := 14) (oi := ⟨_, _, _, _, _, _⟩) (v := ?_) rfl (by kernel_rfl) (by kernel_rfl) (by kernel_rfl) (fun _ _ _ h => h) (Or.inl ⟨by rfl, ?_⟩) s1 ?_
    rotate_left
    · intro w' hSw; (try dsimp only at hSw); (go_simp; try with_reducible rfl)
    try simp only [Act.put, List.setIfInBounds_toArray, List.set_cons_zero, List.set_cons_succ]
    refine wpAnyH_take (i := 15) (oi := ⟨_, _, _, _, _, _⟩) (v := ?_) rfl (by kernel_rfl) (by kernel_rfl) (by kernel_rfl) (fun _ _ _ h => h) (Or.inl ⟨by rfl, ?_⟩) s1 ?_
    rotate_left
    · intro w' hSw; (try dsimp only at hSw); (go_simp; try with_reducible rfl)
    try simp only [Act.put, List.setIfInBounds_toArray, List.set_cons_zero, List.set_cons_succ]
    refine wpAnyH_take (i := 16) (oi := ⟨_, _, _, _, _, _⟩) (v := ?_) rfl (by kernel_rfl) (by kernel_rfl) (by kernel_rfl) (fun _ _ _ h => h) (Or.inl ⟨by rfl, ?_⟩) s1 ?_
    rotate_left
    · intro w' hSw; (try dsimp only at hSw); (go_simp; try with_reducible rfl)
    try simp only [Act.put, List.setIfInBounds_toArray, List.set_cons_zero, List.set_cons_succ]
    have HS3 : Hid ((wC.drew.cell? ⟨w.heap.size, 0, none⟩ = some (.int .i64 s.kind) ∧ wC.drew.cell? ⟨w.heap.size, 1, none⟩ = some (.int .i64 s.frm) ∧ wC.drew.cell? ⟨w.heap.size, 2, none⟩ = some (.int .i64 s.dst) ∧ wC.drew.cell? ⟨nb, fa, none⟩ = some (.int .i64 (ndOf s.frm)) ∧ wC.drew.cell? ⟨nb, da, none⟩ = some (.int .i64 (ndOf s.dst))) → (wC.drew.alloc (.cells Z.toArray 38)).cell? ⟨w.heap.size, 0, none⟩ = some (.int .i64 s.kind) ∧ (wC.drew.alloc (.cells Z.toArray 38)).cell? ⟨w.heap.size, 1, none⟩ = some (.int .i64 s.frm) ∧ (wC.drew.alloc (.cells Z.toArray 38)).cell? ⟨w.heap.size, 2, none⟩ = some (.int .i64 s.dst) ∧ (wC.drew.alloc (.cells Z.toArray 38)).cell? ⟨nb, fa, none⟩ = some (.int .i64 (ndOf s.frm)) ∧ (wC.drew.alloc (.cells Z.toArray 38)).cell? ⟨nb, da, none⟩ = some (.int .i64 (ndOf s.dst))) := Lib.hid (fun h => by
      have ka := (keepBut.refl [] wC.drew).alloc (.cells Z.toArray 38)
      exact ⟨(ka.cell (p := ⟨w.heap.size, 0, none⟩) (World.block_lt_of_cell? _ _ h.1) (by simp)).trans h.1, (ka.cell (p := ⟨w.heap.size, 1, none⟩) (World.block_lt_of_cell? _ _ h.2.1) (by simp)).trans h.2.1, (ka.cell (p := ⟨w.heap.size, 2, none⟩) (World.block_lt_of_cell? _ _ h.2.2.1) (by simp)).trans h.2.2.1, (ka.cell (p := ⟨nb, fa, none⟩) (World.block_lt_of_cell? _ _ h.2.2.2.1) (by simp)).trans h.2.2.2.1, (ka.cell (p := ⟨nb, da, none⟩) (World.block_lt_of_cell? _ _ h.2.2.2.2) (by simp)).trans h.2.2.2.2⟩)
    have HQ : Hid ((wC.drew.alloc (.cells Z.toArray 38)).there wC.heap.size 0 (pkL ⟨1 + s.kind % 14, ndOf s.frm, ndOf s.dst, 0, 0, 0, false, rqZero, anZero, cfZero, [], []⟩ nilV nilV nilV nilV nilV).toArray.size ∧ (Tryd.prog.info? 38).map (·.size) = some (pkL ⟨1 + s.kind % 14, ndOf s.frm, ndOf s.dst, 0, 0, 0, false, rqZero, anZero, cfZero, [], []⟩ nilV nilV nilV nilV nilV).toArray.size ∧ ((pkL ⟨1 + s.kind % 14, ndOf s.frm, ndOf s.dst, 0, 0, 0, false, rqZero, anZero, cfZero, [], []⟩ nilV nilV nilV nilV nilV).toArray.all fun x => x.oneCell') = true ∧ (((wC.drew.alloc (.cells Z.toArray 38)).cell? ⟨w.heap.size, 0, none⟩ = some (.int .i64 s.kind) ∧ (wC.drew.alloc (.cells Z.toArray 38)).cell? ⟨w.heap.size, 1, none⟩ = some (.int .i64 s.frm) ∧ (wC.drew.alloc (.cells Z.toArray 38)).cell? ⟨w.heap.size, 2, none⟩ = some (.int .i64 s.dst) ∧ (wC.drew.alloc (.cells Z.toArray 38)).cell? ⟨nb, fa, none⟩ = some (.int .i64 (ndOf s.frm)) ∧ (wC.drew.alloc (.cells Z.toArray 38)).cell? ⟨nb, da, none⟩ = some (.int .i64 (ndOf s.dst))) → ((wC.drew.alloc (.cells Z.toArray 38)).setCells wC.heap.size 0 (pkL ⟨1 + s.kind % 14, ndOf s.frm, ndOf s.dst, 0, 0, 0, false, rqZero, anZero, cfZero, [], []⟩ nilV nilV nilV nilV nilV)).cell? ⟨w.heap.size, 0, none⟩ = some (.int .i64 s.kind) ∧ ((wC.drew.alloc (.cells Z.toArray 38)).setCells wC.heap.size 0 (pkL ⟨1 + s.kind % 14, ndOf s.frm, ndOf s.dst, 0, 0, 0, false, rqZero, anZero, cfZero, [], []⟩ nilV nilV nilV nilV nilV)).cell? ⟨w.heap.size, 1, none⟩ = some (.int .i64 s.frm) ∧ ((wC.drew.alloc (.cells Z.toArray 38)).setCells wC.heap.size 0 (pkL ⟨1 + s.kind % 14, ndOf s.frm, ndOf s.dst, 0, 0, 0, false, rqZero, anZero, cfZero, [], []⟩ nilV nilV nilV nilV nilV)).cell? ⟨w.heap.size, 2, none⟩ = some (.int .i64 s.dst) ∧ ((wC.drew.alloc (.cells Z.toArray 38)).setCells wC.heap.size 0 (pkL ⟨1 + s.kind % 14, ndOf s.frm, ndOf s.dst, 0, 0, 0, false, rqZero, anZero, cfZero, [], []⟩ nilV nilV nilV nilV nilV)).cell? ⟨nb, fa, none⟩ = some (.int .i64 (ndOf s.frm)) ∧ ((wC.drew.alloc (.cells Z.toArray 38)).setCells wC.heap.size 0 (pkL ⟨1 + s.kind % 14, ndOf s.frm, ndOf s.dst, 0, 0, 0, false, rqZero, anZero, cfZero, [], []⟩ nilV nilV nilV nilV nilV)).cell? ⟨nb, da, none⟩ = some (.int .i64 (ndOf s.dst))) ∧ rowAt ((wC.drew.alloc (.cells Z.toArray 38)).setCells wC.heap.size 0 (pkL ⟨1 + s.kind % 14, ndOf s.frm, ndOf s.dst, 0, 0, 0, false, rqZero, anZero, cfZero, [], []⟩ nilV nilV nilV nilV nilV)) wC.heap.size 38 (pkL ⟨1 + s.kind % 14, ndOf s.frm, ndOf s.dst, 0, 0, 0, false, rqZero, anZero, cfZero, [], []⟩ nilV nilV nilV nilV nilV).toArray ∧ keepBut [] wC ((wC.drew.alloc (.cells Z.toArray 38)).setCells wC.heap.size 0 (pkL ⟨1 + s.kind % 14, ndOf s.frm, ndOf s.dst, 0, 0, 0, false, rqZero, anZero, cfZero, [], []⟩ nilV nilV nilV nilV nilV))) := Lib.hid (by
      have ql : (pkL ⟨1 + s.kind % 14, ndOf s.frm, ndOf s.dst, 0, 0, 0, false, rqZero, anZero, cfZero, [], []⟩ nilV nilV nilV nilV nilV).length = 87 := pkL_len rqZero_name anZero_name
      have qo : ∀ u ∈ (pkL ⟨1 + s.kind % 14, ndOf s.frm, ndOf s.dst, 0, 0, 0, false, rqZero, anZero, cfZero, [], []⟩ nilV nilV nilV nilV nilV), u.oneCell' = true := pkL_one rfl rfl rfl rfl rfl
      generalize (pkL ⟨1 + s.kind % 14, ndOf s.frm, ndOf s.dst, 0, 0, 0, false, rqZero, anZero, cfZero, [], []⟩ nilV nilV nilV nilV nilV) = QL at ql qo ⊢
      have rn : rowAt (wC.drew.alloc (.cells Z.toArray 38)) wC.heap.size 38 Z.toArray := rowAt.new wC.drew _ _
      have kn := ((keepBut.refl [] wC).drew).alloc (.cells Z.toArray 38)
      have rs := rn.setL (vs := QL) (o := 0)
      rw [putL_all (by rw [ql, List.size_toArray]; exact HR.out.2.2.2.symm)] at rs
      have ks := (keepBut.refl [wC.heap.size] (wC.drew.alloc (.cells Z.toArray 38))).setL (vs := QL) (g := wC.heap.size) (o := 0) (by simp)
      have hg : w.heap.size < wC.heap.size := (HN.out.2.1.row HR.out.1 (by simp)).lt
      have hg2 : nb < wC.heap.size := HN.out.1.lt
      refine ⟨rn.there (by simp only [List.size_toArray]; have := HR.out.2.2.2; omega), by rw [List.size_toArray, ql]; exact info_pk, all_oneCell_toArray qo, fun h => ⟨(ks.cell (p := ⟨w.heap.size, 0, none⟩) (World.block_lt_of_cell? _ _ h.1) (by simp; omega)).trans h.1, (ks.cell (p := ⟨w.heap.size, 1, none⟩) (World.block_lt_of_cell? _ _ h.2.1) (by simp; omega)).trans h.2.1, (ks.cell (p := ⟨w.heap.size, 2, none⟩) (World.block_lt_of_cell? _ _ h.2.2.1) (by simp; omega)).trans h.2.2.1, (ks.cell (p := ⟨nb, fa, none⟩) (World.block_lt_of_cell? _ _ h.2.2.2.1) (by simp; omega)).trans h.2.2.2.1, (ks.cell (p := ⟨nb, da, none⟩) (World.block_lt_of_cell? _ _ h.2.2.2.2) (by simp; omega)).trans h.2.2.2.2⟩, rs, kn.setL (.inr (Nat.le_refl _))⟩)
    refine wpAnyH_ready (rs := [2, 21]) (by kernel_rfl) (by simp) ?_
    refine AllReadyH.cons (o := ⟨_, _, _, _, _, _⟩) rfl (fun K hK => ?_) (AllReadyH.cons (o := ⟨_, _, _, _, _, _⟩) rfl (fun K hK => ?_) AllReadyH.nil)
    · skip
      go_simp
      refine (bring_any s.kind 14 hs.k.1 hs.k.2 (by omega) (by omega) _).mono ?_
      rintro e w' ⟨rfl, rfl⟩
      go_wp2_with fail
      refine hK.out _ _ s1 (fun _ => ?_)
      clear hK K
      try simp only [Act.put, List.setIfInBounds_toArray, List.set_cons_zero, List.set_cons_succ]
      refine wpAnyH_take (i := 3) (oi := ⟨_, _, _, _, _, _⟩) (v := ?_) rfl (by kernel_rfl) (by kernel_rfl) (by kernel_rfl) (fun _ _ _ h => h) (Or.inl ⟨by rfl, ?_⟩) s1 ?_
      rotate_left
      · intro w' hSw; (try dsimp only at hSw); (go_simp; try with_reducible rfl)
      try simp only [Act.put, List.setIfInBounds_toArray, List.set_cons_zero, List.set_cons_succ]
      refine wpAnyH_ready (rs := [9, 21]) (by kernel_rfl) (by simp) ?_
      refine AllReadyH.cons (o := ⟨_, _, _, _, _, _⟩) rfl (fun K hK => ?_) (AllReadyH.cons (o := ⟨_, _, _, _, _, _⟩) rfl (fun K hK => ?_) AllReadyH.nil)
      · skip
        go_simp
        refine (bring_any s.frm 10 hs.f.1 hs.f.2 (by omega) (by omega) _).mono ?_
        rintro e w' ⟨rfl, rfl⟩
        rw [HF.out]
        go_wp2_with fail
        refine hK.out _ _ s1 (fun _ => ?_)
        clear hK K
        try simp only [Act.put, List.setIfInBounds_toArray, List.set_cons_zero, List.set_cons_succ]
        refine wpAnyH_take (i := 10) (oi := ⟨_, _, _, _, _, _⟩) (v := ?_) rfl (by kernel_rfl) (by kernel_rfl) (by kernel_rfl) (fun _ _ _ h => h) (Or.inl ⟨by rfl, ?_⟩) s1 ?_
        rotate_left
        · intro w' hSw; (try dsimp only at hSw); (go_simp; try with_reducible rfl)
        try simp only [Act.put, List.setIfInBounds_toArray, List.set_cons_zero, List.set_cons_succ]
        refine wpAnyH_take (i := 11) (oi := ⟨_, _, _, _, _, _⟩) (v := ?_) rfl (by kernel_rfl) (by kernel_rfl) (by kernel_rfl) (fun _ _ _ h => h) (Or.inl ⟨by rfl, ?_⟩) s1 ?_
        rotate_left
        · intro w' hSw; (try dsimp only at hSw); (go_simp; try with_reducible rfl)
        try simp only [Act.put, List.setIfInBounds_toArray, List.set_cons_zero, List.set_cons_succ]
        refine wpAnyH_ready (rs := [17, 21]) (by kernel_rfl) (by simp) ?_
        refine AllReadyH.cons (o := ⟨_, _, _, _, _, _⟩) rfl (fun K hK => ?_) (AllReadyH.cons (o := ⟨_, _, _, _, _, _⟩) rfl (fun K hK => ?_) AllReadyH.nil)
        · skip
          go_simp
          refine (bring_any s.dst 10 hs.d.1 hs.d.2 (by omega) (by omega) _).mono ?_
          rintro e w' ⟨rfl, rfl⟩
          rw [HD.out]
          go_wp2_with fail
          refine hK.out _ _ s1 (fun _ => ?_)
          clear hK K
          try simp only [Act.put, List.setIfInBounds_toArray, List.set_cons_zero, List.set_cons_succ]
          refine wpAnyH_take (i := 18) (oi := ⟨_, _, _, _, _, _⟩) (v := ?_) rfl (by kernel_rfl) (by kernel_rfl) (by kernel_rfl) (fun _ _ _ h => h) (Or.inl ⟨by rfl, ?_⟩) s1 ?_
          rotate_left
          · intro w' hSw; (try dsimp only at hSw); (go_simp; try with_reducible rfl)
          try simp only [Act.put, List.setIfInBounds_toArray, List.set_cons_zero, List.set_cons_succ]
          refine wpAnyH_take (i := 19) (oi := ⟨_, _, _, _, _, _⟩) (v := ?_) rfl (by kernel_rfl) (by kernel_rfl) (by kernel_rfl) (fun _ _ _ h => h) (Or.inl ⟨by rfl, ?_⟩) s1 ?_
          rotate_left
          · intro w' hSw; (try dsimp only at hSw); (go_simp; try with_reducible rfl)
          try simp only [Act.put, List.setIfInBounds_toArray, List.set_cons_zero, List.set_cons_succ]
          refine wpAnyH_take (i := 20) (oi := ⟨_, _, _, _, _, _⟩) (v := ?_) rfl (by kernel_rfl) (by kernel_rfl) (by kernel_rfl) (fun _ _ _ h => h) (Or.inl ⟨by rfl, ?_⟩) s1 ?_
          rotate_left
          · intro w' hSw; (try dsimp only at hSw); (go_simp; try with_reducible rfl)
          try simp only [Act.put, List.setIfInBounds_toArray, List.set_cons_zero, List.set_cons_succ]
          refine wpAnyH_ready (rs := [21]) (by kernel_rfl) (by simp) ?_
          refine AllReadyH.cons (o := ⟨_, _, _, _, _, _⟩) rfl (fun K hK => ?_) AllReadyH.nil
          refine step_alloc_to _ _ rfl 38 rfl _ HW.out.2.2 rfl ?_
          have s3 := HS3.out s1
          refine hK.out _ _ s3 (fun _ => ?_)
          clear hK K
          try simp only [Act.put, List.setIfInBounds_toArray, List.set_cons_zero, List.set_cons_succ]
          refine wpAnyH_ready (rs := [22]) (by kernel_rfl) (by simp) ?_
          refine AllReadyH.cons (o := ⟨_, _, _, _, _, _⟩) rfl (fun K hK => ?_) AllReadyH.nil
          refine step_store_mid rfl 38 (.tmp 4) (.tmp 30) rfl wC.heap.size 0 (pkL ⟨1 + s.kind % 14, ndOf s.frm, ndOf s.dst, 0, 0, 0, false, rqZero, anZero, cfZero, [], []⟩ nilV nilV nilV nilV nilV).toArray rfl (by rfl) HQ.out.1 HQ.out.2.1 HQ.out.2.2.1 ?_
          refine hK.out _ _ (HQ.out.2.2.2.1 s3) (fun _ => ?_)
          clear hK K
          try simp only [Act.put, List.setIfInBounds_toArray, List.set_cons_zero, List.set_cons_succ]
          refine wpAnyH_done (by kernel_rfl) ?_ _
          go_wp2_with fail
          go_meet
          exact ⟨rfl, HQ.out.2.2.2.2.1, HQ.out.2.2.2.2.2⟩
        · skip
          refine step_alloc_to _ _ rfl 38 rfl _ HW.out.2.2 rfl ?_
          have s3 := HS3.out s1
          refine hK.out _ _ s3 (fun _ => ?_)
          clear hK K
          try simp only [Act.put, List.setIfInBounds_toArray, List.set_cons_zero, List.set_cons_succ]
          refine wpAnyH_ready (rs := [17]) (by kernel_rfl) (by simp) ?_
          refine AllReadyH.cons (o := ⟨_, _, _, _, _, _⟩) rfl (fun K hK => ?_) AllReadyH.nil
          go_simp
          refine (bring_any s.dst 10 hs.d.1 hs.d.2 (by omega) (by omega) _).mono ?_
          rintro e w' ⟨rfl, rfl⟩
          rw [HD.out]
          go_wp2_with fail
          refine hK.out _ _ s3 (fun _ => ?_)
          clear hK K
          try simp only [Act.put, List.setIfInBounds_toArray, List.set_cons_zero, List.set_cons_succ]
          refine wpAnyH_take (i := 18) (oi := ⟨_, _, _, _, _, _⟩) (v := ?_) rfl (by kernel_rfl) (by kernel_rfl) (by kernel_rfl) (fun _ _ _ h => h) (Or.inl ⟨by rfl, ?_⟩) s3 ?_
          rotate_left
          · intro w' hSw; (try dsimp only at hSw); (go_simp; try with_reducible rfl)
          try simp only [Act.put, List.setIfInBounds_toArray, List.set_cons_zero, List.set_cons_succ]
          refine wpAnyH_take (i := 19) (oi := ⟨_, _, _, _, _, _⟩) (v := ?_) rfl (by kernel_rfl) (by kernel_rfl) (by kernel_rfl) (fun _ _ _ h => h) (Or.inl ⟨by rfl, ?_⟩) s3 ?_
          rotate_left
          · intro w' hSw; (try dsimp only at hSw); (go_simp; try with_reducible rfl)
          try simp only [Act.put, List.setIfInBounds_toArray, List.set_cons_zero, List.set_cons_succ]
          refine wpAnyH_take (i := 20) (oi := ⟨_, _, _, _, _, _⟩) (v := ?_) rfl (by kernel_rfl) (by kernel_rfl) (by kernel_rfl) (fun _ _ _ h => h) (Or.inl ⟨by rfl, ?_⟩) s3 ?_
          rotate_left
          · intro w' hSw; (try dsimp only at hSw); (go_simp; try with_reducible rfl)
          try simp only [Act.put, List.setIfInBounds_toArray, List.set_cons_zero, List.set_cons_succ]
          refine wpAnyH_ready (rs := [22]) (by kernel_rfl) (by simp) ?_
          refine AllReadyH.cons (o := ⟨_, _, _, _, _, _⟩) rfl (fun K hK => ?_) AllReadyH.nil
          refine step_store_mid rfl 38 (.tmp 4) (.tmp 30) rfl wC.heap.size 0 (pkL ⟨1 + s.kind % 14, ndOf s.frm, ndOf s.dst, 0, 0, 0, false, rqZero, anZero, cfZero, [], []⟩ nilV nilV nilV nilV nilV).toArray rfl (by rfl) HQ.out.1 HQ.out.2.1 HQ.out.2.2.1 ?_
          refine hK.out _ _ (HQ.out.2.2.2.1 s3) (fun _ => ?_)
          clear hK K
          try simp only [Act.put, List.setIfInBounds_toArray, List.set_cons_zero, List.set_cons_succ]
          refine wpAnyH_done (by kernel_rfl) ?_ _
          go_wp2_with fail
          go_meet
          exact ⟨rfl, HQ.out.2.2.2.2.1, HQ.out.2.2.2.2.2⟩
      · skip
        refine step_alloc_to _ _ rfl 38 rfl _ HW.out.2.2 rfl ?_
        have s3 := HS3.out s1
        refine hK.out _ _ s3 (fun _ => ?_)
        clear hK K
        try simp only [Act.put, List.setIfInBounds_toArray, List.set_cons_zero, List.set_cons_succ]
        refine wpAnyH_ready (rs := [9]) (by kernel_rfl) (by simp) ?_
        refine AllReadyH.cons (o := ⟨_, _, _, _, _, _⟩) rfl (fun K hK => ?_) AllReadyH.nil
        go_simp
        refine (bring_any s.frm 10 hs.f.1 hs.f.2 (by omega) (by omega) _).mono ?_
        rintro e w' ⟨rfl, rfl⟩
        rw [HF.out]
        go_wp2_with fail
        refine hK.out _ _ s3 (fun _ => ?_)
        clear hK K
        try simp only [Act.put, List.setIfInBounds_toArray, List.set_cons_zero, List.set_cons_succ]
        refine wpAnyH_take (i := 10) (oi := ⟨_, _, _, _, _, _⟩) (v := ?_) rfl (by kernel_rfl) (by kernel_rfl) (by kernel_rfl) (fun _ _ _ h => h) (Or.inl ⟨by rfl, ?_⟩) s3 ?_
        rotate_left
        · intro w' hSw; (try dsimp only at hSw); (go_simp; try with_reducible rfl)
        try simp only [Act.put, List.setIfInBounds_toArray, List.set_cons_zero, List.set_cons_succ]
        refine wpAnyH_take (i := 11) (oi := ⟨_, _, _, _, _, _⟩) (v := ?_) rfl (by kernel_rfl) (by kernel_rfl) (by kernel_rfl) (fun _ _ _ h => h) (Or.inl ⟨by rfl, ?_⟩) s3 ?_
        rotate_left
        · intro w' hSw; (try dsimp only at hSw); (go_simp; try with_reducible rfl)
        try simp only [Act.put, List.setIfInBounds_toArray, List.set_cons_zero, List.set_cons_succ]
        refine wpAnyH_ready (rs := [17]) (by kernel_rfl) (by simp) ?_
        refine AllReadyH.cons (o := ⟨_, _, _, _, _, _⟩) rfl (fun K hK => ?_) AllReadyH.nil
        go_simp
        refine (bring_any s.dst 10 hs.d.1 hs.d.2 (by omega) (by omega) _).mono ?_
        rintro e w' ⟨rfl, rfl⟩
        rw [HD.out]
        go_wp2_with fail
        refine hK.out _ _ s3 (fun _ => ?_)
        clear hK K
        try simp only [Act.put, List.setIfInBounds_toArray, List.set_cons_zero, List.set_cons_succ]
        refine wpAnyH_take (i := 18) (oi := ⟨_, _, _, _, _, _⟩) (v := ?_) rfl (by kernel_rfl) (by kernel_rfl) (by kernel_rfl) (fun _ _ _ h => h) (Or.inl ⟨by rfl, ?_⟩) s3 ?_
        rotate_left
        · intro w' hSw; (try dsimp only at hSw); (go_simp; try with_reducible rfl)
        try simp only [Act.put, List.setIfInBounds_toArray, List.set_cons_zero, List.set_cons_succ]
        refine wpAnyH_take (i := 19) (oi := ⟨_, _, _, _, _, _⟩) (v := ?_) rfl (by kernel_rfl) (by kernel_rfl) (by kernel_rfl) (fun _ _ _ h => h) (Or.inl ⟨by rfl, ?_⟩) s3 ?_
        rotate_left
        · intro w' hSw; (try dsimp only at hSw); (go_simp; try with_reducible rfl)
        try simp only [Act.put, List.setIfInBounds_toArray, List.set_cons_zero, List.set_cons_succ]
        refine wpAnyH_take (i := 20) (oi := ⟨_, _, _, _, _, _⟩) (v := ?_) rfl (by kernel_rfl) (by kernel_rfl) (by kernel_rfl) (fun _ _ _ h => h) (Or.inl ⟨by rfl, ?_⟩) s3 ?_
        rotate_left
        · intro w' hSw; (try dsimp only at hSw); (go_simp; try with_reducible rfl)
        try simp only [Act.put, List.setIfInBounds_toArray, List.set_cons_zero, List.set_cons_succ]
        refine wpAnyH_ready (rs := [22]) (by kernel_rfl) (by simp) ?_
        refine AllReadyH.cons (o := ⟨_, _, _, _, _, _⟩) rfl (fun K hK => ?_) AllReadyH.nil
        refine step_store_mid rfl 38 (.tmp 4) (.tmp 30) rfl wC.heap.size 0 (pkL ⟨1 + s.kind % 14, ndOf s.frm, ndOf s.dst, 0, 0, 0, false, rqZero, anZero, cfZero, [], []⟩ nilV nilV nilV nilV nilV).toArray rfl (by rfl) HQ.out.1 HQ.out.2.1 HQ.out.2.2.1 ?_
        refine hK.out _ _ (HQ.out.2.2.2.1 s3) (fun _ => ?_)
        clear hK K
        try simp only [Act.put, List.setIfInBounds_toArray, List.set_cons_zero, List.set_cons_succ]
        refine wpAnyH_done (by kernel_rfl) ?_ _
        go_wp2_with fail
        go_meet
        exact ⟨rfl, HQ.out.2.2.2.2.1, HQ.out.2.2.2.2.2⟩
    · skip
      refine step_alloc_to _ _ rfl 38 rfl _ HW.out.2.2 rfl ?_
      have s3 := HS3.out s1
      refine hK.out _ _ s3 (fun _ => ?_)
      clear hK K
      try simp only [Act.put, List.setIfInBounds_toArray, List.set_cons_zero, List.set_cons_succ]
      refine wpAnyH_ready (rs := [2]) (by kernel_rfl) (by simp) ?_
      refine AllReadyH.cons (o := ⟨_, _, _, _, _, _⟩) rfl (fun K hK => ?_) AllReadyH.nil
      go_simp
      refine (bring_any s.kind 14 hs.k.1 hs.k.2 (by omega) (by omega) _).mono ?_
      rintro e w' ⟨rfl, rfl⟩
      go_wp2_with fail
      refine hK.out _ _ s3 (fun _ => ?_)
      clear hK K
      try simp only [Act.put, List.setIfInBounds_toArray, List.set_cons_zero, List.set_cons_succ]
      refine wpAnyH_take (i := 3) (oi := ⟨_, _, _, _, _, _⟩) (v := ?_) rfl (by kernel_rfl) (by kernel_rfl) (by kernel_rfl) (fun _ _ _ h => h) (Or.inl ⟨by rfl, ?_⟩) s3 ?_
      rotate_left
      · intro w' hSw; (try dsimp only at hSw); (go_simp; try with_reducible rfl)
      try simp only [Act.put, List.setIfInBounds_toArray, List.set_cons_zero, List.set_cons_succ]
      refine wpAnyH_ready (rs := [9]) (by kernel_rfl) (by simp) ?_
      refine AllReadyH.cons (o := ⟨_, _, _, _, _, _⟩) rfl (fun K hK => ?_) AllReadyH.nil
      go_simp
      refine (bring_any s.frm 10 hs.f.1 hs.f.2 (by omega) (by omega) _).mono ?_
      rintro e w' ⟨rfl, rfl⟩
      rw [HF.out]
      go_wp2_with fail
      refine hK.out _ _ s3 (fun _ => ?_)
      clear hK K
      try simp only [Act.put, List.setIfInBounds_toArray, List.set_cons_zero, List.set_cons_succ]
      refine wpAnyH_take (i := 10) (oi := ⟨_, _, _, _, _, _⟩) (v := ?_) rfl (by kernel_rfl) (by kernel_rfl) (by kernel_rfl) (fun _ _ _ h => h) (Or.inl ⟨by rfl, ?_⟩) s3 ?_
      rotate_left
      · intro w' hSw; (try dsimp only at hSw); (go_simp; try with_reducible rfl)
      try simp only [Act.put, List.setIfInBounds_toArray, List.set_cons_zero, List.set_cons_succ]
      refine wpAnyH_take (i := 11) (oi := ⟨_, _, _, _, _, _⟩) (v := ?_) rfl (by kernel_rfl) (by kernel_rfl) (by kernel_rfl) (fun _ _ _ h => h) (Or.inl ⟨by rfl, ?_⟩) s3 ?_
      rotate_left
      · intro w' hSw; (try dsimp only at hSw); (go_simp; try with_reducible rfl)
      try simp only [Act.put, List.setIfInBounds_toArray, List.set_cons_zero, List.set_cons_succ]
      refine wpAnyH_ready (rs := [17]) (by kernel_rfl) (by simp) ?_
      refine AllReadyH.cons (o := ⟨_, _, _, _, _, _⟩) rfl (fun K hK => ?_) AllReadyH.nil
      go_simp
      refine (bring_any s.dst 10 hs.d.1 hs.d.2 (by omega) (by omega) _).mono ?_
      rintro e w' ⟨rfl, rfl⟩
      rw [HD.out]
      go_wp2_with fail
      refine hK.out _ _ s3 (fun _ => ?_)
      clear hK K
      try simp only [Act.put, List.setIfInBounds_toArray, List.set_cons_zero, List.set_cons_succ]
      refine wpAnyH_take (i := 18) (oi := ⟨_, _, _, _, _, _⟩) (v := ?_) rfl (by kernel_rfl) (by kernel_rfl) (by kernel_rfl) (fun _ _ _ h => h) (Or.inl ⟨by rfl, ?_⟩) s3 ?_
      rotate_left
      · intro w' hSw; (try dsimp only at hSw); (go_simp; try with_reducible rfl)
      try simp only [Act.put, List.setIfInBounds_toArray, List.set_cons_zero, List.set_cons_succ]
      refine wpAnyH_take (i := 19) (oi := ⟨_, _, _, _, _, _⟩) (v := ?_) rfl (by kernel_rfl) (by kernel_rfl) (by kernel_rfl) (fun _ _ _ h => h) (Or.inl ⟨by rfl, ?_⟩) s3 ?_
      rotate_left
      · intro w' hSw; (try dsimp only at hSw); (go_simp; try with_reducible rfl)
      try simp only [Act.put, List.setIfInBounds_toArray, List.set_cons_zero, List.set_cons_succ]
      refine wpAnyH_take (i := 20) (oi := ⟨_, _, _, _, _, _⟩) (v := ?_) rfl (by kernel_rfl) (by kernel_rfl) (by kernel_rfl) (fun _ _ _ h => h) (Or.inl ⟨by rfl, ?_⟩) s3 ?_
      rotate_left
      · intro w' hSw; (try dsimp only at hSw); (go_simp; try with_reducible rfl)
      try simp only [Act.put, List.setIfInBounds_toArray, List.set_cons_zero, List.set_cons_succ]
      refine wpAnyH_ready (rs := [22]) (by kernel_rfl) (by simp) ?_
      refine AllReadyH.cons (o := ⟨_, _, _, _, _, _⟩) rfl (fun K hK => ?_) AllReadyH.nil
      refine step_store_mid rfl 38 (.tmp 4) (.tmp 30) rfl wC.heap.size 0 (pkL ⟨1 + s.kind % 14, ndOf s.frm, ndOf s.dst, 0, 0, 0, false, rqZero, anZero, cfZero, [], []⟩ nilV nilV nilV nilV nilV).toArray rfl (by rfl) HQ.out.1 HQ.out.2.1 HQ.out.2.2.1 ?_
      refine hK.out _ _ (HQ.out.2.2.2.1 s3) (fun _ => ?_)
      clear hK K
      try simp only [Act.put, List.setIfInBounds_toArray, List.set_cons_zero, List.set_cons_succ]
      refine wpAnyH_done (by kernel_rfl) ?_ _
      go_wp2_with fail
      go_meet
      exact ⟨rfl, HQ.out.2.2.2.2.1, HQ.out.2.2.2.2.2⟩
  case rest =>
    obtain ⟨rfl, hr, hk⟩ := hcut
    generalize wc = u at *
    have hg : w.heap.size + 1 < wC.heap.size := (HN.out.2.1.row HR.out.2.1 (by simp)).lt
    have kw := (HR.out.2.2.1.then HN.out.2.1 (by simp)).then hk (by simp)
    have M0 : mdA w u wC.heap.size Y Z (baseP s) nilV nilV nilV nilV nilV [] := ⟨hk.row (HN.out.2.1.row HR.out.1 (by simp)) (by simp), hk.row (HN.out.2.1.row HR.out.2.1 (by simp)) (by simp), hr, ⟨rqZero_name, anZero_name, bytesV.nil _ _, bytesV.nil _ _, intsV.nil _ _, votesV.nil _ _, bytesV.nil _ _⟩, fun y hy => by simp at hy, kw, hg⟩
    obtain ⟨tb, htb⟩ : ∃ t, wC.heap.size = t := ⟨_, rfl⟩
    rw [htb] at M0 ⊢
    have HM := Lib.hid M0
    clear hr hk hg kw M0 htb y0 y1 y2 y3 y4
    have bn0 := hs.n0
    have bn1 := hs.n1
    have bn4 := hs.n4
    unfold i64P at bn0 bn1 bn4
    have z0 : u.cell? ⟨w.heap.size, 3, none⟩ = some (.int .i64 s.n0) := (HM.out.sr.cell 3).trans (by rw [← HY.out]; rfl)
    have z1 : u.cell? ⟨w.heap.size, 4, none⟩ = some (.int .i64 s.n1) := (HM.out.sr.cell 4).trans (by rw [← HY.out]; rfl)
    have z4 : u.cell? ⟨w.heap.size, 7, none⟩ = some (.int .i64 s.n4) := (HM.out.sr.cell 7).trans (by rw [← HY.out]; rfl)
    go_upto_region 3 with fail
    go_quiet ((first | (go_at_call 20; with_reducible exact Calls.quiet_of_same ((bring_any s.n0 1125899906842624 bn0.1 bn0.2 (by omega) (by omega) _).mono (fun _ _ ⟨a, b⟩ => ⟨a, b.symm⟩))) | (go_at_call 20; with_reducible exact Calls.quiet_of_same ((bring_any s.n1 1125899906842624 bn1.1 bn1.2 (by omega) (by omega) _).mono (fun _ _ ⟨a, b⟩ => ⟨a, b.symm⟩))) | (go_at_call 20; with_reducible exact Calls.quiet_of_same ((bring_any s.n4 1125899906842624 bn4.1 bn4.2 (by omega) (by omega) _).mono (fun _ _ ⟨a, b⟩ => ⟨a, b.symm⟩)))))
    go_upto_region 4 with fail
    have HM2 := Lib.hid (HM.out.over ((keepBut.refl [] u).drewN nq))
    have z0 : (u.drewN nq).cell? ⟨w.heap.size, 3, none⟩ = some (.int .i64 s.n0) := (HM2.out.sr.cell 3).trans (by rw [← HY.out]; rfl)
    have z1 : (u.drewN nq).cell? ⟨w.heap.size, 4, none⟩ = some (.int .i64 s.n1) := (HM2.out.sr.cell 4).trans (by rw [← HY.out]; rfl)
    have z2 : (u.drewN nq).cell? ⟨w.heap.size, 5, none⟩ = some (.int .i64 s.n2) := (HM2.out.sr.cell 5).trans (by rw [← HY.out]; rfl)
    have z3 : (u.drewN nq).cell? ⟨w.heap.size, 6, none⟩ = some (.int .i64 s.n3) := (HM2.out.sr.cell 6).trans (by rw [← HY.out]; rfl)
    have z5 : (u.drewN nq).cell? ⟨w.heap.size, 8, none⟩ = some v := (HM2.out.sr.cell 8).trans (by rw [← HY.out]; rfl)
    clear z4
    have hu2 := ((keepBut.refl [] u).drewN nq)
    have ck : (u.drewN nq).cell? ⟨tb, 0, none⟩ = some (.int .i64 (1 + s.kind % 14)) := (HM2.out.row.cell 0).trans rfl
    generalize u.drewN nq = u2 at *
    obtain ⟨K, hK⟩ : ∃ K, 1 + s.kind % 14 = K := ⟨_, rfl⟩
    rw [hK] at ck
    have hKs : K = 1 ∨ K = 2 ∨ K = 3 ∨ K = 4 ∨ K = 5 ∨ K = 6 ∨ K = 7 ∨ K = 8 ∨ K = 9 ∨ K = 10 ∨ K = 11 ∨ K = 12 ∨ K = 13 ∨ K = 14 := by omega
    obtain ⟨num, hnum⟩ : ∃ n, s.n0 % 1125899906842624 = n := ⟨_, rfl⟩
    obtain ⟨seq, hseq⟩ : ∃ n, s.n1 % 1125899906842624 = n := ⟨_, rfl⟩
    obtain ⟨bal, hbal⟩ : ∃ n, s.n4 % 1125899906842624 = n := ⟨_, rfl⟩
    have bnum : 0 ≤ num ∧ num < 1125899906842624 := by omega
    have bseq : 0 ≤ seq ∧ seq < 1125899906842624 := by omega
    have bbal : 0 ≤ bal ∧ bal < 1125899906842624 := by omega
    rw [hnum, hseq, hbal]
    have HNS := Lib.hid (And.intro hnum (And.intro hseq hbal))
    clear hnum hseq hbal
    have HKK := Lib.hid hK
    go_upto_block 0 with fail
    go_cut [44] (fun v44 wx => ∃ ev av cv vv bw G, mdA w wx tb Y Z (madeP s) ev av cv vv bw G)
    case first =>
      have y3 := (HM2.out.row.pk rqZero_name anZero_name).c3
      have y4 := (HM2.out.row.pk rqZero_name anZero_name).c4
      have y5 := (HM2.out.row.pk rqZero_name anZero_name).c5
      have y6 := (HM2.out.row.pk rqZero_name anZero_name).c6
      have f3 := HM2.out.row.free 3
      have f4 := HM2.out.row.free 4
      have f5 := HM2.out.row.free 5
      have f6 := HM2.out.row.free 6
      rcases hKs with rfl | rfl | rfl | rfl | rfl | rfl | rfl | rfl | rfl | rfl | rfl | rfl | rfl | rfl
      · exact absurd HKK.out (hgrp 1 (by decide))
      · exact absurd HKK.out (hgrp 2 (by decide))
      · exact absurd HKK.out (hgrp 3 (by decide))
      · exact absurd HKK.out (hgrp 4 (by decide))
      · exact absurd HKK.out (hgrp 5 (by decide))
      · exact absurd HKK.out (hgrp 6 (by decide))
      · exact absurd HKK.out (hgrp 7 (by decide))
      · exact absurd HKK.out (hgrp 8 (by decide))
      · exact absurd HKK.out (hgrp 9 (by decide))
      · exact absurd HKK.out (hgrp 10 (by decide))
      · have M1 := HM2.out.bal bal
        have g1 := (M1.row.pk rqZero_name anZero_name).c4
        have g2 := M1.row.free 4
        obtain ⟨k, hk⟩ : ∃ k : Nat, s.n2 % 9 = (k : Int) := ⟨(s.n2 % 9).toNat, by omega⟩
        have hk8 : k ≤ 8 := by omega
        have HKn := Lib.hid hk
        have E := Lib.hid (show madeP s = { ({ { baseP s with ballot := bal } with seq := seq } : PK) with votes := vtsOf s k } by rw [← HNS.out.2.1, ← HNS.out.2.2, show k = (s.n2 % 9).toNat by have := HKn.out; omega]; exact madeP11 s HKK.out)
        have HM3 := Lib.hid (M1.seq seq)
        clear M1 hk
        obtain ⟨i0, hi0, hz0, hz1, hz2⟩ := info_parts infoVTd
        have HI := Lib.hid (And.intro hi0 (And.intro hz0 (And.intro hz1 hz2)))
        clear hi0 hz0 hz1 hz2
        go_wp2_with fail
        go_loopw [8] (fun v8 wx => ∃ i : Nat, i ≤ k ∧ v8 = .int .i64 (i : Int) ∧ ∃ A c T G, mvS w wx tb Y Z ({ { baseP s with ballot := bal } with seq := seq } : PK) s i A c T G) (fun v8 _ => k - (intOf v8).toNat)
        case atStart => exact ⟨0, by omega, rfl, none, 0, [], [], ⟨HM3.out.sr, HM3.out.zr, HM3.out.row, rfl, owns.nil _ _ _, by simp [homes_none], by simp, by simp, by simp, HM3.out.kp, HM3.out.gt⟩⟩
        case round =>
          obtain ⟨i, hi, rfl, A, c, T, G, hV⟩ := hrel
          have zn : wr.cell? ⟨w.heap.size, 5, none⟩ = some (.int .i64 s.n2) := (hV.sr.cell 5).trans (by rw [← HY.out]; rfl)
          have HV := Lib.hid hV
          clear hV z0 z1 z2 z3 z5 y3 y4 y5 y6 f3 f4 f5 f6 g1 g2
          by_cases hlt : i < k
          · have hlt' : (i : Int) < (k : Int) := by omega
            have hwi : IntKind.i64.wrap ((i : Int) + 1) = (i : Int) + 1 := wraps_i64 _ (by omega) (by omega)
            have hne : (i : Int) + 1 ≠ 0 := by omega
            obtain ⟨q, hq⟩ : ∃ q, bal.toNat / (i + 1) = q := ⟨_, rfl⟩
            have hqb : q ≤ bal.toNat := by rw [← hq]; exact Nat.div_le_self _ _
            have hdv : bal.tdiv ((i : Int) + 1) = (q : Int) := by
              rw [Int.tdiv_eq_ediv_of_nonneg bbal.1, ← hq]
              obtain ⟨m, rfl⟩ := Int.eq_ofNat_of_zero_le bbal.1
              rw [Int.toNat_natCast]
              push_cast
              rfl
            have hwq0 : IntKind.i64.wrap (q : Int) = (q : Int) := wraps_i64 _ (by omega) (by omega)
            have hwq : IntKind.i64.wrap (1 + (q : Int)) = 1 + (q : Int) := wraps_i64 _ (by omega) (by omega)
            obtain ⟨x, hx⟩ : ∃ x, IntKind.i64.wrap (s.n0 + (i : Int)) = x := ⟨_, rfl⟩
            obtain ⟨y, hy⟩ : ∃ y, IntKind.i64.wrap (s.n3 + IntKind.i64.wrap (7 * (i : Int))) = y := ⟨_, rfl⟩
            have h7 : IntKind.i64.wrap (7 * (i : Int)) = 7 * (i : Int) := wraps_i64 _ (by omega) (by omega)
            have hxi : i64P x := by rw [← hx]; exact i64P_wrap _
            have hyi : i64P y := by rw [← hy]; exact i64P_wrap _
            obtain ⟨cf, hcf⟩ : ∃ cf, cfOf x y = cf := ⟨_, rfl⟩
            have HCF := Lib.hid hcf
            have HVT := Lib.hid (show vtOf s i = ⟨1 + (q : Int), cf⟩ by unfold vtOf; rw [hx, hy, hcf, HNS.out.2.2, hq])
            rw [h7] at hy
            clear hcf hq hqb
            go_upto_region 29 with (go_at_call 20; refine (bring_any s.n2 9 hs.n2.1 hs.n2.2 (by omega) (by omega) _).mono ?_; rintro e w1 ⟨rfl, rfl⟩; rw [HKn.out])
            clear zn
            have HP := Lib.hid (fun w' (hk : keepBut (tb :: homes (.slice A i c)) wr w') => (show w'.cell? ⟨w.heap.size, 3, none⟩ = some (.int .i64 s.n0) ∧ w'.cell? ⟨w.heap.size, 6, none⟩ = some (.int .i64 s.n3) from by
              have hr := hk.row HV.out.sr (fun hm => by have h1 := HV.out.gt; have h2 := HV.out.hh w.heap.size; simp at hm; rcases hm with hm | hm; · omega
                                                        · have := h2 hm; omega)
              exact ⟨(hr.cell 3).trans (by rw [← HY.out]; rfl), (hr.cell 6).trans (by rw [← HY.out]; rfl)⟩))
            have kW := (keepBut.refl [] wr).drew
            have kS : keepBut (tb :: homes (.slice A i c)) wr wr.drew := kW.more (by simp)
            refine wp_region_held_drew (S := keepBut (tb :: homes (.slice A i c)) wr) (by kernel_rfl) kS (fun _ => ?_)
            obtain ⟨W0, hW0⟩ : ∃ W, wr.drew = W := ⟨_, rfl⟩
            rw [hW0] at kW kS ⊢
            clear hW0
            refine wpAnyH_take (i := 0) (oi := ⟨_, _, _, _, _, _⟩) (v := ?_) rfl (by kernel_rfl) (by kernel_rfl) (by kernel_rfl) (fun _ _ _ h => h) (Or.inl ⟨by rfl, ?_⟩) kS ?_
            rotate_left
            · intro w' hSw; clear hSw; (go_simp; try with_reducible rfl)
            try simp only [Act.put, List.setIfInBounds_toArray, List.set_cons_zero, List.set_cons_succ]
            refine wpAnyH_take (i := 2) (oi := ⟨_, _, _, _, _, _⟩) (v := ?_) rfl (by kernel_rfl) (by kernel_rfl) (by kernel_rfl) (fun _ _ _ h => h) (Or.inl ⟨by rfl, ?_⟩) kS ?_
            rotate_left
            · intro w' hSw; clear hSw; (go_simp; try with_reducible rfl)
            try simp only [Act.put, List.setIfInBounds_toArray, List.set_cons_zero, List.set_cons_succ]
            refine wpAnyH_take (i := 3) (oi := ⟨_, _, _, _, _, _⟩) (v := ?_) rfl (by kernel_rfl) (by kernel_rfl) (by kernel_rfl) (fun _ _ _ h => h) (Or.inl ⟨by rfl, ?_⟩) kS ?_
            rotate_left
            · intro w' hSw; clear hSw; (go_simp; try with_reducible rfl)
            try simp only [Act.put, List.setIfInBounds_toArray, List.set_cons_zero, List.set_cons_succ]
            refine wpAnyH_take (i := 4) (oi := ⟨_, _, _, _, _, _⟩) (v := ?_) rfl (by kernel_rfl) (by kernel_rfl) (by kernel_rfl) (fun _ _ _ h => h) (Or.inl ⟨by rfl, ?_⟩) kS ?_
            rotate_left
            · intro w' hSw; clear hSw; (go_simp; try with_reducible rfl)
            try simp only [Act.put, List.setIfInBounds_toArray, List.set_cons_zero, List.set_cons_succ]
            refine wpAnyH_take (i := 5) (oi := ⟨_, _, _, _, _, _⟩) (v := ?_) rfl (by kernel_rfl) (by kernel_rfl) (by kernel_rfl) (fun _ _ _ h => h) (Or.inl ⟨by rfl, ?_⟩) kS ?_
            rotate_left
            · intro w' hSw; clear hSw; (go_simp; try with_reducible rfl)
            try simp only [Act.put, List.setIfInBounds_toArray, List.set_cons_zero, List.set_cons_succ]
            refine wpAnyH_take (i := 6) (oi := ⟨_, _, _, _, _, _⟩) (v := ?_) rfl (by kernel_rfl) (by kernel_rfl) (by kernel_rfl) (fun _ _ _ h => h) (Or.inl ⟨by rfl, ?_⟩) kS ?_
            rotate_left
            · intro w' hSw; clear hSw; (go_simp; try with_reducible rfl)
            try simp only [Act.put, List.setIfInBounds_toArray, List.set_cons_zero, List.set_cons_succ]
            refine wpAnyH_take (i := 7) (oi := ⟨_, _, _, _, _, _⟩) (v := ?_) rfl (by kernel_rfl) (by kernel_rfl) (by kernel_rfl) (fun _ _ _ h => h) (Or.inl ⟨by rfl, ?_⟩) kS ?_
            rotate_left
            · intro w' hSw; clear hSw; (go_simp; try with_reducible rfl)
            try simp only [Act.put, List.setIfInBounds_toArray, List.set_cons_zero, List.set_cons_succ]
            refine wpAnyH_take (i := 8) (oi := ⟨_, _, _, _, _, _⟩) (v := ?_) rfl (by kernel_rfl) (by kernel_rfl) (by kernel_rfl) (fun _ _ _ h => h) (Or.inl ⟨by rfl, ?_⟩) kS ?_
            rotate_left
            · intro w' hSw; clear hSw; (go_simp; try with_reducible rfl)
            try simp only [Act.put, List.setIfInBounds_toArray, List.set_cons_zero, List.set_cons_succ]
            refine wpAnyH_take (i := 9) (oi := ⟨_, _, _, _, _, _⟩) (v := ?_) rfl (by kernel_rfl) (by kernel_rfl) (by kernel_rfl) (fun _ _ _ h => h) (Or.inl ⟨by rfl, ?_⟩) kS ?_
            rotate_left
            · intro w' hSw; have xc := (HP.out w' hSw).1; clear hSw; (go_simp; try with_reducible rfl)
            try simp only [Act.put, List.setIfInBounds_toArray, List.set_cons_zero, List.set_cons_succ]
            refine wpAnyH_take (i := 10) (oi := ⟨_, _, _, _, _, _⟩) (v := ?_) rfl (by kernel_rfl) (by kernel_rfl) (by kernel_rfl) (fun _ _ _ h => h) (Or.inl ⟨by rfl, ?_⟩) kS ?_
            rotate_left
            · intro w' hSw; clear hSw; (go_simp; try with_reducible rfl)
            try simp only [Act.put, List.setIfInBounds_toArray, List.set_cons_zero, List.set_cons_succ]
            refine wpAnyH_take (i := 11) (oi := ⟨_, _, _, _, _, _⟩) (v := ?_) rfl (by kernel_rfl) (by kernel_rfl) (by kernel_rfl) (fun _ _ _ h => h) (Or.inl ⟨by rfl, ?_⟩) kS ?_
            rotate_left
            · intro w' hSw; clear hSw; (go_simp; try with_reducible rfl)
            try simp only [Act.put, List.setIfInBounds_toArray, List.set_cons_zero, List.set_cons_succ]
            refine wpAnyH_take (i := 12) (oi := ⟨_, _, _, _, _, _⟩) (v := ?_) rfl (by kernel_rfl) (by kernel_rfl) (by kernel_rfl) (fun _ _ _ h => h) (Or.inl ⟨by rfl, ?_⟩) kS ?_
            rotate_left
            · intro w' hSw; clear hSw; (go_simp; try with_reducible rfl)
            try simp only [Act.put, List.setIfInBounds_toArray, List.set_cons_zero, List.set_cons_succ]
            refine wpAnyH_take (i := 13) (oi := ⟨_, _, _, _, _, _⟩) (v := ?_) rfl (by kernel_rfl) (by kernel_rfl) (by kernel_rfl) (fun _ _ _ h => h) (Or.inl ⟨by rfl, ?_⟩) kS ?_
            rotate_left
            · intro w' hSw; clear hSw; (go_simp; try with_reducible rfl)
            try simp only [Act.put, List.setIfInBounds_toArray, List.set_cons_zero, List.set_cons_succ]
            refine wpAnyH_take (i := 14) (oi := ⟨_, _, _, _, _, _⟩) (v := ?_) rfl (by kernel_rfl) (by kernel_rfl) (by kernel_rfl) (fun _ _ _ h => h) (Or.inl ⟨by rfl, ?_⟩) kS ?_
            rotate_left
            · intro w' hSw; have xc := (HP.out w' hSw).2; clear hSw; (go_simp; try with_reducible rfl)
            try simp only [Act.put, List.setIfInBounds_toArray, List.set_cons_zero, List.set_cons_succ]
            refine wpAnyH_take (i := 15) (oi := ⟨_, _, _, _, _, _⟩) (v := ?_) rfl (by kernel_rfl) (by kernel_rfl) (by kernel_rfl) (fun _ _ _ h => h) (Or.inl ⟨by rfl, ?_⟩) kS ?_
            rotate_left
            · intro w' hSw; clear hSw; (go_simp; try with_reducible rfl)
            try simp only [Act.put, List.setIfInBounds_toArray, List.set_cons_zero, List.set_cons_succ]
            refine wpAnyH_take (i := 16) (oi := ⟨_, _, _, _, _, _⟩) (v := ?_) rfl (by kernel_rfl) (by kernel_rfl) (by kernel_rfl) (fun _ _ _ h => h) (Or.inl ⟨by rfl, ?_⟩) kS ?_
            rotate_left
            · intro w' hSw; clear hSw; (go_simp; try with_reducible rfl)
            try simp only [Act.put, List.setIfInBounds_toArray, List.set_cons_zero, List.set_cons_succ]
            refine wpAnyH_take (i := 17) (oi := ⟨_, _, _, _, _, _⟩) (v := ?_) rfl (by kernel_rfl) (by kernel_rfl) (by kernel_rfl) (fun _ _ _ h => h) (Or.inl ⟨by rfl, ?_⟩) kS ?_
            rotate_left
            · intro w' hSw; clear hSw; (go_simp; try with_reducible rfl)
            try simp only [Act.put, List.setIfInBounds_toArray, List.set_cons_zero, List.set_cons_succ]
            refine wpAnyH_ready (rs := [1, 18]) (by kernel_rfl) (by simp) ?_
            refine AllReadyH.cons (o := ⟨_, _, _, _, _, _⟩) rfl (fun K hK => ?_) (AllReadyH.cons (o := ⟨_, _, _, _, _, _⟩) rfl (fun K hK => ?_) AllReadyH.nil)
            · skip
              have xv := ((kW.row HV.out.row (by simp)).pk rqZero_name anZero_name).d3
              go_simp
              refine hK.out _ _ kS (fun _ => ?_)
              clear hK K
              try simp only [Act.put, List.setIfInBounds_toArray, List.set_cons_zero, List.set_cons_succ]
              refine wpAnyH_ready (rs := [18]) (by kernel_rfl) (by simp) ?_
              refine AllReadyH.cons (o := ⟨_, _, _, _, _, _⟩) rfl (fun K hK => ?_) AllReadyH.nil
              go_simp
              refine (conf_any x y hxi hyi (y % 1048576).toNat (by omega) _).mono ?_
              rw [show cfM (x % 1125899906842624) (y % 1048576).toNat = cfOf x y from rfl, HCF.out]
              intro e w5 hq5
              obtain ⟨ev, G2, rfl, q1, q2, q3⟩ := hq5
              obtain ⟨A7, c7, g7, rfl, -⟩ := id q1
              replace q2 : newIn wr w5 G2 := fun y hy => ⟨Nat.le_trans kW.size (q2 y hy).1, (q2 y hy).2⟩
              replace kW := kW.then q3 (by simp)
              replace kS : keepBut (tb :: homes (.slice A i c)) wr w5 := kW.more (by simp)
              have HC := Lib.hid (And.intro q1 (And.intro q2 kW))
              clear q1 q2 q3
              dsimp only [cfL]
              go_wp2_with fail
              refine hK.out _ _ kS (fun _ => ?_)
              clear hK K
              try simp only [Act.put, List.setIfInBounds_toArray, List.set_cons_zero, List.set_cons_succ]
              refine wpAnyH_take (i := 19) (oi := ⟨_, _, _, _, _, _⟩) (v := ?_) rfl (by kernel_rfl) (by kernel_rfl) (by kernel_rfl) (fun _ _ _ h => h) (Or.inl ⟨by rfl, ?_⟩) kS ?_
              rotate_left
              · intro w' hSw; clear hSw; (go_simp; try with_reducible rfl)
              try simp only [Act.put, List.setIfInBounds_toArray, List.set_cons_zero, List.set_cons_succ]
              refine wpAnyH_ready (rs := [20]) (by kernel_rfl) (by simp) ?_
              refine AllReadyH.cons (o := ⟨_, _, _, _, _, _⟩) rfl (fun K hK => ?_) AllReadyH.nil
              go_simp
              have kN := (keepBut.refl [] w5).alloc (.cells #[.int .i64 (1 + (q : Int)), .int .i64 cf.num, .int .i64 cf.full, .slice A7 cf.chain.length c7] 69)
              replace kW := kW.then kN (by simp)
              replace kS : keepBut (tb :: homes (.slice A i c)) wr (w5.alloc (.cells #[.int .i64 (1 + (q : Int)), .int .i64 cf.num, .int .i64 cf.full, .slice A7 cf.chain.length c7] 69)) := kW.more (by simp)
              refine hK.out _ _ kS (fun _ => ?_)
              clear hK K
              try simp only [Act.put, List.setIfInBounds_toArray, List.set_cons_zero, List.set_cons_succ]
              refine wpAnyH_ready (rs := [21]) (by kernel_rfl) (by simp) ?_
              refine AllReadyH.cons (o := ⟨_, _, _, _, _, _⟩) rfl (fun K hK => ?_) AllReadyH.nil
              refine step_append _ rfl (.tmp 157) (.tmp 176) 36 rfl 69 i0 (.agg #[.int .i64 0, .int .i64 0, .int .i64 0, .slice none 0 0]) 4 48 Tryd.underlying36 HI.out.1 HI.out.2.1 HI.out.2.2.1 HI.out.2.2.2 rfl (by decide) (.slice A i c) i (flatVT T) rfl (HV.out.own.keep kW (by simp)) (some ⟨w5.heap.size, 0, none⟩) w5.heap.size 1 1 #[.int .i64 (1 + (q : Int)), .int .i64 cf.num, .int .i64 cf.full, .slice A7 cf.chain.length c7].toList rfl (reads_rowP (rowAt.new w5 69 #[.int .i64 (1 + (q : Int)), .int .i64 cf.num, .int .i64 cf.full, .slice A7 cf.chain.length c7]) 1 4 rfl) (by intro u hu; simp at hu; rcases hu with rfl | rfl | rfl | rfl <;> rfl) (by omega) (by unfold maxLen; omega) ?_
              intro A6 c6 w6 hown6 hkb6 hloc6
              have k6 : keepBut (homes (.slice A i c)) wr w6 := (kW.more (by simp)).then hkb6 (fun x hx => .inl hx)
              replace kS : keepBut (tb :: homes (.slice A i c)) wr w6 := k6.more (fun x hx => List.mem_cons_of_mem _ hx)
              have r6 := k6.row HV.out.row (fun hm => Nat.lt_irrefl _ (HV.out.hh tb hm))
              have M7 := HV.out.step rqZero_name anZero_name HC.out.2.2 (by rw [HVT.out]; exact HC.out.1) HC.out.2.1 ((((keepBut.refl [] w5).alloc (.cells #[.int .i64 (1 + (q : Int)), .int .i64 cf.num, .int .i64 cf.full, .slice A7 cf.chain.length c7] 69)).more (by simp)).then hkb6 (fun x hx => .inl hx)) (by rw [HVT.out]; exact hown6) (fun x hx => (hloc6 x hx).imp id (fun h => Nat.le_of_lt (Nat.lt_of_lt_of_le (by simp) h)))
              have xv6 := (r6.pk rqZero_name anZero_name).d3
              have xf6 := r6.free 85
              have H7 := Lib.hid M7
              clear M7 hown6 hkb6 hloc6 k6 r6
              refine hK.out _ _ kS (fun _ => ?_)
              clear hK K
              try simp only [Act.put, List.setIfInBounds_toArray, List.set_cons_zero, List.set_cons_succ]
              refine wpAnyH_take (i := 22) (oi := ⟨_, _, _, _, _, _⟩) (v := ?_) rfl (by kernel_rfl) (by kernel_rfl) (by kernel_rfl) (fun _ _ _ h => h) (Or.inl ⟨by rfl, ?_⟩) kS ?_
              rotate_left
              · intro w' hSw; clear hSw; (go_simp; try with_reducible rfl)
              try simp only [Act.put, List.setIfInBounds_toArray, List.set_cons_zero, List.set_cons_succ]
              refine wpAnyH_ready (rs := [23]) (by kernel_rfl) (by simp) ?_
              refine AllReadyH.cons (o := ⟨_, _, _, _, _, _⟩) rfl (fun K hK => ?_) AllReadyH.nil
              go_simp
              replace kS := kS.setCell ⟨tb, 85, none⟩ (.slice A6 (i + 1) c6) (.inl (by simp))
              refine hK.out _ _ kS (fun _ => ?_)
              clear hK K
              try simp only [Act.put, List.setIfInBounds_toArray, List.set_cons_zero, List.set_cons_succ]
              refine wpAnyH_done (by kernel_rfl) ?_ _
              go_wp2_with fail
              go_roundw
              case rel => exact ⟨i + 1, by omega, by go_num, A6, c6, _, _, H7.out⟩
              case measure => simp [intOf]; omega
            · skip
              go_simp
              refine (conf_any x y hxi hyi (y % 1048576).toNat (by omega) _).mono ?_
              rw [show cfM (x % 1125899906842624) (y % 1048576).toNat = cfOf x y from rfl, HCF.out]
              intro e w5 hq5
              obtain ⟨ev, G2, rfl, q1, q2, q3⟩ := hq5
              obtain ⟨A7, c7, g7, rfl, -⟩ := id q1
              replace q2 : newIn wr w5 G2 := fun y hy => ⟨Nat.le_trans kW.size (q2 y hy).1, (q2 y hy).2⟩
              replace kW := kW.then q3 (by simp)
              replace kS : keepBut (tb :: homes (.slice A i c)) wr w5 := kW.more (by simp)
              have HC := Lib.hid (And.intro q1 (And.intro q2 kW))
              clear q1 q2 q3
              dsimp only [cfL]
              go_wp2_with fail
              refine hK.out _ _ kS (fun _ => ?_)
              clear hK K
              try simp only [Act.put, List.setIfInBounds_toArray, List.set_cons_zero, List.set_cons_succ]
              refine wpAnyH_take (i := 19) (oi := ⟨_, _, _, _, _, _⟩) (v := ?_) rfl (by kernel_rfl) (by kernel_rfl) (by kernel_rfl) (fun _ _ _ h => h) (Or.inl ⟨by rfl, ?_⟩) kS ?_
              rotate_left
              · intro w' hSw; clear hSw; (go_simp; try with_reducible rfl)
              try simp only [Act.put, List.setIfInBounds_toArray, List.set_cons_zero, List.set_cons_succ]
              refine wpAnyH_ready (rs := [1, 20]) (by kernel_rfl) (by simp) ?_
              refine AllReadyH.cons (o := ⟨_, _, _, _, _, _⟩) rfl (fun K hK => ?_) (AllReadyH.cons (o := ⟨_, _, _, _, _, _⟩) rfl (fun K hK => ?_) AllReadyH.nil)
              · skip
                have xv := ((kW.row HV.out.row (by simp)).pk rqZero_name anZero_name).d3
                go_simp
                refine hK.out _ _ kS (fun _ => ?_)
                clear hK K
                try simp only [Act.put, List.setIfInBounds_toArray, List.set_cons_zero, List.set_cons_succ]
                refine wpAnyH_ready (rs := [20]) (by kernel_rfl) (by simp) ?_
                refine AllReadyH.cons (o := ⟨_, _, _, _, _, _⟩) rfl (fun K hK => ?_) AllReadyH.nil
                go_simp
                have kN := (keepBut.refl [] w5).alloc (.cells #[.int .i64 (1 + (q : Int)), .int .i64 cf.num, .int .i64 cf.full, .slice A7 cf.chain.length c7] 69)
                replace kW := kW.then kN (by simp)
                replace kS : keepBut (tb :: homes (.slice A i c)) wr (w5.alloc (.cells #[.int .i64 (1 + (q : Int)), .int .i64 cf.num, .int .i64 cf.full, .slice A7 cf.chain.length c7] 69)) := kW.more (by simp)
                refine hK.out _ _ kS (fun _ => ?_)
                clear hK K
                try simp only [Act.put, List.setIfInBounds_toArray, List.set_cons_zero, List.set_cons_succ]
                refine wpAnyH_ready (rs := [21]) (by kernel_rfl) (by simp) ?_
                refine AllReadyH.cons (o := ⟨_, _, _, _, _, _⟩) rfl (fun K hK => ?_) AllReadyH.nil
                refine step_append _ rfl (.tmp 157) (.tmp 176) 36 rfl 69 i0 (.agg #[.int .i64 0, .int .i64 0, .int .i64 0, .slice none 0 0]) 4 48 Tryd.underlying36 HI.out.1 HI.out.2.1 HI.out.2.2.1 HI.out.2.2.2 rfl (by decide) (.slice A i c) i (flatVT T) rfl (HV.out.own.keep kW (by simp)) (some ⟨w5.heap.size, 0, none⟩) w5.heap.size 1 1 #[.int .i64 (1 + (q : Int)), .int .i64 cf.num, .int .i64 cf.full, .slice A7 cf.chain.length c7].toList rfl (reads_rowP (rowAt.new w5 69 #[.int .i64 (1 + (q : Int)), .int .i64 cf.num, .int .i64 cf.full, .slice A7 cf.chain.length c7]) 1 4 rfl) (by intro u hu; simp at hu; rcases hu with rfl | rfl | rfl | rfl <;> rfl) (by omega) (by unfold maxLen; omega) ?_
                intro A6 c6 w6 hown6 hkb6 hloc6
                have k6 : keepBut (homes (.slice A i c)) wr w6 := (kW.more (by simp)).then hkb6 (fun x hx => .inl hx)
                replace kS : keepBut (tb :: homes (.slice A i c)) wr w6 := k6.more (fun x hx => List.mem_cons_of_mem _ hx)
                have r6 := k6.row HV.out.row (fun hm => Nat.lt_irrefl _ (HV.out.hh tb hm))
                have M7 := HV.out.step rqZero_name anZero_name HC.out.2.2 (by rw [HVT.out]; exact HC.out.1) HC.out.2.1 ((((keepBut.refl [] w5).alloc (.cells #[.int .i64 (1 + (q : Int)), .int .i64 cf.num, .int .i64 cf.full, .slice A7 cf.chain.length c7] 69)).more (by simp)).then hkb6 (fun x hx => .inl hx)) (by rw [HVT.out]; exact hown6) (fun x hx => (hloc6 x hx).imp id (fun h => Nat.le_of_lt (Nat.lt_of_lt_of_le (by simp) h)))
                have xv6 := (r6.pk rqZero_name anZero_name).d3
                have xf6 := r6.free 85
                have H7 := Lib.hid M7
                clear M7 hown6 hkb6 hloc6 k6 r6
                refine hK.out _ _ kS (fun _ => ?_)
                clear hK K
                try simp only [Act.put, List.setIfInBounds_toArray, List.set_cons_zero, List.set_cons_succ]
                refine wpAnyH_take (i := 22) (oi := ⟨_, _, _, _, _, _⟩) (v := ?_) rfl (by kernel_rfl) (by kernel_rfl) (by kernel_rfl) (fun _ _ _ h => h) (Or.inl ⟨by rfl, ?_⟩) kS ?_
                rotate_left
                · intro w' hSw; clear hSw; (go_simp; try with_reducible rfl)
                try simp only [Act.put, List.setIfInBounds_toArray, List.set_cons_zero, List.set_cons_succ]
                refine wpAnyH_ready (rs := [23]) (by kernel_rfl) (by simp) ?_
                refine AllReadyH.cons (o := ⟨_, _, _, _, _, _⟩) rfl (fun K hK => ?_) AllReadyH.nil
                go_simp
                replace kS := kS.setCell ⟨tb, 85, none⟩ (.slice A6 (i + 1) c6) (.inl (by simp))
                refine hK.out _ _ kS (fun _ => ?_)
                clear hK K
                try simp only [Act.put, List.setIfInBounds_toArray, List.set_cons_zero, List.set_cons_succ]
                refine wpAnyH_done (by kernel_rfl) ?_ _
                go_wp2_with fail
                go_roundw
                case rel => exact ⟨i + 1, by omega, by go_num, A6, c6, _, _, H7.out⟩
                case measure => simp [intOf]; omega
              · skip
                go_simp
                have kN := (keepBut.refl [] w5).alloc (.cells #[.int .i64 (1 + (q : Int)), .int .i64 cf.num, .int .i64 cf.full, .slice A7 cf.chain.length c7] 69)
                replace kW := kW.then kN (by simp)
                replace kS : keepBut (tb :: homes (.slice A i c)) wr (w5.alloc (.cells #[.int .i64 (1 + (q : Int)), .int .i64 cf.num, .int .i64 cf.full, .slice A7 cf.chain.length c7] 69)) := kW.more (by simp)
                refine hK.out _ _ kS (fun _ => ?_)
                clear hK K
                try simp only [Act.put, List.setIfInBounds_toArray, List.set_cons_zero, List.set_cons_succ]
                refine wpAnyH_ready (rs := [1]) (by kernel_rfl) (by simp) ?_
                refine AllReadyH.cons (o := ⟨_, _, _, _, _, _⟩) rfl (fun K hK => ?_) AllReadyH.nil
                have xv := ((kW.row HV.out.row (by simp)).pk rqZero_name anZero_name).d3
                go_simp
                refine hK.out _ _ kS (fun _ => ?_)
                clear hK K
                try simp only [Act.put, List.setIfInBounds_toArray, List.set_cons_zero, List.set_cons_succ]
                refine wpAnyH_ready (rs := [21]) (by kernel_rfl) (by simp) ?_
                refine AllReadyH.cons (o := ⟨_, _, _, _, _, _⟩) rfl (fun K hK => ?_) AllReadyH.nil
                refine step_append _ rfl (.tmp 157) (.tmp 176) 36 rfl 69 i0 (.agg #[.int .i64 0, .int .i64 0, .int .i64 0, .slice none 0 0]) 4 48 Tryd.underlying36 HI.out.1 HI.out.2.1 HI.out.2.2.1 HI.out.2.2.2 rfl (by decide) (.slice A i c) i (flatVT T) rfl (HV.out.own.keep kW (by simp)) (some ⟨w5.heap.size, 0, none⟩) w5.heap.size 1 1 #[.int .i64 (1 + (q : Int)), .int .i64 cf.num, .int .i64 cf.full, .slice A7 cf.chain.length c7].toList rfl (reads_rowP (rowAt.new w5 69 #[.int .i64 (1 + (q : Int)), .int .i64 cf.num, .int .i64 cf.full, .slice A7 cf.chain.length c7]) 1 4 rfl) (by intro u hu; simp at hu; rcases hu with rfl | rfl | rfl | rfl <;> rfl) (by omega) (by unfold maxLen; omega) ?_
                intro A6 c6 w6 hown6 hkb6 hloc6
                have k6 : keepBut (homes (.slice A i c)) wr w6 := (kW.more (by simp)).then hkb6 (fun x hx => .inl hx)
                replace kS : keepBut (tb :: homes (.slice A i c)) wr w6 := k6.more (fun x hx => List.mem_cons_of_mem _ hx)
                have r6 := k6.row HV.out.row (fun hm => Nat.lt_irrefl _ (HV.out.hh tb hm))
                have M7 := HV.out.step rqZero_name anZero_name HC.out.2.2 (by rw [HVT.out]; exact HC.out.1) HC.out.2.1 ((((keepBut.refl [] w5).alloc (.cells #[.int .i64 (1 + (q : Int)), .int .i64 cf.num, .int .i64 cf.full, .slice A7 cf.chain.length c7] 69)).more (by simp)).then hkb6 (fun x hx => .inl hx)) (by rw [HVT.out]; exact hown6) (fun x hx => (hloc6 x hx).imp id (fun h => Nat.le_of_lt (Nat.lt_of_lt_of_le (by simp) h)))
                have xv6 := (r6.pk rqZero_name anZero_name).d3
                have xf6 := r6.free 85
                have H7 := Lib.hid M7
                clear M7 hown6 hkb6 hloc6 k6 r6
                refine hK.out _ _ kS (fun _ => ?_)
                clear hK K
                try simp only [Act.put, List.setIfInBounds_toArray, List.set_cons_zero, List.set_cons_succ]
                refine wpAnyH_take (i := 22) (oi := ⟨_, _, _, _, _, _⟩) (v := ?_) rfl (by kernel_rfl) (by kernel_rfl) (by kernel_rfl) (fun _ _ _ h => h) (Or.inl ⟨by rfl, ?_⟩) kS ?_
                rotate_left
                · intro w' hSw; clear hSw; (go_simp; try with_reducible rfl)
                try simp only [Act.put, List.setIfInBounds_toArray, List.set_cons_zero, List.set_cons_succ]
                refine wpAnyH_ready (rs := [23]) (by kernel_rfl) (by simp) ?_
                refine AllReadyH.cons (o := ⟨_, _, _, _, _, _⟩) rfl (fun K hK => ?_) AllReadyH.nil
                go_simp
                replace kS := kS.setCell ⟨tb, 85, none⟩ (.slice A6 (i + 1) c6) (.inl (by simp))
                refine hK.out _ _ kS (fun _ => ?_)
                clear hK K
                try simp only [Act.put, List.setIfInBounds_toArray, List.set_cons_zero, List.set_cons_succ]
                refine wpAnyH_done (by kernel_rfl) ?_ _
                go_wp2_with fail
                go_roundw
                case rel => exact ⟨i + 1, by omega, by go_num, A6, c6, _, _, H7.out⟩
                case measure => simp [intOf]; omega
          · obtain rfl : i = k := by omega
            have hlt' : ¬ (i : Int) < (i : Int) := by omega
            go_wp2_with (go_at_call 20; refine (bring_any s.n2 9 hs.n2.1 hs.n2.2 (by omega) (by omega) _).mono ?_; rintro e w1 ⟨rfl, rfl⟩; rw [HKn.out])
            go_meet
            obtain ⟨F2, hF⟩ := HV.out.done rqZero_name anZero_name rfl rfl rfl rfl
            exact ⟨_, _, _, _, _, _, by rw [E.out]; exact hF⟩
      · exact absurd HKK.out (hgrp 12 (by decide))
      · exact absurd HKK.out (hgrp 13 (by decide))
      · exact absurd HKK.out (hgrp 14 (by decide))
    case rest =>
      obtain ⟨ev, av, cv, vv, bw, G, hM⟩ := hcut
      generalize wc = u5 at *
      obtain ⟨XL, hXL⟩ : ∃ XL, pkL (madeP s) ev av cv vv bw = XL := ⟨_, rfl⟩
      have xl : XL.length = 87 := by rw [← hXL]; exact pkL_len hM.val.rn hM.val.an
      have xo : ∀ y ∈ XL, y.oneCell' = true := by rw [← hXL]; exact pkL_one hM.val.re.one hM.val.ae.one hM.val.cc.one hM.val.vs.one hM.val.bs.one
      have hrow := hM.row
      rw [hXL] at hrow
      have rr := hM.zr.setL (vs := XL) (o := 0)
      rw [putL_all (by rw [xl, List.size_toArray]; exact HR.out.2.2.2.symm)] at rr
      have ht := hM.zr.there (o := 0) (n := XL.toArray.size) (by simp only [List.size_toArray]; have := HR.out.2.2.2; omega)
      have hJ : (Tryd.prog.info? 38).map (·.size) = some XL.toArray.size := by rw [List.size_toArray, xl]; exact info_pk
      have hJl : (Tryd.prog.info? 38).map (·.size) = some XL.length := by rw [xl]; exact info_pk
      have HS := Lib.hid (And.intro hrow.rangeAll (And.intro rr (And.intro ht (And.intro hJl (And.intro hJ (all_oneCell_toArray xo))))))
      have HX := Lib.hid (And.intro hXL hM)
      clear hrow rr ht hJ hJl xl xo hXL hM
      go_wp2_with (first
        | (refine wpList_load_mid rfl 38 (.tmp 4) rfl tb 0 rfl _ _ HS.out.1 Tryd.underlying38 rfl HS.out.2.2.2.1 ?_)
        | (refine wpList_store_mid rfl 38 (.tmp 2) (.tmp 197) rfl (w.heap.size + 1) 0 XL.toArray rfl rfl HS.out.2.2.1 HS.out.2.2.2.2.1 HS.out.2.2.2.2.2 ?_))
      refine bodyPost_ret (results_cell_row rfl _ _ (w.heap.size + 1) 38 _ (0, 0) _ rfl HS.out.2.1 Tryd.underlying38 rfl HS.out.2.2.2.2.1) rfl ?_
      have ks := (keepBut.refl [w.heap.size + 1] u5).setL (vs := XL) (g := w.heap.size + 1) (o := 0) (by simp)
      have ksz := ks.size
      refine ⟨ev, av, cv, vv, bw, G, by rw [HX.out.1], HX.out.2.val.keep ks (fun y hy => by have h1 := (HX.out.2.new y hy).1; have h2 := HX.out.2.gt; simp; omega), fun y hy => ⟨by have h1 := (HX.out.2.new y hy).1; have h2 := HX.out.2.gt; omega, by have h1 := (HX.out.2.new y hy).2; omega⟩, HX.out.2.kp.setL (.inr (by omega))⟩
end Go.Proofs.YthfdkonhjpdflaaDoor
