/-
  PACK, 42: the law's helper made, of the kinds [1, 3, 4, 5, 9].
-/
import Derived.Test.YthfdkonhjpdflaaDoorPk41
namespace Go.Proofs.YthfdkonhjpdflaaDoor
open Go.RowKit
set_option linter.unusedVariables false
set_option maxRecDepth 100000
set_option linter.unusedSimpArgs false

set_option maxHeartbeats 16000000 in
theorem made_g0 (F : List Nat) (s : SD) (v : Value) (w : World) (hs : SDok s) (hv : bytesV w F v s.b) (hgrp : ∀ k : Int, k ∉ ([1, 3, 4, 5, 9] : List Int) → ¬ 1 + s.kind % 14 = k) :
    Calls Tryd.prog 7 #[.agg (sdL s v).toArray] w (MADE s w) := by
  obtain ⟨Z, hZ⟩ : ∃ Z, pkL pkZero nilV nilV nilV nilV nilV = Z := ⟨_, rfl⟩
  have zv := zv_pk
  have zl : Z.length = 87 := by rw [← hZ]; exact pkZ_len
  rw [hZ] at zv
  obtain ⟨Y, hY⟩ : ∃ Y, sdL s v = Y := ⟨_, rfl⟩
  obtain ⟨wA, hwA⟩ : ∃ wA, w.alloc (.cells Y.toArray 25) = wA := ⟨_, rfl⟩
  obtain ⟨wB, hwB⟩ : ∃ wB, wA.alloc (.cells Z.toArray 38) = wB := ⟨_, rfl⟩
  have rA := rowAt.new w 25 Y.toArray
  have rB := rowAt.new wA 38 Z.toArray
  have kA := (keepBut.refl [] w).alloc (.cells Y.toArray 25)
  have kB := (keepBut.refl [] wA).alloc (.cells Z.toArray 38)
  rw [hwA] at rA kA
  rw [hwB] at rB kB
  have rA3 := kB.row rA (by simp)
  have kk := kA.then kB (by simp)
  have hA1 : wA.heap.size = w.heap.size + 1 := by rw [← hwA]; simp
  rw [hA1] at rB
  have HW := Lib.hid (And.intro hwA (And.intro hwB zv))
  have HR := Lib.hid (And.intro rA3 (And.intro rB (And.intro kk zl)))
  rw [hY]
  have HY := Lib.hid hY
  have HZ := Lib.hid hZ
  clear hwA hwB zv rA rB kA kB rA3 kk zl hZ hY
  obtain ⟨fa, hfa⟩ : ∃ a : Nat, s.frm % 10 = (a : Int) := ⟨(s.frm % 10).toNat, by omega⟩
  obtain ⟨da, hda⟩ : ∃ a : Nat, s.dst % 10 = (a : Int) := ⟨(s.dst % 10).toNat, by omega⟩
  have fa10 : fa < 10 := by omega
  have da10 : da < 10 := by omega
  have fa10' : (fa : Int) < 10 := by omega
  have da10' : (da : Int) < 10 := by omega
  have HF := Lib.hid hfa
  have HD := Lib.hid hda
  have hw1 : IntKind.i64.wrap (1 + s.kind % 14) = 1 + s.kind % 14 := wraps_i64 _ (by omega) (by omega)
  go_enter Tryd.func7, Tryd.ntmps7
  go_upto_region 1 with (first
    | (with_reducible refine wpList_alloc_to _ _ rfl 38 rfl _ HW.out.2.2 rfl ?_))
  rw [HW.out.1, HW.out.2.1]
  go_upto_region 2 with (go_at_call 23; refine (nodes_any _).mono ?_; intro e wC hq; obtain ⟨nb, rfl, hn1, hn2, hn3⟩ := hq; have HN := Lib.hid (And.intro hn1 (And.intro hn2 hn3)); clear hn1 hn2 hn3)
  have y0 : wC.drew.cell? ⟨w.heap.size, 0, none⟩ = some (.int .i64 s.kind) := ((HN.out.2.1.row HR.out.1 (by simp)).cell 0).trans (by rw [← HY.out]; rfl)
  have y1 : wC.drew.cell? ⟨w.heap.size, 1, none⟩ = some (.int .i64 s.frm) := ((HN.out.2.1.row HR.out.1 (by simp)).cell 1).trans (by rw [← HY.out]; rfl)
  have y2 : wC.drew.cell? ⟨w.heap.size, 2, none⟩ = some (.int .i64 s.dst) := ((HN.out.2.1.row HR.out.1 (by simp)).cell 2).trans (by rw [← HY.out]; rfl)
  have y3 : wC.drew.cell? ⟨nb, fa, none⟩ = some (.int .i64 (ndOf s.frm)) := (HN.out.1.cell fa).trans (nodes_at hfa fa10)
  have y4 : wC.drew.cell? ⟨nb, da, none⟩ = some (.int .i64 (ndOf s.dst)) := (HN.out.1.cell da).trans (nodes_at hda da10)
  clear hfa hda
  go_cut [4] (fun v4 wx => v4 = .pointer (some ⟨wC.heap.size, 0, none⟩) ∧ rowAt wx wC.heap.size 38 (pkL ⟨1 + s.kind % 14, ndOf s.frm, ndOf s.dst, 0, 0, 0, false, rqZero, anZero, cfZero, [], []⟩ nilV nilV nilV nilV nilV).toArray ∧ keepBut [] wC wx)
  case first =>
    have s1 : wC.drew.cell? ⟨w.heap.size, 0, none⟩ = some (.int .i64 s.kind) ∧ wC.drew.cell? ⟨w.heap.size, 1, none⟩ = some (.int .i64 s.frm) ∧ wC.drew.cell? ⟨w.heap.size, 2, none⟩ = some (.int .i64 s.dst) ∧ wC.drew.cell? ⟨nb, fa, none⟩ = some (.int .i64 (ndOf s.frm)) ∧ wC.drew.cell? ⟨nb, da, none⟩ = some (.int .i64 (ndOf s.dst)) := ⟨y0, y1, y2, y3, y4⟩
    clear y0 y1 y2 y3 y4
    refine wp_region_held_drew (S := fun w' => w'.cell? ⟨w.heap.size, 0, none⟩ = some (.int .i64 s.kind) ∧ w'.cell? ⟨w.heap.size, 1, none⟩ = some (.int .i64 s.frm) ∧ w'.cell? ⟨w.heap.size, 2, none⟩ = some (.int .i64 s.dst) ∧ w'.cell? ⟨nb, fa, none⟩ = some (.int .i64 (ndOf s.frm)) ∧ w'.cell? ⟨nb, da, none⟩ = some (.int .i64 (ndOf s.dst))) (by kernel_rfl) s1 (fun _ => ?_)
    refine wpAnyH_take (i := 0) (oi := ⟨_, _, _, _, _, _⟩) (v := ?_) rfl (by kernel_rfl) (by kernel_rfl) (by kernel_rfl) (fun _ _ _ h => h) (Or.inl ⟨by rfl, ?_⟩) s1 ?_
    rotate_left
    · intro w' hSw; (try dsimp only at hSw); (go_simp; try with_reducible rfl)
    try simp only [Act.put, List.setIfInBounds_toArray, List.set_cons_zero, List.set_cons_succ]
    refine wpAnyH_take (i := 1) (oi := ⟨_, _, _, _, _, _⟩) (v := ?_) rfl (by kernel_rfl) (by kernel_rfl) (by kernel_rfl) (fun _ _ _ h => h) (Or.inl ⟨by rfl, ?_⟩) s1 ?_
    rotate_left
    · intro w' hSw; (try dsimp only at hSw); (go_simp; try with_reducible rfl)
    try simp only [Act.put, List.setIfInBounds_toArray, List.set_cons_zero, List.set_cons_succ]
    refine wpAnyH_take (i := 4) (oi := ⟨_, _, _, _, _, _⟩) (v := ?_) rfl (by kernel_rfl) (by kernel_rfl) (by kernel_rfl) (fun _ _ _ h => h) (Or.inl ⟨by rfl, ?_⟩) s1 ?_
    rotate_left
    · intro w' hSw; (try dsimp only at hSw); (go_simp; try with_reducible rfl)
    try simp only [Act.put, List.setIfInBounds_toArray, List.set_cons_zero, List.set_cons_succ]
    refine wpAnyH_take (i := 5) (oi := ⟨_, _, _, _, _, _⟩) (v := ?_) rfl (by kernel_rfl) (by kernel_rfl) (by kernel_rfl) (fun _ _ _ h => h) (Or.inl ⟨by rfl, ?_⟩) s1 ?_
    rotate_left
    · intro w' hSw; (try dsimp only at hSw); (go_simp; try with_reducible rfl)
    try simp only [Act.put, List.setIfInBounds_toArray, List.set_cons_zero, List.set_cons_succ]
    refine wpAnyH_take (i := 6) (oi := ⟨_, _, _, _, _, _⟩) (v := ?_) rfl (by kernel_rfl) (by kernel_rfl) (by kernel_rfl) (fun _ _ _ h => h) (Or.inl ⟨by rfl, ?_⟩) s1 ?_
    rotate_left
    · intro w' hSw; (try dsimp only at hSw); (go_simp; try with_reducible rfl)
    try simp only [Act.put, List.setIfInBounds_toArray, List.set_cons_zero, List.set_cons_succ]
    refine wpAnyH_take (i := 7) (oi := ⟨_, _, _, _, _, _⟩) (v := ?_) rfl (by kernel_rfl) (by kernel_rfl) (by kernel_rfl) (fun _ _ _ h => h) (Or.inl ⟨by rfl, ?_⟩) s1 ?_
    rotate_left
    · intro w' hSw; (try dsimp only at hSw); (go_simp; try with_reducible rfl)
    try simp only [Act.put, List.setIfInBounds_toArray, List.set_cons_zero, List.set_cons_succ]
    refine wpAnyH_take (i := 8) (oi := ⟨_, _, _, _, _, _⟩) (v := ?_) rfl (by kernel_rfl) (by kernel_rfl) (by kernel_rfl) (fun _ _ _ h => h) (Or.inl ⟨by rfl, ?_⟩) s1 ?_
    rotate_left
    · intro w' hSw; (try dsimp only at hSw); (go_simp; try with_reducible rfl)
    try simp only [Act.put, List.setIfInBounds_toArray, List.set_cons_zero, List.set_cons_succ]
    refine wpAnyH_take (i := 12) (oi := ⟨_, _, _, _, _, _⟩) (v := ?_) rfl (by kernel_rfl) (by kernel_rfl) (by kernel_rfl) (fun _ _ _ h => h) (Or.inl ⟨by rfl, ?_⟩) s1 ?_
    rotate_left
    · intro w' hSw; (try dsimp only at hSw); (go_simp; try with_reducible rfl)
    try simp only [Act.put, List.setIfInBounds_toArray, List.set_cons_zero, List.set_cons_succ]
    refine wpAnyH_take (i := 13) (oi := ⟨_, _, _, _, _, _⟩) (v := ?_) rfl (by kernel_rfl) (by kernel_rfl) (by kernel_rfl) (fun _ _ _ h => h) (Or.inl ⟨by rfl, ?_⟩) s1 ?_
    rotate_left
    · intro w' hSw; (try dsimp only at hSw); (go_simp; try with_reducible rfl)
    try simp only [Act.put, List.setIfInBounds_toArray, List.set_cons_zero, List.set_cons_succ]
    refine wpAnyH_take (i := 14) (oi := ⟨_, _, _, _, _, _⟩) (v := ?_) rfl (by kernel_rfl) (by kernel_rfl) (by kernel_rfl) (fun _ _ _ h => h) (Or.inl ⟨by rfl, ?_⟩) s1 ?_
    rotate_left
    · intro w' hSw; (try dsimp only at hSw); (go_simp; try with_reducible rfl)
    try simp only [Act.put, List.setIfInBounds_toArray, List.set_cons_zero, List.set_cons_succ]
    refine wpAnyH_take (i := 15) (oi := ⟨_, _, _, _, _, _⟩) (v := ?_) rfl (by kernel_rfl) (by kernel_rfl) (by kernel_rfl) (fun _ _ _ h => h) (Or.inl ⟨by rfl, ?_⟩) s1 ?_
    rotate_left
    · intro w' hSw; (try dsimp only at hSw); (go_simp; try with_reducible rfl)
    try simp only [Act.put, List.setIfInBounds_toArray, List.set_cons_zero, List.set_cons_succ]
    refine wpAnyH_take (i := 16) (oi := ⟨_, _, _, _, _, _⟩) (v := ?_) rfl (by kernel_rfl) (by kernel_rfl) (by kernel_rfl) (fun _ _ _ h => h) (Or.inl ⟨by rfl, ?_⟩) s1 ?_
    rotate_left
    · intro w' hSw; (try dsimp only at hSw); (go_simp; try with_reducible rfl)
    try simp only [Act.put, List.setIfInBounds_toArray, List.set_cons_zero, List.set_cons_succ]
    have HS3 : Hid ((wC.drew.cell? ⟨w.heap.size, 0, none⟩ = some (.int .i64 s.kind) ∧ wC.drew.cell? ⟨w.heap.size, 1, none⟩ = some (.int .i64 s.frm) ∧ wC.drew.cell? ⟨w.heap.size, 2, none⟩ = some (.int .i64 s.dst) ∧ wC.drew.cell? ⟨nb, fa, none⟩ = some (.int .i64 (ndOf s.frm)) ∧ wC.drew.cell? ⟨nb, da, none⟩ = some (.int .i64 (ndOf s.dst))) → (wC.drew.alloc (.cells Z.toArray 38)).cell? ⟨w.heap.size, 0, none⟩ = some (.int .i64 s.kind) ∧ (wC.drew.alloc (.cells Z.toArray 38)).cell? ⟨w.heap.size, 1, none⟩ = some (.int .i64 s.frm) ∧ (wC.drew.alloc (.cells Z.toArray 38)).cell? ⟨w.heap.size, 2, none⟩ = some (.int .i64 s.dst) ∧ (wC.drew.alloc (.cells Z.toArray 38)).cell? ⟨nb, fa, none⟩ = some (.int .i64 (ndOf s.frm)) ∧ (wC.drew.alloc (.cells Z.toArray 38)).cell? ⟨nb, da, none⟩ = some (.int .i64 (ndOf s.dst))) := Lib.hid (fun h => by
      have ka := (keepBut.refl [] wC.drew).alloc (.cells Z.toArray 38)
      exact ⟨(ka.cell (p := ⟨w.heap.size, 0, none⟩) (World.block_lt_of_cell? _ _ h.1) (by simp)).trans h.1, (ka.cell (p := ⟨w.heap.size, 1, none⟩) (World.block_lt_of_cell? _ _ h.2.1) (by simp)).trans h.2.1, (ka.cell (p := ⟨w.heap.size, 2, none⟩) (World.block_lt_of_cell? _ _ h.2.2.1) (by simp)).trans h.2.2.1, (ka.cell (p := ⟨nb, fa, none⟩) (World.block_lt_of_cell? _ _ h.2.2.2.1) (by simp)).trans h.2.2.2.1, (ka.cell (p := ⟨nb, da, none⟩) (World.block_lt_of_cell? _ _ h.2.2.2.2) (by simp)).trans h.2.2.2.2⟩)
    have HQ : Hid ((wC.drew.alloc (.cells Z.toArray 38)).there wC.heap.size 0 (pkL ⟨1 + s.kind % 14, ndOf s.frm, ndOf s.dst, 0, 0, 0, false, rqZero, anZero, cfZero, [], []⟩ nilV nilV nilV nilV nilV).toArray.size ∧ (Tryd.prog.info? 38).map (·.size) = some (pkL ⟨1 + s.kind % 14, ndOf s.frm, ndOf s.dst, 0, 0, 0, false, rqZero, anZero, cfZero, [], []⟩ nilV nilV nilV nilV nilV).toArray.size ∧ ((pkL ⟨1 + s.kind % 14, ndOf s.frm, ndOf s.dst, 0, 0, 0, false, rqZero, anZero, cfZero, [], []⟩ nilV nilV nilV nilV nilV).toArray.all fun x => x.oneCell') = true ∧ (((wC.drew.alloc (.cells Z.toArray 38)).cell? ⟨w.heap.size, 0, none⟩ = some (.int .i64 s.kind) ∧ (wC.drew.alloc (.cells Z.toArray 38)).cell? ⟨w.heap.size, 1, none⟩ = some (.int .i64 s.frm) ∧ (wC.drew.alloc (.cells Z.toArray 38)).cell? ⟨w.heap.size, 2, none⟩ = some (.int .i64 s.dst) ∧ (wC.drew.alloc (.cells Z.toArray 38)).cell? ⟨nb, fa, none⟩ = some (.int .i64 (ndOf s.frm)) ∧ (wC.drew.alloc (.cells Z.toArray 38)).cell? ⟨nb, da, none⟩ = some (.int .i64 (ndOf s.dst))) → ((wC.drew.alloc (.cells Z.toArray 38)).setCells wC.heap.size 0 (pkL ⟨1 + s.kind % 14, ndOf s.frm, ndOf s.dst, 0, 0, 0, false, rqZero, anZero, cfZero, [], []⟩ nilV nilV nilV nilV nilV)).cell? ⟨w.heap.size, 0, none⟩ = some (.int .i64 s.kind) ∧ ((wC.drew.alloc (.cells Z.toArray 38)).setCells wC.heap.size 0 (pkL ⟨1 + s.kind % 14, ndOf s.frm, ndOf s.dst, 0, 0, 0, false, rqZero, anZero, cfZero, [], []⟩ nilV nilV nilV nilV nilV)).cell? ⟨w.heap.size, 1, none⟩ = some (.int .i64 s.frm) ∧ ((wC.drew.alloc (.cells Z.toArray 38)).setCells wC.heap.size 0 (pkL ⟨1 + s.kind % 14, ndOf s.frm, ndOf s.dst, 0, 0, 0, false, rqZero, anZero, cfZero, [], []⟩ nilV nilV nilV nilV nilV)).cell? ⟨w.heap.size, 2, none⟩ = some (.int .i64 s.dst) ∧ ((wC.drew.alloc (.cells Z.toArray 38)).setCells wC.heap.size 0 (pkL ⟨1 + s.kind % 14, ndOf s.frm, ndOf s.dst, 0, 0, 0, false, rqZero, anZero, cfZero, [], []⟩ nilV nilV nilV nilV nilV)).cell? ⟨nb, fa, none⟩ = some (.int .i64 (ndOf s.frm)) ∧ ((wC.drew.alloc (.cells Z.toArray 38)).setCells wC.heap.size 0 (pkL ⟨1 + s.kind % 14, ndOf s.frm, ndOf s.dst, 0, 0, 0, false, rqZero, anZero, cfZero, [], []⟩ nilV nilV nilV nilV nilV)).cell? ⟨nb, da, none⟩ = some (.int .i64 (ndOf s.dst))) ∧ rowAt ((wC.drew.alloc (.cells Z.toArray 38)).setCells wC.heap.size 0 (pkL ⟨1 + s.kind % 14, ndOf s.frm, ndOf s.dst, 0, 0, 0, false, rqZero, anZero, cfZero, [], []⟩ nilV nilV nilV nilV nilV)) wC.heap.size 38 (pkL ⟨1 + s.kind % 14, ndOf s.frm, ndOf s.dst, 0, 0, 0, false, rqZero, anZero, cfZero, [], []⟩ nilV nilV nilV nilV nilV).toArray ∧ keepBut [] wC ((wC.drew.alloc (.cells Z.toArray 38)).setCells wC.heap.size 0 (pkL ⟨1 + s.kind % 14, ndOf s.frm, ndOf s.dst, 0, 0, 0, false, rqZero, anZero, cfZero, [], []⟩ nilV nilV nilV nilV nilV))) := Lib.hid (by
      have ql : (pkL ⟨1 + s.kind % 14, ndOf s.frm, ndOf s.dst, 0, 0, 0, false, rqZero, anZero, cfZero, [], []⟩ nilV nilV nilV nilV nilV).length = 87 := pkL_len rqZero_name anZero_name
      have qo : ∀ u ∈ (pkL ⟨1 + s.kind % 14, ndOf s.frm, ndOf s.dst, 0, 0, 0, false, rqZero, anZero, cfZero, [], []⟩ nilV nilV nilV nilV nilV), u.oneCell' = true := pkL_one rfl rfl rfl rfl rfl
      generalize (pkL ⟨1 + s.kind % 14, ndOf s.frm, ndOf s.dst, 0, 0, 0, false, rqZero, anZero, cfZero, [], []⟩ nilV nilV nilV nilV nilV) = QL at ql qo ⊢
      have rn : rowAt (wC.drew.alloc (.cells Z.toArray 38)) wC.heap.size 38 Z.toArray := rowAt.new wC.drew _ _
      have kn := ((keepBut.refl [] wC).drew).alloc (.cells Z.toArray 38)
      have rs := rn.setL (vs := QL) (o := 0)
      rw [putL_all (by rw [ql, List.size_toArray]; exact HR.out.2.2.2.symm)] at rs
      have ks := (keepBut.refl [wC.heap.size] (wC.drew.alloc (.cells Z.toArray 38))).setL (vs := QL) (g := wC.heap.size) (o := 0) (by simp)
      have hg : w.heap.size < wC.heap.size := (HN.out.2.1.row HR.out.1 (by simp)).lt
      have hg2 : nb < wC.heap.size := HN.out.1.lt
      refine ⟨rn.there (by simp only [List.size_toArray]; have := HR.out.2.2.2; omega), by rw [List.size_toArray, ql]; exact info_pk, all_oneCell_toArray qo, fun h => ⟨(ks.cell (p := ⟨w.heap.size, 0, none⟩) (World.block_lt_of_cell? _ _ h.1) (by simp; omega)).trans h.1, (ks.cell (p := ⟨w.heap.size, 1, none⟩) (World.block_lt_of_cell? _ _ h.2.1) (by simp; omega)).trans h.2.1, (ks.cell (p := ⟨w.heap.size, 2, none⟩) (World.block_lt_of_cell? _ _ h.2.2.1) (by simp; omega)).trans h.2.2.1, (ks.cell (p := ⟨nb, fa, none⟩) (World.block_lt_of_cell? _ _ h.2.2.2.1) (by simp; omega)).trans h.2.2.2.1, (ks.cell (p := ⟨nb, da, none⟩) (World.block_lt_of_cell? _ _ h.2.2.2.2) (by simp; omega)).trans h.2.2.2.2⟩, rs, kn.setL (.inr (Nat.le_refl _))⟩)
    refine wpAnyH_ready (rs := [2, 21]) (by kernel_rfl) (by simp) ?_
    refine AllReadyH.cons (o := ⟨_, _, _, _, _, _⟩) rfl (fun K hK => ?_) (AllReadyH.cons (o := ⟨_, _, _, _, _, _⟩) rfl (fun K hK => ?_) AllReadyH.nil)
    · skip
      go_simp
      refine (bring_any s.kind 14 hs.k.1 hs.k.2 (by omega) (by omega) _).mono ?_
      rintro e w' ⟨rfl, rfl⟩
      go_wp2_with fail
      refine hK.out _ _ s1 (fun _ => ?_)
      clear hK K
      try simp only [Act.put, List.setIfInBounds_toArray, List.set_cons_zero, List.set_cons_succ]
      refine wpAnyH_take (i := 3) (oi := ⟨_, _, _, _, _, _⟩) (v := ?_) rfl (by kernel_rfl) (by kernel_rfl) (by kernel_rfl) (fun _ _ _ h => h) (Or.inl ⟨by rfl, ?_⟩) s1 ?_
      rotate_left
      · intro w' hSw; (try dsimp only at hSw); (go_simp; try with_reducible rfl)
      try simp only [Act.put, List.setIfInBounds_toArray, List.set_cons_zero, List.set_cons_succ]
      refine wpAnyH_ready (rs := [9, 21]) (by kernel_rfl) (by simp) ?_
      refine AllReadyH.cons (o := ⟨_, _, _, _, _, _⟩) rfl (fun K hK => ?_) (AllReadyH.cons (o := ⟨_, _, _, _, _, _⟩) rfl (fun K hK => ?_) AllReadyH.nil)
      · skip
        go_simp
        refine (bring_any s.frm 10 hs.f.1 hs.f.2 (by omega) (by omega) _).mono ?_
        rintro e w' ⟨rfl, rfl⟩
        rw [HF.out]
        go_wp2_with fail
        refine hK.out _ _ s1 (fun _ => ?_)
        clear hK K
        try simp only [Act.put, List.setIfInBounds_toArray, List.set_cons_zero, List.set_cons_succ]
        refine wpAnyH_take (i := 10) (oi := ⟨_, _, _, _, _, _⟩) (v := ?_) rfl (by kernel_rfl) (by kernel_rfl) (by kernel_rfl) (fun _ _ _ h => h) (Or.inl ⟨by rfl, ?_⟩) s1 ?_
        rotate_left
        · intro w' hSw; (try dsimp only at hSw); (go_simp; try with_reducible rfl)
        try simp only [Act.put, List.setIfInBounds_toArray, List.set_cons_zero, List.set_cons_succ]
        refine wpAnyH_take (i := 11) (oi := ⟨_, _, _, _, _, _⟩) (v := ?_) rfl (by kernel_rfl) (by kernel_rfl) (by kernel_rfl) (fun _ _ _ h => h) (Or.inl ⟨by rfl, ?_⟩) s1 ?_
        rotate_left
        · intro w' hSw; (try dsimp only at hSw); (go_simp; try with_reducible rfl)
        try simp only [Act.put, List.setIfInBounds_toArray, List.set_cons_zero, List.set_cons_succ]
        refine wpAnyH_ready (rs := [17, 21]) (by kernel_rfl) (by simp) ?_
        refine AllReadyH.cons (o := ⟨_, _, _, _, _, _⟩) rfl (fun K hK => ?_) (AllReadyH.cons (o := ⟨_, _, _, _, _, _⟩) rfl (fun K hK => ?_) AllReadyH.nil)
        · skip
          go_simp
          refine (bring_any s.dst 10 hs.d.1 hs.d.2 (by omega) (by omega) _).mono ?_
          rintro e w' ⟨rfl, rfl⟩
          rw [HD.out]
          go_wp2_with fail
          refine hK.out _ _ s1 (fun _ => ?_)
          clear hK K
          try simp only [Act.put, List.setIfInBounds_toArray, List.set_cons_zero, List.set_cons_succ]
          refine wpAnyH_take (i := 18) (oi := ⟨_, _, _, _, _, _⟩) (v := ?_) rfl (by kernel_rfl) (by kernel_rfl) (by kernel_rfl) (fun _ _ _ h => h) (Or.inl ⟨by rfl, ?_⟩) s1 ?_
          rotate_left
          · intro w' hSw; (try dsimp only at hSw); (go_simp; try with_reducible rfl)
          try simp only [Act.put, List.setIfInBounds_toArray, List.set_cons_zero, List.set_cons_succ]
          refine wpAnyH_take (i := 19) (oi := ⟨_, _, _, _, _, _⟩) (v := ?_) rfl (by kernel_rfl) (by kernel_rfl) (by kernel_rfl) (fun _ _ _ h => h) (Or.inl ⟨by rfl, ?_⟩) s1 ?_
          rotate_left
          · intro w' hSw; (try dsimp only at hSw); (go_simp; try with_reducible rfl)
          try simp only [Act.put, List.setIfInBounds_toArray, List.set_cons_zero, List.set_cons_succ]
          refine wpAnyH_take (i := 20) (oi := ⟨_, _, _, _, _, _⟩) (v := ?_) rfl (by kernel_rfl) (by kernel_rfl) (by kernel_rfl) (fun _ _ _ h => h) (Or.inl ⟨by rfl, ?_⟩) s1 ?_
          rotate_left
          · intro w' hSw; (try dsimp only at hSw); (go_simp; try with_reducible rfl)
          try simp only [Act.put, List.setIfInBounds_toArray, List.set_cons_zero, List.set_cons_succ]
          refine wpAnyH_ready (rs := [21]) (by kernel_rfl) (by simp) ?_
          refine AllReadyH.cons (o := ⟨_, _, _, _, _, _⟩) rfl (fun K hK => ?_) AllReadyH.nil
          refine step_alloc_to _ _ rfl 38 rfl _ HW.out.2.2 rfl ?_
          have s3 := HS3.out s1
          refine hK.out _ _ s3 (fun _ => ?_)
          clear hK K
          try simp only [Act.put, List.setIfInBounds_toArray, List.set_cons_zero, List.set_cons_succ]
          refine wpAnyH_ready (rs := [22]) (by kernel_rfl) (by simp) ?_
          refine AllReadyH.cons (o := ⟨_, _, _, _, _, _⟩) rfl (fun K hK => ?_) AllReadyH.nil
          refine step_store_mid rfl 38 (.tmp 4) (.tmp 30) rfl wC.heap.size 0 (pkL ⟨1 + s.kind % 14, ndOf s.frm, ndOf s.dst, 0, 0, 0, false, rqZero, anZero, cfZero, [], []⟩ nilV nilV nilV nilV nilV).toArray rfl (by rfl) HQ.out.1 HQ.out.2.1 HQ.out.2.2.1 ?_
          refine hK.out _ _ (HQ.out.2.2.2.1 s3) (fun _ => ?_)
          clear hK K
          try simp only [Act.put, List.setIfInBounds_toArray, List.set_cons_zero, List.set_cons_succ]
          refine wpAnyH_done (by kernel_rfl) ?_ _
          go_wp2_with fail
          go_meet
          exact ⟨rfl, HQ.out.2.2.2.2.1, HQ.out.2.2.2.2.2⟩
        · skip
          refine step_alloc_to _ _ rfl 38 rfl _ HW.out.2.2 rfl ?_
          have s3 := HS3.out s1
          refine hK.out _ _ s3 (fun _ => ?_)
          clear hK K
          try simp only [Act.put, List.setIfInBounds_toArray, List.set_cons_zero, List.set_cons_succ]
          refine wpAnyH_ready (rs := [17]) (by kernel_rfl) (by simp) ?_
          refine AllReadyH.cons (o := ⟨_, _, _, _, _, _⟩) rfl (fun K hK => ?_) AllReadyH.nil
          go_simp
          refine (bring_any s.dst 10 hs.d.1 hs.d.2 (by omega) (by omega) _).mono ?_
          rintro e w' ⟨rfl, rfl⟩
          rw [HD.out]
          go_wp2_with fail
          refine hK.out _ _ s3 (fun _ => ?_)
          clear hK K
          try simp only [Act.put, List.setIfInBounds_toArray, List.set_cons_zero, List.set_cons_succ]
          refine wpAnyH_take (i := 18) (oi := ⟨_, _, _, _, _, _⟩) (v := ?_) rfl (by kernel_rfl) (by kernel_rfl) (by kernel_rfl) (fun _ _ _ h => h) (Or.inl ⟨by rfl, ?_⟩) s3 ?_
          rotate_left
          · intro w' hSw; (try dsimp only at hSw); (go_simp; try with_reducible rfl)
          try simp only [Act.put, List.setIfInBounds_toArray, List.set_cons_zero, List.set_cons_succ]
          refine wpAnyH_take (i := 19) (oi := ⟨_, _, _, _, _, _⟩) (v := ?_) rfl (by kernel_rfl) (by kernel_rfl) (by kernel_rfl) (fun _ _ _ h => h) (Or.inl ⟨by rfl, ?_⟩) s3 ?_
          rotate_left
          · intro w' hSw; (try dsimp only at hSw); (go_simp; try with_reducible rfl)
          try simp only [Act.put, List.setIfInBounds_toArray, List.set_cons_zero, List.set_cons_succ]
          refine wpAnyH_take (i := 20) (oi := ⟨_, _, _, _, _, _⟩) (v := ?_) rfl (by kernel_rfl) (by kernel_rfl) (by kernel_rfl) (fun _ _ _ h => h) (Or.inl ⟨by rfl, ?_⟩) s3 ?_
          rotate_left
          · intro w' hSw; (try dsimp only at hSw); (go_simp; try with_reducible rfl)
          try simp only [Act.put, List.setIfInBounds_toArray, List.set_cons_zero, List.set_cons_succ]
          refine wpAnyH_ready (rs := [22]) (by kernel_rfl) (by simp) ?_
          refine AllReadyH.cons (o := ⟨_, _, _, _, _, _⟩) rfl (fun K hK => ?_) AllReadyH.nil
          refine step_store_mid rfl 38 (.tmp 4) (.tmp 30) rfl wC.heap.size 0 (pkL ⟨1 + s.kind % 14, ndOf s.frm, ndOf s.dst, 0, 0, 0, false, rqZero, anZero, cfZero, [], []⟩ nilV nilV nilV nilV nilV).toArray rfl (by rfl) HQ.out.1 HQ.out.2.1 HQ.out.2.2.1 ?_
          refine hK.out _ _ (HQ.out.2.2.2.1 s3) (fun _ => ?_)
          clear hK K
          try simp only [Act.put, List.setIfInBounds_toArray, List.set_cons_zero, List.set_cons_succ]
          refine wpAnyH_done (by kernel_rfl) ?_ _
          go_wp2_with fail
          go_meet
          exact ⟨rfl, HQ.out.2.2.2.2.1, HQ.out.2.2.2.2.2⟩
      · skip
        refine step_alloc_to _ _ rfl 38 rfl _ HW.out.2.2 rfl ?_
        have s3 := HS3.out s1
        refine hK.out _ _ s3 (fun _ => ?_)
        clear hK K
        try simp only [Act.put, List.setIfInBounds_toArray, List.set_cons_zero, List.set_cons_succ]
        refine wpAnyH_ready (rs := [9]) (by kernel_rfl) (by simp) ?_
        refine AllReadyH.cons (o := ⟨_, _, _, _, _, _⟩) rfl (fun K hK => ?_) AllReadyH.nil
        go_simp
        refine (bring_any s.frm 10 hs.f.1 hs.f.2 (by omega) (by omega) _).mono ?_
        rintro e w' ⟨rfl, rfl⟩
        rw [HF.out]
        go_wp2_with fail
        refine hK.out _ _ s3 (fun _ => ?_)
        clear hK K
        try simp only [Act.put, List.setIfInBounds_toArray, List.set_cons_zero, List.set_cons_succ]
        refine wpAnyH_take (i := 10) (oi := ⟨_, _, _, _, _, _⟩) (v := ?_) rfl (by kernel_rfl) (by kernel_rfl) (by kernel_rfl) (fun _ _ _ h => h) (Or.inl ⟨by rfl, ?_⟩) s3 ?_
        rotate_left
        · intro w' hSw; (try dsimp only at hSw); (go_simp; try with_reducible rfl)
        try simp only [Act.put, List.setIfInBounds_toArray, List.set_cons_zero, List.set_cons_succ]
        refine wpAnyH_take (i := 11) (oi := ⟨_, _, _, _, _, _⟩) (v := ?_) rfl (by kernel_rfl) (by kernel_rfl) (by kernel_rfl) (fun _ _ _ h => h) (Or.inl ⟨by rfl, ?_⟩) s3 ?_
        rotate_left
        · intro w' hSw; (try dsimp only at hSw); (go_simp; try with_reducible rfl)
        try simp only [Act.put, List.setIfInBounds_toArray, List.set_cons_zero, List.set_cons_succ]
        refine wpAnyH_ready (rs := [17]) (by kernel_rfl) (by simp) ?_
        refine AllReadyH.cons (o := ⟨_, _, _, _, _, _⟩) rfl (fun K hK => ?_) AllReadyH.nil
        go_simp
        refine (bring_any s.dst 10 hs.d.1 hs.d.2 (by omega) (by omega) _).mono ?_
        rintro e w' ⟨rfl, rfl⟩
        rw [HD.out]
        go_wp2_with fail
        refine hK.out _ _ s3 (fun _ => ?_)
        clear hK K
        try simp only [Act.put, List.setIfInBounds_toArray, List.set_cons_zero, List.set_cons_succ]
        refine wpAnyH_take (i := 18) (oi := ⟨_, _, _, _, _, _⟩) (v := ?_) rfl (by kernel_rfl) (by kernel_rfl) (by kernel_rfl) (fun _ _ _ h => h) (Or.inl ⟨by rfl, ?_⟩) s3 ?_
        rotate_left
        · intro w' hSw; (try dsimp only at hSw); (go_simp; try with_reducible rfl)
        try simp only [Act.put, List.setIfInBounds_toArray, List.set_cons_zero, List.set_cons_succ]
        refine wpAnyH_take (i := 19) (oi := ⟨_, _, _, _, _, _⟩) (v := ?_) rfl (by kernel_rfl) (by kernel_rfl) (by kernel_rfl) (fun _ _ _ h => h) (Or.inl ⟨by rfl, ?_⟩) s3 ?_
        rotate_left
        · intro w' hSw; (try dsimp only at hSw); (go_simp; try with_reducible rfl)
        try simp only [Act.put, List.setIfInBounds_toArray, List.set_cons_zero, List.set_cons_succ]
        refine wpAnyH_take (i := 20) (oi := ⟨_, _, _, _, _, _⟩) (v := ?_) rfl (by kernel_rfl) (by kernel_rfl) (by kernel_rfl) (fun _ _ _ h => h) (Or.inl ⟨by rfl, ?_⟩) s3 ?_
        rotate_left
        · intro w' hSw; (try dsimp only at hSw); (go_simp; try with_reducible rfl)
        try simp only [Act.put, List.setIfInBounds_toArray, List.set_cons_zero, List.set_cons_succ]
        refine wpAnyH_ready (rs := [22]) (by kernel_rfl) (by simp) ?_
        refine AllReadyH.cons (o := ⟨_, _, _, _, _, _⟩) rfl (fun K hK => ?_) AllReadyH.nil
        refine step_store_mid rfl 38 (.tmp 4) (.tmp 30) rfl wC.heap.size 0 (pkL ⟨1 + s.kind % 14, ndOf s.frm, ndOf s.dst, 0, 0, 0, false, rqZero, anZero, cfZero, [], []⟩ nilV nilV nilV nilV nilV).toArray rfl (by rfl) HQ.out.1 HQ.out.2.1 HQ.out.2.2.1 ?_
        refine hK.out _ _ (HQ.out.2.2.2.1 s3) (fun _ => ?_)
        clear hK K
        try simp only [Act.put, List.setIfInBounds_toArray, List.set_cons_zero, List.set_cons_succ]
        refine wpAnyH_done (by kernel_rfl) ?_ _
        go_wp2_with fail
        go_meet
        exact ⟨rfl, HQ.out.2.2.2.2.1, HQ.out.2.2.2.2.2⟩
    · skip
      refine step_alloc_to _ _ rfl 38 rfl _ HW.out.2.2 rfl ?_
      have s3 := HS3.out s1
      refine hK.out _ _ s3 (fun _ => ?_)
      clear hK K
      try simp only [Act.put, List.setIfInBounds_toArray, List.set_cons_zero, List.set_cons_succ]
      refine wpAnyH_ready (rs := [2]) (by kernel_rfl) (by simp) ?_
      refine AllReadyH.cons (o := ⟨_, _, _, _, _, _⟩) rfl (fun K hK => ?_) AllReadyH.nil
      go_simp
      refine (bring_any s.kind 14 hs.k.1 hs.k.2 (by omega) (by omega) _).mono ?_
      rintro e w' ⟨rfl, rfl⟩
      go_wp2_with fail
      refine hK.out _ _ s3 (fun _ => ?_)
      clear hK K
      try simp only [Act.put, List.setIfInBounds_toArray, List.set_cons_zero, List.set_cons_succ]
      refine wpAnyH_take (i := 3) (oi := ⟨_, _, _, _, _, _⟩) (v := ?_) rfl (by kernel_rfl) (by kernel_rfl) (by kernel_rfl) (fun _ _ _ h => h) (Or.inl ⟨by rfl, ?_⟩) s3 ?_
      rotate_left
      · intro w' hSw; (try dsimp only at hSw); (go_simp; try with_reducible rfl)
      try simp only [Act.put, List.setIfInBounds_toArray, List.set_cons_zero, List.set_cons_succ]
      refine wpAnyH_ready (rs := [9]) (by kernel_rfl) (by simp) ?_
      refine AllReadyH.cons (o := ⟨_, _, _, _, _, _⟩) rfl (fun K hK => ?_) AllReadyH.nil
      go_simp
      refine (bring_any s.frm 10 hs.f.1 hs.f.2 (by omega) (by omega) _).mono ?_
      rintro e w' ⟨rfl, rfl⟩
      rw [HF.out]
      go_wp2_with fail
      refine hK.out _ _ s3 (fun _ => ?_)
      clear hK K
      try simp only [Act.put, List.setIfInBounds_toArray, List.set_cons_zero, List.set_cons_succ]
      refine wpAnyH_take (i := 10) (oi := ⟨_, _, _, _, _, _⟩) (v := ?_) rfl (by kernel_rfl) (by kernel_rfl) (by kernel_rfl) (fun _ _ _ h => h) (Or.inl ⟨by rfl, ?_⟩) s3 ?_
      rotate_left
      · intro w' hSw; (try dsimp only at hSw); (go_simp; try with_reducible rfl)
      try simp only [Act.put, List.setIfInBounds_toArray, List.set_cons_zero, List.set_cons_succ]
      refine wpAnyH_take (i := 11) (oi := ⟨_, _, _, _, _, _⟩) (v := ?_) rfl (by kernel_rfl) (by kernel_rfl) (by kernel_rfl) (fun _ _ _ h => h) (Or.inl ⟨by rfl, ?_⟩) s3 ?_
      rotate_left
      · intro w' hSw; (try dsimp only at hSw); (go_simp; try with_reducible rfl)
      try simp only [Act.put, List.setIfInBounds_toArray, List.set_cons_zero, List.set_cons_succ]
      refine wpAnyH_ready (rs := [17]) (by kernel_rfl) (by simp) ?_
      refine AllReadyH.cons (o := ⟨_, _, _, _, _, _⟩) rfl (fun K hK => ?_) AllReadyH.nil
      go_simp
      refine (bring_any s.dst 10 hs.d.1 hs.d.2 (by omega) (by omega) _).mono ?_
      rintro e w' ⟨rfl, rfl⟩
      rw [HD.out]
      go_wp2_with fail
      refine hK.out _ _ s3 (fun _ => ?_)
      clear hK K
      try simp only [Act.put, List.setIfInBounds_toArray, List.set_cons_zero, List.set_cons_succ]
      refine wpAnyH_take (i := 18) (oi := ⟨_, _, _, _, _, _⟩) (v := ?_) rfl (by kernel_rfl) (by kernel_rfl) (by kernel_rfl) (fun _ _ _ h => h) (Or.inl ⟨by rfl, ?_⟩) s3 ?_
      rotate_left
      · intro w' hSw; (try dsimp only at hSw); (go_simp; try with_reducible rfl)
      try simp only [Act.put, List.setIfInBounds_toArray, List.set_cons_zero, List.set_cons_succ]
      refine wpAnyH_take (i := 19) (oi := ⟨_, _, _, _, _, _⟩) (v := ?_) rfl (by kernel_rfl) (by kernel_rfl) (by kernel_rfl) (fun _ _ _ h => h) (Or.inl ⟨by rfl, ?_⟩) s3 ?_
      rotate_left
      · intro w' hSw; (try dsimp only at hSw); (go_simp; try with_reducible rfl)
      try simp only [Act.put, List.setIfInBounds_toArray, List.set_cons_zero, List.set_cons_succ]
      refine wpAnyH_take (i := 20) (oi := ⟨_, _, _, _, _, _⟩) (v := ?_) rfl (by kernel_rfl) (by kernel_rfl) (by kernel_rfl) (fun _ _ _ h => h) (Or.inl ⟨by rfl, ?_⟩) s3 ?_
      rotate_left
      · intro w' hSw; (try dsimp only at hSw); (go_simp; try with_reducible rfl)
      try simp only [Act.put, List.setIfInBounds_toArray, List.set_cons_zero, List.set_cons_succ]
      refine wpAnyH_ready (rs := [22]) (by kernel_rfl) (by simp) ?_
      refine AllReadyH.cons (o := ⟨_, _, _, _, _, _⟩) rfl (fun K hK => ?_) AllReadyH.nil
      refine step_store_mid rfl 38 (.tmp 4) (.tmp 30) rfl wC.heap.size 0 (pkL ⟨1 + s.kind % 14, ndOf s.frm, ndOf s.dst, 0, 0, 0, false, rqZero, anZero, cfZero, [], []⟩ nilV nilV nilV nilV nilV).toArray rfl (by rfl) HQ.out.1 HQ.out.2.1 HQ.out.2.2.1 ?_
      refine hK.out _ _ (HQ.out.2.2.2.1 s3) (fun _ => ?_)
      clear hK K
      try simp only [Act.put, List.setIfInBounds_toArray, List.set_cons_zero, List.set_cons_succ]
      refine wpAnyH_done (by kernel_rfl) ?_ _
      go_wp2_with fail
      go_meet
      exact ⟨rfl, HQ.out.2.2.2.2.1, HQ.out.2.2.2.2.2⟩
  case rest =>
    obtain ⟨rfl, hr, hk⟩ := hcut
    generalize wc = u at *
    have hg : w.heap.size + 1 < wC.heap.size := (HN.out.2.1.row HR.out.2.1 (by simp)).lt
    have kw := (HR.out.2.2.1.then HN.out.2.1 (by simp)).then hk (by simp)
    have M0 : mdA w u wC.heap.size Y Z (baseP s) nilV nilV nilV nilV nilV [] := ⟨hk.row (HN.out.2.1.row HR.out.1 (by simp)) (by simp), hk.row (HN.out.2.1.row HR.out.2.1 (by simp)) (by simp), hr, ⟨rqZero_name, anZero_name, bytesV.nil _ _, bytesV.nil _ _, intsV.nil _ _, votesV.nil _ _, bytesV.nil _ _⟩, fun y hy => by simp at hy, kw, hg⟩
    obtain ⟨tb, htb⟩ : ∃ t, wC.heap.size = t := ⟨_, rfl⟩
    rw [htb] at M0 ⊢
    have HM := Lib.hid M0
    clear hr hk hg kw M0 htb y0 y1 y2 y3 y4
    have bn0 := hs.n0
    have bn1 := hs.n1
    have bn4 := hs.n4
    unfold i64P at bn0 bn1 bn4
    have z0 : u.cell? ⟨w.heap.size, 3, none⟩ = some (.int .i64 s.n0) := (HM.out.sr.cell 3).trans (by rw [← HY.out]; rfl)
    have z1 : u.cell? ⟨w.heap.size, 4, none⟩ = some (.int .i64 s.n1) := (HM.out.sr.cell 4).trans (by rw [← HY.out]; rfl)
    have z4 : u.cell? ⟨w.heap.size, 7, none⟩ = some (.int .i64 s.n4) := (HM.out.sr.cell 7).trans (by rw [← HY.out]; rfl)
    go_upto_region 3 with fail
    go_quiet ((first | (go_at_call 20; with_reducible exact Calls.quiet_of_same ((bring_any s.n0 1125899906842624 bn0.1 bn0.2 (by omega) (by omega) _).mono (fun _ _ ⟨a, b⟩ => ⟨a, b.symm⟩))) | (go_at_call 20; with_reducible exact Calls.quiet_of_same ((bring_any s.n1 1125899906842624 bn1.1 bn1.2 (by omega) (by omega) _).mono (fun _ _ ⟨a, b⟩ => ⟨a, b.symm⟩))) | (go_at_call 20; with_reducible exact Calls.quiet_of_same ((bring_any s.n4 1125899906842624 bn4.1 bn4.2 (by omega) (by omega) _).mono (fun _ _ ⟨a, b⟩ => ⟨a, b.symm⟩)))))
    go_upto_region 4 with fail
    have HM2 := Lib.hid (HM.out.over ((keepBut.refl [] u).drewN nq))
    have z0 : (u.drewN nq).cell? ⟨w.heap.size, 3, none⟩ = some (.int .i64 s.n0) := (HM2.out.sr.cell 3).trans (by rw [← HY.out]; rfl)
    have z1 : (u.drewN nq).cell? ⟨w.heap.size, 4, none⟩ = some (.int .i64 s.n1) := (HM2.out.sr.cell 4).trans (by rw [← HY.out]; rfl)
    have z2 : (u.drewN nq).cell? ⟨w.heap.size, 5, none⟩ = some (.int .i64 s.n2) := (HM2.out.sr.cell 5).trans (by rw [← HY.out]; rfl)
    have z3 : (u.drewN nq).cell? ⟨w.heap.size, 6, none⟩ = some (.int .i64 s.n3) := (HM2.out.sr.cell 6).trans (by rw [← HY.out]; rfl)
    have z5 : (u.drewN nq).cell? ⟨w.heap.size, 8, none⟩ = some v := (HM2.out.sr.cell 8).trans (by rw [← HY.out]; rfl)
    clear z4
    have hu2 := ((keepBut.refl [] u).drewN nq)
    have ck : (u.drewN nq).cell? ⟨tb, 0, none⟩ = some (.int .i64 (1 + s.kind % 14)) := (HM2.out.row.cell 0).trans rfl
    generalize u.drewN nq = u2 at *
    obtain ⟨K, hK⟩ : ∃ K, 1 + s.kind % 14 = K := ⟨_, rfl⟩
    rw [hK] at ck
    have hKs : K = 1 ∨ K = 2 ∨ K = 3 ∨ K = 4 ∨ K = 5 ∨ K = 6 ∨ K = 7 ∨ K = 8 ∨ K = 9 ∨ K = 10 ∨ K = 11 ∨ K = 12 ∨ K = 13 ∨ K = 14 := by omega
    obtain ⟨num, hnum⟩ : ∃ n, s.n0 % 1125899906842624 = n := ⟨_, rfl⟩
    obtain ⟨seq, hseq⟩ : ∃ n, s.n1 % 1125899906842624 = n := ⟨_, rfl⟩
    obtain ⟨bal, hbal⟩ : ∃ n, s.n4 % 1125899906842624 = n := ⟨_, rfl⟩
    have bnum : 0 ≤ num ∧ num < 1125899906842624 := by omega
    have bseq : 0 ≤ seq ∧ seq < 1125899906842624 := by omega
    have bbal : 0 ≤ bal ∧ bal < 1125899906842624 := by omega
    rw [hnum, hseq, hbal]
    have HNS := Lib.hid (And.intro hnum (And.intro hseq hbal))
    clear hnum hseq hbal
    have HKK := Lib.hid hK
    go_upto_block 0 with fail
    go_cut [44] (fun v44 wx => ∃ ev av cv vv bw G, mdA w wx tb Y Z (madeP s) ev av cv vv bw G)
    case first =>
      have y3 := (HM2.out.row.pk rqZero_name anZero_name).c3
      have y4 := (HM2.out.row.pk rqZero_name anZero_name).c4
      have y5 := (HM2.out.row.pk rqZero_name anZero_name).c5
      have y6 := (HM2.out.row.pk rqZero_name anZero_name).c6
      have f3 := HM2.out.row.free 3
      have f4 := HM2.out.row.free 4
      have f5 := HM2.out.row.free 5
      have f6 := HM2.out.row.free 6
      rcases hKs with rfl | rfl | rfl | rfl | rfl | rfl | rfl | rfl | rfl | rfl | rfl | rfl | rfl | rfl
      · have E := Lib.hid (show madeP s = { baseP s with req := rqOf s } by (try rw [← HNS.out.1]); (try rw [← HNS.out.2.1]); (try rw [← HNS.out.2.2]); exact madeP1 s HKK.out)
        have hJs : (Tryd.prog.info? 25).map (·.size) = some Y.length := by rw [← HY.out]; exact info_sd
        have HL := Lib.hid (And.intro HM2.out.sr.rangeAll hJs)
        have HRQ := Lib.hid (show Calls Tryd.prog 24 #[.agg Y.toArray] u2 (fun e w' => ∃ ev G, e = .returned (.agg (rqL (rqOf s) ev).toArray) ∧ rqV w' G (rqOf s) ev ∧ newIn u2 w' G ∧ keepBut [] u2 w') by rw [← HY.out]; exact req_any F s v u2 hs (hv.keep HM2.out.kp (by simp)))
        clear hJs
        go_wp2_with (first
          | (refine wpList_load_mid rfl 25 (.tmp 1) rfl w.heap.size 0 rfl _ _ HL.out.1 Tryd.underlying25 rfl HL.out.2 ?_)
          | (go_at_call 24; refine HRQ.out.mono ?_; intro e u4 hq; obtain ⟨ev, G, rfl, q1, q2, q3⟩ := hq; have H4 := Lib.hid (And.intro q1 (And.intro q2 (HM2.out.over q3))); clear q1 q2 q3)
          | (refine wpList_store_mid rfl 30 (.tmp 49) (.tmp 48) rfl tb 7 (rqL (rqOf s) ev).toArray rfl rfl (H4.out.2.2.row.there (by simp only [List.size_toArray]; rw [rqL_len H4.out.1.1, pkL_len H4.out.2.2.val.rn H4.out.2.2.val.an]; decide)) (by rw [List.size_toArray, rqL_len H4.out.1.1]; exact info_rq) (all_oneCell_toArray (rqL_one _ H4.out.1.2.one)) ?_))
        go_meet
        have M4 := H4.out.2.2.setL 7 (rqL (rqOf s) ev) (pkL_putR (rqOf s) ev rqZero_name H4.out.1.1) (F' := G) ⟨H4.out.1.1, anZero_name, H4.out.1.2, bytesV.nil _ _, intsV.nil _ _, votesV.nil _ _, bytesV.nil _ _⟩ (fun y hy => by have h1 := H4.out.2.1 y hy; have h2 := HM2.out.row.lt; omega)
        exact ⟨_, _, _, _, _, _, by rw [E.out]; exact M4⟩
      · exact absurd HKK.out (hgrp 2 (by decide))
      · have E := Lib.hid (show madeP s = { { { baseP s with num := num } with seq := seq } with req := rqOf s } by (try rw [← HNS.out.1]); (try rw [← HNS.out.2.1]); (try rw [← HNS.out.2.2]); exact madeP3 s HKK.out)
        have hJs : (Tryd.prog.info? 25).map (·.size) = some Y.length := by rw [← HY.out]; exact info_sd
        have HL := Lib.hid (And.intro HM2.out.sr.rangeAll hJs)
        have HRQ := Lib.hid (show Calls Tryd.prog 24 #[.agg Y.toArray] u2 (fun e w' => ∃ ev G, e = .returned (.agg (rqL (rqOf s) ev).toArray) ∧ rqV w' G (rqOf s) ev ∧ newIn u2 w' G ∧ keepBut [] u2 w') by rw [← HY.out]; exact req_any F s v u2 hs (hv.keep HM2.out.kp (by simp)))
        clear hJs
        go_wp2_with (first
          | (refine wpList_load_mid rfl 25 (.tmp 1) rfl w.heap.size 0 rfl _ _ HL.out.1 Tryd.underlying25 rfl HL.out.2 ?_)
          | (go_at_call 24; refine HRQ.out.mono ?_; intro e u4 hq; obtain ⟨ev, G, rfl, q1, q2, q3⟩ := hq; have N0 := HM2.out.over q3; have N1 := N0.num num; have N2 := N1.seq seq; have g3 := (N0.row.pk rqZero_name anZero_name).c3; have e3 := N0.row.free 3; have g4 := (N1.row.pk rqZero_name anZero_name).c4; have e4 := N1.row.free 4; have H4 := Lib.hid (And.intro q1 (And.intro q2 (And.intro N2 q3))); clear q1 q2 q3 N0 N1 N2)
          | (refine wpList_store_mid rfl 30 (.tmp 88) (.tmp 85) rfl tb 7 (rqL (rqOf s) ev).toArray rfl rfl (H4.out.2.2.1.row.there (by simp only [List.size_toArray]; rw [rqL_len H4.out.1.1, pkL_len H4.out.2.2.1.val.rn H4.out.2.2.1.val.an]; decide)) (by rw [List.size_toArray, rqL_len H4.out.1.1]; exact info_rq) (all_oneCell_toArray (rqL_one _ H4.out.1.2.one)) ?_))
        go_meet
        have kz := H4.out.2.2.1.kp
        have k2 := (kset u4 tb 3 (.int .i64 num)).then (kset (u4.setCell ⟨tb, 3, none⟩ (.int .i64 num)) tb 4 (.int .i64 seq)) (fun x hx => .inl hx)
        have q1 : rqV ((u4.setCell ⟨tb, 3, none⟩ (.int .i64 num)).setCell ⟨tb, 4, none⟩ (.int .i64 seq)) G (rqOf s) ev := ⟨H4.out.1.1, H4.out.1.2.keep k2 (fun y hy => by have h1 := (H4.out.2.1 y hy).1; have h2 := HM2.out.row.lt; simp; omega)⟩
        have M4 := H4.out.2.2.1.setL 7 (rqL (rqOf s) ev) (pkL_putR (rqOf s) ev rqZero_name H4.out.1.1) (F' := G) ⟨H4.out.1.1, anZero_name, q1.2, bytesV.nil _ _, intsV.nil _ _, votesV.nil _ _, bytesV.nil _ _⟩ (fun y hy => by have h1 := H4.out.2.1 y hy; have h2 := HM2.out.row.lt; have h3 := k2.size; omega)
        exact ⟨_, _, _, _, _, _, by rw [E.out]; exact M4⟩
      · have M1 := HM2.out.num num
        have g1 := (M1.row.pk rqZero_name anZero_name).c4
        have g2 := M1.row.free 4
        have E := Lib.hid (show madeP s = { { baseP s with num := num } with seq := seq } by (try rw [← HNS.out.1]); (try rw [← HNS.out.2.1]); (try rw [← HNS.out.2.2]); exact madeP4 s HKK.out)
        have HM3 := Lib.hid (M1.seq (seq))
        clear M1
        go_wp2_with fail
        go_meet
        exact ⟨_, _, _, _, _, _, by rw [E.out]; exact HM3.out⟩
      · have M1 := HM2.out.num num
        have g1 := (M1.row.pk rqZero_name anZero_name).c4
        have g2 := M1.row.free 4
        have E := Lib.hid (show madeP s = { { baseP s with num := num } with seq := seq - 1 } by (try rw [← HNS.out.1]); (try rw [← HNS.out.2.1]); (try rw [← HNS.out.2.2]); exact madeP5 s HKK.out)
        have hws : IntKind.i64.wrap (seq - 1) = seq - 1 := by rw [IntKind.wrap_i64]; omega
        have HM3 := Lib.hid (M1.seq (seq - 1))
        clear M1
        go_wp2_with fail
        go_meet
        exact ⟨_, _, _, _, _, _, by rw [E.out]; exact HM3.out⟩
      · exact absurd HKK.out (hgrp 6 (by decide))
      · exact absurd HKK.out (hgrp 7 (by decide))
      · exact absurd HKK.out (hgrp 8 (by decide))
      · have E := Lib.hid (show madeP s = baseP s by (try rw [← HNS.out.1]); (try rw [← HNS.out.2.1]); (try rw [← HNS.out.2.2]); exact madeP9 s HKK.out)
        go_wp2_with fail
        go_meet
        exact ⟨_, _, _, _, _, _, by rw [E.out]; exact HM2.out⟩
      · exact absurd HKK.out (hgrp 10 (by decide))
      · exact absurd HKK.out (hgrp 11 (by decide))
      · exact absurd HKK.out (hgrp 12 (by decide))
      · exact absurd HKK.out (hgrp 13 (by decide))
      · exact absurd HKK.out (hgrp 14 (by decide))
    case rest =>
      obtain ⟨ev, av, cv, vv, bw, G, hM⟩ := hcut
      generalize wc = u5 at *
      obtain ⟨XL, hXL⟩ : ∃ XL, pkL (madeP s) ev av cv vv bw = XL := ⟨_, rfl⟩
      have xl : XL.length = 87 := by rw [← hXL]; exact pkL_len hM.val.rn hM.val.an
      have xo : ∀ y ∈ XL, y.oneCell' = true := by rw [← hXL]; exact pkL_one hM.val.re.one hM.val.ae.one hM.val.cc.one hM.val.vs.one hM.val.bs.one
      have hrow := hM.row
      rw [hXL] at hrow
      have rr := hM.zr.setL (vs := XL) (o := 0)
      rw [putL_all (by rw [xl, List.size_toArray]; exact HR.out.2.2.2.symm)] at rr
      have ht := hM.zr.there (o := 0) (n := XL.toArray.size) (by simp only [List.size_toArray]; have := HR.out.2.2.2; omega)
      have hJ : (Tryd.prog.info? 38).map (·.size) = some XL.toArray.size := by rw [List.size_toArray, xl]; exact info_pk
      have hJl : (Tryd.prog.info? 38).map (·.size) = some XL.length := by rw [xl]; exact info_pk
      have HS := Lib.hid (And.intro hrow.rangeAll (And.intro rr (And.intro ht (And.intro hJl (And.intro hJ (all_oneCell_toArray xo))))))
      have HX := Lib.hid (And.intro hXL hM)
      clear hrow rr ht hJ hJl xl xo hXL hM
      go_wp2_with (first
        | (refine wpList_load_mid rfl 38 (.tmp 4) rfl tb 0 rfl _ _ HS.out.1 Tryd.underlying38 rfl HS.out.2.2.2.1 ?_)
        | (refine wpList_store_mid rfl 38 (.tmp 2) (.tmp 197) rfl (w.heap.size + 1) 0 XL.toArray rfl rfl HS.out.2.2.1 HS.out.2.2.2.2.1 HS.out.2.2.2.2.2 ?_))
      refine bodyPost_ret (results_cell_row rfl _ _ (w.heap.size + 1) 38 _ (0, 0) _ rfl HS.out.2.1 Tryd.underlying38 rfl HS.out.2.2.2.2.1) rfl ?_
      have ks := (keepBut.refl [w.heap.size + 1] u5).setL (vs := XL) (g := w.heap.size + 1) (o := 0) (by simp)
      have ksz := ks.size
      refine ⟨ev, av, cv, vv, bw, G, by rw [HX.out.1], HX.out.2.val.keep ks (fun y hy => by have h1 := (HX.out.2.new y hy).1; have h2 := HX.out.2.gt; simp; omega), fun y hy => ⟨by have h1 := (HX.out.2.new y hy).1; have h2 := HX.out.2.gt; omega, by have h1 := (HX.out.2.new y hy).2; omega⟩, HX.out.2.kp.setL (.inr (by omega))⟩
end Go.Proofs.YthfdkonhjpdflaaDoor
