/-
  PACK, 15: what a packet would be with some fields alone.
-/
import Derived.Test.YthfdkonhjpdflaaGreatDoorPkC
namespace Go.Proofs.YthfdkonhjpdflaaGreatDoor
open Go.RowKit
set_option linter.unusedVariables false
set_option maxRecDepth 100000

theorem intsV.one {w : World} {F : List Nat} {v : Value} {l : List Int} (h : intsV w F v l) : v.oneCell' = true := by
  obtain ⟨A, c, g, rfl, _⟩ := h; rfl
theorem bytesV.one {w : World} {F : List Nat} {v : Value} {l : List UInt8} (h : bytesV w F v l) : v.oneCell' = true := by
  obtain ⟨A, c, g, rfl, _⟩ := h; rfl
theorem votesV.one {w : World} {F : List Nat} {v : Value} {l : List VT} (h : votesV w F v l) : v.oneCell' = true := by
  obtain ⟨A, c, g, T, rfl, _⟩ := h; rfl
theorem pkL_one {p : PK} {ev av cv vv bw : Value} (h1 : ev.oneCell' = true) (h2 : av.oneCell' = true) (h3 : cv.oneCell' = true) (h4 : vv.oneCell' = true) (h5 : bw.oneCell' = true) : ∀ v ∈ pkL p ev av cv vv bw, v.oneCell' = true := by
  intro v hv
  simp only [pkL, List.mem_cons, List.mem_append, cfL] at hv
  rcases hv with rfl | rfl | rfl | rfl | rfl | rfl | rfl | hv | hv | hv | hv
  · rfl
  · rfl
  · rfl
  · rfl
  · rfl
  · rfl
  · rfl
  · exact rqL_one p.req h1 v hv
  · exact anL_one p.ans h2 v hv
  · rcases hv with rfl | rfl | rfl | hv
    · rfl
    · rfl
    · exact h3
    · cases hv
  · rcases hv with rfl | rfl | hv
    · exact h4
    · exact h5
    · cases hv
theorem info_cf : (Tryz.prog.info? 31).map (·.size) = some 3 := by kernel_rfl
set_option maxHeartbeats 16000000 in
theorem reduced_any (F : List Nat) (p : PK) (ev av cv vv bw : Value) (n : Int) (w : World) (h : pkV w F p ev av cv vv bw) :
    Calls Tryz.prog 62 #[.agg (pkL p ev av cv vv bw).toArray, .int .i64 n] w fun e w' => e = .returned (.agg (pkL (p.cut n) (oV (bitA n 16) nilV ev) (oV (bitA n 32) nilV av) (oV (bitA n 64) nilV cv) (oV (bitA n 128) nilV vv) (oV (bitA n 256) nilV bw)).toArray) ∧ keepBut [] w w' := by
  have hone := pkL_one (p := p.cut n) (h.cut n).re.one (h.cut n).ae.one (h.cut n).cc.one (h.cut n).vs.one (h.cut n).bs.one
  have hlen := pkL_len (p := p.cut n) (ev := oV (bitA n 16) nilV ev) (av := oV (bitA n 32) nilV av) (cv := oV (bitA n 64) nilV cv) (vv := oV (bitA n 128) nilV vv) (bw := oV (bitA n 256) nilV bw) (h.cut n).rn (h.cut n).an
  have HB := Lib.hid (build_pk (p.cut n) (oV (bitA n 16) nilV ev) (oV (bitA n 32) nilV av) (oV (bitA n 64) nilV cv) (oV (bitA n 128) nilV vv) (oV (bitA n 256) nilV bw) (h.cut n).rn (h.cut n).an (h.cut n).vs.one (h.cut n).bs.one)
  have hev := h.re.one
  have hav := h.ae.one
  have hrn := h.rn
  have han := h.an
  obtain ⟨A3, k3, g3, rfl, _⟩ := id h.cc
  obtain ⟨A4, k4, g4, T4, rfl, _⟩ := id h.vs
  obtain ⟨A5, k5, g5, rfl, _⟩ := id h.bs
  obtain ⟨L3, hL3⟩ : ∃ L, p.conf.chain.length = L := ⟨_, rfl⟩
  obtain ⟨L4, hL4⟩ : ∃ L, p.votes.length = L := ⟨_, rfl⟩
  obtain ⟨L5, hL5⟩ : ∃ L, p.bytes.length = L := ⟨_, rfl⟩
  rw [hL3, hL4, hL5] at hlen hone HB ⊢
  clear hL3 hL4 hL5
  clear h
  have k1 := (keepBut.refl [] w).alloc (.cells (pkL p ev av (.slice A3 L3 k3) (.slice A4 L4 k4) (.slice A5 L5 k5)).toArray 34)
  have r1 := rowAt.new w 34 (pkL p ev av (.slice A3 L3 k3) (.slice A4 L4 k4) (.slice A5 L5 k5)).toArray
  have hs1 : (w.alloc (.cells (pkL p ev av (.slice A3 L3 k3) (.slice A4 L4 k4) (.slice A5 L5 k5)).toArray 34)).heap.size = w.heap.size + 1 := World.size_alloc _ _
  obtain ⟨w1, hw1⟩ : ∃ w1, w.alloc (.cells (pkL p ev av (.slice A3 L3 k3) (.slice A4 L4 k4) (.slice A5 L5 k5)).toArray 34) = w1 := ⟨_, rfl⟩
  rw [hw1] at k1 r1 hs1
  have k2 := (keepBut.refl [] w1).alloc (.cells Tryz.zeroCells34 34)
  have r2 := rowAt.new w1 34 Tryz.zeroCells34
  have r1' := k2.row r1 (by simp)
  rw [hs1] at r2
  have k12 := k1.then k2 (by simp)
  have HW := Lib.hid hw1
  clear hw1 k1 r1 k2
  go_enter Tryz.func62, Tryz.ntmps62
  go_upto_region 1 with (first
    | (with_reducible refine wpList_box_to _ _ rfl 34 (.tmp 0) rfl _ rfl HW.out ?_))
  obtain ⟨w2, hw2⟩ : ∃ w2, w1.alloc (.cells Tryz.zeroCells34 34) = w2 := ⟨_, rfl⟩
  rw [hw2] at r2 r1' k12 ⊢
  clear hw2 HW
  have HP := Lib.hid (fun w' (hk : keepBut [w.heap.size + 1] w2 w') => (hk.row r1' (by simp)).pk hrn han)
  have HR := Lib.hid (fun w' (hk : keepBut [] w2 w') => hk.row r2 (by simp))
  have HK := Lib.hid (And.intro k12 (And.intro hrn (And.intro han (And.intro hev (And.intro hav (And.intro hlen hone))))))
  have HIr := Lib.hid (show (Tryz.prog.info? 26).map (·.size) = some (rqL p.req ev).length by rw [rqL_len hrn]; exact info_rq)
  have HIa := Lib.hid (show (Tryz.prog.info? 28).map (·.size) = some (anL p.ans av).length by rw [anL_len han]; exact info_an)
  clear r1' r2 k12 hrn han hev hav hlen hone hs1
  have HB2 := Lib.hid (show Tryz.prog.built 34 [(0, .int .i64 p.kind), (1, .int .i64 p.frm), (2, .int .i64 p.dst), (3, .int .i64 (oI (bits .and .i64 n 1) p.num)), (4, .int .i64 (oI (bits .and .i64 n 2) p.seq)), (5, .int .i64 (oI (bits .and .i64 n 4) p.ballot)), (6, .bool (oB (bits .and .i64 n 8) p.ready)), (7, .agg (rqL (oV (bits .and .i64 n 16) rqZero p.req) (oV (bits .and .i64 n 16) nilV ev)).toArray), (8, .agg (anL (oV (bits .and .i64 n 32) anZero p.ans) (oV (bits .and .i64 n 32) nilV av)).toArray), (9, .agg (cfL (oV (bits .and .i64 n 64) cfZero p.conf) (oV (bits .and .i64 n 64) nilV (.slice A3 L3 k3))).toArray), (10, oV (bits .and .i64 n 128) nilV (.slice A4 L4 k4)), (11, oV (bits .and .i64 n 256) nilV (.slice A5 L5 k5))] = some (pkL (p.cut n) (oV (bitA n 16) nilV ev) (oV (bitA n 32) nilV av) (oV (bitA n 64) nilV (.slice A3 L3 k3)) (oV (bitA n 128) nilV (.slice A4 L4 k4)) (oV (bitA n 256) nilV (.slice A5 L5 k5))).toArray from HB.out)
  clear HB
  refine wp_region_held_drew (S := keepBut [w.heap.size + 1] w2) (by kernel_rfl) ((keepBut.refl [] w2).drew.more (by simp)) (fun _ => ?_)
  have kW := (keepBut.refl [] w2).drew
  obtain ⟨W0, hW0⟩ : ∃ W, w2.drew = W := ⟨_, rfl⟩
  rw [hW0] at kW ⊢
  clear hW0
  refine wpAnyH_take (i := 0) (oi := ⟨_, _, _, _, _, _⟩) (v := ?_) rfl (by kernel_rfl) (by kernel_rfl) (by kernel_rfl) (fun _ _ _ h => h) (Or.inl ⟨by rfl, ?_⟩) (kW.more (by simp)) ?_
  rotate_left
  · intro w' hSw; clear hSw; (go_simp; try with_reducible rfl)
  try simp only [Act.put, List.setIfInBounds_toArray, List.set_cons_zero, List.set_cons_succ]
  refine wpAnyH_take (i := 1) (oi := ⟨_, _, _, _, _, _⟩) (v := ?_) rfl (by kernel_rfl) (by kernel_rfl) (by kernel_rfl) (fun _ _ _ h => h) (Or.inl ⟨by rfl, ?_⟩) (kW.more (by simp)) ?_
  rotate_left
  · intro w' hSw; have xc := (HP.out w' hSw).c0; clear hSw; (go_simp; try with_reducible rfl)
  try simp only [Act.put, List.setIfInBounds_toArray, List.set_cons_zero, List.set_cons_succ]
  refine wpAnyH_take (i := 2) (oi := ⟨_, _, _, _, _, _⟩) (v := ?_) rfl (by kernel_rfl) (by kernel_rfl) (by kernel_rfl) (fun _ _ _ h => h) (Or.inl ⟨by rfl, ?_⟩) (kW.more (by simp)) ?_
  rotate_left
  · intro w' hSw; clear hSw; (go_simp; try with_reducible rfl)
  try simp only [Act.put, List.setIfInBounds_toArray, List.set_cons_zero, List.set_cons_succ]
  refine wpAnyH_take (i := 3) (oi := ⟨_, _, _, _, _, _⟩) (v := ?_) rfl (by kernel_rfl) (by kernel_rfl) (by kernel_rfl) (fun _ _ _ h => h) (Or.inl ⟨by rfl, ?_⟩) (kW.more (by simp)) ?_
  rotate_left
  · intro w' hSw; have xc := (HP.out w' hSw).c1; clear hSw; (go_simp; try with_reducible rfl)
  try simp only [Act.put, List.setIfInBounds_toArray, List.set_cons_zero, List.set_cons_succ]
  refine wpAnyH_take (i := 4) (oi := ⟨_, _, _, _, _, _⟩) (v := ?_) rfl (by kernel_rfl) (by kernel_rfl) (by kernel_rfl) (fun _ _ _ h => h) (Or.inl ⟨by rfl, ?_⟩) (kW.more (by simp)) ?_
  rotate_left
  · intro w' hSw; clear hSw; (go_simp; try with_reducible rfl)
  try simp only [Act.put, List.setIfInBounds_toArray, List.set_cons_zero, List.set_cons_succ]
  refine wpAnyH_take (i := 5) (oi := ⟨_, _, _, _, _, _⟩) (v := ?_) rfl (by kernel_rfl) (by kernel_rfl) (by kernel_rfl) (fun _ _ _ h => h) (Or.inl ⟨by rfl, ?_⟩) (kW.more (by simp)) ?_
  rotate_left
  · intro w' hSw; have xc := (HP.out w' hSw).c2; clear hSw; (go_simp; try with_reducible rfl)
  try simp only [Act.put, List.setIfInBounds_toArray, List.set_cons_zero, List.set_cons_succ]
  refine wpAnyH_take (i := 6) (oi := ⟨_, _, _, _, _, _⟩) (v := ?_) rfl (by kernel_rfl) (by kernel_rfl) (by kernel_rfl) (fun _ _ _ h => h) (Or.inl ⟨by rfl, ?_⟩) (kW.more (by simp)) ?_
  rotate_left
  · intro w' hSw; clear hSw; (go_simp; try with_reducible rfl)
  try simp only [Act.put, List.setIfInBounds_toArray, List.set_cons_zero, List.set_cons_succ]
  refine wpAnyH_take (i := 7) (oi := ⟨_, _, _, _, _, _⟩) (v := ?_) rfl (by kernel_rfl) (by kernel_rfl) (by kernel_rfl) (fun _ _ _ h => h) (Or.inl ⟨by rfl, ?_⟩) (kW.more (by simp)) ?_
  rotate_left
  · intro w' hSw; clear hSw; (go_simp; try with_reducible rfl)
  try simp only [Act.put, List.setIfInBounds_toArray, List.set_cons_zero, List.set_cons_succ]
  refine wpAnyH_take (i := 8) (oi := ⟨_, _, _, _, _, _⟩) (v := ?_) rfl (by kernel_rfl) (by kernel_rfl) (by kernel_rfl) (fun _ _ _ h => h) (Or.inl ⟨by rfl, ?_⟩) (kW.more (by simp)) ?_
  rotate_left
  · intro w' hSw; clear hSw; (go_simp; try with_reducible rfl)
  try simp only [Act.put, List.setIfInBounds_toArray, List.set_cons_zero, List.set_cons_succ]
  refine wpAnyH_take (i := 9) (oi := ⟨_, _, _, _, _, _⟩) (v := ?_) rfl (by kernel_rfl) (by kernel_rfl) (by kernel_rfl) (fun _ _ _ h => h) (Or.inl ⟨by rfl, ?_⟩) (kW.more (by simp)) ?_
  rotate_left
  · intro w' hSw; have xc := (HP.out w' hSw).c3; clear hSw; (go_simp; try with_reducible rfl)
  try simp only [Act.put, List.setIfInBounds_toArray, List.set_cons_zero, List.set_cons_succ]
  refine wpAnyH_take (i := 11) (oi := ⟨_, _, _, _, _, _⟩) (v := ?_) rfl (by kernel_rfl) (by kernel_rfl) (by kernel_rfl) (fun _ _ _ h => h) (Or.inl ⟨by rfl, ?_⟩) (kW.more (by simp)) ?_
  rotate_left
  · intro w' hSw; clear hSw; (go_simp; try with_reducible rfl)
  try simp only [Act.put, List.setIfInBounds_toArray, List.set_cons_zero, List.set_cons_succ]
  refine wpAnyH_take (i := 12) (oi := ⟨_, _, _, _, _, _⟩) (v := ?_) rfl (by kernel_rfl) (by kernel_rfl) (by kernel_rfl) (fun _ _ _ h => h) (Or.inl ⟨by rfl, ?_⟩) (kW.more (by simp)) ?_
  rotate_left
  · intro w' hSw; clear hSw; (go_simp; try with_reducible rfl)
  try simp only [Act.put, List.setIfInBounds_toArray, List.set_cons_zero, List.set_cons_succ]
  refine wpAnyH_take (i := 13) (oi := ⟨_, _, _, _, _, _⟩) (v := ?_) rfl (by kernel_rfl) (by kernel_rfl) (by kernel_rfl) (fun _ _ _ h => h) (Or.inl ⟨by rfl, ?_⟩) (kW.more (by simp)) ?_
  rotate_left
  · intro w' hSw; clear hSw; (go_simp; try with_reducible rfl)
  try simp only [Act.put, List.setIfInBounds_toArray, List.set_cons_zero, List.set_cons_succ]
  refine wpAnyH_take (i := 14) (oi := ⟨_, _, _, _, _, _⟩) (v := ?_) rfl (by kernel_rfl) (by kernel_rfl) (by kernel_rfl) (fun _ _ _ h => h) (Or.inl ⟨by rfl, ?_⟩) (kW.more (by simp)) ?_
  rotate_left
  · intro w' hSw; have xc := (HP.out w' hSw).c4; clear hSw; (go_simp; try with_reducible rfl)
  try simp only [Act.put, List.setIfInBounds_toArray, List.set_cons_zero, List.set_cons_succ]
  refine wpAnyH_take (i := 16) (oi := ⟨_, _, _, _, _, _⟩) (v := ?_) rfl (by kernel_rfl) (by kernel_rfl) (by kernel_rfl) (fun _ _ _ h => h) (Or.inl ⟨by rfl, ?_⟩) (kW.more (by simp)) ?_
  rotate_left
  · intro w' hSw; clear hSw; (go_simp; try with_reducible rfl)
  try simp only [Act.put, List.setIfInBounds_toArray, List.set_cons_zero, List.set_cons_succ]
  refine wpAnyH_take (i := 17) (oi := ⟨_, _, _, _, _, _⟩) (v := ?_) rfl (by kernel_rfl) (by kernel_rfl) (by kernel_rfl) (fun _ _ _ h => h) (Or.inl ⟨by rfl, ?_⟩) (kW.more (by simp)) ?_
  rotate_left
  · intro w' hSw; clear hSw; (go_simp; try with_reducible rfl)
  try simp only [Act.put, List.setIfInBounds_toArray, List.set_cons_zero, List.set_cons_succ]
  refine wpAnyH_take (i := 18) (oi := ⟨_, _, _, _, _, _⟩) (v := ?_) rfl (by kernel_rfl) (by kernel_rfl) (by kernel_rfl) (fun _ _ _ h => h) (Or.inl ⟨by rfl, ?_⟩) (kW.more (by simp)) ?_
  rotate_left
  · intro w' hSw; clear hSw; (go_simp; try with_reducible rfl)
  try simp only [Act.put, List.setIfInBounds_toArray, List.set_cons_zero, List.set_cons_succ]
  refine wpAnyH_take (i := 19) (oi := ⟨_, _, _, _, _, _⟩) (v := ?_) rfl (by kernel_rfl) (by kernel_rfl) (by kernel_rfl) (fun _ _ _ h => h) (Or.inl ⟨by rfl, ?_⟩) (kW.more (by simp)) ?_
  rotate_left
  · intro w' hSw; have xc := (HP.out w' hSw).c5; clear hSw; (go_simp; try with_reducible rfl)
  try simp only [Act.put, List.setIfInBounds_toArray, List.set_cons_zero, List.set_cons_succ]
  refine wpAnyH_take (i := 21) (oi := ⟨_, _, _, _, _, _⟩) (v := ?_) rfl (by kernel_rfl) (by kernel_rfl) (by kernel_rfl) (fun _ _ _ h => h) (Or.inl ⟨by rfl, ?_⟩) (kW.more (by simp)) ?_
  rotate_left
  · intro w' hSw; clear hSw; (go_simp; try with_reducible rfl)
  try simp only [Act.put, List.setIfInBounds_toArray, List.set_cons_zero, List.set_cons_succ]
  refine wpAnyH_take (i := 22) (oi := ⟨_, _, _, _, _, _⟩) (v := ?_) rfl (by kernel_rfl) (by kernel_rfl) (by kernel_rfl) (fun _ _ _ h => h) (Or.inl ⟨by rfl, ?_⟩) (kW.more (by simp)) ?_
  rotate_left
  · intro w' hSw; clear hSw; (go_simp; try with_reducible rfl)
  try simp only [Act.put, List.setIfInBounds_toArray, List.set_cons_zero, List.set_cons_succ]
  refine wpAnyH_take (i := 23) (oi := ⟨_, _, _, _, _, _⟩) (v := ?_) rfl (by kernel_rfl) (by kernel_rfl) (by kernel_rfl) (fun _ _ _ h => h) (Or.inl ⟨by rfl, ?_⟩) (kW.more (by simp)) ?_
  rotate_left
  · intro w' hSw; clear hSw; (go_simp; try with_reducible rfl)
  try simp only [Act.put, List.setIfInBounds_toArray, List.set_cons_zero, List.set_cons_succ]
  refine wpAnyH_take (i := 24) (oi := ⟨_, _, _, _, _, _⟩) (v := ?_) rfl (by kernel_rfl) (by kernel_rfl) (by kernel_rfl) (fun _ _ _ h => h) (Or.inl ⟨by rfl, ?_⟩) (kW.more (by simp)) ?_
  rotate_left
  · intro w' hSw; have xc := (HP.out w' hSw).c6; clear hSw; (go_simp; try with_reducible rfl)
  try simp only [Act.put, List.setIfInBounds_toArray, List.set_cons_zero, List.set_cons_succ]
  refine wpAnyH_take (i := 26) (oi := ⟨_, _, _, _, _, _⟩) (v := ?_) rfl (by kernel_rfl) (by kernel_rfl) (by kernel_rfl) (fun _ _ _ h => h) (Or.inl ⟨by rfl, ?_⟩) (kW.more (by simp)) ?_
  rotate_left
  · intro w' hSw; clear hSw; (go_simp; try with_reducible rfl)
  try simp only [Act.put, List.setIfInBounds_toArray, List.set_cons_zero, List.set_cons_succ]
  refine wpAnyH_take (i := 27) (oi := ⟨_, _, _, _, _, _⟩) (v := ?_) rfl (by kernel_rfl) (by kernel_rfl) (by kernel_rfl) (fun _ _ _ h => h) (Or.inl ⟨by rfl, ?_⟩) (kW.more (by simp)) ?_
  rotate_left
  · intro w' hSw; clear hSw; (go_simp; try with_reducible rfl)
  try simp only [Act.put, List.setIfInBounds_toArray, List.set_cons_zero, List.set_cons_succ]
  refine wpAnyH_take (i := 28) (oi := ⟨_, _, _, _, _, _⟩) (v := ?_) rfl (by kernel_rfl) (by kernel_rfl) (by kernel_rfl) (fun _ _ _ h => h) (Or.inl ⟨by rfl, ?_⟩) (kW.more (by simp)) ?_
  rotate_left
  · intro w' hSw; clear hSw; (go_simp; try with_reducible rfl)
  try simp only [Act.put, List.setIfInBounds_toArray, List.set_cons_zero, List.set_cons_succ]
  refine wpAnyH_take (i := 29) (oi := ⟨_, _, _, _, _, _⟩) (v := .agg (rqL p.req ev).toArray) rfl (by kernel_rfl) (by kernel_rfl) (by kernel_rfl) (fun _ _ _ h => h) (yieldsIf_mid 26 (.tmp 33) rfl w.heap.size 7 rfl (rqL p.req ev) _ (fun w' hSw => (HP.out w' hSw).rq) Tryz.underlying26 rfl HIr.out ?_) (kW.more (by simp)) ?_
  · rfl
  try simp only [Act.put, List.setIfInBounds_toArray, List.set_cons_zero, List.set_cons_succ]
  refine wpAnyH_take (i := 31) (oi := ⟨_, _, _, _, _, _⟩) (v := ?_) rfl (by kernel_rfl) (by kernel_rfl) (by kernel_rfl) (fun _ _ _ h => h) (Or.inl ⟨by rfl, ?_⟩) (kW.more (by simp)) ?_
  rotate_left
  · intro w' hSw; clear hSw; (go_simp; try with_reducible rfl)
  try simp only [Act.put, List.setIfInBounds_toArray, List.set_cons_zero, List.set_cons_succ]
  refine wpAnyH_take (i := 32) (oi := ⟨_, _, _, _, _, _⟩) (v := ?_) rfl (by kernel_rfl) (by kernel_rfl) (by kernel_rfl) (fun _ _ _ h => h) (Or.inl ⟨by rfl, ?_⟩) (kW.more (by simp)) ?_
  rotate_left
  · intro w' hSw; clear hSw; (go_simp; try with_reducible rfl)
  try simp only [Act.put, List.setIfInBounds_toArray, List.set_cons_zero, List.set_cons_succ]
  refine wpAnyH_take (i := 33) (oi := ⟨_, _, _, _, _, _⟩) (v := ?_) rfl (by kernel_rfl) (by kernel_rfl) (by kernel_rfl) (fun _ _ _ h => h) (Or.inl ⟨by rfl, ?_⟩) (kW.more (by simp)) ?_
  rotate_left
  · intro w' hSw; clear hSw; (go_simp; try with_reducible rfl)
  try simp only [Act.put, List.setIfInBounds_toArray, List.set_cons_zero, List.set_cons_succ]
  refine wpAnyH_take (i := 34) (oi := ⟨_, _, _, _, _, _⟩) (v := .agg (anL p.ans av).toArray) rfl (by kernel_rfl) (by kernel_rfl) (by kernel_rfl) (fun _ _ _ h => h) (yieldsIf_mid 28 (.tmp 38) rfl w.heap.size 44 rfl (anL p.ans av) _ (fun w' hSw => (HP.out w' hSw).an) Tryz.underlying28 rfl HIa.out ?_) (kW.more (by simp)) ?_
  · rfl
  try simp only [Act.put, List.setIfInBounds_toArray, List.set_cons_zero, List.set_cons_succ]
  refine wpAnyH_take (i := 36) (oi := ⟨_, _, _, _, _, _⟩) (v := ?_) rfl (by kernel_rfl) (by kernel_rfl) (by kernel_rfl) (fun _ _ _ h => h) (Or.inl ⟨by rfl, ?_⟩) (kW.more (by simp)) ?_
  rotate_left
  · intro w' hSw; clear hSw; (go_simp; try with_reducible rfl)
  try simp only [Act.put, List.setIfInBounds_toArray, List.set_cons_zero, List.set_cons_succ]
  refine wpAnyH_take (i := 37) (oi := ⟨_, _, _, _, _, _⟩) (v := ?_) rfl (by kernel_rfl) (by kernel_rfl) (by kernel_rfl) (fun _ _ _ h => h) (Or.inl ⟨by rfl, ?_⟩) (kW.more (by simp)) ?_
  rotate_left
  · intro w' hSw; clear hSw; (go_simp; try with_reducible rfl)
  try simp only [Act.put, List.setIfInBounds_toArray, List.set_cons_zero, List.set_cons_succ]
  refine wpAnyH_take (i := 38) (oi := ⟨_, _, _, _, _, _⟩) (v := ?_) rfl (by kernel_rfl) (by kernel_rfl) (by kernel_rfl) (fun _ _ _ h => h) (Or.inl ⟨by rfl, ?_⟩) (kW.more (by simp)) ?_
  rotate_left
  · intro w' hSw; clear hSw; (go_simp; try with_reducible rfl)
  try simp only [Act.put, List.setIfInBounds_toArray, List.set_cons_zero, List.set_cons_succ]
  refine wpAnyH_take (i := 39) (oi := ⟨_, _, _, _, _, _⟩) (v := .agg (cfL p.conf (.slice A3 L3 k3)).toArray) rfl (by kernel_rfl) (by kernel_rfl) (by kernel_rfl) (fun _ _ _ h => h) (yieldsIf_mid 31 (.tmp 43) rfl w.heap.size 82 rfl (cfL p.conf (.slice A3 L3 k3)) _ (fun w' hSw => by have hp := HP.out w' hSw; exact fun j v hv => match j, hv with | 0, hv => by cases hv; exact hp.d0 | 1, hv => by cases hv; exact hp.d1 | 2, hv => by cases hv; exact hp.d2) Tryz.underlying31 rfl info_cf ?_) (kW.more (by simp)) ?_
  · rfl
  try simp only [Act.put, List.setIfInBounds_toArray, List.set_cons_zero, List.set_cons_succ]
  refine wpAnyH_take (i := 41) (oi := ⟨_, _, _, _, _, _⟩) (v := ?_) rfl (by kernel_rfl) (by kernel_rfl) (by kernel_rfl) (fun _ _ _ h => h) (Or.inl ⟨by rfl, ?_⟩) (kW.more (by simp)) ?_
  rotate_left
  · intro w' hSw; clear hSw; (go_simp; try with_reducible rfl)
  try simp only [Act.put, List.setIfInBounds_toArray, List.set_cons_zero, List.set_cons_succ]
  refine wpAnyH_take (i := 42) (oi := ⟨_, _, _, _, _, _⟩) (v := ?_) rfl (by kernel_rfl) (by kernel_rfl) (by kernel_rfl) (fun _ _ _ h => h) (Or.inl ⟨by rfl, ?_⟩) (kW.more (by simp)) ?_
  rotate_left
  · intro w' hSw; clear hSw; (go_simp; try with_reducible rfl)
  try simp only [Act.put, List.setIfInBounds_toArray, List.set_cons_zero, List.set_cons_succ]
  refine wpAnyH_take (i := 43) (oi := ⟨_, _, _, _, _, _⟩) (v := ?_) rfl (by kernel_rfl) (by kernel_rfl) (by kernel_rfl) (fun _ _ _ h => h) (Or.inl ⟨by rfl, ?_⟩) (kW.more (by simp)) ?_
  rotate_left
  · intro w' hSw; clear hSw; (go_simp; try with_reducible rfl)
  try simp only [Act.put, List.setIfInBounds_toArray, List.set_cons_zero, List.set_cons_succ]
  refine wpAnyH_take (i := 44) (oi := ⟨_, _, _, _, _, _⟩) (v := ?_) rfl (by kernel_rfl) (by kernel_rfl) (by kernel_rfl) (fun _ _ _ h => h) (Or.inl ⟨by rfl, ?_⟩) (kW.more (by simp)) ?_
  rotate_left
  · intro w' hSw; have xc := (HP.out w' hSw).d3; clear hSw; (go_simp; try with_reducible rfl)
  try simp only [Act.put, List.setIfInBounds_toArray, List.set_cons_zero, List.set_cons_succ]
  refine wpAnyH_take (i := 46) (oi := ⟨_, _, _, _, _, _⟩) (v := ?_) rfl (by kernel_rfl) (by kernel_rfl) (by kernel_rfl) (fun _ _ _ h => h) (Or.inl ⟨by rfl, ?_⟩) (kW.more (by simp)) ?_
  rotate_left
  · intro w' hSw; clear hSw; (go_simp; try with_reducible rfl)
  try simp only [Act.put, List.setIfInBounds_toArray, List.set_cons_zero, List.set_cons_succ]
  refine wpAnyH_take (i := 47) (oi := ⟨_, _, _, _, _, _⟩) (v := ?_) rfl (by kernel_rfl) (by kernel_rfl) (by kernel_rfl) (fun _ _ _ h => h) (Or.inl ⟨by rfl, ?_⟩) (kW.more (by simp)) ?_
  rotate_left
  · intro w' hSw; clear hSw; (go_simp; try with_reducible rfl)
  try simp only [Act.put, List.setIfInBounds_toArray, List.set_cons_zero, List.set_cons_succ]
  refine wpAnyH_take (i := 48) (oi := ⟨_, _, _, _, _, _⟩) (v := ?_) rfl (by kernel_rfl) (by kernel_rfl) (by kernel_rfl) (fun _ _ _ h => h) (Or.inl ⟨by rfl, ?_⟩) (kW.more (by simp)) ?_
  rotate_left
  · intro w' hSw; clear hSw; (go_simp; try with_reducible rfl)
  try simp only [Act.put, List.setIfInBounds_toArray, List.set_cons_zero, List.set_cons_succ]
  refine wpAnyH_take (i := 49) (oi := ⟨_, _, _, _, _, _⟩) (v := ?_) rfl (by kernel_rfl) (by kernel_rfl) (by kernel_rfl) (fun _ _ _ h => h) (Or.inl ⟨by rfl, ?_⟩) (kW.more (by simp)) ?_
  rotate_left
  · intro w' hSw; have xc := (HP.out w' hSw).d4; clear hSw; (go_simp; try with_reducible rfl)
  try simp only [Act.put, List.setIfInBounds_toArray, List.set_cons_zero, List.set_cons_succ]
  refine wpAnyH_ready (rs := [10]) (by kernel_rfl) (by simp) ?_
  refine AllReadyH.cons (o := ⟨_, _, _, _, _, _⟩) rfl (fun K hK => ?_) AllReadyH.nil
  go_simp
  refine (onlyI _ _ _).mono ?_
  rintro e w' ⟨rfl, rfl⟩
  go_wp2_with fail
  refine hK.out _ _ (kW.more (by simp)) (fun _ => ?_)
  clear hK K
  try simp only [Act.put, List.setIfInBounds_toArray, List.set_cons_zero, List.set_cons_succ]
  refine wpAnyH_ready (rs := [15]) (by kernel_rfl) (by simp) ?_
  refine AllReadyH.cons (o := ⟨_, _, _, _, _, _⟩) rfl (fun K hK => ?_) AllReadyH.nil
  go_simp
  refine (onlyI _ _ _).mono ?_
  rintro e w' ⟨rfl, rfl⟩
  go_wp2_with fail
  refine hK.out _ _ (kW.more (by simp)) (fun _ => ?_)
  clear hK K
  try simp only [Act.put, List.setIfInBounds_toArray, List.set_cons_zero, List.set_cons_succ]
  refine wpAnyH_ready (rs := [20]) (by kernel_rfl) (by simp) ?_
  refine AllReadyH.cons (o := ⟨_, _, _, _, _, _⟩) rfl (fun K hK => ?_) AllReadyH.nil
  go_simp
  refine (onlyI _ _ _).mono ?_
  rintro e w' ⟨rfl, rfl⟩
  go_wp2_with fail
  refine hK.out _ _ (kW.more (by simp)) (fun _ => ?_)
  clear hK K
  try simp only [Act.put, List.setIfInBounds_toArray, List.set_cons_zero, List.set_cons_succ]
  refine wpAnyH_ready (rs := [25]) (by kernel_rfl) (by simp) ?_
  refine AllReadyH.cons (o := ⟨_, _, _, _, _, _⟩) rfl (fun K hK => ?_) AllReadyH.nil
  go_simp
  refine (onlyB _ _ _).mono ?_
  rintro e w' ⟨rfl, rfl⟩
  go_wp2_with fail
  refine hK.out _ _ (kW.more (by simp)) (fun _ => ?_)
  clear hK K
  try simp only [Act.put, List.setIfInBounds_toArray, List.set_cons_zero, List.set_cons_succ]
  refine wpAnyH_ready (rs := [30]) (by kernel_rfl) (by simp) ?_
  refine AllReadyH.cons (o := ⟨_, _, _, _, _, _⟩) rfl (fun K hK => ?_) AllReadyH.nil
  go_simp
  refine (onlyR _ _ _ _ HK.out.2.1 HK.out.2.2.2.1).mono ?_
  rintro e w' ⟨rfl, kk⟩; replace kW := kW.then kk (by simp); clear kk
  go_wp2_with fail
  refine hK.out _ _ (kW.more (by simp)) (fun _ => ?_)
  clear hK K
  try simp only [Act.put, List.setIfInBounds_toArray, List.set_cons_zero, List.set_cons_succ]
  refine wpAnyH_ready (rs := [35]) (by kernel_rfl) (by simp) ?_
  refine AllReadyH.cons (o := ⟨_, _, _, _, _, _⟩) rfl (fun K hK => ?_) AllReadyH.nil
  go_simp
  refine (onlyA _ _ _ _ HK.out.2.2.1 HK.out.2.2.2.2.1).mono ?_
  rintro e w' ⟨rfl, kk⟩; replace kW := kW.then kk (by simp); clear kk
  go_wp2_with fail
  refine hK.out _ _ (kW.more (by simp)) (fun _ => ?_)
  clear hK K
  try simp only [Act.put, List.setIfInBounds_toArray, List.set_cons_zero, List.set_cons_succ]
  refine wpAnyH_ready (rs := [40]) (by kernel_rfl) (by simp) ?_
  refine AllReadyH.cons (o := ⟨_, _, _, _, _, _⟩) rfl (fun K hK => ?_) AllReadyH.nil
  go_simp
  refine (onlyC _ _ _ _ _ _).mono ?_
  rintro e w' ⟨rfl, kk⟩; replace kW := kW.then kk (by simp); clear kk
  go_wp2_with fail
  refine hK.out _ _ (kW.more (by simp)) (fun _ => ?_)
  clear hK K
  try simp only [Act.put, List.setIfInBounds_toArray, List.set_cons_zero, List.set_cons_succ]
  refine wpAnyH_ready (rs := [45]) (by kernel_rfl) (by simp) ?_
  refine AllReadyH.cons (o := ⟨_, _, _, _, _, _⟩) rfl (fun K hK => ?_) AllReadyH.nil
  go_simp
  refine (onlyVs _ _ _ _ _).mono ?_
  rintro e w' ⟨rfl, rfl⟩
  go_wp2_with fail
  refine hK.out _ _ (kW.more (by simp)) (fun _ => ?_)
  clear hK K
  try simp only [Act.put, List.setIfInBounds_toArray, List.set_cons_zero, List.set_cons_succ]
  refine wpAnyH_ready (rs := [50]) (by kernel_rfl) (by simp) ?_
  refine AllReadyH.cons (o := ⟨_, _, _, _, _, _⟩) rfl (fun K hK => ?_) AllReadyH.nil
  go_simp
  refine (onlyBs _ _ _ _ _).mono ?_
  rintro e w' ⟨rfl, rfl⟩
  go_wp2_with fail
  refine hK.out _ _ (kW.more (by simp)) (fun _ => ?_)
  clear hK K
  try simp only [Act.put, List.setIfInBounds_toArray, List.set_cons_zero, List.set_cons_succ]
  have rs := (HR.out _ kW).setL (vs := pkL (p.cut n) (oV (bitA n 16) nilV ev) (oV (bitA n 32) nilV av) (oV (bitA n 64) nilV (.slice A3 L3 k3)) (oV (bitA n 128) nilV (.slice A4 L4 k4)) (oV (bitA n 256) nilV (.slice A5 L5 k5))) (o := 0)
  have ht := (HR.out _ kW).there (o := 0) (n := 87) (by rw [show Tryz.zeroCells34.size = 87 by kernel_rfl]; exact Nat.le_refl _)
  rw [putL_all (by rw [HK.out.2.2.2.2.2.1]; kernel_rfl)] at rs
  have HZ := Lib.hid (And.intro rs ht)
  have HO := Lib.hid (all_oneCell_toArray HK.out.2.2.2.2.2.2)
  have HL := Lib.hid HK.out.2.2.2.2.2.1
  have kF := (HK.out.1.then kW (by simp)).setL (vs := pkL (p.cut n) (oV (bitA n 16) nilV ev) (oV (bitA n 32) nilV av) (oV (bitA n 64) nilV (.slice A3 L3 k3)) (oV (bitA n 128) nilV (.slice A4 L4 k4)) (oV (bitA n 256) nilV (.slice A5 L5 k5))) (g := w.heap.size + 1) (o := 0) (.inr (by simp))
  have kS := ((kW.more (by simp)) : keepBut [w.heap.size + 1] w2 _).setL (vs := pkL (p.cut n) (oV (bitA n 16) nilV ev) (oV (bitA n 32) nilV av) (oV (bitA n 64) nilV (.slice A3 L3 k3)) (oV (bitA n 128) nilV (.slice A4 L4 k4)) (oV (bitA n 256) nilV (.slice A5 L5 k5))) (g := w.heap.size + 1) (o := 0) (.inl (by simp))
  obtain ⟨Z, hZ⟩ : ∃ Z, pkL (p.cut n) (oV (bitA n 16) nilV ev) (oV (bitA n 32) nilV av) (oV (bitA n 64) nilV (.slice A3 L3 k3)) (oV (bitA n 128) nilV (.slice A4 L4 k4)) (oV (bitA n 256) nilV (.slice A5 L5 k5)) = Z := ⟨_, rfl⟩
  rw [hZ] at HZ HO HL HB2 kF kS
  have HE := Lib.hid hZ
  have HI := Lib.hid (show (Tryz.prog.info? 34).map (·.size) = some Z.toArray.size by rw [List.size_toArray, HL.out]; exact info_pk)
  have HT := Lib.hid (show World.there _ _ 0 Z.toArray.size by rw [List.size_toArray, HL.out]; exact HZ.out.2)
  clear rs ht hZ
  refine wpAnyH_take (i := 51) (oi := ⟨_, _, _, _, _, _⟩) (v := .agg Z.toArray) rfl (by kernel_rfl) (by kernel_rfl) (by kernel_rfl) (fun _ _ _ h => h) (yieldsIf_build 34 _ rfl ?_ _ ?_) (kW.more (by simp)) ?_
  · rfl
  · simp only [List.map_toArray, List.map_cons, List.map_nil]
    go_simp
    exact HB2.out
  try simp only [Act.put, List.setIfInBounds_toArray, List.set_cons_zero, List.set_cons_succ]
  refine wpAnyH_ready (rs := [52]) (by kernel_rfl) (by simp) ?_
  refine AllReadyH.cons (o := ⟨_, _, _, _, _, _⟩) rfl (fun K hK => ?_) AllReadyH.nil
  rw [if_pos (by rfl)]
  refine wp_store_mid 34 (.tmp 4) (.tmp 56) rfl (w.heap.size + 1) 0 Z.toArray rfl rfl HT.out HI.out HO.out ?_
  refine hK.out _ _ kS (fun _ => ?_)
  clear hK K
  refine wpAnyH_done (by kernel_rfl) ?_ _
  go_wp2_with fail
  refine bodyPost_ret (results_cell_row rfl _ _ (w.heap.size + 1) 34 _ (0, 0) _ rfl HZ.out.1 Tryz.underlying34 rfl HI.out) rfl ?_
  exact ⟨by rw [← HE.out], kF⟩
end Go.Proofs.YthfdkonhjpdflaaGreatDoor
