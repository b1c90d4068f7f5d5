/-
  RCI: RC21, RC22, joined.
-/
import Derived.Test.YtcnlnkkdcofphaaDoorRCH
section
namespace Go.Proofs.YtcnlnkkdcofphaaDoor
open Go.RowKit
set_option linter.unusedVariables false
set_option maxRecDepth 100000
set_option linter.unusedSimpArgs false

def PK.cutL (p : PK) : PK := ⟨p.kind, p.frm, p.dst, p.num, p.seq, p.ballot, p.ready, p.req, p.ans, p.conf, p.votes.take 8, p.bytes.take 200⟩
theorem PK.cutL_fits {p : PK} (h : p.fits) : p.cutL.fits :=
  ⟨h.e, h.a, h.c, by have := h.v; show (p.votes.take 8).length ≤ _; rw [List.length_take]; omega, fun v hv => h.vc v (List.mem_of_mem_take hv), by have := h.b; show (p.bytes.take 200).length ≤ _; rw [List.length_take]; omega⟩
theorem votesV.cutTo {w : World} {F : List Nat} {V : Option Addr} {n c : Nat} {l : List VT} (h : votesV w F (.slice V n c) l) (k : Nat) (hk : k ≤ l.length) : votesV w F (.slice V k c) (l.take k) := by
  obtain ⟨A', c', g, T, h1, h2, h3, h4, h5, h6, h7⟩ := h
  injection h1 with ha hb hc
  subst ha hc
  have hl : (l.take k).length = k := by rw [List.length_take]; omega
  have hT : T.length = l.length := by rw [← h4, List.length_map]
  have hf : flatVT T = flatVT (T.take k) ++ flatVT (T.drop k) := by rw [← flatVT_app, List.take_append_drop]
  refine ⟨V, c, g, T.take k, by rw [hl], by rw [hl]; omega, h3, by rw [List.map_take, h4], ⟨by rw [flatVT_len, List.length_take, hl]; congr 1; omega, fun h0 => ?_⟩, fun t ht => h6 t (List.mem_of_mem_take ht), fun hne => h7 (fun e => hne (by rw [e]; simp))⟩
  obtain ⟨o, e1, e2, e3⟩ := h5.2 (by rw [hl] at h0; omega)
  refine ⟨o, e1, e2, fun j u hu => e3 j u ?_⟩
  rw [hf, List.getElem?_append_left (List.getElem?_eq_some_iff.1 hu).1]
  exact hu
theorem bytesV.cutTo {w : World} {F : List Nat} {A : Option Addr} {n c : Nat} {l : List UInt8} (h : bytesV w F (.slice A n c) l) (k : Nat) (hk : k ≤ l.length) : bytesV w F (.slice A k c) (l.take k) := by
  obtain ⟨A', c', g, h1, h2, h3, h5, h6⟩ := h
  injection h1 with ha hb hc
  subst ha hc
  have hl : (l.take k).length = k := by rw [List.length_take]; omega
  exact ⟨A, c, g, by rw [hl], by rw [hl]; omega, h3, h5.take k, fun hne => h6 (fun e => hne (by rw [e]; simp))⟩
set_option maxHeartbeats 8000000 in
theorem cutN_0 (F : List Nat) (p : PK) (X : List Value) (w : World) (h : itemV w F (p, X)) (hf : p.fits) (q8 : p.votes.length ≤ 8) (q2 : p.bytes.length ≤ 200) :
    Calls Tryd.prog 34 #[.agg X.toArray] w (copyPostX p.cutL w) := by
  have HQ := Lib.hid (And.intro q8 q2)
  clear q8 q2
  obtain ⟨ev0, av0, cv0, vv0, bw0, hX, hv⟩ := h
  dsimp only at hX hv
  have hrn := hv.rn
  have han := hv.an
  have hXl : X.length = 87 := by rw [hX]; exact pkL_len hrn han
  obtain ⟨Z, hZl, hZ, hZb, hZi⟩ := zeroP
  have k1 := (keepBut.refl [] w).alloc (.cells X.toArray 40)
  have r1 := rowAt.new w 40 X.toArray
  have hs1 : (w.alloc (.cells X.toArray 40)).heap.size = w.heap.size + 1 := World.size_alloc _ _
  obtain ⟨w1, hw1⟩ : ∃ w1, w.alloc (.cells X.toArray 40) = w1 := ⟨_, rfl⟩
  rw [hw1] at k1 r1 hs1
  have k2 := (keepBut.refl [] w1).alloc (.cells Z.toArray 40)
  have r2 := rowAt.new w1 40 Z.toArray
  have r1' := k2.row r1 (by simp)
  obtain ⟨w2, hw2⟩ : ∃ w2, w1.alloc (.cells Z.toArray 40) = w2 := ⟨_, rfl⟩
  rw [hw2] at r1' r2 k2
  rw [hs1] at r2
  have k12 := k1.then k2 (by simp)
  obtain ⟨b, hb⟩ : ∃ b, w.heap.size = b := ⟨_, rfl⟩
  rw [hb] at r1' r2 hs1
  have HI := Lib.hid (show (Tryd.prog.info? 40).map (·.size) = some X.length by rw [hXl]; exact info_pk)
  have HW := Lib.hid (And.intro hw1 hw2)
  have HZ := Lib.hid (And.intro hZ (And.intro hZl hs1))
  have H2 := Lib.hid (And.intro r1' (And.intro r2 k12))
  have HCP := Lib.hid (copyD F p ev0 av0 cv0 vv0 bw0 w2 (hv.over k12) hf)
  rw [← hX] at HCP
  have HX := Lib.hid hXl
  have HN := Lib.hid (And.intro hrn (And.intro han hb))
  clear hw1 hw2 k1 r1 k2 r1' r2 k12 hXl hZl hZ hZb hZi hs1 hX hv
  go_enter Tryd.func34, Tryd.ntmps34
  go_upto_region 2 with (first
    | (with_reducible refine wpList_box_to _ _ rfl 40 (.tmp 0) rfl _ rfl HW.out.1 ?_; try simp only [hb])
    | (with_reducible refine wpList_alloc_to _ _ rfl 40 rfl _ HZ.out.1 HW.out.2 ?_; try simp only [HZ.out.2.2])
    | (refine wpList_load_mid rfl 40 (.tmp 1) rfl b 0 rfl X _ H2.out.1.rangeAll Tryd.underlying40 rfl HI.out ?_)
    | (go_at_call 47; refine HCP.out.mono ?_; rintro e w3 ⟨G, ev, av, cv, vv, bw, rfl, hv3, hn3, k3⟩; obtain ⟨X1, hX1⟩ : ∃ C, pkL p ev av cv vv bw = C := ⟨_, rfl⟩; rw [hX1]; have HX1 := Lib.hid (show X1.length = 87 ∧ ∀ u ∈ X1, u.oneCell' = true by rw [← hX1]; exact ⟨pkL_len hrn han, pkL_one hv3.re.one hv3.ae.one hv3.cc.one hv3.vs.one hv3.bs.one⟩); have H3 := Lib.hid (And.intro hv3 (And.intro hn3 (And.intro k3 hX1))); have HT3 := Lib.hid ((k3.row H2.out.1 (by simp)).there (o := 0) (n := X1.toArray.size) (by have := HX.out; have := HX1.out.1; simp only [List.size_toArray]; omega)); clear hv3 hn3 k3 hX1)
    | (refine wpList_store_mid rfl 40 (.tmp 1) (.tmp 4) rfl b 0 X1.toArray rfl rfl HT3.out (by rw [List.size_toArray, HX1.out.1]; exact info_pk) (all_oneCell_toArray HX1.out.2) ?_))
  have r4 := (H3.out.2.2.1.row H2.out.1 (by simp)).setL (vs := X1) (o := 0)
  rw [putL_all (by rw [List.size_toArray, HX1.out.1, HX.out])] at r4
  have kb : keepBut [b] w3 (w3.setCells b 0 X1) := (keepBut.refl _ _).setL (.inl (by simp))
  have hbw : w.heap.size ≤ b := by rw [HN.out.2.2]; exact Nat.le_refl _
  have rz := kb.row (H3.out.2.2.1.row H2.out.2.1 (by simp)) (by simp)
  have kw : keepBut [] w (w3.setCells b 0 X1) := (H2.out.2.2.then H3.out.2.2.1 (by simp)).then kb (fun x hx => .inr (by simp only [List.mem_singleton] at hx; omega))
  have hG : ∀ y ∈ G, b + 1 < y ∧ y < w3.heap.size := fun y hy => by have a := H3.out.2.1 y hy; have c := H2.out.2.1.lt; omega
  have hv4 : pkV (w3.setCells b 0 X1) G p ev av cv vv bw := H3.out.1.keep kb (fun y hy hm => by have a := hG y hy; simp only [List.mem_singleton] at hm; omega)
  have hs4 := kb.size
  generalize w3.setCells b 0 X1 = w4 at r4 kb rz kw hv4 hs4 ⊢
  rw [← H3.out.2.2.2] at r4
  obtain ⟨V, cV, gV, TV, rfl, _, hV1, _⟩ := id hv4.vs
  obtain ⟨B, cB, gB, rfl, _, hB1, _⟩ := id hv4.bs
  obtain ⟨n, hn⟩ : ∃ n, p.votes.length = n := ⟨_, rfl⟩
  obtain ⟨k, hk⟩ : ∃ n, p.bytes.length = n := ⟨_, rfl⟩
  have hvn := hv4.vs
  have hbn := hv4.bs
  have hnc : n ≤ cV := by rw [← hn]; assumption
  have hkc : k ≤ cB := by rw [← hk]; assumption
  rw [hn] at r4 hvn
  rw [hk] at r4 hbn
  have HL := Lib.hid (And.intro hn hk)
  have hn63 : n ≤ 9223372036854775807 := by unfold maxLen at hV1; omega
  have hk63 : k ≤ 9223372036854775807 := by unfold maxLen at hB1; omega
  have x85 := (r4.pk hrn han).d3
  have x86 := (r4.pk hrn han).d4
  have f85 := r4.free 85
  have f86 := r4.free 86
  have H4 := Lib.hid (And.intro r4 (And.intro rz (And.intro kw (And.intro hv4.re (And.intro hv4.ae (And.intro hv4.cc (And.intro hvn (And.intro hbn (And.intro hG hs4)))))))))
  clear r4 rz kw hv4 hvn hbn hG kb hbw hn hk hV1 hB1 hs4
  have fin : ∀ (k8 k2 : Nat) (W : World), p.votes.take 8 = p.votes.take k8 → k8 ≤ n → p.bytes.take 200 = p.bytes.take k2 → k2 ≤ k → W = (w4.setCell ⟨b, 85, none⟩ (.slice V k8 cV)).setCell ⟨b, 86, none⟩ (.slice B k2 cB) →
      ∃ Y, pkL p ev av cv (.slice V k8 cV) (.slice B k2 cB) = Y ∧ Y.length = 87 ∧ (∀ u ∈ Y, u.oneCell' = true) ∧ rowAt W b 40 Y.toArray ∧ rowAt W (b + 1) 40 Z.toArray ∧ copyPostX p.cutL w (.returned (.agg Y.toArray)) (W.setCells (b + 1) 0 Y) ∧ rowAt (W.setCells (b + 1) 0 Y) (b + 1) 40 Y.toArray := fun k8 k2 W h8 h8n h2 h2k hW => by
    have hn := HL.out.1
    have hk := HL.out.2
    have ks : keepBut [b] w4 W := by rw [hW]; exact ((keepBut.refl [b] w4).setCell ⟨b, 85, none⟩ _ (.inl (by simp))).setCell ⟨b, 86, none⟩ _ (.inl (by simp))
    have r5 : rowAt W b 40 (pkL p ev av cv (.slice V k8 cV) (.slice B k2 cB)).toArray := by
      have h1 := (H4.out.1.set 85 (.slice V k8 cV)).set 86 (.slice B k2 cB)
      rw [(pkL_setT hrn han (.slice V k8 cV)).2.2.2.1, (pkL_setT hrn han (.slice B k2 cB)).2.2.2.2] at h1
      rw [hW]; exact h1
    have rz := ks.row H4.out.2.1 (by simp)
    have hl : (pkL p ev av cv (.slice V k8 cV) (.slice B k2 cB)).length = 87 := pkL_len hrn han
    have kl : keepBut [b + 1] W (W.setCells (b + 1) 0 (pkL p ev av cv (.slice V k8 cV) (.slice B k2 cB))) := (keepBut.refl _ _).setL (.inl (by simp))
    have kk : keepBut [b, b + 1] w4 (W.setCells (b + 1) 0 (pkL p ev av cv (.slice V k8 cV) (.slice B k2 cB))) := (ks.more (by simp)).then (kl.more (by simp)) (fun x hx => .inl hx)
    have rr := rz.setL (vs := pkL p ev av cv (.slice V k8 cV) (.slice B k2 cB)) (o := 0)
    rw [putL_all (by rw [hl, List.size_toArray, HZ.out.2.1])] at rr
    have hG := H4.out.2.2.2.2.2.2.2.2.1
    have hs := H4.out.2.2.2.2.2.2.2.2.2
    have hb := HN.out.2.2
    have hGf : ∀ y ∈ G, y ∉ [b, b + 1] := fun y hy hm => by have a := hG y hy; simp only [List.mem_cons, List.not_mem_nil, or_false] at hm; omega
    refine ⟨_, rfl, hl, pkL_one H4.out.2.2.2.1.one H4.out.2.2.2.2.1.one H4.out.2.2.2.2.2.1.one rfl rfl, r5, rz, ⟨_, G, rfl, ⟨ev, av, cv, .slice V k8 cV, .slice B k2 cB, rfl, hrn, han, H4.out.2.2.2.1.keep kk hGf, H4.out.2.2.2.2.1.keep kk hGf, H4.out.2.2.2.2.2.1.keep kk hGf, ?_, ?_⟩, fun y hy => ⟨by have := hG y hy; omega, by have := hG y hy; have := kk.size; omega⟩, H4.out.2.2.1.then kk (fun x hx => .inr (by simp only [List.mem_cons, List.not_mem_nil, or_false] at hx; omega))⟩, rr⟩
    · show votesV _ G (.slice V k8 cV) (p.votes.take 8)
      rw [h8]
      exact (H4.out.2.2.2.2.2.2.1.cutTo k8 (by omega)).keep kk hGf
    · show bytesV _ G (.slice B k2 cB) (p.bytes.take 200)
      rw [h2]
      exact (H4.out.2.2.2.2.2.2.2.1.cutTo k2 (by omega)).keep kk hGf
  have FIN := Lib.hid fin
  clear fin
  have h8 : (n : Int) ≤ 8 := by have := HQ.out.1; have := HL.out.1; omega
  have h2 : (k : Int) ≤ 200 := by have := HQ.out.2; have := HL.out.2; omega
  go_upto_region 4 with fail
  obtain ⟨Y, hY, hYl, hYo, rY, rZ, hpost, rr⟩ := FIN.out (if n ≤ 8 then n else 8) (if k ≤ 200 then k else 200) _ (by split <;> first | rfl | (rw [List.take_of_length_le (by have := HL.out.1; omega), List.take_of_length_le (by have := HL.out.1; omega)])) (by split <;> omega) (by split <;> first | rfl | (rw [List.take_of_length_le (by have := HL.out.2; omega), List.take_of_length_le (by have := HL.out.2; omega)])) (by split <;> omega) rfl
  simp only [show (n ≤ 8) = ((n : Int) ≤ 8) from by simp; omega, show (k ≤ 200) = ((k : Int) ≤ 200) from by simp; omega, h8, h2, if_true, if_false] at rY rZ hpost rr hY
  have HF := Lib.hid (And.intro rY.rangeAll (And.intro (rZ.there (o := 0) (n := Y.toArray.size) (by have := HZ.out.2.1; simp only [List.size_toArray]; omega)) (And.intro hYl (And.intro hYo (And.intro hpost rr)))))
  have HJ := Lib.hid (show (Tryd.prog.info? 40).map (·.size) = some Y.length by rw [hYl]; exact info_pk)
  clear rY rZ hpost rr hY hYl hYo x85 x86 f85 f86 FIN
  clear hn63 hk63 h8 h2 hnc hkc hb hrn han
  obtain ⟨W6, hW6⟩ : ∃ W, (w4.setCell ⟨b, 85, none⟩ (.slice V n cV)).setCell ⟨b, 86, none⟩ (.slice B k cB) = W := ⟨_, rfl⟩
  rw [hW6] at HF ⊢
  clear hW6
  go_wp2_with (first
    | (refine wpList_load_mid rfl 40 (.tmp 1) rfl b 0 rfl Y _ HF.out.1 Tryd.underlying40 rfl HJ.out ?_)
    | (refine wpList_store_mid rfl 40 (.tmp 2) (.tmp 21) rfl (b + 1) 0 Y.toArray rfl rfl HF.out.2.1 (by rw [List.size_toArray]; exact HJ.out) (all_oneCell_toArray HF.out.2.2.2.1) ?_))
  refine bodyPost_ret (results_cell_row rfl _ _ (b + 1) 40 _ (0, 0) _ rfl HF.out.2.2.2.2.2 Tryd.underlying40 rfl (by rw [List.size_toArray]; exact HJ.out)) rfl ?_
  exact HF.out.2.2.2.2.1
set_option maxHeartbeats 8000000 in
theorem cutN_1 (F : List Nat) (p : PK) (X : List Value) (w : World) (h : itemV w F (p, X)) (hf : p.fits) (q8 : p.votes.length ≤ 8) (q2 : ¬ p.bytes.length ≤ 200) :
    Calls Tryd.prog 34 #[.agg X.toArray] w (copyPostX p.cutL w) := by
  have HQ := Lib.hid (And.intro q8 q2)
  clear q8 q2
  obtain ⟨ev0, av0, cv0, vv0, bw0, hX, hv⟩ := h
  dsimp only at hX hv
  have hrn := hv.rn
  have han := hv.an
  have hXl : X.length = 87 := by rw [hX]; exact pkL_len hrn han
  obtain ⟨Z, hZl, hZ, hZb, hZi⟩ := zeroP
  have k1 := (keepBut.refl [] w).alloc (.cells X.toArray 40)
  have r1 := rowAt.new w 40 X.toArray
  have hs1 : (w.alloc (.cells X.toArray 40)).heap.size = w.heap.size + 1 := World.size_alloc _ _
  obtain ⟨w1, hw1⟩ : ∃ w1, w.alloc (.cells X.toArray 40) = w1 := ⟨_, rfl⟩
  rw [hw1] at k1 r1 hs1
  have k2 := (keepBut.refl [] w1).alloc (.cells Z.toArray 40)
  have r2 := rowAt.new w1 40 Z.toArray
  have r1' := k2.row r1 (by simp)
  obtain ⟨w2, hw2⟩ : ∃ w2, w1.alloc (.cells Z.toArray 40) = w2 := ⟨_, rfl⟩
  rw [hw2] at r1' r2 k2
  rw [hs1] at r2
  have k12 := k1.then k2 (by simp)
  obtain ⟨b, hb⟩ : ∃ b, w.heap.size = b := ⟨_, rfl⟩
  rw [hb] at r1' r2 hs1
  have HI := Lib.hid (show (Tryd.prog.info? 40).map (·.size) = some X.length by rw [hXl]; exact info_pk)
  have HW := Lib.hid (And.intro hw1 hw2)
  have HZ := Lib.hid (And.intro hZ (And.intro hZl hs1))
  have H2 := Lib.hid (And.intro r1' (And.intro r2 k12))
  have HCP := Lib.hid (copyD F p ev0 av0 cv0 vv0 bw0 w2 (hv.over k12) hf)
  rw [← hX] at HCP
  have HX := Lib.hid hXl
  have HN := Lib.hid (And.intro hrn (And.intro han hb))
  clear hw1 hw2 k1 r1 k2 r1' r2 k12 hXl hZl hZ hZb hZi hs1 hX hv
  go_enter Tryd.func34, Tryd.ntmps34
  go_upto_region 2 with (first
    | (with_reducible refine wpList_box_to _ _ rfl 40 (.tmp 0) rfl _ rfl HW.out.1 ?_; try simp only [hb])
    | (with_reducible refine wpList_alloc_to _ _ rfl 40 rfl _ HZ.out.1 HW.out.2 ?_; try simp only [HZ.out.2.2])
    | (refine wpList_load_mid rfl 40 (.tmp 1) rfl b 0 rfl X _ H2.out.1.rangeAll Tryd.underlying40 rfl HI.out ?_)
    | (go_at_call 47; refine HCP.out.mono ?_; rintro e w3 ⟨G, ev, av, cv, vv, bw, rfl, hv3, hn3, k3⟩; obtain ⟨X1, hX1⟩ : ∃ C, pkL p ev av cv vv bw = C := ⟨_, rfl⟩; rw [hX1]; have HX1 := Lib.hid (show X1.length = 87 ∧ ∀ u ∈ X1, u.oneCell' = true by rw [← hX1]; exact ⟨pkL_len hrn han, pkL_one hv3.re.one hv3.ae.one hv3.cc.one hv3.vs.one hv3.bs.one⟩); have H3 := Lib.hid (And.intro hv3 (And.intro hn3 (And.intro k3 hX1))); have HT3 := Lib.hid ((k3.row H2.out.1 (by simp)).there (o := 0) (n := X1.toArray.size) (by have := HX.out; have := HX1.out.1; simp only [List.size_toArray]; omega)); clear hv3 hn3 k3 hX1)
    | (refine wpList_store_mid rfl 40 (.tmp 1) (.tmp 4) rfl b 0 X1.toArray rfl rfl HT3.out (by rw [List.size_toArray, HX1.out.1]; exact info_pk) (all_oneCell_toArray HX1.out.2) ?_))
  have r4 := (H3.out.2.2.1.row H2.out.1 (by simp)).setL (vs := X1) (o := 0)
  rw [putL_all (by rw [List.size_toArray, HX1.out.1, HX.out])] at r4
  have kb : keepBut [b] w3 (w3.setCells b 0 X1) := (keepBut.refl _ _).setL (.inl (by simp))
  have hbw : w.heap.size ≤ b := by rw [HN.out.2.2]; exact Nat.le_refl _
  have rz := kb.row (H3.out.2.2.1.row H2.out.2.1 (by simp)) (by simp)
  have kw : keepBut [] w (w3.setCells b 0 X1) := (H2.out.2.2.then H3.out.2.2.1 (by simp)).then kb (fun x hx => .inr (by simp only [List.mem_singleton] at hx; omega))
  have hG : ∀ y ∈ G, b + 1 < y ∧ y < w3.heap.size := fun y hy => by have a := H3.out.2.1 y hy; have c := H2.out.2.1.lt; omega
  have hv4 : pkV (w3.setCells b 0 X1) G p ev av cv vv bw := H3.out.1.keep kb (fun y hy hm => by have a := hG y hy; simp only [List.mem_singleton] at hm; omega)
  have hs4 := kb.size
  generalize w3.setCells b 0 X1 = w4 at r4 kb rz kw hv4 hs4 ⊢
  rw [← H3.out.2.2.2] at r4
  obtain ⟨V, cV, gV, TV, rfl, _, hV1, _⟩ := id hv4.vs
  obtain ⟨B, cB, gB, rfl, _, hB1, _⟩ := id hv4.bs
  obtain ⟨n, hn⟩ : ∃ n, p.votes.length = n := ⟨_, rfl⟩
  obtain ⟨k, hk⟩ : ∃ n, p.bytes.length = n := ⟨_, rfl⟩
  have hvn := hv4.vs
  have hbn := hv4.bs
  have hnc : n ≤ cV := by rw [← hn]; assumption
  have hkc : k ≤ cB := by rw [← hk]; assumption
  rw [hn] at r4 hvn
  rw [hk] at r4 hbn
  have HL := Lib.hid (And.intro hn hk)
  have hn63 : n ≤ 9223372036854775807 := by unfold maxLen at hV1; omega
  have hk63 : k ≤ 9223372036854775807 := by unfold maxLen at hB1; omega
  have x85 := (r4.pk hrn han).d3
  have x86 := (r4.pk hrn han).d4
  have f85 := r4.free 85
  have f86 := r4.free 86
  have H4 := Lib.hid (And.intro r4 (And.intro rz (And.intro kw (And.intro hv4.re (And.intro hv4.ae (And.intro hv4.cc (And.intro hvn (And.intro hbn (And.intro hG hs4)))))))))
  clear r4 rz kw hv4 hvn hbn hG kb hbw hn hk hV1 hB1 hs4
  have fin : ∀ (k8 k2 : Nat) (W : World), p.votes.take 8 = p.votes.take k8 → k8 ≤ n → p.bytes.take 200 = p.bytes.take k2 → k2 ≤ k → W = (w4.setCell ⟨b, 85, none⟩ (.slice V k8 cV)).setCell ⟨b, 86, none⟩ (.slice B k2 cB) →
      ∃ Y, pkL p ev av cv (.slice V k8 cV) (.slice B k2 cB) = Y ∧ Y.length = 87 ∧ (∀ u ∈ Y, u.oneCell' = true) ∧ rowAt W b 40 Y.toArray ∧ rowAt W (b + 1) 40 Z.toArray ∧ copyPostX p.cutL w (.returned (.agg Y.toArray)) (W.setCells (b + 1) 0 Y) ∧ rowAt (W.setCells (b + 1) 0 Y) (b + 1) 40 Y.toArray := fun k8 k2 W h8 h8n h2 h2k hW => by
    have hn := HL.out.1
    have hk := HL.out.2
    have ks : keepBut [b] w4 W := by rw [hW]; exact ((keepBut.refl [b] w4).setCell ⟨b, 85, none⟩ _ (.inl (by simp))).setCell ⟨b, 86, none⟩ _ (.inl (by simp))
    have r5 : rowAt W b 40 (pkL p ev av cv (.slice V k8 cV) (.slice B k2 cB)).toArray := by
      have h1 := (H4.out.1.set 85 (.slice V k8 cV)).set 86 (.slice B k2 cB)
      rw [(pkL_setT hrn han (.slice V k8 cV)).2.2.2.1, (pkL_setT hrn han (.slice B k2 cB)).2.2.2.2] at h1
      rw [hW]; exact h1
    have rz := ks.row H4.out.2.1 (by simp)
    have hl : (pkL p ev av cv (.slice V k8 cV) (.slice B k2 cB)).length = 87 := pkL_len hrn han
    have kl : keepBut [b + 1] W (W.setCells (b + 1) 0 (pkL p ev av cv (.slice V k8 cV) (.slice B k2 cB))) := (keepBut.refl _ _).setL (.inl (by simp))
    have kk : keepBut [b, b + 1] w4 (W.setCells (b + 1) 0 (pkL p ev av cv (.slice V k8 cV) (.slice B k2 cB))) := (ks.more (by simp)).then (kl.more (by simp)) (fun x hx => .inl hx)
    have rr := rz.setL (vs := pkL p ev av cv (.slice V k8 cV) (.slice B k2 cB)) (o := 0)
    rw [putL_all (by rw [hl, List.size_toArray, HZ.out.2.1])] at rr
    have hG := H4.out.2.2.2.2.2.2.2.2.1
    have hs := H4.out.2.2.2.2.2.2.2.2.2
    have hb := HN.out.2.2
    have hGf : ∀ y ∈ G, y ∉ [b, b + 1] := fun y hy hm => by have a := hG y hy; simp only [List.mem_cons, List.not_mem_nil, or_false] at hm; omega
    refine ⟨_, rfl, hl, pkL_one H4.out.2.2.2.1.one H4.out.2.2.2.2.1.one H4.out.2.2.2.2.2.1.one rfl rfl, r5, rz, ⟨_, G, rfl, ⟨ev, av, cv, .slice V k8 cV, .slice B k2 cB, rfl, hrn, han, H4.out.2.2.2.1.keep kk hGf, H4.out.2.2.2.2.1.keep kk hGf, H4.out.2.2.2.2.2.1.keep kk hGf, ?_, ?_⟩, fun y hy => ⟨by have := hG y hy; omega, by have := hG y hy; have := kk.size; omega⟩, H4.out.2.2.1.then kk (fun x hx => .inr (by simp only [List.mem_cons, List.not_mem_nil, or_false] at hx; omega))⟩, rr⟩
    · show votesV _ G (.slice V k8 cV) (p.votes.take 8)
      rw [h8]
      exact (H4.out.2.2.2.2.2.2.1.cutTo k8 (by omega)).keep kk hGf
    · show bytesV _ G (.slice B k2 cB) (p.bytes.take 200)
      rw [h2]
      exact (H4.out.2.2.2.2.2.2.2.1.cutTo k2 (by omega)).keep kk hGf
  have FIN := Lib.hid fin
  clear fin
  have h8 : (n : Int) ≤ 8 := by have := HQ.out.1; have := HL.out.1; omega
  have h2 : ¬ (k : Int) ≤ 200 := by have := HQ.out.2; have := HL.out.2; omega
  go_upto_region 4 with fail
  obtain ⟨Y, hY, hYl, hYo, rY, rZ, hpost, rr⟩ := FIN.out (if n ≤ 8 then n else 8) (if k ≤ 200 then k else 200) _ (by split <;> first | rfl | (rw [List.take_of_length_le (by have := HL.out.1; omega), List.take_of_length_le (by have := HL.out.1; omega)])) (by split <;> omega) (by split <;> first | rfl | (rw [List.take_of_length_le (by have := HL.out.2; omega), List.take_of_length_le (by have := HL.out.2; omega)])) (by split <;> omega) rfl
  simp only [show (n ≤ 8) = ((n : Int) ≤ 8) from by simp; omega, show (k ≤ 200) = ((k : Int) ≤ 200) from by simp; omega, h8, h2, if_true, if_false] at rY rZ hpost rr hY
  have HF := Lib.hid (And.intro rY.rangeAll (And.intro (rZ.there (o := 0) (n := Y.toArray.size) (by have := HZ.out.2.1; simp only [List.size_toArray]; omega)) (And.intro hYl (And.intro hYo (And.intro hpost rr)))))
  have HJ := Lib.hid (show (Tryd.prog.info? 40).map (·.size) = some Y.length by rw [hYl]; exact info_pk)
  clear rY rZ hpost rr hY hYl hYo x85 x86 f85 f86 FIN
  clear hn63 hk63 h8 h2 hnc hkc hb hrn han
  obtain ⟨W6, hW6⟩ : ∃ W, (w4.setCell ⟨b, 85, none⟩ (.slice V n cV)).setCell ⟨b, 86, none⟩ (.slice B 200 cB) = W := ⟨_, rfl⟩
  rw [hW6] at HF ⊢
  clear hW6
  go_wp2_with (first
    | (refine wpList_load_mid rfl 40 (.tmp 1) rfl b 0 rfl Y _ HF.out.1 Tryd.underlying40 rfl HJ.out ?_)
    | (refine wpList_store_mid rfl 40 (.tmp 2) (.tmp 21) rfl (b + 1) 0 Y.toArray rfl rfl HF.out.2.1 (by rw [List.size_toArray]; exact HJ.out) (all_oneCell_toArray HF.out.2.2.2.1) ?_))
  refine bodyPost_ret (results_cell_row rfl _ _ (b + 1) 40 _ (0, 0) _ rfl HF.out.2.2.2.2.2 Tryd.underlying40 rfl (by rw [List.size_toArray]; exact HJ.out)) rfl ?_
  exact HF.out.2.2.2.2.1
set_option maxHeartbeats 8000000 in
theorem cutN_2 (F : List Nat) (p : PK) (X : List Value) (w : World) (h : itemV w F (p, X)) (hf : p.fits) (q8 : ¬ p.votes.length ≤ 8) (q2 : p.bytes.length ≤ 200) :
    Calls Tryd.prog 34 #[.agg X.toArray] w (copyPostX p.cutL w) := by
  have HQ := Lib.hid (And.intro q8 q2)
  clear q8 q2
  obtain ⟨ev0, av0, cv0, vv0, bw0, hX, hv⟩ := h
  dsimp only at hX hv
  have hrn := hv.rn
  have han := hv.an
  have hXl : X.length = 87 := by rw [hX]; exact pkL_len hrn han
  obtain ⟨Z, hZl, hZ, hZb, hZi⟩ := zeroP
  have k1 := (keepBut.refl [] w).alloc (.cells X.toArray 40)
  have r1 := rowAt.new w 40 X.toArray
  have hs1 : (w.alloc (.cells X.toArray 40)).heap.size = w.heap.size + 1 := World.size_alloc _ _
  obtain ⟨w1, hw1⟩ : ∃ w1, w.alloc (.cells X.toArray 40) = w1 := ⟨_, rfl⟩
  rw [hw1] at k1 r1 hs1
  have k2 := (keepBut.refl [] w1).alloc (.cells Z.toArray 40)
  have r2 := rowAt.new w1 40 Z.toArray
  have r1' := k2.row r1 (by simp)
  obtain ⟨w2, hw2⟩ : ∃ w2, w1.alloc (.cells Z.toArray 40) = w2 := ⟨_, rfl⟩
  rw [hw2] at r1' r2 k2
  rw [hs1] at r2
  have k12 := k1.then k2 (by simp)
  obtain ⟨b, hb⟩ : ∃ b, w.heap.size = b := ⟨_, rfl⟩
  rw [hb] at r1' r2 hs1
  have HI := Lib.hid (show (Tryd.prog.info? 40).map (·.size) = some X.length by rw [hXl]; exact info_pk)
  have HW := Lib.hid (And.intro hw1 hw2)
  have HZ := Lib.hid (And.intro hZ (And.intro hZl hs1))
  have H2 := Lib.hid (And.intro r1' (And.intro r2 k12))
  have HCP := Lib.hid (copyD F p ev0 av0 cv0 vv0 bw0 w2 (hv.over k12) hf)
  rw [← hX] at HCP
  have HX := Lib.hid hXl
  have HN := Lib.hid (And.intro hrn (And.intro han hb))
  clear hw1 hw2 k1 r1 k2 r1' r2 k12 hXl hZl hZ hZb hZi hs1 hX hv
  go_enter Tryd.func34, Tryd.ntmps34
  go_upto_region 2 with (first
    | (with_reducible refine wpList_box_to _ _ rfl 40 (.tmp 0) rfl _ rfl HW.out.1 ?_; try simp only [hb])
    | (with_reducible refine wpList_alloc_to _ _ rfl 40 rfl _ HZ.out.1 HW.out.2 ?_; try simp only [HZ.out.2.2])
    | (refine wpList_load_mid rfl 40 (.tmp 1) rfl b 0 rfl X _ H2.out.1.rangeAll Tryd.underlying40 rfl HI.out ?_)
    | (go_at_call 47; refine HCP.out.mono ?_; rintro e w3 ⟨G, ev, av, cv, vv, bw, rfl, hv3, hn3, k3⟩; obtain ⟨X1, hX1⟩ : ∃ C, pkL p ev av cv vv bw = C := ⟨_, rfl⟩; rw [hX1]; have HX1 := Lib.hid (show X1.length = 87 ∧ ∀ u ∈ X1, u.oneCell' = true by rw [← hX1]; exact ⟨pkL_len hrn han, pkL_one hv3.re.one hv3.ae.one hv3.cc.one hv3.vs.one hv3.bs.one⟩); have H3 := Lib.hid (And.intro hv3 (And.intro hn3 (And.intro k3 hX1))); have HT3 := Lib.hid ((k3.row H2.out.1 (by simp)).there (o := 0) (n := X1.toArray.size) (by have := HX.out; have := HX1.out.1; simp only [List.size_toArray]; omega)); clear hv3 hn3 k3 hX1)
    | (refine wpList_store_mid rfl 40 (.tmp 1) (.tmp 4) rfl b 0 X1.toArray rfl rfl HT3.out (by rw [List.size_toArray, HX1.out.1]; exact info_pk) (all_oneCell_toArray HX1.out.2) ?_))
  have r4 := (H3.out.2.2.1.row H2.out.1 (by simp)).setL (vs := X1) (o := 0)
  rw [putL_all (by rw [List.size_toArray, HX1.out.1, HX.out])] at r4
  have kb : keepBut [b] w3 (w3.setCells b 0 X1) := (keepBut.refl _ _).setL (.inl (by simp))
  have hbw : w.heap.size ≤ b := by rw [HN.out.2.2]; exact Nat.le_refl _
  have rz := kb.row (H3.out.2.2.1.row H2.out.2.1 (by simp)) (by simp)
  have kw : keepBut [] w (w3.setCells b 0 X1) := (H2.out.2.2.then H3.out.2.2.1 (by simp)).then kb (fun x hx => .inr (by simp only [List.mem_singleton] at hx; omega))
  have hG : ∀ y ∈ G, b + 1 < y ∧ y < w3.heap.size := fun y hy => by have a := H3.out.2.1 y hy; have c := H2.out.2.1.lt; omega
  have hv4 : pkV (w3.setCells b 0 X1) G p ev av cv vv bw := H3.out.1.keep kb (fun y hy hm => by have a := hG y hy; simp only [List.mem_singleton] at hm; omega)
  have hs4 := kb.size
  generalize w3.setCells b 0 X1 = w4 at r4 kb rz kw hv4 hs4 ⊢
  rw [← H3.out.2.2.2] at r4
  obtain ⟨V, cV, gV, TV, rfl, _, hV1, _⟩ := id hv4.vs
  obtain ⟨B, cB, gB, rfl, _, hB1, _⟩ := id hv4.bs
  obtain ⟨n, hn⟩ : ∃ n, p.votes.length = n := ⟨_, rfl⟩
  obtain ⟨k, hk⟩ : ∃ n, p.bytes.length = n := ⟨_, rfl⟩
  have hvn := hv4.vs
  have hbn := hv4.bs
  have hnc : n ≤ cV := by rw [← hn]; assumption
  have hkc : k ≤ cB := by rw [← hk]; assumption
  rw [hn] at r4 hvn
  rw [hk] at r4 hbn
  have HL := Lib.hid (And.intro hn hk)
  have hn63 : n ≤ 9223372036854775807 := by unfold maxLen at hV1; omega
  have hk63 : k ≤ 9223372036854775807 := by unfold maxLen at hB1; omega
  have x85 := (r4.pk hrn han).d3
  have x86 := (r4.pk hrn han).d4
  have f85 := r4.free 85
  have f86 := r4.free 86
  have H4 := Lib.hid (And.intro r4 (And.intro rz (And.intro kw (And.intro hv4.re (And.intro hv4.ae (And.intro hv4.cc (And.intro hvn (And.intro hbn (And.intro hG hs4)))))))))
  clear r4 rz kw hv4 hvn hbn hG kb hbw hn hk hV1 hB1 hs4
  have fin : ∀ (k8 k2 : Nat) (W : World), p.votes.take 8 = p.votes.take k8 → k8 ≤ n → p.bytes.take 200 = p.bytes.take k2 → k2 ≤ k → W = (w4.setCell ⟨b, 85, none⟩ (.slice V k8 cV)).setCell ⟨b, 86, none⟩ (.slice B k2 cB) →
      ∃ Y, pkL p ev av cv (.slice V k8 cV) (.slice B k2 cB) = Y ∧ Y.length = 87 ∧ (∀ u ∈ Y, u.oneCell' = true) ∧ rowAt W b 40 Y.toArray ∧ rowAt W (b + 1) 40 Z.toArray ∧ copyPostX p.cutL w (.returned (.agg Y.toArray)) (W.setCells (b + 1) 0 Y) ∧ rowAt (W.setCells (b + 1) 0 Y) (b + 1) 40 Y.toArray := fun k8 k2 W h8 h8n h2 h2k hW => by
    have hn := HL.out.1
    have hk := HL.out.2
    have ks : keepBut [b] w4 W := by rw [hW]; exact ((keepBut.refl [b] w4).setCell ⟨b, 85, none⟩ _ (.inl (by simp))).setCell ⟨b, 86, none⟩ _ (.inl (by simp))
    have r5 : rowAt W b 40 (pkL p ev av cv (.slice V k8 cV) (.slice B k2 cB)).toArray := by
      have h1 := (H4.out.1.set 85 (.slice V k8 cV)).set 86 (.slice B k2 cB)
      rw [(pkL_setT hrn han (.slice V k8 cV)).2.2.2.1, (pkL_setT hrn han (.slice B k2 cB)).2.2.2.2] at h1
      rw [hW]; exact h1
    have rz := ks.row H4.out.2.1 (by simp)
    have hl : (pkL p ev av cv (.slice V k8 cV) (.slice B k2 cB)).length = 87 := pkL_len hrn han
    have kl : keepBut [b + 1] W (W.setCells (b + 1) 0 (pkL p ev av cv (.slice V k8 cV) (.slice B k2 cB))) := (keepBut.refl _ _).setL (.inl (by simp))
    have kk : keepBut [b, b + 1] w4 (W.setCells (b + 1) 0 (pkL p ev av cv (.slice V k8 cV) (.slice B k2 cB))) := (ks.more (by simp)).then (kl.more (by simp)) (fun x hx => .inl hx)
    have rr := rz.setL (vs := pkL p ev av cv (.slice V k8 cV) (.slice B k2 cB)) (o := 0)
    rw [putL_all (by rw [hl, List.size_toArray, HZ.out.2.1])] at rr
    have hG := H4.out.2.2.2.2.2.2.2.2.1
    have hs := H4.out.2.2.2.2.2.2.2.2.2
    have hb := HN.out.2.2
    have hGf : ∀ y ∈ G, y ∉ [b, b + 1] := fun y hy hm => by have a := hG y hy; simp only [List.mem_cons, List.not_mem_nil, or_false] at hm; omega
    refine ⟨_, rfl, hl, pkL_one H4.out.2.2.2.1.one H4.out.2.2.2.2.1.one H4.out.2.2.2.2.2.1.one rfl rfl, r5, rz, ⟨_, G, rfl, ⟨ev, av, cv, .slice V k8 cV, .slice B k2 cB, rfl, hrn, han, H4.out.2.2.2.1.keep kk hGf, H4.out.2.2.2.2.1.keep kk hGf, H4.out.2.2.2.2.2.1.keep kk hGf, ?_, ?_⟩, fun y hy => ⟨by have := hG y hy; omega, by have := hG y hy; have := kk.size; omega⟩, H4.out.2.2.1.then kk (fun x hx => .inr (by simp only [List.mem_cons, List.not_mem_nil, or_false] at hx; omega))⟩, rr⟩
    · show votesV _ G (.slice V k8 cV) (p.votes.take 8)
      rw [h8]
      exact (H4.out.2.2.2.2.2.2.1.cutTo k8 (by omega)).keep kk hGf
    · show bytesV _ G (.slice B k2 cB) (p.bytes.take 200)
      rw [h2]
      exact (H4.out.2.2.2.2.2.2.2.1.cutTo k2 (by omega)).keep kk hGf
  have FIN := Lib.hid fin
  clear fin
  have h8 : ¬ (n : Int) ≤ 8 := by have := HQ.out.1; have := HL.out.1; omega
  have h2 : (k : Int) ≤ 200 := by have := HQ.out.2; have := HL.out.2; omega
  go_upto_region 4 with fail
  obtain ⟨Y, hY, hYl, hYo, rY, rZ, hpost, rr⟩ := FIN.out (if n ≤ 8 then n else 8) (if k ≤ 200 then k else 200) _ (by split <;> first | rfl | (rw [List.take_of_length_le (by have := HL.out.1; omega), List.take_of_length_le (by have := HL.out.1; omega)])) (by split <;> omega) (by split <;> first | rfl | (rw [List.take_of_length_le (by have := HL.out.2; omega), List.take_of_length_le (by have := HL.out.2; omega)])) (by split <;> omega) rfl
  simp only [show (n ≤ 8) = ((n : Int) ≤ 8) from by simp; omega, show (k ≤ 200) = ((k : Int) ≤ 200) from by simp; omega, h8, h2, if_true, if_false] at rY rZ hpost rr hY
  have HF := Lib.hid (And.intro rY.rangeAll (And.intro (rZ.there (o := 0) (n := Y.toArray.size) (by have := HZ.out.2.1; simp only [List.size_toArray]; omega)) (And.intro hYl (And.intro hYo (And.intro hpost rr)))))
  have HJ := Lib.hid (show (Tryd.prog.info? 40).map (·.size) = some Y.length by rw [hYl]; exact info_pk)
  clear rY rZ hpost rr hY hYl hYo x85 x86 f85 f86 FIN
  clear hn63 hk63 h8 h2 hnc hkc hb hrn han
  obtain ⟨W6, hW6⟩ : ∃ W, (w4.setCell ⟨b, 85, none⟩ (.slice V 8 cV)).setCell ⟨b, 86, none⟩ (.slice B k cB) = W := ⟨_, rfl⟩
  rw [hW6] at HF ⊢
  clear hW6
  go_wp2_with (first
    | (refine wpList_load_mid rfl 40 (.tmp 1) rfl b 0 rfl Y _ HF.out.1 Tryd.underlying40 rfl HJ.out ?_)
    | (refine wpList_store_mid rfl 40 (.tmp 2) (.tmp 21) rfl (b + 1) 0 Y.toArray rfl rfl HF.out.2.1 (by rw [List.size_toArray]; exact HJ.out) (all_oneCell_toArray HF.out.2.2.2.1) ?_))
  refine bodyPost_ret (results_cell_row rfl _ _ (b + 1) 40 _ (0, 0) _ rfl HF.out.2.2.2.2.2 Tryd.underlying40 rfl (by rw [List.size_toArray]; exact HJ.out)) rfl ?_
  exact HF.out.2.2.2.2.1
set_option maxHeartbeats 8000000 in
theorem cutN_3 (F : List Nat) (p : PK) (X : List Value) (w : World) (h : itemV w F (p, X)) (hf : p.fits) (q8 : ¬ p.votes.length ≤ 8) (q2 : ¬ p.bytes.length ≤ 200) :
    Calls Tryd.prog 34 #[.agg X.toArray] w (copyPostX p.cutL w) := by
  have HQ := Lib.hid (And.intro q8 q2)
  clear q8 q2
  obtain ⟨ev0, av0, cv0, vv0, bw0, hX, hv⟩ := h
  dsimp only at hX hv
  have hrn := hv.rn
  have han := hv.an
  have hXl : X.length = 87 := by rw [hX]; exact pkL_len hrn han
  obtain ⟨Z, hZl, hZ, hZb, hZi⟩ := zeroP
  have k1 := (keepBut.refl [] w).alloc (.cells X.toArray 40)
  have r1 := rowAt.new w 40 X.toArray
  have hs1 : (w.alloc (.cells X.toArray 40)).heap.size = w.heap.size + 1 := World.size_alloc _ _
  obtain ⟨w1, hw1⟩ : ∃ w1, w.alloc (.cells X.toArray 40) = w1 := ⟨_, rfl⟩
  rw [hw1] at k1 r1 hs1
  have k2 := (keepBut.refl [] w1).alloc (.cells Z.toArray 40)
  have r2 := rowAt.new w1 40 Z.toArray
  have r1' := k2.row r1 (by simp)
  obtain ⟨w2, hw2⟩ : ∃ w2, w1.alloc (.cells Z.toArray 40) = w2 := ⟨_, rfl⟩
  rw [hw2] at r1' r2 k2
  rw [hs1] at r2
  have k12 := k1.then k2 (by simp)
  obtain ⟨b, hb⟩ : ∃ b, w.heap.size = b := ⟨_, rfl⟩
  rw [hb] at r1' r2 hs1
  have HI := Lib.hid (show (Tryd.prog.info? 40).map (·.size) = some X.length by rw [hXl]; exact info_pk)
  have HW := Lib.hid (And.intro hw1 hw2)
  have HZ := Lib.hid (And.intro hZ (And.intro hZl hs1))
  have H2 := Lib.hid (And.intro r1' (And.intro r2 k12))
  have HCP := Lib.hid (copyD F p ev0 av0 cv0 vv0 bw0 w2 (hv.over k12) hf)
  rw [← hX] at HCP
  have HX := Lib.hid hXl
  have HN := Lib.hid (And.intro hrn (And.intro han hb))
  clear hw1 hw2 k1 r1 k2 r1' r2 k12 hXl hZl hZ hZb hZi hs1 hX hv
  go_enter Tryd.func34, Tryd.ntmps34
  go_upto_region 2 with (first
    | (with_reducible refine wpList_box_to _ _ rfl 40 (.tmp 0) rfl _ rfl HW.out.1 ?_; try simp only [hb])
    | (with_reducible refine wpList_alloc_to _ _ rfl 40 rfl _ HZ.out.1 HW.out.2 ?_; try simp only [HZ.out.2.2])
    | (refine wpList_load_mid rfl 40 (.tmp 1) rfl b 0 rfl X _ H2.out.1.rangeAll Tryd.underlying40 rfl HI.out ?_)
    | (go_at_call 47; refine HCP.out.mono ?_; rintro e w3 ⟨G, ev, av, cv, vv, bw, rfl, hv3, hn3, k3⟩; obtain ⟨X1, hX1⟩ : ∃ C, pkL p ev av cv vv bw = C := ⟨_, rfl⟩; rw [hX1]; have HX1 := Lib.hid (show X1.length = 87 ∧ ∀ u ∈ X1, u.oneCell' = true by rw [← hX1]; exact ⟨pkL_len hrn han, pkL_one hv3.re.one hv3.ae.one hv3.cc.one hv3.vs.one hv3.bs.one⟩); have H3 := Lib.hid (And.intro hv3 (And.intro hn3 (And.intro k3 hX1))); have HT3 := Lib.hid ((k3.row H2.out.1 (by simp)).there (o := 0) (n := X1.toArray.size) (by have := HX.out; have := HX1.out.1; simp only [List.size_toArray]; omega)); clear hv3 hn3 k3 hX1)
    | (refine wpList_store_mid rfl 40 (.tmp 1) (.tmp 4) rfl b 0 X1.toArray rfl rfl HT3.out (by rw [List.size_toArray, HX1.out.1]; exact info_pk) (all_oneCell_toArray HX1.out.2) ?_))
  have r4 := (H3.out.2.2.1.row H2.out.1 (by simp)).setL (vs := X1) (o := 0)
  rw [putL_all (by rw [List.size_toArray, HX1.out.1, HX.out])] at r4
  have kb : keepBut [b] w3 (w3.setCells b 0 X1) := (keepBut.refl _ _).setL (.inl (by simp))
  have hbw : w.heap.size ≤ b := by rw [HN.out.2.2]; exact Nat.le_refl _
  have rz := kb.row (H3.out.2.2.1.row H2.out.2.1 (by simp)) (by simp)
  have kw : keepBut [] w (w3.setCells b 0 X1) := (H2.out.2.2.then H3.out.2.2.1 (by simp)).then kb (fun x hx => .inr (by simp only [List.mem_singleton] at hx; omega))
  have hG : ∀ y ∈ G, b + 1 < y ∧ y < w3.heap.size := fun y hy => by have a := H3.out.2.1 y hy; have c := H2.out.2.1.lt; omega
  have hv4 : pkV (w3.setCells b 0 X1) G p ev av cv vv bw := H3.out.1.keep kb (fun y hy hm => by have a := hG y hy; simp only [List.mem_singleton] at hm; omega)
  have hs4 := kb.size
  generalize w3.setCells b 0 X1 = w4 at r4 kb rz kw hv4 hs4 ⊢
  rw [← H3.out.2.2.2] at r4
  obtain ⟨V, cV, gV, TV, rfl, _, hV1, _⟩ := id hv4.vs
  obtain ⟨B, cB, gB, rfl, _, hB1, _⟩ := id hv4.bs
  obtain ⟨n, hn⟩ : ∃ n, p.votes.length = n := ⟨_, rfl⟩
  obtain ⟨k, hk⟩ : ∃ n, p.bytes.length = n := ⟨_, rfl⟩
  have hvn := hv4.vs
  have hbn := hv4.bs
  have hnc : n ≤ cV := by rw [← hn]; assumption
  have hkc : k ≤ cB := by rw [← hk]; assumption
  rw [hn] at r4 hvn
  rw [hk] at r4 hbn
  have HL := Lib.hid (And.intro hn hk)
  have hn63 : n ≤ 9223372036854775807 := by unfold maxLen at hV1; omega
  have hk63 : k ≤ 9223372036854775807 := by unfold maxLen at hB1; omega
  have x85 := (r4.pk hrn han).d3
  have x86 := (r4.pk hrn han).d4
  have f85 := r4.free 85
  have f86 := r4.free 86
  have H4 := Lib.hid (And.intro r4 (And.intro rz (And.intro kw (And.intro hv4.re (And.intro hv4.ae (And.intro hv4.cc (And.intro hvn (And.intro hbn (And.intro hG hs4)))))))))
  clear r4 rz kw hv4 hvn hbn hG kb hbw hn hk hV1 hB1 hs4
  have fin : ∀ (k8 k2 : Nat) (W : World), p.votes.take 8 = p.votes.take k8 → k8 ≤ n → p.bytes.take 200 = p.bytes.take k2 → k2 ≤ k → W = (w4.setCell ⟨b, 85, none⟩ (.slice V k8 cV)).setCell ⟨b, 86, none⟩ (.slice B k2 cB) →
      ∃ Y, pkL p ev av cv (.slice V k8 cV) (.slice B k2 cB) = Y ∧ Y.length = 87 ∧ (∀ u ∈ Y, u.oneCell' = true) ∧ rowAt W b 40 Y.toArray ∧ rowAt W (b + 1) 40 Z.toArray ∧ copyPostX p.cutL w (.returned (.agg Y.toArray)) (W.setCells (b + 1) 0 Y) ∧ rowAt (W.setCells (b + 1) 0 Y) (b + 1) 40 Y.toArray := fun k8 k2 W h8 h8n h2 h2k hW => by
    have hn := HL.out.1
    have hk := HL.out.2
    have ks : keepBut [b] w4 W := by rw [hW]; exact ((keepBut.refl [b] w4).setCell ⟨b, 85, none⟩ _ (.inl (by simp))).setCell ⟨b, 86, none⟩ _ (.inl (by simp))
    have r5 : rowAt W b 40 (pkL p ev av cv (.slice V k8 cV) (.slice B k2 cB)).toArray := by
      have h1 := (H4.out.1.set 85 (.slice V k8 cV)).set 86 (.slice B k2 cB)
      rw [(pkL_setT hrn han (.slice V k8 cV)).2.2.2.1, (pkL_setT hrn han (.slice B k2 cB)).2.2.2.2] at h1
      rw [hW]; exact h1
    have rz := ks.row H4.out.2.1 (by simp)
    have hl : (pkL p ev av cv (.slice V k8 cV) (.slice B k2 cB)).length = 87 := pkL_len hrn han
    have kl : keepBut [b + 1] W (W.setCells (b + 1) 0 (pkL p ev av cv (.slice V k8 cV) (.slice B k2 cB))) := (keepBut.refl _ _).setL (.inl (by simp))
    have kk : keepBut [b, b + 1] w4 (W.setCells (b + 1) 0 (pkL p ev av cv (.slice V k8 cV) (.slice B k2 cB))) := (ks.more (by simp)).then (kl.more (by simp)) (fun x hx => .inl hx)
    have rr := rz.setL (vs := pkL p ev av cv (.slice V k8 cV) (.slice B k2 cB)) (o := 0)
    rw [putL_all (by rw [hl, List.size_toArray, HZ.out.2.1])] at rr
    have hG := H4.out.2.2.2.2.2.2.2.2.1
    have hs := H4.out.2.2.2.2.2.2.2.2.2
    have hb := HN.out.2.2
    have hGf : ∀ y ∈ G, y ∉ [b, b + 1] := fun y hy hm => by have a := hG y hy; simp only [List.mem_cons, List.not_mem_nil, or_false] at hm; omega
    refine ⟨_, rfl, hl, pkL_one H4.out.2.2.2.1.one H4.out.2.2.2.2.1.one H4.out.2.2.2.2.2.1.one rfl rfl, r5, rz, ⟨_, G, rfl, ⟨ev, av, cv, .slice V k8 cV, .slice B k2 cB, rfl, hrn, han, H4.out.2.2.2.1.keep kk hGf, H4.out.2.2.2.2.1.keep kk hGf, H4.out.2.2.2.2.2.1.keep kk hGf, ?_, ?_⟩, fun y hy => ⟨by have := hG y hy; omega, by have := hG y hy; have := kk.size; omega⟩, H4.out.2.2.1.then kk (fun x hx => .inr (by simp only [List.mem_cons, List.not_mem_nil, or_false] at hx; omega))⟩, rr⟩
    · show votesV _ G (.slice V k8 cV) (p.votes.take 8)
      rw [h8]
      exact (H4.out.2.2.2.2.2.2.1.cutTo k8 (by omega)).keep kk hGf
    · show bytesV _ G (.slice B k2 cB) (p.bytes.take 200)
      rw [h2]
      exact (H4.out.2.2.2.2.2.2.2.1.cutTo k2 (by omega)).keep kk hGf
  have FIN := Lib.hid fin
  clear fin
  have h8 : ¬ (n : Int) ≤ 8 := by have := HQ.out.1; have := HL.out.1; omega
  have h2 : ¬ (k : Int) ≤ 200 := by have := HQ.out.2; have := HL.out.2; omega
  go_upto_region 4 with fail
  obtain ⟨Y, hY, hYl, hYo, rY, rZ, hpost, rr⟩ := FIN.out (if n ≤ 8 then n else 8) (if k ≤ 200 then k else 200) _ (by split <;> first | rfl | (rw [List.take_of_length_le (by have := HL.out.1; omega), List.take_of_length_le (by have := HL.out.1; omega)])) (by split <;> omega) (by split <;> first | rfl | (rw [List.take_of_length_le (by have := HL.out.2; omega), List.take_of_length_le (by have := HL.out.2; omega)])) (by split <;> omega) rfl
  simp only [show (n ≤ 8) = ((n : Int) ≤ 8) from by simp; omega, show (k ≤ 200) = ((k : Int) ≤ 200) from by simp; omega, h8, h2, if_true, if_false] at rY rZ hpost rr hY
  have HF := Lib.hid (And.intro rY.rangeAll (And.intro (rZ.there (o := 0) (n := Y.toArray.size) (by have := HZ.out.2.1; simp only [List.size_toArray]; omega)) (And.intro hYl (And.intro hYo (And.intro hpost rr)))))
  have HJ := Lib.hid (show (Tryd.prog.info? 40).map (·.size) = some Y.length by rw [hYl]; exact info_pk)
  clear rY rZ hpost rr hY hYl hYo x85 x86 f85 f86 FIN
  clear hn63 hk63 h8 h2 hnc hkc hb hrn han
  obtain ⟨W6, hW6⟩ : ∃ W, (w4.setCell ⟨b, 85, none⟩ (.slice V 8 cV)).setCell ⟨b, 86, none⟩ (.slice B 200 cB) = W := ⟨_, rfl⟩
  rw [hW6] at HF ⊢
  clear hW6
  go_wp2_with (first
    | (refine wpList_load_mid rfl 40 (.tmp 1) rfl b 0 rfl Y _ HF.out.1 Tryd.underlying40 rfl HJ.out ?_)
    | (refine wpList_store_mid rfl 40 (.tmp 2) (.tmp 21) rfl (b + 1) 0 Y.toArray rfl rfl HF.out.2.1 (by rw [List.size_toArray]; exact HJ.out) (all_oneCell_toArray HF.out.2.2.2.1) ?_))
  refine bodyPost_ret (results_cell_row rfl _ _ (b + 1) 40 _ (0, 0) _ rfl HF.out.2.2.2.2.2 Tryd.underlying40 rfl (by rw [List.size_toArray]; exact HJ.out)) rfl ?_
  exact HF.out.2.2.2.2.1
theorem cutN_any (F : List Nat) (p : PK) (X : List Value) (w : World) (h : itemV w F (p, X)) (hf : p.fits) :
    Calls Tryd.prog 34 #[.agg X.toArray] w (copyPostX p.cutL w) := by
  by_cases q8 : p.votes.length ≤ 8
  · by_cases q2 : p.bytes.length ≤ 200
    · exact cutN_0 F p X w h hf q8 q2
    · exact cutN_1 F p X w h hf q8 q2
  · by_cases q2 : p.bytes.length ≤ 200
    · exact cutN_2 F p X w h hf q8 q2
    · exact cutN_3 F p X w h hf q8 q2
end Go.Proofs.YtcnlnkkdcofphaaDoor
end

section
namespace Go.Proofs.YtcnlnkkdcofphaaDoor
open Go.RowKit
set_option linter.unusedVariables false
set_option maxRecDepth 100000
set_option linter.unusedSimpArgs false

def netsPost (w0 : World) (p m : Nat) (L : List PK) (c : Nat) (e : Ending) (w' : World) : Prop :=
  ∃ L' c', e = .returned (.bool true) ∧ nets [] w0 w' p m L' c' ∧ L'.length ≤ L.length + 1 ∧ c' ≤ c + 1
/-- which packet is meant -/
def ND.at (d : ND) (n : Nat) : Int := if d.raw then d.n else d.n % ((n : Int) + 1)
set_option maxHeartbeats 16000000 in
theorem step_drop_no {w0 w : World} {p m : Nat} {L : List PK} {c : Nat} (h : nets [] w0 w p m L c) (hL : L.length ≤ 200) (hc : c ≤ 200) (hfl : fieldsAt w0) {F : List Nat} {d : ND} {X : List Value} (hd : ndV w0 F d X) (hF : ∀ y ∈ F, y < w0.heap.size) (hk : d.kind % 8 = 5) (hr : ¬ (0 ≤ d.at L.length ∧ d.at L.length < L.length)) :
    Calls Tryd.prog 10 #[.pointer (some ⟨p, 0, none⟩), .pointer (some ⟨m, 0, none⟩), .agg (ndL d X).toArray] w (netsPost w0 p m L c) := by
  obtain ⟨vN, TN, FN, vM, TM, FM, hb, hlN, hlM⟩ := h.is
  have hok := h.ok
  have hX87 : X.length = 87 := hd.v.len
  have hYl : (ndL d X).length = 90 := ndL_len hX87
  have x0 : (ndL d X).toArray[0]? = some (.int .i64 d.kind) := rfl
  have x1 : (ndL d X).toArray[1]? = some (.int .i64 d.n) := rfl
  have x2 : (ndL d X).toArray[2]? = some (.bool d.raw) := rfl
  have xr : ∀ j v, X[j]? = some v → (ndL d X).toArray[3 + j]? = some v := fun j v hv => by
    rw [List.getElem?_toArray, ndL, show 3 + j = j + 1 + 1 + 1 by omega]; simpa using hv
  obtain ⟨Y, hY⟩ : ∃ Y, ndL d X = Y := ⟨_, rfl⟩
  rw [hY] at x0 x1 x2 xr hYl ⊢
  have k1 := (keepBut.refl [] w).alloc (.cells Y.toArray 42)
  have r1 := rowAt.new w 42 Y.toArray
  obtain ⟨w1, hw1⟩ : ∃ w1, w.alloc (.cells Y.toArray 42) = w1 := ⟨_, rfl⟩
  rw [hw1] at k1 r1
  obtain ⟨b, hbb⟩ : ∃ b, w.heap.size = b := ⟨_, rfl⟩
  rw [hbb] at r1
  have y0 : w1.cell? ⟨b, 0, none⟩ = some (.int .i64 d.kind) := (r1.cell 0).trans x0
  have y1 : w1.cell? ⟨b, 1, none⟩ = some (.int .i64 d.n) := (r1.cell 1).trans x1
  have y2 : w1.cell? ⟨b, 2, none⟩ = some (.bool d.raw) := (r1.cell 2).trans x2
  obtain ⟨raw, hraw⟩ : ∃ r, d.raw = r := ⟨_, rfl⟩
  rw [hraw] at y2
  obtain ⟨n, hn⟩ : ∃ n, L.length = n := ⟨_, rfl⟩
  obtain ⟨AM, kM, rfl, _⟩ := hb.r.form
  have z0 : w1.cell? ⟨m, 0, none⟩ = some (.slice AM TM.length kM) := (hb.over k1).r.row.cell 0
  have hTM : TM.length = n := by rw [map_len hlM, hn]
  have hTN : TN.length = n := by rw [map_len hlN, hn]
  rw [hTM] at z0
  obtain ⟨I, hI⟩ : ∃ I, d.at n = I := ⟨_, rfl⟩
  have HI := Lib.hid (show I = if raw then d.n else d.n % ((n : Int) + 1) by rw [← hI, ← hraw]; rfl)
  have HBK := Lib.hid (fun W => bring_any d.kind 8 hd.k.1 hd.k.2 (by decide) (by decide) W)
  rw [hk] at HBK
  have HB := Lib.hid (And.intro (hb.over k1) (And.intro hlN (And.intro hlM (And.intro hok (And.intro hTN (And.intro hTM (And.intro hL (And.intro hc hn))))))))
  have HW := Lib.hid hw1
  have HD := Lib.hid (And.intro hd (And.intro hF (And.intro r1 (And.intro k1 (And.intro hYl (And.intro xr hfl))))))
  have HR := Lib.hid (show ¬ (0 ≤ I ∧ I < (n : Int)) by rw [hn, hI] at hr; exact hr)
  clear hr
  have hn200 : n ≤ 200 := by omega
  have hdn := hd.i
  unfold i64P at hdn
  clear h hb hlN hlM hok hX87 hY x0 x1 x2 xr k1 r1 hw1 hraw hn hTM hTN hI hd hF hYl hL hc hfl hk
  have hsum : IntKind.i64.wrap ((n : Int) + 1) = (n : Int) + 1 := by rw [IntKind.wrap_i64]; omega
  go_enter Tryd.func10, Tryd.ntmps10
  go_upto_if 26 with (with_reducible refine wpList_box_to _ _ rfl 42 (.tmp 2) rfl _ rfl HW.out ?_; try simp only [hbb])
  go_cut [7] (fun v7 wx => v7 = .int .i64 I ∧ keepBut [] w1 wx)
  case first =>
    cases raw with
    | true =>
      go_wp2_with fail
      go_meet
      case rel => exact ⟨by rw [HI.out]; rfl, keepBut.refl _ _⟩
    | false =>
      go_upto_region 3 with fail
      go_quiet ((go_at_call 13; (with_reducible refine (bring_any d.n ((n : Int) + 1) hdn.1 hdn.2 (by omega) (by omega) _).mono ?_); rintro e w' ⟨rfl, rfl⟩; exact ⟨rfl, _, rfl⟩))
      go_wp2_with fail
      go_meet
      case rel => exact ⟨by rw [HI.out]; rfl, (keepBut.refl _ _).drewN _⟩
  case rest =>
    obtain ⟨rfl, kc⟩ := hcut
    have y0 : wc.cell? ⟨b, 0, none⟩ = some (.int .i64 d.kind) := (kc.cell (p := ⟨b, 0, none⟩) HD.out.2.2.1.lt (by simp)).trans y0
    have HBC := Lib.hid (HB.out.1.over kc)
    have HDC := Lib.hid (And.intro (kc.row HD.out.2.2.1 (by simp)) (HD.out.2.2.2.1.then kc (by simp)))
    clear kc y1 y2 z0 hsum hdn HW
    have NNH := Lib.hid (show ¬ (0 ≤ I ∧ I < (TN.length : Int)) by rw [HB.out.2.2.2.2.1]; exact HR.out)
    have NMH := Lib.hid (show ¬ (0 ≤ I ∧ I < (TM.length : Int)) by rw [HB.out.2.2.2.2.2.1]; exact HR.out)
    go_wp2_with (first
      | (go_at_call 13; (with_reducible refine (HBK.out _).mono ?_); rintro e w' ⟨rfl, rfl⟩)
      | (go_at_call 28; (with_reducible refine (dropN_no p vN TN FN c I _ HBC.out.n (NNH.out)).mono ?_); rintro e w3 ⟨rfl, k3⟩; have H3 := Lib.hid (HBC.out.over k3); clear k3 y0)
      | (go_at_call 31; (with_reducible refine (dropM_no m _ TM FM c I _ H3.out.r (NMH.out)).mono ?_); rintro e w4 ⟨rfl, k4⟩; have H4 := Lib.hid (H3.out.over k4); clear k4))
    go_ret
    exact ⟨L, c, rfl, ⟨⟨_, _, _, _, _, _, H4.out, HB.out.2.1, HB.out.2.2.1⟩, HB.out.2.2.2.1⟩, by omega, by omega⟩
set_option maxHeartbeats 16000000 in
theorem step_drop {w0 w : World} {p m : Nat} {L : List PK} {c : Nat} (h : nets [] w0 w p m L c) (hL : L.length ≤ 200) (hc : c ≤ 200) (hfl : fieldsAt w0) {F : List Nat} {d : ND} {X : List Value} (hd : ndV w0 F d X) (hF : ∀ y ∈ F, y < w0.heap.size) (hk : d.kind % 8 = 5) (hr : 0 ≤ d.at L.length ∧ d.at L.length < L.length) :
    Calls Tryd.prog 10 #[.pointer (some ⟨p, 0, none⟩), .pointer (some ⟨m, 0, none⟩), .agg (ndL d X).toArray] w (netsPost w0 p m L c) := by
  obtain ⟨vN, TN, FN, vM, TM, FM, hb, hlN, hlM⟩ := h.is
  have hok := h.ok
  have hX87 : X.length = 87 := hd.v.len
  have hYl : (ndL d X).length = 90 := ndL_len hX87
  have x0 : (ndL d X).toArray[0]? = some (.int .i64 d.kind) := rfl
  have x1 : (ndL d X).toArray[1]? = some (.int .i64 d.n) := rfl
  have x2 : (ndL d X).toArray[2]? = some (.bool d.raw) := rfl
  have xr : ∀ j v, X[j]? = some v → (ndL d X).toArray[3 + j]? = some v := fun j v hv => by
    rw [List.getElem?_toArray, ndL, show 3 + j = j + 1 + 1 + 1 by omega]; simpa using hv
  obtain ⟨Y, hY⟩ : ∃ Y, ndL d X = Y := ⟨_, rfl⟩
  rw [hY] at x0 x1 x2 xr hYl ⊢
  have k1 := (keepBut.refl [] w).alloc (.cells Y.toArray 42)
  have r1 := rowAt.new w 42 Y.toArray
  obtain ⟨w1, hw1⟩ : ∃ w1, w.alloc (.cells Y.toArray 42) = w1 := ⟨_, rfl⟩
  rw [hw1] at k1 r1
  obtain ⟨b, hbb⟩ : ∃ b, w.heap.size = b := ⟨_, rfl⟩
  rw [hbb] at r1
  have y0 : w1.cell? ⟨b, 0, none⟩ = some (.int .i64 d.kind) := (r1.cell 0).trans x0
  have y1 : w1.cell? ⟨b, 1, none⟩ = some (.int .i64 d.n) := (r1.cell 1).trans x1
  have y2 : w1.cell? ⟨b, 2, none⟩ = some (.bool d.raw) := (r1.cell 2).trans x2
  obtain ⟨raw, hraw⟩ : ∃ r, d.raw = r := ⟨_, rfl⟩
  rw [hraw] at y2
  obtain ⟨n, hn⟩ : ∃ n, L.length = n := ⟨_, rfl⟩
  obtain ⟨AM, kM, rfl, _⟩ := hb.r.form
  have z0 : w1.cell? ⟨m, 0, none⟩ = some (.slice AM TM.length kM) := (hb.over k1).r.row.cell 0
  have hTM : TM.length = n := by rw [map_len hlM, hn]
  have hTN : TN.length = n := by rw [map_len hlN, hn]
  rw [hTM] at z0
  obtain ⟨I, hI⟩ : ∃ I, d.at n = I := ⟨_, rfl⟩
  have HI := Lib.hid (show I = if raw then d.n else d.n % ((n : Int) + 1) by rw [← hI, ← hraw]; rfl)
  have HBK := Lib.hid (fun W => bring_any d.kind 8 hd.k.1 hd.k.2 (by decide) (by decide) W)
  rw [hk] at HBK
  have HB := Lib.hid (And.intro (hb.over k1) (And.intro hlN (And.intro hlM (And.intro hok (And.intro hTN (And.intro hTM (And.intro hL (And.intro hc hn))))))))
  have HW := Lib.hid hw1
  have HD := Lib.hid (And.intro hd (And.intro hF (And.intro r1 (And.intro k1 (And.intro hYl (And.intro xr hfl))))))
  obtain ⟨i, hi⟩ : ∃ i : Nat, I = (i : Int) := ⟨I.toNat, by rw [hn, hI] at hr; omega⟩
  subst hi
  have hin : i < n := by rw [hn, hI] at hr; omega
  obtain ⟨k, hLk⟩ : ∃ k, L[i]? = some k := ⟨_, List.getElem?_eq_getElem (by rw [hn]; omega)⟩
  obtain ⟨tN, htN, htNk⟩ := map_at hlN hLk
  obtain ⟨tM, htM, htMk⟩ := map_at hlM hLk
  have HK := Lib.hid (And.intro htN (And.intro htNk (And.intro htM (And.intro htMk (And.intro (hok k (List.mem_of_getElem? hLk)) (And.intro hin hLk))))))
  clear htN htNk htM htMk hLk hr
  have hn200 : n ≤ 200 := by omega
  have hdn := hd.i
  unfold i64P at hdn
  clear h hb hlN hlM hok hX87 hY x0 x1 x2 xr k1 r1 hw1 hraw hn hTM hTN hI hd hF hYl hL hc hfl hk
  have hsum : IntKind.i64.wrap ((n : Int) + 1) = (n : Int) + 1 := by rw [IntKind.wrap_i64]; omega
  go_enter Tryd.func10, Tryd.ntmps10
  go_upto_if 26 with (with_reducible refine wpList_box_to _ _ rfl 42 (.tmp 2) rfl _ rfl HW.out ?_; try simp only [hbb])
  go_cut [7] (fun v7 wx => v7 = .int .i64 (i : Int) ∧ keepBut [] w1 wx)
  case first =>
    cases raw with
    | true =>
      go_wp2_with fail
      go_meet
      case rel => exact ⟨by rw [HI.out]; rfl, keepBut.refl _ _⟩
    | false =>
      go_upto_region 3 with fail
      go_quiet ((go_at_call 13; (with_reducible refine (bring_any d.n ((n : Int) + 1) hdn.1 hdn.2 (by omega) (by omega) _).mono ?_); rintro e w' ⟨rfl, rfl⟩; exact ⟨rfl, _, rfl⟩))
      go_wp2_with fail
      go_meet
      case rel => exact ⟨by rw [HI.out]; rfl, (keepBut.refl _ _).drewN _⟩
  case rest =>
    obtain ⟨rfl, kc⟩ := hcut
    have y0 : wc.cell? ⟨b, 0, none⟩ = some (.int .i64 d.kind) := (kc.cell (p := ⟨b, 0, none⟩) HD.out.2.2.1.lt (by simp)).trans y0
    have HBC := Lib.hid (HB.out.1.over kc)
    have HDC := Lib.hid (And.intro (kc.row HD.out.2.2.1 (by simp)) (HD.out.2.2.2.1.then kc (by simp)))
    clear kc y1 y2 z0 hsum hdn HW
    have HF := Lib.hid (show tN.1.fits ∧ tM.1.fits ∧ tM.1.ok = true by rw [HK.out.2.1, HK.out.2.2.2.1]; exact ⟨PK.ok_fits HK.out.2.2.2.2.1, PK.ok_fits HK.out.2.2.2.2.1, HK.out.2.2.2.2.1⟩)
    have HSZ := Lib.hid (show TN.length ≤ 200 ∧ TM.length ≤ 200 ∧ TN.length < 2000 ∧ TM.length < 2000 ∧ TN.length ≤ 100000 ∧ TM.length ≤ 100000 ∧ c < 1000000 by have a := HB.out.2.2.2.2.1; have b := HB.out.2.2.2.2.2.1; have cc := HB.out.2.2.2.2.2.2.2.1; omega)
    go_wp2_with (first
      | (go_at_call 13; (with_reducible refine (HBK.out _).mono ?_); rintro e w' ⟨rfl, rfl⟩)
      | (go_at_call 28; (with_reducible refine (dropN_any p vN TN FN c i tN _ HBC.out.n HK.out.1 HSZ.out.2.2.2.2.1).mono ?_); rintro e w3 ⟨v3, rfl, n3, k3, h3⟩; have H3 := Lib.hid (HBC.out.net n3 k3 (fun x hx => .inl (h3 x hx)) (fun y hy => .inl hy)); clear n3 k3 h3 y0)
      | (go_at_call 31; (with_reducible refine (dropM_any m _ TM FM c i tM _ H3.out.r HK.out.2.2.1 HF.out.2.1 HSZ.out.2.2.2.2.2.1).mono ?_); rintro e w4 ⟨v4, rfl, n4, k4, h4⟩; have H4 := Lib.hid (H3.out.ref n4 (k4.more (by simp)) (fun x hx => .inr (h4 x hx)) (fun y hy => .inl hy)); clear n4 k4 h4))
    go_ret
    exact ⟨L.eraseIdx i, c, rfl, ⟨⟨_, _, _, _, _, _, H4.out, map_erase HB.out.2.1 i, map_erase HB.out.2.2.1 i⟩, fun x hx => HB.out.2.2.2.1 x (List.mem_of_mem_eraseIdx hx)⟩, by rw [List.length_eraseIdx]; split <;> omega, by omega⟩
set_option maxHeartbeats 16000000 in
theorem step_twice_no {w0 w : World} {p m : Nat} {L : List PK} {c : Nat} (h : nets [] w0 w p m L c) (hL : L.length ≤ 200) (hc : c ≤ 200) (hfl : fieldsAt w0) {F : List Nat} {d : ND} {X : List Value} (hd : ndV w0 F d X) (hF : ∀ y ∈ F, y < w0.heap.size) (hk : d.kind % 8 = 6) (hr : ¬ (0 ≤ d.at L.length ∧ d.at L.length < L.length)) :
    Calls Tryd.prog 10 #[.pointer (some ⟨p, 0, none⟩), .pointer (some ⟨m, 0, none⟩), .agg (ndL d X).toArray] w (netsPost w0 p m L c) := by
  obtain ⟨vN, TN, FN, vM, TM, FM, hb, hlN, hlM⟩ := h.is
  have hok := h.ok
  have hX87 : X.length = 87 := hd.v.len
  have hYl : (ndL d X).length = 90 := ndL_len hX87
  have x0 : (ndL d X).toArray[0]? = some (.int .i64 d.kind) := rfl
  have x1 : (ndL d X).toArray[1]? = some (.int .i64 d.n) := rfl
  have x2 : (ndL d X).toArray[2]? = some (.bool d.raw) := rfl
  have xr : ∀ j v, X[j]? = some v → (ndL d X).toArray[3 + j]? = some v := fun j v hv => by
    rw [List.getElem?_toArray, ndL, show 3 + j = j + 1 + 1 + 1 by omega]; simpa using hv
  obtain ⟨Y, hY⟩ : ∃ Y, ndL d X = Y := ⟨_, rfl⟩
  rw [hY] at x0 x1 x2 xr hYl ⊢
  have k1 := (keepBut.refl [] w).alloc (.cells Y.toArray 42)
  have r1 := rowAt.new w 42 Y.toArray
  obtain ⟨w1, hw1⟩ : ∃ w1, w.alloc (.cells Y.toArray 42) = w1 := ⟨_, rfl⟩
  rw [hw1] at k1 r1
  obtain ⟨b, hbb⟩ : ∃ b, w.heap.size = b := ⟨_, rfl⟩
  rw [hbb] at r1
  have y0 : w1.cell? ⟨b, 0, none⟩ = some (.int .i64 d.kind) := (r1.cell 0).trans x0
  have y1 : w1.cell? ⟨b, 1, none⟩ = some (.int .i64 d.n) := (r1.cell 1).trans x1
  have y2 : w1.cell? ⟨b, 2, none⟩ = some (.bool d.raw) := (r1.cell 2).trans x2
  obtain ⟨raw, hraw⟩ : ∃ r, d.raw = r := ⟨_, rfl⟩
  rw [hraw] at y2
  obtain ⟨n, hn⟩ : ∃ n, L.length = n := ⟨_, rfl⟩
  obtain ⟨AM, kM, rfl, _⟩ := hb.r.form
  have z0 : w1.cell? ⟨m, 0, none⟩ = some (.slice AM TM.length kM) := (hb.over k1).r.row.cell 0
  have hTM : TM.length = n := by rw [map_len hlM, hn]
  have hTN : TN.length = n := by rw [map_len hlN, hn]
  rw [hTM] at z0
  obtain ⟨I, hI⟩ : ∃ I, d.at n = I := ⟨_, rfl⟩
  have HI := Lib.hid (show I = if raw then d.n else d.n % ((n : Int) + 1) by rw [← hI, ← hraw]; rfl)
  have HBK := Lib.hid (fun W => bring_any d.kind 8 hd.k.1 hd.k.2 (by decide) (by decide) W)
  rw [hk] at HBK
  have HB := Lib.hid (And.intro (hb.over k1) (And.intro hlN (And.intro hlM (And.intro hok (And.intro hTN (And.intro hTM (And.intro hL (And.intro hc hn))))))))
  have HW := Lib.hid hw1
  have HD := Lib.hid (And.intro hd (And.intro hF (And.intro r1 (And.intro k1 (And.intro hYl (And.intro xr hfl))))))
  have HR := Lib.hid (show ¬ (0 ≤ I ∧ I < (n : Int)) by rw [hn, hI] at hr; exact hr)
  clear hr
  have hn200 : n ≤ 200 := by omega
  have hdn := hd.i
  unfold i64P at hdn
  clear h hb hlN hlM hok hX87 hY x0 x1 x2 xr k1 r1 hw1 hraw hn hTM hTN hI hd hF hYl hL hc hfl hk
  have hsum : IntKind.i64.wrap ((n : Int) + 1) = (n : Int) + 1 := by rw [IntKind.wrap_i64]; omega
  go_enter Tryd.func10, Tryd.ntmps10
  go_upto_if 26 with (with_reducible refine wpList_box_to _ _ rfl 42 (.tmp 2) rfl _ rfl HW.out ?_; try simp only [hbb])
  go_cut [7] (fun v7 wx => v7 = .int .i64 I ∧ keepBut [] w1 wx)
  case first =>
    cases raw with
    | true =>
      go_wp2_with fail
      go_meet
      case rel => exact ⟨by rw [HI.out]; rfl, keepBut.refl _ _⟩
    | false =>
      go_upto_region 3 with fail
      go_quiet ((go_at_call 13; (with_reducible refine (bring_any d.n ((n : Int) + 1) hdn.1 hdn.2 (by omega) (by omega) _).mono ?_); rintro e w' ⟨rfl, rfl⟩; exact ⟨rfl, _, rfl⟩))
      go_wp2_with fail
      go_meet
      case rel => exact ⟨by rw [HI.out]; rfl, (keepBut.refl _ _).drewN _⟩
  case rest =>
    obtain ⟨rfl, kc⟩ := hcut
    have y0 : wc.cell? ⟨b, 0, none⟩ = some (.int .i64 d.kind) := (kc.cell (p := ⟨b, 0, none⟩) HD.out.2.2.1.lt (by simp)).trans y0
    have HBC := Lib.hid (HB.out.1.over kc)
    have HDC := Lib.hid (And.intro (kc.row HD.out.2.2.1 (by simp)) (HD.out.2.2.2.1.then kc (by simp)))
    clear kc y1 y2 z0 hsum hdn HW
    have NNH := Lib.hid (show ¬ (0 ≤ I ∧ I < (TN.length : Int)) by rw [HB.out.2.2.2.2.1]; exact HR.out)
    have NMH := Lib.hid (show ¬ (0 ≤ I ∧ I < (TM.length : Int)) by rw [HB.out.2.2.2.2.2.1]; exact HR.out)
    go_wp2_with (first
      | (go_at_call 13; (with_reducible refine (HBK.out _).mono ?_); rintro e w' ⟨rfl, rfl⟩)
      | (go_at_call 29; (with_reducible refine (twiceN_no p vN TN FN c I _ HBC.out.n NNH.out).mono ?_); rintro e w3 ⟨rfl, rfl⟩)
      | (go_at_call 32; (with_reducible refine (twiceM_no m _ TM FM c I _ HBC.out.r NMH.out).mono ?_); rintro e w4 ⟨rfl, k4⟩; have H4 := Lib.hid (HBC.out.over k4); clear k4 y0))
    go_ret
    exact ⟨L, c, rfl, ⟨⟨_, _, _, _, _, _, H4.out, HB.out.2.1, HB.out.2.2.1⟩, HB.out.2.2.2.1⟩, by omega, by omega⟩
set_option maxHeartbeats 16000000 in
theorem step_twice {w0 w : World} {p m : Nat} {L : List PK} {c : Nat} (h : nets [] w0 w p m L c) (hL : L.length ≤ 200) (hc : c ≤ 200) (hfl : fieldsAt w0) {F : List Nat} {d : ND} {X : List Value} (hd : ndV w0 F d X) (hF : ∀ y ∈ F, y < w0.heap.size) (hk : d.kind % 8 = 6) (hr : 0 ≤ d.at L.length ∧ d.at L.length < L.length) :
    Calls Tryd.prog 10 #[.pointer (some ⟨p, 0, none⟩), .pointer (some ⟨m, 0, none⟩), .agg (ndL d X).toArray] w (netsPost w0 p m L c) := by
  obtain ⟨vN, TN, FN, vM, TM, FM, hb, hlN, hlM⟩ := h.is
  have hok := h.ok
  have hX87 : X.length = 87 := hd.v.len
  have hYl : (ndL d X).length = 90 := ndL_len hX87
  have x0 : (ndL d X).toArray[0]? = some (.int .i64 d.kind) := rfl
  have x1 : (ndL d X).toArray[1]? = some (.int .i64 d.n) := rfl
  have x2 : (ndL d X).toArray[2]? = some (.bool d.raw) := rfl
  have xr : ∀ j v, X[j]? = some v → (ndL d X).toArray[3 + j]? = some v := fun j v hv => by
    rw [List.getElem?_toArray, ndL, show 3 + j = j + 1 + 1 + 1 by omega]; simpa using hv
  obtain ⟨Y, hY⟩ : ∃ Y, ndL d X = Y := ⟨_, rfl⟩
  rw [hY] at x0 x1 x2 xr hYl ⊢
  have k1 := (keepBut.refl [] w).alloc (.cells Y.toArray 42)
  have r1 := rowAt.new w 42 Y.toArray
  obtain ⟨w1, hw1⟩ : ∃ w1, w.alloc (.cells Y.toArray 42) = w1 := ⟨_, rfl⟩
  rw [hw1] at k1 r1
  obtain ⟨b, hbb⟩ : ∃ b, w.heap.size = b := ⟨_, rfl⟩
  rw [hbb] at r1
  have y0 : w1.cell? ⟨b, 0, none⟩ = some (.int .i64 d.kind) := (r1.cell 0).trans x0
  have y1 : w1.cell? ⟨b, 1, none⟩ = some (.int .i64 d.n) := (r1.cell 1).trans x1
  have y2 : w1.cell? ⟨b, 2, none⟩ = some (.bool d.raw) := (r1.cell 2).trans x2
  obtain ⟨raw, hraw⟩ : ∃ r, d.raw = r := ⟨_, rfl⟩
  rw [hraw] at y2
  obtain ⟨n, hn⟩ : ∃ n, L.length = n := ⟨_, rfl⟩
  obtain ⟨AM, kM, rfl, _⟩ := hb.r.form
  have z0 : w1.cell? ⟨m, 0, none⟩ = some (.slice AM TM.length kM) := (hb.over k1).r.row.cell 0
  have hTM : TM.length = n := by rw [map_len hlM, hn]
  have hTN : TN.length = n := by rw [map_len hlN, hn]
  rw [hTM] at z0
  obtain ⟨I, hI⟩ : ∃ I, d.at n = I := ⟨_, rfl⟩
  have HI := Lib.hid (show I = if raw then d.n else d.n % ((n : Int) + 1) by rw [← hI, ← hraw]; rfl)
  have HBK := Lib.hid (fun W => bring_any d.kind 8 hd.k.1 hd.k.2 (by decide) (by decide) W)
  rw [hk] at HBK
  have HB := Lib.hid (And.intro (hb.over k1) (And.intro hlN (And.intro hlM (And.intro hok (And.intro hTN (And.intro hTM (And.intro hL (And.intro hc hn))))))))
  have HW := Lib.hid hw1
  have HD := Lib.hid (And.intro hd (And.intro hF (And.intro r1 (And.intro k1 (And.intro hYl (And.intro xr hfl))))))
  obtain ⟨i, hi⟩ : ∃ i : Nat, I = (i : Int) := ⟨I.toNat, by rw [hn, hI] at hr; omega⟩
  subst hi
  have hin : i < n := by rw [hn, hI] at hr; omega
  obtain ⟨k, hLk⟩ : ∃ k, L[i]? = some k := ⟨_, List.getElem?_eq_getElem (by rw [hn]; omega)⟩
  obtain ⟨tN, htN, htNk⟩ := map_at hlN hLk
  obtain ⟨tM, htM, htMk⟩ := map_at hlM hLk
  have HK := Lib.hid (And.intro htN (And.intro htNk (And.intro htM (And.intro htMk (And.intro (hok k (List.mem_of_getElem? hLk)) (And.intro hin hLk))))))
  clear htN htNk htM htMk hLk hr
  have hn200 : n ≤ 200 := by omega
  have hdn := hd.i
  unfold i64P at hdn
  clear h hb hlN hlM hok hX87 hY x0 x1 x2 xr k1 r1 hw1 hraw hn hTM hTN hI hd hF hYl hL hc hfl hk
  have hsum : IntKind.i64.wrap ((n : Int) + 1) = (n : Int) + 1 := by rw [IntKind.wrap_i64]; omega
  go_enter Tryd.func10, Tryd.ntmps10
  go_upto_if 26 with (with_reducible refine wpList_box_to _ _ rfl 42 (.tmp 2) rfl _ rfl HW.out ?_; try simp only [hbb])
  go_cut [7] (fun v7 wx => v7 = .int .i64 (i : Int) ∧ keepBut [] w1 wx)
  case first =>
    cases raw with
    | true =>
      go_wp2_with fail
      go_meet
      case rel => exact ⟨by rw [HI.out]; rfl, keepBut.refl _ _⟩
    | false =>
      go_upto_region 3 with fail
      go_quiet ((go_at_call 13; (with_reducible refine (bring_any d.n ((n : Int) + 1) hdn.1 hdn.2 (by omega) (by omega) _).mono ?_); rintro e w' ⟨rfl, rfl⟩; exact ⟨rfl, _, rfl⟩))
      go_wp2_with fail
      go_meet
      case rel => exact ⟨by rw [HI.out]; rfl, (keepBut.refl _ _).drewN _⟩
  case rest =>
    obtain ⟨rfl, kc⟩ := hcut
    have y0 : wc.cell? ⟨b, 0, none⟩ = some (.int .i64 d.kind) := (kc.cell (p := ⟨b, 0, none⟩) HD.out.2.2.1.lt (by simp)).trans y0
    have HBC := Lib.hid (HB.out.1.over kc)
    have HDC := Lib.hid (And.intro (kc.row HD.out.2.2.1 (by simp)) (HD.out.2.2.2.1.then kc (by simp)))
    clear kc y1 y2 z0 hsum hdn HW
    have HF := Lib.hid (show tN.1.fits ∧ tM.1.fits ∧ tM.1.ok = true by rw [HK.out.2.1, HK.out.2.2.2.1]; exact ⟨PK.ok_fits HK.out.2.2.2.2.1, PK.ok_fits HK.out.2.2.2.2.1, HK.out.2.2.2.2.1⟩)
    have HSZ := Lib.hid (show TN.length ≤ 200 ∧ TM.length ≤ 200 ∧ TN.length < 2000 ∧ TM.length < 2000 ∧ TN.length ≤ 100000 ∧ TM.length ≤ 100000 ∧ c < 1000000 by have a := HB.out.2.2.2.2.1; have b := HB.out.2.2.2.2.2.1; have cc := HB.out.2.2.2.2.2.2.2.1; omega)
    go_wp2_with (first
      | (go_at_call 13; (with_reducible refine (HBK.out _).mono ?_); rintro e w' ⟨rfl, rfl⟩)
      | (go_at_call 29; (with_reducible refine (twiceN_any p vN TN FN c i tN _ HBC.out.n HK.out.1 HF.out.1 HSZ.out.2.2.1 HSZ.out.2.2.2.2.2.2).mono ?_); rintro e w3 ⟨v3, X3, G3, rfl, n3, k3, h3, g3⟩; have H3 := Lib.hid (HBC.out.net n3 k3 h3 (fun y hy => (List.mem_append.1 hy).imp id (fun hg => (g3 y hg).1))); clear n3 k3 h3 g3 y0)
      | (go_at_call 32; (with_reducible refine (twiceM_any m _ TM FM c i tM _ H3.out.r HK.out.2.2.1 HF.out.2.2 HSZ.out.2.2.2.1 HSZ.out.2.2.2.2.2.2).mono ?_); rintro e w4 ⟨v4, X4, G4, rfl, n4, k4, h4, g4⟩; have H4 := Lib.hid (H3.out.ref n4 k4 h4 (fun y hy => (List.mem_append.1 hy).imp id (fun hg => (g4 y hg).1))); clear n4 k4 h4 g4))
    go_ret
    refine ⟨L ++ [k], c + 1, rfl, ⟨⟨_, _, _, _, _, _, H4.out, ?_, ?_⟩, fun x hx => ?_⟩, by simp, by omega⟩
    · rw [HK.out.2.1]; exact map_snoc HB.out.2.1 k X3
    · rw [HK.out.2.2.2.1]; exact map_snoc HB.out.2.2.1 k X4
    · rcases List.mem_append.1 hx with hx | hx
      · exact HB.out.2.2.2.1 x hx
      · simp only [List.mem_singleton] at hx; rw [hx]; exact HK.out.2.2.2.2.1
end Go.Proofs.YtcnlnkkdcofphaaDoor
end
