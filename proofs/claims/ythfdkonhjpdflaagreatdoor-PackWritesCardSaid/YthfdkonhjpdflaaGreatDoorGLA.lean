/-
  GLA: GL0, GL1, joined.
-/
import Derived.Test.YthfdkonhjpdflaaGreatDoorGWA
import Derived.Test.YthfdkonhjpdflaaGreatDoorGCA
import Derived.Test.YthfdkonhjpdflaaGreatDoorPk37
section
namespace Go.Proofs.YthfdkonhjpdflaaGreatDoor
open Go.RowKit
set_option linter.unusedVariables false
set_option maxRecDepth 100000
set_option linter.unusedSimpArgs false

/-- bytes and an error -/
def outP (w : World) (ok : Bool) (l : List UInt8) (e : Ending) (w' : World) : Prop :=
  ∃ v G, e = .returned (.tuple #[v, .int .i64 (toldP ok)]) ∧ bytesV w' G v (if ok then l else []) ∧ newIn w w' G ∧ keepBut [] w w'
theorem outP.yes {w w' : World} {ok : Bool} {l : List UInt8} {e : Ending} (h : ok = true) (hp : outPost w l e w') : outP w ok l e w' := by
  subst h
  obtain ⟨v, G, rfl, h1, h2, h3⟩ := hp
  exact ⟨v, G, rfl, h1, h2, h3⟩
theorem outP.no {w w' : World} {ok : Bool} {l : List UInt8} {e : Ending} (h : ok = false) (he : e = .returned (.tuple #[.slice none 0 0, .int .i64 2])) (k : keepBut [] w w') : outP w ok l e w' := by
  subst h
  exact ⟨_, [], he, bytesV.nil _ _, fun y hy => by simp at hy, k⟩
theorem eqV_any (G H : List Nat) (u v : Value) (l : List UInt8) (w : World) (h : bytesV w G u l) (h' : bytesV w H v l) :
    Calls Tryz.prog 11 #[u, v] w fun e w' => e = .returned (.bool true) ∧ w = w' := by
  obtain ⟨A, c, g, rfl, _, _, h5, _⟩ := h
  obtain ⟨B, d, k, rfl, _, _, h6, _⟩ := h'
  refine (eqBytes_any A B g k c d l l w h5 h6).mono ?_
  rintro e w' ⟨rfl, rfl⟩
  exact ⟨by simp, rfl⟩
theorem bytesReq2 (F : List Nat) (r : RQ) (ev : Value) (w : World) (h : rqV w F r ev) :
    Calls Tryz.prog 14 #[.agg (rqL r ev).toArray] w (outP w r.ok (reqB r)) := by
  rcases Bool.eq_false_or_eq_true r.ok with h0 | h0
  · exact (bytesReq_any F r ev w h h0).mono fun e w' hp => outP.yes h0 hp
  · exact (bytesReq_no F r ev w h h0).mono fun e w' hp => outP.no h0 hp.1 hp.2
theorem bytesAns2 (F : List Nat) (r : AN) (ev : Value) (w : World) (h : anV w F r ev) :
    Calls Tryz.prog 16 #[.agg (anL r ev).toArray] w (outP w r.ok (ansB r)) := by
  rcases Bool.eq_false_or_eq_true r.ok with h0 | h0
  · exact (bytesAns_any F r ev w h h0).mono fun e w' hp => outP.yes h0 hp
  · exact (bytesAns_no F r ev w h h0).mono fun e w' hp => outP.no h0 hp.1 hp.2
theorem bytesConf2 (F : List Nat) (r : CF) (ev : Value) (w : World) (h : intsV w F ev r.chain) :
    Calls Tryz.prog 18 #[.agg (cfL r ev).toArray] w (outP w r.ok (cfB r)) := by
  rcases Bool.eq_false_or_eq_true r.ok with h0 | h0
  · exact (bytesConf_any F r ev w h h0).mono fun e w' hp => outP.yes h0 hp
  · exact (bytesConf_no F r ev w h h0).mono fun e w' hp => outP.no h0 hp.1 hp.2
theorem bytesReq2D (F : List Nat) (r : RQ) (ev : Value) (w : World) (h : rqV w F r ev) :
    Calls Tryz.prog 15 #[.agg (rqL r ev).toArray] w (outP w r.ok (reqB r)) := by
  rcases Bool.eq_false_or_eq_true r.ok with h0 | h0
  · exact (bytesReqD_any F r ev w h h0).mono fun e w' hp => outP.yes h0 hp
  · exact (bytesReqD_no F r ev w h h0).mono fun e w' hp => outP.no h0 hp.1 hp.2
theorem bytesAns2D (F : List Nat) (r : AN) (ev : Value) (w : World) (h : anV w F r ev) :
    Calls Tryz.prog 17 #[.agg (anL r ev).toArray] w (outP w r.ok (ansB r)) := by
  rcases Bool.eq_false_or_eq_true r.ok with h0 | h0
  · exact (bytesAnsD_any F r ev w h h0).mono fun e w' hp => outP.yes h0 hp
  · exact (bytesAnsD_no F r ev w h h0).mono fun e w' hp => outP.no h0 hp.1 hp.2
theorem bytesConf2D (F : List Nat) (r : CF) (ev : Value) (w : World) (h : intsV w F ev r.chain) :
    Calls Tryz.prog 19 #[.agg (cfL r ev).toArray] w (outP w r.ok (cfB r)) := by
  rcases Bool.eq_false_or_eq_true r.ok with h0 | h0
  · exact (bytesConfD_any F r ev w h h0).mono fun e w' hp => outP.yes h0 hp
  · exact (bytesConfD_no F r ev w h h0).mono fun e w' hp => outP.no h0 hp.1 hp.2
theorem bytes2 (F : List Nat) (r : PK) (ev av cv vv bw : Value) (w : World) (h : pkV w F r ev av cv vv bw) (hfl : fieldsAt w) (hb1 : i64P r.frm) (hb2 : i64P r.dst) :
    Calls Tryz.prog 7 #[.agg (pkL r ev av cv vv bw).toArray] w (outP w r.ok (pkB r)) := by
  rcases Bool.eq_false_or_eq_true r.ok with h0 | h0
  · exact (bytes_any F r ev av cv vv bw w h hfl hb1 hb2 h0).mono fun e w' hp => outP.yes h0 hp
  · exact (bytes_no F r ev av cv vv bw w h hfl hb1 hb2 h0).mono fun e w' hp => outP.no h0 hp.1 hp.2
theorem bytes2D (F : List Nat) (r : PK) (ev av cv vv bw : Value) (w : World) (h : pkV w F r ev av cv vv bw) (hf : r.fits) :
    Calls Tryz.prog 8 #[.agg (pkL r ev av cv vv bw).toArray] w (outP w r.ok (pkB r)) := by
  rcases Bool.eq_false_or_eq_true r.ok with h0 | h0
  · exact (bytesD_any F r ev av cv vv bw w h h0).mono fun e w' hp => outP.yes h0 hp
  · exact (bytesD_no F r ev av cv vv bw w h hf h0).mono fun e w' hp => outP.no h0 hp.1 hp.2
theorem copyPX (F : List Nat) (p : PK) (X : List Value) (w : World) (h : itemV w F (p, X)) (hf : p.fits) :
    Calls Tryz.prog 24 #[.agg X.toArray] w (copyPostX p w) := by
  obtain ⟨ev, av, cv, vv, bw, h1, h2⟩ := h
  dsimp only at h1 h2
  subst h1
  refine (copyPk_any F p ev av cv vv bw w h2 hf).mono ?_
  rintro e w' ⟨G, e1, e2, e3, e4, e5, rfl, hv, hn, hk⟩
  exact ⟨_, G, rfl, ⟨e1, e2, e3, e4, e5, rfl, hv⟩, hn, hk⟩
theorem samePX (F G : List Nat) (p q : PK) (X Y : List Value) (w : World) (h : itemV w F (p, X)) (h' : itemV w G (q, Y)) :
    Calls Tryz.prog 12 #[.agg X.toArray, .agg Y.toArray] w fun e w' => e = .returned (.bool (p.same q)) ∧ keepBut [] w w' := by
  obtain ⟨ev, av, cv, vv, bw, h1, h2⟩ := h
  obtain ⟨ev', av', cv', vv', bw', h1', h2'⟩ := h'
  dsimp only at h1 h2 h1' h2'
  subst h1
  subst h1'
  exact pkSame_any F G p q ev av cv vv bw ev' av' cv' vv' bw' w h2 h2'
end Go.Proofs.YthfdkonhjpdflaaGreatDoor
end

section
namespace Go.Proofs.YthfdkonhjpdflaaGreatDoor
open Go.RowKit
set_option linter.unusedVariables false
set_option maxRecDepth 100000
set_option linter.unusedSimpArgs false

/-- bytes and an error -/
def outQ (w : World) (E : Int) (l : List UInt8) (e : Ending) (w' : World) : Prop :=
  ∃ v G, e = .returned (.tuple #[v, .int .i64 E]) ∧ bytesV w' G v l ∧ newIn w w' G ∧ keepBut [] w w'
/-- both packets, cut -/
def bothC (w : World) (b : Nat) (p q : PK) (wx : World) : Prop := ∃ Y1 G1 Y2 G2, rowAt wx b 34 (Y1 : List Value).toArray ∧ rowAt wx (b + 1) 34 (Y2 : List Value).toArray ∧ itemV wx G1 (p.cutW, Y1) ∧ itemV wx G2 (q.cutW, Y2) ∧ (∀ y ∈ G1, y < wx.heap.size) ∧ (∀ y ∈ G2, y < wx.heap.size) ∧ keepBut [] w wx
set_option maxHeartbeats 32000000 in
theorem packWrites_law (F1 F2 : List Nat) (p q : PK) (X1 X2 : List Value) (w : World) (h1 : itemV w F1 (p, X1)) (h2 : itemV w F2 (q, X2)) (hF1 : ∀ y ∈ F1, y < w.heap.size) (hF2 : ∀ y ∈ F2, y < w.heap.size) (hb1 : i64P p.frm) (hb2 : i64P p.dst) (hfl : fieldsAt w) :
    Calls Tryz.prog 3 #[.agg X1.toArray, .agg X2.toArray] w fun e w' => e = .returned (.bool true) ∧ keepBut [] w w' := by
  have hl1 := h1.len
  have hl2 := h2.len
  have k1 := (keepBut.refl [] w).alloc (.cells X1.toArray 34)
  have r1 := rowAt.new w 34 X1.toArray
  have hs1 : (w.alloc (.cells X1.toArray 34)).heap.size = w.heap.size + 1 := World.size_alloc _ _
  obtain ⟨w1, hw1⟩ : ∃ w1, w.alloc (.cells X1.toArray 34) = w1 := ⟨_, rfl⟩
  rw [hw1] at k1 r1 hs1
  have k2 := (keepBut.refl [] w1).alloc (.cells X2.toArray 34)
  have r2 := rowAt.new w1 34 X2.toArray
  have r1' := k2.row r1 (by simp)
  obtain ⟨w2, hw2⟩ : ∃ w2, w1.alloc (.cells X2.toArray 34) = w2 := ⟨_, rfl⟩
  rw [hw2] at r1' r2 k2
  rw [hs1] at r2
  have k12 := k1.then k2 (by simp)
  obtain ⟨b, hb⟩ : ∃ b, w.heap.size = b := ⟨_, rfl⟩
  rw [hb] at r1' r2 hs1
  have HW := Lib.hid (And.intro hw1 (And.intro hw2 (And.intro hb hs1)))
  have HRG : Hid (∀ wx, keepBut [] w2 wx → rowAt wx b 34 X1.toArray ∧ rowAt wx (b + 1) 34 X2.toArray) := Lib.hid (fun wx k => ⟨k.row r1' (by simp), k.row r2 (by simp)⟩)
  have HI := Lib.hid (show (Tryz.prog.info? 34).map (·.size) = some X1.length ∧ (Tryz.prog.info? 34).map (·.size) = some X2.length by rw [hl1, hl2]; exact ⟨info_pk, info_pk⟩)
  have HC1 : Hid (∀ wx, keepBut [] w2 wx → Calls Tryz.prog 6 #[.agg X1.toArray] wx (cutPost p F1 wx)) := Lib.hid (fun wx k => by
    obtain ⟨ev, av, cv, vv, bw, e, hv⟩ := (h1.keep k12 (by simp)).keep k (by simp)
    dsimp only at e hv
    rw [e]
    exact cutW_any F1 p ev av cv vv bw wx hv (fun y hy => Nat.lt_of_lt_of_le (hF1 y hy) (Nat.le_trans k12.size k.size)))
  have HC2 : Hid (∀ wx, keepBut [] w2 wx → Calls Tryz.prog 6 #[.agg X2.toArray] wx (cutPost q F2 wx)) := Lib.hid (fun wx k => by
    obtain ⟨ev, av, cv, vv, bw, e, hv⟩ := (h2.keep k12 (by simp)).keep k (by simp)
    dsimp only at e hv
    rw [e]
    exact cutW_any F2 q ev av cv vv bw wx hv (fun y hy => Nat.lt_of_lt_of_le (hF2 y hy) (Nat.le_trans k12.size k.size)))
  have HB := Lib.hid (And.intro k12 (And.intro hfl (And.intro hb1 (And.intro hb2 (And.intro hl1 (And.intro hl2 (And.intro hF1 hF2)))))))
  clear hl1 hl2 k1 r1 hs1 hw1 k2 r2 r1' hw2 k12 h1 h2 hF1 hF2 hb1 hb2 hfl
  go_enter Tryz.func3, Tryz.ntmps3
  go_upto_region 1 with (first
    | (with_reducible refine wpList_box_to _ _ rfl 34 (.tmp 0) rfl _ rfl HW.out.1 ?_; try simp only [hb])
    | (with_reducible refine wpList_box_to _ _ rfl 34 (.tmp 1) rfl _ rfl HW.out.2.1 ?_; try simp only [HW.out.2.2.2]))
  try simp only [Act.put, List.setIfInBounds_toArray, List.set_cons_zero, List.set_cons_succ]
  go_cut [] (fun wx => bothC w b p q wx)
  case first =>
   have KS : keepBut [] w2 w2.drew := (keepBut.refl [] w2).drew
   refine wp_region_held_drew (S := fun _ => True) (by kernel_rfl) trivial (fun _ => ?_)
   refine wpAnyH_ready (rs := [0, 2]) (by kernel_rfl) (by simp) ?_
   refine AllReadyH.cons (o := ⟨_, _, _, _, _, _⟩) rfl (fun K hK => ?_) (AllReadyH.cons (o := ⟨_, _, _, _, _, _⟩) rfl (fun K hK => ?_) AllReadyH.nil)
   · refine step_load_mid rfl 34 (.tmp 2) rfl b 0 rfl X1 _ (HRG.out _ KS).1.rangeAll Tryz.underlying34 rfl HI.out.1 ?_
     refine hK.out _ _ trivial (fun _ => ?_)
     clear hK K
     try simp only [Act.put, List.setIfInBounds_toArray, List.set_cons_zero, List.set_cons_succ]
     refine wpAnyH_ready (rs := [1, 2]) (by kernel_rfl) (by simp) ?_
     refine AllReadyH.cons (o := ⟨_, _, _, _, _, _⟩) rfl (fun K hK => ?_) (AllReadyH.cons (o := ⟨_, _, _, _, _, _⟩) rfl (fun K hK => ?_) AllReadyH.nil)
     · go_simp
       refine (HC1.out _ KS).mono ?_
       rintro e v1 ⟨Y1, G1, rfl, i1, g1, k1⟩
       have Q1 := Lib.hid (And.intro i1 (And.intro g1 k1))
       clear i1 g1
       have K1 := KS.then k1 (by simp)
       clear k1
       go_wp2_with fail
       refine hK.out _ _ trivial (fun _ => ?_)
       clear hK K
       try simp only [Act.put, List.setIfInBounds_toArray, List.set_cons_zero, List.set_cons_succ]
       refine wpAnyH_ready (rs := [2]) (by kernel_rfl) (by simp) ?_
       refine AllReadyH.cons (o := ⟨_, _, _, _, _, _⟩) rfl (fun K hK => ?_) AllReadyH.nil
       refine step_load_mid rfl 34 (.tmp 3) rfl (b + 1) 0 rfl X2 _ (HRG.out _ K1).2.rangeAll Tryz.underlying34 rfl HI.out.2 ?_
       refine hK.out _ _ trivial (fun _ => ?_)
       clear hK K
       try simp only [Act.put, List.setIfInBounds_toArray, List.set_cons_zero, List.set_cons_succ]
       refine wpAnyH_ready (rs := [3]) (by kernel_rfl) (by simp) ?_
       refine AllReadyH.cons (o := ⟨_, _, _, _, _, _⟩) rfl (fun K hK => ?_) AllReadyH.nil
       go_simp
       refine (HC2.out _ K1).mono ?_
       rintro e v2 ⟨Y2, G2, rfl, i2, g2, k2⟩
       have Q2 := Lib.hid (And.intro i2 (And.intro g2 k2))
       clear i2 g2
       have K2 := K1.then k2 (by simp)
       clear k2
       go_wp2_with fail
       refine hK.out _ _ trivial (fun _ => ?_)
       clear hK K
       try simp only [Act.put, List.setIfInBounds_toArray, List.set_cons_zero, List.set_cons_succ]
       refine wpAnyH_ready (rs := [4]) (by kernel_rfl) (by simp) ?_
       refine AllReadyH.cons (o := ⟨_, _, _, _, _, _⟩) rfl (fun K hK => ?_) AllReadyH.nil
       have k4 : keepBut [b] v2 (v2.setCells b 0 Y1) := (keepBut.refl _ _).setL (.inl (by simp))
       refine step_store_mid rfl 34 (.tmp 2) (.tmp 24) rfl b 0 Y1.toArray rfl rfl ((HRG.out _ K2).1.there (by have h9 : Y1.length = 87 := Q1.out.1.len; have := HB.out.2.2.2.2.1; simp only [List.size_toArray]; omega)) (by rw [List.size_toArray, Q1.out.1.len]; exact info_pk) (all_oneCell_toArray Q1.out.1.one) ?_
       refine hK.out _ _ trivial (fun _ => ?_)
       clear hK K
       try simp only [Act.put, List.setIfInBounds_toArray, List.set_cons_zero, List.set_cons_succ]
       refine wpAnyH_ready (rs := [5]) (by kernel_rfl) (by simp) ?_
       refine AllReadyH.cons (o := ⟨_, _, _, _, _, _⟩) rfl (fun K hK => ?_) AllReadyH.nil
       refine step_store_mid rfl 34 (.tmp 3) (.tmp 26) rfl (b + 1) 0 Y2.toArray rfl rfl ((k4.row (HRG.out _ K2).2 (by simp)).there (by have h9 : Y2.length = 87 := Q2.out.1.len; have := HB.out.2.2.2.2.2.1; simp only [List.size_toArray]; omega)) (by rw [List.size_toArray, Q2.out.1.len]; exact info_pk) (all_oneCell_toArray Q2.out.1.one) ?_
       refine hK.out _ _ trivial (fun _ => ?_)
       clear hK K
       try simp only [Act.put, List.setIfInBounds_toArray, List.set_cons_zero, List.set_cons_succ]
       refine wpAnyH_done (by kernel_rfl) ?_ _
       go_wp2_with fail
       have k5 : keepBut [b + 1] (v2.setCells b 0 Y1) ((v2.setCells b 0 Y1).setCells (b + 1) 0 Y2) := (keepBut.refl _ _).setL (.inl (by simp))
       have ra := (HRG.out _ K2).1.setL (vs := Y1) (o := 0)
       rw [putL_all (by rw [List.size_toArray, Q1.out.1.len, HB.out.2.2.2.2.1])] at ra
       have rb := (k4.row (HRG.out _ K2).2 (by simp)).setL (vs := Y2) (o := 0)
       rw [putL_all (by rw [List.size_toArray, Q2.out.1.len, HB.out.2.2.2.2.2.1])] at rb
       have hbw := HW.out.2.2.1
       have hw2s : b + 1 < w2.heap.size := (HRG.out _ (keepBut.refl [] w2)).2.lt
       have gf : ∀ (F G : List Nat) (v v' : World), (∀ y ∈ F, y < w.heap.size) → keepBut [] w2 v → (∀ y ∈ G, y ∈ F ∨ (v.heap.size ≤ y ∧ y < v'.heap.size)) → ∀ y ∈ G, y ≠ b ∧ y ≠ b + 1 := fun F G v v' hF hk hG y hy => by
         rcases hG y hy with h | h
         · have := hF y h; omega
         · have := hk.size; omega
       try simp only [List.toList_toArray]
       go_meet
       have kk : keepBut [] w ((v2.setCells b 0 Y1).setCells (b + 1) 0 Y2) := ((HB.out.1.then K2 (by simp)).then k4 (fun x hx => .inr (by simp only [List.mem_singleton] at hx; omega))).then k5 (fun x hx => .inr (by simp only [List.mem_singleton] at hx; omega))
       have g1 := gf F1 G1 _ _ HB.out.2.2.2.2.2.2.1 KS Q1.out.2.1
       have g2 := gf F2 G2 _ _ HB.out.2.2.2.2.2.2.2 K1 Q2.out.2.1
       have s12 := Q2.out.2.2.size
       have h1l : ∀ y ∈ G1, y < v2.heap.size := fun y hy => by
         rcases Q1.out.2.1 y hy with h | h
         · have a := HB.out.2.2.2.2.2.2.1 y h; have c := HB.out.1.size; have d := K2.size; omega
         · omega
       have h2l : ∀ y ∈ G2, y < v2.heap.size := fun y hy => by
         rcases Q2.out.2.1 y hy with h | h
         · have a := HB.out.2.2.2.2.2.2.2 y h; have c := HB.out.1.size; have d := K2.size; omega
         · omega
       have s4 := k4.size
       have s5 := k5.size
       exact ⟨Y1, G1, Y2, G2, k5.row ra (by simp), rb, ((Q1.out.1.keep Q2.out.2.2 (by simp)).keep k4 (fun y hy => by have := g1 y hy; simp; omega)).keep k5 (fun y hy => by have := g1 y hy; simp; omega), (Q2.out.1.keep k4 (fun y hy => by have := g2 y hy; simp; omega)).keep k5 (fun y hy => by have := g2 y hy; simp; omega), fun y hy => by have := h1l y hy; omega, fun y hy => by have := h2l y hy; omega, kk⟩
     · refine step_load_mid rfl 34 (.tmp 3) rfl (b + 1) 0 rfl X2 _ (HRG.out _ KS).2.rangeAll Tryz.underlying34 rfl HI.out.2 ?_
       refine hK.out _ _ trivial (fun _ => ?_)
       clear hK K
       try simp only [Act.put, List.setIfInBounds_toArray, List.set_cons_zero, List.set_cons_succ]
       refine wpAnyH_ready (rs := [1]) (by kernel_rfl) (by simp) ?_
       refine AllReadyH.cons (o := ⟨_, _, _, _, _, _⟩) rfl (fun K hK => ?_) AllReadyH.nil
       go_simp
       refine (HC1.out _ KS).mono ?_
       rintro e v1 ⟨Y1, G1, rfl, i1, g1, k1⟩
       have Q1 := Lib.hid (And.intro i1 (And.intro g1 k1))
       clear i1 g1
       have K1 := KS.then k1 (by simp)
       clear k1
       go_wp2_with fail
       refine hK.out _ _ trivial (fun _ => ?_)
       clear hK K
       try simp only [Act.put, List.setIfInBounds_toArray, List.set_cons_zero, List.set_cons_succ]
       refine wpAnyH_ready (rs := [3]) (by kernel_rfl) (by simp) ?_
       refine AllReadyH.cons (o := ⟨_, _, _, _, _, _⟩) rfl (fun K hK => ?_) AllReadyH.nil
       go_simp
       refine (HC2.out _ K1).mono ?_
       rintro e v2 ⟨Y2, G2, rfl, i2, g2, k2⟩
       have Q2 := Lib.hid (And.intro i2 (And.intro g2 k2))
       clear i2 g2
       have K2 := K1.then k2 (by simp)
       clear k2
       go_wp2_with fail
       refine hK.out _ _ trivial (fun _ => ?_)
       clear hK K
       try simp only [Act.put, List.setIfInBounds_toArray, List.set_cons_zero, List.set_cons_succ]
       refine wpAnyH_ready (rs := [4]) (by kernel_rfl) (by simp) ?_
       refine AllReadyH.cons (o := ⟨_, _, _, _, _, _⟩) rfl (fun K hK => ?_) AllReadyH.nil
       have k4 : keepBut [b] v2 (v2.setCells b 0 Y1) := (keepBut.refl _ _).setL (.inl (by simp))
       refine step_store_mid rfl 34 (.tmp 2) (.tmp 24) rfl b 0 Y1.toArray rfl rfl ((HRG.out _ K2).1.there (by have h9 : Y1.length = 87 := Q1.out.1.len; have := HB.out.2.2.2.2.1; simp only [List.size_toArray]; omega)) (by rw [List.size_toArray, Q1.out.1.len]; exact info_pk) (all_oneCell_toArray Q1.out.1.one) ?_
       refine hK.out _ _ trivial (fun _ => ?_)
       clear hK K
       try simp only [Act.put, List.setIfInBounds_toArray, List.set_cons_zero, List.set_cons_succ]
       refine wpAnyH_ready (rs := [5]) (by kernel_rfl) (by simp) ?_
       refine AllReadyH.cons (o := ⟨_, _, _, _, _, _⟩) rfl (fun K hK => ?_) AllReadyH.nil
       refine step_store_mid rfl 34 (.tmp 3) (.tmp 26) rfl (b + 1) 0 Y2.toArray rfl rfl ((k4.row (HRG.out _ K2).2 (by simp)).there (by have h9 : Y2.length = 87 := Q2.out.1.len; have := HB.out.2.2.2.2.2.1; simp only [List.size_toArray]; omega)) (by rw [List.size_toArray, Q2.out.1.len]; exact info_pk) (all_oneCell_toArray Q2.out.1.one) ?_
       refine hK.out _ _ trivial (fun _ => ?_)
       clear hK K
       try simp only [Act.put, List.setIfInBounds_toArray, List.set_cons_zero, List.set_cons_succ]
       refine wpAnyH_done (by kernel_rfl) ?_ _
       go_wp2_with fail
       have k5 : keepBut [b + 1] (v2.setCells b 0 Y1) ((v2.setCells b 0 Y1).setCells (b + 1) 0 Y2) := (keepBut.refl _ _).setL (.inl (by simp))
       have ra := (HRG.out _ K2).1.setL (vs := Y1) (o := 0)
       rw [putL_all (by rw [List.size_toArray, Q1.out.1.len, HB.out.2.2.2.2.1])] at ra
       have rb := (k4.row (HRG.out _ K2).2 (by simp)).setL (vs := Y2) (o := 0)
       rw [putL_all (by rw [List.size_toArray, Q2.out.1.len, HB.out.2.2.2.2.2.1])] at rb
       have hbw := HW.out.2.2.1
       have hw2s : b + 1 < w2.heap.size := (HRG.out _ (keepBut.refl [] w2)).2.lt
       have gf : ∀ (F G : List Nat) (v v' : World), (∀ y ∈ F, y < w.heap.size) → keepBut [] w2 v → (∀ y ∈ G, y ∈ F ∨ (v.heap.size ≤ y ∧ y < v'.heap.size)) → ∀ y ∈ G, y ≠ b ∧ y ≠ b + 1 := fun F G v v' hF hk hG y hy => by
         rcases hG y hy with h | h
         · have := hF y h; omega
         · have := hk.size; omega
       try simp only [List.toList_toArray]
       go_meet
       have kk : keepBut [] w ((v2.setCells b 0 Y1).setCells (b + 1) 0 Y2) := ((HB.out.1.then K2 (by simp)).then k4 (fun x hx => .inr (by simp only [List.mem_singleton] at hx; omega))).then k5 (fun x hx => .inr (by simp only [List.mem_singleton] at hx; omega))
       have g1 := gf F1 G1 _ _ HB.out.2.2.2.2.2.2.1 KS Q1.out.2.1
       have g2 := gf F2 G2 _ _ HB.out.2.2.2.2.2.2.2 K1 Q2.out.2.1
       have s12 := Q2.out.2.2.size
       have h1l : ∀ y ∈ G1, y < v2.heap.size := fun y hy => by
         rcases Q1.out.2.1 y hy with h | h
         · have a := HB.out.2.2.2.2.2.2.1 y h; have c := HB.out.1.size; have d := K2.size; omega
         · omega
       have h2l : ∀ y ∈ G2, y < v2.heap.size := fun y hy => by
         rcases Q2.out.2.1 y hy with h | h
         · have a := HB.out.2.2.2.2.2.2.2 y h; have c := HB.out.1.size; have d := K2.size; omega
         · omega
       have s4 := k4.size
       have s5 := k5.size
       exact ⟨Y1, G1, Y2, G2, k5.row ra (by simp), rb, ((Q1.out.1.keep Q2.out.2.2 (by simp)).keep k4 (fun y hy => by have := g1 y hy; simp; omega)).keep k5 (fun y hy => by have := g1 y hy; simp; omega), (Q2.out.1.keep k4 (fun y hy => by have := g2 y hy; simp; omega)).keep k5 (fun y hy => by have := g2 y hy; simp; omega), fun y hy => by have := h1l y hy; omega, fun y hy => by have := h2l y hy; omega, kk⟩
   · refine step_load_mid rfl 34 (.tmp 3) rfl (b + 1) 0 rfl X2 _ (HRG.out _ KS).2.rangeAll Tryz.underlying34 rfl HI.out.2 ?_
     refine hK.out _ _ trivial (fun _ => ?_)
     clear hK K
     try simp only [Act.put, List.setIfInBounds_toArray, List.set_cons_zero, List.set_cons_succ]
     refine wpAnyH_ready (rs := [0]) (by kernel_rfl) (by simp) ?_
     refine AllReadyH.cons (o := ⟨_, _, _, _, _, _⟩) rfl (fun K hK => ?_) AllReadyH.nil
     refine step_load_mid rfl 34 (.tmp 2) rfl b 0 rfl X1 _ (HRG.out _ KS).1.rangeAll Tryz.underlying34 rfl HI.out.1 ?_
     refine hK.out _ _ trivial (fun _ => ?_)
     clear hK K
     try simp only [Act.put, List.setIfInBounds_toArray, List.set_cons_zero, List.set_cons_succ]
     refine wpAnyH_ready (rs := [1]) (by kernel_rfl) (by simp) ?_
     refine AllReadyH.cons (o := ⟨_, _, _, _, _, _⟩) rfl (fun K hK => ?_) AllReadyH.nil
     go_simp
     refine (HC1.out _ KS).mono ?_
     rintro e v1 ⟨Y1, G1, rfl, i1, g1, k1⟩
     have Q1 := Lib.hid (And.intro i1 (And.intro g1 k1))
     clear i1 g1
     have K1 := KS.then k1 (by simp)
     clear k1
     go_wp2_with fail
     refine hK.out _ _ trivial (fun _ => ?_)
     clear hK K
     try simp only [Act.put, List.setIfInBounds_toArray, List.set_cons_zero, List.set_cons_succ]
     refine wpAnyH_ready (rs := [3]) (by kernel_rfl) (by simp) ?_
     refine AllReadyH.cons (o := ⟨_, _, _, _, _, _⟩) rfl (fun K hK => ?_) AllReadyH.nil
     go_simp
     refine (HC2.out _ K1).mono ?_
     rintro e v2 ⟨Y2, G2, rfl, i2, g2, k2⟩
     have Q2 := Lib.hid (And.intro i2 (And.intro g2 k2))
     clear i2 g2
     have K2 := K1.then k2 (by simp)
     clear k2
     go_wp2_with fail
     refine hK.out _ _ trivial (fun _ => ?_)
     clear hK K
     try simp only [Act.put, List.setIfInBounds_toArray, List.set_cons_zero, List.set_cons_succ]
     refine wpAnyH_ready (rs := [4]) (by kernel_rfl) (by simp) ?_
     refine AllReadyH.cons (o := ⟨_, _, _, _, _, _⟩) rfl (fun K hK => ?_) AllReadyH.nil
     have k4 : keepBut [b] v2 (v2.setCells b 0 Y1) := (keepBut.refl _ _).setL (.inl (by simp))
     refine step_store_mid rfl 34 (.tmp 2) (.tmp 24) rfl b 0 Y1.toArray rfl rfl ((HRG.out _ K2).1.there (by have h9 : Y1.length = 87 := Q1.out.1.len; have := HB.out.2.2.2.2.1; simp only [List.size_toArray]; omega)) (by rw [List.size_toArray, Q1.out.1.len]; exact info_pk) (all_oneCell_toArray Q1.out.1.one) ?_
     refine hK.out _ _ trivial (fun _ => ?_)
     clear hK K
     try simp only [Act.put, List.setIfInBounds_toArray, List.set_cons_zero, List.set_cons_succ]
     refine wpAnyH_ready (rs := [5]) (by kernel_rfl) (by simp) ?_
     refine AllReadyH.cons (o := ⟨_, _, _, _, _, _⟩) rfl (fun K hK => ?_) AllReadyH.nil
     refine step_store_mid rfl 34 (.tmp 3) (.tmp 26) rfl (b + 1) 0 Y2.toArray rfl rfl ((k4.row (HRG.out _ K2).2 (by simp)).there (by have h9 : Y2.length = 87 := Q2.out.1.len; have := HB.out.2.2.2.2.2.1; simp only [List.size_toArray]; omega)) (by rw [List.size_toArray, Q2.out.1.len]; exact info_pk) (all_oneCell_toArray Q2.out.1.one) ?_
     refine hK.out _ _ trivial (fun _ => ?_)
     clear hK K
     try simp only [Act.put, List.setIfInBounds_toArray, List.set_cons_zero, List.set_cons_succ]
     refine wpAnyH_done (by kernel_rfl) ?_ _
     go_wp2_with fail
     have k5 : keepBut [b + 1] (v2.setCells b 0 Y1) ((v2.setCells b 0 Y1).setCells (b + 1) 0 Y2) := (keepBut.refl _ _).setL (.inl (by simp))
     have ra := (HRG.out _ K2).1.setL (vs := Y1) (o := 0)
     rw [putL_all (by rw [List.size_toArray, Q1.out.1.len, HB.out.2.2.2.2.1])] at ra
     have rb := (k4.row (HRG.out _ K2).2 (by simp)).setL (vs := Y2) (o := 0)
     rw [putL_all (by rw [List.size_toArray, Q2.out.1.len, HB.out.2.2.2.2.2.1])] at rb
     have hbw := HW.out.2.2.1
     have hw2s : b + 1 < w2.heap.size := (HRG.out _ (keepBut.refl [] w2)).2.lt
     have gf : ∀ (F G : List Nat) (v v' : World), (∀ y ∈ F, y < w.heap.size) → keepBut [] w2 v → (∀ y ∈ G, y ∈ F ∨ (v.heap.size ≤ y ∧ y < v'.heap.size)) → ∀ y ∈ G, y ≠ b ∧ y ≠ b + 1 := fun F G v v' hF hk hG y hy => by
       rcases hG y hy with h | h
       · have := hF y h; omega
       · have := hk.size; omega
     try simp only [List.toList_toArray]
     go_meet
     have kk : keepBut [] w ((v2.setCells b 0 Y1).setCells (b + 1) 0 Y2) := ((HB.out.1.then K2 (by simp)).then k4 (fun x hx => .inr (by simp only [List.mem_singleton] at hx; omega))).then k5 (fun x hx => .inr (by simp only [List.mem_singleton] at hx; omega))
     have g1 := gf F1 G1 _ _ HB.out.2.2.2.2.2.2.1 KS Q1.out.2.1
     have g2 := gf F2 G2 _ _ HB.out.2.2.2.2.2.2.2 K1 Q2.out.2.1
     have s12 := Q2.out.2.2.size
     have h1l : ∀ y ∈ G1, y < v2.heap.size := fun y hy => by
       rcases Q1.out.2.1 y hy with h | h
       · have a := HB.out.2.2.2.2.2.2.1 y h; have c := HB.out.1.size; have d := K2.size; omega
       · omega
     have h2l : ∀ y ∈ G2, y < v2.heap.size := fun y hy => by
       rcases Q2.out.2.1 y hy with h | h
       · have a := HB.out.2.2.2.2.2.2.2 y h; have c := HB.out.1.size; have d := K2.size; omega
       · omega
     have s4 := k4.size
     have s5 := k5.size
     exact ⟨Y1, G1, Y2, G2, k5.row ra (by simp), rb, ((Q1.out.1.keep Q2.out.2.2 (by simp)).keep k4 (fun y hy => by have := g1 y hy; simp; omega)).keep k5 (fun y hy => by have := g1 y hy; simp; omega), (Q2.out.1.keep k4 (fun y hy => by have := g2 y hy; simp; omega)).keep k5 (fun y hy => by have := g2 y hy; simp; omega), fun y hy => by have := h1l y hy; omega, fun y hy => by have := h2l y hy; omega, kk⟩
  case rest =>
    obtain ⟨Y1, G1, Y2, G2, ra, rb, i1, i2, l1, l2, k5⟩ := hcut
    generalize wc = w5 at *
    clear HRG HC1 HC2 HI
    obtain ⟨P, hP⟩ : ∃ P, p.cutW = P := ⟨_, rfl⟩
    obtain ⟨Q, hQ⟩ : ∃ Q, q.cutW = Q := ⟨_, rfl⟩
    have hfp := p.cutW_fits
    have hfq := q.cutW_fits
    have hb1 : i64P P.frm := by rw [← hP]; exact HB.out.2.2.1
    have hb2 : i64P P.dst := by rw [← hP]; exact HB.out.2.2.2.1
    rw [hP] at i1 hfp
    rw [hQ] at i2 hfq
    obtain ⟨ev, av, cv, vv, bw, hY1, hv1⟩ := id i1
    dsimp only at hY1 hv1
    obtain ⟨ev2, av2, cv2, vv2, bw2, hY2, hv2⟩ := id i2
    dsimp only at hY2 hv2
    have hflw := HB.out.2.1
    have hrk := ra
    rw [hY1] at hrk
    have HRW : Hid (∀ wx, keepBut [] w5 wx → wx.rangeAt b 0 Y1 ∧ wx.rangeAt (b + 1) 0 Y2 ∧ pkAt wx b P ev av cv vv bw ∧ keepBut [] w wx) := Lib.hid (fun wx k => ⟨(k.row ra (by simp)).rangeAll, (k.row rb (by simp)).rangeAll, (k.row hrk (by simp)).pk hv1.rn hv1.an, k5.then k (by simp)⟩)
    have HLN := Lib.hid (And.intro i1.len (And.intro i2.len (And.intro i1.one i2.one)))
    obtain ⟨RL, hRL⟩ : ∃ L, rqL P.req ev = L := ⟨_, rfl⟩
    obtain ⟨AL, hAL⟩ : ∃ L, anL P.ans av = L := ⟨_, rfl⟩
    have HRL := Lib.hid (And.intro (show RL.length = 37 by rw [← hRL]; exact rqL_len hv1.rn) hRL)
    have HAL := Lib.hid (And.intro (show AL.length = 38 by rw [← hAL]; exact anL_len hv1.an) hAL)
    obtain ⟨E, hE⟩ : ∃ E, toldP P.ok = E := ⟨_, rfl⟩
    obtain ⟨Er, hEr⟩ : ∃ E, toldP P.req.ok = E := ⟨_, rfl⟩
    obtain ⟨Ea, hEa⟩ : ∃ E, toldP P.ans.ok = E := ⟨_, rfl⟩
    obtain ⟨Ec, hEc⟩ : ∃ E, toldP P.conf.ok = E := ⟨_, rfl⟩
    have hee : (E != E) = false := by simp
    have her : (Er != Er) = false := by simp
    have hea : (Ea != Ea) = false := by simp
    have hec : (Ec != Ec) = false := by simp
    obtain ⟨SB, hSB⟩ : ∃ S, P.same Q = S := ⟨_, rfl⟩
    have hss : (SB != SB) = false := by cases SB <;> rfl
    have HBY : Hid (∀ wx, keepBut [] w5 wx → Calls Tryz.prog 7 #[.agg Y1.toArray] wx (outQ wx E (if P.ok then pkB P else []))) := Lib.hid (fun wx k => by
      rw [hY1, ← hE]; exact bytes2 G1 P ev av cv vv bw wx (hv1.over k) ((hflw.keep k5 (by simp)).keep k (by simp)) hb1 hb2)
    have HBD : Hid (∀ wx, keepBut [] w5 wx → Calls Tryz.prog 8 #[.agg Y1.toArray] wx (outQ wx E (if P.ok then pkB P else []))) := Lib.hid (fun wx k => by
      rw [hY1, ← hE]; exact bytes2D G1 P ev av cv vv bw wx (hv1.over k) hfp)
    have HCH : Hid (∀ wx, keepBut [] w5 wx → Calls Tryz.prog 9 #[.agg Y1.toArray] wx fun e w' => e = .returned (.int .i64 E) ∧ keepBut [] wx w') := Lib.hid (fun wx k => by
      rw [hY1, ← hE]; exact check_any G1 P ev av cv vv bw wx (hv1.over k) ((hflw.keep k5 (by simp)).keep k (by simp)) hb1 hb2)
    have HCD : Hid (∀ wx, keepBut [] w5 wx → Calls Tryz.prog 10 #[.agg Y1.toArray] wx fun e w' => e = .returned (.int .i64 E) ∧ keepBut [] wx w') := Lib.hid (fun wx k => by
      rw [← hE]; exact checkDX G1 P Y1 wx (i1.keep k (by simp)) hfp)
    have HSM : Hid (∀ wx, keepBut [] w5 wx → Calls Tryz.prog 12 #[.agg Y1.toArray, .agg Y2.toArray] wx fun e w' => e = .returned (.bool SB) ∧ keepBut [] wx w') := Lib.hid (fun wx k => by
      rw [hY1, hY2, ← hSB]; exact pkSame_any G1 G2 P Q ev av cv vv bw ev2 av2 cv2 vv2 bw2 wx (hv1.over k) (hv2.over k))
    have HSD : Hid (∀ wx, keepBut [] w5 wx → Calls Tryz.prog 13 #[.agg Y1.toArray, .agg Y2.toArray] wx fun e w' => e = .returned (.bool SB) ∧ keepBut [] wx w') := Lib.hid (fun wx k => by
      rw [← hSB]; exact sameDX G1 G2 P Q Y1 Y2 wx (i1.keep k (by simp)) (i2.keep k (by simp)) hfp hfq)
    have HRQ : Hid (∀ wx, keepBut [] w5 wx → Calls Tryz.prog 14 #[.agg RL.toArray] wx (outQ wx Er (if P.req.ok then reqB P.req else [])) ∧ Calls Tryz.prog 15 #[.agg RL.toArray] wx (outQ wx Er (if P.req.ok then reqB P.req else [])) ∧ Calls Tryz.prog 20 #[.agg RL.toArray] wx fun e w' => e = .returned (.int .i64 Er) ∧ keepBut [] wx w') := Lib.hid (fun wx k => by
      rw [← hRL, ← hEr]; exact ⟨bytesReq2 G1 P.req ev wx ⟨hv1.rn, (hv1.over k).re⟩, bytesReq2D G1 P.req ev wx ⟨hv1.rn, (hv1.over k).re⟩, checkReq_any G1 P.req ev wx ⟨hv1.rn, (hv1.over k).re⟩⟩)
    have HRA : Hid (∀ wx, keepBut [] w5 wx → Calls Tryz.prog 16 #[.agg AL.toArray] wx (outQ wx Ea (if P.ans.ok then ansB P.ans else [])) ∧ Calls Tryz.prog 17 #[.agg AL.toArray] wx (outQ wx Ea (if P.ans.ok then ansB P.ans else [])) ∧ Calls Tryz.prog 21 #[.agg AL.toArray] wx fun e w' => e = .returned (.int .i64 Ea) ∧ keepBut [] wx w') := Lib.hid (fun wx k => by
      rw [← hAL, ← hEa]; exact ⟨bytesAns2 G1 P.ans av wx ⟨hv1.an, (hv1.over k).ae⟩, bytesAns2D G1 P.ans av wx ⟨hv1.an, (hv1.over k).ae⟩, checkAns_any G1 P.ans av wx ⟨hv1.an, (hv1.over k).ae⟩⟩)
    have HRC : Hid (∀ wx, keepBut [] w5 wx → Calls Tryz.prog 18 #[.agg (cfL P.conf cv).toArray] wx (outQ wx Ec (if P.conf.ok then cfB P.conf else [])) ∧ Calls Tryz.prog 19 #[.agg (cfL P.conf cv).toArray] wx (outQ wx Ec (if P.conf.ok then cfB P.conf else [])) ∧ Calls Tryz.prog 22 #[.agg (cfL P.conf cv).toArray] wx fun e w' => e = .returned (.int .i64 Ec) ∧ keepBut [] wx w') := Lib.hid (fun wx k => by
      rw [← hEc]; exact ⟨bytesConf2 G1 P.conf cv wx (hv1.over k).cc, bytesConf2D G1 P.conf cv wx (hv1.over k).cc, checkConf_any G1 P.conf cv wx (hv1.over k).cc⟩)
    have HIT := Lib.hid (And.intro i1 (And.intro hfp (And.intro l1 (And.intro hv1 hY1))))
    clear ra rb hrk hfq hb1 hb2 i1 i2 hv1 hv2 hY1 hY2 hflw l1 l2 hP hQ hRL hAL hE hEr hEa hEc hSB hfp k5
    go_upto_region 3 with (first
      | (refine wpList_load_mid rfl 34 (.tmp 2) rfl b 0 rfl Y1 _ (HRW.out _ (keepBut.refl [] w5)).1 Tryz.underlying34 rfl (by rw [HLN.out.1]; exact info_pk) ?_)
      | (go_at_call 7; refine (HBY.out _ (keepBut.refl [] w5)).mono ?_; rintro e w6 ⟨u6, Ga6, rfl, hb6, -, kk⟩; have N6 := Lib.hid (And.intro hb6 ((keepBut.refl [] w5).then kk (by simp))); have J6 := Lib.hid kk; clear hb6 kk))
    go_upto_region 4 with (first
      | (refine wpList_load_mid rfl 34 (.tmp 2) rfl b 0 rfl Y1 _ (HRW.out _ N6.out.2).1 Tryz.underlying34 rfl (by rw [HLN.out.1]; exact info_pk) ?_)
      | (go_at_call 8; refine (HBD.out _ N6.out.2).mono ?_; rintro e w7 ⟨u7, Ga7, rfl, hb7, -, kk⟩; have N7 := Lib.hid (And.intro hb7 (N6.out.2.then kk (by simp))); have J7 := Lib.hid kk; clear hb7 kk))
    have KS : keepBut [] w5 w7.drew := N7.out.2.drew
    refine wp_region_held_drew (S := fun W => keepBut [] w5 W) (by kernel_rfl) KS (fun _ => ?_)
    refine wpAnyH_take (i := 0) (oi := ⟨_, _, _, _, _, _⟩) (v := .agg (Y1).toArray) rfl (by kernel_rfl) (by kernel_rfl) (by kernel_rfl) (fun _ _ _ h => h) (yieldsIf_mid 34 (.tmp 2) rfl b 0 rfl (Y1) _ (fun w' hSw => (HRW.out w' hSw).1) Tryz.underlying34 rfl (by rw [HLN.out.1]; exact info_pk) ?_) KS ?_
    · rfl
    try simp only [Act.put, List.setIfInBounds_toArray, List.set_cons_zero, List.set_cons_succ]
    refine wpAnyH_take (i := 2) (oi := ⟨_, _, _, _, _, _⟩) (v := .agg (Y1).toArray) rfl (by kernel_rfl) (by kernel_rfl) (by kernel_rfl) (fun _ _ _ h => h) (yieldsIf_mid 34 (.tmp 2) rfl b 0 rfl (Y1) _ (fun w' hSw => (HRW.out w' hSw).1) Tryz.underlying34 rfl (by rw [HLN.out.1]; exact info_pk) ?_) KS ?_
    · rfl
    try simp only [Act.put, List.setIfInBounds_toArray, List.set_cons_zero, List.set_cons_succ]
    refine wpAnyH_ready (rs := [1]) (by kernel_rfl) (by simp) ?_
    refine AllReadyH.cons (o := ⟨_, _, _, _, _, _⟩) rfl (fun K hK => ?_) AllReadyH.nil
    go_simp
    refine (HCH.out _ KS).mono ?_
    rintro e v1 ⟨rfl, kk⟩
    have C1 := Lib.hid kk
    have M1 := Lib.hid (KS.then kk (by simp))
    clear kk
    go_wp2_with fail
    refine hK.out _ _ M1.out (fun _ => ?_)
    clear hK K
    try simp only [Act.put, List.setIfInBounds_toArray, List.set_cons_zero, List.set_cons_succ]
    refine wpAnyH_ready (rs := [3]) (by kernel_rfl) (by simp) ?_
    refine AllReadyH.cons (o := ⟨_, _, _, _, _, _⟩) rfl (fun K hK => ?_) AllReadyH.nil
    go_simp
    refine (HCD.out _ M1.out).mono ?_
    rintro e v2 ⟨rfl, kk⟩
    have C2 := Lib.hid kk
    have M2 := Lib.hid (M1.out.then kk (by simp))
    clear kk
    go_wp2_with fail
    refine hK.out _ _ M2.out (fun _ => ?_)
    clear hK K
    try simp only [Act.put, List.setIfInBounds_toArray, List.set_cons_zero, List.set_cons_succ]
    refine wpAnyH_take (i := 4) (oi := ⟨_, _, _, _, _, _⟩) (v := ?_) rfl (by kernel_rfl) (by kernel_rfl) (by kernel_rfl) (fun _ _ _ h => h) (Or.inl ⟨by rfl, ?_⟩) M2.out ?_
    rotate_left
    · intro w' hSw; (go_simp; try with_reducible rfl)
    try simp only [Act.put, List.setIfInBounds_toArray, List.set_cons_zero, List.set_cons_succ]
    refine wpAnyH_take (i := 5) (oi := ⟨_, _, _, _, _, _⟩) (v := ?_) rfl (by kernel_rfl) (by kernel_rfl) (by kernel_rfl) (fun _ _ _ h => h) (Or.inl ⟨by rfl, ?_⟩) M2.out ?_
    rotate_left
    · intro w' hSw; (go_simp; try with_reducible rfl)
    try simp only [Act.put, List.setIfInBounds_toArray, List.set_cons_zero, List.set_cons_succ]
    refine wpAnyH_take (i := 6) (oi := ⟨_, _, _, _, _, _⟩) (v := ?_) rfl (by kernel_rfl) (by kernel_rfl) (by kernel_rfl) (fun _ _ _ h => h) (Or.inl ⟨by rfl, ?_⟩) M2.out ?_
    rotate_left
    · intro w' hSw; (go_simp; try with_reducible rfl)
    try simp only [Act.put, List.setIfInBounds_toArray, List.set_cons_zero, List.set_cons_succ]
    refine wpAnyH_take (i := 7) (oi := ⟨_, _, _, _, _, _⟩) (v := ?_) rfl (by kernel_rfl) (by kernel_rfl) (by kernel_rfl) (fun _ _ _ h => h) (Or.inl ⟨by rfl, ?_⟩) M2.out ?_
    rotate_left
    · intro w' hSw; (go_simp; try with_reducible rfl)
    try simp only [Act.put, List.setIfInBounds_toArray, List.set_cons_zero, List.set_cons_succ]
    refine wpAnyH_ready (rs := [8]) (by kernel_rfl) (by simp) ?_
    refine AllReadyH.cons (o := ⟨_, _, _, _, _, _⟩) rfl (fun K hK => ?_) AllReadyH.nil
    go_simp
    have HKA := Lib.hid (show keepBut [] w6 v2 from (J7.out.then (keepBut.refl [] w7).drew (by simp)).then (C1.out.then C2.out (by simp)) (by simp))
    have HKB := Lib.hid (show keepBut [] w7 v2 from ((keepBut.refl [] w7).drew).then (C1.out.then C2.out (by simp)) (by simp))
    refine (eqV_any _ _ u6 u7 _ v2 (N6.out.1.keep HKA.out (by simp)) (N7.out.1.keep HKB.out (by simp))).mono ?_
    rintro e v3 ⟨rfl, rfl⟩
    go_wp2_with fail
    refine hK.out _ _ M2.out (fun _ => ?_)
    clear hK K
    try simp only [Act.put, List.setIfInBounds_toArray, List.set_cons_zero, List.set_cons_succ]
    refine wpAnyH_take (i := 9) (oi := ⟨_, _, _, _, _, _⟩) (v := ?_) rfl (by kernel_rfl) (by kernel_rfl) (by kernel_rfl) (fun _ _ _ h => h) (Or.inl ⟨by rfl, ?_⟩) M2.out ?_
    rotate_left
    · intro w' hSw; (go_simp; try with_reducible rfl)
    try simp only [Act.put, List.setIfInBounds_toArray, List.set_cons_zero, List.set_cons_succ]
    refine wpAnyH_take (i := 10) (oi := ⟨_, _, _, _, _, _⟩) (v := ?_) rfl (by kernel_rfl) (by kernel_rfl) (by kernel_rfl) (fun _ _ _ h => h) (Or.inl ⟨by rfl, ?_⟩) M2.out ?_
    rotate_left
    · intro w' hSw; (go_simp; try with_reducible rfl)
    try simp only [Act.put, List.setIfInBounds_toArray, List.set_cons_zero, List.set_cons_succ]
    refine wpAnyH_take (i := 11) (oi := ⟨_, _, _, _, _, _⟩) (v := ?_) rfl (by kernel_rfl) (by kernel_rfl) (by kernel_rfl) (fun _ _ _ h => h) (Or.inl ⟨by rfl, ?_⟩) M2.out ?_
    rotate_left
    · intro w' hSw; (go_simp; try with_reducible rfl)
    try simp only [Act.put, List.setIfInBounds_toArray, List.set_cons_zero, List.set_cons_succ]
    refine wpAnyH_take (i := 12) (oi := ⟨_, _, _, _, _, _⟩) (v := ?_) rfl (by kernel_rfl) (by kernel_rfl) (by kernel_rfl) (fun _ _ _ h => h) (Or.inl ⟨by rfl, ?_⟩) M2.out ?_
    rotate_left
    · intro w' hSw; (go_simp; try with_reducible rfl)
    try simp only [Act.put, List.setIfInBounds_toArray, List.set_cons_zero, List.set_cons_succ]
    refine wpAnyH_take (i := 13) (oi := ⟨_, _, _, _, _, _⟩) (v := ?_) rfl (by kernel_rfl) (by kernel_rfl) (by kernel_rfl) (fun _ _ _ h => h) (Or.inl ⟨by rfl, ?_⟩) M2.out ?_
    rotate_left
    · intro w' hSw; (go_simp; try with_reducible rfl)
    try simp only [Act.put, List.setIfInBounds_toArray, List.set_cons_zero, List.set_cons_succ]
    refine wpAnyH_take (i := 14) (oi := ⟨_, _, _, _, _, _⟩) (v := ?_) rfl (by kernel_rfl) (by kernel_rfl) (by kernel_rfl) (fun _ _ _ h => h) (Or.inl ⟨by rfl, ?_⟩) M2.out ?_
    rotate_left
    · intro w' hSw; (go_simp; try with_reducible rfl)
    try simp only [Act.put, List.setIfInBounds_toArray, List.set_cons_zero, List.set_cons_succ]
    refine wpAnyH_take (i := 15) (oi := ⟨_, _, _, _, _, _⟩) (v := ?_) rfl (by kernel_rfl) (by kernel_rfl) (by kernel_rfl) (fun _ _ _ h => h) (Or.inl ⟨by rfl, ?_⟩) M2.out ?_
    rotate_left
    · intro w' hSw; (go_simp; try with_reducible rfl)
    try simp only [Act.put, List.setIfInBounds_toArray, List.set_cons_zero, List.set_cons_succ]
    refine wpAnyH_take (i := 16) (oi := ⟨_, _, _, _, _, _⟩) (v := ?_) rfl (by kernel_rfl) (by kernel_rfl) (by kernel_rfl) (fun _ _ _ h => h) (Or.inl ⟨by rfl, ?_⟩) M2.out ?_
    rotate_left
    · intro w' hSw; (go_simp; try with_reducible rfl)
    try simp only [Act.put, List.setIfInBounds_toArray, List.set_cons_zero, List.set_cons_succ]
    refine wpAnyH_take (i := 17) (oi := ⟨_, _, _, _, _, _⟩) (v := .agg (Y1).toArray) rfl (by kernel_rfl) (by kernel_rfl) (by kernel_rfl) (fun _ _ _ h => h) (yieldsIf_mid 34 (.tmp 2) rfl b 0 rfl (Y1) _ (fun w' hSw => (HRW.out w' hSw).1) Tryz.underlying34 rfl (by rw [HLN.out.1]; exact info_pk) ?_) M2.out ?_
    · rfl
    try simp only [Act.put, List.setIfInBounds_toArray, List.set_cons_zero, List.set_cons_succ]
    refine wpAnyH_take (i := 18) (oi := ⟨_, _, _, _, _, _⟩) (v := .agg (Y2).toArray) rfl (by kernel_rfl) (by kernel_rfl) (by kernel_rfl) (fun _ _ _ h => h) (yieldsIf_mid 34 (.tmp 3) rfl (b + 1) 0 rfl (Y2) _ (fun w' hSw => (HRW.out w' hSw).2.1) Tryz.underlying34 rfl (by rw [HLN.out.2.1]; exact info_pk) ?_) M2.out ?_
    · rfl
    try simp only [Act.put, List.setIfInBounds_toArray, List.set_cons_zero, List.set_cons_succ]
    refine wpAnyH_take (i := 20) (oi := ⟨_, _, _, _, _, _⟩) (v := .agg (Y1).toArray) rfl (by kernel_rfl) (by kernel_rfl) (by kernel_rfl) (fun _ _ _ h => h) (yieldsIf_mid 34 (.tmp 2) rfl b 0 rfl (Y1) _ (fun w' hSw => (HRW.out w' hSw).1) Tryz.underlying34 rfl (by rw [HLN.out.1]; exact info_pk) ?_) M2.out ?_
    · rfl
    try simp only [Act.put, List.setIfInBounds_toArray, List.set_cons_zero, List.set_cons_succ]
    refine wpAnyH_take (i := 21) (oi := ⟨_, _, _, _, _, _⟩) (v := .agg (Y2).toArray) rfl (by kernel_rfl) (by kernel_rfl) (by kernel_rfl) (fun _ _ _ h => h) (yieldsIf_mid 34 (.tmp 3) rfl (b + 1) 0 rfl (Y2) _ (fun w' hSw => (HRW.out w' hSw).2.1) Tryz.underlying34 rfl (by rw [HLN.out.2.1]; exact info_pk) ?_) M2.out ?_
    · rfl
    try simp only [Act.put, List.setIfInBounds_toArray, List.set_cons_zero, List.set_cons_succ]
    refine wpAnyH_ready (rs := [19]) (by kernel_rfl) (by simp) ?_
    refine AllReadyH.cons (o := ⟨_, _, _, _, _, _⟩) rfl (fun K hK => ?_) AllReadyH.nil
    go_simp
    refine (HSM.out _ M2.out).mono ?_
    rintro e v4 ⟨rfl, kk⟩
    have M4 := Lib.hid (M2.out.then kk (by simp))
    clear kk
    go_wp2_with fail
    refine hK.out _ _ M4.out (fun _ => ?_)
    clear hK K
    try simp only [Act.put, List.setIfInBounds_toArray, List.set_cons_zero, List.set_cons_succ]
    refine wpAnyH_ready (rs := [22]) (by kernel_rfl) (by simp) ?_
    refine AllReadyH.cons (o := ⟨_, _, _, _, _, _⟩) rfl (fun K hK => ?_) AllReadyH.nil
    go_simp
    refine (HSD.out _ M4.out).mono ?_
    rintro e v5 ⟨rfl, kk⟩
    have M5 := Lib.hid (M4.out.then kk (by simp))
    clear kk
    go_wp2_with fail
    refine hK.out _ _ M5.out (fun _ => ?_)
    clear hK K
    try simp only [Act.put, List.setIfInBounds_toArray, List.set_cons_zero, List.set_cons_succ]
    refine wpAnyH_take (i := 23) (oi := ⟨_, _, _, _, _, _⟩) (v := ?_) rfl (by kernel_rfl) (by kernel_rfl) (by kernel_rfl) (fun _ _ _ h => h) (Or.inl ⟨by rfl, ?_⟩) M5.out ?_
    rotate_left
    · intro w' hSw; (go_simp; try with_reducible rfl)
    try simp only [Act.put, List.setIfInBounds_toArray, List.set_cons_zero, List.set_cons_succ]
    refine wpAnyH_take (i := 24) (oi := ⟨_, _, _, _, _, _⟩) (v := ?_) rfl (by kernel_rfl) (by kernel_rfl) (by kernel_rfl) (fun _ _ _ h => h) (Or.inl ⟨by rfl, ?_⟩) M5.out ?_
    rotate_left
    · intro w' hSw; (go_simp; try with_reducible rfl)
    try simp only [Act.put, List.setIfInBounds_toArray, List.set_cons_zero, List.set_cons_succ]
    refine wpAnyH_done (by kernel_rfl) ?_ _
    go_upto_region 6 with fail
    go_upto_region 7 with (first
      | (refine wpList_load_mid rfl 26 (.tmp 63) rfl b 7 rfl RL _ (HRL.out.2 ▸ (HRW.out _ M5.out).2.2.1.rq) Tryz.underlying26 rfl (by rw [HRL.out.1]; exact info_rq) ?_)
      | (go_at_call 14; refine ((HRQ.out _ M5.out).1).mono ?_; rintro e w8 ⟨u8, Ga8, rfl, hb8, -, kk⟩; have N8 := Lib.hid (And.intro hb8 (M5.out.then kk (by simp))); have J8 := Lib.hid kk; clear hb8 kk))
    go_upto_region 8 with (first
      | (refine wpList_load_mid rfl 26 (.tmp 69) rfl b 7 rfl RL _ (HRL.out.2 ▸ (HRW.out _ N8.out.2).2.2.1.rq) Tryz.underlying26 rfl (by rw [HRL.out.1]; exact info_rq) ?_)
      | (go_at_call 15; refine ((HRQ.out _ N8.out.2).2.1).mono ?_; rintro e w9 ⟨u9, Ga9, rfl, hb9, -, kk⟩; have N9 := Lib.hid (And.intro hb9 (N8.out.2.then kk (by simp))); have J9 := Lib.hid kk; clear hb9 kk))
    go_upto_region 9 with (first
      | (refine wpList_load_mid rfl 28 (.tmp 75) rfl b 44 rfl AL _ (HAL.out.2 ▸ (HRW.out _ N9.out.2).2.2.1.an) Tryz.underlying28 rfl (by rw [HAL.out.1]; exact info_an) ?_)
      | (go_at_call 16; refine ((HRA.out _ N9.out.2).1).mono ?_; rintro e w10 ⟨u10, Ga10, rfl, hb10, -, kk⟩; have N10 := Lib.hid (And.intro hb10 (N9.out.2.then kk (by simp))); have J10 := Lib.hid kk; clear hb10 kk))
    go_upto_region 10 with (first
      | (refine wpList_load_mid rfl 28 (.tmp 81) rfl b 44 rfl AL _ (HAL.out.2 ▸ (HRW.out _ N10.out.2).2.2.1.an) Tryz.underlying28 rfl (by rw [HAL.out.1]; exact info_an) ?_)
      | (go_at_call 17; refine ((HRA.out _ N10.out.2).2.1).mono ?_; rintro e w11 ⟨u11, Ga11, rfl, hb11, -, kk⟩; have N11 := Lib.hid (And.intro hb11 (N10.out.2.then kk (by simp))); have J11 := Lib.hid kk; clear hb11 kk))
    have d0 := (HRW.out _ N11.out.2).2.2.1.d0
    have d1 := (HRW.out _ N11.out.2).2.2.1.d1
    have d2 := (HRW.out _ N11.out.2).2.2.1.d2
    go_upto_region 11 with (first
      | (fail)
      | (go_at_call 18; refine ((HRC.out _ N11.out.2).1).mono ?_; rintro e w12 ⟨u12, Ga12, rfl, hb12, -, kk⟩; have N12 := Lib.hid (And.intro hb12 (N11.out.2.then kk (by simp))); have J12 := Lib.hid kk; clear hb12 kk))
    clear d0 d1 d2
    have d0 := (HRW.out _ N12.out.2).2.2.1.d0
    have d1 := (HRW.out _ N12.out.2).2.2.1.d1
    have d2 := (HRW.out _ N12.out.2).2.2.1.d2
    go_upto_region 12 with (first
      | (fail)
      | (go_at_call 19; refine ((HRC.out _ N12.out.2).2.1).mono ?_; rintro e w13 ⟨u13, Ga13, rfl, hb13, -, kk⟩; have N13 := Lib.hid (And.intro hb13 (N12.out.2.then kk (by simp))); have J13 := Lib.hid kk; clear hb13 kk))
    clear d0 d1 d2
    have k913 := (((J9.out.then J10.out (by simp)).then J11.out (by simp)).then J12.out (by simp)).then J13.out (by simp)
    have E8 := Lib.hid (N8.out.1.keep k913 (by simp))
    have E9 := Lib.hid (N9.out.1.keep (((J10.out.then J11.out (by simp)).then J12.out (by simp)).then J13.out (by simp)) (by simp))
    have E10 := Lib.hid (N10.out.1.keep ((J11.out.then J12.out (by simp)).then J13.out (by simp)) (by simp))
    have E11 := Lib.hid (N11.out.1.keep (J12.out.then J13.out (by simp)) (by simp))
    have E12 := Lib.hid (N12.out.1.keep J13.out (by simp))
    clear k913 J9 J10 J11 J12 N8 N9 N10 N11 N12
    go_upto_region 14 with (first
      | (go_at_call 11; (with_reducible refine (eqV_any _ _ u8 u9 _ w13 E8.out E9.out).mono ?_); rintro e w' ⟨rfl, rfl⟩)
      | (go_at_call 11; (with_reducible refine (eqV_any _ _ u10 u11 _ w13 E10.out E11.out).mono ?_); rintro e w' ⟨rfl, rfl⟩)
      | (go_at_call 11; (with_reducible refine (eqV_any _ _ u12 u13 _ w13 E12.out N13.out.1).mono ?_); rintro e w' ⟨rfl, rfl⟩)
      | (refine wpList_load_mid_g 26 (.tmp 130) rfl b 7 rfl RL _ (HRL.out.2 ▸ (HRW.out _ N13.out.2).2.2.1.rq) Tryz.underlying26 rfl (by rw [HRL.out.1]; exact info_rq) ?_ ?_; · rfl)
      | (go_at_call 20; refine (HRQ.out _ N13.out.2).2.2.mono ?_; rintro e w14 ⟨rfl, kk⟩; have N14 := Lib.hid (N13.out.2.then kk (by simp)); clear kk)
      | (refine wpList_load_mid_g 28 (.tmp 137) rfl b 44 rfl AL _ (HAL.out.2 ▸ (HRW.out _ N14.out).2.2.1.an) Tryz.underlying28 rfl (by rw [HAL.out.1]; exact info_an) ?_ ?_; · rfl)
      | (go_at_call 21; refine (HRA.out _ N14.out).2.2.mono ?_; rintro e w15 ⟨rfl, kk⟩; have N15 := Lib.hid (N14.out.then kk (by simp)); have d0 := (HRW.out _ N15.out).2.2.1.d0; have d1 := (HRW.out _ N15.out).2.2.1.d1; have d2 := (HRW.out _ N15.out).2.2.1.d2; clear kk)
      | (go_at_call 22; refine (HRC.out _ N15.out).2.2.mono ?_; rintro e w16 ⟨rfl, kk⟩; have N16 := Lib.hid (N15.out.then kk (by simp)); clear kk))
    clear d0 d1 d2 E8 E9 E10 E11 E12 her hea hec hee hss N13 N14 J13
    obtain ⟨Z, hZl, hZ, -, -⟩ := zeroP
    have HZ := Lib.hid (And.intro hZ hZl)
    clear hZ hZl
    go_upto_region 15 with (first
      | (refine wpList_load_mid rfl 34 (.tmp 2) rfl b 0 rfl Y1 _ (HRW.out _ N16.out).1 Tryz.underlying34 rfl (by rw [HLN.out.1]; exact info_pk) ?_)
      | (go_at_call 23; (with_reducible refine (copyDX G1 P Y1 w16 (HIT.out.1.keep N16.out (by simp)) HIT.out.2.1).mono ?_); rintro e w17 ⟨Xw, Gw, rfl, iw, nw, kk⟩; have W17 := Lib.hid (And.intro iw (And.intro nw (And.intro (N16.out.then kk (by simp)) kk))); have HT17 := Lib.hid (there_newP (w := w17) (t := 34) (Z := Z) (X := Xw) (by rw [W17.out.1.len]; exact HZ.out.2.symm)); have ST17 := Lib.hid (storedP (w := w17) (t := 34) (Z := Z) (X := Xw) (by rw [W17.out.1.len]; exact HZ.out.2.symm)); obtain ⟨d21, hd21⟩ : ∃ d, w17.heap.size = d := ⟨_, rfl⟩; rw [hd21] at HT17 ST17; have HD21 := Lib.hid hd21; clear iw nw kk)
      | (with_reducible refine wpList_alloc_to _ _ rfl 34 rfl _ HZ.out.1 rfl ?_)
      | (simp only [hd21]; refine wpList_store_mid rfl 34 (.tmp 21) (.tmp 151) rfl d21 0 Xw.toArray rfl rfl HT17.out (by rw [List.size_toArray, W17.out.1.len]; exact info_pk) (all_oneCell_toArray W17.out.1.one) ?_))
    try simp only [hd21]
    obtain ⟨w18, hw18⟩ : ∃ W, (w17.alloc (.cells Z.toArray 34)).setCells d21 0 Xw = W := ⟨_, rfl⟩
    try simp only [List.toList_toArray]
    rw [hw18] at ST17 ⊢
    have N18 := Lib.hid (W17.out.2.2.1.then ST17.out.2 (by simp))
    clear hw18 hd21
    go_upto_region 16 with (first
      | (refine wpList_load_mid rfl 34 (.tmp 2) rfl b 0 rfl Y1 _ (HRW.out _ N18.out).1 Tryz.underlying34 rfl (by rw [HLN.out.1]; exact info_pk) ?_)
      | (go_at_call 24; (with_reducible refine (copyPX G1 P Y1 w18 (HIT.out.1.keep N18.out (by simp)) HIT.out.2.1).mono ?_); rintro e w19 ⟨Xc, Gc, rfl, iw, nw, kk⟩; have W19 := Lib.hid (And.intro iw (And.intro nw (And.intro (N18.out.then kk (by simp)) kk))); have HT19 := Lib.hid (there_newP (w := w19) (t := 34) (Z := Z) (X := Xc) (by rw [W19.out.1.len]; exact HZ.out.2.symm)); have ST19 := Lib.hid (storedP (w := w19) (t := 34) (Z := Z) (X := Xc) (by rw [W19.out.1.len]; exact HZ.out.2.symm)); obtain ⟨d22, hd22⟩ : ∃ d, w19.heap.size = d := ⟨_, rfl⟩; rw [hd22] at HT19 ST19; have HD22 := Lib.hid hd22; clear iw nw kk)
      | (with_reducible refine wpList_alloc_to _ _ rfl 34 rfl _ HZ.out.1 rfl ?_)
      | (simp only [hd22]; refine wpList_store_mid rfl 34 (.tmp 22) (.tmp 153) rfl d22 0 Xc.toArray rfl rfl HT19.out (by rw [List.size_toArray, W19.out.1.len]; exact info_pk) (all_oneCell_toArray W19.out.1.one) ?_))
    try simp only [hd22]
    obtain ⟨w20, hw20⟩ : ∃ W, (w19.alloc (.cells Z.toArray 34)).setCells d22 0 Xc = W := ⟨_, rfl⟩
    try simp only [List.toList_toArray]
    rw [hw20] at ST19 ⊢
    have N20 := Lib.hid (W19.out.2.2.1.then ST19.out.2 (by simp))
    have R21 := Lib.hid ((W19.out.2.2.2.then ST19.out.2 (by simp)).row ST17.out.1 (by simp))
    have I21 := Lib.hid (((W17.out.1.keep ST17.out.2 (by simp)).keep W19.out.2.2.2 (by simp)).keep ST19.out.2 (by simp))
    have I22 := Lib.hid (W19.out.1.keep ST19.out.2 (by simp))
    have R22 : Hid (∀ wx, keepBut [] w20 wx → wx.rangeAt d22 0 Xc) := Lib.hid (fun wx k => (k.row ST19.out.1 (by simp)).rangeAll)
    have HSA : Hid (∀ wx, keepBut [] w20 wx → Calls Tryz.prog 13 #[.agg Xc.toArray, .agg Y1.toArray] wx fun e w' => e = .returned (.bool true) ∧ keepBut [] wx w') := Lib.hid (fun wx k => by
      have := sameDX Gc G1 P P Xc Y1 wx (I22.out.keep k (by simp)) ((HIT.out.1.keep N20.out (by simp)).keep k (by simp)) HIT.out.2.1 HIT.out.2.1
      rw [PK.same_self] at this; exact this)
    have HSB : Hid (∀ wx, keepBut [] w20 wx → Calls Tryz.prog 12 #[.agg Xc.toArray, .agg Y1.toArray] wx fun e w' => e = .returned (.bool true) ∧ keepBut [] wx w') := Lib.hid (fun wx k => by
      have := samePX Gc G1 P P Xc Y1 wx (I22.out.keep k (by simp)) ((HIT.out.1.keep N20.out (by simp)).keep k (by simp))
      rw [PK.same_self] at this; exact this)
    clear hw20 hd22
    have hXc : (Tryz.prog.info? 34).map (·.size) = some Xc.length := by rw [W19.out.1.len]; exact info_pk
    have HXC := Lib.hid hXc
    clear hXc
    go_upto_region 18 with (first
      | (refine wpList_load_mid rfl 34 (.tmp 22) rfl d22 0 rfl Xc _ (R22.out _ (keepBut.refl [] w20)) Tryz.underlying34 rfl HXC.out ?_)
      | (refine wpList_load_mid rfl 34 (.tmp 2) rfl b 0 rfl Y1 _ (HRW.out _ N20.out).1 Tryz.underlying34 rfl (by rw [HLN.out.1]; exact info_pk) ?_)
      | (go_at_call 13; (with_reducible refine (HSA.out w20 (keepBut.refl [] w20)).mono ?_); rintro e w21 ⟨rfl, kk⟩; have N21 := Lib.hid kk; clear kk)
      | (refine wpList_load_mid_g 34 (.tmp 22) rfl d22 0 rfl Xc _ (R22.out _ N21.out) Tryz.underlying34 rfl HXC.out ?_ ?_; · rfl)
      | (refine wpList_load_mid_g 34 (.tmp 2) rfl b 0 rfl Y1 _ (HRW.out _ (N20.out.then N21.out (by simp))).1 Tryz.underlying34 rfl (by rw [HLN.out.1]; exact info_pk) ?_ ?_; · rfl)
      | (go_at_call 12; (with_reducible refine (HSB.out w21 N21.out).mono ?_); rintro e w22 ⟨rfl, kk⟩; have N22 := Lib.hid (N21.out.then kk (by simp)); clear kk))
    have hGw : newIn w5 w22 Gc := fun y hy => by
      have a := W19.out.2.1 y hy
      have c := N18.out.size
      have d := ST19.out.2.size
      have e := N22.out.size
      omega
    have HGW := Lib.hid (And.intro hGw (And.intro (show ∀ y ∈ Gc, w18.heap.size ≤ y from fun y hy => (W19.out.2.1 y hy).1) (N20.out.then N22.out (by simp))))
    clear hGw
    go_upto_region 19 with (first
      | (refine wpList_load_mid rfl 34 (.tmp 22) rfl d22 0 rfl Xc _ (R22.out _ N22.out) Tryz.underlying34 rfl HXC.out ?_)
      | (go_at_call 25; (with_reducible refine (spoil_any Gc P Xc w5 w22 (I22.out.keep N22.out (by simp)) HGW.out.2.2 HGW.out.1).mono ?_); rintro e w23 ⟨rfl, kk⟩; have K23 := Lib.hid kk; clear kk))
    have hbn : ∀ y ∈ Gc, w5.heap.size ≤ y := fun y hy => (HGW.out.1 y hy).1
    have hbb : b ∉ Gc := fun hm => by
      have a := hbn b hm
      have c := (HRW.out _ (keepBut.refl [] w5)).2.2.1.c0
      have d := World.block_lt_of_cell? w5 _ c
      dsimp only at d
      omega
    have hbd : d21 ∉ Gc := fun hm => by
      have a := HGW.out.2.1 _ hm
      have c := ST17.out.1.lt
      omega
    have R23 := Lib.hid (K23.out.row (N22.out.row R21.out (by simp)) hbd)
    have I23 := Lib.hid ((I21.out.keep N22.out (by simp)).keep K23.out (fun y hy hm => by
      have a := HGW.out.2.1 _ hm
      have c := (W17.out.2.1 y hy).2
      have d := ST17.out.2.size
      omega))
    have I1 := Lib.hid ((HIT.out.1.keep HGW.out.2.2 (by simp)).keep K23.out (fun y hy hm => by
      have a := hbn y hm
      have c := HIT.out.2.2.1 y hy
      omega))
    have RY := Lib.hid (show w23.rangeAt b 0 Y1 from rangeAt.keep (HRW.out _ HGW.out.2.2).1 K23.out hbb)
    have hk23 : keepBut [] w w23 := (HRW.out _ HGW.out.2.2).2.2.2.then K23.out (fun y hy => .inr (by have a := hbn y hy; have c := (HRW.out _ (keepBut.refl [] w5)).2.2.2.size; omega))
    have HF := Lib.hid (And.intro (HB.out.2.1.keep hk23 (by simp)) hk23)
    clear hbn hbb hbd hk23
    have hXw : (Tryz.prog.info? 34).map (·.size) = some Xw.length := by rw [W17.out.1.len]; exact info_pk
    have HXW := Lib.hid hXw
    have HSE : Hid (Calls Tryz.prog 13 #[.agg Y1.toArray, .agg Xw.toArray] w23 fun e w' => e = .returned (.bool true) ∧ keepBut [] w23 w') := Lib.hid (by
      have := sameDX G1 Gw P P Y1 Xw w23 I1.out I23.out HIT.out.2.1 HIT.out.2.1
      rw [PK.same_self] at this; exact this)
    clear hXw
    go_wp2_with (first
      | (refine wpList_load_mid rfl 34 (.tmp 2) rfl b 0 rfl Y1 _ RY.out Tryz.underlying34 rfl (by rw [HLN.out.1]; exact info_pk) ?_)
      | (refine wpList_load_mid rfl 34 (.tmp 21) rfl d21 0 rfl Xw _ R23.out.rangeAll Tryz.underlying34 rfl HXW.out ?_)
      | (go_at_call 13; (with_reducible refine HSE.out.mono ?_); rintro e w24 ⟨rfl, kk⟩; have N24 := Lib.hid kk; clear kk)
      | (go_at_call 26; (with_reducible refine (works_any w24 (HF.out.1.keep N24.out (by simp))).mono ?_); rintro e w25 ⟨rfl, kk⟩; have N25 := Lib.hid (N24.out.then kk (by simp)); clear kk))
    go_ret
    exact ⟨rfl, HF.out.2.then N25.out (by simp)⟩
end Go.Proofs.YthfdkonhjpdflaaGreatDoor
end
