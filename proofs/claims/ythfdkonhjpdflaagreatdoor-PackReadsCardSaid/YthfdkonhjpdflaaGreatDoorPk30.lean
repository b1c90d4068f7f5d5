/-
  PACK, 30: parts that are read out of strings.
-/
import Derived.Test.YthfdkonhjpdflaaGreatDoorPk29
namespace Go.Proofs.YthfdkonhjpdflaaGreatDoor
open Go.RowKit
set_option linter.unusedVariables false
set_option maxRecDepth 100000
set_option linter.unusedSimpArgs false

/-- what the bytes of a packet are read from -/
structure isS (w : World) (sb p g : Nat) (r : RS) (part : Int) : Prop where
  row : rowAt w sb 104 #[.pointer (some ⟨p, 0, none⟩), .int .i64 part]
  rd : isR w p g r
  ne : sb ≠ p
  gl : r.l ≠ [] → g ≠ sb
  len : r.l.length ≤ 1000000
theorem isS.keep {S : List Nat} {w w' : World} {sb p g : Nat} {r : RS} {part : Int} (h : isS w sb p g r part) (hk : keepBut S w w') (h1 : sb ∉ S) (h2 : p ∉ S) (h3 : r.l ≠ [] → g ∉ S) : isS w' sb p g r part :=
  ⟨hk.row h.row h1, h.rd.keep hk h2 h3, h.ne, h.gl, h.len⟩
theorem isS.over {w w' : World} {sb p g : Nat} {r : RS} {part : Int} (h : isS w sb p g r part) (hk : keepBut [] w w') : isS w' sb p g r part := h.keep hk (by simp) (by simp) (by simp)
theorem isS.read {w w' : World} {sb p g : Nat} {r r' : RS} {part : Int} (h : isS w sb p g r part) (hr : isR w' p g r') (hk : keepBut [p] w w') (hl : r'.l ≠ [] → r.l ≠ []) (hs : r'.l.length ≤ r.l.length) : isS w' sb p g r' part :=
  ⟨hk.row h.row (by have := h.ne; simp [this]), hr, h.ne, fun hne => h.gl (hl hne), Nat.le_trans hs h.len⟩
theorem isS.part {w : World} {sb p g : Nat} {r : RS} {part : Int} (h : isS w sb p g r part) (x : Int) : isS (w.setCell ⟨sb, 1, none⟩ (.int .i64 x)) sb p g r x :=
  ⟨h.row.set 1 _, h.rd.keep (kset w sb 1 _) (by have := h.ne; simp; exact fun e => this e.symm) (fun hne => by have := h.gl hne; simp [this]), h.ne, h.gl, h.len⟩
def firstP (part e : Int) : Int := if part = 0 then e else part
set_option maxHeartbeats 1000000 in
theorem first_any (w : World) (sb p g : Nat) (r : RS) (part : Int) (h : isS w sb p g r part) :
    Calls Tryz.prog 95 #[.pointer (some ⟨sb, 0, none⟩)] w fun e w' => e = .returned (.int .i64 (firstP part r.e)) ∧ w = w' := by
  have c0 : w.cell? ⟨sb, 0, none⟩ = some (.pointer (some ⟨p, 0, none⟩)) := h.row.cell 0
  have c1 : w.cell? ⟨sb, 1, none⟩ = some (.int .i64 part) := h.row.cell 1
  have H := Lib.hid h
  clear h
  by_cases hp : part = 0
  · have hb : (part != 0) = false := by simp [hp]
    have HE := Lib.hid (show firstP part r.e = r.e by unfold firstP; rw [if_pos hp])
    clear hp
    go_enter Tryz.func95, Tryz.ntmps95
    go_wp2_with (first
      | (go_at_call 141; refine (err_any p g r _ H.out.rd).mono ?_; rintro e w' ⟨rfl, rfl⟩))
    go_ret
    exact ⟨by rw [HE.out]; rfl, rfl⟩
  · have hb : (part != 0) = true := by simp [hp]
    have HE := Lib.hid (show firstP part r.e = part by unfold firstP; rw [if_neg hp])
    clear hp
    go_enter Tryz.func95, Tryz.ntmps95
    go_wp2_with fail
    go_ret
    exact ⟨by rw [HE.out]; rfl, rfl⟩
theorem take_len (r : RS) (n : Nat) : (r.take n).length ≤ r.l.length := by
  unfold RS.take
  split
  · rw [List.length_take]; omega
  · simp
theorem text_len (r : RS) (n : Int) : (r.text n).1.length ≤ r.l.length := by
  unfold RS.text RS.raw
  split
  · simp
  · exact Nat.le_trans (take_len _ _) (RS.count_short r n)

def rpRq (r : RS) (part : Int) : RQ × RS × Int :=
  if firstP part (r.text 2048).2.e = 0 then ((parseRq (r.text 2048).1).1, (r.text 2048).2, (parseRq (r.text 2048).1).2) else (rqZero, (r.text 2048).2, part)
set_option maxHeartbeats 16000000 in
theorem readPartRq_any (p g sb : Nat) (r : RS) (part : Int) (w : World) (hs : isS w sb p g r part) :
    Calls Tryz.prog 143 #[.pointer (some ⟨sb, 0, none⟩), .func (.func 30) #[] #[]] w fun e w' => ∃ ev G, e = .returned (.agg (rqL (rpRq r part).1 ev).toArray) ∧ rqV w' G (rpRq r part).1 ev ∧ newIn w w' G ∧ isS w' sb p g (rpRq r part).2.1 (rpRq r part).2.2 ∧ keepBut [sb, p] w w' := by
  obtain ⟨x1, hx1⟩ : ∃ x, (r.text 2048).1 = x := ⟨_, rfl⟩
  obtain ⟨r1, hr1⟩ : ∃ x, (r.text 2048).2 = x := ⟨_, rfl⟩
  have S1 : Hid ((r1.l ≠ [] → r.l ≠ []) ∧ r1.l.length ≤ r.l.length) := Lib.hid (by rw [← hr1]; exact ⟨text_left, text_short _ _⟩)
  have hxl : x1.length ≤ 1000000 := by rw [← hx1]; exact Nat.le_trans (text_len r 2048) hs.len
  obtain ⟨Z, hZ⟩ : ∃ Z, rqL rqZero nilV = Z := ⟨_, rfl⟩
  have zv := zv_rq
  have zl := rqZ_len
  have zo := rqZ_one
  rw [hZ] at zv zl zo
  have kA := (keepBut.refl [] w).alloc (.cells Z.toArray 26)
  have rA := rowAt.new w 26 Z.toArray
  obtain ⟨wA, hwA⟩ : ∃ wA, w.alloc (.cells Z.toArray 26) = wA := ⟨_, rfl⟩
  rw [hwA] at kA rA
  have kB := (keepBut.refl [] wA).alloc (.cells Z.toArray 26)
  have rB := rowAt.new wA 26 Z.toArray
  obtain ⟨wB, hwB⟩ : ∃ wB, wA.alloc (.cells Z.toArray 26) = wB := ⟨_, rfl⟩
  rw [hwB] at kB rB
  have kk := kA.then kB (by simp)
  have hsl := hs.row.lt
  have hpl := hs.rd.lt
  have HS := Lib.hid (And.intro (hs.over kk) (And.intro (kB.row rA (by simp)) (And.intro rB (And.intro kk (And.intro (fun hne => hs.rd.gl hne) rA.lt)))))
  have HW := Lib.hid (And.intro hwA (And.intro hwB zv))
  have HZ := Lib.hid (And.intro hZ (And.intro zl zo))
  have HX := Lib.hid (And.intro hx1 (And.intro hr1 hxl))
  have hI : (Tryz.prog.info? 26).map (·.size) = some Z.length := by rw [zl]; exact info_rq
  have hJ : (Tryz.prog.info? 26).map (·.size) = some Z.toArray.size := by rw [List.size_toArray]; exact hI
  have HI := Lib.hid (And.intro hI hJ)
  clear hZ zv zl zo kA rA hwA kB rB hwB kk hs hx1 hr1 hxl hI hJ
  have hnA : w.heap.size ≠ sb := by omega
  have hnp : w.heap.size ≠ p := by omega
  have c0 : wB.cell? ⟨sb, 0, none⟩ = some (.pointer (some ⟨p, 0, none⟩)) := HS.out.1.row.cell 0
  go_enter Tryz.func143, Tryz.ntmps143
  go_upto_region 3 with (first
    | (with_reducible refine wpList_alloc_to _ _ rfl 26 rfl _ HW.out.2.2 HW.out.1 ?_)
    | (with_reducible refine wpList_alloc_to _ _ rfl 26 rfl _ HW.out.2.2 HW.out.2.1 ?_)
    | (go_at_call 104; refine (text_any p g r 2048 _ HS.out.1.rd (by have := HS.out.1.len; omega)).mono ?_; intro e u1 hq; unfold textPost at hq; rw [HX.out.1, HX.out.2.1] at hq; obtain ⟨ue, rfl, hfr, hr, hk⟩ := hq; obtain ⟨A6, c6, G6, rfl, hb6, hn6⟩ := hfr.gives; have Q := Lib.hid (HS.out.1.read hr hk S1.out.1 S1.out.2); have K1 := Lib.hid hk; have B6 := Lib.hid (And.intro hb6 hn6); clear hr hk hfr hb6 hn6))
  have RA := Lib.hid (K1.out.row HS.out.2.1 (by simp [hnp]))
  have RB := Lib.hid (K1.out.row HS.out.2.2.1 (by have := HS.out.2.2.2.2.2; simp; omega))
  have KW : Hid (keepBut [sb, p] w u1) := Lib.hid ((HS.out.2.2.2.1.more (by simp)).then K1.out (by simp))
  clear c0 K1
  by_cases hf : firstP part r1.e = 0
  · have HF := Lib.hid hf
    have hE : Hid (rpRq r part = ((parseRq x1).1, r1, (parseRq x1).2)) := Lib.hid (by unfold rpRq; rw [HX.out.2.1, HX.out.1, if_pos hf])
    clear hf
    obtain ⟨q, hq⟩ : ∃ q, (parseRq x1).1 = q := ⟨_, rfl⟩
    obtain ⟨E, hEE⟩ : ∃ q, (parseRq x1).2 = q := ⟨_, rfl⟩
    rw [hq, hEE] at hE
    have HQ := Lib.hid (And.intro hq hEE)
    clear hq hEE
    go_upto_region 5 with (first
      | (go_at_call 95; refine (first_any _ sb p g r1 part Q.out).mono ?_; rintro e u9 ⟨rfl, rfl⟩; rw [HF.out]))
    go_upto_region 6 with (first
      | (go_at_call 30; refine (parseRq_any G6 x1 _ _ B6.out.1 HX.out.2.2).mono ?_; rintro e u2 ⟨ev, G, rfl, gv, gn, gk⟩; rw [HQ.out.1, HQ.out.2] at *; have Q2 := Lib.hid (Q.out.over gk); have RA2 := Lib.hid (gk.row RA.out (by simp)); have KW2 := Lib.hid (KW.out.then gk (by simp)); have GV := Lib.hid (And.intro gv gn); have hLl : Hid ((rqL q ev).length = 37 ∧ ∀ u ∈ rqL q ev, u.oneCell' = true) := Lib.hid ⟨rqL_len gv.1, rqL_one q gv.2.one⟩; clear gv gn gk)
      | (with_reducible refine wpList_alloc_to _ _ rfl 26 rfl _ HW.out.2.2 rfl ?_)
      | (refine wpList_store_mid rfl 26 (.tmp 7) (.tmp 22) rfl u2.heap.size 0 (rqL q ev).toArray rfl rfl ((rowAt.new u2 26 Z.toArray).there (by simp only [List.size_toArray]; have h1 := hLl.out.1; have h2 := HZ.out.2.1; omega)) (by rw [List.size_toArray, hLl.out.1]; exact info_rq) (all_oneCell_toArray hLl.out.2) ?_))
    have k3 := (keepBut.refl [] u2).alloc (.cells Z.toArray 26)
    have r3 := (rowAt.new u2 26 Z.toArray).setL (vs := rqL q ev) (o := 0)
    rw [putL_all (by simp only [List.size_toArray]; have h1 := hLl.out.1; have h2 := HZ.out.2.1; omega)] at r3
    have k4 : keepBut [] u2 ((u2.alloc (.cells Z.toArray 26)).setCells u2.heap.size 0 (rqL q ev)) := k3.setL (.inr (Nat.le_refl _))
    try simp only [Act.put]
    obtain ⟨u3, hu3⟩ : ∃ u3, (u2.alloc (.cells Z.toArray 26)).setCells u2.heap.size 0 (rqL q ev) = u3 := ⟨_, rfl⟩
    rw [hu3] at r3 k4 ⊢
    have Q3 := Lib.hid (Q2.out.over k4)
    have y1 : u3.cell? ⟨sb, 1, none⟩ = some (.int .i64 part) := Q3.out.row.cell 1
    have y2 := Q3.out.row.free 1
    have hsl2 := Q2.out.row.lt
    have hnu : u2.heap.size ≠ sb := by omega
    have k5 := kset u3 sb 1 (.int .i64 E)
    have Q5 := Lib.hid (Q3.out.part E)
    have R5 := Lib.hid (k5.row r3 (by simp [hnu]))
    have RA5 := Lib.hid (k5.row (k4.row RA2.out (by simp)) (by simp [hnA]))
    have K5 := Lib.hid (And.intro ((KW2.out.then k4 (by simp)).then k5 (by simp)) (And.intro k4 k5))
    clear k3 r3 k4 hu3 k5
    go_upto_region 7 with fail
    obtain ⟨u5, hu5⟩ : ∃ u5, u3.setCell ⟨sb, 1, none⟩ (.int .i64 E) = u5 := ⟨_, rfl⟩
    rw [hu5] at Q5 R5 RA5 K5 ⊢
    clear hu5 y1 y2
    have r6 := RA5.out.setL (vs := rqL q ev) (o := 0)
    rw [putL_all (by simp only [List.size_toArray]; have h1 := hLl.out.1; have h2 := HZ.out.2.1; omega)] at r6
    have R6 := Lib.hid r6
    clear r6
    go_wp2_with (first
      | (refine wpList_load_mid rfl 26 (.tmp 7) rfl u2.heap.size 0 rfl (rqL q ev) _ R5.out.rangeAll Tryz.underlying26 rfl (by rw [hLl.out.1]; exact info_rq) ?_)
      | (refine wpList_store_mid rfl 26 (.tmp 4) (.tmp 28) rfl w.heap.size 0 (rqL q ev).toArray rfl rfl (RA5.out.there (by simp only [List.size_toArray]; have h1 := hLl.out.1; have h2 := HZ.out.2.1; omega)) (by rw [List.size_toArray, hLl.out.1]; exact info_rq) (all_oneCell_toArray hLl.out.2) ?_))
    refine bodyPost_ret (results_cell_row rfl _ _ w.heap.size 26 _ (0, 0) _ rfl R6.out Tryz.underlying26 rfl (by rw [List.size_toArray, hLl.out.1]; exact info_rq)) rfl ?_
    have k6 := (keepBut.refl [w.heap.size] u5).setL (vs := rqL q ev) (g := w.heap.size) (o := 0) (by simp)
    have hGl : ∀ y ∈ G, w.heap.size < y ∧ sb < y := fun y hy => by have h1 := (GV.out.2 y hy).1; have h2 := RA.out.lt; have h3 := Q.out.row.lt; omega
    rw [hE.out]
    refine ⟨ev, G, rfl, ?_, fun y hy => ⟨by have := hGl y hy; omega, ?_⟩, Q5.out.keep k6 (by simp; exact fun e => hnA e.symm) (by simp; exact fun e => hnp e.symm) (fun hne => by have := HS.out.2.2.2.2.1 (S1.out.1 hne); simp; omega), K5.out.1.then k6 (by simp)⟩
    · exact ⟨GV.out.1.1, (((GV.out.1.2).keep K5.out.2.1 (by simp)).keep K5.out.2.2 (fun y hy => by have := hGl y hy; simp; omega)).keep k6 (fun y hy => by have := hGl y hy; simp; omega)⟩
    · have h1 := (GV.out.2 y hy).2; have h2 := K5.out.2.1.size; have h3 := K5.out.2.2.size; have h4 := k6.size; omega
  · have hfb : (firstP part r1.e != 0) = true := by simp [hf]
    have hE : Hid (rpRq r part = (rqZero, r1, part)) := Lib.hid (by unfold rpRq; rw [HX.out.2.1, if_neg hf])
    clear hf
    have r6 := RA.out.setL (vs := Z) (o := 0)
    rw [putL_all (by rfl)] at r6
    have R6 := Lib.hid r6
    clear r6
    go_wp2_with (first
      | (go_at_call 95; refine (first_any _ sb p g r1 part Q.out).mono ?_; rintro e u9 ⟨rfl, rfl⟩)
      | (refine wpList_load_mid rfl 26 (.tmp 5) rfl wA.heap.size 0 rfl Z _ RB.out.rangeAll Tryz.underlying26 rfl HI.out.1 ?_)
      | (refine wpList_store_mid rfl 26 (.tmp 4) (.tmp 17) rfl w.heap.size 0 Z.toArray rfl rfl (RA.out.there (by simp only [List.size_toArray]; omega)) HI.out.2 (all_oneCell_toArray HZ.out.2.2) ?_))
    refine bodyPost_ret (results_cell_row rfl _ _ w.heap.size 26 _ (0, 0) _ rfl R6.out Tryz.underlying26 rfl HI.out.2) rfl ?_
    have k6 := (keepBut.refl [w.heap.size] u1).setL (vs := Z) (g := w.heap.size) (o := 0) (by simp)
    rw [hE.out]
    refine ⟨nilV, [], by rw [← HZ.out.1], ⟨rqZero_name, bytesV.nil _ _⟩, fun y hy => by simp at hy, Q.out.keep k6 (by simp; exact fun e => hnA e.symm) (by simp; exact fun e => hnp e.symm) (fun hne => by have := HS.out.2.2.2.2.1 (S1.out.1 hne); simp; omega), KW.out.then k6 (by simp)⟩

def rpAn (r : RS) (part : Int) : AN × RS × Int :=
  if firstP part (r.text 2048).2.e = 0 then ((parseAn (r.text 2048).1).1, (r.text 2048).2, (parseAn (r.text 2048).1).2) else (anZero, (r.text 2048).2, part)
set_option maxHeartbeats 16000000 in
theorem readPartAn_any (p g sb : Nat) (r : RS) (part : Int) (w : World) (hs : isS w sb p g r part) :
    Calls Tryz.prog 144 #[.pointer (some ⟨sb, 0, none⟩), .func (.func 32) #[] #[]] w fun e w' => ∃ ev G, e = .returned (.agg (anL (rpAn r part).1 ev).toArray) ∧ anV w' G (rpAn r part).1 ev ∧ newIn w w' G ∧ isS w' sb p g (rpAn r part).2.1 (rpAn r part).2.2 ∧ keepBut [sb, p] w w' := by
  obtain ⟨x1, hx1⟩ : ∃ x, (r.text 2048).1 = x := ⟨_, rfl⟩
  obtain ⟨r1, hr1⟩ : ∃ x, (r.text 2048).2 = x := ⟨_, rfl⟩
  have S1 : Hid ((r1.l ≠ [] → r.l ≠ []) ∧ r1.l.length ≤ r.l.length) := Lib.hid (by rw [← hr1]; exact ⟨text_left, text_short _ _⟩)
  have hxl : x1.length ≤ 1000000 := by rw [← hx1]; exact Nat.le_trans (text_len r 2048) hs.len
  obtain ⟨Z, hZ⟩ : ∃ Z, anL anZero nilV = Z := ⟨_, rfl⟩
  have zv := zv_an
  have zl := anZ_len
  have zo := anZ_one
  rw [hZ] at zv zl zo
  have kA := (keepBut.refl [] w).alloc (.cells Z.toArray 28)
  have rA := rowAt.new w 28 Z.toArray
  obtain ⟨wA, hwA⟩ : ∃ wA, w.alloc (.cells Z.toArray 28) = wA := ⟨_, rfl⟩
  rw [hwA] at kA rA
  have kB := (keepBut.refl [] wA).alloc (.cells Z.toArray 28)
  have rB := rowAt.new wA 28 Z.toArray
  obtain ⟨wB, hwB⟩ : ∃ wB, wA.alloc (.cells Z.toArray 28) = wB := ⟨_, rfl⟩
  rw [hwB] at kB rB
  have kk := kA.then kB (by simp)
  have hsl := hs.row.lt
  have hpl := hs.rd.lt
  have HS := Lib.hid (And.intro (hs.over kk) (And.intro (kB.row rA (by simp)) (And.intro rB (And.intro kk (And.intro (fun hne => hs.rd.gl hne) rA.lt)))))
  have HW := Lib.hid (And.intro hwA (And.intro hwB zv))
  have HZ := Lib.hid (And.intro hZ (And.intro zl zo))
  have HX := Lib.hid (And.intro hx1 (And.intro hr1 hxl))
  have hI : (Tryz.prog.info? 28).map (·.size) = some Z.length := by rw [zl]; exact info_an
  have hJ : (Tryz.prog.info? 28).map (·.size) = some Z.toArray.size := by rw [List.size_toArray]; exact hI
  have HI := Lib.hid (And.intro hI hJ)
  clear hZ zv zl zo kA rA hwA kB rB hwB kk hs hx1 hr1 hxl hI hJ
  have hnA : w.heap.size ≠ sb := by omega
  have hnp : w.heap.size ≠ p := by omega
  have c0 : wB.cell? ⟨sb, 0, none⟩ = some (.pointer (some ⟨p, 0, none⟩)) := HS.out.1.row.cell 0
  go_enter Tryz.func144, Tryz.ntmps144
  go_upto_region 3 with (first
    | (with_reducible refine wpList_alloc_to _ _ rfl 28 rfl _ HW.out.2.2 HW.out.1 ?_)
    | (with_reducible refine wpList_alloc_to _ _ rfl 28 rfl _ HW.out.2.2 HW.out.2.1 ?_)
    | (go_at_call 104; refine (text_any p g r 2048 _ HS.out.1.rd (by have := HS.out.1.len; omega)).mono ?_; intro e u1 hq; unfold textPost at hq; rw [HX.out.1, HX.out.2.1] at hq; obtain ⟨ue, rfl, hfr, hr, hk⟩ := hq; obtain ⟨A6, c6, G6, rfl, hb6, hn6⟩ := hfr.gives; have Q := Lib.hid (HS.out.1.read hr hk S1.out.1 S1.out.2); have K1 := Lib.hid hk; have B6 := Lib.hid (And.intro hb6 hn6); clear hr hk hfr hb6 hn6))
  have RA := Lib.hid (K1.out.row HS.out.2.1 (by simp [hnp]))
  have RB := Lib.hid (K1.out.row HS.out.2.2.1 (by have := HS.out.2.2.2.2.2; simp; omega))
  have KW : Hid (keepBut [sb, p] w u1) := Lib.hid ((HS.out.2.2.2.1.more (by simp)).then K1.out (by simp))
  clear c0 K1
  by_cases hf : firstP part r1.e = 0
  · have HF := Lib.hid hf
    have hE : Hid (rpAn r part = ((parseAn x1).1, r1, (parseAn x1).2)) := Lib.hid (by unfold rpAn; rw [HX.out.2.1, HX.out.1, if_pos hf])
    clear hf
    obtain ⟨q, hq⟩ : ∃ q, (parseAn x1).1 = q := ⟨_, rfl⟩
    obtain ⟨E, hEE⟩ : ∃ q, (parseAn x1).2 = q := ⟨_, rfl⟩
    rw [hq, hEE] at hE
    have HQ := Lib.hid (And.intro hq hEE)
    clear hq hEE
    go_upto_region 5 with (first
      | (go_at_call 95; refine (first_any _ sb p g r1 part Q.out).mono ?_; rintro e u9 ⟨rfl, rfl⟩; rw [HF.out]))
    go_upto_region 6 with (first
      | (go_at_call 32; refine (parseAn_any G6 x1 _ _ B6.out.1 HX.out.2.2).mono ?_; rintro e u2 ⟨ev, G, rfl, gv, gn, gk⟩; rw [HQ.out.1, HQ.out.2] at *; have Q2 := Lib.hid (Q.out.over gk); have RA2 := Lib.hid (gk.row RA.out (by simp)); have KW2 := Lib.hid (KW.out.then gk (by simp)); have GV := Lib.hid (And.intro gv gn); have hLl : Hid ((anL q ev).length = 38 ∧ ∀ u ∈ anL q ev, u.oneCell' = true) := Lib.hid ⟨anL_len gv.1, anL_one q gv.2.one⟩; clear gv gn gk)
      | (with_reducible refine wpList_alloc_to _ _ rfl 28 rfl _ HW.out.2.2 rfl ?_)
      | (refine wpList_store_mid rfl 28 (.tmp 7) (.tmp 22) rfl u2.heap.size 0 (anL q ev).toArray rfl rfl ((rowAt.new u2 28 Z.toArray).there (by simp only [List.size_toArray]; have h1 := hLl.out.1; have h2 := HZ.out.2.1; omega)) (by rw [List.size_toArray, hLl.out.1]; exact info_an) (all_oneCell_toArray hLl.out.2) ?_))
    have k3 := (keepBut.refl [] u2).alloc (.cells Z.toArray 28)
    have r3 := (rowAt.new u2 28 Z.toArray).setL (vs := anL q ev) (o := 0)
    rw [putL_all (by simp only [List.size_toArray]; have h1 := hLl.out.1; have h2 := HZ.out.2.1; omega)] at r3
    have k4 : keepBut [] u2 ((u2.alloc (.cells Z.toArray 28)).setCells u2.heap.size 0 (anL q ev)) := k3.setL (.inr (Nat.le_refl _))
    try simp only [Act.put]
    obtain ⟨u3, hu3⟩ : ∃ u3, (u2.alloc (.cells Z.toArray 28)).setCells u2.heap.size 0 (anL q ev) = u3 := ⟨_, rfl⟩
    rw [hu3] at r3 k4 ⊢
    have Q3 := Lib.hid (Q2.out.over k4)
    have y1 : u3.cell? ⟨sb, 1, none⟩ = some (.int .i64 part) := Q3.out.row.cell 1
    have y2 := Q3.out.row.free 1
    have hsl2 := Q2.out.row.lt
    have hnu : u2.heap.size ≠ sb := by omega
    have k5 := kset u3 sb 1 (.int .i64 E)
    have Q5 := Lib.hid (Q3.out.part E)
    have R5 := Lib.hid (k5.row r3 (by simp [hnu]))
    have RA5 := Lib.hid (k5.row (k4.row RA2.out (by simp)) (by simp [hnA]))
    have K5 := Lib.hid (And.intro ((KW2.out.then k4 (by simp)).then k5 (by simp)) (And.intro k4 k5))
    clear k3 r3 k4 hu3 k5
    go_upto_region 7 with fail
    obtain ⟨u5, hu5⟩ : ∃ u5, u3.setCell ⟨sb, 1, none⟩ (.int .i64 E) = u5 := ⟨_, rfl⟩
    rw [hu5] at Q5 R5 RA5 K5 ⊢
    clear hu5 y1 y2
    have r6 := RA5.out.setL (vs := anL q ev) (o := 0)
    rw [putL_all (by simp only [List.size_toArray]; have h1 := hLl.out.1; have h2 := HZ.out.2.1; omega)] at r6
    have R6 := Lib.hid r6
    clear r6
    go_wp2_with (first
      | (refine wpList_load_mid rfl 28 (.tmp 7) rfl u2.heap.size 0 rfl (anL q ev) _ R5.out.rangeAll Tryz.underlying28 rfl (by rw [hLl.out.1]; exact info_an) ?_)
      | (refine wpList_store_mid rfl 28 (.tmp 4) (.tmp 28) rfl w.heap.size 0 (anL q ev).toArray rfl rfl (RA5.out.there (by simp only [List.size_toArray]; have h1 := hLl.out.1; have h2 := HZ.out.2.1; omega)) (by rw [List.size_toArray, hLl.out.1]; exact info_an) (all_oneCell_toArray hLl.out.2) ?_))
    refine bodyPost_ret (results_cell_row rfl _ _ w.heap.size 28 _ (0, 0) _ rfl R6.out Tryz.underlying28 rfl (by rw [List.size_toArray, hLl.out.1]; exact info_an)) rfl ?_
    have k6 := (keepBut.refl [w.heap.size] u5).setL (vs := anL q ev) (g := w.heap.size) (o := 0) (by simp)
    have hGl : ∀ y ∈ G, w.heap.size < y ∧ sb < y := fun y hy => by have h1 := (GV.out.2 y hy).1; have h2 := RA.out.lt; have h3 := Q.out.row.lt; omega
    rw [hE.out]
    refine ⟨ev, G, rfl, ?_, fun y hy => ⟨by have := hGl y hy; omega, ?_⟩, Q5.out.keep k6 (by simp; exact fun e => hnA e.symm) (by simp; exact fun e => hnp e.symm) (fun hne => by have := HS.out.2.2.2.2.1 (S1.out.1 hne); simp; omega), K5.out.1.then k6 (by simp)⟩
    · exact ⟨GV.out.1.1, (((GV.out.1.2).keep K5.out.2.1 (by simp)).keep K5.out.2.2 (fun y hy => by have := hGl y hy; simp; omega)).keep k6 (fun y hy => by have := hGl y hy; simp; omega)⟩
    · have h1 := (GV.out.2 y hy).2; have h2 := K5.out.2.1.size; have h3 := K5.out.2.2.size; have h4 := k6.size; omega
  · have hfb : (firstP part r1.e != 0) = true := by simp [hf]
    have hE : Hid (rpAn r part = (anZero, r1, part)) := Lib.hid (by unfold rpAn; rw [HX.out.2.1, if_neg hf])
    clear hf
    have r6 := RA.out.setL (vs := Z) (o := 0)
    rw [putL_all (by rfl)] at r6
    have R6 := Lib.hid r6
    clear r6
    go_wp2_with (first
      | (go_at_call 95; refine (first_any _ sb p g r1 part Q.out).mono ?_; rintro e u9 ⟨rfl, rfl⟩)
      | (refine wpList_load_mid rfl 28 (.tmp 5) rfl wA.heap.size 0 rfl Z _ RB.out.rangeAll Tryz.underlying28 rfl HI.out.1 ?_)
      | (refine wpList_store_mid rfl 28 (.tmp 4) (.tmp 17) rfl w.heap.size 0 Z.toArray rfl rfl (RA.out.there (by simp only [List.size_toArray]; omega)) HI.out.2 (all_oneCell_toArray HZ.out.2.2) ?_))
    refine bodyPost_ret (results_cell_row rfl _ _ w.heap.size 28 _ (0, 0) _ rfl R6.out Tryz.underlying28 rfl HI.out.2) rfl ?_
    have k6 := (keepBut.refl [w.heap.size] u1).setL (vs := Z) (g := w.heap.size) (o := 0) (by simp)
    rw [hE.out]
    refine ⟨nilV, [], by rw [← HZ.out.1], ⟨anZero_name, bytesV.nil _ _⟩, fun y hy => by simp at hy, Q.out.keep k6 (by simp; exact fun e => hnA e.symm) (by simp; exact fun e => hnp e.symm) (fun hne => by have := HS.out.2.2.2.2.1 (S1.out.1 hne); simp; omega), KW.out.then k6 (by simp)⟩

def rpCf (r : RS) (part : Int) : CF × RS × Int :=
  if firstP part (r.text 2048).2.e = 0 then ((parseCf (r.text 2048).1).1, (r.text 2048).2, (parseCf (r.text 2048).1).2) else (cfZero, (r.text 2048).2, part)
set_option maxHeartbeats 16000000 in
theorem readPartCf_any (p g sb : Nat) (r : RS) (part : Int) (w : World) (hs : isS w sb p g r part) :
    Calls Tryz.prog 145 #[.pointer (some ⟨sb, 0, none⟩), .func (.func 34) #[] #[]] w fun e w' => ∃ ev G, e = .returned (.agg (cfL (rpCf r part).1 ev).toArray) ∧ intsV w' G ev (rpCf r part).1.chain ∧ newIn w w' G ∧ isS w' sb p g (rpCf r part).2.1 (rpCf r part).2.2 ∧ keepBut [sb, p] w w' := by
  obtain ⟨x1, hx1⟩ : ∃ x, (r.text 2048).1 = x := ⟨_, rfl⟩
  obtain ⟨r1, hr1⟩ : ∃ x, (r.text 2048).2 = x := ⟨_, rfl⟩
  have S1 : Hid ((r1.l ≠ [] → r.l ≠ []) ∧ r1.l.length ≤ r.l.length) := Lib.hid (by rw [← hr1]; exact ⟨text_left, text_short _ _⟩)
  have hxl : x1.length ≤ 1000000 := by rw [← hx1]; exact Nat.le_trans (text_len r 2048) hs.len
  obtain ⟨Z, hZ⟩ : ∃ Z, cfL cfZero nilV = Z := ⟨_, rfl⟩
  have zv := zv_cf
  have zl := (show (cfL cfZero nilV).length = 3 from rfl)
  have zo := cfZ_one
  rw [hZ] at zv zl zo
  have kA := (keepBut.refl [] w).alloc (.cells Z.toArray 31)
  have rA := rowAt.new w 31 Z.toArray
  obtain ⟨wA, hwA⟩ : ∃ wA, w.alloc (.cells Z.toArray 31) = wA := ⟨_, rfl⟩
  rw [hwA] at kA rA
  have kB := (keepBut.refl [] wA).alloc (.cells Z.toArray 31)
  have rB := rowAt.new wA 31 Z.toArray
  obtain ⟨wB, hwB⟩ : ∃ wB, wA.alloc (.cells Z.toArray 31) = wB := ⟨_, rfl⟩
  rw [hwB] at kB rB
  have kk := kA.then kB (by simp)
  have hsl := hs.row.lt
  have hpl := hs.rd.lt
  have HS := Lib.hid (And.intro (hs.over kk) (And.intro (kB.row rA (by simp)) (And.intro rB (And.intro kk (And.intro (fun hne => hs.rd.gl hne) rA.lt)))))
  have HW := Lib.hid (And.intro hwA (And.intro hwB zv))
  have HZ := Lib.hid (And.intro hZ (And.intro zl zo))
  have HX := Lib.hid (And.intro hx1 (And.intro hr1 hxl))
  have hI : (Tryz.prog.info? 31).map (·.size) = some Z.length := by rw [zl]; exact info_cf
  have hJ : (Tryz.prog.info? 31).map (·.size) = some Z.toArray.size := by rw [List.size_toArray]; exact hI
  have HI := Lib.hid (And.intro hI hJ)
  clear hZ zv zl zo kA rA hwA kB rB hwB kk hs hx1 hr1 hxl hI hJ
  have hnA : w.heap.size ≠ sb := by omega
  have hnp : w.heap.size ≠ p := by omega
  have c0 : wB.cell? ⟨sb, 0, none⟩ = some (.pointer (some ⟨p, 0, none⟩)) := HS.out.1.row.cell 0
  go_enter Tryz.func145, Tryz.ntmps145
  go_upto_region 3 with (first
    | (with_reducible refine wpList_alloc_to _ _ rfl 31 rfl _ HW.out.2.2 HW.out.1 ?_)
    | (with_reducible refine wpList_alloc_to _ _ rfl 31 rfl _ HW.out.2.2 HW.out.2.1 ?_)
    | (go_at_call 104; refine (text_any p g r 2048 _ HS.out.1.rd (by have := HS.out.1.len; omega)).mono ?_; intro e u1 hq; unfold textPost at hq; rw [HX.out.1, HX.out.2.1] at hq; obtain ⟨ue, rfl, hfr, hr, hk⟩ := hq; obtain ⟨A6, c6, G6, rfl, hb6, hn6⟩ := hfr.gives; have Q := Lib.hid (HS.out.1.read hr hk S1.out.1 S1.out.2); have K1 := Lib.hid hk; have B6 := Lib.hid (And.intro hb6 hn6); clear hr hk hfr hb6 hn6))
  have RA := Lib.hid (K1.out.row HS.out.2.1 (by simp [hnp]))
  have RB := Lib.hid (K1.out.row HS.out.2.2.1 (by have := HS.out.2.2.2.2.2; simp; omega))
  have KW : Hid (keepBut [sb, p] w u1) := Lib.hid ((HS.out.2.2.2.1.more (by simp)).then K1.out (by simp))
  clear c0 K1
  by_cases hf : firstP part r1.e = 0
  · have HF := Lib.hid hf
    have hE : Hid (rpCf r part = ((parseCf x1).1, r1, (parseCf x1).2)) := Lib.hid (by unfold rpCf; rw [HX.out.2.1, HX.out.1, if_pos hf])
    clear hf
    obtain ⟨q, hq⟩ : ∃ q, (parseCf x1).1 = q := ⟨_, rfl⟩
    obtain ⟨E, hEE⟩ : ∃ q, (parseCf x1).2 = q := ⟨_, rfl⟩
    rw [hq, hEE] at hE
    have HQ := Lib.hid (And.intro hq hEE)
    clear hq hEE
    go_upto_region 5 with (first
      | (go_at_call 95; refine (first_any _ sb p g r1 part Q.out).mono ?_; rintro e u9 ⟨rfl, rfl⟩; rw [HF.out]))
    go_upto_region 6 with (first
      | (go_at_call 34; refine (parseCf_any G6 x1 _ _ B6.out.1 HX.out.2.2).mono ?_; rintro e u2 ⟨ev, G, rfl, gv, gn, gk⟩; rw [HQ.out.1, HQ.out.2] at *; have Q2 := Lib.hid (Q.out.over gk); have RA2 := Lib.hid (gk.row RA.out (by simp)); have KW2 := Lib.hid (KW.out.then gk (by simp)); have GV := Lib.hid (And.intro gv gn); have hLl : Hid ((cfL q ev).length = 3 ∧ ∀ u ∈ cfL q ev, u.oneCell' = true) := Lib.hid ⟨rfl, cfL_one q gv.one⟩; clear gv gn gk)
      | (with_reducible refine wpList_alloc_to _ _ rfl 31 rfl _ HW.out.2.2 rfl ?_)
      | (refine wpList_store_mid rfl 31 (.tmp 7) (.tmp 22) rfl u2.heap.size 0 (cfL q ev).toArray rfl rfl ((rowAt.new u2 31 Z.toArray).there (by simp only [List.size_toArray]; have h1 := hLl.out.1; have h2 := HZ.out.2.1; omega)) (by rw [List.size_toArray, hLl.out.1]; exact info_cf) (all_oneCell_toArray hLl.out.2) ?_))
    have k3 := (keepBut.refl [] u2).alloc (.cells Z.toArray 31)
    have r3 := (rowAt.new u2 31 Z.toArray).setL (vs := cfL q ev) (o := 0)
    rw [putL_all (by simp only [List.size_toArray]; have h1 := hLl.out.1; have h2 := HZ.out.2.1; omega)] at r3
    have k4 : keepBut [] u2 ((u2.alloc (.cells Z.toArray 31)).setCells u2.heap.size 0 (cfL q ev)) := k3.setL (.inr (Nat.le_refl _))
    try simp only [Act.put]
    obtain ⟨u3, hu3⟩ : ∃ u3, (u2.alloc (.cells Z.toArray 31)).setCells u2.heap.size 0 (cfL q ev) = u3 := ⟨_, rfl⟩
    rw [hu3] at r3 k4 ⊢
    have Q3 := Lib.hid (Q2.out.over k4)
    have y1 : u3.cell? ⟨sb, 1, none⟩ = some (.int .i64 part) := Q3.out.row.cell 1
    have y2 := Q3.out.row.free 1
    have hsl2 := Q2.out.row.lt
    have hnu : u2.heap.size ≠ sb := by omega
    have k5 := kset u3 sb 1 (.int .i64 E)
    have Q5 := Lib.hid (Q3.out.part E)
    have R5 := Lib.hid (k5.row r3 (by simp [hnu]))
    have RA5 := Lib.hid (k5.row (k4.row RA2.out (by simp)) (by simp [hnA]))
    have K5 := Lib.hid (And.intro ((KW2.out.then k4 (by simp)).then k5 (by simp)) (And.intro k4 k5))
    clear k3 r3 k4 hu3 k5
    go_upto_region 7 with fail
    obtain ⟨u5, hu5⟩ : ∃ u5, u3.setCell ⟨sb, 1, none⟩ (.int .i64 E) = u5 := ⟨_, rfl⟩
    rw [hu5] at Q5 R5 RA5 K5 ⊢
    clear hu5 y1 y2
    have r6 := RA5.out.setL (vs := cfL q ev) (o := 0)
    rw [putL_all (by simp only [List.size_toArray]; have h1 := hLl.out.1; have h2 := HZ.out.2.1; omega)] at r6
    have R6 := Lib.hid r6
    clear r6
    go_wp2_with (first
      | (refine wpList_load_mid rfl 31 (.tmp 7) rfl u2.heap.size 0 rfl (cfL q ev) _ R5.out.rangeAll Tryz.underlying31 rfl (by rw [hLl.out.1]; exact info_cf) ?_)
      | (refine wpList_store_mid rfl 31 (.tmp 4) (.tmp 28) rfl w.heap.size 0 (cfL q ev).toArray rfl rfl (RA5.out.there (by simp only [List.size_toArray]; have h1 := hLl.out.1; have h2 := HZ.out.2.1; omega)) (by rw [List.size_toArray, hLl.out.1]; exact info_cf) (all_oneCell_toArray hLl.out.2) ?_))
    refine bodyPost_ret (results_cell_row rfl _ _ w.heap.size 31 _ (0, 0) _ rfl R6.out Tryz.underlying31 rfl (by rw [List.size_toArray, hLl.out.1]; exact info_cf)) rfl ?_
    have k6 := (keepBut.refl [w.heap.size] u5).setL (vs := cfL q ev) (g := w.heap.size) (o := 0) (by simp)
    have hGl : ∀ y ∈ G, w.heap.size < y ∧ sb < y := fun y hy => by have h1 := (GV.out.2 y hy).1; have h2 := RA.out.lt; have h3 := Q.out.row.lt; omega
    rw [hE.out]
    refine ⟨ev, G, rfl, ?_, fun y hy => ⟨by have := hGl y hy; omega, ?_⟩, Q5.out.keep k6 (by simp; exact fun e => hnA e.symm) (by simp; exact fun e => hnp e.symm) (fun hne => by have := HS.out.2.2.2.2.1 (S1.out.1 hne); simp; omega), K5.out.1.then k6 (by simp)⟩
    · exact (((GV.out.1).keep K5.out.2.1 (by simp)).keep K5.out.2.2 (fun y hy => by have := hGl y hy; simp; omega)).keep k6 (fun y hy => by have := hGl y hy; simp; omega)
    · have h1 := (GV.out.2 y hy).2; have h2 := K5.out.2.1.size; have h3 := K5.out.2.2.size; have h4 := k6.size; omega
  · have hfb : (firstP part r1.e != 0) = true := by simp [hf]
    have hE : Hid (rpCf r part = (cfZero, r1, part)) := Lib.hid (by unfold rpCf; rw [HX.out.2.1, if_neg hf])
    clear hf
    have r6 := RA.out.setL (vs := Z) (o := 0)
    rw [putL_all (by rfl)] at r6
    have R6 := Lib.hid r6
    clear r6
    go_wp2_with (first
      | (go_at_call 95; refine (first_any _ sb p g r1 part Q.out).mono ?_; rintro e u9 ⟨rfl, rfl⟩)
      | (refine wpList_load_mid rfl 31 (.tmp 5) rfl wA.heap.size 0 rfl Z _ RB.out.rangeAll Tryz.underlying31 rfl HI.out.1 ?_)
      | (refine wpList_store_mid rfl 31 (.tmp 4) (.tmp 17) rfl w.heap.size 0 Z.toArray rfl rfl (RA.out.there (by simp only [List.size_toArray]; omega)) HI.out.2 (all_oneCell_toArray HZ.out.2.2) ?_))
    refine bodyPost_ret (results_cell_row rfl _ _ w.heap.size 31 _ (0, 0) _ rfl R6.out Tryz.underlying31 rfl HI.out.2) rfl ?_
    have k6 := (keepBut.refl [w.heap.size] u1).setL (vs := Z) (g := w.heap.size) (o := 0) (by simp)
    rw [hE.out]
    refine ⟨nilV, [], by rw [← HZ.out.1], intsV.nil _ _, fun y hy => by simp at hy, Q.out.keep k6 (by simp; exact fun e => hnA e.symm) (by simp; exact fun e => hnp e.symm) (fun hne => by have := HS.out.2.2.2.2.1 (S1.out.1 hne); simp; omega), KW.out.then k6 (by simp)⟩

def rdyR (r : RS) : RS := (r.num 1).2
def rdyP (r : RS) (part : Int) : Int := if 1 < (r.num 1).1 then 4 else part
set_option maxHeartbeats 4000000 in
theorem readReady_any (p g sb : Nat) (r : RS) (part : Int) (w : World) (hs : isS w sb p g r part) :
    Calls Tryz.prog 142 #[.pointer (some ⟨sb, 0, none⟩)] w fun e w' => e = .returned (.bool (decide ((r.num 1).1 = 1))) ∧ isS w' sb p g (rdyR r) (rdyP r part) ∧ keepBut [sb, p] w w' := by
  obtain ⟨x1, hx1⟩ : ∃ x, (r.num 1).1 = x := ⟨_, rfl⟩
  have c0 : w.cell? ⟨sb, 0, none⟩ = some (.pointer (some ⟨p, 0, none⟩)) := hs.row.cell 0
  have H := Lib.hid hs
  have HX := Lib.hid hx1
  rw [hx1]
  clear hs hx1
  by_cases h1 : 1 < x1
  · have hb : (decide (1 < x1)) = true := decide_eq_true h1
    have hb2 : (x1 == 1) = false := by simp; omega
    have hE : Hid (rdyP r part = 4 ∧ decide (x1 = 1) = false) := Lib.hid ⟨by unfold rdyP; rw [HX.out, if_pos h1], by simp; omega⟩
    go_enter Tryz.func142, Tryz.ntmps142
    go_upto_region 3 with (first
      | (go_at_call 94; refine (num_any p g r 1 _ H.out.rd).mono ?_; intro e u1 hq; unfold numPost at hq; rw [HX.out] at hq; obtain ⟨rfl, hr, hk⟩ := hq; have Q := Lib.hid (H.out.read hr hk num_left (num_short _ _)); have K1 := Lib.hid hk; have y : u1.cell? ⟨sb, 1, none⟩ = some (.int .i64 part) := Q.out.row.cell 1; have y2 := Q.out.row.free 1; clear hr hk))
    go_wp2_with fail
    go_ret
    exact ⟨by rw [hE.out.2]; rfl, by rw [hE.out.1]; exact Q.out.part 4, (K1.out.more (by simp)).setCell _ _ (by simp)⟩
  · have hE : Hid (rdyP r part = part) := Lib.hid (by unfold rdyP; rw [HX.out, if_neg h1])
    by_cases h2 : x1 = 1
    · have hE2 : Hid (decide (x1 = 1) = true) := Lib.hid (decide_eq_true h2)
      have H2 := Lib.hid h2
      clear h2 h1
      go_enter Tryz.func142, Tryz.ntmps142
      go_wp2_with (first
        | (go_at_call 94; refine (num_any p g r 1 _ H.out.rd).mono ?_; intro e u1 hq; unfold numPost at hq; rw [HX.out, H2.out] at hq; obtain ⟨rfl, hr, hk⟩ := hq; have Q := Lib.hid (H.out.read hr hk num_left (num_short _ _)); have K1 := Lib.hid hk; clear hr hk))
      go_ret
      exact ⟨by rw [hE2.out]; rfl, by rw [hE.out]; exact Q.out, K1.out.more (by simp)⟩
    · have hb : (decide (1 < x1)) = false := decide_eq_false h1
      have hb2 : (x1 == 1) = false := by simp; omega
      have hE2 : Hid (decide (x1 = 1) = false) := Lib.hid (decide_eq_false h2)
      clear h2
      go_enter Tryz.func142, Tryz.ntmps142
      go_wp2_with (first
        | (go_at_call 94; refine (num_any p g r 1 _ H.out.rd).mono ?_; intro e u1 hq; unfold numPost at hq; rw [HX.out] at hq; obtain ⟨rfl, hr, hk⟩ := hq; have Q := Lib.hid (H.out.read hr hk num_left (num_short _ _)); have K1 := Lib.hid hk; clear hr hk))
      go_ret
      exact ⟨by rw [hE2.out]; rfl, by rw [hE.out]; exact Q.out, K1.out.more (by simp)⟩
end Go.Proofs.YthfdkonhjpdflaaGreatDoor
