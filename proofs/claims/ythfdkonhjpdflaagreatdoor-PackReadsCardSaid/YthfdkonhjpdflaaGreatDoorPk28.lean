/-
  PACK, 28: requests and answers out of bytes.
-/
import Derived.Test.YthfdkonhjpdflaaGreatDoorPkH
namespace Go.Proofs.YthfdkonhjpdflaaGreatDoor
open Go.RowKit
set_option linter.unusedVariables false
set_option maxRecDepth 100000
set_option linter.unusedSimpArgs false

/-- what is read, and where the reader stands then -/
def rqR0 (r : RS) : RS := r
def rqR1 (r : RS) : RS := ((rqR0 r).num 1).2
def rqR2 (r : RS) : RS := ((rqR1 r).count 9007199254740991).2
def rqR3 (r : RS) : RS := ((rqR2 r).num 1).2
def rqR4 (r : RS) : RS := ((rqR3 r).count 9007199254740991).2
def rqR5 (r : RS) : RS := ((rqR4 r).raw 32).2
def rqR6 (r : RS) : RS := ((rqR5 r).text 1024).2
def rqRd (r : RS) : RQ := ⟨((rqR0 r).num 1).1, ((rqR1 r).count 9007199254740991).1, ((rqR2 r).num 1).1, ((rqR3 r).count 9007199254740991).1, nmOf ((rqR4 r).raw 32).1, ((rqR5 r).text 1024).1⟩
def parseRq (b : List UInt8) : RQ × Int := (eL (endP (rqR6 ⟨b, 0⟩).end_ (rqRd ⟨b, 0⟩).ok) (rqRd ⟨b, 0⟩) rqZero, endP (rqR6 ⟨b, 0⟩).end_ (rqRd ⟨b, 0⟩).ok)
theorem rqL_split (q : RQ) (ev : Value) : rqL q ev = [.int .i64 q.client, .int .i64 q.num, .int .i64 q.kind, .int .i64 q.version] ++ (nameL q.name ++ [ev]) := by simp [rqL]
theorem rqL_eL (E : Int) (q : RQ) (ev : Value) : eL E (rqL q ev) (rqL rqZero nilV) = rqL (eL E q rqZero) (eL E ev nilV) := by unfold eL; split <;> rfl
theorem eL_rqV {E : Int} {w : World} {G : List Nat} {q : RQ} {ev : Value} (h : rqV w G q ev) : rqV w G (eL E q rqZero) (eL E ev nilV) := by
  unfold eL
  split
  · exact h
  · exact ⟨rqZero_name, bytesV.nil w G⟩
set_option maxHeartbeats 16000000 in
theorem parseRq_any (F : List Nat) (b : List UInt8) (v : Value) (w : World) (h : bytesV w F v b) (hb : b.length ≤ 1000000) :
    Calls Tryz.prog 30 #[v] w fun e w' => ∃ ev G, e = .returned (.tuple #[.agg (rqL (parseRq b).1 ev).toArray, .int .i64 (parseRq b).2]) ∧ rqV w' G (parseRq b).1 ev ∧ newIn w w' G ∧ keepBut [] w w' := by
  obtain ⟨zn, hzn⟩ : ∃ zn, rqZero.name = zn := ⟨_, rfl⟩
  have hznl : zn.length = 32 := by rw [← hzn]; exact rqZero_name
  obtain ⟨Z, hZ⟩ : ∃ Z, rqL rqZero nilV = Z := ⟨_, rfl⟩
  have hZ0 : Z = rqL ⟨0, 0, 0, 0, zn, []⟩ nilV := by rw [← hZ, ← hzn]; rfl
  have zv := zv_rq
  have zl : Z.length = 37 := by rw [← hZ]; exact rqL_len rqZero_name
  have zo : ∀ u ∈ Z, u.oneCell' = true := by rw [← hZ]; exact rqL_one _ rfl
  rw [hZ] at zv
  obtain ⟨r0, hr0⟩ : ∃ r, RS.mk b 0 = r := ⟨_, rfl⟩
  obtain ⟨x1, hx1⟩ : ∃ x, (r0.num 1).1 = x := ⟨_, rfl⟩
  obtain ⟨r1, hr1⟩ : ∃ x, (r0.num 1).2 = x := ⟨_, rfl⟩
  have S1 : Hid ((r1.l ≠ [] → r0.l ≠ []) ∧ r1.l.length ≤ r0.l.length) := Lib.hid (by rw [← hr1]; exact ⟨num_left, num_short _ _⟩)
  obtain ⟨x2, hx2⟩ : ∃ x, (r1.count 9007199254740991).1 = x := ⟨_, rfl⟩
  obtain ⟨r2, hr2⟩ : ∃ x, (r1.count 9007199254740991).2 = x := ⟨_, rfl⟩
  have S2 : Hid ((r2.l ≠ [] → r1.l ≠ []) ∧ r2.l.length ≤ r1.l.length) := Lib.hid (by rw [← hr2]; exact ⟨count_left, RS.count_short _ _⟩)
  obtain ⟨x3, hx3⟩ : ∃ x, (r2.num 1).1 = x := ⟨_, rfl⟩
  obtain ⟨r3, hr3⟩ : ∃ x, (r2.num 1).2 = x := ⟨_, rfl⟩
  have S3 : Hid ((r3.l ≠ [] → r2.l ≠ []) ∧ r3.l.length ≤ r2.l.length) := Lib.hid (by rw [← hr3]; exact ⟨num_left, num_short _ _⟩)
  obtain ⟨x4, hx4⟩ : ∃ x, (r3.count 9007199254740991).1 = x := ⟨_, rfl⟩
  obtain ⟨r4, hr4⟩ : ∃ x, (r3.count 9007199254740991).2 = x := ⟨_, rfl⟩
  have S4 : Hid ((r4.l ≠ [] → r3.l ≠ []) ∧ r4.l.length ≤ r3.l.length) := Lib.hid (by rw [← hr4]; exact ⟨count_left, RS.count_short _ _⟩)
  obtain ⟨x5, hx5⟩ : ∃ x, (r4.raw 32).1 = x := ⟨_, rfl⟩
  obtain ⟨r5, hr5⟩ : ∃ x, (r4.raw 32).2 = x := ⟨_, rfl⟩
  have S5 : Hid ((r5.l ≠ [] → r4.l ≠ []) ∧ r5.l.length ≤ r4.l.length) := Lib.hid (by rw [← hr5]; exact ⟨raw_left, raw_short _ _⟩)
  obtain ⟨x6, hx6⟩ : ∃ x, (r5.text 1024).1 = x := ⟨_, rfl⟩
  obtain ⟨r6, hr6⟩ : ∃ x, (r5.text 1024).2 = x := ⟨_, rfl⟩
  have S6 : Hid ((r6.l ≠ [] → r5.l ≠ []) ∧ r6.l.length ≤ r5.l.length) := Lib.hid (by rw [← hr6]; exact ⟨text_left, text_short _ _⟩)
  have e0 : rqR0 ⟨b, 0⟩ = r0 := by unfold rqR0; exact hr0
  have e1 : rqR1 ⟨b, 0⟩ = r1 := by unfold rqR1; rw [e0]; exact hr1
  have e2 : rqR2 ⟨b, 0⟩ = r2 := by unfold rqR2; rw [e1]; exact hr2
  have e3 : rqR3 ⟨b, 0⟩ = r3 := by unfold rqR3; rw [e2]; exact hr3
  have e4 : rqR4 ⟨b, 0⟩ = r4 := by unfold rqR4; rw [e3]; exact hr4
  have e5 : rqR5 ⟨b, 0⟩ = r5 := by unfold rqR5; rw [e4]; exact hr5
  have e6 : rqR6 ⟨b, 0⟩ = r6 := by unfold rqR6; rw [e5]; exact hr6
  have eq : rqRd ⟨b, 0⟩ = ⟨x1, x2, x3, x4, nmOf x5, x6⟩ := by unfold rqRd; rw [e0, e1, e2, e3, e4, e5, hx1, hx2, hx3, hx4, hx5, hx6]
  have HE := Lib.hid (show parseRq b = (eL (endP r6.end_ (RQ.ok ⟨x1, x2, x3, x4, nmOf x5, x6⟩)) ⟨x1, x2, x3, x4, nmOf x5, x6⟩ rqZero, endP r6.end_ (RQ.ok ⟨x1, x2, x3, x4, nmOf x5, x6⟩)) by unfold parseRq; rw [eq, e6])
  have hnx : (nmOf x5).length = 32 := by rw [← hx5]; exact nmOf_len (raw32_len _)
  have hrl : r0.l.length ≤ 1000000 := by rw [← hr0]; exact hb
  have HX := Lib.hid (And.intro hr0 (And.intro hrl (And.intro (And.intro hx1 hr1) (And.intro (And.intro hx2 hr2) (And.intro (And.intro hx3 hr3) (And.intro (And.intro hx4 hr4) (And.intro (And.intro hx5 hr5) (And.intro hx6 hr6))))))))
  have HV := Lib.hid (And.intro h hb)
  have HZ := Lib.hid (And.intro zv (And.intro zl (And.intro zo (And.intro hZ hZ0))))
  clear e6 e5 e4 e3 e2 e1 e0 hx1 hx2 hx3 hx4 hx5 hx6 eq h hb zv zl zo hZ hZ0 hzn hrl hr0 hr1 hr2 hr3 hr4 hr5 hr6
  have kA := (keepBut.refl [] w).alloc (.cells Z.toArray 26)
  have rA := rowAt.new w 26 Z.toArray
  obtain ⟨wA, hwA⟩ : ∃ wA, w.alloc (.cells Z.toArray 26) = wA := ⟨_, rfl⟩
  rw [hwA] at kA rA
  have HA := Lib.hid (And.intro hwA (And.intro kA (And.intro rA (HV.out.1.keep kA (by simp)))))
  clear kA rA hwA
  go_enter Tryz.func30, Tryz.ntmps30
  go_upto_region 2 with (first
    | (with_reducible refine wpList_alloc_to _ _ rfl 26 rfl _ HZ.out.1 HA.out.1 ?_)
    | (go_at_call 93; refine (numRead_any F b v _ HA.out.2.2.2 HV.out.2).mono ?_; rintro e w1 ⟨p, g, rfl, d1, d2, d3, d4⟩; rw [HX.out.1] at d1; have D1 := Lib.hid (And.intro d1 (And.intro d2 (And.intro d3 d4))); clear d1 d2 d3 d4))
  have P0 : Hid (prT w (w1.alloc (.cells Z.toArray 26)) p g w1.heap.size r0 26 (rqL ⟨0, 0, 0, 0, zn, []⟩ nilV) Z) := Lib.hid (by
    have kB := (keepBut.refl [] w1).alloc (.cells Z.toArray 26)
    have h1 := HA.out.2.2.1.lt
    have h2 := D1.out.1.lt
    have h3 := D1.out.2.1
    have h4 := HA.out.2.1.size
    refine ⟨D1.out.1.keep kB (by simp) (by simp), by omega, h2, fun hne => ⟨?_, D1.out.1.gl hne⟩, HX.out.2.1, ?_, kB.row (D1.out.2.2.2.row HA.out.2.2.1 (by simp)) (by simp), (HA.out.2.1.then D1.out.2.2.2 (by simp)).then kB (by simp)⟩
    · have := D1.out.2.2.1 (by rw [show b = r0.l by rw [← HX.out.1]]; exact hne); omega
    · rw [← HZ.out.2.2.2.2]; exact rowAt.new _ _ _)
  go_upto_region 3 with (first
    | (with_reducible refine wpList_alloc_to _ _ rfl 26 rfl _ HZ.out.1 rfl ?_))
  obtain ⟨tb, htb⟩ : ∃ tb, w1.heap.size = tb := ⟨_, rfl⟩
  obtain ⟨v0, hv0⟩ : ∃ v0, w1.alloc (.cells Z.toArray 26) = v0 := ⟨_, rfl⟩
  rw [htb, hv0] at P0
  rw [htb, hv0]
  clear htb hv0 D1
  go_upto_region 4 with (first
    | (go_at_call 94; refine (num_any p g r0 1 _ P0.out.rd).mono ?_; intro e u1 hq; unfold numPost at hq; rw [HX.out.2.2.1.1, HX.out.2.2.1.2] at hq; obtain ⟨rfl, hr, hk⟩ := hq; have Q := Lib.hid (P0.out.read hr hk S1.out.1 S1.out.2); have y : u1.cell? ⟨tb, 0, none⟩ = some (.int .i64 0) := (Q.out.row.cell 0).trans (by simp [rqL]); have y2 := Q.out.row.free 0; clear hr hk))
  have P1 := Lib.hid (Q.out.set 0 (.int .i64 x1) (L' := (rqL ⟨x1, 0, 0, 0, zn, []⟩ nilV)) (by simp [rqL]))
  obtain ⟨v1, hv⟩ : ∃ v, u1.setCell ⟨tb, 0, none⟩ (.int .i64 x1) = v := ⟨_, rfl⟩
  rw [hv] at P1 ⊢
  clear hv y y2 Q P0 S1
  go_upto_region 5 with (first
    | (go_at_call 102; refine (count_any p g r1 9007199254740991 _ P1.out.rd).mono ?_; intro e u2 hq; unfold countPost at hq; rw [HX.out.2.2.2.1.1, HX.out.2.2.2.1.2] at hq; obtain ⟨rfl, hr, hk⟩ := hq; have Q := Lib.hid (P1.out.read hr hk S2.out.1 S2.out.2); have y : u2.cell? ⟨tb, 1, none⟩ = some (.int .i64 0) := (Q.out.row.cell 1).trans (by simp [rqL]); have y2 := Q.out.row.free 1; clear hr hk))
  have P2 := Lib.hid (Q.out.set 1 (.int .i64 x2) (L' := (rqL ⟨x1, x2, 0, 0, zn, []⟩ nilV)) (by simp [rqL]))
  obtain ⟨v2, hv⟩ : ∃ v, u2.setCell ⟨tb, 1, none⟩ (.int .i64 x2) = v := ⟨_, rfl⟩
  rw [hv] at P2 ⊢
  clear hv y y2 Q P1 S2
  go_upto_region 6 with (first
    | (go_at_call 94; refine (num_any p g r2 1 _ P2.out.rd).mono ?_; intro e u3 hq; unfold numPost at hq; rw [HX.out.2.2.2.2.1.1, HX.out.2.2.2.2.1.2] at hq; obtain ⟨rfl, hr, hk⟩ := hq; have Q := Lib.hid (P2.out.read hr hk S3.out.1 S3.out.2); have y : u3.cell? ⟨tb, 2, none⟩ = some (.int .i64 0) := (Q.out.row.cell 2).trans (by simp [rqL]); have y2 := Q.out.row.free 2; clear hr hk))
  have P3 := Lib.hid (Q.out.set 2 (.int .i64 x3) (L' := (rqL ⟨x1, x2, x3, 0, zn, []⟩ nilV)) (by simp [rqL]))
  obtain ⟨v3, hv⟩ : ∃ v, u3.setCell ⟨tb, 2, none⟩ (.int .i64 x3) = v := ⟨_, rfl⟩
  rw [hv] at P3 ⊢
  clear hv y y2 Q P2 S3
  go_upto_region 7 with (first
    | (go_at_call 102; refine (count_any p g r3 9007199254740991 _ P3.out.rd).mono ?_; intro e u4 hq; unfold countPost at hq; rw [HX.out.2.2.2.2.2.1.1, HX.out.2.2.2.2.2.1.2] at hq; obtain ⟨rfl, hr, hk⟩ := hq; have Q := Lib.hid (P3.out.read hr hk S4.out.1 S4.out.2); have y : u4.cell? ⟨tb, 3, none⟩ = some (.int .i64 0) := (Q.out.row.cell 3).trans (by simp [rqL]); have y2 := Q.out.row.free 3; clear hr hk))
  have P4 := Lib.hid (Q.out.set 3 (.int .i64 x4) (L' := (rqL ⟨x1, x2, x3, x4, zn, []⟩ nilV)) (by simp [rqL]))
  obtain ⟨v4, hv⟩ : ∃ v, u4.setCell ⟨tb, 3, none⟩ (.int .i64 x4) = v := ⟨_, rfl⟩
  rw [hv] at P4 ⊢
  clear hv y y2 Q P3 S4
  have ht : ∀ wx, rowAt wx tb 26 (rqL ⟨x1, x2, x3, x4, zn, []⟩ nilV).toArray → wx.there tb 4 (nameL (nmOf x5)).toArray.size := fun wx hh => hh.there (by rw [List.size_toArray, nameL_len, hnx, List.size_toArray, rqL_len hznl]; omega)
  have hJ : (Tryz.prog.info? 23).map (·.size) = some (nameL (nmOf x5)).toArray.size := by rw [List.size_toArray, nameL_len, hnx]; exact infoName
  have HT := Lib.hid (And.intro ht hJ)
  clear ht hJ
  have HO := Lib.hid (all_oneCell_toArray (nameL_one (nmOf x5)))
  go_upto_region 8 with (first
    | (go_at_call 103; refine (readName_any p g r4 _ P4.out.rd (by have := P4.out.len; omega)).mono ?_; intro e u5 hq; rw [HX.out.2.2.2.2.2.2.1.1, HX.out.2.2.2.2.2.2.1.2] at hq; obtain ⟨rfl, hr, hk⟩ := hq; have Q := Lib.hid (P4.out.read hr hk S5.out.1 S5.out.2); clear hr hk)
    | (refine wpList_store_mid rfl 23 (.tmp 22) (.tmp 21) rfl tb 4 (nameL (nmOf x5)).toArray rfl rfl (HT.out.1 _ Q.out.row) HT.out.2 HO.out ?_))
  have P5 := Lib.hid (Q.out.setL 4 (nameL (nmOf x5)) (L' := (rqL ⟨x1, x2, x3, x4, nmOf x5, []⟩ nilV)) (by rw [rqL_split, rqL_split]; exact putL_mid [.int .i64 x1, .int .i64 x2, .int .i64 x3, .int .i64 x4] _ _ _ (by rw [nameL_len, nameL_len, hnx, hznl])))
  obtain ⟨v5, hv⟩ : ∃ v, u5.setCells tb 4 (nameL (nmOf x5)) = v := ⟨_, rfl⟩
  rw [hv] at P5
  rw [hv]
  simp only [Act.put]
  clear hv Q P4 S5
  have hnx2 : (RQ.mk x1 x2 x3 x4 (nmOf x5) []).name.length = 32 := hnx
  go_upto_region 9 with (first
    | (go_at_call 104; refine (text_any p g r5 1024 _ P5.out.rd (by have := P5.out.len; omega)).mono ?_; intro e u6 hq; unfold textPost at hq; rw [HX.out.2.2.2.2.2.2.2.1, HX.out.2.2.2.2.2.2.2.2] at hq; obtain ⟨ue, rfl, hfr, hr, hk⟩ := hq; obtain ⟨A6, c6, G6, rfl, hb6, hn6⟩ := hfr.gives; have Q := Lib.hid (P5.out.read hr hk S6.out.1 S6.out.2); have B6 := Lib.hid (And.intro hb6 hn6); have y : u6.cell? ⟨tb, 36, none⟩ = some nilV := (Q.out.row.cell 36).trans (rqL_env hnx2); have y2 := Q.out.row.free 36; clear hr hk hfr hb6 hn6))
  have P6 := Lib.hid (Q.out.set 36 (.slice A6 x6.length c6) (L' := (rqL ⟨x1, x2, x3, x4, nmOf x5, x6⟩ (.slice A6 x6.length c6))) (by rw [rqL_split, rqL_split]; exact (set_mid (a := [.int .i64 x1, .int .i64 x2, .int .i64 x3, .int .i64 x4] ++ nameL (nmOf x5)) (x := nilV) (b := []) (k := 36) (by simp) (by simp [nameL_len, hnx]) _).trans (by simp)))
  have B7 : Hid (bytesV (u6.setCell ⟨tb, 36, none⟩ (.slice A6 x6.length c6)) G6 (.slice A6 x6.length c6) x6 ∧ ∀ y ∈ G6, tb < y ∧ y < u6.heap.size) := Lib.hid (by
    have hlt : ∀ y ∈ G6, tb < y ∧ y < u6.heap.size := fun y hy => ⟨by have := (B6.out.2 y hy).1; have := P5.out.row.lt; omega, (B6.out.2 y hy).2⟩
    exact ⟨B6.out.1.keep (kset u6 tb 36 _) (fun y hy => by have := (hlt y hy).1; simp; omega), hlt⟩)
  have hsz : (u6.setCell ⟨tb, 36, none⟩ (.slice A6 x6.length c6)).heap.size = u6.heap.size := World.size_setCell _ _ _
  obtain ⟨v6, hv⟩ : ∃ v, u6.setCell ⟨tb, 36, none⟩ (.slice A6 x6.length c6) = v := ⟨_, rfl⟩
  rw [hv] at P6 B7 hsz ⊢
  have HSZ := Lib.hid hsz
  clear hv y y2 Q P5 S6 hsz
  have hq : Hid (rqV v6 G6 ⟨x1, x2, x3, x4, nmOf x5, x6⟩ (.slice A6 x6.length c6)) := Lib.hid ⟨hnx, B7.out.1⟩
  have hI : Hid ((Tryz.prog.info? 26).map (·.size) = some (rqL ⟨x1, x2, x3, x4, nmOf x5, x6⟩ (.slice A6 x6.length c6)).length) := Lib.hid (by rw [rqL_len hnx]; exact info_rq)
  have hxl : (rqL ⟨x1, x2, x3, x4, nmOf x5, x6⟩ (.slice A6 x6.length c6)).length = 37 := rqL_len hnx
  have hxo : ∀ u ∈ rqL ⟨x1, x2, x3, x4, nmOf x5, x6⟩ (.slice A6 x6.length c6), u.oneCell' = true := rqL_one _ rfl
  obtain ⟨XE, hXE⟩ : ∃ XE, endP r6.end_ (RQ.ok ⟨x1, x2, x3, x4, nmOf x5, x6⟩) = XE := ⟨_, rfl⟩
  obtain ⟨XL, hXL⟩ : ∃ XL, eL XE (rqL ⟨x1, x2, x3, x4, nmOf x5, x6⟩ (.slice A6 x6.length c6)) Z = XL := ⟨_, rfl⟩
  have hLl : XL.length = 37 := by rw [← hXL]; unfold eL; split; exact hxl; exact HZ.out.2.1
  have hLo : ∀ u ∈ XL, u.oneCell' = true := by rw [← hXL]; unfold eL; split; exact hxo; exact HZ.out.2.2.1
  have HXL := Lib.hid (And.intro hXL hXE)
  have HL := Lib.hid (And.intro hLl hLo)
  clear hxl hxo hXL hXE hLl hLo
  go_upto_region 9 with (first
    | fail)
  have rs : ∀ wx, rowAt wx w.heap.size 26 Z.toArray → rowAt (wx.setCells w.heap.size 0 XL) w.heap.size 26 XL.toArray := fun wx hh => by
    have := hh.setL (vs := XL) (o := 0)
    rw [putL_all (by rw [List.size_toArray, HL.out.1, HZ.out.2.1])] at this
    exact this
  have ht : ∀ wx, rowAt wx w.heap.size 26 Z.toArray → wx.there w.heap.size 0 XL.toArray.size := fun wx hh => hh.there (by simp only [List.size_toArray]; have h1 := HL.out.1; have h2 := HZ.out.2.1; omega)
  have hJ : (Tryz.prog.info? 26).map (·.size) = some XL.toArray.size := by rw [List.size_toArray, HL.out.1]; exact info_rq
  have HS := Lib.hid (And.intro rs (And.intro ht hJ))
  have HO2 := Lib.hid (all_oneCell_toArray HL.out.2)
  clear rs ht hJ
  go_wp2_with (first
    | (refine wpList_load_mid rfl 26 (.tmp 5) rfl tb 0 rfl _ _ P6.out.row.rangeAll Tryz.underlying26 rfl hI.out ?_)
    | (go_at_call 105; refine (endedReq_any G6 p g r6 _ _ _ P6.out.rd hq.out).mono ?_; rintro e w9 ⟨rfl, k9⟩; rw [HXL.out.2, HZ.out.2.2.2.1, HXL.out.1]; have P9 := Lib.hid (P6.out.over k9); have K9 := Lib.hid k9; clear k9)
    | (refine wpList_store_mid rfl 26 (.tmp 2) (.tmp 29) rfl w.heap.size 0 XL.toArray rfl rfl (HS.out.2.1 _ P9.out.res) HS.out.2.2 HO2.out ?_))
  refine bodyPost_ret (results_row_tmp rfl _ _ w.heap.size 26 _ (0, 0) _ rfl (HS.out.1 _ P9.out.res) Tryz.underlying26 rfl HS.out.2.2) rfl ?_
  have ks := (keepBut.refl [w.heap.size] w9).setL (vs := XL) (g := w.heap.size) (o := 0) (by simp)
  have hlo := P9.out.lo
  have hhi := P9.out.hi
  refine ⟨eL XE (.slice A6 x6.length c6) nilV, G6, ?_, ?_, fun y hy => ⟨?_, ?_⟩, P9.out.kp.setL (.inr (Nat.le_refl _))⟩
  · have h1 : XL = rqL (eL XE ⟨x1, x2, x3, x4, nmOf x5, x6⟩ rqZero) (eL XE (.slice A6 x6.length c6) nilV) := by rw [← HXL.out.1, ← HZ.out.2.2.2.1]; exact rqL_eL XE _ _
    rw [HE.out, HXL.out.2, ← h1]
    rfl
  · rw [HE.out, HXL.out.2]
    exact eL_rqV ⟨hnx, (hq.out.2.keep K9.out (by simp)).keep ks (fun y hy => by have := (B7.out.2 y hy).1; simp; omega)⟩
  · have := (B7.out.2 y hy).1; omega
  · have h1 := (B7.out.2 y hy).2; have h2 := K9.out.size; have h3 := ks.size; have h4 := HSZ.out; omega
/-- what is read, and where the reader stands then -/
def anR0 (r : RS) : RS := r
def anR1 (r : RS) : RS := ((anR0 r).num 1).2
def anR2 (r : RS) : RS := ((anR1 r).count 9007199254740991).2
def anR3 (r : RS) : RS := ((anR2 r).num 1).2
def anR4 (r : RS) : RS := ((anR3 r).count 9007199254740991).2
def anR5 (r : RS) : RS := ((anR4 r).num 1).2
def anR6 (r : RS) : RS := ((anR5 r).raw 32).2
def anR7 (r : RS) : RS := ((anR6 r).text 1024).2
def anRd (r : RS) : AN := ⟨((anR0 r).num 1).1, ((anR1 r).count 9007199254740991).1, ((anR2 r).num 1).1, ((anR3 r).count 9007199254740991).1, ((anR4 r).num 1).1, nmOf ((anR5 r).raw 32).1, ((anR6 r).text 1024).1⟩
def parseAn (b : List UInt8) : AN × Int := (eL (endP (anR7 ⟨b, 0⟩).end_ (anRd ⟨b, 0⟩).ok) (anRd ⟨b, 0⟩) anZero, endP (anR7 ⟨b, 0⟩).end_ (anRd ⟨b, 0⟩).ok)
theorem anL_split (q : AN) (ev : Value) : anL q ev = [.int .i64 q.client, .int .i64 q.num, .int .i64 q.code, .int .i64 q.version, .int .i64 q.epoch] ++ (nameL q.name ++ [ev]) := by simp [anL]
theorem anL_eL (E : Int) (q : AN) (ev : Value) : eL E (anL q ev) (anL anZero nilV) = anL (eL E q anZero) (eL E ev nilV) := by unfold eL; split <;> rfl
theorem eL_anV {E : Int} {w : World} {G : List Nat} {q : AN} {ev : Value} (h : anV w G q ev) : anV w G (eL E q anZero) (eL E ev nilV) := by
  unfold eL
  split
  · exact h
  · exact ⟨anZero_name, bytesV.nil w G⟩
set_option maxHeartbeats 16000000 in
theorem parseAn_any (F : List Nat) (b : List UInt8) (v : Value) (w : World) (h : bytesV w F v b) (hb : b.length ≤ 1000000) :
    Calls Tryz.prog 32 #[v] w fun e w' => ∃ ev G, e = .returned (.tuple #[.agg (anL (parseAn b).1 ev).toArray, .int .i64 (parseAn b).2]) ∧ anV w' G (parseAn b).1 ev ∧ newIn w w' G ∧ keepBut [] w w' := by
  obtain ⟨zn, hzn⟩ : ∃ zn, anZero.name = zn := ⟨_, rfl⟩
  have hznl : zn.length = 32 := by rw [← hzn]; exact anZero_name
  obtain ⟨Z, hZ⟩ : ∃ Z, anL anZero nilV = Z := ⟨_, rfl⟩
  have hZ0 : Z = anL ⟨0, 0, 0, 0, 0, zn, []⟩ nilV := by rw [← hZ, ← hzn]; rfl
  have zv := zv_an
  have zl : Z.length = 38 := by rw [← hZ]; exact anL_len anZero_name
  have zo : ∀ u ∈ Z, u.oneCell' = true := by rw [← hZ]; exact anL_one _ rfl
  rw [hZ] at zv
  obtain ⟨r0, hr0⟩ : ∃ r, RS.mk b 0 = r := ⟨_, rfl⟩
  obtain ⟨x1, hx1⟩ : ∃ x, (r0.num 1).1 = x := ⟨_, rfl⟩
  obtain ⟨r1, hr1⟩ : ∃ x, (r0.num 1).2 = x := ⟨_, rfl⟩
  have S1 : Hid ((r1.l ≠ [] → r0.l ≠ []) ∧ r1.l.length ≤ r0.l.length) := Lib.hid (by rw [← hr1]; exact ⟨num_left, num_short _ _⟩)
  obtain ⟨x2, hx2⟩ : ∃ x, (r1.count 9007199254740991).1 = x := ⟨_, rfl⟩
  obtain ⟨r2, hr2⟩ : ∃ x, (r1.count 9007199254740991).2 = x := ⟨_, rfl⟩
  have S2 : Hid ((r2.l ≠ [] → r1.l ≠ []) ∧ r2.l.length ≤ r1.l.length) := Lib.hid (by rw [← hr2]; exact ⟨count_left, RS.count_short _ _⟩)
  obtain ⟨x3, hx3⟩ : ∃ x, (r2.num 1).1 = x := ⟨_, rfl⟩
  obtain ⟨r3, hr3⟩ : ∃ x, (r2.num 1).2 = x := ⟨_, rfl⟩
  have S3 : Hid ((r3.l ≠ [] → r2.l ≠ []) ∧ r3.l.length ≤ r2.l.length) := Lib.hid (by rw [← hr3]; exact ⟨num_left, num_short _ _⟩)
  obtain ⟨x4, hx4⟩ : ∃ x, (r3.count 9007199254740991).1 = x := ⟨_, rfl⟩
  obtain ⟨r4, hr4⟩ : ∃ x, (r3.count 9007199254740991).2 = x := ⟨_, rfl⟩
  have S4 : Hid ((r4.l ≠ [] → r3.l ≠ []) ∧ r4.l.length ≤ r3.l.length) := Lib.hid (by rw [← hr4]; exact ⟨count_left, RS.count_short _ _⟩)
  obtain ⟨x5, hx5⟩ : ∃ x, (r4.num 1).1 = x := ⟨_, rfl⟩
  obtain ⟨r5, hr5⟩ : ∃ x, (r4.num 1).2 = x := ⟨_, rfl⟩
  have S5 : Hid ((r5.l ≠ [] → r4.l ≠ []) ∧ r5.l.length ≤ r4.l.length) := Lib.hid (by rw [← hr5]; exact ⟨num_left, num_short _ _⟩)
  obtain ⟨x6, hx6⟩ : ∃ x, (r5.raw 32).1 = x := ⟨_, rfl⟩
  obtain ⟨r6, hr6⟩ : ∃ x, (r5.raw 32).2 = x := ⟨_, rfl⟩
  have S6 : Hid ((r6.l ≠ [] → r5.l ≠ []) ∧ r6.l.length ≤ r5.l.length) := Lib.hid (by rw [← hr6]; exact ⟨raw_left, raw_short _ _⟩)
  obtain ⟨x7, hx7⟩ : ∃ x, (r6.text 1024).1 = x := ⟨_, rfl⟩
  obtain ⟨r7, hr7⟩ : ∃ x, (r6.text 1024).2 = x := ⟨_, rfl⟩
  have S7 : Hid ((r7.l ≠ [] → r6.l ≠ []) ∧ r7.l.length ≤ r6.l.length) := Lib.hid (by rw [← hr7]; exact ⟨text_left, text_short _ _⟩)
  have e0 : anR0 ⟨b, 0⟩ = r0 := by unfold anR0; exact hr0
  have e1 : anR1 ⟨b, 0⟩ = r1 := by unfold anR1; rw [e0]; exact hr1
  have e2 : anR2 ⟨b, 0⟩ = r2 := by unfold anR2; rw [e1]; exact hr2
  have e3 : anR3 ⟨b, 0⟩ = r3 := by unfold anR3; rw [e2]; exact hr3
  have e4 : anR4 ⟨b, 0⟩ = r4 := by unfold anR4; rw [e3]; exact hr4
  have e5 : anR5 ⟨b, 0⟩ = r5 := by unfold anR5; rw [e4]; exact hr5
  have e6 : anR6 ⟨b, 0⟩ = r6 := by unfold anR6; rw [e5]; exact hr6
  have e7 : anR7 ⟨b, 0⟩ = r7 := by unfold anR7; rw [e6]; exact hr7
  have eq : anRd ⟨b, 0⟩ = ⟨x1, x2, x3, x4, x5, nmOf x6, x7⟩ := by unfold anRd; rw [e0, e1, e2, e3, e4, e5, e6, hx1, hx2, hx3, hx4, hx5, hx6, hx7]
  have HE := Lib.hid (show parseAn b = (eL (endP r7.end_ (AN.ok ⟨x1, x2, x3, x4, x5, nmOf x6, x7⟩)) ⟨x1, x2, x3, x4, x5, nmOf x6, x7⟩ anZero, endP r7.end_ (AN.ok ⟨x1, x2, x3, x4, x5, nmOf x6, x7⟩)) by unfold parseAn; rw [eq, e7])
  have hnx : (nmOf x6).length = 32 := by rw [← hx6]; exact nmOf_len (raw32_len _)
  have hrl : r0.l.length ≤ 1000000 := by rw [← hr0]; exact hb
  have HX := Lib.hid (And.intro hr0 (And.intro hrl (And.intro (And.intro hx1 hr1) (And.intro (And.intro hx2 hr2) (And.intro (And.intro hx3 hr3) (And.intro (And.intro hx4 hr4) (And.intro (And.intro hx5 hr5) (And.intro (And.intro hx6 hr6) (And.intro hx7 hr7)))))))))
  have HV := Lib.hid (And.intro h hb)
  have HZ := Lib.hid (And.intro zv (And.intro zl (And.intro zo (And.intro hZ hZ0))))
  clear e7 e6 e5 e4 e3 e2 e1 e0 hx1 hx2 hx3 hx4 hx5 hx6 hx7 eq h hb zv zl zo hZ hZ0 hzn hrl hr0 hr1 hr2 hr3 hr4 hr5 hr6 hr7
  have kA := (keepBut.refl [] w).alloc (.cells Z.toArray 28)
  have rA := rowAt.new w 28 Z.toArray
  obtain ⟨wA, hwA⟩ : ∃ wA, w.alloc (.cells Z.toArray 28) = wA := ⟨_, rfl⟩
  rw [hwA] at kA rA
  have HA := Lib.hid (And.intro hwA (And.intro kA (And.intro rA (HV.out.1.keep kA (by simp)))))
  clear kA rA hwA
  go_enter Tryz.func32, Tryz.ntmps32
  go_upto_region 2 with (first
    | (with_reducible refine wpList_alloc_to _ _ rfl 28 rfl _ HZ.out.1 HA.out.1 ?_)
    | (go_at_call 93; refine (numRead_any F b v _ HA.out.2.2.2 HV.out.2).mono ?_; rintro e w1 ⟨p, g, rfl, d1, d2, d3, d4⟩; rw [HX.out.1] at d1; have D1 := Lib.hid (And.intro d1 (And.intro d2 (And.intro d3 d4))); clear d1 d2 d3 d4))
  have P0 : Hid (prT w (w1.alloc (.cells Z.toArray 28)) p g w1.heap.size r0 28 (anL ⟨0, 0, 0, 0, 0, zn, []⟩ nilV) Z) := Lib.hid (by
    have kB := (keepBut.refl [] w1).alloc (.cells Z.toArray 28)
    have h1 := HA.out.2.2.1.lt
    have h2 := D1.out.1.lt
    have h3 := D1.out.2.1
    have h4 := HA.out.2.1.size
    refine ⟨D1.out.1.keep kB (by simp) (by simp), by omega, h2, fun hne => ⟨?_, D1.out.1.gl hne⟩, HX.out.2.1, ?_, kB.row (D1.out.2.2.2.row HA.out.2.2.1 (by simp)) (by simp), (HA.out.2.1.then D1.out.2.2.2 (by simp)).then kB (by simp)⟩
    · have := D1.out.2.2.1 (by rw [show b = r0.l by rw [← HX.out.1]]; exact hne); omega
    · rw [← HZ.out.2.2.2.2]; exact rowAt.new _ _ _)
  go_upto_region 3 with (first
    | (with_reducible refine wpList_alloc_to _ _ rfl 28 rfl _ HZ.out.1 rfl ?_))
  obtain ⟨tb, htb⟩ : ∃ tb, w1.heap.size = tb := ⟨_, rfl⟩
  obtain ⟨v0, hv0⟩ : ∃ v0, w1.alloc (.cells Z.toArray 28) = v0 := ⟨_, rfl⟩
  rw [htb, hv0] at P0
  rw [htb, hv0]
  clear htb hv0 D1
  go_upto_region 4 with (first
    | (go_at_call 94; refine (num_any p g r0 1 _ P0.out.rd).mono ?_; intro e u1 hq; unfold numPost at hq; rw [HX.out.2.2.1.1, HX.out.2.2.1.2] at hq; obtain ⟨rfl, hr, hk⟩ := hq; have Q := Lib.hid (P0.out.read hr hk S1.out.1 S1.out.2); have y : u1.cell? ⟨tb, 0, none⟩ = some (.int .i64 0) := (Q.out.row.cell 0).trans (by simp [anL]); have y2 := Q.out.row.free 0; clear hr hk))
  have P1 := Lib.hid (Q.out.set 0 (.int .i64 x1) (L' := (anL ⟨x1, 0, 0, 0, 0, zn, []⟩ nilV)) (by simp [anL]))
  obtain ⟨v1, hv⟩ : ∃ v, u1.setCell ⟨tb, 0, none⟩ (.int .i64 x1) = v := ⟨_, rfl⟩
  rw [hv] at P1 ⊢
  clear hv y y2 Q P0 S1
  go_upto_region 5 with (first
    | (go_at_call 102; refine (count_any p g r1 9007199254740991 _ P1.out.rd).mono ?_; intro e u2 hq; unfold countPost at hq; rw [HX.out.2.2.2.1.1, HX.out.2.2.2.1.2] at hq; obtain ⟨rfl, hr, hk⟩ := hq; have Q := Lib.hid (P1.out.read hr hk S2.out.1 S2.out.2); have y : u2.cell? ⟨tb, 1, none⟩ = some (.int .i64 0) := (Q.out.row.cell 1).trans (by simp [anL]); have y2 := Q.out.row.free 1; clear hr hk))
  have P2 := Lib.hid (Q.out.set 1 (.int .i64 x2) (L' := (anL ⟨x1, x2, 0, 0, 0, zn, []⟩ nilV)) (by simp [anL]))
  obtain ⟨v2, hv⟩ : ∃ v, u2.setCell ⟨tb, 1, none⟩ (.int .i64 x2) = v := ⟨_, rfl⟩
  rw [hv] at P2 ⊢
  clear hv y y2 Q P1 S2
  go_upto_region 6 with (first
    | (go_at_call 94; refine (num_any p g r2 1 _ P2.out.rd).mono ?_; intro e u3 hq; unfold numPost at hq; rw [HX.out.2.2.2.2.1.1, HX.out.2.2.2.2.1.2] at hq; obtain ⟨rfl, hr, hk⟩ := hq; have Q := Lib.hid (P2.out.read hr hk S3.out.1 S3.out.2); have y : u3.cell? ⟨tb, 2, none⟩ = some (.int .i64 0) := (Q.out.row.cell 2).trans (by simp [anL]); have y2 := Q.out.row.free 2; clear hr hk))
  have P3 := Lib.hid (Q.out.set 2 (.int .i64 x3) (L' := (anL ⟨x1, x2, x3, 0, 0, zn, []⟩ nilV)) (by simp [anL]))
  obtain ⟨v3, hv⟩ : ∃ v, u3.setCell ⟨tb, 2, none⟩ (.int .i64 x3) = v := ⟨_, rfl⟩
  rw [hv] at P3 ⊢
  clear hv y y2 Q P2 S3
  go_upto_region 7 with (first
    | (go_at_call 102; refine (count_any p g r3 9007199254740991 _ P3.out.rd).mono ?_; intro e u4 hq; unfold countPost at hq; rw [HX.out.2.2.2.2.2.1.1, HX.out.2.2.2.2.2.1.2] at hq; obtain ⟨rfl, hr, hk⟩ := hq; have Q := Lib.hid (P3.out.read hr hk S4.out.1 S4.out.2); have y : u4.cell? ⟨tb, 3, none⟩ = some (.int .i64 0) := (Q.out.row.cell 3).trans (by simp [anL]); have y2 := Q.out.row.free 3; clear hr hk))
  have P4 := Lib.hid (Q.out.set 3 (.int .i64 x4) (L' := (anL ⟨x1, x2, x3, x4, 0, zn, []⟩ nilV)) (by simp [anL]))
  obtain ⟨v4, hv⟩ : ∃ v, u4.setCell ⟨tb, 3, none⟩ (.int .i64 x4) = v := ⟨_, rfl⟩
  rw [hv] at P4 ⊢
  clear hv y y2 Q P3 S4
  go_upto_region 8 with (first
    | (go_at_call 94; refine (num_any p g r4 1 _ P4.out.rd).mono ?_; intro e u5 hq; unfold numPost at hq; rw [HX.out.2.2.2.2.2.2.1.1, HX.out.2.2.2.2.2.2.1.2] at hq; obtain ⟨rfl, hr, hk⟩ := hq; have Q := Lib.hid (P4.out.read hr hk S5.out.1 S5.out.2); have y : u5.cell? ⟨tb, 4, none⟩ = some (.int .i64 0) := (Q.out.row.cell 4).trans (by simp [anL]); have y2 := Q.out.row.free 4; clear hr hk))
  have P5 := Lib.hid (Q.out.set 4 (.int .i64 x5) (L' := (anL ⟨x1, x2, x3, x4, x5, zn, []⟩ nilV)) (by simp [anL]))
  obtain ⟨v5, hv⟩ : ∃ v, u5.setCell ⟨tb, 4, none⟩ (.int .i64 x5) = v := ⟨_, rfl⟩
  rw [hv] at P5 ⊢
  clear hv y y2 Q P4 S5
  have ht : ∀ wx, rowAt wx tb 28 (anL ⟨x1, x2, x3, x4, x5, zn, []⟩ nilV).toArray → wx.there tb 5 (nameL (nmOf x6)).toArray.size := fun wx hh => hh.there (by rw [List.size_toArray, nameL_len, hnx, List.size_toArray, anL_len hznl]; omega)
  have hJ : (Tryz.prog.info? 23).map (·.size) = some (nameL (nmOf x6)).toArray.size := by rw [List.size_toArray, nameL_len, hnx]; exact infoName
  have HT := Lib.hid (And.intro ht hJ)
  clear ht hJ
  have HO := Lib.hid (all_oneCell_toArray (nameL_one (nmOf x6)))
  go_upto_region 9 with (first
    | (go_at_call 103; refine (readName_any p g r5 _ P5.out.rd (by have := P5.out.len; omega)).mono ?_; intro e u6 hq; rw [HX.out.2.2.2.2.2.2.2.1.1, HX.out.2.2.2.2.2.2.2.1.2] at hq; obtain ⟨rfl, hr, hk⟩ := hq; have Q := Lib.hid (P5.out.read hr hk S6.out.1 S6.out.2); clear hr hk)
    | (refine wpList_store_mid rfl 23 (.tmp 25) (.tmp 24) rfl tb 5 (nameL (nmOf x6)).toArray rfl rfl (HT.out.1 _ Q.out.row) HT.out.2 HO.out ?_))
  have P6 := Lib.hid (Q.out.setL 5 (nameL (nmOf x6)) (L' := (anL ⟨x1, x2, x3, x4, x5, nmOf x6, []⟩ nilV)) (by rw [anL_split, anL_split]; exact putL_mid [.int .i64 x1, .int .i64 x2, .int .i64 x3, .int .i64 x4, .int .i64 x5] _ _ _ (by rw [nameL_len, nameL_len, hnx, hznl])))
  obtain ⟨v6, hv⟩ : ∃ v, u6.setCells tb 5 (nameL (nmOf x6)) = v := ⟨_, rfl⟩
  rw [hv] at P6
  rw [hv]
  simp only [Act.put]
  clear hv Q P5 S6
  have hnx2 : (AN.mk x1 x2 x3 x4 x5 (nmOf x6) []).name.length = 32 := hnx
  go_upto_region 10 with (first
    | (go_at_call 104; refine (text_any p g r6 1024 _ P6.out.rd (by have := P6.out.len; omega)).mono ?_; intro e u7 hq; unfold textPost at hq; rw [HX.out.2.2.2.2.2.2.2.2.1, HX.out.2.2.2.2.2.2.2.2.2] at hq; obtain ⟨ue, rfl, hfr, hr, hk⟩ := hq; obtain ⟨A6, c6, G6, rfl, hb6, hn6⟩ := hfr.gives; have Q := Lib.hid (P6.out.read hr hk S7.out.1 S7.out.2); have B6 := Lib.hid (And.intro hb6 hn6); have y : u7.cell? ⟨tb, 37, none⟩ = some nilV := (Q.out.row.cell 37).trans (anL_env hnx2); have y2 := Q.out.row.free 37; clear hr hk hfr hb6 hn6))
  have P7 := Lib.hid (Q.out.set 37 (.slice A6 x7.length c6) (L' := (anL ⟨x1, x2, x3, x4, x5, nmOf x6, x7⟩ (.slice A6 x7.length c6))) (by rw [anL_split, anL_split]; exact (set_mid (a := [.int .i64 x1, .int .i64 x2, .int .i64 x3, .int .i64 x4, .int .i64 x5] ++ nameL (nmOf x6)) (x := nilV) (b := []) (k := 37) (by simp) (by simp [nameL_len, hnx]) _).trans (by simp)))
  have B7 : Hid (bytesV (u7.setCell ⟨tb, 37, none⟩ (.slice A6 x7.length c6)) G6 (.slice A6 x7.length c6) x7 ∧ ∀ y ∈ G6, tb < y ∧ y < u7.heap.size) := Lib.hid (by
    have hlt : ∀ y ∈ G6, tb < y ∧ y < u7.heap.size := fun y hy => ⟨by have := (B6.out.2 y hy).1; have := P6.out.row.lt; omega, (B6.out.2 y hy).2⟩
    exact ⟨B6.out.1.keep (kset u7 tb 37 _) (fun y hy => by have := (hlt y hy).1; simp; omega), hlt⟩)
  have hsz : (u7.setCell ⟨tb, 37, none⟩ (.slice A6 x7.length c6)).heap.size = u7.heap.size := World.size_setCell _ _ _
  obtain ⟨v7, hv⟩ : ∃ v, u7.setCell ⟨tb, 37, none⟩ (.slice A6 x7.length c6) = v := ⟨_, rfl⟩
  rw [hv] at P7 B7 hsz ⊢
  have HSZ := Lib.hid hsz
  clear hv y y2 Q P6 S7 hsz
  have hq : Hid (anV v7 G6 ⟨x1, x2, x3, x4, x5, nmOf x6, x7⟩ (.slice A6 x7.length c6)) := Lib.hid ⟨hnx, B7.out.1⟩
  have hI : Hid ((Tryz.prog.info? 28).map (·.size) = some (anL ⟨x1, x2, x3, x4, x5, nmOf x6, x7⟩ (.slice A6 x7.length c6)).length) := Lib.hid (by rw [anL_len hnx]; exact info_an)
  have hxl : (anL ⟨x1, x2, x3, x4, x5, nmOf x6, x7⟩ (.slice A6 x7.length c6)).length = 38 := anL_len hnx
  have hxo : ∀ u ∈ anL ⟨x1, x2, x3, x4, x5, nmOf x6, x7⟩ (.slice A6 x7.length c6), u.oneCell' = true := anL_one _ rfl
  obtain ⟨XE, hXE⟩ : ∃ XE, endP r7.end_ (AN.ok ⟨x1, x2, x3, x4, x5, nmOf x6, x7⟩) = XE := ⟨_, rfl⟩
  obtain ⟨XL, hXL⟩ : ∃ XL, eL XE (anL ⟨x1, x2, x3, x4, x5, nmOf x6, x7⟩ (.slice A6 x7.length c6)) Z = XL := ⟨_, rfl⟩
  have hLl : XL.length = 38 := by rw [← hXL]; unfold eL; split; exact hxl; exact HZ.out.2.1
  have hLo : ∀ u ∈ XL, u.oneCell' = true := by rw [← hXL]; unfold eL; split; exact hxo; exact HZ.out.2.2.1
  have HXL := Lib.hid (And.intro hXL hXE)
  have HL := Lib.hid (And.intro hLl hLo)
  clear hxl hxo hXL hXE hLl hLo
  go_upto_region 10 with (first
    | fail)
  have rs : ∀ wx, rowAt wx w.heap.size 28 Z.toArray → rowAt (wx.setCells w.heap.size 0 XL) w.heap.size 28 XL.toArray := fun wx hh => by
    have := hh.setL (vs := XL) (o := 0)
    rw [putL_all (by rw [List.size_toArray, HL.out.1, HZ.out.2.1])] at this
    exact this
  have ht : ∀ wx, rowAt wx w.heap.size 28 Z.toArray → wx.there w.heap.size 0 XL.toArray.size := fun wx hh => hh.there (by simp only [List.size_toArray]; have h1 := HL.out.1; have h2 := HZ.out.2.1; omega)
  have hJ : (Tryz.prog.info? 28).map (·.size) = some XL.toArray.size := by rw [List.size_toArray, HL.out.1]; exact info_an
  have HS := Lib.hid (And.intro rs (And.intro ht hJ))
  have HO2 := Lib.hid (all_oneCell_toArray HL.out.2)
  clear rs ht hJ
  go_wp2_with (first
    | (refine wpList_load_mid rfl 28 (.tmp 5) rfl tb 0 rfl _ _ P7.out.row.rangeAll Tryz.underlying28 rfl hI.out ?_)
    | (go_at_call 111; refine (endedAns_any G6 p g r7 _ _ _ P7.out.rd hq.out).mono ?_; rintro e w9 ⟨rfl, k9⟩; rw [HXL.out.2, HZ.out.2.2.2.1, HXL.out.1]; have P9 := Lib.hid (P7.out.over k9); have K9 := Lib.hid k9; clear k9)
    | (refine wpList_store_mid rfl 28 (.tmp 2) (.tmp 32) rfl w.heap.size 0 XL.toArray rfl rfl (HS.out.2.1 _ P9.out.res) HS.out.2.2 HO2.out ?_))
  refine bodyPost_ret (results_row_tmp rfl _ _ w.heap.size 28 _ (0, 0) _ rfl (HS.out.1 _ P9.out.res) Tryz.underlying28 rfl HS.out.2.2) rfl ?_
  have ks := (keepBut.refl [w.heap.size] w9).setL (vs := XL) (g := w.heap.size) (o := 0) (by simp)
  have hlo := P9.out.lo
  have hhi := P9.out.hi
  refine ⟨eL XE (.slice A6 x7.length c6) nilV, G6, ?_, ?_, fun y hy => ⟨?_, ?_⟩, P9.out.kp.setL (.inr (Nat.le_refl _))⟩
  · have h1 : XL = anL (eL XE ⟨x1, x2, x3, x4, x5, nmOf x6, x7⟩ anZero) (eL XE (.slice A6 x7.length c6) nilV) := by rw [← HXL.out.1, ← HZ.out.2.2.2.1]; exact anL_eL XE _ _
    rw [HE.out, HXL.out.2, ← h1]
    rfl
  · rw [HE.out, HXL.out.2]
    exact eL_anV ⟨hnx, (hq.out.2.keep K9.out (by simp)).keep ks (fun y hy => by have := (B7.out.2 y hy).1; simp; omega)⟩
  · have := (B7.out.2 y hy).1; omega
  · have h1 := (B7.out.2 y hy).2; have h2 := K9.out.size; have h3 := ks.size; have h4 := HSZ.out; omega
end Go.Proofs.YthfdkonhjpdflaaGreatDoor
