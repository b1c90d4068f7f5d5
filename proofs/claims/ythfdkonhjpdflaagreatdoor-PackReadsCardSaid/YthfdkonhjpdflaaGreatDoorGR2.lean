/-
  THE DOCUMENT's PARSERS, 2: requests and answers out of bytes.
-/
import Derived.Test.YthfdkonhjpdflaaGreatDoorGRA
import Derived.Test.YthfdkonhjpdflaaGreatDoorRCB
namespace Go.Proofs.YthfdkonhjpdflaaGreatDoor
open Go.RowKit
set_option linter.unusedVariables false
set_option maxRecDepth 100000
set_option linter.unusedSimpArgs false

section
open Go.WideShapes Go.RowKit
theorem wpList_build_pt {P : Program} (w : World) {ops : Array Oper} {rest : List Oper} {o : Oper} {a : Act} {Q : Exit → Act → World → Prop} (hgd : o.guard = none) (t : TypeId) (parts : Array (Nat × Operand)) (ho : o.op = .build t parts)
    (cells : Array Value) (hb : P.built t (parts.map fun (i, x) => (i, a.eval x)).toList = some cells) (h : wpList P ops Q rest (a.put o.dst (.agg cells)) w) : wpList P ops Q (o :: rest) a w :=
  wpList_plain hgd fun K hK => by
    unfold Oper.wp execOp
    simp only [ho, Sem.run_bind, run_build w t _ cells hb, Result.andThen_ok]
    exact hK _ _ h
end
/-- a reader behind a mark, with the result's row -/
structure prR2 (w0 w : World) (p g : Nat) (r : RS) (T : TypeId) (Z : List Value) : Prop where
  rd : isR2 w p g r
  lo : w0.heap.size < p
  gl : r.l ≠ [] → w0.heap.size < g
  len : r.l.length ≤ 1000000
  res : rowAt w w0.heap.size T Z.toArray
  kp : keepBut [] w0 w
theorem prR2.read {w0 w w' : World} {p g : Nat} {r r' : RS} {T : TypeId} {Z : List Value} (h : prR2 w0 w p g r T Z) (hr : isR2 w' p g r') (hk : keepBut [p] w w') (hl : r'.l ≠ [] → r.l ≠ []) (hs : r'.l.length ≤ r.l.length) : prR2 w0 w' p g r' T Z :=
  ⟨hr, h.lo, fun hne => h.gl (hl hne), Nat.le_trans hs h.len, hk.row h.res (by have := h.lo; simp; omega), h.kp.then hk (fun x hx => .inr (by simp at hx; have := h.lo; omega))⟩
/-- and a row that it is read into -/
structure prT2 (w0 w : World) (p g tb : Nat) (r : RS) (T : TypeId) (L Z : List Value) : Prop where
  rd : isR2 w p g r
  lo : w0.heap.size < p
  hi : p < tb
  gl : r.l ≠ [] → w0.heap.size < g ∧ g < tb
  len : r.l.length ≤ 1000000
  row : rowAt w tb T L.toArray
  res : rowAt w w0.heap.size T Z.toArray
  kp : keepBut [] w0 w
theorem prR2.box {w0 w : World} {p g : Nat} {r : RS} {T : TypeId} {Z : List Value} (h : prR2 w0 w p g r T Z) (L : List Value) : prT2 w0 (w.alloc (.cells L.toArray T)) p g w.heap.size r T L Z := by
  have kB := (keepBut.refl [] w).alloc (.cells L.toArray T)
  exact ⟨h.rd.keep kB (by simp) (by simp), h.lo, h.rd.lt, fun hne => ⟨h.gl hne, h.rd.gl hne⟩, h.len, rowAt.new _ _ _, kB.row h.res (by simp), h.kp.then kB (by simp)⟩
theorem prT2.read {w0 w w' : World} {p g tb : Nat} {r r' : RS} {T : TypeId} {L Z : List Value} (h : prT2 w0 w p g tb r T L Z) (hr : isR2 w' p g r') (hk : keepBut [p] w w') (hl : r'.l ≠ [] → r.l ≠ []) (hs : r'.l.length ≤ r.l.length) : prT2 w0 w' p g tb r' T L Z :=
  ⟨hr, h.lo, h.hi, fun hne => h.gl (hl hne), Nat.le_trans hs h.len, hk.row h.row (by have := h.hi; simp; omega), hk.row h.res (by have := h.lo; simp; omega), h.kp.then hk (fun x hx => .inr (by simp at hx; have := h.lo; omega))⟩
theorem prT2.keep {w0 w w' : World} {p g tb : Nat} {r : RS} {T : TypeId} {L L' Z : List Value} (h : prT2 w0 w p g tb r T L Z) (hk : keepBut [tb] w w') (hrow : rowAt w' tb T L'.toArray) : prT2 w0 w' p g tb r T L' Z :=
  ⟨h.rd.keep hk (by have := h.hi; simp; omega) (fun hne => by have := h.gl hne; simp; omega), h.lo, h.hi, h.gl, h.len, hrow, hk.row h.res (by have := h.lo; have := h.hi; simp; omega), h.kp.then hk (fun x hx => .inr (by simp at hx; have := h.lo; have := h.hi; omega))⟩
theorem prT2.set {w0 w : World} {p g tb : Nat} {r : RS} {T : TypeId} {L L' Z : List Value} (h : prT2 w0 w p g tb r T L Z) (k : Nat) (u : Value) (he : L.toArray.setIfInBounds k u = L'.toArray) : prT2 w0 (w.setCell ⟨tb, k, none⟩ u) p g tb r T L' Z :=
  h.keep ((keepBut.refl [tb] w).setCell ⟨tb, k, none⟩ u (.inl (by simp))) (by rw [← he]; exact h.row.set k u)
theorem prT2.setL {w0 w : World} {p g tb : Nat} {r : RS} {T : TypeId} {L L' Z : List Value} (h : prT2 w0 w p g tb r T L Z) (k : Nat) (us : List Value) (he : putL L.toArray k us = L'.toArray) : prT2 w0 (w.setCells tb k us) p g tb r T L' Z :=
  h.keep ((keepBut.refl [tb] w).setL (.inl (by simp))) (by rw [← he]; exact h.row.setL)
theorem prT2.over {w0 w w' : World} {p g tb : Nat} {r : RS} {T : TypeId} {L Z : List Value} (h : prT2 w0 w p g tb r T L Z) (hk : keepBut [] w w') : prT2 w0 w' p g tb r T L Z :=
  h.keep (hk.more (by simp)) (hk.row h.row (by simp))
theorem builtReq (x1 x2 x3 x4 : Int) : Tryz.prog.built 26 [(0, .int .i64 x1), (1, .int .i64 x2), (2, .int .i64 x3), (3, .int .i64 x4)] = some (rqL ⟨x1, x2, x3, x4, rqZero.name, []⟩ nilV).toArray := by kernel_rfl
theorem builtReq0 : Tryz.prog.built 26 [] = some (rqL rqZero nilV).toArray := by kernel_rfl
set_option maxHeartbeats 16000000 in
theorem parseReq2_any (F : List Nat) (b : List UInt8) (v : Value) (w : World) (h : bytesV w F v b) (hb : b.length ≤ 1000000) :
    Calls Tryz.prog 31 #[v] w fun e w' => ∃ ev G, e = .returned (.tuple #[.agg (rqL (parseRq b).1 ev).toArray, .int .i64 (parseRq b).2]) ∧ rqV w' G (parseRq b).1 ev ∧ newIn w w' G ∧ keepBut [] w w' := by
  obtain ⟨zn, hzn⟩ : ∃ zn, rqZero.name = zn := ⟨_, rfl⟩
  have hznl : zn.length = 32 := by rw [← hzn]; exact rqZero_name
  obtain ⟨Z, hZ⟩ : ∃ Z, rqL rqZero nilV = Z := ⟨_, rfl⟩
  have zv := zv_rq
  have zl : Z.length = 37 := by rw [← hZ]; exact rqL_len rqZero_name
  have zo : ∀ u ∈ Z, u.oneCell' = true := by rw [← hZ]; exact rqL_one _ rfl
  have b0 := builtReq0
  have bn := builtReq
  rw [hZ] at zv b0
  rw [hzn] at bn
  obtain ⟨r0, hr0⟩ : ∃ r, RS.mk b 0 = r := ⟨_, rfl⟩
  obtain ⟨x1, hx1⟩ : ∃ x, (r0.num 1).1 = x := ⟨_, rfl⟩
  obtain ⟨r1, hr1⟩ : ∃ x, (r0.num 1).2 = x := ⟨_, rfl⟩
  have S1 : Hid ((r1.l ≠ [] → r0.l ≠ []) ∧ r1.l.length ≤ r0.l.length) := Lib.hid (by rw [← hr1]; exact ⟨num_left, num_short _ _⟩)
  obtain ⟨x2, hx2⟩ : ∃ x, (r1.count 9007199254740991).1 = x := ⟨_, rfl⟩
  obtain ⟨r2, hr2⟩ : ∃ x, (r1.count 9007199254740991).2 = x := ⟨_, rfl⟩
  have S2 : Hid ((r2.l ≠ [] → r1.l ≠ []) ∧ r2.l.length ≤ r1.l.length) := Lib.hid (by rw [← hr2]; exact ⟨count_left, RS.count_short _ _⟩)
  obtain ⟨x3, hx3⟩ : ∃ x, (r2.num 1).1 = x := ⟨_, rfl⟩
  obtain ⟨r3, hr3⟩ : ∃ x, (r2.num 1).2 = x := ⟨_, rfl⟩
  have S3 : Hid ((r3.l ≠ [] → r2.l ≠ []) ∧ r3.l.length ≤ r2.l.length) := Lib.hid (by rw [← hr3]; exact ⟨num_left, num_short _ _⟩)
  obtain ⟨x4, hx4⟩ : ∃ x, (r3.count 9007199254740991).1 = x := ⟨_, rfl⟩
  obtain ⟨r4, hr4⟩ : ∃ x, (r3.count 9007199254740991).2 = x := ⟨_, rfl⟩
  have S4 : Hid ((r4.l ≠ [] → r3.l ≠ []) ∧ r4.l.length ≤ r3.l.length) := Lib.hid (by rw [← hr4]; exact ⟨count_left, RS.count_short _ _⟩)
  obtain ⟨x5, hx5⟩ : ∃ x, (r4.raw 32).1 = x := ⟨_, rfl⟩
  obtain ⟨r5, hr5⟩ : ∃ x, (r4.raw 32).2 = x := ⟨_, rfl⟩
  have S5 : Hid ((r5.l ≠ [] → r4.l ≠ []) ∧ r5.l.length ≤ r4.l.length) := Lib.hid (by rw [← hr5]; exact ⟨raw_left, raw_short _ _⟩)
  obtain ⟨x6, hx6⟩ : ∃ x, (r5.text 1024).1 = x := ⟨_, rfl⟩
  obtain ⟨r6, hr6⟩ : ∃ x, (r5.text 1024).2 = x := ⟨_, rfl⟩
  have S6 : Hid ((r6.l ≠ [] → r5.l ≠ []) ∧ r6.l.length ≤ r5.l.length) := Lib.hid (by rw [← hr6]; exact ⟨text_left, text_short _ _⟩)
  have e0 : rqR0 ⟨b, 0⟩ = r0 := by unfold rqR0; exact hr0
  have e1 : rqR1 ⟨b, 0⟩ = r1 := by unfold rqR1; rw [e0]; exact hr1
  have e2 : rqR2 ⟨b, 0⟩ = r2 := by unfold rqR2; rw [e1]; exact hr2
  have e3 : rqR3 ⟨b, 0⟩ = r3 := by unfold rqR3; rw [e2]; exact hr3
  have e4 : rqR4 ⟨b, 0⟩ = r4 := by unfold rqR4; rw [e3]; exact hr4
  have e5 : rqR5 ⟨b, 0⟩ = r5 := by unfold rqR5; rw [e4]; exact hr5
  have e6 : rqR6 ⟨b, 0⟩ = r6 := by unfold rqR6; rw [e5]; exact hr6
  have eq : rqRd ⟨b, 0⟩ = ⟨x1, x2, x3, x4, nmOf x5, x6⟩ := by unfold rqRd; rw [e0, e1, e2, e3, e4, e5, hx1, hx2, hx3, hx4, hx5, hx6]
  have HE := Lib.hid (show parseRq b = (eL (endP r6.end_ (RQ.ok ⟨x1, x2, x3, x4, nmOf x5, x6⟩)) ⟨x1, x2, x3, x4, nmOf x5, x6⟩ rqZero, endP r6.end_ (RQ.ok ⟨x1, x2, x3, x4, nmOf x5, x6⟩)) by unfold parseRq; rw [eq, e6])
  have hnx : (nmOf x5).length = 32 := by rw [← hx5]; exact nmOf_len (raw32_len _)
  have hrl : r0.l.length ≤ 1000000 := by rw [← hr0]; exact hb
  have X1 := Lib.hid (And.intro hx1 hr1)
  have X2 := Lib.hid (And.intro hx2 hr2)
  have X3 := Lib.hid (And.intro hx3 hr3)
  have X4 := Lib.hid (And.intro hx4 hr4)
  have X5 := Lib.hid (And.intro hx5 hr5)
  have X6 := Lib.hid (And.intro hx6 hr6)
  have HZ := Lib.hid (And.intro zv (And.intro zl (And.intro zo (And.intro hZ (And.intro b0 (And.intro bn (And.intro (all_oneCell_toArray zo) (show (Tryz.prog.info? 26).map (·.size) = some Z.toArray.size by rw [List.size_toArray, zl]; exact info_rq))))))))
  clear e6 e5 e4 e3 e2 e1 e0 hx1 hr1 hx2 hr2 hx3 hr3 hx4 hr4 hx5 hr5 hx6 hr6 eq zv zl zo b0 bn
  have kA := (keepBut.refl [] w).alloc (.cells Z.toArray 26)
  have rA := rowAt.new w 26 Z.toArray
  obtain ⟨wA, hwA⟩ : ∃ wA, w.alloc (.cells Z.toArray 26) = wA := ⟨_, rfl⟩
  rw [hwA] at kA rA
  have hA := h.keep kA (by simp)
  obtain ⟨A, c, g0, rfl, h2, h3, h4, h5⟩ := hA
  have HA := Lib.hid (And.intro hwA (And.intro kA (And.intro rA (And.intro h4 (And.intro hb (And.intro hr0 (And.intro hrl hZ)))))))
  have HN := Lib.hid (And.intro hnx hznl)
  clear kA rA hwA h2 h3 h4 h5 h hb hr0 hrl hzn hZ hnx hznl
  go_enter Tryz.func31, Tryz.ntmps31
  go_upto_region 2 with (first
    | (with_reducible refine wpList_alloc_to _ _ rfl 26 rfl _ HZ.out.1 HA.out.1 ?_)
    | (go_at_call 98; refine (read2_any A g0 c b.length b _ rfl HA.out.2.2.2.1 (by have := HA.out.2.2.2.2.1; omega)).mono ?_; rintro e w1 ⟨p, g, rfl, d1, d2, d3, d4⟩; rw [HA.out.2.2.2.2.2.1] at d1; have P0 : Hid (prR2 w w1 p g r0 26 Z) := Lib.hid ⟨d1, by have := HA.out.2.2.1.lt; omega, fun hne => by have := d3 (by rw [show b = r0.l by rw [← HA.out.2.2.2.2.2.1]]; exact hne); have := HA.out.2.2.1.lt; omega, HA.out.2.2.2.2.2.2.1, d4.row HA.out.2.2.1 (by simp), HA.out.2.1.then d4 (by simp)⟩; clear d1 d2 d3 d4))
  go_upto_region 3 with (first
    | (go_at_call 106; with_reducible refine Calls.mono (num2_any p g r0 1 _ P0.out.rd (by have := P0.out.len; omega)) ?_; intro e u1 hq; unfold num2Post at hq; rw [X1.out.1, X1.out.2] at hq; obtain ⟨rfl, hr, hk⟩ := hq; have P1 := Lib.hid (P0.out.read hr hk S1.out.1 S1.out.2); clear hr hk)
    | (go_at_call 107; with_reducible refine Calls.mono (count2_any p g r1 9007199254740991 _ P1.out.rd (by have := P1.out.len; omega)) ?_; intro e u2 hq; unfold count2Post at hq; rw [X2.out.1, X2.out.2] at hq; obtain ⟨rfl, hr, hk⟩ := hq; have P2 := Lib.hid (P1.out.read hr hk S2.out.1 S2.out.2); clear hr hk)
    | (go_at_call 106; with_reducible refine Calls.mono (num2_any p g r2 1 _ P2.out.rd (by have := P2.out.len; omega)) ?_; intro e u3 hq; unfold num2Post at hq; rw [X3.out.1, X3.out.2] at hq; obtain ⟨rfl, hr, hk⟩ := hq; have P3 := Lib.hid (P2.out.read hr hk S3.out.1 S3.out.2); clear hr hk)
    | (go_at_call 107; with_reducible refine Calls.mono (count2_any p g r3 9007199254740991 _ P3.out.rd (by have := P3.out.len; omega)) ?_; intro e u4 hq; unfold count2Post at hq; rw [X4.out.1, X4.out.2] at hq; obtain ⟨rfl, hr, hk⟩ := hq; have P4 := Lib.hid (P3.out.read hr hk S4.out.1 S4.out.2); clear hr hk; obtain ⟨tb, htb⟩ : ∃ b, u4.heap.size = b := ⟨_, rfl⟩; obtain ⟨uB, huB⟩ : ∃ W, u4.alloc (.cells Z.toArray 26) = W := ⟨_, rfl⟩; have PB : Hid (prT2 w uB p g tb r4 26 Z Z) := Lib.hid (by rw [← huB, ← htb]; exact P4.out.box Z); have HB := Lib.hid (And.intro huB htb); clear huB htb; (try dsimp only); rename_i hK; refine hK _ _ ?_; clear hK; refine wpList_build_pt _ rfl 26 _ rfl (rqL ⟨x1, x2, x3, x4, zn, []⟩ nilV).toArray (by simp only [List.map_toArray, List.map_cons, List.map_nil]; go_simp; exact HZ.out.2.2.2.2.2.1 x1 x2 x3 x4) ?_)
    | (with_reducible refine wpList_alloc_to _ _ rfl 26 rfl _ HZ.out.1 HB.out.1 ?_; rw [HB.out.2])
    | (refine wpList_store_mid rfl 26 (.tmp 5) (.tmp 16) rfl tb 0 (rqL ⟨x1, x2, x3, x4, zn, []⟩ nilV).toArray rfl rfl (PB.out.row.there (by rw [List.size_toArray, List.size_toArray, rqL_len HN.out.2, HZ.out.2.1]; omega)) (by rw [List.size_toArray, rqL_len HN.out.2]; exact info_rq) (all_oneCell_toArray (rqL_one _ rfl)) ?_))
  have PC : Hid (prT2 w (uB.setCells tb 0 (rqL ⟨x1, x2, x3, x4, zn, []⟩ nilV)) p g tb r4 26 (rqL ⟨x1, x2, x3, x4, zn, []⟩ nilV) Z) := Lib.hid (PB.out.setL 0 (rqL ⟨x1, x2, x3, x4, zn, []⟩ nilV) (putL_all (by rw [List.size_toArray, rqL_len HN.out.2, HZ.out.2.1])))
  obtain ⟨uC, huC⟩ : ∃ W, uB.setCells tb 0 (rqL ⟨x1, x2, x3, x4, zn, []⟩ nilV) = W := ⟨_, rfl⟩
  rw [huC] at PC
  rw [huC]
  simp only [Act.put]
  clear huC PB HB P0 P1 P2 P3 P4 S1 S2 S3 S4 X1 X2 X3 X4
  have hjN : (Tryz.prog.info? 23).map (·.size) = some (nameL (nmOf x5)).toArray.size := by rw [List.size_toArray, nameL_len, HN.out.1]; exact infoName
  have HT := Lib.hid (And.intro hjN (all_oneCell_toArray (nameL_one (nmOf x5))))
  clear hjN
  go_upto_region 4 with (first
    | (go_at_call 108; refine (name2_any p g r4 _ PC.out.rd (by have := PC.out.len; omega)).mono ?_; intro e u5 hq; rw [X5.out.1, X5.out.2] at hq; obtain ⟨rfl, hr, hk⟩ := hq; have Q := Lib.hid (PC.out.read hr hk S5.out.1 S5.out.2); clear hr hk)
    | (refine wpList_store_mid rfl 23 (.tmp 19) (.tmp 18) rfl tb 4 (nameL (nmOf x5)).toArray rfl rfl (Q.out.row.there (by rw [List.size_toArray, nameL_len, HN.out.1, List.size_toArray, rqL_len HN.out.2]; omega)) HT.out.1 HT.out.2 ?_))
  have P5 := Lib.hid (Q.out.setL 4 (nameL (nmOf x5)) (L' := (rqL ⟨x1, x2, x3, x4, nmOf x5, []⟩ nilV)) (by rw [rqL_split, rqL_split]; exact putL_mid [.int .i64 x1, .int .i64 x2, .int .i64 x3, .int .i64 x4] _ _ _ (by rw [nameL_len, nameL_len, HN.out.1, HN.out.2])))
  obtain ⟨v5, hv⟩ : ∃ v, u5.setCells tb 4 (nameL (nmOf x5)) = v := ⟨_, rfl⟩
  rw [hv] at P5
  rw [hv]
  simp only [Act.put]
  clear hv Q S5 PC
  have hnx2 : (RQ.mk x1 x2 x3 x4 (nmOf x5) []).name.length = 32 := HN.out.1
  go_upto_region 5 with (first
    | (go_at_call 109; refine (text2_any p g r5 1024 _ P5.out.rd (by have := P5.out.len; omega)).mono ?_; intro e u6 hq; unfold text2Post at hq; rw [X6.out.1, X6.out.2] at hq; obtain ⟨ue, rfl, hfr, hr, hk⟩ := hq; obtain ⟨A6, c6, G6, rfl, hb6, hn6⟩ := hfr.gives; have Q := Lib.hid (P5.out.read hr hk S6.out.1 S6.out.2); have B6 := Lib.hid (And.intro hb6 hn6); have y : u6.cell? ⟨tb, 36, none⟩ = some nilV := (Q.out.row.cell 36).trans (rqL_env hnx2); have y2 := Q.out.row.free 36; clear hr hk hfr hb6 hn6))
  have P6 := Lib.hid (Q.out.set 36 (.slice A6 x6.length c6) (L' := (rqL ⟨x1, x2, x3, x4, nmOf x5, x6⟩ (.slice A6 x6.length c6))) (by rw [rqL_split, rqL_split]; exact (set_mid (a := [.int .i64 x1, .int .i64 x2, .int .i64 x3, .int .i64 x4] ++ nameL (nmOf x5)) (x := nilV) (b := []) (k := 36) (by simp) (by simp [nameL_len, HN.out.1]) _).trans (by simp)))
  have B7 : Hid (bytesV (u6.setCell ⟨tb, 36, none⟩ (.slice A6 x6.length c6)) G6 (.slice A6 x6.length c6) x6 ∧ ∀ y ∈ G6, tb < y ∧ y < u6.heap.size) := Lib.hid (by
    have hlt : ∀ y ∈ G6, tb < y ∧ y < u6.heap.size := fun y hy => ⟨by have := (B6.out.2 y hy).1; have := P5.out.row.lt; omega, (B6.out.2 y hy).2⟩
    exact ⟨B6.out.1.keep (kset u6 tb 36 _) (fun y hy => by have := (hlt y hy).1; simp; omega), hlt⟩)
  have hsz : (u6.setCell ⟨tb, 36, none⟩ (.slice A6 x6.length c6)).heap.size = u6.heap.size := World.size_setCell _ _ _
  obtain ⟨v6, hv⟩ : ∃ v, u6.setCell ⟨tb, 36, none⟩ (.slice A6 x6.length c6) = v := ⟨_, rfl⟩
  rw [hv] at P6 B7 hsz ⊢
  have HSZ := Lib.hid hsz
  clear hv y y2 Q P5 S6 hsz B6
  have hq : Hid (rqV v6 G6 ⟨x1, x2, x3, x4, nmOf x5, x6⟩ (.slice A6 x6.length c6)) := Lib.hid ⟨HN.out.1, B7.out.1⟩
  have HY : Hid ((rqL ⟨x1, x2, x3, x4, nmOf x5, x6⟩ (.slice A6 x6.length c6)).length = 37 ∧ (∀ u ∈ rqL ⟨x1, x2, x3, x4, nmOf x5, x6⟩ (.slice A6 x6.length c6), u.oneCell' = true) ∧ (Tryz.prog.info? 26).map (·.size) = some (rqL ⟨x1, x2, x3, x4, nmOf x5, x6⟩ (.slice A6 x6.length c6)).length) := Lib.hid ⟨rqL_len HN.out.1, rqL_one _ rfl, by rw [rqL_len HN.out.1]; exact info_rq⟩
  obtain ⟨L6, hL6⟩ : ∃ l, rqL ⟨x1, x2, x3, x4, nmOf x5, x6⟩ (.slice A6 x6.length c6) = l := ⟨_, rfl⟩
  obtain ⟨q, hqq⟩ : ∃ q, (RQ.mk x1 x2 x3 x4 (nmOf x5) x6) = q := ⟨_, rfl⟩
  have HQ := Lib.hid (And.intro hL6 hqq)
  rw [hL6] at P6 HY
  rw [hqq] at hq HE
  have hLq : rqL q (.slice A6 x6.length c6) = L6 := by rw [← hqq]; exact hL6
  have HCk : Hid (Calls Tryz.prog 80 #[.agg L6.toArray] v6 fun e w' => e = .returned (.int .i64 (toldP q.ok)) ∧ keepBut [] v6 w') := Lib.hid (by rw [← hLq]; exact checkReqD G6 q _ _ hq.out)
  have HLq := Lib.hid hLq
  clear hLq
  have HJ : (Tryz.prog.info? 26).map (·.size) = some L6.toArray.size := by rw [List.size_toArray]; exact HY.out.2.2
  have HO := Lib.hid (And.intro HJ (all_oneCell_toArray HY.out.2.1))
  clear HJ hL6
  have bad : ∀ (c : Int) (wx : World), keepBut [] v6 wx → c ≠ 0 → endP r6.end_ q.ok = c → ∃ ev G, Ending.returned (.tuple #[.agg Z.toArray, .int .i64 c]) = .returned (.tuple #[.agg (rqL (parseRq b).1 ev).toArray, .int .i64 (parseRq b).2]) ∧ rqV (wx.setCells w.heap.size 0 Z) G (parseRq b).1 ev ∧ newIn w (wx.setCells w.heap.size 0 Z) G ∧ keepBut [] w (wx.setCells w.heap.size 0 Z) := by
    intro c wx hk hc he
    rw [HE.out, he]
    unfold eL
    rw [if_neg hc]
    refine ⟨nilV, [], by rw [HA.out.2.2.2.2.2.2.2], ⟨rqZero_name, bytesV.nil _ _⟩, by simp [newIn], (P6.out.kp.then hk (by simp)).setL (.inr (Nat.le_refl _))⟩
  have rsZ : ∀ wx, rowAt wx w.heap.size 26 Z.toArray → rowAt (wx.setCells w.heap.size 0 Z) w.heap.size 26 Z.toArray := fun wx hh => by
    have := hh.setL (vs := Z) (o := 0)
    rw [putL_all (by rw [List.size_toArray])] at this
    exact this
  have rsL : ∀ wx, rowAt wx w.heap.size 26 Z.toArray → rowAt (wx.setCells w.heap.size 0 L6) w.heap.size 26 L6.toArray := fun wx hh => by
    have := hh.setL (vs := L6) (o := 0)
    rw [putL_all (by rw [List.size_toArray, HY.out.1, HZ.out.2.1])] at this
    exact this
  have HR := Lib.hid (And.intro rsZ (And.intro rsL bad))
  clear rsZ rsL bad
  have hb0 : ∀ w, (Instr.build 26 #[]).run Tryz.prog w = .ok (.agg Z.toArray) w := fun w => run_build w 26 #[] _ HZ.out.2.2.2.2.1
  by_cases he : r6.e = 0
  · have he' : (r6.e != 0) = false := by simp [he]
    by_cases hl : r6.end_ = 0
    · have hl' : (r6.end_ != 0) = false := by simp [hl]
      cases hok : q.ok
      · have HP := Lib.hid (show endP r6.end_ q.ok = 4 by rw [hl, hok]; rfl)
        have HK := Lib.hid hok
        clear he hl hok
        go_wp2_with (first
          | (go_at_call 110; refine (err2_any p g r6 _ P6.out.rd).mono ?_; rintro e wy ⟨rfl, rfl⟩)
          | (go_at_call 101; refine (end2_any p g r6 _ P6.out.rd).mono ?_; rintro e wy ⟨rfl, rfl⟩)
          | (refine wpList_load_mid_g 26 (.tmp 5) rfl tb 0 rfl _ _ P6.out.row.rangeAll Tryz.underlying26 rfl HY.out.2.2 ?_ ?_; · rfl)
          | (go_at_call 80; refine HCk.out.mono ?_; rintro e w9 ⟨rfl, k9⟩; rw [HK.out]; have P9 := Lib.hid (P6.out.over k9); have K9 := Lib.hid k9; clear k9)
          | (refine wpList_store_mid rfl 26 (.tmp 2) (.tmp 37) rfl w.heap.size 0 Z.toArray rfl (by rw [← HA.out.2.2.2.2.2.2.2]; rfl) (P9.out.res.there (by omega)) HZ.out.2.2.2.2.2.2.2 HZ.out.2.2.2.2.2.2.1 ?_))
        refine bodyPost_ret (results_row_tmp rfl _ _ w.heap.size 26 _ (0, 0) _ rfl (HR.out.1 _ P9.out.res) Tryz.underlying26 rfl HZ.out.2.2.2.2.2.2.2) rfl ?_
        exact HR.out.2.2 _ _ K9.out (by decide) HP.out
      · have HP := Lib.hid (show endP r6.end_ q.ok = 0 by rw [hl, hok]; rfl)
        have HK := Lib.hid hok
        clear he hl hok
        go_wp2_with (first
          | (go_at_call 110; refine (err2_any p g r6 _ P6.out.rd).mono ?_; rintro e wy ⟨rfl, rfl⟩)
          | (go_at_call 101; refine (end2_any p g r6 _ P6.out.rd).mono ?_; rintro e wy ⟨rfl, rfl⟩)
          | (refine wpList_load_mid_g 26 (.tmp 5) rfl tb 0 rfl _ _ P6.out.row.rangeAll Tryz.underlying26 rfl HY.out.2.2 ?_ ?_; · rfl)
          | (go_at_call 80; refine HCk.out.mono ?_; rintro e w9 ⟨rfl, k9⟩; rw [HK.out]; have P9 := Lib.hid (P6.out.over k9); have K9 := Lib.hid k9; clear k9)
          | (refine wpList_load_mid rfl 26 (.tmp 5) rfl tb 0 rfl _ _ P9.out.row.rangeAll Tryz.underlying26 rfl HY.out.2.2 ?_)
          | (refine wpList_store_mid rfl 26 (.tmp 2) (.tmp 38) rfl w.heap.size 0 L6.toArray rfl rfl (P9.out.res.there (by rw [List.size_toArray, List.size_toArray, HY.out.1, HZ.out.2.1]; omega)) HO.out.1 HO.out.2 ?_))
        refine bodyPost_ret (results_row_tmp rfl _ _ w.heap.size 26 _ (0, 0) _ rfl (HR.out.2.1 _ P9.out.res) Tryz.underlying26 rfl HO.out.1) rfl ?_
        have ks := (keepBut.refl [w.heap.size] w9).setL (vs := L6) (g := w.heap.size) (o := 0) (by simp)
        have hlo := P9.out.lo
        have hhi := P9.out.hi
        rw [HE.out, HP.out]
        refine ⟨.slice A6 x6.length c6, G6, by rw [← HLq.out]; rfl, ⟨hq.out.1, ((hq.out.2.keep K9.out (by simp)).keep ks (fun y hy => by have := (B7.out.2 y hy).1; simp; omega))⟩, fun y hy => ⟨by have := (B7.out.2 y hy).1; omega, ?_⟩, P9.out.kp.setL (.inr (Nat.le_refl _))⟩
        have h1 := (B7.out.2 y hy).2; have h2 := K9.out.size; have h3 := ks.size; have h4 := HSZ.out; omega
    · have HP := Lib.hid (show endP r6.end_ q.ok = 4 by unfold endP; rw [if_neg hl]; unfold RS.end_ at hl ⊢; rw [if_pos he] at hl ⊢; split at hl <;> simp_all)
      have hl' : (r6.end_ != 0) = true := by simp [hl]
      clear he hl
      go_wp2_with (first
        | (go_at_call 110; refine (err2_any p g r6 _ P6.out.rd).mono ?_; rintro e wy ⟨rfl, rfl⟩)
        | (go_at_call 101; refine (end2_any p g r6 _ P6.out.rd).mono ?_; rintro e wy ⟨rfl, rfl⟩)
        | (refine wpList_store_mid rfl 26 (.tmp 2) (.tmp 37) rfl w.heap.size 0 Z.toArray rfl (by rw [← HA.out.2.2.2.2.2.2.2]; rfl) (P6.out.res.there (by omega)) HZ.out.2.2.2.2.2.2.2 HZ.out.2.2.2.2.2.2.1 ?_))
      refine bodyPost_ret (results_row_tmp rfl _ _ w.heap.size 26 _ (0, 0) _ rfl (HR.out.1 _ P6.out.res) Tryz.underlying26 rfl HZ.out.2.2.2.2.2.2.2) rfl ?_
      exact HR.out.2.2 _ _ (keepBut.refl _ _) (by decide) HP.out
  · have HP := Lib.hid (show endP r6.end_ q.ok = r6.e by unfold endP RS.end_; rw [if_neg he, if_neg he])
    have HC := Lib.hid he
    have he' : (r6.e != 0) = true := by simp [he]
    clear he
    go_wp2_with (first
      | (go_at_call 110; refine (err2_any p g r6 _ P6.out.rd).mono ?_; rintro e wy ⟨rfl, rfl⟩)
      | (refine wpList_store_mid rfl 26 (.tmp 2) (.tmp 26) rfl w.heap.size 0 Z.toArray rfl (by rw [← HA.out.2.2.2.2.2.2.2]; rfl) (P6.out.res.there (by omega)) HZ.out.2.2.2.2.2.2.2 HZ.out.2.2.2.2.2.2.1 ?_))
    refine bodyPost_ret (results_row_tmp rfl _ _ w.heap.size 26 _ (0, 0) _ rfl (HR.out.1 _ P6.out.res) Tryz.underlying26 rfl HZ.out.2.2.2.2.2.2.2) rfl ?_
    exact HR.out.2.2 _ _ (keepBut.refl _ _) HC.out HP.out

theorem builtAns (x1 x2 x3 x4 x5 : Int) : Tryz.prog.built 28 [(0, .int .i64 x1), (1, .int .i64 x2), (2, .int .i64 x3), (3, .int .i64 x4), (4, .int .i64 x5)] = some (anL ⟨x1, x2, x3, x4, x5, anZero.name, []⟩ nilV).toArray := by kernel_rfl
theorem builtAns0 : Tryz.prog.built 28 [] = some (anL anZero nilV).toArray := by kernel_rfl
set_option maxHeartbeats 16000000 in
theorem parseAns2_any (F : List Nat) (b : List UInt8) (v : Value) (w : World) (h : bytesV w F v b) (hb : b.length ≤ 1000000) :
    Calls Tryz.prog 33 #[v] w fun e w' => ∃ ev G, e = .returned (.tuple #[.agg (anL (parseAn b).1 ev).toArray, .int .i64 (parseAn b).2]) ∧ anV w' G (parseAn b).1 ev ∧ newIn w w' G ∧ keepBut [] w w' := by
  obtain ⟨zn, hzn⟩ : ∃ zn, anZero.name = zn := ⟨_, rfl⟩
  have hznl : zn.length = 32 := by rw [← hzn]; exact anZero_name
  obtain ⟨Z, hZ⟩ : ∃ Z, anL anZero nilV = Z := ⟨_, rfl⟩
  have zv := zv_an
  have zl : Z.length = 38 := by rw [← hZ]; exact anL_len anZero_name
  have zo : ∀ u ∈ Z, u.oneCell' = true := by rw [← hZ]; exact anL_one _ rfl
  have b0 := builtAns0
  have bn := builtAns
  rw [hZ] at zv b0
  rw [hzn] at bn
  obtain ⟨r0, hr0⟩ : ∃ r, RS.mk b 0 = r := ⟨_, rfl⟩
  obtain ⟨x1, hx1⟩ : ∃ x, (r0.num 1).1 = x := ⟨_, rfl⟩
  obtain ⟨r1, hr1⟩ : ∃ x, (r0.num 1).2 = x := ⟨_, rfl⟩
  have S1 : Hid ((r1.l ≠ [] → r0.l ≠ []) ∧ r1.l.length ≤ r0.l.length) := Lib.hid (by rw [← hr1]; exact ⟨num_left, num_short _ _⟩)
  obtain ⟨x2, hx2⟩ : ∃ x, (r1.count 9007199254740991).1 = x := ⟨_, rfl⟩
  obtain ⟨r2, hr2⟩ : ∃ x, (r1.count 9007199254740991).2 = x := ⟨_, rfl⟩
  have S2 : Hid ((r2.l ≠ [] → r1.l ≠ []) ∧ r2.l.length ≤ r1.l.length) := Lib.hid (by rw [← hr2]; exact ⟨count_left, RS.count_short _ _⟩)
  obtain ⟨x3, hx3⟩ : ∃ x, (r2.num 1).1 = x := ⟨_, rfl⟩
  obtain ⟨r3, hr3⟩ : ∃ x, (r2.num 1).2 = x := ⟨_, rfl⟩
  have S3 : Hid ((r3.l ≠ [] → r2.l ≠ []) ∧ r3.l.length ≤ r2.l.length) := Lib.hid (by rw [← hr3]; exact ⟨num_left, num_short _ _⟩)
  obtain ⟨x4, hx4⟩ : ∃ x, (r3.count 9007199254740991).1 = x := ⟨_, rfl⟩
  obtain ⟨r4, hr4⟩ : ∃ x, (r3.count 9007199254740991).2 = x := ⟨_, rfl⟩
  have S4 : Hid ((r4.l ≠ [] → r3.l ≠ []) ∧ r4.l.length ≤ r3.l.length) := Lib.hid (by rw [← hr4]; exact ⟨count_left, RS.count_short _ _⟩)
  obtain ⟨x5, hx5⟩ : ∃ x, (r4.num 1).1 = x := ⟨_, rfl⟩
  obtain ⟨r5, hr5⟩ : ∃ x, (r4.num 1).2 = x := ⟨_, rfl⟩
  have S5 : Hid ((r5.l ≠ [] → r4.l ≠ []) ∧ r5.l.length ≤ r4.l.length) := Lib.hid (by rw [← hr5]; exact ⟨num_left, num_short _ _⟩)
  obtain ⟨x6, hx6⟩ : ∃ x, (r5.raw 32).1 = x := ⟨_, rfl⟩
  obtain ⟨r6, hr6⟩ : ∃ x, (r5.raw 32).2 = x := ⟨_, rfl⟩
  have S6 : Hid ((r6.l ≠ [] → r5.l ≠ []) ∧ r6.l.length ≤ r5.l.length) := Lib.hid (by rw [← hr6]; exact ⟨raw_left, raw_short _ _⟩)
  obtain ⟨x7, hx7⟩ : ∃ x, (r6.text 1024).1 = x := ⟨_, rfl⟩
  obtain ⟨r7, hr7⟩ : ∃ x, (r6.text 1024).2 = x := ⟨_, rfl⟩
  have S7 : Hid ((r7.l ≠ [] → r6.l ≠ []) ∧ r7.l.length ≤ r6.l.length) := Lib.hid (by rw [← hr7]; exact ⟨text_left, text_short _ _⟩)
  have e0 : anR0 ⟨b, 0⟩ = r0 := by unfold anR0; exact hr0
  have e1 : anR1 ⟨b, 0⟩ = r1 := by unfold anR1; rw [e0]; exact hr1
  have e2 : anR2 ⟨b, 0⟩ = r2 := by unfold anR2; rw [e1]; exact hr2
  have e3 : anR3 ⟨b, 0⟩ = r3 := by unfold anR3; rw [e2]; exact hr3
  have e4 : anR4 ⟨b, 0⟩ = r4 := by unfold anR4; rw [e3]; exact hr4
  have e5 : anR5 ⟨b, 0⟩ = r5 := by unfold anR5; rw [e4]; exact hr5
  have e6 : anR6 ⟨b, 0⟩ = r6 := by unfold anR6; rw [e5]; exact hr6
  have e7 : anR7 ⟨b, 0⟩ = r7 := by unfold anR7; rw [e6]; exact hr7
  have eq : anRd ⟨b, 0⟩ = ⟨x1, x2, x3, x4, x5, nmOf x6, x7⟩ := by unfold anRd; rw [e0, e1, e2, e3, e4, e5, e6, hx1, hx2, hx3, hx4, hx5, hx6, hx7]
  have HE := Lib.hid (show parseAn b = (eL (endP r7.end_ (AN.ok ⟨x1, x2, x3, x4, x5, nmOf x6, x7⟩)) ⟨x1, x2, x3, x4, x5, nmOf x6, x7⟩ anZero, endP r7.end_ (AN.ok ⟨x1, x2, x3, x4, x5, nmOf x6, x7⟩)) by unfold parseAn; rw [eq, e7])
  have hnx : (nmOf x6).length = 32 := by rw [← hx6]; exact nmOf_len (raw32_len _)
  have hrl : r0.l.length ≤ 1000000 := by rw [← hr0]; exact hb
  have X1 := Lib.hid (And.intro hx1 hr1)
  have X2 := Lib.hid (And.intro hx2 hr2)
  have X3 := Lib.hid (And.intro hx3 hr3)
  have X4 := Lib.hid (And.intro hx4 hr4)
  have X5 := Lib.hid (And.intro hx5 hr5)
  have X6 := Lib.hid (And.intro hx6 hr6)
  have X7 := Lib.hid (And.intro hx7 hr7)
  have HZ := Lib.hid (And.intro zv (And.intro zl (And.intro zo (And.intro hZ (And.intro b0 (And.intro bn (And.intro (all_oneCell_toArray zo) (show (Tryz.prog.info? 28).map (·.size) = some Z.toArray.size by rw [List.size_toArray, zl]; exact info_an))))))))
  clear e7 e6 e5 e4 e3 e2 e1 e0 hx1 hr1 hx2 hr2 hx3 hr3 hx4 hr4 hx5 hr5 hx6 hr6 hx7 hr7 eq zv zl zo b0 bn
  have kA := (keepBut.refl [] w).alloc (.cells Z.toArray 28)
  have rA := rowAt.new w 28 Z.toArray
  obtain ⟨wA, hwA⟩ : ∃ wA, w.alloc (.cells Z.toArray 28) = wA := ⟨_, rfl⟩
  rw [hwA] at kA rA
  have hA := h.keep kA (by simp)
  obtain ⟨A, c, g0, rfl, h2, h3, h4, h5⟩ := hA
  have HA := Lib.hid (And.intro hwA (And.intro kA (And.intro rA (And.intro h4 (And.intro hb (And.intro hr0 (And.intro hrl hZ)))))))
  have HN := Lib.hid (And.intro hnx hznl)
  clear kA rA hwA h2 h3 h4 h5 h hb hr0 hrl hzn hZ hnx hznl
  go_enter Tryz.func33, Tryz.ntmps33
  go_upto_region 2 with (first
    | (with_reducible refine wpList_alloc_to _ _ rfl 28 rfl _ HZ.out.1 HA.out.1 ?_)
    | (go_at_call 98; refine (read2_any A g0 c b.length b _ rfl HA.out.2.2.2.1 (by have := HA.out.2.2.2.2.1; omega)).mono ?_; rintro e w1 ⟨p, g, rfl, d1, d2, d3, d4⟩; rw [HA.out.2.2.2.2.2.1] at d1; have P0 : Hid (prR2 w w1 p g r0 28 Z) := Lib.hid ⟨d1, by have := HA.out.2.2.1.lt; omega, fun hne => by have := d3 (by rw [show b = r0.l by rw [← HA.out.2.2.2.2.2.1]]; exact hne); have := HA.out.2.2.1.lt; omega, HA.out.2.2.2.2.2.2.1, d4.row HA.out.2.2.1 (by simp), HA.out.2.1.then d4 (by simp)⟩; clear d1 d2 d3 d4))
  go_upto_region 3 with (first
    | (go_at_call 106; with_reducible refine Calls.mono (num2_any p g r0 1 _ P0.out.rd (by have := P0.out.len; omega)) ?_; intro e u1 hq; unfold num2Post at hq; rw [X1.out.1, X1.out.2] at hq; obtain ⟨rfl, hr, hk⟩ := hq; have P1 := Lib.hid (P0.out.read hr hk S1.out.1 S1.out.2); clear hr hk)
    | (go_at_call 107; with_reducible refine Calls.mono (count2_any p g r1 9007199254740991 _ P1.out.rd (by have := P1.out.len; omega)) ?_; intro e u2 hq; unfold count2Post at hq; rw [X2.out.1, X2.out.2] at hq; obtain ⟨rfl, hr, hk⟩ := hq; have P2 := Lib.hid (P1.out.read hr hk S2.out.1 S2.out.2); clear hr hk)
    | (go_at_call 106; with_reducible refine Calls.mono (num2_any p g r2 1 _ P2.out.rd (by have := P2.out.len; omega)) ?_; intro e u3 hq; unfold num2Post at hq; rw [X3.out.1, X3.out.2] at hq; obtain ⟨rfl, hr, hk⟩ := hq; have P3 := Lib.hid (P2.out.read hr hk S3.out.1 S3.out.2); clear hr hk)
    | (go_at_call 107; with_reducible refine Calls.mono (count2_any p g r3 9007199254740991 _ P3.out.rd (by have := P3.out.len; omega)) ?_; intro e u4 hq; unfold count2Post at hq; rw [X4.out.1, X4.out.2] at hq; obtain ⟨rfl, hr, hk⟩ := hq; have P4 := Lib.hid (P3.out.read hr hk S4.out.1 S4.out.2); clear hr hk)
    | (go_at_call 106; with_reducible refine Calls.mono (num2_any p g r4 1 _ P4.out.rd (by have := P4.out.len; omega)) ?_; intro e u5 hq; unfold num2Post at hq; rw [X5.out.1, X5.out.2] at hq; obtain ⟨rfl, hr, hk⟩ := hq; have P5 := Lib.hid (P4.out.read hr hk S5.out.1 S5.out.2); clear hr hk; obtain ⟨tb, htb⟩ : ∃ b, u5.heap.size = b := ⟨_, rfl⟩; obtain ⟨uB, huB⟩ : ∃ W, u5.alloc (.cells Z.toArray 28) = W := ⟨_, rfl⟩; have PB : Hid (prT2 w uB p g tb r5 28 Z Z) := Lib.hid (by rw [← huB, ← htb]; exact P5.out.box Z); have HB := Lib.hid (And.intro huB htb); clear huB htb; (try dsimp only); rename_i hK; refine hK _ _ ?_; clear hK; refine wpList_build_pt _ rfl 28 _ rfl (anL ⟨x1, x2, x3, x4, x5, zn, []⟩ nilV).toArray (by simp only [List.map_toArray, List.map_cons, List.map_nil]; go_simp; exact HZ.out.2.2.2.2.2.1 x1 x2 x3 x4 x5) ?_)
    | (with_reducible refine wpList_alloc_to _ _ rfl 28 rfl _ HZ.out.1 HB.out.1 ?_; rw [HB.out.2])
    | (refine wpList_store_mid rfl 28 (.tmp 5) (.tmp 18) rfl tb 0 (anL ⟨x1, x2, x3, x4, x5, zn, []⟩ nilV).toArray rfl rfl (PB.out.row.there (by rw [List.size_toArray, List.size_toArray, anL_len HN.out.2, HZ.out.2.1]; omega)) (by rw [List.size_toArray, anL_len HN.out.2]; exact info_an) (all_oneCell_toArray (anL_one _ rfl)) ?_))
  have PC : Hid (prT2 w (uB.setCells tb 0 (anL ⟨x1, x2, x3, x4, x5, zn, []⟩ nilV)) p g tb r5 28 (anL ⟨x1, x2, x3, x4, x5, zn, []⟩ nilV) Z) := Lib.hid (PB.out.setL 0 (anL ⟨x1, x2, x3, x4, x5, zn, []⟩ nilV) (putL_all (by rw [List.size_toArray, anL_len HN.out.2, HZ.out.2.1])))
  obtain ⟨uC, huC⟩ : ∃ W, uB.setCells tb 0 (anL ⟨x1, x2, x3, x4, x5, zn, []⟩ nilV) = W := ⟨_, rfl⟩
  rw [huC] at PC
  rw [huC]
  simp only [Act.put]
  clear huC PB HB P0 P1 P2 P3 P4 P5 S1 S2 S3 S4 S5 X1 X2 X3 X4 X5
  have hjN : (Tryz.prog.info? 23).map (·.size) = some (nameL (nmOf x6)).toArray.size := by rw [List.size_toArray, nameL_len, HN.out.1]; exact infoName
  have HT := Lib.hid (And.intro hjN (all_oneCell_toArray (nameL_one (nmOf x6))))
  clear hjN
  go_upto_region 4 with (first
    | (go_at_call 108; refine (name2_any p g r5 _ PC.out.rd (by have := PC.out.len; omega)).mono ?_; intro e u6 hq; rw [X6.out.1, X6.out.2] at hq; obtain ⟨rfl, hr, hk⟩ := hq; have Q := Lib.hid (PC.out.read hr hk S6.out.1 S6.out.2); clear hr hk)
    | (refine wpList_store_mid rfl 23 (.tmp 21) (.tmp 20) rfl tb 5 (nameL (nmOf x6)).toArray rfl rfl (Q.out.row.there (by rw [List.size_toArray, nameL_len, HN.out.1, List.size_toArray, anL_len HN.out.2]; omega)) HT.out.1 HT.out.2 ?_))
  have P5 := Lib.hid (Q.out.setL 5 (nameL (nmOf x6)) (L' := (anL ⟨x1, x2, x3, x4, x5, nmOf x6, []⟩ nilV)) (by rw [anL_split, anL_split]; exact putL_mid [.int .i64 x1, .int .i64 x2, .int .i64 x3, .int .i64 x4, .int .i64 x5] _ _ _ (by rw [nameL_len, nameL_len, HN.out.1, HN.out.2])))
  obtain ⟨v5, hv⟩ : ∃ v, u6.setCells tb 5 (nameL (nmOf x6)) = v := ⟨_, rfl⟩
  rw [hv] at P5
  rw [hv]
  simp only [Act.put]
  clear hv Q S6 PC
  have hnx2 : (AN.mk x1 x2 x3 x4 x5 (nmOf x6) []).name.length = 32 := HN.out.1
  go_upto_region 5 with (first
    | (go_at_call 109; refine (text2_any p g r6 1024 _ P5.out.rd (by have := P5.out.len; omega)).mono ?_; intro e u7 hq; unfold text2Post at hq; rw [X7.out.1, X7.out.2] at hq; obtain ⟨ue, rfl, hfr, hr, hk⟩ := hq; obtain ⟨A6, c6, G6, rfl, hb6, hn6⟩ := hfr.gives; have Q := Lib.hid (P5.out.read hr hk S7.out.1 S7.out.2); have B6 := Lib.hid (And.intro hb6 hn6); have y : u7.cell? ⟨tb, 37, none⟩ = some nilV := (Q.out.row.cell 37).trans (anL_env hnx2); have y2 := Q.out.row.free 37; clear hr hk hfr hb6 hn6))
  have P6 := Lib.hid (Q.out.set 37 (.slice A6 x7.length c6) (L' := (anL ⟨x1, x2, x3, x4, x5, nmOf x6, x7⟩ (.slice A6 x7.length c6))) (by rw [anL_split, anL_split]; exact (set_mid (a := [.int .i64 x1, .int .i64 x2, .int .i64 x3, .int .i64 x4, .int .i64 x5] ++ nameL (nmOf x6)) (x := nilV) (b := []) (k := 37) (by simp) (by simp [nameL_len, HN.out.1]) _).trans (by simp)))
  have B7 : Hid (bytesV (u7.setCell ⟨tb, 37, none⟩ (.slice A6 x7.length c6)) G6 (.slice A6 x7.length c6) x7 ∧ ∀ y ∈ G6, tb < y ∧ y < u7.heap.size) := Lib.hid (by
    have hlt : ∀ y ∈ G6, tb < y ∧ y < u7.heap.size := fun y hy => ⟨by have := (B6.out.2 y hy).1; have := P5.out.row.lt; omega, (B6.out.2 y hy).2⟩
    exact ⟨B6.out.1.keep (kset u7 tb 37 _) (fun y hy => by have := (hlt y hy).1; simp; omega), hlt⟩)
  have hsz : (u7.setCell ⟨tb, 37, none⟩ (.slice A6 x7.length c6)).heap.size = u7.heap.size := World.size_setCell _ _ _
  obtain ⟨v6, hv⟩ : ∃ v, u7.setCell ⟨tb, 37, none⟩ (.slice A6 x7.length c6) = v := ⟨_, rfl⟩
  rw [hv] at P6 B7 hsz ⊢
  have HSZ := Lib.hid hsz
  clear hv y y2 Q P5 S7 hsz B6
  have hq : Hid (anV v6 G6 ⟨x1, x2, x3, x4, x5, nmOf x6, x7⟩ (.slice A6 x7.length c6)) := Lib.hid ⟨HN.out.1, B7.out.1⟩
  have HY : Hid ((anL ⟨x1, x2, x3, x4, x5, nmOf x6, x7⟩ (.slice A6 x7.length c6)).length = 38 ∧ (∀ u ∈ anL ⟨x1, x2, x3, x4, x5, nmOf x6, x7⟩ (.slice A6 x7.length c6), u.oneCell' = true) ∧ (Tryz.prog.info? 28).map (·.size) = some (anL ⟨x1, x2, x3, x4, x5, nmOf x6, x7⟩ (.slice A6 x7.length c6)).length) := Lib.hid ⟨anL_len HN.out.1, anL_one _ rfl, by rw [anL_len HN.out.1]; exact info_an⟩
  obtain ⟨L6, hL6⟩ : ∃ l, anL ⟨x1, x2, x3, x4, x5, nmOf x6, x7⟩ (.slice A6 x7.length c6) = l := ⟨_, rfl⟩
  obtain ⟨q, hqq⟩ : ∃ q, (AN.mk x1 x2 x3 x4 x5 (nmOf x6) x7) = q := ⟨_, rfl⟩
  have HQ := Lib.hid (And.intro hL6 hqq)
  rw [hL6] at P6 HY
  rw [hqq] at hq HE
  have hLq : anL q (.slice A6 x7.length c6) = L6 := by rw [← hqq]; exact hL6
  have HCk : Hid (Calls Tryz.prog 82 #[.agg L6.toArray] v6 fun e w' => e = .returned (.int .i64 (toldP q.ok)) ∧ keepBut [] v6 w') := Lib.hid (by rw [← hLq]; exact checkAnsD G6 q _ _ hq.out)
  have HLq := Lib.hid hLq
  clear hLq
  have HJ : (Tryz.prog.info? 28).map (·.size) = some L6.toArray.size := by rw [List.size_toArray]; exact HY.out.2.2
  have HO := Lib.hid (And.intro HJ (all_oneCell_toArray HY.out.2.1))
  clear HJ hL6
  have bad : ∀ (c : Int) (wx : World), keepBut [] v6 wx → c ≠ 0 → endP r7.end_ q.ok = c → ∃ ev G, Ending.returned (.tuple #[.agg Z.toArray, .int .i64 c]) = .returned (.tuple #[.agg (anL (parseAn b).1 ev).toArray, .int .i64 (parseAn b).2]) ∧ anV (wx.setCells w.heap.size 0 Z) G (parseAn b).1 ev ∧ newIn w (wx.setCells w.heap.size 0 Z) G ∧ keepBut [] w (wx.setCells w.heap.size 0 Z) := by
    intro c wx hk hc he
    rw [HE.out, he]
    unfold eL
    rw [if_neg hc]
    refine ⟨nilV, [], by rw [HA.out.2.2.2.2.2.2.2], ⟨anZero_name, bytesV.nil _ _⟩, by simp [newIn], (P6.out.kp.then hk (by simp)).setL (.inr (Nat.le_refl _))⟩
  have rsZ : ∀ wx, rowAt wx w.heap.size 28 Z.toArray → rowAt (wx.setCells w.heap.size 0 Z) w.heap.size 28 Z.toArray := fun wx hh => by
    have := hh.setL (vs := Z) (o := 0)
    rw [putL_all (by rw [List.size_toArray])] at this
    exact this
  have rsL : ∀ wx, rowAt wx w.heap.size 28 Z.toArray → rowAt (wx.setCells w.heap.size 0 L6) w.heap.size 28 L6.toArray := fun wx hh => by
    have := hh.setL (vs := L6) (o := 0)
    rw [putL_all (by rw [List.size_toArray, HY.out.1, HZ.out.2.1])] at this
    exact this
  have HR := Lib.hid (And.intro rsZ (And.intro rsL bad))
  clear rsZ rsL bad
  have hb0 : ∀ w, (Instr.build 28 #[]).run Tryz.prog w = .ok (.agg Z.toArray) w := fun w => run_build w 28 #[] _ HZ.out.2.2.2.2.1
  by_cases he : r7.e = 0
  · have he' : (r7.e != 0) = false := by simp [he]
    by_cases hl : r7.end_ = 0
    · have hl' : (r7.end_ != 0) = false := by simp [hl]
      cases hok : q.ok
      · have HP := Lib.hid (show endP r7.end_ q.ok = 4 by rw [hl, hok]; rfl)
        have HK := Lib.hid hok
        clear he hl hok
        go_wp2_with (first
          | (go_at_call 110; refine (err2_any p g r7 _ P6.out.rd).mono ?_; rintro e wy ⟨rfl, rfl⟩)
          | (go_at_call 101; refine (end2_any p g r7 _ P6.out.rd).mono ?_; rintro e wy ⟨rfl, rfl⟩)
          | (refine wpList_load_mid_g 28 (.tmp 5) rfl tb 0 rfl _ _ P6.out.row.rangeAll Tryz.underlying28 rfl HY.out.2.2 ?_ ?_; · rfl)
          | (go_at_call 82; refine HCk.out.mono ?_; rintro e w9 ⟨rfl, k9⟩; rw [HK.out]; have P9 := Lib.hid (P6.out.over k9); have K9 := Lib.hid k9; clear k9)
          | (refine wpList_store_mid rfl 28 (.tmp 2) (.tmp 39) rfl w.heap.size 0 Z.toArray rfl (by rw [← HA.out.2.2.2.2.2.2.2]; rfl) (P9.out.res.there (by omega)) HZ.out.2.2.2.2.2.2.2 HZ.out.2.2.2.2.2.2.1 ?_))
        refine bodyPost_ret (results_row_tmp rfl _ _ w.heap.size 28 _ (0, 0) _ rfl (HR.out.1 _ P9.out.res) Tryz.underlying28 rfl HZ.out.2.2.2.2.2.2.2) rfl ?_
        exact HR.out.2.2 _ _ K9.out (by decide) HP.out
      · have HP := Lib.hid (show endP r7.end_ q.ok = 0 by rw [hl, hok]; rfl)
        have HK := Lib.hid hok
        clear he hl hok
        go_wp2_with (first
          | (go_at_call 110; refine (err2_any p g r7 _ P6.out.rd).mono ?_; rintro e wy ⟨rfl, rfl⟩)
          | (go_at_call 101; refine (end2_any p g r7 _ P6.out.rd).mono ?_; rintro e wy ⟨rfl, rfl⟩)
          | (refine wpList_load_mid_g 28 (.tmp 5) rfl tb 0 rfl _ _ P6.out.row.rangeAll Tryz.underlying28 rfl HY.out.2.2 ?_ ?_; · rfl)
          | (go_at_call 82; refine HCk.out.mono ?_; rintro e w9 ⟨rfl, k9⟩; rw [HK.out]; have P9 := Lib.hid (P6.out.over k9); have K9 := Lib.hid k9; clear k9)
          | (refine wpList_load_mid rfl 28 (.tmp 5) rfl tb 0 rfl _ _ P9.out.row.rangeAll Tryz.underlying28 rfl HY.out.2.2 ?_)
          | (refine wpList_store_mid rfl 28 (.tmp 2) (.tmp 40) rfl w.heap.size 0 L6.toArray rfl rfl (P9.out.res.there (by rw [List.size_toArray, List.size_toArray, HY.out.1, HZ.out.2.1]; omega)) HO.out.1 HO.out.2 ?_))
        refine bodyPost_ret (results_row_tmp rfl _ _ w.heap.size 28 _ (0, 0) _ rfl (HR.out.2.1 _ P9.out.res) Tryz.underlying28 rfl HO.out.1) rfl ?_
        have ks := (keepBut.refl [w.heap.size] w9).setL (vs := L6) (g := w.heap.size) (o := 0) (by simp)
        have hlo := P9.out.lo
        have hhi := P9.out.hi
        rw [HE.out, HP.out]
        refine ⟨.slice A6 x7.length c6, G6, by rw [← HLq.out]; rfl, ⟨hq.out.1, ((hq.out.2.keep K9.out (by simp)).keep ks (fun y hy => by have := (B7.out.2 y hy).1; simp; omega))⟩, fun y hy => ⟨by have := (B7.out.2 y hy).1; omega, ?_⟩, P9.out.kp.setL (.inr (Nat.le_refl _))⟩
        have h1 := (B7.out.2 y hy).2; have h2 := K9.out.size; have h3 := ks.size; have h4 := HSZ.out; omega
    · have HP := Lib.hid (show endP r7.end_ q.ok = 4 by unfold endP; rw [if_neg hl]; unfold RS.end_ at hl ⊢; rw [if_pos he] at hl ⊢; split at hl <;> simp_all)
      have hl' : (r7.end_ != 0) = true := by simp [hl]
      clear he hl
      go_wp2_with (first
        | (go_at_call 110; refine (err2_any p g r7 _ P6.out.rd).mono ?_; rintro e wy ⟨rfl, rfl⟩)
        | (go_at_call 101; refine (end2_any p g r7 _ P6.out.rd).mono ?_; rintro e wy ⟨rfl, rfl⟩)
        | (refine wpList_store_mid rfl 28 (.tmp 2) (.tmp 39) rfl w.heap.size 0 Z.toArray rfl (by rw [← HA.out.2.2.2.2.2.2.2]; rfl) (P6.out.res.there (by omega)) HZ.out.2.2.2.2.2.2.2 HZ.out.2.2.2.2.2.2.1 ?_))
      refine bodyPost_ret (results_row_tmp rfl _ _ w.heap.size 28 _ (0, 0) _ rfl (HR.out.1 _ P6.out.res) Tryz.underlying28 rfl HZ.out.2.2.2.2.2.2.2) rfl ?_
      exact HR.out.2.2 _ _ (keepBut.refl _ _) (by decide) HP.out
  · have HP := Lib.hid (show endP r7.end_ q.ok = r7.e by unfold endP RS.end_; rw [if_neg he, if_neg he])
    have HC := Lib.hid he
    have he' : (r7.e != 0) = true := by simp [he]
    clear he
    go_wp2_with (first
      | (go_at_call 110; refine (err2_any p g r7 _ P6.out.rd).mono ?_; rintro e wy ⟨rfl, rfl⟩)
      | (refine wpList_store_mid rfl 28 (.tmp 2) (.tmp 28) rfl w.heap.size 0 Z.toArray rfl (by rw [← HA.out.2.2.2.2.2.2.2]; rfl) (P6.out.res.there (by omega)) HZ.out.2.2.2.2.2.2.2 HZ.out.2.2.2.2.2.2.1 ?_))
    refine bodyPost_ret (results_row_tmp rfl _ _ w.heap.size 28 _ (0, 0) _ rfl (HR.out.1 _ P6.out.res) Tryz.underlying28 rfl HZ.out.2.2.2.2.2.2.2) rfl ?_
    exact HR.out.2.2 _ _ (keepBut.refl _ _) HC.out HP.out
end Go.Proofs.YthfdkonhjpdflaaGreatDoor
