/-
  PACK, 33: Parse.
-/
import Derived.Test.YthfdkonhjpdflaaGreatDoorPkI
namespace Go.Proofs.YthfdkonhjpdflaaGreatDoor
open Go.RowKit
set_option linter.unusedVariables false
set_option maxRecDepth 100000
set_option linter.unusedSimpArgs false

theorem step_load_mid {P : Program} {ops : Array Oper} {op : Oper} {a : Act} {w : World} {K : Act → World → Prop} {Q : Exit → Act → World → Prop} {E : Prop} (hgd : op.guard = none) (ty : TypeId) (x : Operand) (ho : op.op = .load ty x)
    (b o : Nat) (hx : a.eval x = .pointer (some ⟨b, o, none⟩)) (cs : List Value) (d : TypeDesc) (hc : w.rangeAt b o cs)
    (hu : P.underlying ty = some d) (hd : d.isRow = true) (hi : (P.info? ty).map (·.size) = some cs.length)
    (h : K (a.put op.dst (.agg cs.toArray)) w) : if Region.wanted op (yielded ops a.tmps) = true then Oper.wp P op a w K Q else E := by
  rw [if_pos (by simp [Region.wanted, hgd])]
  exact wp_load_mid ty x ho b o hx cs d hc hu hd hi h
theorem step_store_mid {P : Program} {ops : Array Oper} {op : Oper} {a : Act} {w : World} {K : Act → World → Prop} {Q : Exit → Act → World → Prop} {E : Prop} (hgd : op.guard = none) (ty : TypeId) (x y : Operand) (ho : op.op = .store ty x y)
    (b o : Nat) (cells : Array Value) (hx : a.eval x = .pointer (some ⟨b, o, none⟩)) (hy : a.eval y = .agg cells)
    (ht : w.there b o cells.size) (hi : (P.info? ty).map (·.size) = some cells.size) (h1 : cells.all (·.oneCell') = true)
    (h : K (a.put op.dst undef) (w.setCells b o cells.toList)) : if Region.wanted op (yielded ops a.tmps) = true then Oper.wp P op a w K Q else E := by
  rw [if_pos (by simp [Region.wanted, hgd])]
  exact wp_store_mid ty x y ho b o cells hx hy ht hi h1 h
theorem f_head (h : Int) (s : SF) : (fAll h s).1.kind = s.1.kind ∧ (fAll h s).1.frm = s.1.frm ∧ (fAll h s).1.dst = s.1.dst := by
  have e1 : ∀ s : SF, (f1 h s).1.kind = s.1.kind ∧ (f1 h s).1.frm = s.1.frm ∧ (f1 h s).1.dst = s.1.dst := fun s => by unfold f1; split <;> exact ⟨rfl, rfl, rfl⟩
  have e2 : ∀ s : SF, (f2 h s).1.kind = s.1.kind ∧ (f2 h s).1.frm = s.1.frm ∧ (f2 h s).1.dst = s.1.dst := fun s => by unfold f2; split <;> exact ⟨rfl, rfl, rfl⟩
  have e3 : ∀ s : SF, (f3 h s).1.kind = s.1.kind ∧ (f3 h s).1.frm = s.1.frm ∧ (f3 h s).1.dst = s.1.dst := fun s => by unfold f3; split <;> exact ⟨rfl, rfl, rfl⟩
  have e4 : ∀ s : SF, (f4 h s).1.kind = s.1.kind ∧ (f4 h s).1.frm = s.1.frm ∧ (f4 h s).1.dst = s.1.dst := fun s => by unfold f4; split <;> exact ⟨rfl, rfl, rfl⟩
  have e5 : ∀ s : SF, (f5 h s).1.kind = s.1.kind ∧ (f5 h s).1.frm = s.1.frm ∧ (f5 h s).1.dst = s.1.dst := fun s => by unfold f5; split <;> exact ⟨rfl, rfl, rfl⟩
  have e6 : ∀ s : SF, (f6 h s).1.kind = s.1.kind ∧ (f6 h s).1.frm = s.1.frm ∧ (f6 h s).1.dst = s.1.dst := fun s => by unfold f6; split <;> exact ⟨rfl, rfl, rfl⟩
  have e7 : ∀ s : SF, (f7 h s).1.kind = s.1.kind ∧ (f7 h s).1.frm = s.1.frm ∧ (f7 h s).1.dst = s.1.dst := fun s => by unfold f7; split <;> exact ⟨rfl, rfl, rfl⟩
  have e8 : ∀ s : SF, (f8 h s).1.kind = s.1.kind ∧ (f8 h s).1.frm = s.1.frm ∧ (f8 h s).1.dst = s.1.dst := fun s => by unfold f8; split <;> exact ⟨rfl, rfl, rfl⟩
  have e9 : ∀ s : SF, (f9 h s).1.kind = s.1.kind ∧ (f9 h s).1.frm = s.1.frm ∧ (f9 h s).1.dst = s.1.dst := fun s => by unfold f9; split <;> exact ⟨rfl, rfl, rfl⟩
  have tr : ∀ {a b c : PK}, (a.kind = b.kind ∧ a.frm = b.frm ∧ a.dst = b.dst) → (b.kind = c.kind ∧ b.frm = c.frm ∧ b.dst = c.dst) → (a.kind = c.kind ∧ a.frm = c.frm ∧ a.dst = c.dst) := fun h1 h2 => ⟨h1.1.trans h2.1, h1.2.1.trans h2.2.1, h1.2.2.trans h2.2.2⟩
  unfold fAll
  exact tr (e9 _) (tr (e8 _) (tr (e7 _) (tr (e6 _) (tr (e5 _) (tr (e4 _) (tr (e3 _) (tr (e2 _) (e1 _))))))))
theorem isR.over2 {w w' : World} {p g : Nat} {r : RS} (h : isR w p g r) (hk : keepBut [] w w') : isR w' p g r := h.keep hk (by simp) (by simp)
def hdQ (b : List UInt8) : PK := { pkZero with kind := ((RS.mk b 0).num 1).1, frm := (((RS.mk b 0).num 1).2.num 1).1, dst := ((((RS.mk b 0).num 1).2.num 1).2.num 1).1 }
def hdR (b : List UInt8) : RS := ((((RS.mk b 0).num 1).2.num 1).2.num 1).2
def pkS (b : List UInt8) : SF := fAll (fieldsP (hdQ b).kind) (hdQ b, hdR b, 0)
def parsePk (b : List UInt8) : PK × Int :=
  if (hdR b).e = 0 ∧ fieldsP (hdQ b).kind = 0 then (pkZero, 4)
  else if firstP (pkS b).2.2 (pkS b).2.1.e ≠ 0 then (pkZero, firstP (pkS b).2.2 (pkS b).2.1.e)
  else (eL (endP (pkS b).2.1.end_ (pkS b).1.ok) (pkS b).1 pkZero, endP (pkS b).2.1.end_ (pkS b).1.ok)
theorem run_buildPk (w : World) : (Instr.build 34 #[]).run Tryz.prog w = .ok (.agg (pkL pkZero nilV nilV nilV nilV nilV).toArray) w :=
  run_build w 34 #[] _ (by kernel_rfl)
theorem pkZero_val (w : World) (F : List Nat) : pkV w F pkZero nilV nilV nilV nilV nilV := ⟨rqZero_name, anZero_name, bytesV.nil _ _, bytesV.nil _ _, intsV.nil _ _, votesV.nil _ _, bytesV.nil _ _⟩
theorem eL_pkV {E : Int} {w : World} {G : List Nat} {q : PK} {ev av cv vv bw : Value} (h : pkV w G q ev av cv vv bw) : pkV w G (eL E q pkZero) (eL E ev nilV) (eL E av nilV) (eL E cv nilV) (eL E vv nilV) (eL E bw nilV) := by
  unfold eL
  split
  · exact h
  · exact pkZero_val w G
theorem pkL_eL (E : Int) (q : PK) (ev av cv vv bw : Value) : eL E (pkL q ev av cv vv bw) (pkL pkZero nilV nilV nilV nilV nilV) = pkL (eL E q pkZero) (eL E ev nilV) (eL E av nilV) (eL E cv nilV) (eL E vv nilV) (eL E bw nilV) := by unfold eL; split <;> rfl
set_option maxHeartbeats 16000000 in
theorem parsePk_any (F : List Nat) (b : List UInt8) (v : Value) (w : World) (h : bytesV w F v b) (hb : b.length ≤ 1000000) (hfl : fieldsAt w) :
    Calls Tryz.prog 28 #[v] w fun e w' => ∃ ev av cv vv bw G, e = .returned (.tuple #[.agg (pkL (parsePk b).1 ev av cv vv bw).toArray, .int .i64 (parsePk b).2]) ∧ pkV w' G (parsePk b).1 ev av cv vv bw ∧ newIn w w' G ∧ keepBut [] w w' := by
  obtain ⟨Z, hZ⟩ : ∃ Z, pkL pkZero nilV nilV nilV nilV nilV = Z := ⟨_, rfl⟩
  have zv := zv_pk
  have zl := pkZ_len
  have zo := pkZ_one
  have zb := run_buildPk
  rw [hZ] at zv zl zo
  have zb2 : ∀ w, (Instr.build 34 #[]).run Tryz.prog w = .ok (.agg Z.toArray) w := fun w => by rw [zb w, hZ]
  obtain ⟨r0, hr0⟩ : ∃ r, RS.mk b 0 = r := ⟨_, rfl⟩
  obtain ⟨x1, hx1⟩ : ∃ x, (r0.num 1).1 = x := ⟨_, rfl⟩
  obtain ⟨r1, hr1⟩ : ∃ x, (r0.num 1).2 = x := ⟨_, rfl⟩
  have S1 : Hid ((r1.l ≠ [] → r0.l ≠ []) ∧ r1.l.length ≤ r0.l.length) := Lib.hid (by rw [← hr1]; exact ⟨num_left, num_short _ _⟩)
  obtain ⟨x2, hx2⟩ : ∃ x, (r1.num 1).1 = x := ⟨_, rfl⟩
  obtain ⟨r2, hr2⟩ : ∃ x, (r1.num 1).2 = x := ⟨_, rfl⟩
  have S2 : Hid ((r2.l ≠ [] → r1.l ≠ []) ∧ r2.l.length ≤ r1.l.length) := Lib.hid (by rw [← hr2]; exact ⟨num_left, num_short _ _⟩)
  obtain ⟨x3, hx3⟩ : ∃ x, (r2.num 1).1 = x := ⟨_, rfl⟩
  obtain ⟨r3, hr3⟩ : ∃ x, (r2.num 1).2 = x := ⟨_, rfl⟩
  have S3 : Hid ((r3.l ≠ [] → r2.l ≠ []) ∧ r3.l.length ≤ r2.l.length) := Lib.hid (by rw [← hr3]; exact ⟨num_left, num_short _ _⟩)
  have hrg : (0 ≤ x2 ∧ x2 ≤ 255) ∧ 0 ≤ x3 ∧ x3 ≤ 255 := by rw [← hx2, ← hx3]; exact ⟨num1_range _, num1_range _⟩
  have eq : hdQ b = { pkZero with kind := x1, frm := x2, dst := x3 } := by unfold hdQ; rw [hr0, hx1, hr1, hx2, hr2, hx3]
  have er : hdR b = r3 := by unfold hdR; rw [hr0, hr1, hr2, hr3]
  obtain ⟨q0, hq0⟩ : ∃ q, ({ pkZero with kind := x1, frm := x2, dst := x3 } : PK) = q := ⟨_, rfl⟩
  obtain ⟨ff, hff⟩ : ∃ f, fieldsP x1 = f := ⟨_, rfl⟩
  obtain ⟨s, hs⟩ : ∃ s, fAll ff (q0, r3, 0) = s := ⟨_, rfl⟩
  have hk0 : q0.kind = x1 ∧ q0.frm = x2 ∧ q0.dst = x3 := by rw [← hq0]; exact ⟨rfl, rfl, rfl⟩
  have esS : pkS b = s := by unfold pkS; rw [eq, er, hq0, hk0.1, hff]; exact hs
  have HE := Lib.hid (show parsePk b = if r3.e = 0 ∧ ff = 0 then (pkZero, 4) else if firstP s.2.2 s.2.1.e ≠ 0 then (pkZero, firstP s.2.2 s.2.1.e) else (eL (endP s.2.1.end_ s.1.ok) s.1 pkZero, endP s.2.1.end_ s.1.ok) by unfold parsePk; rw [esS, eq, er, hq0, hk0.1, hff])
  have hsf := f_head ff (q0, r3, 0)
  rw [hs] at hsf
  have hfr : s.1.frm = x2 ∧ s.1.dst = x3 := ⟨hsf.2.1.trans hk0.2.1, hsf.2.2.trans hk0.2.2⟩
  have hrl : r0.l.length ≤ 1000000 := by rw [← hr0]; exact hb
  have HX := Lib.hid (And.intro hr0 (And.intro hrl (And.intro (And.intro hx1 hr1) (And.intro (And.intro hx2 hr2) (And.intro (And.intro hx3 hr3) (And.intro hff (And.intro hs (And.intro hq0 (And.intro hfr hrg)))))))))
  have HV := Lib.hid (And.intro h (And.intro hb hfl))
  have HZ := Lib.hid (And.intro zv (And.intro zl (And.intro zo (And.intro hZ zb2))))
  have hI : Hid ((Tryz.prog.info? 34).map (·.size) = some Z.toArray.size) := Lib.hid (by rw [List.size_toArray, zl]; exact info_pk)
  clear eq er esS hsf h hb zv zl zo hZ zb zb2 hrl hr0 hx1 hr1 hx2 hr2 hx3 hr3 hff hs hq0 hfr hrg hk0 hfl
  have kA := (keepBut.refl [] w).alloc (.cells Z.toArray 34)
  have rA := rowAt.new w 34 Z.toArray
  obtain ⟨wA, hwA⟩ : ∃ wA, w.alloc (.cells Z.toArray 34) = wA := ⟨_, rfl⟩
  rw [hwA] at kA rA
  have HA := Lib.hid (And.intro hwA (And.intro kA (And.intro rA (HV.out.1.keep kA (by simp)))))
  clear kA rA hwA
  go_enter Tryz.func28, Tryz.ntmps28
  go_upto_region 2 with (first
    | (with_reducible refine wpList_alloc_to _ _ rfl 34 rfl _ HZ.out.1 HA.out.1 ?_)
    | (go_at_call 93; refine (numRead_any F b v _ HA.out.2.2.2 HV.out.2.1).mono ?_; rintro e w1 ⟨p, g, rfl, d1, d2, d3, d4⟩; rw [HX.out.1] at d1; have D1 := Lib.hid (And.intro d1 (And.intro d2 (And.intro d3 d4))); clear d1 d2 d3 d4))
  have hD := D1.out
  have kS := (keepBut.refl [] w1).alloc (.cells #[.pointer (some ⟨p, 0, none⟩), .int .i64 0] 104)
  have rS := rowAt.new w1 104 #[.pointer (some ⟨p, 0, none⟩), .int .i64 0]
  obtain ⟨w2, hw2⟩ : ∃ w2, w1.alloc (.cells #[.pointer (some ⟨p, 0, none⟩), .int .i64 0] 104) = w2 := ⟨_, rfl⟩
  rw [hw2] at kS rS ⊢
  obtain ⟨sb, hsb⟩ : ∃ sb, w1.heap.size = sb := ⟨_, rfl⟩
  rw [hsb] at rS ⊢
  have kB := (keepBut.refl [] w2).alloc (.cells Z.toArray 34)
  have rB := rowAt.new w2 34 Z.toArray
  obtain ⟨v0, hv0⟩ : ∃ v0, w2.alloc (.cells Z.toArray 34) = v0 := ⟨_, rfl⟩
  rw [hv0] at kB rB
  obtain ⟨pb, hpb⟩ : ∃ pb, w2.heap.size = pb := ⟨_, rfl⟩
  rw [hpb] at rB
  have h1 := HA.out.2.2.1.lt
  have h2 := hD.1.lt
  have h3 := hD.2.1
  have h5 := rS.lt
  have hps : p < sb := by omega
  have hsp : sb < pb := by omega
  have hgs : r0.l ≠ [] → g < sb := fun hne => by have := hD.1.gl hne; omega
  have P0 : Hid (prT w v0 p g pb r0 34 Z Z) := Lib.hid (by
    refine ⟨(hD.1.over2 kS).over2 kB, by omega, by omega, fun hne => ⟨?_, by have := hgs hne; omega⟩, HX.out.2.1, rB, kB.row (kS.row (hD.2.2.2.row HA.out.2.2.1 (by simp)) (by simp)) (by simp), ((HA.out.2.1.then hD.2.2.2 (by simp)).then kS (by simp)).then kB (by simp)⟩
    have := hD.2.2.1 (by rw [show b = r0.l by rw [← HX.out.1]]; exact hne); omega)
  have R0 := Lib.hid (kB.row rS (by simp))
  have HW2 := Lib.hid (And.intro hv0 hpb)
  clear hD kS rS hw2 hsb kB rB hv0 hpb h1 h2 h3 h5 D1
  go_upto_region 3 with (first
    | (with_reducible refine wpList_alloc_to _ _ rfl 34 rfl _ HZ.out.1 HW2.out.1 ?_))
  rw [HW2.out.2]
  have hzc : ∀ k : Nat, k < 3 → Z.toArray[k]? = some (.int .i64 0) := fun k hk => by rw [← HZ.out.2.2.2.1]; rcases (by omega : k = 0 ∨ k = 1 ∨ k = 2) with rfl | rfl | rfl <;> rfl
  have HZC := Lib.hid hzc
  have z0 : v0.drew.cell? ⟨sb, 0, none⟩ = some (.pointer (some ⟨p, 0, none⟩)) := R0.out.cell 0
  have P0d := Lib.hid (P0.out.over ((keepBut.refl [] v0).drew))
  have R0d : Hid (rowAt v0.drew sb 104 #[.pointer (some ⟨p, 0, none⟩), .int .i64 0]) := R0
  have hsp' : sb ≠ p := by omega
  have hspb : sb ≠ pb := by omega
  clear hzc
  go_region_held3 (fun w' => w'.cell? ⟨sb, 0, none⟩ = some (.pointer (some ⟨p, 0, none⟩))) (first | exact z0 | exact z1 | exact z2 | exact z3 | exact z4 | exact z5 | exact z6)
    (first
      | (go_at_call 94; (with_reducible refine (num_any p g r0 1 _ P0d.out.rd).mono ?_); intro e u1 hq; unfold numPost at hq; rw [HX.out.2.2.1.1, HX.out.2.2.1.2] at hq; obtain ⟨rfl, hr, hk⟩ := hq; have P1 := Lib.hid (P0d.out.read hr hk S1.out.1 S1.out.2); have R1 := Lib.hid (hk.row R0d.out (by simp [hsp'])); have z1 : u1.cell? ⟨sb, 0, none⟩ = some (.pointer (some ⟨p, 0, none⟩)) := R1.out.cell 0; clear hr hk)
      | (go_at_call 94; (with_reducible refine (num_any p g r1 1 _ P1.out.rd).mono ?_); intro e u2 hq; unfold numPost at hq; rw [HX.out.2.2.2.1.1, HX.out.2.2.2.1.2] at hq; obtain ⟨rfl, hr, hk⟩ := hq; have P2 := Lib.hid (P1.out.read hr hk S2.out.1 S2.out.2); have R2 := Lib.hid (hk.row R1.out (by simp [hsp'])); have z2 : u2.cell? ⟨sb, 0, none⟩ = some (.pointer (some ⟨p, 0, none⟩)) := R2.out.cell 0; clear hr hk)
      | (go_at_call 94; (with_reducible refine (num_any p g r2 1 _ P2.out.rd).mono ?_); intro e u3 hq; unfold numPost at hq; rw [HX.out.2.2.2.2.1.1, HX.out.2.2.2.2.1.2] at hq; obtain ⟨rfl, hr, hk⟩ := hq; have P3 := Lib.hid (P2.out.read hr hk S3.out.1 S3.out.2); have R3 := Lib.hid (hk.row R2.out (by simp [hsp'])); have z3 : u3.cell? ⟨sb, 0, none⟩ = some (.pointer (some ⟨p, 0, none⟩)) := R3.out.cell 0; have a0 : u3.cell? ⟨pb, 0, none⟩ = some (.int .i64 0) := (P3.out.row.cell 0).trans (HZC.out 0 (by omega)); have f0 := P3.out.row.free 0; have q1 := P3.out.row.set 0 (.int .i64 x1); have a1 : (u3.setCell ⟨pb, 0, none⟩ (.int .i64 x1)).cell? ⟨pb, 1, none⟩ = some (.int .i64 0) := (q1.cell 1).trans ((Array.getElem?_setIfInBounds_ne (by omega)).trans (HZC.out 1 (by omega))); have f1 := q1.free 1; have z4 := ((kset u3 pb 0 (.int .i64 x1)).cell (p := ⟨sb, 0, none⟩) R3.out.lt (by simp [hspb])).trans z3; have q2 := q1.set 1 (.int .i64 x2); have a2 : ((u3.setCell ⟨pb, 0, none⟩ (.int .i64 x1)).setCell ⟨pb, 1, none⟩ (.int .i64 x2)).cell? ⟨pb, 2, none⟩ = some (.int .i64 0) := (q2.cell 2).trans ((Array.getElem?_setIfInBounds_ne (by omega)).trans ((Array.getElem?_setIfInBounds_ne (by omega)).trans (HZC.out 2 (by omega)))); have f2 := q2.free 2; have k4 := (kset u3 pb 0 (.int .i64 x1)).setCell ⟨pb, 1, none⟩ (.int .i64 x2) (.inl (by simp)); have z5 := (k4.cell (p := ⟨sb, 0, none⟩) R3.out.lt (by simp [hspb])).trans z3; have k5 := k4.setCell ⟨pb, 2, none⟩ (.int .i64 x3) (.inl (by simp)); have z6 := (k5.cell (p := ⟨sb, 0, none⟩) R3.out.lt (by simp [hspb])).trans z3; have H5 := Lib.hid (And.intro (q2.set 2 (.int .i64 x3)) k5); clear hr hk q1 q2 k4 k5))
  clear z0 z1 z2 z3 z4 z5 a0 a1 a2 f0 f1 f2
  obtain ⟨v4, hv4⟩ : ∃ v, ((u3.setCell ⟨pb, 0, none⟩ (.int .i64 x1)).setCell ⟨pb, 1, none⟩ (.int .i64 x2)).setCell ⟨pb, 2, none⟩ (.int .i64 x3) = v := ⟨_, rfl⟩
  rw [hv4] at H5 ⊢
  have hrow : rowAt v4 pb 34 (pkL q0 nilV nilV nilV nilV nilV).toArray := by
    have e : ((Z.toArray.setIfInBounds 0 (.int .i64 x1)).setIfInBounds 1 (.int .i64 x2)).setIfInBounds 2 (.int .i64 x3) = (pkL q0 nilV nilV nilV nilV nilV).toArray := by
      rw [← HZ.out.2.2.2.1, ← HX.out.2.2.2.2.2.2.2.1]; simp [pkL]
    rw [← e]; exact H5.out.1
  have P4 := Lib.hid (P3.out.keep H5.out.2 hrow)
  have R4 := Lib.hid (H5.out.2.row R3.out (by simp [hspb]))
  have hpbp : pb ≠ p := by omega
  have SA : Hid (isS v4 sb p g r3 0 ∧ (r3.l ≠ [] → g < sb)) := Lib.hid (by
    have hgg : r3.l ≠ [] → g < sb := fun hne => hgs (S1.out.1 (S2.out.1 (S3.out.1 hne)))
    exact ⟨⟨R4.out, P4.out.rd, hsp', fun hne => by have := hgg hne; omega, P4.out.len⟩, hgg⟩)
  have A0 : Hid (pfx v4 v4 sb p g pb (q0, r3, 0)) := Lib.hid (by
    have hq : pkV v4 [] q0 nilV nilV nilV nilV nilV := by rw [← HX.out.2.2.2.2.2.2.2.1]; exact ⟨rqZero_name, anZero_name, bytesV.nil _ _, bytesV.nil _ _, intsV.nil _ _, votesV.nil _ _, bytesV.nil _ _⟩
    have hl := P4.out.row.lt
    exact ⟨nilV, nilV, nilV, nilV, nilV, [], SA.out.1, hrow, hq, fun y hy => by simp at hy, keepBut.refl _ _, fun hne => by have := SA.out.2 hne; omega, by omega, by omega, hl, by omega, hpbp⟩)
  have F4 := Lib.hid (HV.out.2.2.keep P4.out.kp (by simp))
  have hkind : q0.kind = x1 := by rw [← HX.out.2.2.2.2.2.2.2.1]
  have y0 : v4.cell? ⟨pb, 0, none⟩ = some (.int .i64 x1) := by rw [← hkind]; exact (hrow.cell 0).trans rfl
  clear hrow H5 hv4 z6 P3 R3 P0 R0 P0d R0d P1 P2 R1 R2 hkind
  go_upto_region 5 with (first
    | (go_at_call 40; refine (fieldsOf_any x1 _ F4.out).mono ?_; rintro e w' ⟨rfl, rfl⟩; rw [HX.out.2.2.2.2.2.1]))
  by_cases hA : r3.e = 0 ∧ ff = 0
  · have HEA : Hid (parsePk b = (pkZero, 4)) := Lib.hid (by rw [HE.out, if_pos hA])
    obtain ⟨hA1, hA2⟩ := hA
    have HA1 := Lib.hid (show firstP 0 r3.e = 0 by unfold firstP; rw [if_pos rfl]; exact hA1)
    have hffb : (ff == 0) = true := by simp [hA2]
    clear hA1 hA2
    have r6 := P4.out.res.setL (vs := Z) (o := 0)
    rw [putL_all (by rfl)] at r6
    have R6 := Lib.hid r6
    clear r6
    go_wp2_with (first
      | (go_at_call 95; refine (first_any _ sb p g r3 0 SA.out.1).mono ?_; rintro e u9 ⟨rfl, rfl⟩; rw [HA1.out])
      | (refine wpList_build_v _ rfl 34 rfl _ (HZ.out.2.2.2.2 _) ?_)
      | (refine wpList_store_mid rfl 34 (.tmp 2) (.tmp 40) rfl w.heap.size 0 Z.toArray rfl rfl (P4.out.res.there (by simp only [List.size_toArray]; omega)) hI.out (all_oneCell_toArray HZ.out.2.2.1) ?_))
    refine bodyPost_ret (results_row_tmp rfl _ _ w.heap.size 34 _ (0, 0) _ rfl R6.out Tryz.underlying34 rfl hI.out) rfl ?_
    refine ⟨nilV, nilV, nilV, nilV, nilV, [], by rw [HEA.out, HZ.out.2.2.2.1]; rfl, by rw [HEA.out]; exact pkZero_val _ _, fun y hy => by simp at hy, P4.out.kp.setL (.inr (Nat.le_refl _))⟩
  · have HEN : Hid (parsePk b = if firstP s.2.2 s.2.1.e ≠ 0 then (pkZero, firstP s.2.2 s.2.1.e) else (eL (endP s.2.1.end_ s.1.ok) s.1 pkZero, endP s.2.1.end_ s.1.ok)) := Lib.hid (by rw [HE.out, if_neg hA])
    have hcs : (firstP 0 r3.e = 0 ∧ (ff == 0) = false) ∨ (¬ firstP 0 r3.e = 0 ∧ (firstP 0 r3.e == 0) = false) := by
      have e : firstP 0 r3.e = r3.e := by unfold firstP; rw [if_pos rfl]
      rw [e]
      by_cases h0 : r3.e = 0
      · exact .inl ⟨h0, by simp; exact fun h => hA ⟨h0, h⟩⟩
      · exact .inr ⟨h0, by simp [h0]⟩
    clear hA
    go_cut [39] (fun v39 wx => v39 = .bool false ∧ wx = v4)
    case first =>
      rcases hcs with ⟨h0, hf⟩ | ⟨h0, hf⟩
      · have H0 := Lib.hid h0
        clear h0
        go_wp2_with (first
          | (go_at_call 95; refine (first_any _ sb p g r3 0 SA.out.1).mono ?_; rintro e u9 ⟨rfl, rfl⟩; rw [H0.out]))
        go_meet
        exact ⟨rfl, rfl⟩
      · clear h0
        go_wp2_with (first
          | (go_at_call 95; refine (first_any _ sb p g r3 0 SA.out.1).mono ?_; rintro e u9 ⟨rfl, rfl⟩))
        go_meet
        exact ⟨rfl, rfl⟩
    case rest =>
      obtain ⟨rfl, rfl⟩ := hcut
      go_upto_region 8 with (first
        | (go_at_call 96; refine (readFields_any wc sb p g pb (q0, r3, 0) ff A0.out).mono ?_; rintro e u5 ⟨rfl, hp⟩; rw [HX.out.2.2.2.2.2.2.1] at hp; have A5 := Lib.hid hp; clear hp))
      obtain ⟨ev, av, cv, vv, bw, G, hA6⟩ := A5.out
      have hlo := P4.out.lo
      have hres := hA6.kp.row P4.out.res (by simp; omega)
      have hkw : keepBut [] w u5 := P4.out.kp.then hA6.kp (fun x hx => .inr (by simp at hx; omega))
      have hGw : ∀ y ∈ G, pb < y ∧ y < u5.heap.size := fun y hy => ⟨by have h1 := (hA6.new y hy).1; have h2 := P4.out.row.lt; omega, (hA6.new y hy).2⟩
      have A6 := Lib.hid hA6
      have HR := Lib.hid (And.intro hres (And.intro hkw hGw))
      have hll := P4.out.lo
      clear hA6 hres hkw hGw hcs y0
      by_cases he : firstP s.2.2 s.2.1.e = 0
      · have HE1 := Lib.hid he
        have HEF : Hid (parsePk b = (eL (endP s.2.1.end_ s.1.ok) s.1 pkZero, endP s.2.1.end_ s.1.ok)) := Lib.hid (by rw [HEN.out, if_neg (by simp [he])])
        clear he
        obtain ⟨XE, hXE⟩ : ∃ XE, endP s.2.1.end_ s.1.ok = XE := ⟨_, rfl⟩
        obtain ⟨XL, hXL⟩ : ∃ XL, eL XE (pkL s.1 ev av cv vv bw) Z = XL := ⟨_, rfl⟩
        have hxl : (pkL s.1 ev av cv vv bw).length = 87 := pkL_len A6.out.val.rn A6.out.val.an
        have hxo : ∀ u ∈ pkL s.1 ev av cv vv bw, u.oneCell' = true := pkL_one A6.out.val.re.one A6.out.val.ae.one A6.out.val.cc.one A6.out.val.vs.one A6.out.val.bs.one
        have hLl : XL.length = 87 := by rw [← hXL]; unfold eL; split; exact hxl; exact HZ.out.2.1
        have hLo : ∀ u ∈ XL, u.oneCell' = true := by rw [← hXL]; unfold eL; split; exact hxo; exact HZ.out.2.2.1
        have HXL := Lib.hid (And.intro hXL hXE)
        have HL := Lib.hid (And.intro hLl hLo)
        have hI2 : Hid ((Tryz.prog.info? 34).map (·.size) = some (pkL s.1 ev av cv vv bw).length) := Lib.hid (by rw [hxl]; exact info_pk)
        clear hxl hxo hXL hXE hLl hLo
        have HCALL := Lib.hid (fun (wx : World) (k : keepBut [] u5 wx) => endedPk_any G p g s.2.1 s.1 ev av cv vv bw wx ((A6.out.src.over k).rd) (A6.out.val.keep k (by simp)) (HV.out.2.2.keep (HR.out.2.1.then k (by simp)) (by simp)) (by unfold i64P; have := HX.out.2.2.2.2.2.2.2.2; omega) (by unfold i64P; have := HX.out.2.2.2.2.2.2.2.2; omega))
        have rs : ∀ wx, rowAt wx w.heap.size 34 Z.toArray → rowAt (wx.setCells w.heap.size 0 XL) w.heap.size 34 XL.toArray := fun wx hh => by
          have := hh.setL (vs := XL) (o := 0)
          rw [putL_all (by rw [List.size_toArray, HL.out.1, HZ.out.2.1])] at this
          exact this
        have ht : ∀ wx, rowAt wx w.heap.size 34 Z.toArray → wx.there w.heap.size 0 XL.toArray.size := fun wx hh => hh.there (by simp only [List.size_toArray]; have h1 := HL.out.1; have h2 := HZ.out.2.1; omega)
        have hJ : (Tryz.prog.info? 34).map (·.size) = some XL.toArray.size := by rw [List.size_toArray, HL.out.1]; exact info_pk
        have HS := Lib.hid (And.intro rs (And.intro ht hJ))
        have HO2 := Lib.hid (all_oneCell_toArray HL.out.2)
        have cS : u5.drew.cell? ⟨sb, 0, none⟩ = some (.pointer (some ⟨p, 0, none⟩)) := A6.out.src.row.cell 0
        have kd := (keepBut.refl [] u5).drew
        have RA := Lib.hid (kd.row A6.out.row (by simp))
        have RR := Lib.hid (kd.row HR.out.1 (by simp))
        clear rs ht hJ
        go_upto_region 11 with (first
          | (go_at_call 95; refine (first_any _ sb p g s.2.1 s.2.2 A6.out.src).mono ?_; rintro e u9 ⟨rfl, rfl⟩; rw [HE1.out]))
        have HCC := Lib.hid (fun (w' : World) (k : keepBut [w.heap.size] u5 w') => (k.row A6.out.src.row (by simp; omega)).cell 0)
        have HRW := Lib.hid (fun (w' : World) (k : keepBut [w.heap.size] u5 w') => (k.row A6.out.row (by simp; omega)).rangeAll)
        clear cS kd
        refine wp_region_held_drew (S := keepBut [w.heap.size] u5) (by kernel_rfl) ((keepBut.refl [] u5).drew.more (by simp)) (fun _ => ?_)
        have kW := (keepBut.refl [] u5).drew
        obtain ⟨W0, hW0⟩ : ∃ W, u5.drew = W := ⟨_, rfl⟩
        rw [hW0] at kW ⊢
        clear hW0 RA RR
        refine wpAnyH_take (i := 0) (oi := ⟨_, _, _, _, _, _⟩) (v := ?_) rfl (by kernel_rfl) (by kernel_rfl) (by kernel_rfl) (fun _ _ _ h => h) (Or.inl ⟨by rfl, ?_⟩) (kW.more (by simp)) ?_
        rotate_left
        · intro w' hSw; (try dsimp only at hSw); (go_simp; try with_reducible rfl)
        try simp only [Act.put, List.setIfInBounds_toArray, List.set_cons_zero, List.set_cons_succ]
        refine wpAnyH_take (i := 1) (oi := ⟨_, _, _, _, _, _⟩) (v := ?_) rfl (by kernel_rfl) (by kernel_rfl) (by kernel_rfl) (fun _ _ _ h => h) (Or.inl ⟨by rfl, ?_⟩) (kW.more (by simp)) ?_
        rotate_left
        · intro w' hSw; (try dsimp only at hSw); (go_simp; try with_reducible rfl)
        try simp only [Act.put, List.setIfInBounds_toArray, List.set_cons_zero, List.set_cons_succ]
        refine wpAnyH_take (i := 2) (oi := ⟨_, _, _, _, _, _⟩) (v := ?_) rfl (by kernel_rfl) (by kernel_rfl) (by kernel_rfl) (fun _ _ _ h => h) (Or.inl ⟨by rfl, ?_⟩) (kW.more (by simp)) ?_
        rotate_left
        · intro w' hSw; (try dsimp only at hSw); (go_simp; try with_reducible rfl)
        try simp only [Act.put, List.setIfInBounds_toArray, List.set_cons_zero, List.set_cons_succ]
        refine wpAnyH_take (i := 3) (oi := ⟨_, _, _, _, _, _⟩) (v := ?_) rfl (by kernel_rfl) (by kernel_rfl) (by kernel_rfl) (fun _ _ _ h => h) (Or.inl ⟨by rfl, ?_⟩) (kW.more (by simp)) ?_
        rotate_left
        · intro w' hSw; have xc : w'.cell? ⟨sb, 0, none⟩ = some (.pointer (some ⟨p, 0, none⟩)) := HCC.out w' hSw; clear hSw; (go_simp; try with_reducible rfl)
        try simp only [Act.put, List.setIfInBounds_toArray, List.set_cons_zero, List.set_cons_succ]
        refine wpAnyH_take (i := 4) (oi := ⟨_, _, _, _, _, _⟩) (v := .agg (pkL s.1 ev av cv vv bw).toArray) rfl (by kernel_rfl) (by kernel_rfl) (by kernel_rfl) (fun _ _ _ h => h) (yieldsIf_mid 34 (.tmp 5) rfl pb 0 rfl (pkL s.1 ev av cv vv bw) _ (fun w' hSw => HRW.out w' hSw) Tryz.underlying34 rfl hI2.out ?_) (kW.more (by simp)) ?_
        · rfl
        try simp only [Act.put, List.setIfInBounds_toArray, List.set_cons_zero, List.set_cons_succ]
        refine wpAnyH_ready (rs := [5]) (by kernel_rfl) (by simp) ?_
        refine AllReadyH.cons (o := ⟨_, _, _, _, _, _⟩) rfl (fun K hK => ?_) AllReadyH.nil
        go_simp
        refine (HCALL.out _ kW).mono ?_
        rintro e u7 ⟨rfl, k7⟩
        rw [HXL.out.2, HZ.out.2.2.2.1, HXL.out.1]
        have k8 := kW.then k7 (by simp)
        go_wp2_with fail
        refine hK.out _ _ (k8.more (by simp)) (fun _ => ?_)
        clear hK K
        try simp only [Act.put, List.setIfInBounds_toArray, List.set_cons_zero, List.set_cons_succ]
        refine wpAnyH_take (i := 6) (oi := ⟨_, _, _, _, _, _⟩) (v := ?_) rfl (by kernel_rfl) (by kernel_rfl) (by kernel_rfl) (fun _ _ _ h => h) (Or.inl ⟨by rfl, ?_⟩) (k8.more (by simp)) ?_
        rotate_left
        · intro w' hSw; (try dsimp only at hSw); (go_simp; try with_reducible rfl)
        try simp only [Act.put, List.setIfInBounds_toArray, List.set_cons_zero, List.set_cons_succ]
        refine wpAnyH_take (i := 7) (oi := ⟨_, _, _, _, _, _⟩) (v := ?_) rfl (by kernel_rfl) (by kernel_rfl) (by kernel_rfl) (fun _ _ _ h => h) (Or.inl ⟨by rfl, ?_⟩) (k8.more (by simp)) ?_
        rotate_left
        · intro w' hSw; (try dsimp only at hSw); (go_simp; try with_reducible rfl)
        try simp only [Act.put, List.setIfInBounds_toArray, List.set_cons_zero, List.set_cons_succ]
        have R7 := Lib.hid (k8.row HR.out.1 (by simp))
        have K7 := Lib.hid k8
        have kS := ((k8.more (by simp)) : keepBut [w.heap.size] u5 u7).setL (vs := XL) (g := w.heap.size) (o := 0) (.inl (by simp))
        have HK8 := Lib.hid (And.intro kS ((HR.out.2.1.then k8 (by simp)).setL (vs := XL) (g := w.heap.size) (o := 0) (.inr (Nat.le_refl _))))
        clear kS
        refine wpAnyH_ready (rs := [8]) (by kernel_rfl) (by simp) ?_
        refine AllReadyH.cons (o := ⟨_, _, _, _, _, _⟩) rfl (fun K hK => ?_) AllReadyH.nil
        rw [if_pos (by rfl)]
        refine wp_store_mid 34 (.tmp 2) (.tmp 56) rfl w.heap.size 0 XL.toArray rfl rfl (HS.out.2.1 _ R7.out) HS.out.2.2 HO2.out ?_
        refine hK.out _ _ HK8.out.1 (fun _ => ?_)
        clear hK K
        try simp only [Act.put, List.setIfInBounds_toArray, List.set_cons_zero, List.set_cons_succ]
        refine wpAnyH_take (i := 9) (oi := ⟨_, _, _, _, _, _⟩) (v := ?_) rfl (by kernel_rfl) (by kernel_rfl) (by kernel_rfl) (fun _ _ _ h => h) (Or.inl ⟨by rfl, ?_⟩) HK8.out.1 ?_
        rotate_left
        · intro w' hSw; (try dsimp only at hSw); (go_simp; try with_reducible rfl)
        try simp only [Act.put, List.setIfInBounds_toArray, List.set_cons_zero, List.set_cons_succ]
        refine wpAnyH_done (by kernel_rfl) ?_ _
        go_wp2_with fail
        refine bodyPost_ret (results_row_tmp rfl _ _ w.heap.size 34 _ (0, 0) _ rfl (HS.out.1 _ R7.out) Tryz.underlying34 rfl HS.out.2.2) rfl ?_
        have ks := (keepBut.refl [w.heap.size] u7).setL (vs := XL) (g := w.heap.size) (o := 0) (by simp)
        have h1 : XL = pkL (eL XE s.1 pkZero) (eL XE ev nilV) (eL XE av nilV) (eL XE cv nilV) (eL XE vv nilV) (eL XE bw nilV) := by rw [← HXL.out.1, ← HZ.out.2.2.2.1]; exact pkL_eL XE _ _ _ _ _ _
        have h2 : pkV (u7.setCells w.heap.size 0 XL) G (parsePk b).1 (eL XE ev nilV) (eL XE av nilV) (eL XE cv nilV) (eL XE vv nilV) (eL XE bw nilV) := by
          rw [HEF.out, HXL.out.2]
          exact eL_pkV ((A6.out.val.keep K7.out (by simp)).keep ks (fun y hy => by have := (HR.out.2.2 y hy).1; simp; omega))
        have h3 : newIn w (u7.setCells w.heap.size 0 XL) G := fun y hy => ⟨by have := (HR.out.2.2 y hy).1; omega, Nat.lt_of_lt_of_le (HR.out.2.2 y hy).2 (Nat.le_trans K7.out.size ks.size)⟩
        refine ⟨eL XE ev nilV, eL XE av nilV, eL XE cv nilV, eL XE vv nilV, eL XE bw nilV, ?h4, G, h2, h3, HK8.out.2⟩
        rw [HEF.out, HXL.out.2, ← h1]
        rfl
      · have heb : (firstP s.2.2 s.2.1.e != 0) = true := by simp [he]
        have HEF : Hid (parsePk b = (pkZero, firstP s.2.2 s.2.1.e)) := Lib.hid (by rw [HEN.out, if_pos he])
        clear he
        have r6 := HR.out.1.setL (vs := Z) (o := 0)
        rw [putL_all (by rfl)] at r6
        have R6 := Lib.hid r6
        clear r6
        go_wp2_with (first
          | (go_at_call 95; refine (first_any _ sb p g s.2.1 s.2.2 A6.out.src).mono ?_; rintro e u9 ⟨rfl, rfl⟩)
          | (refine wpList_build_v _ rfl 34 rfl _ (HZ.out.2.2.2.2 _) ?_)
          | (refine wpList_store_mid rfl 34 (.tmp 2) (.tmp 48) rfl w.heap.size 0 Z.toArray rfl rfl (HR.out.1.there (by simp only [List.size_toArray]; omega)) hI.out (all_oneCell_toArray HZ.out.2.2.1) ?_))
        refine bodyPost_ret (results_row_tmp rfl _ _ w.heap.size 34 _ (0, 0) _ rfl R6.out Tryz.underlying34 rfl hI.out) rfl ?_
        refine ⟨nilV, nilV, nilV, nilV, nilV, [], by rw [HEF.out, HZ.out.2.2.2.1]; rfl, by rw [HEF.out]; exact pkZero_val _ _, fun y hy => by simp at hy, HR.out.2.1.setL (.inr (Nat.le_refl _))⟩
end Go.Proofs.YthfdkonhjpdflaaGreatDoor
