/-
  PACK, 32: the fields of a kind, read.
-/
import Derived.Test.YthfdkonhjpdflaaGreatDoorPk31
namespace Go.Proofs.YthfdkonhjpdflaaGreatDoor
open Go.RowKit
set_option linter.unusedVariables false
set_option maxRecDepth 100000
set_option linter.unusedSimpArgs false

abbrev SF := PK × RS × Int
def f1 (h : Int) (s : SF) : SF := if bitA h 1 = 0 then s else ({ s.1 with num := (s.2.1.count 9007199254740991).1 }, (s.2.1.count 9007199254740991).2, s.2.2)
def f2 (h : Int) (s : SF) : SF := if bitA h 2 = 0 then s else ({ s.1 with seq := (s.2.1.count 9007199254740991).1 - 1 }, (s.2.1.count 9007199254740991).2, s.2.2)
def f3 (h : Int) (s : SF) : SF := if bitA h 4 = 0 then s else ({ s.1 with ballot := (s.2.1.count 9007199254740991).1 }, (s.2.1.count 9007199254740991).2, s.2.2)
def f4 (h : Int) (s : SF) : SF := if bitA h 8 = 0 then s else ({ s.1 with ready := decide ((s.2.1.num 1).1 = 1) }, rdyR s.2.1, rdyP s.2.1 s.2.2)
def f5 (h : Int) (s : SF) : SF := if bitA h 16 = 0 then s else ({ s.1 with req := (rpRq s.2.1 s.2.2).1 }, (rpRq s.2.1 s.2.2).2.1, (rpRq s.2.1 s.2.2).2.2)
def f6 (h : Int) (s : SF) : SF := if bitA h 32 = 0 then s else ({ s.1 with ans := (rpAn s.2.1 s.2.2).1 }, (rpAn s.2.1 s.2.2).2.1, (rpAn s.2.1 s.2.2).2.2)
def f7 (h : Int) (s : SF) : SF := if bitA h 64 = 0 then s else ({ s.1 with conf := (rpCf s.2.1 s.2.2).1 }, (rpCf s.2.1 s.2.2).2.1, (rpCf s.2.1 s.2.2).2.2)
def f8 (h : Int) (s : SF) : SF := if bitA h 128 = 0 then s else ({ s.1 with votes := (rvAll s.2.1 s.2.2).1 }, (rvAll s.2.1 s.2.2).2.1, (rvAll s.2.1 s.2.2).2.2)
def f9 (h : Int) (s : SF) : SF := if bitA h 256 = 0 then s else ({ s.1 with bytes := (s.2.1.text 32768).1 }, (s.2.1.text 32768).2, s.2.2)
def fAll (h : Int) (s : SF) : SF := f9 h (f8 h (f7 h (f6 h (f5 h (f4 h (f3 h (f2 h (f1 h s))))))))
theorem rpRq_left {r : RS} {part : Int} (h : (rpRq r part).2.1.l ≠ []) : r.l ≠ [] := by unfold rpRq at h; split at h <;> exact text_left h
theorem rpAn_left {r : RS} {part : Int} (h : (rpAn r part).2.1.l ≠ []) : r.l ≠ [] := by unfold rpAn at h; split at h <;> exact text_left h
theorem rpCf_left {r : RS} {part : Int} (h : (rpCf r part).2.1.l ≠ []) : r.l ≠ [] := by unfold rpCf at h; split at h <;> exact text_left h
theorem rdVs_left : ∀ (k : Nat) (acc : List VT) (r : RS) (part : Int), (rdVs k acc r part).2.1.l ≠ [] → r.l ≠ []
  | 0, acc, r, part, h => h
  | k + 1, acc, r, part, h => by
    unfold rdVs at h
    split at h
    · exact count_left (rpCf_left (rdVs_left k _ _ _ h))
    · exact count_left (rpCf_left h)
theorem rvAll_left {r : RS} {part : Int} (h : (rvAll r part).2.1.l ≠ []) : r.l ≠ [] := num_left (rdVs_left _ _ _ _ h)
section
variable {q : PK} {ev av cv vv bw : Value}
theorem pkL_num (x : Int) : (pkL q ev av cv vv bw).toArray.setIfInBounds 3 (.int .i64 x) = (pkL { q with num := x } ev av cv vv bw).toArray := by simp [pkL]
theorem pkL_seq (x : Int) : (pkL q ev av cv vv bw).toArray.setIfInBounds 4 (.int .i64 x) = (pkL { q with seq := x } ev av cv vv bw).toArray := by simp [pkL]
theorem pkL_bal (x : Int) : (pkL q ev av cv vv bw).toArray.setIfInBounds 5 (.int .i64 x) = (pkL { q with ballot := x } ev av cv vv bw).toArray := by simp [pkL]
theorem pkL_rdy (x : Bool) : (pkL q ev av cv vv bw).toArray.setIfInBounds 6 (.bool x) = (pkL { q with ready := x } ev av cv vv bw).toArray := by simp [pkL]
theorem pkL_putR (x : RQ) (u : Value) (h : q.req.name.length = 32) (h' : x.name.length = 32) : putL (pkL q ev av cv vv bw).toArray 7 (rqL x u) = (pkL { q with req := x } u av cv vv bw).toArray :=
  putL_mid [.int .i64 q.kind, .int .i64 q.frm, .int .i64 q.dst, .int .i64 q.num, .int .i64 q.seq, .int .i64 q.ballot, .bool q.ready] (rqL q.req ev) (rqL x u) _ (by rw [rqL_len h, rqL_len h'])
theorem pkL_at44 : pkL q ev av cv vv bw = (.int .i64 q.kind :: .int .i64 q.frm :: .int .i64 q.dst :: .int .i64 q.num :: .int .i64 q.seq :: .int .i64 q.ballot :: .bool q.ready :: rqL q.req ev) ++ (anL q.ans av ++ (cfL q.conf cv ++ [vv, bw])) := by simp [pkL]
theorem pkL_at82 : pkL q ev av cv vv bw = ((.int .i64 q.kind :: .int .i64 q.frm :: .int .i64 q.dst :: .int .i64 q.num :: .int .i64 q.seq :: .int .i64 q.ballot :: .bool q.ready :: rqL q.req ev) ++ anL q.ans av) ++ (cfL q.conf cv ++ [vv, bw]) := by simp [pkL]
theorem pkL_putA (x : AN) (u : Value) (hr : q.req.name.length = 32) (h : q.ans.name.length = 32) (h' : x.name.length = 32) : putL (pkL q ev av cv vv bw).toArray 44 (anL x u) = (pkL { q with ans := x } ev u cv vv bw).toArray := by
  rw [pkL_at44, pkL_at44]
  have := putL_mid (.int .i64 q.kind :: .int .i64 q.frm :: .int .i64 q.dst :: .int .i64 q.num :: .int .i64 q.seq :: .int .i64 q.ballot :: .bool q.ready :: rqL q.req ev) (anL q.ans av) (anL x u) (cfL q.conf cv ++ [vv, bw]) (by rw [anL_len h, anL_len h'])
  rw [show (.int .i64 q.kind :: .int .i64 q.frm :: .int .i64 q.dst :: .int .i64 q.num :: .int .i64 q.seq :: .int .i64 q.ballot :: .bool q.ready :: rqL q.req ev : List Value).length = 44 by simp [rqL_len hr]] at this
  exact this
theorem pkL_putC (x : CF) (u : Value) (hr : q.req.name.length = 32) (ha : q.ans.name.length = 32) : putL (pkL q ev av cv vv bw).toArray 82 (cfL x u) = (pkL { q with conf := x } ev av u vv bw).toArray := by
  rw [pkL_at82, pkL_at82]
  have := putL_mid ((.int .i64 q.kind :: .int .i64 q.frm :: .int .i64 q.dst :: .int .i64 q.num :: .int .i64 q.seq :: .int .i64 q.ballot :: .bool q.ready :: rqL q.req ev) ++ anL q.ans av) (cfL q.conf cv) (cfL x u) [vv, bw] rfl
  rw [show ((.int .i64 q.kind :: .int .i64 q.frm :: .int .i64 q.dst :: .int .i64 q.num :: .int .i64 q.seq :: .int .i64 q.ballot :: .bool q.ready :: rqL q.req ev : List Value) ++ anL q.ans av).length = 82 by simp [rqL_len hr, anL_len ha]] at this
  exact this
theorem pkL_votes (hr : q.req.name.length = 32) (ha : q.ans.name.length = 32) (x : List VT) (u : Value) : (pkL q ev av cv vv bw).toArray.setIfInBounds 85 u = (pkL { q with votes := x } ev av cv u bw).toArray := (pkL_setT hr ha u).2.2.2.1
theorem pkL_bytes (hr : q.req.name.length = 32) (ha : q.ans.name.length = 32) (x : List UInt8) (u : Value) : (pkL q ev av cv vv bw).toArray.setIfInBounds 86 u = (pkL { q with bytes := x } ev av cv vv u).toArray := (pkL_setT hr ha u).2.2.2.2
end
/-- a packet that is being read into block pb -/
structure pfA (w0 w : World) (sb p g pb : Nat) (s : SF) (ev av cv vv bw : Value) (F : List Nat) : Prop where
  src : isS w sb p g s.2.1 s.2.2
  row : rowAt w pb 34 (pkL s.1 ev av cv vv bw).toArray
  val : pkV w F s.1 ev av cv vv bw
  new : newIn w0 w F
  kp : keepBut [sb, p, pb] w0 w
  gl : s.2.1.l ≠ [] → g < w0.heap.size ∧ g ≠ pb
  sl : sb < w0.heap.size
  pl : p < w0.heap.size
  bl : pb < w0.heap.size
  ns : pb ≠ sb
  np : pb ≠ p
def pfx (w0 w : World) (sb p g pb : Nat) (s : SF) : Prop := ∃ ev av cv vv bw F, pfA w0 w sb p g pb s ev av cv vv bw F
section
variable {w0 w u : World} {sb p g pb : Nat} {s : SF} {ev av cv vv bw : Value} {F : List Nat}
theorem pfA.read (h : pfA w0 w sb p g pb s ev av cv vv bw F) {r : RS} {part : Int} (hs : isS u sb p g r part) (hk : keepBut [sb, p] w u) (hl : r.l ≠ [] → s.2.1.l ≠ []) : pfA w0 u sb p g pb (s.1, r, part) ev av cv vv bw F :=
  ⟨hs, hk.row h.row (by simp [h.ns, h.np]), h.val.keep hk (fun y hy => by have h1 := (h.new y hy).1; have h2 := h.sl; have h3 := h.pl; simp; omega), fun y hy => ⟨(h.new y hy).1, Nat.lt_of_lt_of_le (h.new y hy).2 hk.size⟩, h.kp.then hk (fun x hx => .inl (by simp at hx; simp; omega)), fun hne => h.gl (hl hne), h.sl, h.pl, h.bl, h.ns, h.np⟩
theorem pfA.put (h : pfA w0 w sb p g pb s ev av cv vv bw F) {q : PK} {ev' av' cv' vv' bw' : Value} {F' : List Nat} (hk : keepBut [pb] w u) (hrow : rowAt u pb 34 (pkL q ev' av' cv' vv' bw').toArray) (hv : pkV w F' q ev' av' cv' vv' bw') (hn : newIn w0 w F') : pfA w0 u sb p g pb (q, s.2.1, s.2.2) ev' av' cv' vv' bw' F' :=
  ⟨h.src.keep hk (by have := h.ns; simp; exact fun e => this e.symm) (by have := h.np; simp; exact fun e => this e.symm) (fun hne => by have := (h.gl hne).2; simp [this]), hrow, hv.keep hk (fun y hy => by have h1 := (hn y hy).1; have h2 := h.bl; simp; omega), fun y hy => ⟨(hn y hy).1, Nat.lt_of_lt_of_le (hn y hy).2 hk.size⟩, h.kp.then hk (fun x hx => .inl (by simp at hx; simp [hx])), h.gl, h.sl, h.pl, h.bl, h.ns, h.np⟩
theorem pfA.set (h : pfA w0 w sb p g pb s ev av cv vv bw F) {q : PK} {ev' av' cv' vv' bw' : Value} {F' : List Nat} (k : Nat) (x : Value) (he : (pkL s.1 ev av cv vv bw).toArray.setIfInBounds k x = (pkL q ev' av' cv' vv' bw').toArray) (hv : pkV w F' q ev' av' cv' vv' bw') (hn : newIn w0 w F') : pfA w0 (w.setCell ⟨pb, k, none⟩ x) sb p g pb (q, s.2.1, s.2.2) ev' av' cv' vv' bw' F' :=
  h.put (kset w pb k x) (by rw [← he]; exact h.row.set k x) hv hn
theorem pfA.setL (h : pfA w0 w sb p g pb s ev av cv vv bw F) {q : PK} {ev' av' cv' vv' bw' : Value} {F' : List Nat} (k : Nat) (xs : List Value) (he : putL (pkL s.1 ev av cv vv bw).toArray k xs = (pkL q ev' av' cv' vv' bw').toArray) (hv : pkV w F' q ev' av' cv' vv' bw') (hn : newIn w0 w F') : pfA w0 (w.setCells pb k xs) sb p g pb (q, s.2.1, s.2.2) ev' av' cv' vv' bw' F' :=
  h.put ((keepBut.refl [pb] w).setL (.inl (by simp))) (by rw [← he]; exact h.row.setL) hv hn
theorem newIn.app {G : List Nat} (h1 : newIn w0 u F) (h2 : newIn w u G) (hs : w0.heap.size ≤ w.heap.size) : newIn w0 u (F ++ G) := fun y hy => by
  rcases List.mem_append.1 hy with h | h
  · exact h1 y h
  · have := h2 y h; omega
end
set_option maxHeartbeats 16000000 in
theorem readFields_any (w : World) (sb p g pb : Nat) (s0 : SF) (h : Int) (hp : pfx w w sb p g pb s0) :
    Calls Tryz.prog 96 #[.pointer (some ⟨sb, 0, none⟩), .pointer (some ⟨pb, 0, none⟩), .int .i64 h] w fun e w' => e = .returned (.tuple #[]) ∧ pfx w w' sb p g pb (fAll h s0) := by
  have O := Lib.hid hp
  clear hp
  go_enter Tryz.func96, Tryz.ntmps96
  go_upto_if 8 with fail
  go_cut [] (fun wx => pfx w wx sb p g pb (f1 h s0))
  case first =>
   obtain ⟨ev, av, cv, vv, bw, F, hA⟩ := O.out
   have A := Lib.hid hA
   have hrn := hA.val.rn
   have han := hA.val.an
   clear hA
   by_cases hb : bitA h 1 = 0
   · have hbb : (bits .and .i64 h 1 != 0) = false := by have := hb; unfold bitA at this; simp [this]
     have E := Lib.hid (show f1 h s0 = s0 by unfold f1; rw [if_pos hb])
     clear hb
     go_wp2_with fail
     go_meet
     exact (by rw [E.out]; exact ⟨ev, av, cv, vv, bw, F, A.out⟩)
   · have hbb : (bits .and .i64 h 1 != 0) = true := by have := hb; unfold bitA at this; simp [this]
     have E := Lib.hid (show f1 h s0 = _ by unfold f1; rw [if_neg hb])
     clear hb
     have c0 := (A.out.src.row.cell 0).trans (show _ = some (Value.pointer (some ⟨p, 0, none⟩)) from rfl)
     go_wp2_with (first
       | (go_at_call 102; refine (count_any p g s0.2.1 9007199254740991 _ A.out.src.rd).mono ?_; intro e u hq; unfold countPost at hq; obtain ⟨rfl, hr, hk⟩ := hq; have B := Lib.hid (A.out.read (A.out.src.read hr hk count_left (RS.count_short _ _)) (hk.more (by simp)) count_left); have y := (B.out.row.pk hrn han).c3; have y2 := B.out.row.free 3; clear hr hk))
     go_meet
     exact (by rw [E.out]; exact ⟨ev, av, cv, vv, bw, F, B.out.set 3 _ (pkL_num ((s0.2.1.count 9007199254740991).1)) ⟨B.out.val.rn, B.out.val.an, B.out.val.re, B.out.val.ae, B.out.val.cc, B.out.val.vs, B.out.val.bs⟩ B.out.new⟩)
  obtain ⟨s1, hs1⟩ : ∃ s, f1 h s0 = s := ⟨_, rfl⟩
  rw [hs1] at hcut
  have O := Lib.hid hcut
  have HS1 := Lib.hid hs1
  clear hcut hs1
  go_upto_if 19 with fail
  go_cut [] (fun wx => pfx w wx sb p g pb (f2 h s1))
  case first =>
   obtain ⟨ev, av, cv, vv, bw, F, hA⟩ := O.out
   have A := Lib.hid hA
   have hrn := hA.val.rn
   have han := hA.val.an
   clear hA
   by_cases hb : bitA h 2 = 0
   · have hbb : (bits .and .i64 h 2 != 0) = false := by have := hb; unfold bitA at this; simp [this]
     have E := Lib.hid (show f2 h s1 = s1 by unfold f2; rw [if_pos hb])
     clear hb
     go_wp2_with fail
     go_meet
     exact (by rw [E.out]; exact ⟨ev, av, cv, vv, bw, F, A.out⟩)
   · have hbb : (bits .and .i64 h 2 != 0) = true := by have := hb; unfold bitA at this; simp [this]
     have E := Lib.hid (show f2 h s1 = _ by unfold f2; rw [if_neg hb])
     clear hb
     have c0 := (A.out.src.row.cell 0).trans (show _ = some (Value.pointer (some ⟨p, 0, none⟩)) from rfl)
     have hws : IntKind.i64.wrap ((s1.2.1.count 9007199254740991).1 - 1) = (s1.2.1.count 9007199254740991).1 - 1 := by
       have h1 := (RS.count_range s1.2.1 9007199254740991).1
       have h2 : (s1.2.1.count 9007199254740991).1 ≤ 9007199254740991 := (RS.count_range s1.2.1 9007199254740991).2
       rw [IntKind.wrap_i64]; omega
     go_wp2_with (first
       | (go_at_call 102; refine (count_any p g s1.2.1 9007199254740991 _ A.out.src.rd).mono ?_; intro e u hq; unfold countPost at hq; obtain ⟨rfl, hr, hk⟩ := hq; have B := Lib.hid (A.out.read (A.out.src.read hr hk count_left (RS.count_short _ _)) (hk.more (by simp)) count_left); have y := (B.out.row.pk hrn han).c4; have y2 := B.out.row.free 4; clear hr hk))
     go_meet
     exact (by rw [E.out]; exact ⟨ev, av, cv, vv, bw, F, B.out.set 4 _ (pkL_seq ((s1.2.1.count 9007199254740991).1 - 1)) ⟨B.out.val.rn, B.out.val.an, B.out.val.re, B.out.val.ae, B.out.val.cc, B.out.val.vs, B.out.val.bs⟩ B.out.new⟩)
  obtain ⟨s2, hs2⟩ : ∃ s, f2 h s1 = s := ⟨_, rfl⟩
  rw [hs2] at hcut
  have O := Lib.hid hcut
  have HS2 := Lib.hid hs2
  clear hcut hs2
  go_upto_if 31 with fail
  go_cut [] (fun wx => pfx w wx sb p g pb (f3 h s2))
  case first =>
   obtain ⟨ev, av, cv, vv, bw, F, hA⟩ := O.out
   have A := Lib.hid hA
   have hrn := hA.val.rn
   have han := hA.val.an
   clear hA
   by_cases hb : bitA h 4 = 0
   · have hbb : (bits .and .i64 h 4 != 0) = false := by have := hb; unfold bitA at this; simp [this]
     have E := Lib.hid (show f3 h s2 = s2 by unfold f3; rw [if_pos hb])
     clear hb
     go_wp2_with fail
     go_meet
     exact (by rw [E.out]; exact ⟨ev, av, cv, vv, bw, F, A.out⟩)
   · have hbb : (bits .and .i64 h 4 != 0) = true := by have := hb; unfold bitA at this; simp [this]
     have E := Lib.hid (show f3 h s2 = _ by unfold f3; rw [if_neg hb])
     clear hb
     have c0 := (A.out.src.row.cell 0).trans (show _ = some (Value.pointer (some ⟨p, 0, none⟩)) from rfl)
     go_wp2_with (first
       | (go_at_call 102; refine (count_any p g s2.2.1 9007199254740991 _ A.out.src.rd).mono ?_; intro e u hq; unfold countPost at hq; obtain ⟨rfl, hr, hk⟩ := hq; have B := Lib.hid (A.out.read (A.out.src.read hr hk count_left (RS.count_short _ _)) (hk.more (by simp)) count_left); have y := (B.out.row.pk hrn han).c5; have y2 := B.out.row.free 5; clear hr hk))
     go_meet
     exact (by rw [E.out]; exact ⟨ev, av, cv, vv, bw, F, B.out.set 5 _ (pkL_bal ((s2.2.1.count 9007199254740991).1)) ⟨B.out.val.rn, B.out.val.an, B.out.val.re, B.out.val.ae, B.out.val.cc, B.out.val.vs, B.out.val.bs⟩ B.out.new⟩)
  obtain ⟨s3, hs3⟩ : ∃ s, f3 h s2 = s := ⟨_, rfl⟩
  rw [hs3] at hcut
  have O := Lib.hid hcut
  have HS3 := Lib.hid hs3
  clear hcut hs3
  go_upto_if 42 with fail
  go_cut [] (fun wx => pfx w wx sb p g pb (f4 h s3))
  case first =>
   obtain ⟨ev, av, cv, vv, bw, F, hA⟩ := O.out
   have A := Lib.hid hA
   have hrn := hA.val.rn
   have han := hA.val.an
   clear hA
   by_cases hb : bitA h 8 = 0
   · have hbb : (bits .and .i64 h 8 != 0) = false := by have := hb; unfold bitA at this; simp [this]
     have E := Lib.hid (show f4 h s3 = s3 by unfold f4; rw [if_pos hb])
     clear hb
     go_wp2_with fail
     go_meet
     exact (by rw [E.out]; exact ⟨ev, av, cv, vv, bw, F, A.out⟩)
   · have hbb : (bits .and .i64 h 8 != 0) = true := by have := hb; unfold bitA at this; simp [this]
     have E := Lib.hid (show f4 h s3 = _ by unfold f4; rw [if_neg hb])
     clear hb
     have c0 := (A.out.src.row.cell 0).trans (show _ = some (Value.pointer (some ⟨p, 0, none⟩)) from rfl)
     go_wp2_with (first
       | (go_at_call 142; refine (readReady_any p g sb s3.2.1 s3.2.2 _ A.out.src).mono ?_; rintro e u ⟨rfl, hs, hk⟩; have B := Lib.hid (A.out.read hs hk num_left); have y := (B.out.row.pk hrn han).c6; have y2 := B.out.row.free 6; clear hs hk))
     go_meet
     exact (by rw [E.out]; exact ⟨ev, av, cv, vv, bw, F, B.out.set 6 _ (pkL_rdy _) ⟨B.out.val.rn, B.out.val.an, B.out.val.re, B.out.val.ae, B.out.val.cc, B.out.val.vs, B.out.val.bs⟩ B.out.new⟩)
  obtain ⟨s4, hs4⟩ : ∃ s, f4 h s3 = s := ⟨_, rfl⟩
  rw [hs4] at hcut
  have O := Lib.hid hcut
  have HS4 := Lib.hid hs4
  clear hcut hs4
  go_upto_if 50 with fail
  go_cut [] (fun wx => pfx w wx sb p g pb (f5 h s4))
  case first =>
   obtain ⟨ev, av, cv, vv, bw, F, hA⟩ := O.out
   have A := Lib.hid hA
   have hrn := hA.val.rn
   have han := hA.val.an
   clear hA
   by_cases hb : bitA h 16 = 0
   · have hbb : (bits .and .i64 h 16 != 0) = false := by have := hb; unfold bitA at this; simp [this]
     have E := Lib.hid (show f5 h s4 = s4 by unfold f5; rw [if_pos hb])
     clear hb
     go_wp2_with fail
     go_meet
     exact (by rw [E.out]; exact ⟨ev, av, cv, vv, bw, F, A.out⟩)
   · have hbb : (bits .and .i64 h 16 != 0) = true := by have := hb; unfold bitA at this; simp [this]
     have E := Lib.hid (show f5 h s4 = _ by unfold f5; rw [if_neg hb])
     clear hb
     have c0 := (A.out.src.row.cell 0).trans (show _ = some (Value.pointer (some ⟨p, 0, none⟩)) from rfl)
     obtain ⟨X, hX⟩ : ∃ X, rpRq s4.2.1 s4.2.2 = X := ⟨_, rfl⟩
     have HX := Lib.hid (And.intro hX (fun hne : X.2.1.l ≠ [] => rpRq_left (by rw [hX]; exact hne)))
     rw [hX] at E
     clear hX
     go_wp2_with (first
       | (go_at_call 143; refine (readPartRq_any p g sb s4.2.1 s4.2.2 _ A.out.src).mono ?_; intro e u hq; rw [HX.out.1] at hq; obtain ⟨ex, G, rfl, hv, hn, hs, hk⟩ := hq; have B := Lib.hid (A.out.read hs hk HX.out.2); have hL : Hid ((rqL X.1 ex).length = 37 ∧ ∀ v ∈ rqL X.1 ex, v.oneCell' = true) := Lib.hid ⟨rqL_len hv.1, rqL_one _ hv.2.one⟩; have HV := Lib.hid (And.intro hv (And.intro hn (A.out.kp.size))); clear hv hn hs hk)
       | (refine wpList_store_mid rfl 26 (.tmp 55) (.tmp 53) rfl pb 7 (rqL X.1 ex).toArray rfl rfl (B.out.row.there (by rw [List.size_toArray, List.size_toArray, hL.out.1, pkL_len hrn han]; omega)) (by rw [List.size_toArray, hL.out.1]; exact info_rq) (all_oneCell_toArray hL.out.2) ?_))
     try simp only [Act.put]
     go_meet
     exact (by rw [E.out]; exact ⟨ex, av, cv, vv, bw, F ++ G, B.out.setL 7 _ (pkL_putR X.1 ex hrn HV.out.1.1) ⟨HV.out.1.1, B.out.val.an, HV.out.1.2.more (fun y hy => List.mem_append.2 (.inr hy)), B.out.val.ae.more (fun y hy => List.mem_append.2 (.inl hy)), B.out.val.cc.more (fun y hy => List.mem_append.2 (.inl hy)), B.out.val.vs.more (fun y hy => List.mem_append.2 (.inl hy)), B.out.val.bs.more (fun y hy => List.mem_append.2 (.inl hy))⟩ (B.out.new.app HV.out.2.1 HV.out.2.2)⟩)
  obtain ⟨s5, hs5⟩ : ∃ s, f5 h s4 = s := ⟨_, rfl⟩
  rw [hs5] at hcut
  have O := Lib.hid hcut
  have HS5 := Lib.hid hs5
  clear hcut hs5
  go_upto_if 58 with fail
  go_cut [] (fun wx => pfx w wx sb p g pb (f6 h s5))
  case first =>
   obtain ⟨ev, av, cv, vv, bw, F, hA⟩ := O.out
   have A := Lib.hid hA
   have hrn := hA.val.rn
   have han := hA.val.an
   clear hA
   by_cases hb : bitA h 32 = 0
   · have hbb : (bits .and .i64 h 32 != 0) = false := by have := hb; unfold bitA at this; simp [this]
     have E := Lib.hid (show f6 h s5 = s5 by unfold f6; rw [if_pos hb])
     clear hb
     go_wp2_with fail
     go_meet
     exact (by rw [E.out]; exact ⟨ev, av, cv, vv, bw, F, A.out⟩)
   · have hbb : (bits .and .i64 h 32 != 0) = true := by have := hb; unfold bitA at this; simp [this]
     have E := Lib.hid (show f6 h s5 = _ by unfold f6; rw [if_neg hb])
     clear hb
     have c0 := (A.out.src.row.cell 0).trans (show _ = some (Value.pointer (some ⟨p, 0, none⟩)) from rfl)
     obtain ⟨X, hX⟩ : ∃ X, rpAn s5.2.1 s5.2.2 = X := ⟨_, rfl⟩
     have HX := Lib.hid (And.intro hX (fun hne : X.2.1.l ≠ [] => rpAn_left (by rw [hX]; exact hne)))
     rw [hX] at E
     clear hX
     go_wp2_with (first
       | (go_at_call 144; refine (readPartAn_any p g sb s5.2.1 s5.2.2 _ A.out.src).mono ?_; intro e u hq; rw [HX.out.1] at hq; obtain ⟨ex, G, rfl, hv, hn, hs, hk⟩ := hq; have B := Lib.hid (A.out.read hs hk HX.out.2); have hL : Hid ((anL X.1 ex).length = 38 ∧ ∀ v ∈ anL X.1 ex, v.oneCell' = true) := Lib.hid ⟨anL_len hv.1, anL_one _ hv.2.one⟩; have HV := Lib.hid (And.intro hv (And.intro hn (A.out.kp.size))); clear hv hn hs hk)
       | (refine wpList_store_mid rfl 28 (.tmp 63) (.tmp 61) rfl pb 44 (anL X.1 ex).toArray rfl rfl (B.out.row.there (by rw [List.size_toArray, List.size_toArray, hL.out.1, pkL_len hrn han]; omega)) (by rw [List.size_toArray, hL.out.1]; exact info_an) (all_oneCell_toArray hL.out.2) ?_))
     try simp only [Act.put]
     go_meet
     exact (by rw [E.out]; exact ⟨ev, ex, cv, vv, bw, F ++ G, B.out.setL 44 _ (pkL_putA X.1 ex hrn han HV.out.1.1) ⟨B.out.val.rn, HV.out.1.1, B.out.val.re.more (fun y hy => List.mem_append.2 (.inl hy)), HV.out.1.2.more (fun y hy => List.mem_append.2 (.inr hy)), B.out.val.cc.more (fun y hy => List.mem_append.2 (.inl hy)), B.out.val.vs.more (fun y hy => List.mem_append.2 (.inl hy)), B.out.val.bs.more (fun y hy => List.mem_append.2 (.inl hy))⟩ (B.out.new.app HV.out.2.1 HV.out.2.2)⟩)
  obtain ⟨s6, hs6⟩ : ∃ s, f6 h s5 = s := ⟨_, rfl⟩
  rw [hs6] at hcut
  have O := Lib.hid hcut
  have HS6 := Lib.hid hs6
  clear hcut hs6
  go_upto_if 66 with fail
  go_cut [] (fun wx => pfx w wx sb p g pb (f7 h s6))
  case first =>
   obtain ⟨ev, av, cv, vv, bw, F, hA⟩ := O.out
   have A := Lib.hid hA
   have hrn := hA.val.rn
   have han := hA.val.an
   clear hA
   by_cases hb : bitA h 64 = 0
   · have hbb : (bits .and .i64 h 64 != 0) = false := by have := hb; unfold bitA at this; simp [this]
     have E := Lib.hid (show f7 h s6 = s6 by unfold f7; rw [if_pos hb])
     clear hb
     go_wp2_with fail
     go_meet
     exact (by rw [E.out]; exact ⟨ev, av, cv, vv, bw, F, A.out⟩)
   · have hbb : (bits .and .i64 h 64 != 0) = true := by have := hb; unfold bitA at this; simp [this]
     have E := Lib.hid (show f7 h s6 = _ by unfold f7; rw [if_neg hb])
     clear hb
     have c0 := (A.out.src.row.cell 0).trans (show _ = some (Value.pointer (some ⟨p, 0, none⟩)) from rfl)
     obtain ⟨X, hX⟩ : ∃ X, rpCf s6.2.1 s6.2.2 = X := ⟨_, rfl⟩
     have HX := Lib.hid (And.intro hX (fun hne : X.2.1.l ≠ [] => rpCf_left (by rw [hX]; exact hne)))
     rw [hX] at E
     clear hX
     go_wp2_with (first
       | (go_at_call 145; refine (readPartCf_any p g sb s6.2.1 s6.2.2 _ A.out.src).mono ?_; intro e u hq; rw [HX.out.1] at hq; obtain ⟨ex, G, rfl, hv, hn, hs, hk⟩ := hq; have B := Lib.hid (A.out.read hs hk HX.out.2); have hL : Hid ((cfL X.1 ex).length = 3 ∧ ∀ v ∈ cfL X.1 ex, v.oneCell' = true) := Lib.hid ⟨rfl, cfL_one _ hv.one⟩; have HV := Lib.hid (And.intro hv (And.intro hn (A.out.kp.size))); clear hv hn hs hk)
       | (refine wpList_store_mid rfl 31 (.tmp 71) (.tmp 69) rfl pb 82 (cfL X.1 ex).toArray rfl rfl (B.out.row.there (by rw [List.size_toArray, List.size_toArray, hL.out.1, pkL_len hrn han]; omega)) (by rw [List.size_toArray, hL.out.1]; exact info_cf) (all_oneCell_toArray hL.out.2) ?_))
     try simp only [Act.put]
     go_meet
     exact (by rw [E.out]; exact ⟨ev, av, ex, vv, bw, F ++ G, B.out.setL 82 _ (pkL_putC X.1 ex hrn han) ⟨B.out.val.rn, B.out.val.an, B.out.val.re.more (fun y hy => List.mem_append.2 (.inl hy)), B.out.val.ae.more (fun y hy => List.mem_append.2 (.inl hy)), HV.out.1.more (fun y hy => List.mem_append.2 (.inr hy)), B.out.val.vs.more (fun y hy => List.mem_append.2 (.inl hy)), B.out.val.bs.more (fun y hy => List.mem_append.2 (.inl hy))⟩ (B.out.new.app HV.out.2.1 HV.out.2.2)⟩)
  obtain ⟨s7, hs7⟩ : ∃ s, f7 h s6 = s := ⟨_, rfl⟩
  rw [hs7] at hcut
  have O := Lib.hid hcut
  have HS7 := Lib.hid hs7
  clear hcut hs7
  go_upto_if 74 with fail
  go_cut [] (fun wx => pfx w wx sb p g pb (f8 h s7))
  case first =>
   obtain ⟨ev, av, cv, vv, bw, F, hA⟩ := O.out
   have A := Lib.hid hA
   have hrn := hA.val.rn
   have han := hA.val.an
   clear hA
   by_cases hb : bitA h 128 = 0
   · have hbb : (bits .and .i64 h 128 != 0) = false := by have := hb; unfold bitA at this; simp [this]
     have E := Lib.hid (show f8 h s7 = s7 by unfold f8; rw [if_pos hb])
     clear hb
     go_wp2_with fail
     go_meet
     exact (by rw [E.out]; exact ⟨ev, av, cv, vv, bw, F, A.out⟩)
   · have hbb : (bits .and .i64 h 128 != 0) = true := by have := hb; unfold bitA at this; simp [this]
     have E := Lib.hid (show f8 h s7 = _ by unfold f8; rw [if_neg hb])
     clear hb
     have c0 := (A.out.src.row.cell 0).trans (show _ = some (Value.pointer (some ⟨p, 0, none⟩)) from rfl)
     obtain ⟨X, hX⟩ : ∃ X, rvAll s7.2.1 s7.2.2 = X := ⟨_, rfl⟩
     have HX := Lib.hid (And.intro hX (fun hne : X.2.1.l ≠ [] => rvAll_left (by rw [hX]; exact hne)))
     rw [hX] at E
     clear hX
     obtain ⟨A3, c3, g3, T3, rfl, _⟩ := id A.out.val.vs
     go_wp2_with (first
       | (go_at_call 146; refine (readVotes_any p g sb s7.2.1 s7.2.2 _ A.out.src).mono ?_; intro e u hq; rw [HX.out.1] at hq; obtain ⟨ex, G, rfl, hv, hn, hs, hk⟩ := hq; obtain ⟨A4, c4, g4, T4, rfl, _⟩ := id hv; have B := Lib.hid (A.out.read hs hk HX.out.2); have y := (B.out.row.pk hrn han).d3; have y2 := B.out.row.free 85; have HV := Lib.hid (And.intro hv (And.intro hn (A.out.kp.size))); clear hv hn hs hk))
     go_meet
     exact (by rw [E.out]; exact ⟨ev, av, cv, _, bw, F ++ G, B.out.set 85 _ (pkL_votes hrn han X.1 _) ⟨B.out.val.rn, B.out.val.an, B.out.val.re.more (fun y hy => List.mem_append.2 (.inl hy)), B.out.val.ae.more (fun y hy => List.mem_append.2 (.inl hy)), B.out.val.cc.more (fun y hy => List.mem_append.2 (.inl hy)), HV.out.1.more (fun y hy => List.mem_append.2 (.inr hy)), B.out.val.bs.more (fun y hy => List.mem_append.2 (.inl hy))⟩ (B.out.new.app HV.out.2.1 HV.out.2.2)⟩)
  obtain ⟨s8, hs8⟩ : ∃ s, f8 h s7 = s := ⟨_, rfl⟩
  rw [hs8] at hcut
  have O := Lib.hid hcut
  have HS8 := Lib.hid hs8
  clear hcut hs8
  go_upto_if 82 with fail
  have HE := Lib.hid (show fAll h s0 = f9 h s8 by unfold fAll; rw [HS1.out, HS2.out, HS3.out, HS4.out, HS5.out, HS6.out, HS7.out, HS8.out])
  obtain ⟨ev, av, cv, vv, bw, F, hA⟩ := O.out
  have A := Lib.hid hA
  have hrn := hA.val.rn
  have han := hA.val.an
  clear hA
  by_cases hb : bitA h 256 = 0
  · have hbb : (bits .and .i64 h 256 != 0) = false := by have := hb; unfold bitA at this; simp [this]
    have E := Lib.hid (show f9 h s8 = s8 by unfold f9; rw [if_pos hb])
    clear hb
    go_wp2_with fail
    go_end0
    exact ⟨rfl, by rw [HE.out]; exact (by rw [E.out]; exact ⟨ev, av, cv, vv, bw, F, A.out⟩)⟩
  · have hbb : (bits .and .i64 h 256 != 0) = true := by have := hb; unfold bitA at this; simp [this]
    have E := Lib.hid (show f9 h s8 = _ by unfold f9; rw [if_neg hb])
    clear hb
    have c0 := (A.out.src.row.cell 0).trans (show _ = some (Value.pointer (some ⟨p, 0, none⟩)) from rfl)
    obtain ⟨A3, c3, g3, rfl, _⟩ := id A.out.val.bs
    go_wp2_with (first
      | (go_at_call 104; refine (text_any p g s8.2.1 32768 _ A.out.src.rd (by have := A.out.src.len; omega)).mono ?_; intro e u hq; unfold textPost at hq; obtain ⟨ue, rfl, hfr, hr, hk⟩ := hq; obtain ⟨A6, c6, G, rfl, hb6, hn6⟩ := hfr.gives; have B := Lib.hid (A.out.read (A.out.src.read hr hk text_left (text_short _ _)) (hk.more (by simp)) text_left); have y := (B.out.row.pk hrn han).d4; have y2 := B.out.row.free 86; have HV := Lib.hid (And.intro hb6 (And.intro hn6 (A.out.kp.size))); clear hr hk hfr hb6 hn6))
    go_end0
    exact ⟨rfl, by rw [HE.out]; exact (by rw [E.out]; exact ⟨ev, av, cv, vv, _, F ++ G, B.out.set 86 _ (pkL_bytes hrn han _ _) ⟨B.out.val.rn, B.out.val.an, B.out.val.re.more (fun y hy => List.mem_append.2 (.inl hy)), B.out.val.ae.more (fun y hy => List.mem_append.2 (.inl hy)), B.out.val.cc.more (fun y hy => List.mem_append.2 (.inl hy)), B.out.val.vs.more (fun y hy => List.mem_append.2 (.inl hy)), HV.out.1.more (fun y hy => List.mem_append.2 (.inr hy))⟩ (B.out.new.app HV.out.2.1 HV.out.2.2)⟩)⟩
end Go.Proofs.YthfdkonhjpdflaaGreatDoor
