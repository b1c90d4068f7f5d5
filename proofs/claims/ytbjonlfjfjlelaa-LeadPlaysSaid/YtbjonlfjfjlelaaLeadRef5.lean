/-
  LEAD: the document's own leader: Propose.
-/
import Derived.Test.YtbjonlfjfjlelaaLeadRef4
namespace Go.Proofs.Ytbjonlfjfjlelaa
open Go.RowKit
set_option linter.unusedVariables false
set_option maxRecDepth 100000

def propMPost (q : Nat) (G : List Nat) (s' : LS) (c : CS) (er : Int) (w : World) (e : Ending) (w' : World) : Prop :=
  ∃ cv G' H, e = .returned (.tuple #[confV c cv, .int .i64 er]) ∧ isM w' q G' s' ∧ keepBut G w w' ∧ (∀ y ∈ G', y ∈ G ∨ w.heap.size ≤ y) ∧ held w' H cv c.chain ∧ (∀ y ∈ H, w.heap.size ≤ y ∧ y < w'.heap.size ∧ y ∉ G')
theorem isMv.reprop {w w' : World} {q : Nat} {G G8 : List Nat} {s s' : LS} {vb cv cv' : Value} {T : List (VS × Value)} {C : List Nat} {x x' : Nat} (h : isMv w q G s vb cv T C x) (hk : keepBut [q] w w')
    (hr : rowAt w' q 61 (rowM s' vb cv' x')) (hb : s'.bound = s.bound) (ha : s'.pend = true → x' = s'.acc) (hx : x' ≤ 7) (hcv : held w' G8 cv' s'.prop.chain) (hG8 : ∀ y ∈ G8, w.heap.size ≤ y ∧ y < w'.heap.size) : isMv w' q (G ++ G8) s' vb cv' T (C ++ G8) x' := by
  have hC : ∀ y ∈ C, y ∉ [q] := fun y hy hm => h.qC (by rw [← List.mem_singleton.1 hm]; exact hy)
  have hv : ∀ y ∈ homes vb, y ∉ [q] := fun y hy hm => h.own.apart h.row (by decide) (List.mem_singleton.1 hm ▸ hy)
  have hsz := hk.size
  refine ⟨hr, h.own.keep hk hv, by rw [hb]; exact h.bnd, fun t ht => ((h.chs t ht).keep hk hC).more (fun y hy => List.mem_append.2 (.inl hy)), hcv.more (fun y hy => List.mem_append.2 (.inr hy)), ha, hx, List.mem_append.2 (.inl h.qG), fun y hy => List.mem_append.2 (.inl (h.vG y hy)), fun y hy => ?_, fun hm => ?_, fun y hy hm => ?_, fun y hy => ?_⟩
  · rcases List.mem_append.1 hy with h1 | h1
    · exact List.mem_append.2 (.inl (h.cG y h1))
    · exact List.mem_append.2 (.inr h1)
  · rcases List.mem_append.1 hm with h1 | h1
    · exact h.qC h1
    · have := (hG8 _ h1).1; have := h.lt _ h.qG; omega
  · rcases List.mem_append.1 hm with h1 | h1
    · exact h.vC y hy h1
    · have := (hG8 _ h1).1; have := h.lt _ (h.vG y hy); omega
  · rcases List.mem_append.1 hy with h1 | h1
    · have := h.lt y h1; omega
    · exact (hG8 y h1).2

set_option maxHeartbeats 2000000 in
theorem proposeM_no (q : Nat) (G : List Nat) (s : LS) (c : CS) (A : Option Addr) (n m : Nat) (w : World) (h : isM w q G s) (er : Int) (her : ((s.ph ≠ 2 ∨ s.pend = true) ∧ er = 170) ∨ (s.ph = 2 ∧ s.pend = false ∧ c.num < s.frm ∧ er = 2)) :
    Calls Try.prog 69 #[.pointer (some ⟨q, 0, none⟩), .agg #[.int .i64 c.num, .int .i64 c.full, .slice A n m]] w (propMPost q G s CS.zero er w) := by
  have k0 := (keepBut.refl [] w).alloc (.cells #[.int .i64 c.num, .int .i64 c.full, .slice A n m] 55)
  have r0 := rowAt.new w 55 #[.int .i64 c.num, .int .i64 c.full, .slice A n m]
  generalize hw0 : w.alloc (.cells #[.int .i64 c.num, .int .i64 c.full, .slice A n m] 55) = w0 at *
  have k1 := (keepBut.refl [] w0).alloc (.cells #[.int .i64 0, .int .i64 0, .slice none 0 0] 55)
  have r1 := rowAt.new w0 55 #[.int .i64 0, .int .i64 0, .slice none 0 0]
  have r0' := k1.row r0 (by simp)
  have hsz : w0.heap.size = w.heap.size + 1 := by rw [← hw0]; simp
  rw [hsz] at r1
  have kk := k0.then k1 (by simp)
  have h1 := h.over kk
  have hw1 : (w.alloc (.cells #[.int .i64 c.num, .int .i64 c.full, .slice A n m] 55)).alloc (.cells #[.int .i64 0, .int .i64 0, .slice none 0 0] 55) = w0.alloc (.cells #[.int .i64 0, .int .i64 0, .slice none 0 0] 55) := by rw [hw0]
  generalize w0.alloc (.cells #[.int .i64 0, .int .i64 0, .slice none 0 0] 55) = w1 at *
  have HW1 := Lib.hid hw1
  have c2 : w1.cell? ⟨q, 2, none⟩ = some (.int .i64 s.frm) := h1.c2
  have c3 : w1.cell? ⟨q, 3, none⟩ = some (.int .i64 s.ph) := h1.c3.1
  have c8 : w1.cell? ⟨q, 8, none⟩ = some (.bool s.pend) := h1.c8.1
  have b0 : w1.cell? ⟨w.heap.size, 0, none⟩ = some (.int .i64 c.num) := r0'.cell 0
  have z0 : w1.cell? ⟨w.heap.size + 1, 0, none⟩ = some (.int .i64 0) := r1.cell 0
  have z1 : w1.cell? ⟨w.heap.size + 1, 1, none⟩ = some (.int .i64 0) := r1.cell 1
  have z2 : w1.cell? ⟨w.heap.size + 1, 2, none⟩ = some (.slice none 0 0) := r1.cell 2
  have zf0 := r1.free 0
  have zf1 := r1.free 1
  have zf2 := r1.free 2
  have hlt1 := r1.lt
  have HH := Lib.hid (And.intro h1 (And.intro kk (And.intro hlt1 (And.intro h.lt h.mem))))
  clear h h1 kk k0 k1 r0 r1 r0' hw0 hw1 hsz hlt1
  have hend2 : ∀ k, propMPost q G s CS.zero er w (.returned (.tuple #[.agg #[.int .i64 0, .int .i64 0, .slice none 0 0], .int .i64 er])) ((((w1.drewN k).setCell ⟨w.heap.size + 1, 0, none⟩ (.int .i64 0)).setCell ⟨w.heap.size + 1, 1, none⟩ (.int .i64 0)).setCell ⟨w.heap.size + 1, 2, none⟩ (.slice none 0 0)) := by
    intro k
    have k3 := ((((keepBut.refl [w.heap.size + 1] w1).drewN k).setCell ⟨w.heap.size + 1, 0, none⟩ (.int .i64 0) (by simp)).setCell ⟨w.heap.size + 1, 1, none⟩ (.int .i64 0) (by simp)).setCell ⟨w.heap.size + 1, 2, none⟩ (.slice none 0 0) (by simp)
    exact ⟨.slice none 0 0, G, [], rfl, HH.out.1.keep k3 (fun y hy hm => by have := HH.out.2.2.2.1 y hy; have := List.mem_singleton.1 hm; omega), (HH.out.2.1.then k3 (by simp)).more (by simp), fun y hy => .inl hy, held.nil _ _, by simp⟩
  have HE2 := Lib.hid hend2
  clear hend2
  have hcs : (s.ph ≠ 2 ∧ er = 170) ∨ (s.ph = 2 ∧ s.pend = true ∧ er = 170) ∨ (s.ph = 2 ∧ s.pend = false ∧ c.num < s.frm ∧ er = 2) := by
    by_cases h1 : s.ph = 2
    · cases h2 : s.pend with
      | true => rcases her with ⟨_, e⟩ | ⟨_, e, _⟩; exact .inr (.inl ⟨h1, rfl, e⟩); rw [h2] at e; cases e
      | false => rcases her with ⟨e, _⟩ | ⟨_, _, e, e2⟩; (rcases e with e | e; exact absurd h1 e; rw [h2] at e; cases e); exact .inr (.inr ⟨h1, rfl, e, e2⟩)
    · rcases her with ⟨_, e⟩ | ⟨e, _⟩; exact .inl ⟨h1, e⟩; exact absurd e h1
  clear her
  rcases hcs with ⟨a1, rfl⟩ | ⟨a1, a2, rfl⟩ | ⟨a1, a2, a3, rfl⟩
  · have t1 : (s.ph == 2) = false := by simpa using a1
    have t2 : (s.ph != 2) = true := by simpa using a1
    clear a1
    go_enter Try.func69, Try.ntmps69
    go_upto_region 1 with fail
    rw [HW1.out]
    go_wp2
    refine bodyPost_ret (v := .tuple #[.agg #[.int .i64 0, .int .i64 0, .slice none 0 0], .int .i64 170]) (by simp [results, Try.results69, go_sem, *]) rfl ?_
    exact HE2.out 0
  · rw [a1] at c3
    rw [a2] at c8
    clear a1 a2
    go_enter Try.func69, Try.ntmps69
    go_upto_region 1 with fail
    rw [HW1.out]
    go_wp2
    refine bodyPost_ret (v := .tuple #[.agg #[.int .i64 0, .int .i64 0, .slice none 0 0], .int .i64 170]) (by simp [results, Try.results69, go_sem, *]) rfl ?_
    exact HE2.out 0
  · rw [a1] at c3
    rw [a2] at c8
    clear a1 a2
    go_enter Try.func69, Try.ntmps69
    go_upto_region 1 with fail
    rw [HW1.out]
    go_wp2_with fail
    go_quiet (fail)
    go_wp2
    refine bodyPost_ret (v := .tuple #[.agg #[.int .i64 0, .int .i64 0, .slice none 0 0], .int .i64 2]) (by simp [results, Try.results69, go_sem, *]) rfl ?_
    exact HE2.out _

/-- the box of the argument holds x; nothing else has changed -/
def propMid (w : World) (q : Nat) (G Gc : List Nat) (s : LS) (x : CS) (wx : World) : Prop :=
  ∃ (A : Option Addr) (n : Nat) (H : List Nat), held wx H (.slice A x.chain.length n) x.chain ∧ rowAt wx w.heap.size 55 #[.int .i64 x.num, .int .i64 x.full, .slice A x.chain.length n] ∧ isM wx q G s ∧ keepBut [] w wx ∧
    rowAt wx (w.heap.size + 1) 55 #[.int .i64 0, .int .i64 0, .slice none 0 0] ∧ q ∉ H ∧ w.heap.size + 1 ∉ H

set_option maxHeartbeats 4000000 in
theorem proposeM_yes (q : Nat) (G Gc : List Nat) (s : LS) (c : CS) (cv : Value) (w : World) (h : isM w q G s) (hc : held w Gc cv c.chain) (hGc : ∀ y ∈ Gc, y ∉ G ∧ y < w.heap.size) (a1 : s.ph = 2) (a2 : s.pend = false) (a3 : s.frm ≤ c.num) (a4 : s.acc = 0) (hT : s.bound.length ≤ 100000) :
    Calls Try.prog 69 #[.pointer (some ⟨q, 0, none⟩), .agg #[.int .i64 c.num, .int .i64 c.full, cv]] w (propMPost q G (s.propose c).2.2 (s.propose c).2.1 0 w) := by
  have HS := Lib.hid (show s.propose c = (0, s.propOf c, { s with pend := true, prop := s.propOf c }) by
    unfold LS.propose
    rw [if_neg (by simp [a1, a2]), if_neg (by omega)])
  have hc0 := hc
  obtain ⟨A, n, gc, rfl, hcr⟩ := hc0
  have k0 := (keepBut.refl [] w).alloc (.cells #[.int .i64 c.num, .int .i64 c.full, .slice A c.chain.length n] 55)
  have r0 := rowAt.new w 55 #[.int .i64 c.num, .int .i64 c.full, .slice A c.chain.length n]
  generalize hw0 : w.alloc (.cells #[.int .i64 c.num, .int .i64 c.full, .slice A c.chain.length n] 55) = w0 at *
  have k1 := (keepBut.refl [] w0).alloc (.cells #[.int .i64 0, .int .i64 0, .slice none 0 0] 55)
  have r1 := rowAt.new w0 55 #[.int .i64 0, .int .i64 0, .slice none 0 0]
  have r0' := k1.row r0 (by simp)
  have hsz : w0.heap.size = w.heap.size + 1 := by rw [← hw0]; simp
  rw [hsz] at r1
  have kk := k0.then k1 (by simp)
  have h1 := h.over kk
  have hc1 := hc.keep kk (by simp)
  have hw1 : (w.alloc (.cells #[.int .i64 c.num, .int .i64 c.full, .slice A c.chain.length n] 55)).alloc (.cells #[.int .i64 0, .int .i64 0, .slice none 0 0] 55) = w0.alloc (.cells #[.int .i64 0, .int .i64 0, .slice none 0 0] 55) := by rw [hw0]
  generalize w0.alloc (.cells #[.int .i64 0, .int .i64 0, .slice none 0 0] 55) = w1 at *
  have HW1 := Lib.hid hw1
  have c2 : w1.cell? ⟨q, 2, none⟩ = some (.int .i64 s.frm) := h1.c2
  have c3 : w1.cell? ⟨q, 3, none⟩ = some (.int .i64 s.ph) := h1.c3.1
  have c8 : w1.cell? ⟨q, 8, none⟩ = some (.bool s.pend) := h1.c8.1
  have b0 : w1.cell? ⟨w.heap.size, 0, none⟩ = some (.int .i64 c.num) := r0'.cell 0
  rw [a1] at c3
  rw [a2] at c8
  have hql := h.lt q h.mem
  have HX := Lib.hid (And.intro h1 (And.intro kk (And.intro r0' (And.intro r1 hc1))))
  have HG := Lib.hid (And.intro hGc (And.intro h.lt (And.intro h.mem (And.intro a4 hT))))
  have t3 : ¬ c.num < s.frm := by omega
  clear h h1 kk k0 k1 r0 r1 r0' hc1 hw0 hw1 hsz hc hcr hGc a1 a2 a3 a4 hT
  go_enter Try.func69, Try.ntmps69
  go_upto_region 1 with fail
  rw [HW1.out]
  go_wp2_with fail
  go_quiet (fail)
  have kq := (keepBut.refl [] w1).drewN nq
  have h2 := HX.out.1.over kq
  have r02 := kq.row HX.out.2.2.1 (by simp)
  have r12 := kq.row HX.out.2.2.2.1 (by simp)
  have hc2 := HX.out.2.2.2.2.keep kq (by simp)
  have kw := HX.out.2.1.then kq (by simp)
  clear c2 c3 c8 b0 HX HW1
  generalize w1.drewN nq = w2 at *
  have b0 : w2.cell? ⟨w.heap.size, 0, none⟩ = some (.int .i64 c.num) := r02.cell 0
  have H2 := Lib.hid (And.intro h2 (And.intro kw (And.intro r02 (And.intro r12 hc2))))
  clear kq h2 r02 r12 hc2 kw
  have hcs : (s.boundOf c.num = (CS.zero, false) ∧ s.propOf c = c) ∨ ∃ d, s.boundOf c.num = (d, true) ∧ s.propOf c = d := by
    unfold LS.boundOf LS.propOf
    cases findV s.bound c.num with
    | none => exact .inl ⟨rfl, rfl⟩
    | some d => exact .inr ⟨d.c, rfl, rfl⟩
  rcases hcs with ⟨e1, e2⟩ | ⟨d, e1, e2⟩
  · have HE := Lib.hid (And.intro e1 e2)
    clear e1 e2
    go_wp2_with fail
    refine (boundM_any q G s c.num _ H2.out.1 (by have := HG.out.2.2.2.2; omega)).mono ?_; intro e w5 hq
    rw [HE.out.1] at hq
    obtain ⟨cv5, rfl, G5, ⟨A5, c5, g5, rfl, -⟩, hG5, hk5⟩ := hq
    unfold confV
    clear b0
    go_upto_region 8 with fail
    have ka := (keepBut.refl [] w5).alloc (.cells #[.int .i64 CS.zero.num, .int .i64 CS.zero.full, .slice A5 CS.zero.chain.length c5] 55)
    have kb := hk5.then ka (by simp)
    have HM : Hid (propMid w q G Gc s (s.propOf c) (w5.alloc (.cells #[.int .i64 CS.zero.num, .int .i64 CS.zero.full, .slice A5 CS.zero.chain.length c5] 55))) := Lib.hid (by
      rw [HE.out.2]
      exact ⟨A, n, Gc, H2.out.2.2.2.2.keep kb (by simp), kb.row H2.out.2.2.1 (by simp), H2.out.1.over kb, H2.out.2.1.then kb (by simp), kb.row H2.out.2.2.2.1 (by simp), fun hm => (HG.out.1 _ hm).1 HG.out.2.2.1, fun hm => by have := (HG.out.1 _ hm).2; omega⟩)
    clear ka kb hk5 hG5
    generalize w5.alloc (.cells #[.int .i64 CS.zero.num, .int .i64 CS.zero.full, .slice A5 CS.zero.chain.length c5] 55) = w7 at *
    obtain ⟨X, hX⟩ : ∃ X, s.propOf c = X := ⟨_, rfl⟩
    rw [hX] at HM HS
    clear HE hX
    obtain ⟨A6, n6, H6, hh, hbx, hm, kw, hz, nq1, nq2⟩ := HM.out
    obtain ⟨vb, lcv, T, C, x, hm⟩ := hm
    have c8 : w7.cell? ⟨q, 8, none⟩ = some (.bool s.pend) := hm.row.cell 8
    have f8 := hm.row.free 8
    have k8 := (keepBut.refl [q] w7).setCell ⟨q, 8, none⟩ (.bool true) (by simp)
    have r8 := hm.row.set 8 (.bool true)
    have hne : w.heap.size ∉ [q] := fun hm => by have := List.mem_singleton.1 hm; omega
    have hne1 : w.heap.size + 1 ∉ [q] := fun hm => by have := List.mem_singleton.1 hm; omega
    have b8 := k8.row hbx hne
    have z8 := k8.row hz hne1
    have h8 := hh.keep k8 (fun y hy hm => nq1 (List.mem_singleton.1 hm ▸ hy))
    have H8 := Lib.hid (And.intro hm (And.intro k8 (And.intro r8 (And.intro b8 (And.intro z8 (And.intro h8 (And.intro kw nq2)))))))
    have HQ := Lib.hid nq1
    clear hm k8 r8 hne hne1 b8 z8 h8 kw hz hbx hh nq1 nq2
    go_upto_region 9 with fail
    clear c8 f8
    generalize w7.setCell ⟨q, 8, none⟩ (.bool true) = w8 at *
    have b0 : w8.cell? ⟨w.heap.size, 0, none⟩ = some (.int .i64 X.num) := H8.out.2.2.2.1.cell 0
    have b1 : w8.cell? ⟨w.heap.size, 1, none⟩ = some (.int .i64 X.full) := H8.out.2.2.2.1.cell 1
    have b2 : w8.cell? ⟨w.heap.size, 2, none⟩ = some (.slice A6 X.chain.length n6) := H8.out.2.2.2.1.cell 2
    have HCP := Lib.hid (copyConf_any H6 X (.slice A6 X.chain.length n6) w8 H8.out.2.2.2.2.2.1)
    unfold confV at HCP
    go_wp2_with fail
    refine HCP.out.mono ?_; rintro e w9 ⟨ccv, rfl, G9, ⟨A9, c9, g9, rfl, i92, i93, i94, i95, i96⟩, hG9, hk9⟩
    have r9 := hk9.row H8.out.2.2.1 (by simp)
    have bx9 := hk9.row H8.out.2.2.2.1 (by simp)
    obtain ⟨A7, n7, g7, hl7, -⟩ := id H8.out.1.pc
    have d9 : w9.cell? ⟨q, 9, none⟩ = some (.int .i64 s.prop.num) := r9.cell 9
    have d10 : w9.cell? ⟨q, 10, none⟩ = some (.int .i64 s.prop.full) := r9.cell 10
    have d11 : w9.cell? ⟨q, 11, none⟩ = some lcv := r9.cell 11
    rw [hl7] at d11
    have d12 : w9.cell? ⟨q, 12, none⟩ = some (.bool (bitB x 0)) := r9.cell 12
    have d13 : w9.cell? ⟨q, 13, none⟩ = some (.bool (bitB x 1)) := r9.cell 13
    have d14 : w9.cell? ⟨q, 14, none⟩ = some (.bool (bitB x 2)) := r9.cell 14
    have f9 := r9.free 9
    have f10 := r9.free 10
    have f11 := r9.free 11
    have f12 := r9.free 12
    have f13 := r9.free 13
    have f14 := r9.free 14
    have r10 := (((((r9.set 9 (.int .i64 X.num)).set 10 (.int .i64 X.full)).set 11 (.slice A9 X.chain.length c9)).set 12 (.bool false)).set 13 (.bool false)).set 14 (.bool false)
    have k10 := ((((((keepBut.refl [q] w9).setCell ⟨q, 9, none⟩ (.int .i64 X.num) (by simp)).setCell ⟨q, 10, none⟩ (.int .i64 X.full) (by simp)).setCell ⟨q, 11, none⟩ (.slice A9 X.chain.length c9) (by simp)).setCell ⟨q, 12, none⟩ (.bool false) (by simp)).setCell ⟨q, 13, none⟩ (.bool false) (by simp)).setCell ⟨q, 14, none⟩ (.bool false) (by simp)
    have hh9 : held w9 G9 (.slice A9 X.chain.length c9) X.chain := ⟨A9, c9, g9, rfl, i92, i93, i94, i95, i96⟩
    have H9 := Lib.hid (And.intro r10 (And.intro k10 (And.intro hh9 (And.intro hG9 hk9))))
    clear r9 bx9 r10 k10 hh9 hG9 hk9 i92 i93 i94 i95 i96 b0 b1 b2 HCP hl7
    unfold confV
    go_upto_region 11 with fail
    clear d9 d10 d11 d12 d13 d14 f9 f10 f11 f12 f13 f14
    generalize (((((w9.setCell ⟨q, 9, none⟩ (.int .i64 X.num)).setCell ⟨q, 10, none⟩ (.int .i64 X.full)).setCell ⟨q, 11, none⟩ (.slice A9 X.chain.length c9)).setCell ⟨q, 12, none⟩ (.bool false)).setCell ⟨q, 13, none⟩ (.bool false)).setCell ⟨q, 14, none⟩ (.bool false) = w10 at *
    obtain ⟨r10, k10, hh9, hG9, hk9⟩ := H9.out
    obtain ⟨hm, k8, r8, b8, z8, h8, kw, nq2⟩ := H8.out
    have hs8 := k8.size
    have hs10 := k10.size
    have hw7 := kw.size
    have hzl := z8.lt
    have hqb : w.heap.size ∉ [q] := fun hm => by have := List.mem_singleton.1 hm; omega
    have hqz : w.heap.size + 1 ∉ [q] := fun hm => by have := List.mem_singleton.1 hm; omega
    have b10 := k10.row (hk9.row b8 (by simp)) hqb
    have z10 := k10.row (hk9.row z8 (by simp)) hqz
    have h10 : held w10 G9 (.slice A9 X.chain.length c9) X.chain := hh9.keep k10 (fun y hy hm => by have := List.mem_singleton.1 hm; have := (hG9 y hy).1; omega)
    have km : keepBut [q] w7 w10 := (k8.then hk9 (by simp)).then k10 (by simp)
    have hm10 : isMv w10 q (G ++ G9) { s with pend := true, prop := X } vb (.slice A9 X.chain.length c9) T (C ++ G9) 0 := hm.reprop km (by simpa [rowM, bitB] using r10) rfl (fun _ => HG.out.2.2.2.1.symm) (by omega) h10 (fun y hy => ⟨by have := (hG9 y hy).1; omega, by have := (hG9 y hy).2; omega⟩)
    have H10 := Lib.hid (And.intro hm10 (And.intro b10 (And.intro z10 (And.intro h10 (And.intro km (And.intro kw hG9))))))
    have b0 : w10.cell? ⟨w.heap.size, 0, none⟩ = some (.int .i64 X.num) := b10.cell 0
    have b1 : w10.cell? ⟨w.heap.size, 1, none⟩ = some (.int .i64 X.full) := b10.cell 1
    have b2 : w10.cell? ⟨w.heap.size, 2, none⟩ = some (.slice A6 X.chain.length n6) := b10.cell 2
    have hh6 : held w10 H6 (.slice A6 X.chain.length n6) X.chain := (h8.keep hk9 (by simp)).keep k10 (fun y hy hm => by
      have := List.mem_singleton.1 hm
      exact HQ.out (this ▸ hy))
    have HCP := Lib.hid (copyConf_any H6 X (.slice A6 X.chain.length n6) w10 hh6)
    unfold confV at HCP
    clear r10 k10 hh9 hG9 hk9 hm k8 r8 b8 z8 h8 kw nq2 hqb hqz b10 z10 h10 km hm10 hh6 hs8 hs10
    go_wp2_with fail
    refine HCP.out.mono ?_; rintro e w11 ⟨ccv, rfl, G11, ⟨A11, c11, g11, rfl, i112, i113, i114, i115, i116⟩, hG11, hk11⟩
    have r11 := hk11.row H10.out.2.2.1 (by simp)
    have z0 : w11.cell? ⟨w.heap.size + 1, 0, none⟩ = some (.int .i64 0) := r11.cell 0
    have z1 : w11.cell? ⟨w.heap.size + 1, 1, none⟩ = some (.int .i64 0) := r11.cell 1
    have z2 : w11.cell? ⟨w.heap.size + 1, 2, none⟩ = some (.slice none 0 0) := r11.cell 2
    have zf0 := r11.free 0
    have zf1 := r11.free 1
    have zf2 := r11.free 2
    have hh11 : held w11 G11 (.slice A11 X.chain.length c11) X.chain := ⟨A11, c11, g11, rfl, i112, i113, i114, i115, i116⟩
    have H11 := Lib.hid (And.intro hh11 (And.intro hG11 hk11))
    clear r11 hh11 hG11 hk11 i112 i113 i114 i115 i116 b0 b1 b2 HCP
    unfold confV
    go_wp2
    refine bodyPost_ret (v := .tuple #[.agg #[.int .i64 X.num, .int .i64 X.full, .slice A11 X.chain.length c11], .int .i64 0]) (by simp [results, Try.results69, go_sem, *]) rfl ?_
    rw [HS.out]
    have k12 := (((keepBut.refl [w.heap.size + 1] w11).setCell ⟨w.heap.size + 1, 0, none⟩ (.int .i64 X.num) (by simp)).setCell ⟨w.heap.size + 1, 1, none⟩ (.int .i64 X.full) (by simp)).setCell ⟨w.heap.size + 1, 2, none⟩ (.slice A11 X.chain.length c11) (by simp)
    obtain ⟨hm10, b10, z10, h10, km, kw, hG9⟩ := H10.out
    obtain ⟨hh11, hG11, hk11⟩ := H11.out
    have hs11 := hk11.size
    have hs12 := k12.size
    have hzl10 := z10.lt
    have hw10 := km.size
    have hfin : isM _ q (G ++ G9) { s with pend := true, prop := X } := (isM.over ⟨_, _, _, _, _, hm10⟩ hk11).keep k12 (fun y hy hm => by
      have e := List.mem_singleton.1 hm
      rcases List.mem_append.1 hy with h1 | h1
      · have := HG.out.2.1 y h1; omega
      · have := (hG9 y h1).1; omega)
    refine ⟨_, G ++ G9, G11, rfl, hfin, (((kw.more (T := G) (by simp)).then km (fun y hy => .inl (by rw [List.mem_singleton.1 hy]; exact HG.out.2.2.1))).then hk11 (by simp)).then k12 (fun y hy => .inr (by rw [List.mem_singleton.1 hy]; omega)), fun y hy => ?_, hh11.keep k12 (fun y hy hm => by have := List.mem_singleton.1 hm; have := (hG11 y hy).1; omega), fun y hy => ⟨by have := (hG11 y hy).1; omega, by have := (hG11 y hy).2; omega, fun hm => ?_⟩⟩
    · rcases List.mem_append.1 hy with h1 | h1
      · exact .inl h1
      · exact .inr (by have := (hG9 y h1).1; omega)
    · have h0 := (hG11 y hy).1
      rcases List.mem_append.1 hm with h1 | h1
      · have := HG.out.2.1 y h1; omega
      · have := hm10.lt y (List.mem_append.2 (.inr h1)); omega
  · have HE := Lib.hid (And.intro e1 e2)
    clear e1 e2
    go_wp2_with fail
    refine (boundM_any q G s c.num _ H2.out.1 (by have := HG.out.2.2.2.2; omega)).mono ?_; intro e w5 hq
    rw [HE.out.1] at hq
    obtain ⟨cv5, rfl, G5, ⟨A5, c5, g5, rfl, i52, i53, i54, i55, i56⟩, hG5, hk5⟩ := hq
    have ka := (keepBut.refl [] w5).alloc (.cells #[.int .i64 d.num, .int .i64 d.full, .slice A5 d.chain.length c5] 55)
    have hr5 := ka.row (hk5.row H2.out.2.2.1 (by simp)) (by simp)
    have hf0 := hr5.free 0
    have hf1 := hr5.free 1
    have hf2 := hr5.free 2
    have hv0 := hr5.cell 0
    have hv1 := hr5.cell 1
    have hv2 := hr5.cell 2
    unfold confV
    clear b0
    go_upto_region 8 with fail
    have hkk := hk5.then ka (by simp)
    have kb := (((keepBut.refl [w.heap.size] (w5.alloc (.cells #[.int .i64 d.num, .int .i64 d.full, .slice A5 d.chain.length c5] 55))).setCell ⟨w.heap.size, 0, none⟩ (.int .i64 d.num) (by simp)).setCell ⟨w.heap.size, 1, none⟩ (.int .i64 d.full) (by simp)).setCell ⟨w.heap.size, 2, none⟩ (.slice A5 d.chain.length c5) (by simp)
    have hs12 := H2.out.2.2.2.1.lt
    have HM : Hid (propMid w q G Gc s (s.propOf c) ((((w5.alloc (.cells #[.int .i64 d.num, .int .i64 d.full, .slice A5 d.chain.length c5] 55)).setCell ⟨w.heap.size, 0, none⟩ (.int .i64 d.num)).setCell ⟨w.heap.size, 1, none⟩ (.int .i64 d.full)).setCell ⟨w.heap.size, 2, none⟩ (.slice A5 d.chain.length c5))) := Lib.hid (by
      rw [HE.out.2]
      have hh : held w5 G5 (.slice A5 d.chain.length c5) d.chain := ⟨A5, c5, g5, rfl, i52, i53, i54, i55, i56⟩
      refine ⟨A5, c5, G5, (hh.keep ka (by simp)).keep kb (fun y hy hm => ?_), by simpa using ((hr5.set 0 (.int .i64 d.num)).set 1 (.int .i64 d.full)).set 2 (.slice A5 d.chain.length c5), (H2.out.1.over hkk).keep kb (fun y hy hm => ?_), (H2.out.2.1.then hkk (by simp)).then kb (by simp), kb.row (hkk.row H2.out.2.2.2.1 (by simp)) (by simp), fun hm => ?_, fun hm => ?_⟩
      · have := (hG5 y hy).1; have := List.mem_singleton.1 hm; omega
      · have := HG.out.2.1 y hy; have := List.mem_singleton.1 hm; omega
      · have := (hG5 _ hm).1; omega
      · have := (hG5 _ hm).1; omega)
    clear ka kb hkk hk5 hG5 hr5 hf0 hf1 hf2 hv0 hv1 hv2 i52 i53 i54 i55 i56 hs12
    generalize (((w5.alloc (.cells #[.int .i64 d.num, .int .i64 d.full, .slice A5 d.chain.length c5] 55)).setCell ⟨w.heap.size, 0, none⟩ (.int .i64 d.num)).setCell ⟨w.heap.size, 1, none⟩ (.int .i64 d.full)).setCell ⟨w.heap.size, 2, none⟩ (.slice A5 d.chain.length c5) = w7 at *
    obtain ⟨X, hX⟩ : ∃ X, s.propOf c = X := ⟨_, rfl⟩
    rw [hX] at HM HS
    clear HE hX
    obtain ⟨A6, n6, H6, hh, hbx, hm, kw, hz, nq1, nq2⟩ := HM.out
    obtain ⟨vb, lcv, T, C, x, hm⟩ := hm
    have c8 : w7.cell? ⟨q, 8, none⟩ = some (.bool s.pend) := hm.row.cell 8
    have f8 := hm.row.free 8
    have k8 := (keepBut.refl [q] w7).setCell ⟨q, 8, none⟩ (.bool true) (by simp)
    have r8 := hm.row.set 8 (.bool true)
    have hne : w.heap.size ∉ [q] := fun hm => by have := List.mem_singleton.1 hm; omega
    have hne1 : w.heap.size + 1 ∉ [q] := fun hm => by have := List.mem_singleton.1 hm; omega
    have b8 := k8.row hbx hne
    have z8 := k8.row hz hne1
    have h8 := hh.keep k8 (fun y hy hm => nq1 (List.mem_singleton.1 hm ▸ hy))
    have H8 := Lib.hid (And.intro hm (And.intro k8 (And.intro r8 (And.intro b8 (And.intro z8 (And.intro h8 (And.intro kw nq2)))))))
    have HQ := Lib.hid nq1
    clear hm k8 r8 hne hne1 b8 z8 h8 kw hz hbx hh nq1 nq2
    go_upto_region 9 with fail
    clear c8 f8
    generalize w7.setCell ⟨q, 8, none⟩ (.bool true) = w8 at *
    have b0 : w8.cell? ⟨w.heap.size, 0, none⟩ = some (.int .i64 X.num) := H8.out.2.2.2.1.cell 0
    have b1 : w8.cell? ⟨w.heap.size, 1, none⟩ = some (.int .i64 X.full) := H8.out.2.2.2.1.cell 1
    have b2 : w8.cell? ⟨w.heap.size, 2, none⟩ = some (.slice A6 X.chain.length n6) := H8.out.2.2.2.1.cell 2
    have HCP := Lib.hid (copyConf_any H6 X (.slice A6 X.chain.length n6) w8 H8.out.2.2.2.2.2.1)
    unfold confV at HCP
    go_wp2_with fail
    refine HCP.out.mono ?_; rintro e w9 ⟨ccv, rfl, G9, ⟨A9, c9, g9, rfl, i92, i93, i94, i95, i96⟩, hG9, hk9⟩
    have r9 := hk9.row H8.out.2.2.1 (by simp)
    have bx9 := hk9.row H8.out.2.2.2.1 (by simp)
    obtain ⟨A7, n7, g7, hl7, -⟩ := id H8.out.1.pc
    have d9 : w9.cell? ⟨q, 9, none⟩ = some (.int .i64 s.prop.num) := r9.cell 9
    have d10 : w9.cell? ⟨q, 10, none⟩ = some (.int .i64 s.prop.full) := r9.cell 10
    have d11 : w9.cell? ⟨q, 11, none⟩ = some lcv := r9.cell 11
    rw [hl7] at d11
    have d12 : w9.cell? ⟨q, 12, none⟩ = some (.bool (bitB x 0)) := r9.cell 12
    have d13 : w9.cell? ⟨q, 13, none⟩ = some (.bool (bitB x 1)) := r9.cell 13
    have d14 : w9.cell? ⟨q, 14, none⟩ = some (.bool (bitB x 2)) := r9.cell 14
    have f9 := r9.free 9
    have f10 := r9.free 10
    have f11 := r9.free 11
    have f12 := r9.free 12
    have f13 := r9.free 13
    have f14 := r9.free 14
    have r10 := (((((r9.set 9 (.int .i64 X.num)).set 10 (.int .i64 X.full)).set 11 (.slice A9 X.chain.length c9)).set 12 (.bool false)).set 13 (.bool false)).set 14 (.bool false)
    have k10 := ((((((keepBut.refl [q] w9).setCell ⟨q, 9, none⟩ (.int .i64 X.num) (by simp)).setCell ⟨q, 10, none⟩ (.int .i64 X.full) (by simp)).setCell ⟨q, 11, none⟩ (.slice A9 X.chain.length c9) (by simp)).setCell ⟨q, 12, none⟩ (.bool false) (by simp)).setCell ⟨q, 13, none⟩ (.bool false) (by simp)).setCell ⟨q, 14, none⟩ (.bool false) (by simp)
    have hh9 : held w9 G9 (.slice A9 X.chain.length c9) X.chain := ⟨A9, c9, g9, rfl, i92, i93, i94, i95, i96⟩
    have H9 := Lib.hid (And.intro r10 (And.intro k10 (And.intro hh9 (And.intro hG9 hk9))))
    clear r9 bx9 r10 k10 hh9 hG9 hk9 i92 i93 i94 i95 i96 b0 b1 b2 HCP hl7
    unfold confV
    go_upto_region 11 with fail
    clear d9 d10 d11 d12 d13 d14 f9 f10 f11 f12 f13 f14
    generalize (((((w9.setCell ⟨q, 9, none⟩ (.int .i64 X.num)).setCell ⟨q, 10, none⟩ (.int .i64 X.full)).setCell ⟨q, 11, none⟩ (.slice A9 X.chain.length c9)).setCell ⟨q, 12, none⟩ (.bool false)).setCell ⟨q, 13, none⟩ (.bool false)).setCell ⟨q, 14, none⟩ (.bool false) = w10 at *
    obtain ⟨r10, k10, hh9, hG9, hk9⟩ := H9.out
    obtain ⟨hm, k8, r8, b8, z8, h8, kw, nq2⟩ := H8.out
    have hs8 := k8.size
    have hs10 := k10.size
    have hw7 := kw.size
    have hzl := z8.lt
    have hqb : w.heap.size ∉ [q] := fun hm => by have := List.mem_singleton.1 hm; omega
    have hqz : w.heap.size + 1 ∉ [q] := fun hm => by have := List.mem_singleton.1 hm; omega
    have b10 := k10.row (hk9.row b8 (by simp)) hqb
    have z10 := k10.row (hk9.row z8 (by simp)) hqz
    have h10 : held w10 G9 (.slice A9 X.chain.length c9) X.chain := hh9.keep k10 (fun y hy hm => by have := List.mem_singleton.1 hm; have := (hG9 y hy).1; omega)
    have km : keepBut [q] w7 w10 := (k8.then hk9 (by simp)).then k10 (by simp)
    have hm10 : isMv w10 q (G ++ G9) { s with pend := true, prop := X } vb (.slice A9 X.chain.length c9) T (C ++ G9) 0 := hm.reprop km (by simpa [rowM, bitB] using r10) rfl (fun _ => HG.out.2.2.2.1.symm) (by omega) h10 (fun y hy => ⟨by have := (hG9 y hy).1; omega, by have := (hG9 y hy).2; omega⟩)
    have H10 := Lib.hid (And.intro hm10 (And.intro b10 (And.intro z10 (And.intro h10 (And.intro km (And.intro kw hG9))))))
    have b0 : w10.cell? ⟨w.heap.size, 0, none⟩ = some (.int .i64 X.num) := b10.cell 0
    have b1 : w10.cell? ⟨w.heap.size, 1, none⟩ = some (.int .i64 X.full) := b10.cell 1
    have b2 : w10.cell? ⟨w.heap.size, 2, none⟩ = some (.slice A6 X.chain.length n6) := b10.cell 2
    have hh6 : held w10 H6 (.slice A6 X.chain.length n6) X.chain := (h8.keep hk9 (by simp)).keep k10 (fun y hy hm => by
      have := List.mem_singleton.1 hm
      exact HQ.out (this ▸ hy))
    have HCP := Lib.hid (copyConf_any H6 X (.slice A6 X.chain.length n6) w10 hh6)
    unfold confV at HCP
    clear r10 k10 hh9 hG9 hk9 hm k8 r8 b8 z8 h8 kw nq2 hqb hqz b10 z10 h10 km hm10 hh6 hs8 hs10
    go_wp2_with fail
    refine HCP.out.mono ?_; rintro e w11 ⟨ccv, rfl, G11, ⟨A11, c11, g11, rfl, i112, i113, i114, i115, i116⟩, hG11, hk11⟩
    have r11 := hk11.row H10.out.2.2.1 (by simp)
    have z0 : w11.cell? ⟨w.heap.size + 1, 0, none⟩ = some (.int .i64 0) := r11.cell 0
    have z1 : w11.cell? ⟨w.heap.size + 1, 1, none⟩ = some (.int .i64 0) := r11.cell 1
    have z2 : w11.cell? ⟨w.heap.size + 1, 2, none⟩ = some (.slice none 0 0) := r11.cell 2
    have zf0 := r11.free 0
    have zf1 := r11.free 1
    have zf2 := r11.free 2
    have hh11 : held w11 G11 (.slice A11 X.chain.length c11) X.chain := ⟨A11, c11, g11, rfl, i112, i113, i114, i115, i116⟩
    have H11 := Lib.hid (And.intro hh11 (And.intro hG11 hk11))
    clear r11 hh11 hG11 hk11 i112 i113 i114 i115 i116 b0 b1 b2 HCP
    unfold confV
    go_wp2
    refine bodyPost_ret (v := .tuple #[.agg #[.int .i64 X.num, .int .i64 X.full, .slice A11 X.chain.length c11], .int .i64 0]) (by simp [results, Try.results69, go_sem, *]) rfl ?_
    rw [HS.out]
    have k12 := (((keepBut.refl [w.heap.size + 1] w11).setCell ⟨w.heap.size + 1, 0, none⟩ (.int .i64 X.num) (by simp)).setCell ⟨w.heap.size + 1, 1, none⟩ (.int .i64 X.full) (by simp)).setCell ⟨w.heap.size + 1, 2, none⟩ (.slice A11 X.chain.length c11) (by simp)
    obtain ⟨hm10, b10, z10, h10, km, kw, hG9⟩ := H10.out
    obtain ⟨hh11, hG11, hk11⟩ := H11.out
    have hs11 := hk11.size
    have hs12 := k12.size
    have hzl10 := z10.lt
    have hw10 := km.size
    have hfin : isM _ q (G ++ G9) { s with pend := true, prop := X } := (isM.over ⟨_, _, _, _, _, hm10⟩ hk11).keep k12 (fun y hy hm => by
      have e := List.mem_singleton.1 hm
      rcases List.mem_append.1 hy with h1 | h1
      · have := HG.out.2.1 y h1; omega
      · have := (hG9 y h1).1; omega)
    refine ⟨_, G ++ G9, G11, rfl, hfin, (((kw.more (T := G) (by simp)).then km (fun y hy => .inl (by rw [List.mem_singleton.1 hy]; exact HG.out.2.2.1))).then hk11 (by simp)).then k12 (fun y hy => .inr (by rw [List.mem_singleton.1 hy]; omega)), fun y hy => ?_, hh11.keep k12 (fun y hy hm => by have := List.mem_singleton.1 hm; have := (hG11 y hy).1; omega), fun y hy => ⟨by have := (hG11 y hy).1; omega, by have := (hG11 y hy).2; omega, fun hm => ?_⟩⟩
    · rcases List.mem_append.1 hy with h1 | h1
      · exact .inl h1
      · exact .inr (by have := (hG9 y h1).1; omega)
    · have h0 := (hG11 y hy).1
      rcases List.mem_append.1 hm with h1 | h1
      · have := HG.out.2.1 y h1; omega
      · have := hm10.lt y (List.mem_append.2 (.inr h1)); omega
end Go.Proofs.Ytbjonlfjfjlelaa
