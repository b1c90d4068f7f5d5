/-
  LEAD, 12: Propose.
-/
import Derived.Test.YtbjonlfjfjlelaaLead9
namespace Go.Proofs.Ytbjonlfjfjlelaa
open Go.RowKit
set_option linter.unusedVariables false
set_option maxRecDepth 100000

theorem isL.setProp {w : World} {p : Nat} {F G5 : List Nat} {s : LS} {x : CS} {cv' : Value} (h : isL w p F s) (hcv : held w G5 cv' x.chain) (hG5 : ∀ y ∈ G5, y ∉ F ∧ y < w.heap.size) :
    isL ((((w.setCell ⟨p, 7, none⟩ (.bool true)).setCell ⟨p, 8, none⟩ (.int .i64 x.num)).setCell ⟨p, 9, none⟩ (.int .i64 x.full)).setCell ⟨p, 10, none⟩ cv') p (F ++ G5) { s with pend := true, prop := x } ∧
    keepBut [p] w ((((w.setCell ⟨p, 7, none⟩ (.bool true)).setCell ⟨p, 8, none⟩ (.int .i64 x.num)).setCell ⟨p, 9, none⟩ (.int .i64 x.full)).setCell ⟨p, 10, none⟩ cv') := by
  obtain ⟨g, cv, ents, C, h1, h2, h3, h4, h5, h6, h7, h8, h9, h10⟩ := h
  have k := ((((keepBut.refl [p] w).setCell ⟨p, 7, none⟩ (.bool true) (by simp)).setCell ⟨p, 8, none⟩ (.int .i64 x.num) (by simp)).setCell ⟨p, 9, none⟩ (.int .i64 x.full) (by simp)).setCell ⟨p, 10, none⟩ cv' (by simp)
  have r := (((h1.set 7 (.bool true)).set 8 (.int .i64 x.num)).set 9 (.int .i64 x.full)).set 10 cv'
  have hC : ∀ y ∈ C, y ∉ [p] := fun y hy hm => h8 (by rw [← List.mem_singleton.1 hm]; exact hy)
  have hg : g ∉ [p] := fun hm => h2.apart h1 (List.mem_singleton.1 hm)
  have hG : ∀ y ∈ G5, y ∉ [p] := fun y hy hm => (hG5 y hy).1 (by rw [List.mem_singleton.1 hm]; exact h5)
  refine ⟨⟨g, cv', ents, C ++ G5, by simpa [rowL] using r, h2.keep k hg, entsOk.more (fun y hy => List.mem_append.2 (.inl hy)) (entsOk.keep k hC h3), (hcv.keep k hG).more (fun y hy => List.mem_append.2 (.inr hy)), List.mem_append.2 (.inl h5), List.mem_append.2 (.inl h6), fun y hy => ?_, fun hm => ?_, fun hm => ?_, fun y hy => ?_⟩, k⟩
  · rcases List.mem_append.1 hy with h | h
    · exact List.mem_append.2 (.inl (h7 y h))
    · exact List.mem_append.2 (.inr h)
  · rcases List.mem_append.1 hm with h | h
    · exact h8 h
    · exact (hG5 _ h).1 h5
  · rcases List.mem_append.1 hm with h | h
    · exact h9 h
    · exact (hG5 _ h).1 h6
  · have := k.size
    rcases List.mem_append.1 hy with h | h
    · have := h10 y h; omega
    · have := (hG5 y h).2; omega

/-- the lookup of a vote, in whatever world has the map -/
theorem look_vote2 (w : World) (g : Nat) (C : List Nat) (ents : List (Int × Value)) (b : List (Int × VS)) (he : entsOk w C ents b) (k : Int) :
    ∃ V : VS, ∃ cv : Value, held w C cv V.c.chain ∧ (∀ W, mapAt W g ents → (Instr.lookup 97 (.map (some g)) (.int .i64 k) true).run Try.prog W = .ok (.tuple #[.agg (voteA V cv), .bool (findV b k).isSome]) W) ∧
      ((findV b k = none ∧ V = ⟨0, CS.zero⟩ ∧ cv = .slice none 0 0) ∨ findV b k = some V) := by
  have hr := fun W hm => run_lookup_int (P := Try.prog) W 97 3 78 Try.underlying97 Try.underlying3 g ents hm k _ (zeroVote W)
  rcases he.find k with ⟨e1, e2⟩ | ⟨v, d, e1, e2, cv, rfl, e4⟩
  · refine ⟨⟨0, CS.zero⟩, .slice none 0 0, held.nil _ _, fun W hm => ?_, .inl ⟨e2, rfl, rfl⟩⟩
    rw [hr W hm, e1, e2]; rfl
  · refine ⟨d, cv, e4, fun W hm => ?_, .inr e2⟩
    rw [hr W hm, e1, e2]; rfl

def propCut2 (w2 : World) (row : Array Value) (b : Bool) (v6 v7 : Value) (wx : World) : Prop := v6 = .pointer (some ⟨w2.heap.size, 0, none⟩) ∧ v7 = .bool b ∧ wx = (w2.alloc (.cells row 78)).drew
def propCut3 (w : World) (p : Nat) (F : List Nat) (s : LS) (x : CS) (wx : World) : Prop :=
  ∃ (A : Option Addr) (n : Nat) (H : List Nat), held wx H (.slice A x.chain.length n) x.chain ∧ rowAt wx w.heap.size 55 #[.int .i64 x.num, .int .i64 x.full, .slice A x.chain.length n] ∧ isL wx p F s ∧ keepBut [] w wx ∧
    rowAt wx (w.heap.size + 1) 55 #[.int .i64 0, .int .i64 0, .slice none 0 0] ∧ p ∉ H ∧ (∀ y ∈ H, y < w.heap.size)
def propCut (w1 : World) (v25 : Value) (wx : World) : Prop := v25 = .bool false ∧ keepBut [] w1 wx

set_option maxHeartbeats 4000000 in
theorem propose_yes (p : Nat) (F Gc : List Nat) (s : LS) (c : CS) (cv : Value) (w : World) (h : isL w p F s) (hc : held w Gc cv c.chain) (hGc : ∀ y ∈ Gc, y ∉ F ∧ y < w.heap.size) (a1 : s.ph = 2) (a2 : s.pend = false) (a3 : s.frm ≤ c.num) :
    Calls Try.prog 45 #[.pointer (some ⟨p, 0, none⟩), .agg #[.int .i64 c.num, .int .i64 c.full, cv]] w (propPost p F (s.propose c).2.2 (s.propose c).2.1 0 w) := by
  have HS := Lib.hid (show s.propose c = (0, s.propOf c, { s with pend := true, prop := s.propOf c }) by
    unfold LS.propose
    rw [if_neg (by simp [a1, a2]), if_neg (by omega)])
  have hc0 := hc
  obtain ⟨A, n, gc, rfl, hcr⟩ := hc0
  have k0 := (keepBut.refl [] w).alloc (.cells #[.int .i64 c.num, .int .i64 c.full, .slice A c.chain.length n] 55)
  have r0 := rowAt.new w 55 #[.int .i64 c.num, .int .i64 c.full, .slice A c.chain.length n]
  generalize hw0 : w.alloc (.cells #[.int .i64 c.num, .int .i64 c.full, .slice A c.chain.length n] 55) = w0 at *
  have k1 := (keepBut.refl [] w0).alloc (.cells #[.int .i64 0, .int .i64 0, .slice none 0 0] 55)
  have r1 := rowAt.new w0 55 #[.int .i64 0, .int .i64 0, .slice none 0 0]
  have r0' := k1.row r0 (by simp)
  have hsz : w0.heap.size = w.heap.size + 1 := by rw [← hw0]; simp
  rw [hsz] at r1
  have kk := k0.then k1 (by simp)
  have h1 := h.over kk
  have hc1 := hc.keep kk (by simp)
  have hw1 : (w.alloc (.cells #[.int .i64 c.num, .int .i64 c.full, .slice A c.chain.length n] 55)).alloc (.cells #[.int .i64 0, .int .i64 0, .slice none 0 0] 55) = w0.alloc (.cells #[.int .i64 0, .int .i64 0, .slice none 0 0] 55) := by rw [hw0]
  generalize w0.alloc (.cells #[.int .i64 0, .int .i64 0, .slice none 0 0] 55) = w1 at *
  have HW1 := Lib.hid hw1
  have c2 : w1.cell? ⟨p, 2, none⟩ = some (.int .i64 s.ph) := h1.c2.1
  have c4 : w1.cell? ⟨p, 4, none⟩ = some (.int .i64 s.frm) := h1.c4.1
  have c7 : w1.cell? ⟨p, 7, none⟩ = some (.bool s.pend) := by obtain ⟨_, _, _, _, r, _⟩ := h1; exact r.cell 7
  have b0 : w1.cell? ⟨w.heap.size, 0, none⟩ = some (.int .i64 c.num) := r0'.cell 0
  rw [a1] at c2
  rw [a2] at c7
  have HH := Lib.hid (And.intro h1 (And.intro kk (And.intro r0' (And.intro r1 (And.intro hc1 h)))))
  have HF := Lib.hid (And.intro h.lt h.mem)
  clear h h1 kk k0 k1 r0 r1 r0' hw0 hw1 hsz hc hc1 hcr a1 a2
  go_enter Try.func45, Try.ntmps45
  go_upto_region 1 with fail
  rw [HW1.out]
  go_upto_region 5 with (go_at_call 72; refine (noneL_any _ _ _ _ HH.out.1).mono ?_; rintro e w' ⟨rfl, rfl⟩)
  go_cut [25] (fun v25 wx => propCut w1 v25 wx)
  case first =>
    go_quiet (fail)
    go_wp2
    go_meet
    exact ⟨by rw [decide_eq_false (by omega)], (keepBut.refl [] w1).drewN _⟩
  case rest =>
    obtain ⟨rfl, k2⟩ := hcut
    generalize wc = w2 at *
    clear c2 c4 c7 b0
    have h2 := HH.out.1.over k2
    have r0 := k2.row HH.out.2.2.1 (by simp)
    have r1 := k2.row HH.out.2.2.2.1 (by simp)
    have hc2 := HH.out.2.2.2.2.1.keep k2 (by simp)
    obtain ⟨g, lcv, ents, C, l1, l2, l3, l4, l5, l6, l7, l8, l9, l10⟩ := id h2
    have c6 : w2.cell? ⟨p, 6, none⟩ = some (.map (some g)) := l1.cell 6
    have b0 : w2.cell? ⟨w.heap.size, 0, none⟩ = some (.int .i64 c.num) := r0.cell 0
    have l2d : mapAt w2.drew g ents := l2
    have l3d : entsOk w2.drew C ents s.bound := entsOk.keep ((keepBut.refl [] w2).drew) (by simp) l3
    obtain ⟨V, vcv, hV, hlk, hVc⟩ := look_vote2 w2.drew g C ents s.bound l3d c.num
    have hV2 := hV
    obtain ⟨A2, c2, g2, rfl, q2⟩ := hV2
    unfold voteA at hlk
    have kz := (keepBut.refl [] w2).alloc (.cells #[.int .i64 0, .int .i64 0, .int .i64 0, .slice none 0 0] 78)
    have hlk1 := hlk w2.drew l2d
    have hlk2 := hlk (w2.alloc (.cells #[.int .i64 0, .int .i64 0, .int .i64 0, .slice none 0 0] 78)).drew (l2.keep kz.drew (by simp))
    have c6z : (w2.alloc (.cells #[.int .i64 0, .int .i64 0, .int .i64 0, .slice none 0 0] 78)).cell? ⟨p, 6, none⟩ = some (.map (some g)) := (kz.row l1 (by simp)).cell 6
    have b0z : (w2.alloc (.cells #[.int .i64 0, .int .i64 0, .int .i64 0, .slice none 0 0] 78)).cell? ⟨w.heap.size, 0, none⟩ = some (.int .i64 c.num) := (kz.row r0 (by simp)).cell 0
    clear kz hlk
    have k3 := ((keepBut.refl [] w2).alloc (.cells #[.int .i64 V.bal, .int .i64 V.c.num, .int .i64 V.c.full, .slice A2 V.c.chain.length c2] 78)).drew
    have kd3 : keepBut [] w2.drew (w2.alloc (.cells #[.int .i64 V.bal, .int .i64 V.c.num, .int .i64 V.c.full, .slice A2 V.c.chain.length c2] 78)).drew := (keepBut.refl [] w2.drew).alloc (.cells #[.int .i64 V.bal, .int .i64 V.c.num, .int .i64 V.c.full, .slice A2 V.c.chain.length c2] 78)
    have hV3 := hV.keep kd3 (by simp)
    have rv : rowAt (w2.alloc (.cells #[.int .i64 V.bal, .int .i64 V.c.num, .int .i64 V.c.full, .slice A2 V.c.chain.length c2] 78)).drew w2.heap.size _ _ := rowAt.new w2 78 #[.int .i64 V.bal, .int .i64 V.c.num, .int .i64 V.c.full, .slice A2 V.c.chain.length c2]
    have hCF : (∀ y ∈ C, y ∈ F) ∧ p ∉ C := ⟨l7, l8⟩
    have HD := Lib.hid (And.intro (HH.out.1.over (k2.then k3 (by simp))) (And.intro (HH.out.2.1.then (k2.then k3 (by simp)) (by simp)) (And.intro (k3.row r0 (by simp)) (And.intro (k3.row r1 (by simp)) (And.intro (hc2.keep k3 (by simp)) (And.intro hV3 (And.intro rv hCF)))))))
    clear h2 r0 r1 hc2 l1 l2 l3 l4 l5 l6 l7 l8 l9 l10 l2d l3d hV q2 k3 kd3 hV3 rv hCF k2
    go_upto_region 7 with fail
    go_cut [6, 7] (fun v6 v7 wx => propCut2 w2 #[.int .i64 V.bal, .int .i64 V.c.num, .int .i64 V.c.full, .slice A2 V.c.chain.length c2] (findV s.bound c.num).isSome v6 v7 wx)
    case first =>
      go_region
      all_goals
        go_wp2
        go_meet
        exact ⟨rfl, rfl, rfl⟩
    case rest =>
      obtain ⟨rfl, rfl, rfl⟩ := hcut
      obtain ⟨i3, kk3, r0, r1, hc3, hV3, rv, hCF⟩ := HD.out
      clear hlk1 hlk2 c6 b0 c6z b0z HD
      generalize (w2.alloc (.cells #[.int .i64 V.bal, .int .i64 V.c.num, .int .i64 V.c.full, .slice A2 V.c.chain.length c2] 78)).drew = w3 at *
      generalize w2.heap.size = vb at *
      have v1 : w3.cell? ⟨vb, 1, none⟩ = some (.int .i64 V.c.num) := rv.cell 1
      have v2 : w3.cell? ⟨vb, 2, none⟩ = some (.int .i64 V.c.full) := rv.cell 2
      have v3 : w3.cell? ⟨vb, 3, none⟩ = some (.slice A2 V.c.chain.length c2) := rv.cell 3
      have y0 : w3.cell? ⟨w.heap.size, 0, none⟩ = some (.int .i64 c.num) := r0.cell 0
      have y1 : w3.cell? ⟨w.heap.size, 1, none⟩ = some (.int .i64 c.full) := r0.cell 1
      have y2 : w3.cell? ⟨w.heap.size, 2, none⟩ = some (.slice A c.chain.length n) := r0.cell 2
      have yf0 := r0.free 0
      have yf1 := r0.free 1
      have yf2 := r0.free 2
      have H3 := Lib.hid (And.intro i3 (And.intro kk3 (And.intro r0 (And.intro r1 (And.intro hc3 (And.intro hV3 hCF))))))
      clear i3 kk3 r0 r1 hc3 hV3 rv hCF
      have HP := Lib.hid (show s.propOf c = if (findV s.bound c.num).isSome = true then V.c else c by
        unfold LS.propOf
        rcases hVc with ⟨e, _, _⟩ | e
        · rw [e]; rfl
        · rw [e]; rfl)
      clear hVc
      go_upto_if 44 with fail
      go_cut [7, 44] (fun v7 v44 wx => propCut3 w p F s (s.propOf c) wx)
      case first =>
        cases hf : (findV s.bound c.num).isSome with
        | false =>
          have hp := HP.out
          rw [hf, if_neg (by simp)] at hp
          have HPX := Lib.hid hp
          clear hp hf
          go_wp2
          go_meet
          obtain ⟨i3, kk3, r0, r1, hc3, hV3, hCF⟩ := H3.out
          rw [HPX.out]
          exact ⟨A, n, Gc, hc3, r0, i3, kk3, r1, fun hm => (hGc p hm).1 HF.out.2, fun y hy => (hGc y hy).2⟩
        | true =>
          have hp := HP.out
          rw [hf, if_pos rfl] at hp
          have HPX := Lib.hid hp
          clear hp hf
          go_wp2
          go_meet
          obtain ⟨i3, kk3, r0, r1, hc3, hV3, hCF⟩ := H3.out
          have k4 := (((keepBut.refl [w.heap.size] w3).setCell ⟨w.heap.size, 0, none⟩ (.int .i64 V.c.num) (by simp)).setCell ⟨w.heap.size, 1, none⟩ (.int .i64 V.c.full) (by simp)).setCell ⟨w.heap.size, 2, none⟩ (.slice A2 V.c.chain.length c2) (by simp)
          have r4 := ((r0.set 0 (.int .i64 V.c.num)).set 1 (.int .i64 V.c.full)).set 2 (.slice A2 V.c.chain.length c2)
          have hF : ∀ y ∈ F, y ∉ [w.heap.size] := fun y hy hm => by have := HF.out.1 y hy; have := List.mem_singleton.1 hm; omega
          rw [HPX.out]
          exact ⟨A2, c2, C, hV3.keep k4 (fun y hy => hF y (hCF.1 y hy)), by simpa using r4, i3.keep k4 hF, kk3.then k4 (by simp), k4.row r1 (by simp), hCF.2, fun y hy => HF.out.1 y (hCF.1 y hy)⟩
      case rest =>
        obtain ⟨Ax, nx, Hx, hx, rx, ix, kx, r1, hpx, hHx⟩ := hcut
        generalize wc = w4 at *
        clear v1 v2 v3 y0 y1 y2 yf0 yf1 yf2
        generalize s.propOf c = x at *
        have x0 : w4.cell? ⟨w.heap.size, 0, none⟩ = some (.int .i64 x.num) := rx.cell 0
        have x1 : w4.cell? ⟨w.heap.size, 1, none⟩ = some (.int .i64 x.full) := rx.cell 1
        have x2 : w4.cell? ⟨w.heap.size, 2, none⟩ = some (.slice Ax x.chain.length nx) := rx.cell 2
        have HCP := Lib.hid (fun (W : World) (hh : held W Hx (.slice Ax x.chain.length nx) x.chain) => copiedL_any Hx x (.slice Ax x.chain.length nx) W hh)
        unfold confV at HCP
        have H4 := Lib.hid (And.intro hx (And.intro rx (And.intro ix (And.intro kx (And.intro r1 (And.intro hpx hHx))))))
        clear hx rx ix kx r1 hpx hHx
        go_wp2_with fail
        refine (HCP.out _ H4.out.1).mono ?_; rintro e w5 ⟨ccv, rfl, G5, ⟨A5, c5, g5, rfl, i52, i53, i54, i55, i56⟩, hG5, hk5⟩
        have i5 := H4.out.2.2.1.over hk5
        have hcv5 : held w5 G5 (.slice A5 x.chain.length c5) x.chain := ⟨A5, c5, g5, rfl, i52, i53, i54, i55, i56⟩
        have sz4 := H4.out.2.2.2.1.size
        have lt4 := H4.out.2.2.1.lt
        have hGF : ∀ y ∈ G5, y ∉ F ∧ y < w5.heap.size := fun y hy => ⟨fun hm => by have := lt4 y hm; have := (hG5 y hy).1; omega, (hG5 y hy).2⟩
        obtain ⟨i6, k6⟩ := i5.setProp hcv5 hGF
        have hp7 : w5.cell? ⟨p, 7, none⟩ = some (.bool s.pend) ∧ w5.cell? ⟨p, 8, none⟩ = some (.int .i64 s.prop.num) ∧ w5.cell? ⟨p, 9, none⟩ = some (.int .i64 s.prop.full) := by obtain ⟨_, _, _, _, r, _⟩ := i5; exact ⟨r.cell 7, r.cell 8, r.cell 9⟩
        obtain ⟨pA, pn, hp10⟩ : ∃ pA pn, w5.cell? ⟨p, 10, none⟩ = some (.slice pA s.prop.chain.length pn) := by obtain ⟨_, cv, _, _, r, _, _, ⟨pA, pn, _, rfl, _⟩, _⟩ := i5; exact ⟨pA, pn, r.cell 10⟩
        have hpf : w5.frozen? ⟨p, 7, none⟩ = false ∧ w5.frozen? ⟨p, 8, none⟩ = false ∧ w5.frozen? ⟨p, 9, none⟩ = false ∧ w5.frozen? ⟨p, 10, none⟩ = false := by obtain ⟨_, _, _, _, r, _⟩ := i5; exact ⟨r.free 7, r.free 8, r.free 9, r.free 10⟩
        obtain ⟨c7, c8, c9⟩ := hp7
        obtain ⟨f7, f8, f9, f10⟩ := hpf
        have H5 := Lib.hid (And.intro hk5 (And.intro hcv5 (And.intro hG5 (And.intro i6 (And.intro k6 i5)))))
        clear hk5 hcv5 hG5 i6 k6 i5 i52 i53 i54 i55 i56 hGF sz4 lt4
        unfold confV
        go_upto_region 11 with fail
        obtain ⟨hk5, hcv5, hG5, i6, k6, i5⟩ := H5.out
        clear c7 c8 c9 f7 f8 f9 f10 hp10 x0 x1 x2
        generalize (((w5.setCell ⟨p, 7, none⟩ (.bool true)).setCell ⟨p, 8, none⟩ (.int .i64 x.num)).setCell ⟨p, 9, none⟩ (.int .i64 x.full)).setCell ⟨p, 10, none⟩ (.slice A5 x.chain.length c5) = w6 at *
        have hne : w.heap.size ∉ [p] := fun hm => by have := HF.out.1 p HF.out.2; have := List.mem_singleton.1 hm; omega
        have hne1 : w.heap.size + 1 ∉ [p] := fun hm => by have := HF.out.1 p HF.out.2; have := List.mem_singleton.1 hm; omega
        have rx6 := k6.row (hk5.row H4.out.2.1 (by simp)) hne
        have r16 := k6.row (hk5.row H4.out.2.2.2.2.1 (by simp)) hne1
        have hx6 := (H4.out.1.keep hk5 (by simp)).keep k6 (fun y hy hm => H4.out.2.2.2.2.2.1 (by rw [← List.mem_singleton.1 hm]; exact hy))
        have x0 : w6.cell? ⟨w.heap.size, 0, none⟩ = some (.int .i64 x.num) := rx6.cell 0
        have x1 : w6.cell? ⟨w.heap.size, 1, none⟩ = some (.int .i64 x.full) := rx6.cell 1
        have x2 : w6.cell? ⟨w.heap.size, 2, none⟩ = some (.slice Ax x.chain.length nx) := rx6.cell 2
        have hp6 := i6
        have HF6 := Lib.hid (And.intro r16 (And.intro i6 (And.intro ((H4.out.2.2.2.1.then hk5 (by simp)).more (T := [p]) (by simp)) (And.intro k6 (And.intro hG5 (And.intro H4.out.2.2.2.1.size hk5.size))))))
        clear rx6 r16 hk5 hcv5 hG5 i6 k6 i5 hp6
        go_wp2_with fail
        refine (HCP.out _ hx6).mono ?_; rintro e w7 ⟨ccv, rfl, G7, ⟨A7, c7, g7, rfl, i72, i73, i74, i75, i76⟩, hG7, hk7⟩
        have r17 := hk7.row HF6.out.1 (by simp)
        have z0 : w7.cell? ⟨w.heap.size + 1, 0, none⟩ = some (.int .i64 0) := r17.cell 0
        have z1 : w7.cell? ⟨w.heap.size + 1, 1, none⟩ = some (.int .i64 0) := r17.cell 1
        have z2 : w7.cell? ⟨w.heap.size + 1, 2, none⟩ = some (.slice none 0 0) := r17.cell 2
        have zf0 := r17.free 0
        have zf1 := r17.free 1
        have zf2 := r17.free 2
        have H7 := Lib.hid (And.intro (show held w7 G7 (.slice A7 x.chain.length c7) x.chain from ⟨A7, c7, g7, rfl, i72, i73, i74, i75, i76⟩) (And.intro hG7 (And.intro hk7 r17.lt)))
        clear r17 i72 i73 i74 i75 i76 hG7 hk7 hx6 x0 x1 x2
        unfold confV
        go_wp2
        refine bodyPost_ret (v := .tuple #[.agg #[.int .i64 x.num, .int .i64 x.full, .slice A7 x.chain.length c7], .int .i64 0]) (by simp [results, Try.results45, go_sem, *]) rfl ?_
        rw [HS.out]
        obtain ⟨hh7, hG7, hk7, hlt7⟩ := H7.out
        obtain ⟨r16, i6, kw6, k6, hG5, sz4, sz5⟩ := HF6.out
        have k8 := (((keepBut.refl [w.heap.size + 1] w7).setCell ⟨w.heap.size + 1, 0, none⟩ (.int .i64 x.num) (by simp)).setCell ⟨w.heap.size + 1, 1, none⟩ (.int .i64 x.full) (by simp)).setCell ⟨w.heap.size + 1, 2, none⟩ (.slice A7 x.chain.length c7) (by simp)
        have s6 := k6.size
        have l16 := r16.lt
        have l4 : w.heap.size + 1 < w4.heap.size := H4.out.2.2.2.2.1.lt
        have hF5 : ∀ y ∈ F ++ G5, y ∈ F ∨ w4.heap.size ≤ y := fun y hy => by
          rcases List.mem_append.1 hy with h | h
          · exact .inl h
          · exact .inr (hG5 y h).1
        refine ⟨.slice A7 x.chain.length c7, F ++ G5, G7, rfl, (i6.over hk7).keep k8 (fun y hy hm => ?_), ((kw6.then k6 (fun y hy => .inl hy)).more (T := F) (fun y hy => by rw [List.mem_singleton.1 hy]; exact HF.out.2)).then ((hk7.more (T := [w.heap.size + 1]) (by simp)).then k8 (fun y hy => .inl hy)) (fun y hy => .inr (by rw [List.mem_singleton.1 hy]; omega)), fun y hy => ?_, hh7.keep k8 (fun y hy hm => ?_), fun y hy => ⟨?_, Nat.lt_of_lt_of_le (hG7 y hy).2 k8.size, fun hm => ?_⟩⟩
        · have := List.mem_singleton.1 hm
          rcases hF5 y hy with h | h
          · have := HF.out.1 y h; omega
          · omega
        · rcases hF5 y hy with h | h
          · exact .inl h
          · exact .inr (by omega)
        · have := List.mem_singleton.1 hm; have := (hG7 y hy).1; omega
        · have := (hG7 y hy).1; omega
        · have h1 := i6.lt y hm; have := (hG7 y hy).1; omega
end Go.Proofs.Ytbjonlfjfjlelaa
