/-
  LEAD, 8: Promise.
-/
import Derived.Test.YtbjonlfjfjlelaaLead5
namespace Go.Proofs.Ytbjonlfjfjlelaa
open Go.RowKit
set_option linter.unusedVariables false
set_option maxRecDepth 100000

theorem isL.lt {w : World} {p : Nat} {F : List Nat} {s : LS} (h : isL w p F s) : ∀ y ∈ F, y < w.heap.size := by
  obtain ⟨_, _, _, _, _, _, _, _, _, _, _, _, _, r⟩ := h; exact r
theorem isL.mem {w : World} {p : Nat} {F : List Nat} {s : LS} (h : isL w p F s) : p ∈ F := by
  obtain ⟨_, _, _, _, _, _, _, _, r, _⟩ := h; exact r
theorem isL.c2 {w : World} {p : Nat} {F : List Nat} {s : LS} (h : isL w p F s) : w.cell? ⟨p, 2, none⟩ = some (.int .i64 s.ph) ∧ w.frozen? ⟨p, 2, none⟩ = false := by
  obtain ⟨_, _, _, _, r, _⟩ := h; exact ⟨r.cell 2, r.free 2⟩
theorem isL.c5 {w : World} {p : Nat} {F : List Nat} {s : LS} (h : isL w p F s) : w.cell? ⟨p, 5, none⟩ = some (.int .u8 (s.prom : Int)) ∧ w.frozen? ⟨p, 5, none⟩ = false := by
  obtain ⟨_, _, _, _, r, _⟩ := h; exact ⟨r.cell 5, r.free 5⟩

set_option maxHeartbeats 4000000 in
theorem promise_yes (p : Nat) (F G : List Nat) (s : LS) (who : Nat) (v : Value) (l : List VS) (w : World) (h : isL w p F s) (hok : s.ok) (hw : who < 3) (hph : s.ph = 1) (hv : votesV w G v l) (hG : ∀ y ∈ G, y ∉ F ∧ y < w.heap.size) :
    Calls Try.prog 43 #[.pointer (some ⟨p, 0, none⟩), .int .i64 (who : Int), .int .i64 s.bal, v] w
      (pPost p F (s.promise who s.bal l).2.2 (.tuple #[.bool (s.promise who s.bal l).1, .int .i64 0]) w) := by
  obtain ⟨s1, hs1⟩ : ∃ s1, s1 = { s with prom := orB s.prom who } := ⟨_, rfl⟩
  have hT : s.promise who s.bal l = if 2 ≤ countOf (s1.binds l).prom then (true, 0, { s1.binds l with ph := 2 }) else (false, 0, s1.binds l) := by
    unfold LS.promise
    rw [if_neg (by simp [hph]), hs1]
  have hb7 : orB s.prom who ≤ 7 := orB_le _ hok.p7 _ hw
  have hsame := LS.binds_same l s1
  have hp7 : (s1.binds l).prom ≤ 7 := by rw [hsame.2.2.2.2.1, hs1]; exact hb7
  have hph1 : (s1.binds l).ph = 1 := by rw [hsame.2.1, hs1]; exact hph
  have HT := Lib.hid (And.intro hT (And.intro hp7 hph1))
  have k1 := ((keepBut.refl [p] w).setCell ⟨p, 5, none⟩ (.int .u8 (orB s.prom who : Int)) (by simp)).drew
  have i1 : isL (w.setCell ⟨p, 5, none⟩ (.int .u8 (orB s.prom who : Int))).drew p F s1 := h.poke k1 (by rw [hs1]) (fun g cv hr => ⟨cv, by
    have := hr.set 5 (.int .u8 (orB s.prom who : Int))
    rw [hs1]
    show rowAt (w.setCell ⟨p, 5, none⟩ (.int .u8 (orB s.prom who : Int))) p _ _
    simpa [rowL] using this, .inl ⟨rfl, by rw [hs1]⟩⟩)
  have H1 := Lib.hid (And.intro i1 k1)
  obtain ⟨g, lcv, ents, C, l1, l2⟩ := id h
  have c2 : w.cell? ⟨p, 2, none⟩ = some (.int .i64 s.ph) := l1.cell 2
  have c3 : w.cell? ⟨p, 3, none⟩ = some (.int .i64 s.bal) := l1.cell 3
  have c5 : w.cell? ⟨p, 5, none⟩ = some (.int .u8 (s.prom : Int)) := l1.cell 5
  have f5 := l1.free 5
  rw [hph] at c2
  have A5 := fun w' h f => add_any p 5 s.prom who hok.p7 hw w' h f
  have HA := Lib.hid (A5 w c5 f5)
  have hw0 : (0 : Int) ≤ (who : Int) := by omega
  have hw3 : (who : Int) < 3 := by omega
  have HV := Lib.hid (And.intro hv hG)
  have HH := Lib.hid h
  obtain ⟨A, c, rfl, v2, v3, v4, v5⟩ := hv
  unfold maxLen at v3
  clear hs1 hT hb7 hsame hp7 hph1 k1 i1 l1 l2 A5 hG v5 hph hok
  go_enter Try.func43, Try.ntmps43
  go_upto_region 8 with (first | (go_at_call 72; refine (noneL_any _ _ _ _ HH.out).mono ?_; rintro e w' ⟨rfl, rfl⟩) | (go_at_call 63; refine (isMaster_yes _ _ hw0 hw3).mono ?_; rintro e w' ⟨rfl, rfl⟩) | (go_at_call 76; refine HA.out.mono ?_; rintro e w' ⟨rfl, rfl⟩))
  obtain ⟨i1, k1⟩ := H1.out
  have hpF := HH.out.mem
  have hv1 := HV.out.1.keep k1 (fun y hy hm => (HV.out.2 y hy).1 (by rw [List.mem_singleton.1 hm]; exact hpF))
  have hsz := k1.size
  clear c2 c3 c5 f5 h HA
  generalize (w.setCell ⟨p, 5, none⟩ (.int .u8 (orB s.prom who : Int))).drew = w1 at *
  have HI := Lib.hid (And.intro i1 (And.intro k1 hv1))
  clear i1 k1 hv1 H1
  go_wp2_with fail
  go_loopw [40, 41, 42, 43, 44, 45, 46, 47, 11] (fun v40 v41 v42 v43 v44 v45 v46 v47 v11 wx => promRel p F s1 l w1 v40 wx) (fun v40 _ _ _ _ _ _ _ _ _ => l.length - (intOf v40).toNat)
  case atStart => exact ⟨0, by omega, rfl, F, HI.out.1, keepBut.refl _ _, fun y hy => .inl hy⟩
  case round =>
    obtain ⟨i, hi, rfl, F2, i2, k2, f2⟩ := hrel
    by_cases hlt : i < l.length
    · have hlt' : (i : Int) < (l.length : Int) := by omega
      obtain ⟨d, hd⟩ : ∃ d, l[i]? = some d := ⟨l[i]'hlt, List.getElem?_eq_getElem hlt⟩
      have hvr := HI.out.2.2.keep k2 (fun y hy => (HV.out.2 y hy).1)
      obtain ⟨A', c', e', -, -, -, q5⟩ := hvr
      injection e' with ea eb ec
      subst ea ec
      obtain ⟨vg, o, rfl, q2, q3, q4⟩ := q5 (by rintro rfl; simp at hlt)
      obtain ⟨dcv, hdv, d0, d1, d2, d3⟩ := q4 i d hd
      have hdv2 := hdv
      obtain ⟨Ad, cd, gd, rfl, hd2⟩ := hdv2
      have kk := (keepBut.refl [] wr).alloc (.cells (voteA d (.slice Ad d.c.chain.length cd)) 78)
      have i2b := i2.over kk
      have hdv3 := hdv.keep kk (by simp)
      have HR := Lib.hid (And.intro i2b (And.intro hdv3 (And.intro kk (And.intro k2 (And.intro f2 hd)))))
      unfold voteA at HR
      clear i2 k2 f2 q2 q3 q4 q5 hd hdv hd2 kk i2b hdv3
      go_wp2_with fail
      refine (bind_any p F2 G _ d (.slice Ad d.c.chain.length cd) _ HR.out.1 HR.out.2.1).mono ?_; rintro e w5 ⟨rfl, hl5⟩
      have hl6 : lPost p F (s1.binds (l.take (i + 1))) w1 w5 := by
        rw [← binds_take s1 l i d HR.out.2.2.2.2.2]
        exact lPost.trans (HR.out.2.2.2.1.then HR.out.2.2.1 (by simp)) (fun y hy => HR.out.2.2.2.2.1 y hy) hl5
      have HL6 := Lib.hid hl6
      clear hl5 hl6
      go_wp2_with fail
      go_roundw
      case rel => exact ⟨i + 1, by omega, by go_num, HL6.out⟩
      case measure => simp [intOf]; omega
    · obtain rfl : i = l.length := by omega
      rw [List.take_length] at i2
      have hp7 := HT.out.2.1
      have hph1 := HT.out.2.2
      have HC := Lib.hid (count_any p 5 (s1.binds l).prom hp7 wr i2.c5.1)
      have HR := Lib.hid (And.intro i2 (And.intro k2 f2))
      clear i2 k2 f2 hp7 hph1
      go_wp2_with fail
      refine HC.out.mono ?_; rintro e w5 ⟨rfl, k5⟩
      have i5 := HR.out.1.over k5
      have c2 := i5.c2.1
      have f2 := i5.c2.2
      rw [HT.out.2.2] at c2
      have hcnt : (2 ≤ countOf (s1.binds l).prom) ∨ ¬ 2 ≤ countOf (s1.binds l).prom := by omega
      rcases hcnt with hc | hc
      · have hc' : (2 : Int) ≤ (countOf (s1.binds l).prom : Int) := by omega
        have HE := Lib.hid (show s.promise who s.bal l = (true, 0, { s1.binds l with ph := 2 }) by rw [HT.out.1, if_pos hc])
        have k6 := (keepBut.refl [p] w5).setCell ⟨p, 2, none⟩ (.int .i64 2) (by simp)
        have i6 : isL (w5.setCell ⟨p, 2, none⟩ (.int .i64 2)) p F2 { s1.binds l with ph := 2 } := i5.poke k6 rfl (fun g cv hr => ⟨cv, by have := hr.set 2 (.int .i64 2); simpa [rowL] using this, .inl ⟨rfl, rfl⟩⟩)
        have hp2 := i5.mem
        have H6 := Lib.hid (And.intro i6 (And.intro (((HR.out.2.1.then k5 (by simp)).then (k6.more (T := F2) (by simpa using hp2)) HR.out.2.2)) HR.out.2.2))
        clear i5 k6 i6 k5 hc
        go_wp2
        go_ret2
        rw [HE.out]
        obtain ⟨a1, a2, a3⟩ := H6.out
        exact ⟨rfl, lPost.trans (HI.out.2.1.more (by simpa using hpF)) (fun y hy => .inl hy) ⟨F2, a1, a2, a3⟩⟩
      · have hc' : ¬ (2 : Int) ≤ (countOf (s1.binds l).prom : Int) := by omega
        have HE := Lib.hid (show s.promise who s.bal l = (false, 0, s1.binds l) by rw [HT.out.1, if_neg hc])
        have H6 := Lib.hid (And.intro i5 (And.intro (HR.out.2.1.then k5 (by simp)) HR.out.2.2))
        clear i5 k5 hc
        go_wp2
        go_ret2
        rw [HE.out]
        obtain ⟨a1, a2, a3⟩ := H6.out
        exact ⟨rfl, lPost.trans (HI.out.2.1.more (by simpa using hpF)) (fun y hy => .inl hy) ⟨F2, a1, a2, a3⟩⟩
end Go.Proofs.Ytbjonlfjfjlelaa
