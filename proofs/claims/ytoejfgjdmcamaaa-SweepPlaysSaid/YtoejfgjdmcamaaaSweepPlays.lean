/-
  SweepPlays: what a sweep answers, call by call, is what the chapter says.
-/
import Derived.Test.YtoejfgjdmcamaaaSweepNew
import Derived.Test.YtoejfgjdmcamaaaBegins
import Derived.Test.YtoejfgjdmcamaaaGots
import Derived.Deep.RegionHeld3
namespace Go.Proofs.Ytoejfgjdmcamaaa
open Go.RowKit
set_option linter.unusedVariables false
set_option maxRecDepth 100000

/-- a sweep after i calls -/
structure okN (s : SS) (i : Int) : Prop where
  p1 : 1 ≤ s.ph
  p5 : s.ph ≤ 5
  a0 : 0 ≤ s.pat
  a1 : s.pat ≤ 100
  n0 : 0 ≤ s.seen
  n1 : s.seen ≤ i
  m0 : 0 ≤ s.sealed
  m1 : s.sealed ≤ i
  l0 : 0 ≤ s.late
  l1 : s.late ≤ i
  wt : s.waits = true → s.ph ≤ 3
theorem okN.ok {s : SS} {i : Int} (h : okN s i) (hi : i ≤ 1000000) : s.ok :=
  ⟨h.p1, h.p5, h.a0, h.a1, h.n0, by have := h.n1; omega, h.m0, by have := h.m1; omega, h.l0, by have := h.l1; omega, h.wt⟩
theorem okN.grow {s : SS} {i j : Int} (h : okN s i) (hi : i ≤ j) : okN s j :=
  ⟨h.p1, h.p5, h.a0, h.a1, h.n0, by have := h.n1; omega, h.m0, by have := h.m1; omega, h.l0, by have := h.l1; omega, h.wt⟩
theorem okN.new (rot back : Bool) (pat : Int) (h0 : 0 ≤ pat) (h1 : pat ≤ 100) : okN (SS.new rot back pat) 0 :=
  ⟨by unfold SS.new; cases rot <;> cases back <;> simp, by unfold SS.new; cases rot <;> cases back <;> simp, h0, h1, by simp [SS.new], by simp [SS.new], by simp [SS.new], by simp [SS.new], by simp [SS.new], by simp [SS.new], fun h => by cases h⟩
theorem okN.next {s : SS} {i : Int} (h : okN s i) : okN s.next.2.2 i := by
  unfold SS.next
  by_cases hc : (s.waits || s.ended) = true
  · rw [if_pos hc]; exact h
  · rw [if_neg hc]
    have he : s.ended = false := by
      cases hs : s.ended with
      | false => rfl
      | true => rw [hs] at hc; simp at hc
    have hp : s.ph ≤ 3 := by
      unfold SS.ended at he
      have := of_decide_eq_false he
      omega
    exact ⟨h.p1, h.p5, h.a0, h.a1, h.n0, h.n1, h.m0, h.m1, h.l0, h.l1, fun _ => hp⟩
theorem okN.res {s : SS} {i : Int} (h : okN s i) (hw : s.waits = true) (c : Int) (dif : Bool) : okN (s.res c dif) (i + 1) := by
  have hp3 := h.wt hw
  have h1 := h.p1; have h2 := h.p5; have h3 := h.a0; have h4 := h.a1; have h5 := h.n0; have h6 := h.n1; have h7 := h.m0; have h8 := h.m1; have h9 := h.l0; have h10 := h.l1
  have hfail : ∀ (x : SS) (cc : Int), 0 ≤ x.pat → x.pat ≤ 100 → 0 ≤ x.seen → x.seen ≤ i + 1 → 0 ≤ x.sealed → x.sealed ≤ i + 1 → 0 ≤ x.late → x.late ≤ i + 1 → x.waits = false → okN (x.fail cc) (i + 1) := fun x cc a b c d e f g k l =>
    ⟨by simp [SS.fail], by simp [SS.fail], a, b, c, d, e, f, g, k, fun q => by rw [show (x.fail cc).waits = x.waits from rfl, l] at q; cases q⟩
  unfold SS.res
  split
  · split
    · exact hfail _ _ h3 h4 h5 (by show s.seen ≤ _; omega) h7 (by show s.sealed ≤ _; omega) (by show 0 ≤ s.late + 1; omega) (by show s.late + 1 ≤ _; omega) rfl
    · exact ⟨h1, h2, h3, h4, h5, by show s.seen ≤ _; omega, h7, by show s.sealed ≤ _; omega, by show 0 ≤ s.late + 1; omega, by show s.late + 1 ≤ _; omega, fun q => by cases q⟩
  · unfold SS.took1 SS.goOn
    have hi : (0 : Int) ≤ i + 1 := by omega
    by_cases p1 : s.ph = 1
    · rw [if_pos p1]
      by_cases c0 : c = 0
      · simp only [c0, if_true]
        exact ⟨by show 1 ≤ (if s.back = true then (2 : Int) else 3); split <;> omega, by show (if s.back = true then (2 : Int) else 3) ≤ 5; split <;> omega, h3, h4, h5, by show s.seen ≤ _; omega, h7, by show s.sealed ≤ _; omega, Int.le_refl 0, hi, fun q => by cases q⟩
      · by_cases c1 : c = 211
        · simp only [if_neg c0, if_pos c1, if_true]
          exact ⟨by show 1 ≤ (if s.back = true then (2 : Int) else 3); split <;> omega, by show (if s.back = true then (2 : Int) else 3) ≤ 5; split <;> omega, h3, h4, h5, by show s.seen ≤ _; omega, h7, by show s.sealed ≤ _; omega, Int.le_refl 0, hi, fun q => by cases q⟩
        · simp only [if_neg c0, if_neg c1, Bool.false_eq_true, if_false]
          exact hfail _ _ h3 h4 h5 (by show s.seen ≤ _; omega) h7 (by show s.sealed ≤ _; omega) (Int.le_refl 0) hi rfl
    · rw [if_neg p1]
      by_cases p2 : s.ph = 2
      · rw [if_pos p2]
        by_cases c1 : c = 210
        · simp only [c1, if_true]
          exact ⟨by show (1 : Int) ≤ 3; omega, by show (3 : Int) ≤ 5; omega, h3, h4, h5, by show s.seen ≤ _; omega, h7, by show s.sealed ≤ _; omega, Int.le_refl 0, hi, fun q => by cases q⟩
        · by_cases c0 : c = 0
          · simp only [if_neg c1, if_pos c0, if_true]
            exact ⟨h1, h2, h3, h4, h5, by show s.seen ≤ _; omega, h7, by show s.sealed ≤ _; omega, Int.le_refl 0, hi, fun q => by cases q⟩
          · simp only [if_neg c0, if_neg c1, Bool.false_eq_true, if_false]
            exact hfail _ _ h3 h4 h5 (by show s.seen ≤ _; omega) h7 (by show s.sealed ≤ _; omega) (Int.le_refl 0) hi rfl
      · rw [if_neg p2]
        by_cases c0 : c = 0
        · simp only [c0, if_true]
          refine ⟨h1, h2, h3, h4, by show 0 ≤ s.seen + 1; omega, by show s.seen + 1 ≤ _; omega, ?_, ?_, Int.le_refl 0, hi, fun q => by cases q⟩
          · show 0 ≤ (if dif = true then s.sealed + 1 else s.sealed); split <;> omega
          · show (if dif = true then s.sealed + 1 else s.sealed) ≤ i + 1; split <;> omega
        · by_cases c1 : c = 210
          · simp only [if_neg c0, if_pos c1, if_true]
            exact ⟨by show (1 : Int) ≤ 4; omega, by show (4 : Int) ≤ 5; omega, h3, h4, h5, by show s.seen ≤ _; omega, h7, by show s.sealed ≤ _; omega, Int.le_refl 0, hi, fun q => by cases q⟩
          · simp only [if_neg c0, if_neg c1, Bool.false_eq_true, if_false]
            exact hfail _ _ h3 h4 h5 (by show s.seen ≤ _; omega) h7 (by show s.sealed ≤ _; omega) (Int.le_refl 0) hi rfl
/-- both stand alike -/
def both (w0 w : World) (p q : Nat) (s : SS) : Prop := isS w p s ∧ isM w q s ∧ keepBut [] w0 w ∧ w0.heap.size ≤ p ∧ w0.heap.size ≤ q
theorem both.ne {w0 w : World} {p q : Nat} {s : SS} (h : both w0 w p q s) : p ≠ q := rowAt.apart h.1 h.2.1 (by decide)
theorem both.over {w0 w w' : World} {p q : Nat} {s : SS} (h : both w0 w p q s) (hk : keepBut [] w w') : both w0 w' p q s := ⟨h.1.keep hk (by simp), h.2.1.keep hk (by simp), h.2.2.1.then hk (by simp), h.2.2.2⟩
def playsRel (w : World) (p q n : Nat) (v9 : Value) (wx : World) : Prop := ∃ (i : Nat) (s : SS), i ≤ n ∧ i ≤ 120 ∧ v9 = .int .i64 (i : Int) ∧ both w wx p q s ∧ okN s i

theorem six_keep {T : List Nat} {w w' : World} {g o : Nat} {v0 v1 v2 v3 v4 v5 : Value} (hk : keepBut T w w') (hg : g < w.heap.size) (hT : g ∉ T)
    (h : w.cell? ⟨g, o, none⟩ = some v0 ∧ w.cell? ⟨g, o + 1, none⟩ = some v1 ∧ w.cell? ⟨g, o + 2, none⟩ = some v2 ∧ w.cell? ⟨g, o + 3, none⟩ = some v3 ∧ w.cell? ⟨g, o + 4, none⟩ = some v4 ∧ w.cell? ⟨g, o + 5, none⟩ = some v5) :
    w'.cell? ⟨g, o, none⟩ = some v0 ∧ w'.cell? ⟨g, o + 1, none⟩ = some v1 ∧ w'.cell? ⟨g, o + 2, none⟩ = some v2 ∧ w'.cell? ⟨g, o + 3, none⟩ = some v3 ∧ w'.cell? ⟨g, o + 4, none⟩ = some v4 ∧ w'.cell? ⟨g, o + 5, none⟩ = some v5 :=
  have e := fun z => hk.cell (p := ⟨g, z, none⟩) hg hT
  ⟨(e _).trans h.1, (e _).trans h.2.1, (e _).trans h.2.2.1, (e _).trans h.2.2.2.1, (e _).trans h.2.2.2.2.1, (e _).trans h.2.2.2.2.2⟩

set_option maxHeartbeats 4000000 in
theorem sweepPlays_walk (rot : Bool) (l : List Int) (pat : Int) (A : Option Addr) (n d : Nat) (w : World) (hl : l.length = 32) (hb : ∀ b ∈ l, (Lit.int .u8 b).wf = true) (hpw : (Lit.int .i64 pat).wf = true) (ps : gots w A n) (hnd : n ≤ d) (hd : d ≤ maxLen) :
    Calls Try.prog 3 #[.agg (beginOf rot l pat), .slice A n d] w (yesPost w) := by
  obtain ⟨bk, hq⟩ := name_neq l hl hb
  unfold maxLen at hd
  have hz : (nameOf l).size = 32 := by rw [nameOf_size, hl]
  have hr1 := rowAt.new w 25 (beginOf rot l pat)
  have hk1 := (keepBut.refl [] w).alloc (.cells (beginOf rot l pat) 25)
  have hcell : ∀ j u, (l.map (Value.int .u8))[j]? = some u → (beginOf rot l pat)[1 + j]? = some u := fun j u hu => by
    have hj : j < l.length := by
      rcases Nat.lt_or_ge j l.length with q | q
      · exact q
      · rw [List.getElem?_eq_none (by simpa using q)] at hu; cases hu
    unfold beginOf
    rw [List.getElem?_toArray, Nat.add_comm, List.getElem?_cons_succ, List.getElem?_append_left (by simpa using hj)]
    exact hu
  have h0 : (beginOf rot l pat)[0]? = some (.bool rot) := rfl
  have h33 : (beginOf rot l pat)[33]? = some (.int .i64 pat) := by
    unfold beginOf
    rw [List.getElem?_toArray, show 33 = 32 + 1 from rfl, List.getElem?_cons_succ, List.getElem?_append_right (by simp [hl])]
    simp [hl]
  obtain ⟨cs, hcs⟩ : ∃ cs, beginOf rot l pat = cs := ⟨_, rfl⟩
  rw [hcs] at hr1 hk1 hcell h0 h33 ⊢
  have HI := Lib.hid (show (Try.prog.info? 23).map (·.size) = some (l.map (Value.int .u8)).length by rw [List.length_map, hl]; exact info_name)
  have hpat : -9223372036854775808 ≤ pat ∧ pat ≤ 9223372036854775807 := by simpa [Lit.wf, IntKind.min, IntKind.max, IntKind.signed, IntKind.bits] using hpw
  have HR := Lib.hid (fun (wx : World) (g : Nat) (hr : rowAt wx g 25 cs) => (⟨(hr.cell 0).trans h0, (hr.cell 33).trans h33, fun j u hu => (hr.cell (1 + j)).trans (hcell j u hu)⟩ : wx.cell? ⟨g, 0, none⟩ = some (.bool rot) ∧ wx.cell? ⟨g, 33, none⟩ = some (.int .i64 pat) ∧ wx.rangeAt g 1 (l.map (Value.int .u8))))
  have HPS := Lib.hid ps
  have HQ := Lib.hid (And.intro hq hz)
  have H1 := Lib.hid (And.intro hr1 hk1)
  obtain ⟨x0, x33, xr⟩ := HR.out _ _ hr1
  have HX := Lib.hid xr
  clear hcs hcell h0 h33 hq hz hl hb hpw ps hr1 hk1 xr
  go_enter Try.func3, Try.ntmps3
  go_wp2_with (first | (with_reducible refine wpList_box_agg _ rfl 25 (.tmp 0) rfl cs rfl ?_) | (with_reducible refine wpList_load_mid rfl 23 (.tmp 17) rfl w.heap.size 1 rfl (l.map (Value.int .u8)) _ HX.out Try.underlying23 rfl HI.out ?_))
  by_cases hbad : pat < 0 ∨ 100 < pat
  · refine (newS_no rot pat (nameOf l) _ hbad).mono ?_; rintro e w2 ⟨rfl, hk2⟩
    obtain ⟨y0, y33, yr⟩ := HR.out _ _ (hk2.row H1.out.1 (by simp))
    have HY := Lib.hid yr
    have HK2 := Lib.hid (H1.out.2.then hk2 (by simp))
    clear yr hk2
    go_wp2_with (with_reducible refine wpList_load_mid rfl 23 (.tmp 27) rfl w.heap.size 1 rfl (l.map (Value.int .u8)) _ HY.out Try.underlying23 rfl HI.out ?_)
    refine (newM_no rot pat (nameOf l) _ hbad).mono ?_; rintro e w3 ⟨rfl, hk3⟩
    have HK3 := Lib.hid (HK2.out.then hk3 (by simp))
    clear hk3
    go_wp2_with fail
    go_loopw [9] (fun v9 wx => v9 = .int .i64 0 ∧ wx = w3) (fun _ _ => 0)
    case atStart => exact ⟨rfl, rfl⟩
    case round =>
      obtain ⟨rfl, rfl⟩ := hrel
      have hor : ¬ (0 : Int) < (n : Int) ∨ (0 : Int) < (n : Int) := by omega
      rcases hor with hor | hor
      all_goals
        go_wp2_with fail
        refine (works_any _).mono ?_; rintro e w4 ⟨rfl, hk4⟩
        have HK4 := Lib.hid (HK3.out.then hk4 (by simp))
        clear hk4
        go_wp2_with fail
        go_ret
        exact ⟨rfl, HK4.out⟩
  · have hp0 : 0 ≤ pat := by omega
    have hp1 : pat ≤ 100 := by omega
    refine (newS_any rot bk pat (nameOf l) _ hp0 hp1 HQ.out.2 HQ.out.1).mono ?_
    rintro e w2 ⟨p, rfl, hs2, hk2, hz2⟩
    obtain ⟨y0, y33, yr⟩ := HR.out _ _ (hk2.row H1.out.1 (by simp))
    have HY := Lib.hid yr
    have HK2 := Lib.hid (And.intro (H1.out.2.then hk2 (by simp)) (And.intro hs2 (show w.heap.size ≤ p from Nat.le_trans H1.out.2.size hz2)))
    clear yr hk2 hs2 hz2
    go_wp2_with (with_reducible refine wpList_load_mid rfl 23 (.tmp 27) rfl w.heap.size 1 rfl (l.map (Value.int .u8)) _ HY.out Try.underlying23 rfl HI.out ?_)
    refine (newM_any rot bk pat (nameOf l) _ hp0 hp1 HQ.out.2 HQ.out.1).mono ?_
    rintro e w3 ⟨q, rfl, hm3, hk3, hz3⟩
    have h3 : both w w3 p q (SS.new rot bk pat) := ⟨HK2.out.2.1.keep hk3 (by simp), hm3, HK2.out.1.then hk3 (by simp), HK2.out.2.2, Nat.le_trans HK2.out.1.size hz3⟩
    have H3 := Lib.hid h3
    clear h3 hm3 hk3 hz3 y0 y33 x0 x33
    go_wp2_with fail
    go_loopw [9] (fun v9 wx => playsRel w p q n v9 wx) (fun v9 _ => n - (intOf v9).toNat)
    case atStart => exact ⟨0, _, by omega, by omega, rfl, H3.out, okN.new rot bk pat hp0 hp1⟩
    case round =>
      obtain ⟨i, s, hi, hi120, rfl, hboth, hokn⟩ := hrel
      clear H3
      by_cases hlt : i < n ∧ i < 120
      · obtain ⟨hlt1, hlt2⟩ := hlt
        have hlt1' : (i : Int) < (n : Int) := by omega
        have hlt2' : (i : Int) < 120 := by omega
        obtain ⟨gA, o, rfl, hgA, hall⟩ := HPS.out (by omega)
        obtain ⟨nx, c, A7, n7, m7, t7, v7, f7, l7, d0, d1, d2, d3, d4, d5, d6⟩ := hall i hlt1
        have hkc := fun z => hboth.2.2.1.cell (p := ⟨gA, z, none⟩) hgA (by simp)
        rw [← hkc] at d0 d1 d2 d3 d4 d5 d6
        have hgp : gA ≠ p := fun e => by have := hboth.2.2.2.1; omega
        have hgq : gA ≠ q := fun e => by have := hboth.2.2.2.2; omega
        have hgA2 : gA < wr.heap.size := Nat.lt_of_lt_of_le hgA hboth.2.2.1.size
        have hok := hokn.ok (by omega)
        have hok1 := hok.p1
        have HB := Lib.hid (And.intro hboth hokn)
        clear hboth hokn hkc hall
        cases nx with
        | true =>
          obtain ⟨k, er, s', hn⟩ : ∃ k er s', s.next = (k, er, s') := ⟨_, _, _, rfl⟩
          have hc := next_any p s wr HB.out.1.1 hok
          rw [hn] at hc
          have hokn' := HB.out.2.next
          rw [hn] at hokn'
          have hok1' := hokn'.p1
          have hN := Lib.hid hn
          clear hn
          go_wp2_with fail
          refine hc.mono ?_; rintro e w4 ⟨rfl, hs4, hk4⟩
          unfold deedV
          have kd := (keepBut.refl [] w4).alloc (.cells #[.int .i64 k, .slice none 0 0, .slice none 0 0, .int .i64 0] 40)
          have H4 := Lib.hid (And.intro (hs4.keep kd (by simp)) (And.intro (hk4.then kd (by simp)) ((HB.out.1.2.1.keep hk4 (by simp; exact HB.out.1.ne.symm)).keep kd (by simp))))
          have rd := rowAt.new w4 40 #[.int .i64 k, .slice none 0 0, .slice none 0 0, .int .i64 0]
          have HD := Lib.hid rd
          clear hs4 hk4 kd rd hc
          go_wp2_with fail
          have hc := nextM_any q s _ H4.out.2.2
          rw [hN.out] at hc
          refine hc.mono ?_; rintro e w5 ⟨rfl, hm5, hk5⟩
          unfold deedV
          have hlt4 := HD.out.lt
          have hq4 : w4.heap.size ≠ q := fun e => by
            have h1 := HD.out
            rw [e] at h1
            exact absurd (rowAt.uniq h1 H4.out.2.2).1 (by decide)
          have rd5 := hk5.row HD.out (by simpa using hq4)
          have kd := (keepBut.refl [] w5).alloc (.cells #[.int .i64 k, .slice none 0 0, .slice none 0 0, .int .i64 0] 40)
          have rd6 := kd.row rd5 (by simp)
          have z0 : (w5.alloc (.cells #[.int .i64 k, .slice none 0 0, .slice none 0 0, .int .i64 0] 40)).cell? ⟨w4.heap.size, 0, none⟩ = some (.int .i64 k) := rd6.cell 0
          have z1 : (w5.alloc (.cells #[.int .i64 k, .slice none 0 0, .slice none 0 0, .int .i64 0] 40)).cell? ⟨w4.heap.size, 1, none⟩ = some (.slice none 0 0) := rd6.cell 1
          have z2 : (w5.alloc (.cells #[.int .i64 k, .slice none 0 0, .slice none 0 0, .int .i64 0] 40)).cell? ⟨w4.heap.size, 2, none⟩ = some (.slice none 0 0) := rd6.cell 2
          have z3 : (w5.alloc (.cells #[.int .i64 k, .slice none 0 0, .slice none 0 0, .int .i64 0] 40)).cell? ⟨w4.heap.size, 3, none⟩ = some (.int .i64 0) := rd6.cell 3
          have hs5 := (H4.out.1.keep hk5 (by simp; exact HB.out.1.ne)).keep kd (by simp)
          have hw5 : keepBut [] w (w5.alloc (.cells #[.int .i64 k, .slice none 0 0, .slice none 0 0, .int .i64 0] 40)) :=
            ((HB.out.1.2.2.1.then H4.out.2.1 (by simpa using HB.out.1.2.2.2.1)).then hk5 (by simpa using HB.out.1.2.2.2.2)).then kd (by simp)
          have H5 : Hid (both w (w5.alloc (.cells #[.int .i64 k, .slice none 0 0, .slice none 0 0, .int .i64 0] 40)) p q s') := Lib.hid ⟨hs5, hm5.keep kd (by simp), hw5, HB.out.1.2.2.2⟩
          clear hc hm5 hk5 rd5 kd rd6 hs5 hw5 hlt4 hq4
          go_wp2_with fail
          refine (same_any p q s' _ H5.out.1 H5.out.2.1 hok1').mono ?_; rintro e w7 ⟨rfl, hk7⟩
          have H7 := Lib.hid (And.intro (H5.out.over hk7) (hokn'.grow (show (i : Int) ≤ ((i + 1 : Nat) : Int) by omega)))
          clear hk7
          go_wp2_with fail
          go_roundw
          case rel => exact ⟨i + 1, s', by omega, by omega, by go_num, H7.out⟩
          case measure => simp [intOf]; omega
        | false =>
          obtain ⟨er, s', hT, hM, hokn'⟩ : ∃ er s', (∀ wx, isS wx p s → Calls Try.prog 10 #[.pointer (some ⟨p, 0, none⟩), .agg (gotV c A7 n7 m7 t7 v7 f7 l7)] wx (sPost p s' (.int .i64 er) wx)) ∧
              (∀ wx, isM wx q s → Calls Try.prog 11 #[.pointer (some ⟨q, 0, none⟩), .agg (gotV c A7 n7 m7 t7 v7 f7 l7)] wx (mPost q s' (.int .i64 er) wx)) ∧ okN s' ((i + 1 : Nat) : Int) := by
            cases hw : s.waits with
            | true => exact ⟨0, s.res c (f7 != l7), fun wx h => took_any p s c A7 n7 m7 t7 v7 f7 l7 wx h hok hw, fun wx h => tookM_any q s c A7 n7 m7 t7 v7 f7 l7 wx h hok hw, by have := HB.out.2.res hw c (f7 != l7); simpa using this⟩
            | false => exact ⟨170, s, fun wx h => tookNo_any p s c A7 n7 m7 t7 v7 f7 l7 wx h hok hw, fun wx h => tookM_no q s c A7 n7 m7 t7 v7 f7 l7 wx h hw, HB.out.2.grow (by omega)⟩
          have hok1' := hokn'.p1
          have HT := Lib.hid (And.intro hT hM)
          clear hT hM
          unfold gotV at HT
          have sx : wr.cell? ⟨gA, o + i * 7 + 1, none⟩ = some (.int .i64 c) ∧ wr.cell? ⟨gA, o + i * 7 + 1 + 1, none⟩ = some (.slice A7 n7 m7) ∧ wr.cell? ⟨gA, o + i * 7 + 1 + 2, none⟩ = some (.bool t7) ∧ wr.cell? ⟨gA, o + i * 7 + 1 + 3, none⟩ = some (.int .i64 v7) ∧ wr.cell? ⟨gA, o + i * 7 + 1 + 4, none⟩ = some (.int .i64 f7) ∧ wr.cell? ⟨gA, o + i * 7 + 1 + 5, none⟩ = some (.int .i64 l7) := ⟨d1, d2, d3, d4, d5, d6⟩
          clear d1 d2 d3 d4 d5 d6
          have HSD := Lib.hid (show isS wr.drew p s from HB.out.1.1.keep ((keepBut.refl [] wr).drew) (by simp))
          go_upto_region 13 with fail
          go_region_held3 (fun w' => w'.cell? ⟨gA, o + i * 7 + 1, none⟩ = some (.int .i64 c) ∧ w'.cell? ⟨gA, o + i * 7 + 1 + 1, none⟩ = some (.slice A7 n7 m7) ∧ w'.cell? ⟨gA, o + i * 7 + 1 + 2, none⟩ = some (.bool t7) ∧ w'.cell? ⟨gA, o + i * 7 + 1 + 3, none⟩ = some (.int .i64 v7) ∧ w'.cell? ⟨gA, o + i * 7 + 1 + 4, none⟩ = some (.int .i64 f7) ∧ w'.cell? ⟨gA, o + i * 7 + 1 + 5, none⟩ = some (.int .i64 l7)) (first | exact sx | exact sx5 | exact sx6)
            (first
              | (go_at_call 10; (with_reducible refine (HT.out.1 _ HSD.out).mono ?_); rintro e w5 ⟨rfl, hs5, hk5⟩; have sx5 := six_keep hk5 hgA2 (by simpa using hgp) sx; have H5 := Lib.hid (And.intro hs5 (And.intro (((keepBut.refl [p] wr).drew).then hk5 (by simp)) (HB.out.1.2.1.keep (((keepBut.refl [p] wr).drew).then hk5 (by simp)) (by simp; exact HB.out.1.ne.symm)))); have hgA5 := Nat.lt_of_lt_of_le hgA2 hk5.size)
              | (go_at_call 11; (with_reducible refine (HT.out.2 _ H5.out.2.2).mono ?_); rintro e w6 ⟨rfl, hm6, hk6⟩; have sx6 := six_keep hk6 hgA5 (by simpa using hgq) sx5; have H6 := Lib.hid (And.intro hm6 hk6))
              | fail)
          have H7 : Hid (both w w6 p q s') := Lib.hid ⟨H5.out.1.keep H6.out.2 (by simp; exact HB.out.1.ne), H6.out.1, (HB.out.1.2.2.1.then H5.out.2.1 (by simpa using HB.out.1.2.2.2.1)).then H6.out.2 (by simpa using HB.out.1.2.2.2.2), HB.out.1.2.2.2⟩
          clear sx sx5 sx6 hs5 hk5 hm6 hk6
          go_wp2_with fail
          refine (same_any p q s' _ H7.out.1 H7.out.2.1 hok1').mono ?_; rintro e w7 ⟨rfl, hk7⟩
          have H8 := Lib.hid (And.intro (H7.out.over hk7) hokn')
          clear hk7
          go_wp2_with fail
          go_roundw
          case rel => exact ⟨i + 1, s', by omega, by omega, by go_num, H8.out⟩
          case measure => simp [intOf]; omega
      · have hor : ¬ (i : Int) < (n : Int) ∨ ((i : Int) < (n : Int) ∧ ¬ (i : Int) < 120) := by omega
        have hok1 := hokn.p1
        have HB := Lib.hid hboth
        clear hboth hokn
        rcases hor with hor | ⟨hor, hor2⟩
        all_goals
          go_wp2_with fail
          refine (same_any p q s _ HB.out.1 HB.out.2.1 hok1).mono ?_; rintro e w5 ⟨rfl, hk5⟩
          have HK5 := Lib.hid (HB.out.2.2.1.then hk5 (by simp))
          clear hk5
          go_wp2_with fail
          refine (works_any _).mono ?_; rintro e w6 ⟨rfl, hk6⟩
          have HK6 := Lib.hid (HK5.out.then hk6 (by simp))
          clear hk6
          go_wp2_with fail
          go_ret
          exact ⟨rfl, HK6.out⟩
end Go.Proofs.Ytoejfgjdmcamaaa
