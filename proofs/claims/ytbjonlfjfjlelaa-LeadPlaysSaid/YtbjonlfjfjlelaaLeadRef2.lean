/-
  LEAD: the document's own leader: Start, Bound.
-/
import Derived.Test.YtbjonlfjfjlelaaLeadRef1
namespace Go.Proofs.Ytbjonlfjfjlelaa
open Go.RowKit
set_option linter.unusedVariables false
set_option maxRecDepth 100000

theorem flatT_len : ∀ T : List (VS × Value), (flatT T).length = T.length * 4
  | [] => rfl
  | t :: r => by simp [flatT, flatT_len r]; omega
theorem flatT_at : ∀ (T : List (VS × Value)) (i : Nat) (t : VS × Value), T[i]? = some t →
    (flatT T)[i * 4]? = some (.int .i64 t.1.bal) ∧ (flatT T)[i * 4 + 1]? = some (.int .i64 t.1.c.num) ∧ (flatT T)[i * 4 + 2]? = some (.int .i64 t.1.c.full) ∧ (flatT T)[i * 4 + 3]? = some t.2
  | [], i, t, h => by simp at h
  | u :: r, 0, t, h => by simp at h; subst h; simp [flatT]
  | u :: r, i + 1, t, h => by
    have := flatT_at r i t (by simpa using h)
    have e : (i + 1) * 4 = i * 4 + 4 := by omega
    rw [e]
    simpa [flatT] using this
theorem flatT_add (T : List (VS × Value)) (t : VS × Value) : flatT (T ++ [t]) = flatT T ++ [.int .i64 t.1.bal, .int .i64 t.1.c.num, .int .i64 t.1.c.full, t.2] := by
  induction T with
  | nil => rfl
  | cons u r ih => simp [flatT, ih]
theorem flatT_set : ∀ (T : List (VS × Value)) (i : Nat) (t : VS × Value), flatT (T.set i t) = ((((flatT T).set (i * 4) (.int .i64 t.1.bal)).set (i * 4 + 1) (.int .i64 t.1.c.num)).set (i * 4 + 2) (.int .i64 t.1.c.full)).set (i * 4 + 3) t.2
  | [], i, t => by simp [flatT]
  | u :: r, 0, t => by simp [flatT]
  | u :: r, i + 1, t => by
    have e : (i + 1) * 4 = i * 4 + 4 := by omega
    rw [e]
    simp [flatT, flatT_set r i t]
theorem owns4_at {w : World} {vb : Value} {n : Nat} {xs : List Value} (h : owns w 78 4 vb n xs) (hn : 0 < n) :
    ∃ g c, vb = .slice (some ⟨g, 0, none⟩) n c ∧ n ≤ c ∧ c ≤ maxLen ∧ g < w.heap.size ∧ homes vb = [g] ∧ (∀ j u, xs[j]? = some u → w.cell? ⟨g, j, none⟩ = some u) ∧ (∀ j, w.frozen? ⟨g, j, none⟩ = false) := by
  rcases h.2 with ⟨_, h0⟩ | ⟨g, cap, cur, rfl, hr, h1, h2, h3, h4⟩
  · omega
  · refine ⟨g, cap, rfl, h1, h2, hr.lt, rfl, fun j u hu => ?_, fun j => hr.free j⟩
    rw [hr.cell]
    rw [← h4, List.getElem?_take] at hu
    split at hu
    · simpa using hu
    · cases hu
theorem owns4_put {w : World} {g n c j : Nat} {u : Value} {xs : List Value} (h : owns w 78 4 (.slice (some ⟨g, 0, none⟩) n c) n xs) : owns (w.setCell ⟨g, j, none⟩ u) 78 4 (.slice (some ⟨g, 0, none⟩) n c) n (xs.set j u) := by
  rcases h.2 with ⟨h0, _⟩ | ⟨g', cap, cur, h0, hr, h1, h2, h3, h4⟩
  · cases h0
  · injection h0 with e1 e2 e3
    injection e1 with e1
    injection e1 with e1
    subst e1 e3
    refine ⟨by simpa using h.1, .inr ⟨g, c, _, rfl, hr.set j u, h1, h2, by simpa using h3, ?_⟩⟩
    rw [Array.toList_setIfInBounds, List.take_set, h4]

theorem find_at (n : Int) : ∀ (T : List (VS × Value)) (i : Nat) (t : VS × Value), T[i]? = some t → (∀ j u, j < i → T[j]? = some u → u.1.c.num ≠ n) → t.1.c.num = n →
    findV (T.map pairT) n = some t.1 ∧ ∀ (v : VS) (cv : Value), v.c.num = n → putV (T.map pairT) n v = (T.set i (v, cv)).map pairT
  | [], i, t, h, _, _ => by simp at h
  | u :: r, 0, t, h, _, hn => by
    obtain rfl : u = t := by simpa using h
    refine ⟨by simp [findV, pairT, hn], fun v cv hv => ?_⟩
    simp [putV, pairT, hn, hv]
  | u :: r, i + 1, t, h, hno, hn => by
    have hu : u.1.c.num ≠ n := hno 0 u (by omega) rfl
    have ih := find_at n r i t (by simpa using h) (fun j u' hj hu' => hno (j + 1) u' (by omega) (by simpa using hu')) hn
    refine ⟨by simp only [List.map_cons, findV, pairT, if_neg hu]; exact ih.1, fun v cv hv => ?_⟩
    simp only [List.map_cons, putV, pairT, if_neg hu, List.set_cons_succ]
    rw [← ih.2 v cv hv]
theorem find_none (n : Int) : ∀ (T : List (VS × Value)), (∀ (j : Nat) (u : VS × Value), T[j]? = some u → u.1.c.num ≠ n) →
    findV (T.map pairT) n = none ∧ ∀ (v : VS) (cv : Value), v.c.num = n → putV (T.map pairT) n v = (T ++ [(v, cv)]).map pairT
  | [], _ => ⟨rfl, fun v cv hv => by simp [putV, pairT, hv]⟩
  | u :: r, hno => by
    have hu : u.1.c.num ≠ n := hno 0 u rfl
    have ih := find_none n r (fun j u' hu' => hno (j + 1) u' (by simpa using hu'))
    refine ⟨by simp only [List.map_cons, findV, pairT, if_neg hu]; exact ih.1, fun v cv hv => ?_⟩
    simp only [List.map_cons, putV, pairT, if_neg hu, List.cons_append]
    rw [← ih.2 v cv hv]

set_option maxHeartbeats 1000000 in
theorem startM_no (q : Nat) (s : LS) (above frm : Int) (w : World) (hb : above < 0 ∨ 9007199254740988 < above ∨ frm < 1 ∨ 9007199254740991 < frm) :
    Calls Try.prog 65 #[.pointer (some ⟨q, 0, none⟩), .int .i64 above, .int .i64 frm] w fun e w' => e = .returned (.tuple #[.int .i64 0, .int .i64 2]) ∧ w = w' := by
  have hcase : above < 0 ∨ (¬ above < 0 ∧ 9007199254740988 < above) ∨ (¬ above < 0 ∧ ¬ 9007199254740988 < above ∧ frm < 1) ∨ (¬ above < 0 ∧ ¬ 9007199254740988 < above ∧ ¬ frm < 1 ∧ 9007199254740991 < frm) := by omega
  clear hb
  rcases hcase with a1 | ⟨a1, a2⟩ | ⟨a1, a2, a3⟩ | ⟨a1, a2, a3, a4⟩
  all_goals
    go_enter Try.func65, Try.ntmps65
    go_wp2
    go_ret2
    exact ⟨rfl, rfl⟩

theorem startM_world {w : World} {q : Nat} {G : List Nat} {s : LS} (id B frm : Int) (h : isM w q G s) :
    isM (((((((((((((((w.setCell ⟨q, 0, none⟩ (.int .i64 id)).setCell ⟨q, 1, none⟩ (.int .i64 B)).setCell ⟨q, 2, none⟩ (.int .i64 frm)).setCell ⟨q, 3, none⟩ (.int .i64 1)).setCell ⟨q, 4, none⟩ (.bool false)).setCell ⟨q, 5, none⟩ (.bool false)).setCell ⟨q, 6, none⟩ (.bool false)).setCell ⟨q, 7, none⟩ (.slice none 0 0)).setCell ⟨q, 8, none⟩ (.bool false)).setCell ⟨q, 9, none⟩ (.int .i64 0)).setCell ⟨q, 10, none⟩ (.int .i64 0)).setCell ⟨q, 11, none⟩ (.slice none 0 0)).setCell ⟨q, 12, none⟩ (.bool false)).setCell ⟨q, 13, none⟩ (.bool false)).setCell ⟨q, 14, none⟩ (.bool false)) q G ⟨id, 1, B, frm, 0, [], false, CS.zero, 0⟩ ∧ keepBut [q] w (((((((((((((((w.setCell ⟨q, 0, none⟩ (.int .i64 id)).setCell ⟨q, 1, none⟩ (.int .i64 B)).setCell ⟨q, 2, none⟩ (.int .i64 frm)).setCell ⟨q, 3, none⟩ (.int .i64 1)).setCell ⟨q, 4, none⟩ (.bool false)).setCell ⟨q, 5, none⟩ (.bool false)).setCell ⟨q, 6, none⟩ (.bool false)).setCell ⟨q, 7, none⟩ (.slice none 0 0)).setCell ⟨q, 8, none⟩ (.bool false)).setCell ⟨q, 9, none⟩ (.int .i64 0)).setCell ⟨q, 10, none⟩ (.int .i64 0)).setCell ⟨q, 11, none⟩ (.slice none 0 0)).setCell ⟨q, 12, none⟩ (.bool false)).setCell ⟨q, 13, none⟩ (.bool false)).setCell ⟨q, 14, none⟩ (.bool false)) := by
  obtain ⟨vb, cv, T, C, x, h⟩ := h
  have r := (((((((((((((((h.row.set 0 (.int .i64 id)).set 1 (.int .i64 B)).set 2 (.int .i64 frm)).set 3 (.int .i64 1)).set 4 (.bool false)).set 5 (.bool false)).set 6 (.bool false)).set 7 (.slice none 0 0)).set 8 (.bool false)).set 9 (.int .i64 0)).set 10 (.int .i64 0)).set 11 (.slice none 0 0)).set 12 (.bool false)).set 13 (.bool false)).set 14 (.bool false))
  have k := ((((((((((((((((keepBut.refl [q] w).setCell ⟨q, 0, none⟩ (.int .i64 id) (by simp)).setCell ⟨q, 1, none⟩ (.int .i64 B) (by simp)).setCell ⟨q, 2, none⟩ (.int .i64 frm) (by simp)).setCell ⟨q, 3, none⟩ (.int .i64 1) (by simp)).setCell ⟨q, 4, none⟩ (.bool false) (by simp)).setCell ⟨q, 5, none⟩ (.bool false) (by simp)).setCell ⟨q, 6, none⟩ (.bool false) (by simp)).setCell ⟨q, 7, none⟩ (.slice none 0 0) (by simp)).setCell ⟨q, 8, none⟩ (.bool false) (by simp)).setCell ⟨q, 9, none⟩ (.int .i64 0) (by simp)).setCell ⟨q, 10, none⟩ (.int .i64 0) (by simp)).setCell ⟨q, 11, none⟩ (.slice none 0 0) (by simp)).setCell ⟨q, 12, none⟩ (.bool false) (by simp)).setCell ⟨q, 13, none⟩ (.bool false) (by simp)).setCell ⟨q, 14, none⟩ (.bool false) (by simp))
  refine ⟨⟨.slice none 0 0, .slice none 0 0, [], [], 0, by simpa [rowM, CS.zero, bitB] using r, owns.nil _ _ _, rfl, by simp, held.nil _ _, by simp, by omega, h.qG, by simp [homes_none], by simp, by simp, by simp [homes_none], fun y hy => Nat.lt_of_lt_of_le (h.lt y hy) k.size⟩, k⟩

set_option maxHeartbeats 4000000 in
theorem startM_yes (q : Nat) (G : List Nat) (s : LS) (above frm : Int) (w : World) (h : isM w q G s) (hok : s.ok) (a0 : 0 ≤ above) (a1 : above ≤ 9007199254740988) (f0 : 1 ≤ frm) (f1 : frm ≤ 9007199254740991) :
    Calls Try.prog 65 #[.pointer (some ⟨q, 0, none⟩), .int .i64 above, .int .i64 frm] w
      (mPost q G (s.start above frm).2.2 (.tuple #[.int .i64 (s.start above frm).1, .int .i64 0]) w) := by
  have hcond : ¬ (above < 0 ∨ 9007199254740988 < above ∨ frm < 1 ∨ 9007199254740991 < frm) := by omega
  obtain ⟨N, hN⟩ : ∃ N, N = max above s.bal + 1 := ⟨_, rfl⟩
  obtain ⟨B, hB⟩ : ∃ B, B = nextB N s.id := ⟨_, rfl⟩
  have hBo := nextB_ok N s.id hok.i0 hok.i1
  rw [← hB] at hBo
  have HS := Lib.hid (show s.start above frm = (B, 0, ⟨s.id, 1, B, frm, 0, [], false, CS.zero, 0⟩) by unfold LS.start; rw [if_neg hcond, ← hN, ← hB])
  obtain ⟨d, hd⟩ : ∃ d, d = B - N := ⟨_, rfl⟩
  have hd0 : 0 ≤ d := by omega
  have hd2 : d ≤ 2 := by omega
  have hdm : ∀ k, 0 ≤ k → k ≤ d → ((N + k) % 3 = s.id ↔ k = d) := fun k _ _ => by
    have := hok.i0; have := hok.i1
    constructor
    · intro e; omega
    · rintro rfl; rw [hd]; rw [← hBo.2.2]; congr 1; omega
  have b0 := hok.b0
  have b1 := hok.b1
  have hN0 : 1 ≤ N := by omega
  have hN1 : N ≤ 9007199254750001 := by omega
  have hBN : B = N + d := by omega
  have HD := Lib.hid (And.intro hdm hBN)
  have HMX := Lib.hid hN
  have HH := Lib.hid h
  obtain ⟨vb, cv, T, C, x, hm⟩ := id h
  obtain ⟨A7, n7, hv7, -⟩ := hm.own.form
  obtain ⟨A11, n11, g11, hv11, -⟩ := hm.pc
  have hr := hm.row
  rw [hv7, hv11] at hr
  have c0 : w.cell? ⟨q, 0, none⟩ = some (.int .i64 s.id) := hr.cell 0
  have c1 : w.cell? ⟨q, 1, none⟩ = some (.int .i64 s.bal) := hr.cell 1
  have c2 : w.cell? ⟨q, 2, none⟩ = some (.int .i64 s.frm) := hr.cell 2
  have c3 : w.cell? ⟨q, 3, none⟩ = some (.int .i64 s.ph) := hr.cell 3
  have c4 : w.cell? ⟨q, 4, none⟩ = some (.bool (bitB s.prom 0)) := hr.cell 4
  have c5 : w.cell? ⟨q, 5, none⟩ = some (.bool (bitB s.prom 1)) := hr.cell 5
  have c6 : w.cell? ⟨q, 6, none⟩ = some (.bool (bitB s.prom 2)) := hr.cell 6
  have c7 : w.cell? ⟨q, 7, none⟩ = some (.slice A7 T.length n7) := hr.cell 7
  have c8 : w.cell? ⟨q, 8, none⟩ = some (.bool s.pend) := hr.cell 8
  have c9 : w.cell? ⟨q, 9, none⟩ = some (.int .i64 s.prop.num) := hr.cell 9
  have c10 : w.cell? ⟨q, 10, none⟩ = some (.int .i64 s.prop.full) := hr.cell 10
  have c11 : w.cell? ⟨q, 11, none⟩ = some (.slice A11 s.prop.chain.length n11) := hr.cell 11
  have c12 : w.cell? ⟨q, 12, none⟩ = some (.bool (bitB x 0)) := hr.cell 12
  have c13 : w.cell? ⟨q, 13, none⟩ = some (.bool (bitB x 1)) := hr.cell 13
  have c14 : w.cell? ⟨q, 14, none⟩ = some (.bool (bitB x 2)) := hr.cell 14
  have f0' := hr.free 0
  have f1' := hr.free 1
  have f2' := hr.free 2
  have f3' := hr.free 3
  have f4' := hr.free 4
  have f5' := hr.free 5
  have f6' := hr.free 6
  have f7' := hr.free 7
  have f8' := hr.free 8
  have f9' := hr.free 9
  have f10' := hr.free 10
  have f11' := hr.free 11
  have f12' := hr.free 12
  have f13' := hr.free 13
  have f14' := hr.free 14
  clear hr hm hv7 hv11 hcond hd hdm hBN hB hBo hN h hok
  have hA1 : ¬ above < 0 := by omega
  have hA2 : ¬ 9007199254740988 < above := by omega
  have hA3 : ¬ frm < 1 := by omega
  have hA4 : ¬ 9007199254740991 < frm := by omega
  have hcs : (above < s.bal ∧ s.bal + 1 = N) ∨ (s.bal ≤ above ∧ above + 1 = N) := by have := HMX.out; omega
  go_enter Try.func65, Try.ntmps65
  go_upto_region 3 with fail
  go_cut [8] from 24 to 30 (fun v8 wx => v8 = .int .i64 N ∧ wx = w)
  case first =>
    rcases hcs with ⟨hmx, hn⟩ | ⟨hmx, hn⟩
    all_goals
      have HN := Lib.hid hn
      clear hn
      go_wp2_with fail
      go_meet
      exact ⟨by rw [← HN.out], rfl⟩
  case rest =>
    obtain ⟨rfl, rfl⟩ := hcut
    clear hcs
    go_wp2_with fail
    go_loop [8] (fun v8 => startRel N d v8) (fun v8 => (N + d - intOf v8).toNat)
    case atStart => exact ⟨0, by omega, by omega, by simp⟩
    case round =>
      obtain ⟨k, hk0, hk1, rfl⟩ := hrel
      have hk2 : 0 ≤ N + k := by omega
      have hk3 : N + k ≤ 9007199254750010 := by omega
      by_cases hk : k = d
      · have e1 : (N + k) % 3 = s.id := ((HD.out.1 k hk0 hk1).2 hk)
        have e2 : N + k = B := by rw [hk]; exact HD.out.2.symm
        have t1 : ((N + k) % 3 == s.id) = true := by simpa using e1
        have t2 : ((N + k) % 3 != s.id) = false := by simpa using e1
        have E2 := Lib.hid e2
        clear e1 e2 hk
        go_upto_region 6 with fail
        rw [E2.out]
        clear t1 t2 hk2 hk3
        go_wp2
        go_ret2
        rw [HS.out]
        exact mPost.own (startM_world _ _ _ HH.out).1 (startM_world _ _ _ HH.out).2
      · have e1 : (N + k) % 3 ≠ s.id := fun e => hk ((HD.out.1 k hk0 hk1).1 e)
        have t1 : ((N + k) % 3 == s.id) = false := by simpa using e1
        have t2 : ((N + k) % 3 != s.id) = true := by simpa using e1
        have HKD := Lib.hid hk
        clear e1 hk
        go_wp2
        go_round
        case rel => exact ⟨k + 1, by omega, by have := HKD.out; omega, by go_num⟩
        case measure => simp [intOf]; have := HKD.out; omega

def boundRel (T : List (VS × Value)) (num : Int) (v6 : Value) : Prop := ∃ j : Nat, j ≤ T.length ∧ v6 = .int .i64 (j : Int) ∧ ∀ i u, i < j → T[i]? = some u → u.1.c.num ≠ num
set_option maxHeartbeats 2000000 in
theorem boundM_any (q : Nat) (G : List Nat) (s : LS) (num : Int) (w : World) (h : isM w q G s) (hT : s.bound.length ≤ 1000000) :
    Calls Try.prog 36 #[.pointer (some ⟨q, 0, none⟩), .int .i64 num] w (boundPost (s.boundOf num).1 (s.boundOf num).2 w) := by
  have k1 := (keepBut.refl [] w).alloc (.cells #[.int .i64 0, .int .i64 0, .slice none 0 0] 55)
  have r1 := rowAt.new w 55 #[.int .i64 0, .int .i64 0, .slice none 0 0]
  have h1 := h.over k1
  have hlt : w.heap.size < (w.alloc (.cells #[.int .i64 0, .int .i64 0, .slice none 0 0] 55)).heap.size := r1.lt
  generalize hw1 : w.alloc (.cells #[.int .i64 0, .int .i64 0, .slice none 0 0] 55) = w1 at *
  have HW1 := Lib.hid hw1
  clear hw1
  obtain ⟨vb, cv, T, C, x, hm⟩ := id h1
  obtain ⟨A, c, rfl, hlc, hcm, -, -⟩ := hm.own.form
  unfold maxLen at hcm
  have hTl : T.length ≤ 1000000 := by have := hm.bnd; rw [this] at hT; simpa using hT
  have c7 : w1.cell? ⟨q, 7, none⟩ = some (.slice A T.length c) := hm.row.cell 7
  have HH := Lib.hid (And.intro hm (And.intro k1 (And.intro r1 hlt)))
  clear hm k1 r1 hlt h1 h hT
  go_enter Try.func36, Try.ntmps36
  go_upto_region 1 with fail
  rw [HW1.out]
  go_wp2_with fail
  go_loop [6] (fun v6 => boundRel T num v6) (fun v6 => T.length - (intOf v6).toNat)
  case atStart => exact ⟨0, by omega, rfl, fun i u hi => absurd hi (by omega)⟩
  case round =>
    obtain ⟨j, hj, rfl, hno⟩ := hrel
    have HNO := Lib.hid hno
    clear hno
    by_cases hlt : j < T.length
    · have hlt' : (j : Int) < (T.length : Int) := by omega
      obtain ⟨t, ht⟩ : ∃ t, T[j]? = some t := ⟨_, List.getElem?_eq_getElem hlt⟩
      obtain ⟨g, c', e', -, -, hg, -, hcell, -⟩ := owns4_at HH.out.1.own (by omega)
      injection e' with e1 e2 e3
      subst e1 e3
      obtain ⟨x0, x1, x2, x3⟩ := flatT_at T j t ht
      have y1 := hcell _ _ x1
      have y2 := hcell _ _ x2
      have y3 := hcell _ _ x3
      have HT := Lib.hid ht
      clear ht x0 x1 x2 x3 hcell
      by_cases hn : t.1.c.num = num
      · have t1 : (t.1.c.num == num) = true := by simpa using hn
        have HN := Lib.hid hn
        obtain ⟨A2, n2, g2, hv2, i2⟩ := HH.out.1.chs t (List.mem_of_getElem? HT.out)
        rw [hv2] at y3
        have HV := Lib.hid hv2
        clear hn hv2 i2
        have HCP := Lib.hid (copyConf_any C t.1.c (.slice A2 t.1.c.chain.length n2) w1 (by have := HH.out.1.chs t (List.mem_of_getElem? HT.out); rw [HV.out] at this; exact this))
        unfold confV at HCP
        go_wp2_with fail
        refine HCP.out.mono ?_; rintro e w3 ⟨ccv, rfl, G5, ⟨A5, c5, g5, rfl, i52, i53, i54, i55, i56⟩, hG5, hk5⟩
        have r3 := hk5.row HH.out.2.2.1 (by simp)
        have z0 : w3.cell? ⟨w.heap.size, 0, none⟩ = some (.int .i64 0) := r3.cell 0
        have z1 : w3.cell? ⟨w.heap.size, 1, none⟩ = some (.int .i64 0) := r3.cell 1
        have z2 : w3.cell? ⟨w.heap.size, 2, none⟩ = some (.slice none 0 0) := r3.cell 2
        have zf0 := r3.free 0
        have zf1 := r3.free 1
        have zf2 := r3.free 2
        have HX := Lib.hid (And.intro (show held w3 G5 (.slice A5 t.1.c.chain.length c5) t.1.c.chain from ⟨A5, c5, g5, rfl, i52, i53, i54, i55, i56⟩) (And.intro hG5 hk5))
        clear r3 i52 i53 i54 i55 i56 hG5 hk5 y1 y2 y3 c7
        unfold confV
        go_wp2
        refine bodyPost_ret (v := .tuple #[.agg #[.int .i64 t.1.c.num, .int .i64 t.1.c.full, .slice A5 t.1.c.chain.length c5], .bool true]) (by simp [results, Try.results36, go_sem, *]) rfl ?_
        have hE : s.boundOf num = (t.1.c, true) := by
          unfold LS.boundOf
          rw [HH.out.1.bnd, (find_at num T j t HT.out HNO.out HN.out).1]
        rw [hE]
        exact ⟨_, rfl, conf_store (g := g5) HH.out.2.1 HH.out.2.2.2 HX.out.1 HX.out.2.1 HX.out.2.2⟩
      · have t1 : (t.1.c.num == num) = false := by simpa using hn
        have HN := Lib.hid hn
        clear hn
        go_wp2_with fail
        go_round
        case rel =>
          refine ⟨j + 1, by omega, by go_num, fun i u hi hu => ?_⟩
          by_cases e : i = j
          · subst e; rw [HT.out] at hu; injection hu with hu; rw [← hu]; exact HN.out
          · exact HNO.out i u (by omega) hu
        case measure => simp [intOf]; omega
    · obtain rfl : j = T.length := by omega
      have hE : s.boundOf num = (CS.zero, false) := by
        unfold LS.boundOf
        rw [HH.out.1.bnd, (find_none num T (fun i u hu => HNO.out i u (by have := (List.getElem?_eq_some_iff.1 hu).1; omega) hu)).1]
      have HE := Lib.hid hE
      have z0 : w1.cell? ⟨w.heap.size, 0, none⟩ = some (.int .i64 0) := HH.out.2.2.1.cell 0
      have z1 : w1.cell? ⟨w.heap.size, 1, none⟩ = some (.int .i64 0) := HH.out.2.2.1.cell 1
      have z2 : w1.cell? ⟨w.heap.size, 2, none⟩ = some (.slice none 0 0) := HH.out.2.2.1.cell 2
      have zf0 := HH.out.2.2.1.free 0
      have zf1 := HH.out.2.2.1.free 1
      have zf2 := HH.out.2.2.1.free 2
      clear hE
      go_wp2
      refine bodyPost_ret (v := .tuple #[.agg #[.int .i64 0, .int .i64 0, .slice none 0 0], .bool false]) (by simp [results, Try.results36, go_sem, *]) rfl ?_
      rw [HE.out]
      exact ⟨.slice none 0 0, rfl, conf_store (A := none) (n := 0) (g := 0) (G := []) (c := CS.zero) HH.out.2.1 HH.out.2.2.2 (held.nil _ _) (by simp) (keepBut.refl _ _)⟩
end Go.Proofs.Ytbjonlfjfjlelaa
