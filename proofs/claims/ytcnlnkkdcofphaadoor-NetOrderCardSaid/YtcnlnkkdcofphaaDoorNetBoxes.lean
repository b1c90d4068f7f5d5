/-
  NETBOXES: what a box answers, call by call; the law's walk.
-/
import Derived.Test.YtcnlnkkdcofphaaDoorNet11
import Derived.Test.YtcnlnkkdcofphaaDoorOpen
namespace Go.Proofs.YtcnlnkkdcofphaaDoor
open Go.RowKit
set_option linter.unusedVariables false
set_option maxRecDepth 100000
set_option linter.unusedSimpArgs false

theorem bd_b {a : Int} (h : (Lit.int .i64 a).wf = true) : -9223372036854775808 ≤ a ∧ a ≤ 9223372036854775807 := by simpa [Lit.wf, IntKind.min, IntKind.max, IntKind.signed, IntKind.bits] using h
/-- a box with L, an empty one, a list that holds L as well -/
structure boxS (w wx : World) (b q o r R : Nat) (v : Value) (L : List Int) : Prop where
  one : isB wx b q R L
  two : isB wx o r 1 []
  own : ownsO wx 3 1 v L.length (L.map (Value.int .i64))
  kept : keepBut [] w wx
  new : w.heap.size ≤ q ∧ w.heap.size ≤ r ∧ (∀ x ∈ homes v, w.heap.size ≤ x) ∧ b ≠ r ∧ o ≠ q ∧ q ≠ r
theorem ownsO.chan {w : World} {q cap n : Nat} {buf xs : List Value} {v : Value} (h : ownsO w 3 1 v n xs) (hc : chanAt w q cap buf) : q ∉ homes v := by
  rcases h.2 with ⟨rfl, _⟩ | ⟨g, off, cap, cur, rfl, hr, _⟩
  · simp [homes_none]
  · simp only [homes_some, List.mem_singleton]
    exact fun e => hc.row hr e.symm
theorem boxS.box {w wx wy : World} {b q o r R : Nat} {v : Value} {L L' : List Int} (h : boxS w wx b q o r R v L) (k : keepBut [q] wx wy) (h' : isB wy b q R L') :
    isB wy b q R L' ∧ isB wy o r 1 [] ∧ ownsO wy 3 1 v L.length (L.map (Value.int .i64)) ∧ keepBut [] w wy :=
  ⟨h', h.two.keep k (by simp [h.new.2.2.2.2.1]) (by simp [h.new.2.2.2.2.2.symm]), h.own.keep k (fun x hx hm => h.own.chan h.one.2 ((List.mem_singleton.1 hm) ▸ hx)), h.kept.up k (by simp [h.new.1])⟩
def boxR (w : World) (b q o r R n : Nat) (v9 v10 : Value) (wx : World) : Prop :=
  ∃ (i : Nat) (L : List Int), v10 = .int .i64 (i : Int) ∧ i ≤ n ∧ i ≤ 200 ∧ L.length ≤ R ∧ boxS w wx b q o r R v9 L
theorem ownsO.over {w w' : World} {e : TypeId} {sz n : Nat} {v : Value} {xs : List Value} (h : ownsO w e sz v n xs) (k : keepBut [] w w') : ownsO w' e sz v n xs := h.keep k (by simp)
theorem boxS.more {w wx wy w5 : World} {b q o r R : Nat} {v u : Value} {L : List Int} {x : Int} {ob : Obj} (h : boxS w wx b q o r R v L)
    (y : isB wy b q R (L ++ [x]) ∧ isB wy o r 1 [] ∧ ownsO wy 3 1 v L.length (L.map (Value.int .i64)) ∧ keepBut [] w wy)
    (o5 : ownsO w5 3 1 u (L.length + 1) (L.map (Value.int .i64) ++ [.int .i64 x])) (k5 : keepBut (homes v) (wy.alloc ob) w5) (h5 : ∀ z ∈ homes u, z ∈ homes v ∨ (wy.alloc ob).heap.size ≤ z) : boxS w w5 b q o r R u (L ++ [x]) := by
  obtain ⟨y1, y2, y3, y4⟩ := y
  have ka := (keepBut.refl [] wy).alloc ob
  have z1 := y1.over ka
  have z2 := y2.over ka
  have z3 := y3.over ka
  have z4 := y4.then ka (by simp)
  refine ⟨z1.keep k5 (fun hm => z3.apart z1.1 (by decide) hm) (fun hm => z3.chan z1.2 hm), z2.keep k5 (fun hm => z3.apart z2.1 (by decide) hm) (fun hm => z3.chan z2.2 hm), by simpa using o5, z4.up k5 h.new.2.2.1, ⟨h.new.1, h.new.2.1, fun z hz => ?_, h.new.2.2.2⟩⟩
  rcases h5 z hz with h1 | h1
  · exact h.new.2.2.1 z h1
  · exact Nat.le_trans z4.size h1
theorem own_first {w : World} {A : Option Addr} {n c : Nat} {y : Int} {L : List Int} (h : ownsO w 3 1 (.slice A n c) (y :: L).length ((y :: L).map (Value.int .i64))) : ∃ g o, A = some ⟨g, o, none⟩ ∧ n ≤ c ∧ w.cell? ⟨g, o, none⟩ = some (.int .i64 y) := by
  obtain ⟨A', c', e, h1, _⟩ := h.form
  injection e with e1 e2 e3
  subst e2 e3
  obtain ⟨g, o, rfl, _, _, h4⟩ := h.cell (by simp)
  exact ⟨g, o, rfl, h1, by have := h4 0 (.int .i64 y) rfl; simpa using this⟩
theorem boxS.less {w wx wy : World} {b q o r R g9 o9 c9 m o' c' : Nat} {y : Int} {L : List Int} (h : boxS w wx b q o r R (.slice (some ⟨g9, o9, none⟩) (m + 1) c9) (y :: L))
    (z : isB wy b q R L ∧ isB wy o r 1 [] ∧ ownsO wy 3 1 (.slice (some ⟨g9, o9, none⟩) (m + 1) c9) (y :: L).length ((y :: L).map (Value.int .i64)) ∧ keepBut [] w wy) (hm : L.length = m)
    (ho : (o' = o9 ∧ c' = 0 ∧ c9 = 1) ∨ (o' = o9 + 1 ∧ c' = c9 - 1)) : boxS w wy b q o r R (.slice (some ⟨g9, o', none⟩) m c') L := by
  obtain ⟨y1, y2, y3, y4⟩ := z
  refine ⟨y1, y2, ?_, y4, ⟨h.new.1, h.new.2.1, by have := h.new.2.2.1; simpa [homes_some] using this, h.new.2.2.2⟩⟩
  rcases y3.2 with ⟨e, _⟩ | ⟨g, off, cap, cur, e, hr, h1, h2, h3, h4⟩
  · cases e
  injection e with e1 e2 e3
  injection e1 with e1
  injection e1 with e4 e5
  subst e3 e4 e5
  simp only [List.length_cons] at h1 h4
  refine ⟨by simp, .inr ⟨g9, o', c', cur, by rw [hm], hr, by omega, by omega, by omega, fun j hj => ?_⟩⟩
  rcases ho with ⟨rfl, rfl, h9⟩ | ⟨rfl, rfl⟩
  · omega
  · have := h4 (j + 1) (by omega)
    rw [show o9 + 1 + j = o9 + (j + 1) by omega, this]
    simp
set_option maxHeartbeats 16000000 in
theorem netBoxes_law (room : Int) (A : Option Addr) (g n c : Nat) (xs : List Int) (w : World) (hroom : (Lit.int .i64 room).wf = true) (rd : reads w A g n 1 (cellsK .i64 xs)) (hn : n ≤ c) (hc : c ≤ maxLen) (wf : ∀ x ∈ xs, (Lit.int .i64 x).wf = true) (hfl : fieldsAt w) :
    Calls Tryd.prog 4 #[.int .i64 room, .slice A n c] w fun e w' => e = .returned (.bool true) ∧ keepBut [] w w' := by
  have hxl : xs.length = n := by have := rd.1; simp [cellsK] at this; omega
  unfold maxLen at hc
  have HX := Lib.hid (And.intro rd (And.intro wf hxl))
  have HFL := Lib.hid hfl
  clear rd wf hxl hfl
  by_cases hv : 1 ≤ room ∧ room ≤ 64
  · obtain ⟨R, rfl⟩ : ∃ R : Nat, room = R := ⟨room.toNat, by omega⟩
    obtain ⟨hv1, hv2⟩ := hv
    go_enter Tryd.func4, Tryd.ntmps4
    go_upto_region 2 with (go_at_call 20; refine (newBox (R : Int) _ ⟨hv1, hv2⟩).mono ?_; rintro e w1 ⟨b, q, rfl, h1, k1, l1, l1'⟩; have B1 := Lib.hid (show isB w1 b q R [] ∧ keepBut [] w w1 ∧ w.heap.size ≤ b ∧ w.heap.size ≤ q from ⟨h1, k1, l1, l1'⟩); clear h1 k1 l1 l1')
    go_upto_region 3 with (go_at_call 20; refine (newBox 1 _ ⟨by omega, by omega⟩).mono ?_; rintro e w2 ⟨o, r, rfl, h2, k2, l2, l2'⟩; have B2 := Lib.hid (show boxS w w2 b q o r R (.slice none 0 0) [] from (have hb := B1.out.1.lt; ⟨B1.out.1.over k2, h2, ownsO.nil _ _ _, B1.out.2.1.then k2 (by simp), ⟨B1.out.2.2.2, by have := B1.out.2.1.size; omega, by simp [homes_none], by omega, by omega, by omega⟩⟩)); clear h2 k2 l2 l2')
    clear B1
    go_upto_region 7 with fail
    go_loopw [9, 10, 11, 12] (fun v9 v10 _ _ wx => boxR w b q o r R n v9 v10 wx) (fun _ v10 _ _ _ => n - (intOf v10).toNat)
    case atStart => exact ⟨0, [], rfl, Nat.zero_le _, by omega, Nat.zero_le _, B2.out⟩
    case round =>
      clear B2
      obtain ⟨i, L, rfl, hiN, hi200, hLR, hB⟩ := hrel
      by_cases hlt : i < n ∧ i < 200
      · obtain ⟨hi1, hi2⟩ := hlt
        obtain ⟨go, rfl, hgl, hcell⟩ := HX.out.1.2 (by omega)
        obtain ⟨x, hx⟩ : ∃ x, xs[i]? = some x := ⟨_, List.getElem?_eq_getElem (by rw [HX.out.2.2]; exact hi1)⟩
        have cx := (hB.kept.cell (p := ⟨g, go + i, none⟩) hgl (by simp)).trans (hcell i (.int .i64 x) (by simp [cellsK, hx]))
        have hxb := bd_b (HX.out.2.1 x (List.mem_of_getElem? hx))
        have hi1' : (i : Int) < (n : Int) := by omega
        have hi2' : (i : Int) < 200 := by omega
        have hi0 : (0 : Int) ≤ (i : Int) := by omega
        have hwi : IntKind.i64.wrap ((i : Int) + 1) = (i : Int) + 1 := by rw [IntKind.wrap_i64]; omega
        obtain ⟨A9, c9, rfl, hc9, hm9, _⟩ := hB.own.form
        have HB := Lib.hid hB
        have HL := Lib.hid hLR
        clear hx hgl hcell hB hLR
        have hk : (x.tmod 3 ≠ 0 ∧ x.tmod 5 ≠ 0) ∨ x.tmod 3 = 0 ∨ (x.tmod 3 ≠ 0 ∧ x.tmod 5 = 0) := by omega
        rcases hk with ⟨hk3, hk5⟩ | hk3 | ⟨hk3, hk5⟩
        · skip
          have e3 : (x.tmod 3 != 0) = true := by simpa using hk3
          have e5 : (x.tmod 5 != 0) = true := by simpa using hk5
          have d3 : (x.tmod 3 == 0) = false := by simpa using hk3
          clear hk3 hk5
          by_cases hr : L.length < R
          · have hr' : (L.length : Int) < (R : Int) := by omega
            have PB := Lib.hid (putB_room b q R L x wr HB.out.one hr)
            clear hr
            obtain ⟨i0, hi0', hz0, hz1, hz2⟩ := info_parts infoIntc
            have HZ0 := Lib.hid (And.intro hi0' (And.intro hz0 (And.intro hz1 hz2)))
            clear hi0' hz0 hz1 hz2
            go_wp2_with (first
              | (go_at_call 21; (with_reducible refine PB.out.mono ?_); rintro e wy ⟨rfl, h1, k1⟩; have Y := Lib.hid (HB.out.box k1 h1); have cy := (k1.cell (p := ⟨g, go + i, none⟩) (World.block_lt_of_cell? _ _ cx) (by simp only [List.mem_singleton]; exact fun e => by have := HB.out.new.1; have := HX.out.1.2; omega)).trans cx; clear h1 k1)
              | (at_builtin; refine wp_appendO _ rfl _ _ 35 rfl 3 i0 (.int .i64 0) 1 8 Tryd.underlying35 HZ0.out.1 HZ0.out.2.1 HZ0.out.2.2.1 HZ0.out.2.2.2 rfl (by decide) (.slice A9 L.length c9) L.length _ rfl (Y.out.2.2.1.over ((keepBut.refl [] wy).alloc _)) (some ⟨wy.heap.size, 0, none⟩) wy.heap.size 1 1 [.int .i64 x] (by simp [Act.eval]) (reads_one wy 3 (.int .i64 x)) (by intro u hu; simp at hu; subst hu; rfl) (by decide) (by omega) (by unfold maxLen; omega) ?_; intro A5 c5 w5 o5 k5 h5; have O5 := Lib.hid (And.intro o5 (And.intro k5 h5)); clear o5 k5 h5))
            go_roundw
            case rel => exact ⟨i + 1, L ++ [x], by go_num, by omega, by omega, by simp; omega, boxS.more HB.out Y.out O5.out.1 O5.out.2.1 O5.out.2.2⟩
            case measure => simp [intOf]; omega
          · have hr' : ¬ (L.length : Int) < (R : Int) := by omega
            have PB := Lib.hid (putB_full b q R L x wr HB.out.one (by omega))
            clear hr
            go_wp2_with (go_at_call 21; (with_reducible refine PB.out.mono ?_); rintro e wy ⟨rfl, rfl⟩)
            go_roundw
            case rel => exact ⟨i + 1, L, by go_num, by omega, by omega, HL.out, HB.out⟩
            case measure => simp [intOf]; omega
        · skip
          have e3 : (x.tmod 3 != 0) = false := by simpa using hk3
          have d3 : (x.tmod 3 == 0) = true := by simpa using hk3
          clear hk3
          cases L with
          | nil =>
            have PB := Lib.hid (takeB_none b q R wr HB.out.one)
            have PL := Lib.hid (lenB b q R [] wr HB.out.one)
            have PM := Lib.hid (lenB o r 1 [] wr HB.out.two)
            go_wp2_with (first
              | (go_at_call 22; (with_reducible refine PB.out.mono ?_); rintro e w' ⟨rfl, rfl⟩)
              | (go_at_call 24; (with_reducible refine PL.out.mono ?_); rintro e w' ⟨rfl, rfl⟩)
              | (go_at_call 24; (with_reducible refine PM.out.mono ?_); rintro e w' ⟨rfl, rfl⟩))
            go_roundw
            case rel => exact ⟨i + 1, [], by go_num, by omega, by omega, HL.out, HB.out⟩
            case measure => simp [intOf]; omega
          | cons y L =>
            obtain ⟨m, hm⟩ : ∃ m, L.length = m := ⟨_, rfl⟩
            obtain ⟨g9, o9, rfl, hg9, c90⟩ := own_first HB.out.own
            have PB := Lib.hid (takeB_some b q R L y wr HB.out.one)
            have HC := Lib.hid (And.intro hg9 hm)
            clear hg9
            simp only [List.length_cons, hm] at hc9 hm9 HB HL ⊢
            go_upto_region 18 with (go_at_call 22; (with_reducible refine PB.out.mono ?_); rintro e wy ⟨rfl, h1, k1⟩; have Y := Lib.hid (HB.out.box k1 h1); clear h1 k1)
            have y0 : wy.cell? ⟨g9, o9, none⟩ = some (.int .i64 y) := by
              obtain ⟨g8, o8, e8, _, h8⟩ := own_first (Y.out.2.2.1)
              injection e8 with e8
              injection e8 with e8 e9
              subst e8 e9
              exact h8
            have PL := Lib.hid (show Calls Tryd.prog 24 #[.pointer (some ⟨b, 0, none⟩)] wy (fun e w' => e = .returned (.int .i64 (m : Int)) ∧ wy = w') by rw [← HC.out.2]; exact lenB b q R L wy Y.out.1)
            have PM := Lib.hid (lenB o r 1 [] wy Y.out.2.1)
            have hc1 : 1 ≤ c9 := by omega
            by_cases hq1 : c9 = 1
            all_goals
              go_wp2_with (first
                | (go_at_call 24; (with_reducible refine PL.out.mono ?_); rintro e w' ⟨rfl, rfl⟩)
                | (go_at_call 24; (with_reducible refine PM.out.mono ?_); rintro e w' ⟨rfl, rfl⟩))
              go_roundw
              case rel => exact ⟨i + 1, L, by go_num, by omega, by omega, by have := HL.out; have := HC.out.2; omega, boxS.less HB.out Y.out HC.out.2 (by first | exact .inl ⟨rfl, rfl, hq1⟩ | exact .inr ⟨rfl, rfl⟩)⟩
              case measure => simp [intOf]; omega
        · skip
          have e3 : (x.tmod 3 != 0) = true := by simpa using hk3
          have e5 : (x.tmod 5 != 0) = false := by simpa using hk5
          have d3 : (x.tmod 3 == 0) = false := by simpa using hk3
          clear hk3 hk5
          cases L with
          | nil =>
            have PB := Lib.hid (firstB_none o r 1 (.pointer (some ⟨b, 0, none⟩)) wr (.int .i64 0) false (fun w' => wr = w') HB.out.two (takeB_none b q R wr HB.out.one))
            have PL := Lib.hid (lenB b q R [] wr HB.out.one)
            have PM := Lib.hid (lenB o r 1 [] wr HB.out.two)
            go_wp2_with (first
              | (go_at_call 23; (with_reducible refine PB.out.mono ?_); rintro e w' ⟨rfl, rfl⟩)
              | (go_at_call 24; (with_reducible refine PL.out.mono ?_); rintro e w' ⟨rfl, rfl⟩)
              | (go_at_call 24; (with_reducible refine PM.out.mono ?_); rintro e w' ⟨rfl, rfl⟩))
            go_roundw
            case rel => exact ⟨i + 1, [], by go_num, by omega, by omega, HL.out, HB.out⟩
            case measure => simp [intOf]; omega
          | cons y L =>
            obtain ⟨m, hm⟩ : ∃ m, L.length = m := ⟨_, rfl⟩
            obtain ⟨g9, o9, rfl, hg9, c90⟩ := own_first HB.out.own
            have PB := Lib.hid (firstB_none o r 1 (.pointer (some ⟨b, 0, none⟩)) wr (.int .i64 y) true (fun w' => isB w' b q R L ∧ keepBut [q] wr w') HB.out.two (takeB_some b q R L y wr HB.out.one))
            have HC := Lib.hid (And.intro hg9 hm)
            clear hg9
            simp only [List.length_cons, hm] at hc9 hm9 HB HL ⊢
            go_upto_region 18 with (go_at_call 23; (with_reducible refine PB.out.mono ?_); rintro e wy ⟨rfl, h1, k1⟩; have Y := Lib.hid (HB.out.box k1 h1); clear h1 k1)
            have y0 : wy.cell? ⟨g9, o9, none⟩ = some (.int .i64 y) := by
              obtain ⟨g8, o8, e8, _, h8⟩ := own_first (Y.out.2.2.1)
              injection e8 with e8
              injection e8 with e8 e9
              subst e8 e9
              exact h8
            have PL := Lib.hid (show Calls Tryd.prog 24 #[.pointer (some ⟨b, 0, none⟩)] wy (fun e w' => e = .returned (.int .i64 (m : Int)) ∧ wy = w') by rw [← HC.out.2]; exact lenB b q R L wy Y.out.1)
            have PM := Lib.hid (lenB o r 1 [] wy Y.out.2.1)
            have hc1 : 1 ≤ c9 := by omega
            by_cases hq1 : c9 = 1
            all_goals
              go_wp2_with (first
                | (go_at_call 24; (with_reducible refine PL.out.mono ?_); rintro e w' ⟨rfl, rfl⟩)
                | (go_at_call 24; (with_reducible refine PM.out.mono ?_); rintro e w' ⟨rfl, rfl⟩))
              go_roundw
              case rel => exact ⟨i + 1, L, by go_num, by omega, by omega, by have := HL.out; have := HC.out.2; omega, boxS.less HB.out Y.out HC.out.2 (by first | exact .inl ⟨rfl, rfl, hq1⟩ | exact .inr ⟨rfl, rfl⟩)⟩
              case measure => simp [intOf]; omega
      · have hx : ¬ ((i : Int) < (n : Int)) ∨ ((i : Int) < (n : Int) ∧ ¬ (i : Int) < 200) := by omega
        have PW := Lib.hid (works_any wr (HFL.out.keep hB.kept (by simp)))
        have KW := Lib.hid hB.kept
        obtain ⟨A9, c9, rfl, hc9, hm9, _⟩ := hB.own.form
        clear hB hLR hlt
        rcases hx with hx | ⟨hx1, hx2⟩
        all_goals
          go_wp2_with (go_at_call 19; (with_reducible refine PW.out.mono ?_); rintro e wy ⟨rfl, ky⟩; have KY := Lib.hid ky; clear ky)
          go_ret
          exact ⟨rfl, KW.out.then KY.out (by simp)⟩
  · have hv' : room < 1 ∨ (¬ room < 1 ∧ 64 < room) := by omega
    have PW := Lib.hid (newBox_no room w hv)
    have hrb := bd_b hroom
    clear hv
    rcases hv' with hv' | ⟨hv1, hv2⟩
    all_goals
      go_enter Tryd.func4, Tryd.ntmps4
      go_upto_region 2 with (go_at_call 20; (with_reducible refine PW.out.mono ?_); rintro e w1 ⟨rfl, rfl⟩)
      go_upto_region 3 with (go_at_call 20; refine (newBox 1 _ ⟨by omega, by omega⟩).mono ?_; rintro e w2 ⟨o, r, rfl, h2, k2, l2, l2'⟩; have K2 := Lib.hid k2; clear h2 k2 l2 l2')
      have PX := Lib.hid (works_any w2 (HFL.out.keep K2.out (by simp)))
      go_upto_region 7 with fail
      go_loopw [9, 10, 11, 12] (fun _ v10 _ _ wx => v10 = .int .i64 0 ∧ wx = w2) (fun _ _ _ _ _ => 0)
      case atStart => exact ⟨rfl, rfl⟩
      case round =>
        obtain ⟨rfl, rfl⟩ := hrel
        by_cases hn0 : (0 : Int) < (n : Int)
        all_goals
          go_wp2_with (go_at_call 19; (with_reducible refine PX.out.mono ?_); rintro e wy ⟨rfl, ky⟩; have KY := Lib.hid ky; clear ky)
          go_ret
          exact ⟨rfl, K2.out.then KY.out (by simp)⟩
end Go.Proofs.YtcnlnkkdcofphaaDoor
