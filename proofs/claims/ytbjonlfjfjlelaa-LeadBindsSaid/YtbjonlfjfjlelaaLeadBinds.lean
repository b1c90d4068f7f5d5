/-
  LeadBinds: the bound of a number is the vote of the greatest ballot that was told of it, in whatever order votes come.
-/
import Derived.Test.YtbjonlfjfjlelaaLeadBindsPure
import Derived.Test.YtbjonlfjfjlelaaTrios
import Derived.Test.YtbjonlfjfjlelaaBits
import Derived.BigQuiet
import Derived.Deep.RegionHeld3
import Derived.Laws.Cover1
import Derived.Deep.CutBlock
namespace Go.Proofs.Ytbjonlfjfjlelaa
open Go.RowKit
set_option linter.unusedVariables false
set_option maxRecDepth 100000

theorem bring_is (i n m : Int) (h : i % n = m) (hi : -9223372036854775808 ≤ i) (hi' : i ≤ 9223372036854775807) (hn : 0 < n) (hn' : n ≤ 9223372036854775807) (w : World) :
    Calls Try.prog 38 #[.int .i64 i, .int .i64 n] w fun e w' => e = .returned (.int .i64 m) ∧ w = w' := by
  rw [← h]; exact bring_any i n hi hi' hn hn' w
def voteZero : Value := .agg #[.int .i64 0, .int .i64 0, .int .i64 0, .slice none 0 0]
theorem infoVote : (Try.prog.info? 78).map (fun i => (i.zero, i.size, i.bytes)) = some (some voteZero, 4, 48) := by kernel_rfl
theorem reads_row {w : World} {g : Nat} {t : TypeId} {cs : Array Value} (h : rowAt w g t cs) (n sz : Nat) (hn : cs.size = n * sz) : reads w (some ⟨g, 0, none⟩) g n sz cs.toList := by
  refine ⟨by simpa using hn, fun _ => ⟨0, rfl, h.lt, fun j u hu => ?_⟩⟩
  rw [h.cell]
  simpa using hu
def bindMid (w0 : World) (v11 : Value) (wx : World) : Prop := ∃ (L : List (VS × Value)) (G : List Nat), L.length ≤ 12 ∧ votesAre w0 wx v11 L G
def bindsLoop (w : World) (p : Nat) (F : List Nat) (s : LS) (v : Value) (L : List (VS × Value)) (G : List Nat) (v14 : Value) (wx : World) : Prop :=
  ∃ k : Nat, k ≤ 8 ∧ v14 = .int .i64 (k : Int) ∧ lOn w wx p F s ∧ votesAre w wx v L G
def bestRel (frm : Int) (k : Nat) (l : List VS) (i : Nat) (v15 v16 : Value) : Prop := ∃ j : Nat, j ≤ i ∧ v15 = .int .i64 (bestV frm k (l.take j)) ∧ v16 = .int .i64 (j : Int)
def bindRel (w0 : World) (n : Nat) (v11 v12 : Value) (wx : World) : Prop :=
  ∃ (i : Nat) (L : List (VS × Value)) (G : List Nat), i ≤ n ∧ i ≤ 12 ∧ L.length = i ∧ v12 = .int .i64 (i : Int) ∧ votesAre w0 wx v11 L G

set_option maxHeartbeats 4000000 in
theorem leadBinds_walk (x0 : Int) (A : Option Addr) (n d : Nat) (x2 : Int) (w : World) (hx0 : (Lit.int .i64 x0).wf = true) (ps : trios w A n) (hnd : n ≤ d) (hd : d ≤ maxLen) (hx2 : (Lit.int .i64 x2).wf = true) :
    Calls Try.prog 8 #[.int .i64 x0, .slice A n d, .int .i64 x2] w (yesPost w) := by
  have hxb : -9223372036854775808 ≤ x0 ∧ x0 ≤ 9223372036854775807 := by simpa [Lit.wf, IntKind.min, IntKind.max, IntKind.signed, IntKind.bits] using hx0
  have hxc : -9223372036854775808 ≤ x2 ∧ x2 ≤ 9223372036854775807 := by simpa [Lit.wf, IntKind.min, IntKind.max, IntKind.signed, IntKind.bits] using hx2
  obtain ⟨fr, hfr⟩ : ∃ fr : Int, x0 % 5 = fr := ⟨_, rfl⟩
  have hfr0 : 0 ≤ fr := by have := Int.emod_nonneg x0 (show (5 : Int) ≠ 0 by omega); omega
  have hfr1 : fr < 5 := by have := Int.emod_lt_of_pos x0 (show (0 : Int) < 5 by omega); omega
  unfold maxLen at hd
  have HPS := Lib.hid ps
  have HFR := Lib.hid hfr
  clear ps hx0 hx2 hfr
  go_enter Try.func8, Try.ntmps8
  go_wp2_with fail
  refine (bring_is x0 5 fr HFR.out hxb.1 hxb.2 (by omega) (by omega) _).mono ?_; rintro e w' ⟨rfl, rfl⟩
  go_wp2_with fail
  refine (newL_any 0 _ (by omega) (by omega)).mono ?_; intro e w1 hq; obtain ⟨p, F1, rfl, h1⟩ := lOn.start (keepBut.refl [] w) hq; clear hq
  obtain ⟨frm, hfrm⟩ : ∃ frm, 1 + fr = frm := ⟨_, rfl⟩
  have hfrm0 : 1 ≤ frm ∧ frm ≤ 5 := by omega
  have HFRM := Lib.hid hfrm
  clear hfrm
  go_wp2_with fail
  rw [HFRM.out]
  refine (start_yes p F1 _ 20 frm _ h1.1 ⟨by simp [LS.new], by simp [LS.new], by simp [LS.new], by simp [LS.new], by simp [LS.new], by simp [LS.new]⟩ (by omega) (by omega) (by omega) (by omega)).mono ?_; rintro e w2 ⟨rfl, hl⟩; obtain ⟨F, h2⟩ := h1.step hl; clear hl h1
  rw [show (LS.new 0).start 20 frm = (21, 0, ⟨0, 1, 21, frm, 0, [], false, CS.zero, 0⟩) by unfold LS.start; rw [if_neg (by omega)]; rfl] at h2 ⊢
  have H2 := Lib.hid h2
  clear h2
  go_upto_block 0 with fail
  go_cut [11] (fun v11 wx => bindMid w2 v11 wx)
  case first =>
   go_wp2_with fail
   go_loopw [11, 12] (fun v11 v12 wx => bindRel w2 n v11 v12 wx) (fun _ v12 _ => n - (intOf v12).toNat)
   case atStart => exact ⟨0, [], [], by omega, by omega, rfl, rfl, votesAre.nil w2⟩
   case round =>
     obtain ⟨i, L, G, hi, hi12, hLl, rfl, hv⟩ := hrel
     by_cases hlt : i < n ∧ i < 12
     · obtain ⟨hlt1, hlt2⟩ := hlt
       have hlt1' : (i : Int) < (n : Int) := by omega
       have hlt2' : (i : Int) < 12 := by omega
       obtain ⟨gA, o, rfl, hgA, hall⟩ := HPS.out (by omega)
       obtain ⟨x, y, z, cx, cy, cz, wx, wy, wz⟩ := hall i hlt1
       have hkw := H2.out.2.2.then hv.kept (by simp)
       have hkc := fun q => hkw.cell (p := ⟨gA, q, none⟩) hgA (by simp)
       have hgA2 : gA < wr.heap.size := Nat.lt_of_lt_of_le hgA hkw.size
       rw [← hkc] at cx cy
       have hxb : -9223372036854775808 ≤ x ∧ x ≤ 9223372036854775807 := by simpa [Lit.wf, IntKind.min, IntKind.max, IntKind.signed, IntKind.bits] using wx
       have hyb : -9223372036854775808 ≤ y ∧ y ≤ 9223372036854775807 := by simpa [Lit.wf, IntKind.min, IntKind.max, IntKind.signed, IntKind.bits] using wy
       obtain ⟨b, hb⟩ : ∃ b, x % 24 = b := ⟨_, rfl⟩
       obtain ⟨m, hm⟩ : ∃ m, y % 8 = m := ⟨_, rfl⟩
       have hb0 : 0 ≤ b ∧ b < 24 := by omega
       have hm0 : 0 ≤ m ∧ m < 8 := by omega
       have hten : IntKind.i64.wrap (10 + b) = 10 + b := wraps_i64 _ (by omega) (by omega)
       obtain ⟨A11, c11, rfl, _⟩ := hv.own.form
       have hown := hv.own
       rw [hLl] at hown
       have hnh : gA ∉ homes (.slice A11 i c11) := fun hm => by
         have := (hv.home gA (by rw [hLl]; exact hm)).1; have := H2.out.2.2.size; omega
       have HB := Lib.hid (And.intro hb hm)
       have HV := Lib.hid (And.intro hv (And.intro hLl hown))
       clear hv hown hb hm wx wy wz cz hall hkc hkw
       obtain ⟨i0, hi0, hz0, hz1, hz2⟩ := info_parts infoVote
       go_upto_region 12 with fail
       go_region_held3 (fun w' => w'.cell? ⟨gA, o + i * 3, none⟩ = some (.int .i64 x) ∧ w'.cell? ⟨gA, o + i * 3 + 1, none⟩ = some (.int .i64 y)) (first | exact ⟨cx, cy⟩ | exact ⟨cx5, cy5⟩ | exact ⟨cx6, cy6⟩ | exact ⟨cx7, cy7⟩)
         (first
           | (go_at_call 38; (with_reducible refine (bring_is x 24 b HB.out.1 hxb.1 hxb.2 (by omega) (by omega) _).mono ?_); rintro e w' ⟨rfl, rfl⟩)
           | (go_at_call 38; (with_reducible refine (bring_is y 8 m HB.out.2 hyb.1 hyb.2 (by omega) (by omega) _).mono ?_); rintro e w' ⟨rfl, rfl⟩)
           | (go_at_call 42; (with_reducible refine (conf_any m (10 + b) _).mono ?_); intro e w5 hq5; obtain ⟨A5, n5, G5, rfl, hh5, hG5, hk5⟩ := hq5.arg; clear hq5; have hkd := ((keepBut.refl [] wr).drew).then hk5 (by simp); have cx5 := (hk5.cell (p := ⟨gA, o + i * 3, none⟩) hgA2 (by simp)).trans cx; have cy5 := (hk5.cell (p := ⟨gA, o + i * 3 + 1, none⟩) hgA2 (by simp)).trans cy; have ka5 := (keepBut.refl [] w5).alloc (.cells #[.int .i64 b, .int .i64 m, .int .i64 1, .slice A5 1 n5] 78); have cx6 := (ka5.cell (p := ⟨gA, o + i * 3, none⟩) (Nat.lt_of_lt_of_le hgA2 hk5.size) (by simp)).trans cx5; have cy6 := (ka5.cell (p := ⟨gA, o + i * 3 + 1, none⟩) (Nat.lt_of_lt_of_le hgA2 hk5.size) (by simp)).trans cy5)
           | (refine step_append _ rfl (.tmp 46) (.tmp 68) 56 rfl 78 i0 voteZero 4 48 Try.underlying56 hi0 hz0 hz1 hz2 rfl (by decide) _ i (voteCells L) rfl ((HV.out.2.2.keep hkd (by simp)).keep ka5 (by simp)) (some ⟨w5.heap.size, 0, none⟩) w5.heap.size 1 1 _ rfl (reads_row (rowAt.new w5 78 #[.int .i64 b, .int .i64 m, .int .i64 1, .slice A5 1 n5]) 1 4 rfl) (by intro u hu; simp at hu; rcases hu with rfl | rfl | rfl | rfl <;> rfl) (by omega) (by unfold maxLen; omega) ?_; intro A7 c7 w7 hown7 hkb7 hloc7; have cx7 := (hkb7.cell (p := ⟨gA, o + i * 3, none⟩) (Nat.lt_of_lt_of_le hgA2 (hkd.then ka5 (by simp)).size) hnh).trans cx6; have cy7 := (hkb7.cell (p := ⟨gA, o + i * 3 + 1, none⟩) (Nat.lt_of_lt_of_le hgA2 (hkd.then ka5 (by simp)).size) hnh).trans cy6))
       have HA : Hid (votesAre w2 w7 (.slice A7 (i + 1) c7) (L ++ [(voteOf b m, .slice A5 1 n5)]) (G5 ++ G)) := Lib.hid (by
         subst hLl
         exact HV.out.1.add (d := voteOf b m) (cv := .slice A5 1 n5) (w1 := w5) ⟨hb0.1, hb0.2, hm0.1, hm0.2, rfl⟩ hh5 hG5 hkd ka5 hown7 hkb7 hloc7)
       clear hown7 hkb7 hloc7 cx7 cy7 cx6 cy6 ka5 cx5 cy5 hkd hk5 hG5 hh5 hi0 hz0 hz1 hz2 cx cy
       go_wp2_with fail
       go_roundw
       case rel => exact ⟨i + 1, _, _, by omega, by omega, by simp [hLl], by go_num, HA.out⟩
       case measure => simp [intOf]; omega
     · have hor : ¬ (i : Int) < (n : Int) ∨ ((i : Int) < (n : Int) ∧ ¬ (i : Int) < 12) := by omega
       have HV := Lib.hid (And.intro hLl hv)
       clear hi hLl hv
       rcases hor with hor | ⟨hor, hor2⟩
       all_goals
         go_wp2_with fail
         go_meet
         exact ⟨L, G, by rw [HV.out.1]; exact hi12, HV.out.2⟩
  case rest =>
    obtain ⟨L, G, h12, hv⟩ := hcut
    obtain ⟨A11, c11, rfl, q1, q2, q3, q4⟩ := hv.part h12
    clear q3 q4
    obtain ⟨i, hLl⟩ : ∃ i, L.length = i := ⟨_, rfl⟩
    rw [hLl] at hv h12 q1 ⊢
    obtain ⟨nn, hnn⟩ : ∃ nn : Nat, x2 % ((i : Int) + 1) = (nn : Int) := ⟨(x2 % ((i : Int) + 1)).toNat, by have := Int.emod_nonneg x2 (show ((i : Int) + 1) ≠ 0 by omega); omega⟩
    have hnn1 : nn ≤ i := by have := Int.emod_lt_of_pos x2 (show (0 : Int) < (i : Int) + 1 by omega); omega
    have hnn2 : (nn : Int) ≤ (c11 : Int) := by omega
    have hnn3 : (nn : Int) ≤ (i : Int) := by omega
    have hnn4 : (0 : Int) ≤ (nn : Int) := by omega
    obtain ⟨s1, s2, hs1, hs2, t1, t2, t3, t4, t5, t6, t7⟩ := binds_two frm ((L.map (·.1)).take nn) ((L.map (·.1)).drop nn) (fun u hu => hv.goods u (List.mem_of_mem_take hu)) (fun u hu => hv.goods u (List.mem_of_mem_drop hu)) _ rfl
    rw [List.take_append_drop] at t7
    have hv1 := hv.first hLl h12 nn hnn1
    have hl2 := H2.out.over hv.kept
    have hlt2 := H2.out.1.lt
    have hGF : ∀ y ∈ homes (.slice A11 i c11) ++ G, y ∉ F ∧ y < wc.heap.size := fun y hy => by
      rcases List.mem_append.1 hy with hy | hy
      · exact ⟨fun hm => by have := hlt2 y hm; have := (hv.home y hy).1; omega, hv.own.lt y hy⟩
      · exact ⟨fun hm => by have := hlt2 y hm; have := (hv.new y hy).1; omega, (hv.new y hy).2⟩
    have HN := Lib.hid hnn
    have HV := Lib.hid (And.intro hv (And.intro hLl (And.intro hl2 (And.intro hv1 hGF))))
    have HS := Lib.hid (And.intro hs1 (And.intro hs2 (And.intro t6 t7)))
    clear hv hLl hnn hv1 hl2 hlt2 hGF hs1 hs2 t6 t7
    go_wp2_with fail
    refine (bring_is x2 _ nn HN.out hxc.1 hxc.2 (by omega) (by omega) _).mono ?_; rintro e w' ⟨rfl, rfl⟩
    go_wp2_with fail
    refine (promise_yes p F _ ⟨0, 1, 21, frm, 0, [], false, CS.zero, 0⟩ 1 (.slice A11 nn c11) _ _ HV.out.2.2.1.1 ⟨by simp, by simp, by simp, by simp, by simp, by simp⟩ (by omega) rfl HV.out.2.2.2.1 HV.out.2.2.2.2).mono ?_; rintro e w3 ⟨rfl, hl⟩
    rw [HS.out.1] at hl ⊢
    obtain ⟨F3, h3, hk3, hF3⟩ := HV.out.2.2.1.step2 hl
    have hle : w.heap.size ≤ w2.heap.size := H2.out.2.2.size
    have hv3 : votesAre w w3 (.slice A11 i c11) L G := HV.out.1.move hk3 (fun y hy => (HV.out.2.2.2.2 y hy).1) hle h3.2.2
    have hG3 : ∀ y ∈ homes (.slice A11 i c11) ++ G, y ∉ F3 ∧ y < w3.heap.size := fun y hy => by
      have := HV.out.2.2.2.2 y hy
      refine ⟨fun hm => ?_, Nat.lt_of_lt_of_le this.2 hk3.size⟩
      rcases hF3 y hm with h | h
      · exact this.1 h
      · omega
    have HLl := Lib.hid HV.out.2.1
    have H3 := Lib.hid (And.intro h3 (And.intro hv3 hG3))
    have HS2 := Lib.hid HS.out.2
    clear HV hl h3 hk3 hF3 hle hv3 hG3 HS
    go_upto_region 15 with fail
    go_cut [] (fun wx => ∃ F4, lOn w wx p F4 s2 ∧ votesAre w wx (.slice A11 i c11) L G)
    case first =>
      have hend : ∀ A', votesV w3 (homes (.slice A11 i c11) ++ G) A' ((L.map (·.1)).drop nn) → Calls Try.prog 43 #[.pointer (some ⟨p, 0, none⟩), .int .i64 2, .int .i64 21, A'] w3 fun e w' => e = .returned (.tuple #[.bool true, .int .i64 0]) ∧ ∃ F4, lOn w w' p F4 s2 ∧ votesAre w w' (.slice A11 i c11) L G := fun A' hA => by
        rw [← t3]
        refine (promise_yes p F3 _ s1 2 A' _ _ H3.out.1.1 ⟨by omega, by omega, by omega, by omega, by omega, by omega⟩ (by omega) t2 hA H3.out.2.2).mono ?_
        rintro e w4 ⟨rfl, hl⟩
        rw [t3, HS2.out.1] at hl ⊢
        obtain ⟨F4, h4, hk4, _⟩ := H3.out.1.step2 hl
        exact ⟨rfl, F4, h4, H3.out.2.1.move hk4 (fun y hy => (H3.out.2.2 y hy).1) (Nat.le_refl _) h4.2.2⟩
      have HE := Lib.hid hend
      clear hend
      cases A11 with
      | none =>
        obtain ⟨rfl, rfl, hL⟩ := H3.out.2.1.none HLl.out h12
        obtain rfl : nn = 0 := by omega
        go_wp2_with fail
        refine (HE.out (.slice none 0 0) (by rw [hL]; exact votesV.nil _ _)).mono ?_; rintro e w4 ⟨rfl, hx⟩
        go_wp2_with fail
        go_meet
        exact hx
      | some a =>
        obtain ⟨g, rfl⟩ := H3.out.2.1.zero HLl.out h12
        have HR := Lib.hid (fun A' => H3.out.2.1.rest HLl.out h12 nn hnn1 A')
        by_cases hcap : nn = c11
        · have hcap2 : (nn : Int) = (c11 : Int) := by omega
          have hcap3 : (c11 : Int) = (nn : Int) := by omega
          go_wp2_with fail
          refine (HE.out (.slice (some ⟨g, 0, none⟩) 0 0) (by have := HR.out (some ⟨g, 0, none⟩) (fun h => absurd h (by omega)); rw [show i - nn = 0 by omega, show c11 - nn = 0 by omega] at this; exact this)).mono ?_; rintro e w4 ⟨rfl, hx⟩
          go_wp2_with fail
          go_meet
          exact hx
        · have hcap2 : ¬ (nn : Int) = (c11 : Int) := by omega
          have hcap3 : ¬ (c11 : Int) = (nn : Int) := by omega
          go_wp2_with fail
          refine (HE.out _ (HR.out (some ⟨g, nn * 4, none⟩) (fun _ => rfl))).mono ?_; rintro e w4 ⟨rfl, hx⟩
          go_wp2_with fail
          go_meet
          exact hx
    case rest =>
      obtain ⟨F4, h4, hv4⟩ := hcut
      clear H3 HN hnn1 hnn2 hnn3 hnn4 t1 t2 t3 t4 t5
      have H4 := Lib.hid (And.intro h4 hv4)
      clear h4 hv4
      go_wp2_with fail
      go_loopw [14] (fun v14 wx => bindsLoop w p F4 s2 (.slice A11 i c11) L G v14 wx) (fun v14 _ => 8 - (intOf v14).toNat)
      case atStart => exact ⟨0, by omega, rfl, H4.out⟩
      case round =>
        obtain ⟨k, hk8, rfl, h5⟩ := hrel
        clear H4
        have H5 := Lib.hid h5
        clear h5
        by_cases hlt : k < 8
        · have hlt' : (k : Int) < 8 := by omega
          go_wp2_with fail
          go_loopw [15, 16] (fun v15 v16 wx => bestRel frm k (L.map (·.1)) i v15 v16 ∧ wx = wr) (fun _ v16 _ => i - (intOf v16).toNat)
          case atStart => exact ⟨⟨0, by omega, rfl, rfl⟩, rfl⟩
          case round =>
            obtain ⟨⟨j, hji, rfl, rfl⟩, rfl⟩ := hrel
            by_cases hlj : j < i
            · have hlj' : (j : Int) < (i : Int) := by omega
              obtain ⟨g, v, rfl, hvj, hvg, cb, cn⟩ := H5.out.2.cell HLl.out h12 j hlj
              obtain ⟨best, hbest⟩ : ∃ best, bestV frm k ((L.map (·.1)).take j) = best := ⟨_, rfl⟩
              have hnext := bestV_take frm k _ j v hvj
              rw [hbest] at hnext ⊢
              obtain ⟨vb, hvb⟩ : ∃ vb, v.bal = vb := ⟨_, rfl⟩
              obtain ⟨vn, hvn⟩ : ∃ vn, v.c.num = vn := ⟨_, rfl⟩
              unfold bestStep at hnext
              rw [hvb, hvn] at hnext
              rw [hvb] at cb
              rw [hvn] at cn
              have HNX := Lib.hid hnext
              clear hnext hvg hvb hvn hvj hbest
              go_wp2_with fail
              all_goals
                go_roundw
                case rel =>
                  refine ⟨⟨j + 1, by omega, ?_, by go_num⟩, trivial⟩
                  rw [HNX.out]
                  refine congrArg (Value.int .i64) ?_
                  repeat' split
                  all_goals omega
                case measure => simp [intOf]; omega
            · obtain rfl : j = i := by omega
              rw [List.take_of_length_le (by simp; have := HLl.out; omega)]
              obtain ⟨best, hbest⟩ : ∃ best, bestV frm k (L.map (·.1)) = best := ⟨_, rfl⟩
              have hb0 : 0 ≤ best := by rw [← hbest]; exact foldl_pos _ _ _ _ (by omega)
              have hb1 : best < 21 := by rw [← hbest]; exact foldl_lt _ _ _ _ (by omega)
              have hbo := HS2.out.2.2 k
              rw [hbest] at hbo ⊢
              have hor : best = 0 ∨ 0 < best := by omega
              clear hbest
              rcases hor with h0 | h0
              · subst h0
                rw [if_pos rfl] at hbo
                go_wp2_with fail
                refine (boundL_any p F4 s2 k _ H5.out.1.1).mono ?_; intro e w5 hq
                rw [hbo] at hq
                obtain ⟨A5, n5, G5, rfl, hh5, hk5⟩ := hq.held
                have hk6 := hk5.alloc (.cells #[.int .i64 0, .int .i64 0, .slice A5 0 n5] 55)
                have H6 := Lib.hid (And.intro (H5.out.1.over hk6) (H5.out.2.over hk6))
                clear hq hh5 hk5 hk6 hbo
                go_wp2_with fail
                go_roundw
                case rel => exact ⟨k + 1, by omega, by go_num, H6.out⟩
                case measure => simp [intOf]; omega
              · rw [if_neg (by omega)] at hbo
                go_wp2_with fail
                refine (boundL_any p F4 s2 k _ H5.out.1.1).mono ?_; intro e w5 hq
                rw [hbo] at hq
                obtain ⟨A5, n5, G5, rfl, hh5, hk5⟩ := hq.held
                have hk6 := hk5.alloc (.cells #[.int .i64 (k : Int), .int .i64 1, .slice A5 1 n5] 55)
                have hh6 := hh5.keep ((keepBut.refl [] w5).alloc (.cells #[.int .i64 (k : Int), .int .i64 1, .slice A5 1 n5] 55)) (by simp)
                have H6 := Lib.hid (And.intro (H5.out.1.over hk6) (And.intro (H5.out.2.over hk6) hh6))
                clear hq hh5 hk5 hk6 hbo hh6
                go_wp2_with fail
                refine (is_any G5 ⟨(k : Int), 1, [10 + best]⟩ (.slice A5 1 n5) k (10 + best) _ H6.out.2.2 rfl).mono ?_; rintro e w7 ⟨rfl, hk7⟩
                have H7 := Lib.hid (And.intro (H6.out.1.over hk7) (H6.out.2.1.over hk7))
                clear hk7
                go_wp2_with fail
                go_roundw
                case rel => exact ⟨k + 1, by omega, by go_num, H7.out⟩
                case measure => simp [intOf]; omega
        · obtain rfl : k = 8 := by omega
          go_wp2_with fail
          refine (phaseL_any p F4 _ _ H5.out.1.1).mono ?_; rintro e w5 ⟨rfl, rfl⟩
          rw [HS2.out.2.1]
          go_wp2_with fail
          refine (works_any _).mono ?_; rintro e w6 ⟨rfl, hkw⟩
          have HKW := Lib.hid (H5.out.1.2.2.then hkw (by simp))
          clear hkw
          go_wp2_with fail
          go_ret
          exact ⟨rfl, HKW.out⟩
end Go.Proofs.Ytbjonlfjfjlelaa
