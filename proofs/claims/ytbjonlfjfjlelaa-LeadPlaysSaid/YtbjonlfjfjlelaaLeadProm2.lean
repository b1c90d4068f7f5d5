/-
  LEAD: the law's own step, kind 2.
-/
import Derived.Test.YtbjonlfjfjlelaaLeadVotes
namespace Go.Proofs.Ytbjonlfjfjlelaa
open Go.RowKit
set_option linter.unusedVariables false
set_option maxRecDepth 100000

set_option maxHeartbeats 8000000 in
theorem step2cons_any (w0 w : World) (p : Nat) (F : List Nat) (s : LS) (q : Nat) (G : List Nat) (i : Nat) (k a b n : Int) (near : Bool) (num full : Int) (A7 : Option Addr) (n7 : Nat) (cl : List Int) (A8 : Option Addr) (c8 : Nat) (vl : List VS)
    (h : both w0 w p F s q G s []) (hin : inP s i) (hi : i < 60) (hk : -9223372036854775808 ≤ k ∧ k ≤ 9223372036854775807) (ha : -9223372036854775808 ≤ a ∧ a ≤ 9223372036854775807) (hcl : argI w0 (.slice A7 cl.length n7) cl) (hv1 : vl.length ≤ c8) (hv2 : c8 ≤ maxLen) (hv : argV w0 A8 vl) (hkind : k % 7 = 2) (hvl : vl ≠ []) :
    Calls Try.prog 29 #[.pointer (some ⟨p, 0, none⟩), .pointer (some ⟨q, 0, none⟩), .agg #[.int .i64 k, .int .i64 a, .int .i64 b, .int .i64 n, .bool near, .int .i64 num, .int .i64 full, .slice A7 cl.length n7, .slice A8 vl.length c8]] w (stepPost w0 p q i) := by
  unfold maxLen at hv2
  have HVL := Lib.hid hvl
  clear hvl
  have hra := rowAt.new w 58 (rowD k a b n near num full (.slice A7 cl.length n7) (.slice A8 vl.length c8))
  have hka := (keepBut.refl [] w).alloc (.cells (rowD k a b n near num full (.slice A7 cl.length n7) (.slice A8 vl.length c8)) 58)
  have hB := h.grow (E' := [w.heap.size]) hka (fun y hy => .inr (by rw [List.mem_singleton.1 hy]; exact ⟨Nat.le_refl _, hra.lt⟩))
  unfold rowD at hra hka hB
  clear hka h
  have HK := Lib.hid (And.intro hcl hv)
  clear hcl hv
  go_enter Try.func29, Try.ntmps29
  go_upto_region 1 with fail
  generalize w.alloc (.cells #[.int .i64 k, .int .i64 a, .int .i64 b, .int .i64 n, .bool near, .int .i64 num, .int .i64 full, .slice A7 cl.length n7, .slice A8 vl.length c8] 58) = wa at *
  generalize w.heap.size = ta at *
  have y2 : wa.cell? ⟨ta, 2, none⟩ = some (.int .i64 b) := hra.cell 2
  have y3 : wa.cell? ⟨ta, 3, none⟩ = some (.int .i64 n) := hra.cell 3
  have y4 : wa.cell? ⟨ta, 4, none⟩ = some (.bool near) := hra.cell 4
  have yf2 := hra.free 2
  have yf3 := hra.free 3
  have x1 := hB.m.c1
  have x9 := hB.m.c8.2
  have HA := Lib.hid (And.intro hra hB)
  clear hra hB
  go_upto_if 33 with fail
  go_cut [] (fun wx => stepIn w0 p F s q G ta k a near num full (.slice A7 cl.length n7) (.slice A8 vl.length c8) wx)
  case first =>
    cases near with
    | true =>
      go_wp2_with fail
      go_meet
      have hr := (HA.out.1.set 2 (.int .i64 s.bal)).set 3 (.int .i64 s.prop.num)
      have hk2 := ((keepBut.refl [ta] wa).setCell ⟨ta, 2, none⟩ (.int .i64 s.bal) (by simp)).setCell ⟨ta, 3, none⟩ (.int .i64 s.prop.num) (by simp)
      exact ⟨s.bal, s.prop.num, by simpa [rowD] using hr, HA.out.2.poke hk2 (by simp)⟩
    | false =>
      go_wp2_with fail
      go_meet
      exact ⟨b, n, HA.out.1, HA.out.2⟩
  case rest =>
    obtain ⟨b, n, hr, hB⟩ := hcut
    clear y2 y3 y4 yf2 yf3 x1 x9 HA
    generalize wc = w1 at *
    have y0 : w1.cell? ⟨ta, 0, none⟩ = some (.int .i64 k) := hr.cell 0
    have HR := Lib.hid (And.intro hr hB)
    clear hr hB
    go_wp2_with fail
    refine (bring_any k 7 hk.1 hk.2 (by omega) (by omega) _).mono ?_; rintro e w' ⟨rfl, rfl⟩
    clear y0
    rw [hkind]
    have HIN := Lib.hid hin
    clear hin
    obtain ⟨g8, o8, rfl, hg8, hcells⟩ := HK.out.2 HVL.out
    have HC := Lib.hid hcells
    clear hcells
    obtain ⟨i0, hi0, hz0, hz1, hz2⟩ := info_parts infoVoteM
    obtain ⟨row, hrow⟩ : ∃ row, rowD k a b n near num full (.slice A7 cl.length n7) (.slice (some ⟨g8, o8, none⟩) vl.length c8) = row := ⟨_, rfl⟩
    have hrow8 : row[8]? = some (.slice (some ⟨g8, o8, none⟩) vl.length c8) := by rw [← hrow]; rfl
    have hrow1 : row[1]? = some (.int .i64 a) := by rw [← hrow]; rfl
    have hrow2 : row[2]? = some (.int .i64 b) := by rw [← hrow]; rfl
    rw [hrow] at HR
    have HRW := Lib.hid (And.intro hrow8 (And.intro hrow1 hrow2))
    clear hrow hrow8 hrow1 hrow2
    obtain ⟨N, hN⟩ : ∃ N, vl.length = N := ⟨_, rfl⟩
    have hN0 : 0 < N := by rw [← hN]; exact List.length_pos_iff.2 HVL.out
    have HN0 := Lib.hid hN0
    clear hN0
    have HNL := Lib.hid hN
    rw [hN] at HRW hv1 ⊢
    clear hN
    go_upto_region 14 with fail
    go_upto_block 1 with fail
    go_cut [11, 12, 13, 14, 110, 111, 112, 113, 114, 115, 116, 117, 118] (fun v11 v12 _ _ _ _ _ _ _ _ _ _ _ wx => mkMid w0 p F s q G ta row (min 8 N) v11 v12 wx)
    case first =>
      go_wp2_with fail
      go_loopw [11, 12, 13, 14, 110, 111, 112, 113, 114, 115, 116, 117, 118] (fun v11 v12 v13 _ _ _ _ _ _ _ _ _ _ wx => mkRel w0 p F s q G ta row vl v11 v12 v13 wx) (fun _ _ v13 _ _ _ _ _ _ _ _ _ _ _ => 8 - (intOf v13).toNat)
      case atStart => exact ⟨0, [], [], [], by omega, by omega, rfl, HR.out.2.over (keepBut.refl _ _), HR.out.1, vts.nil _ _, by simp, by simp⟩
      case round =>
        obtain ⟨i2, T1, T2, C, hi8, hiN, rfl, hb, hr, hv, hT1, hT2⟩ := hrel
        rw [HNL.out] at hiN
        obtain ⟨A11, c11, rfl, -, hc11, -, -⟩ := hv.o1.form
        obtain ⟨A12, c12, rfl, -, hc12, -, -⟩ := hv.o2.form
        have y8 : wr.cell? ⟨ta, 8, none⟩ = some (.slice (some ⟨g8, o8, none⟩) N c8) := (hr.cell 8).trans HRW.out.1
        by_cases hlt : i2 < N ∧ i2 < 8
        · obtain ⟨hlt1, hlt2⟩ := hlt
          have hlt1' : (i2 : Int) < (N : Int) := by omega
          have hlt2' : (i2 : Int) < 8 := by omega
          obtain ⟨d, hd⟩ : ∃ d, vl[i2]? = some d := ⟨_, List.getElem?_eq_getElem (by rw [HNL.out]; exact hlt1)⟩
          obtain ⟨cvd, hcd, e0, e1, e2, e3⟩ := HC.out i2 d hd
          obtain ⟨db, dn, df, dch⟩ := d
          dsimp only at hcd e0 e1 e2 e3
          have hkw := hb.kept
          have hkc := fun o => hkw.cell (p := ⟨g8, o, none⟩) hg8 (by simp)
          rw [← hkc] at e0 e1 e2 e3
          obtain ⟨Ad, nd, gd, rfl, hd2, hd3, -, -⟩ := id hcd
          obtain ⟨-, -, H0, hh0, hH0⟩ := hcd.held8
          have hhr := hh0.range hH0
          have HDD := Lib.hid (And.intro hcd hd)
          have HV := Lib.hid (And.intro hb (And.intro hr (And.intro hv (And.intro hT1 (And.intro hT2 hhr)))))
          have hAA := Lib.hid (And.intro hd2 hd3)
          clear hb hr hv hT1 hT2 hd hhr hh0 hH0 hcd hkw hkc hd2 hd3
          go_upto_region 18 with fail
          have rt := rowAt.new wr 78 #[.int .i64 db, .int .i64 dn, .int .i64 df, .slice Ad dch.length nd]
          have kt := (keepBut.refl [] wr).alloc (.cells #[.int .i64 db, .int .i64 dn, .int .i64 df, .slice Ad dch.length nd] 78)
          have bt := HV.out.1.own (E' := wr.heap.size :: ta :: (C ++ homes (.slice A11 i2 c11) ++ homes (.slice A12 i2 c12))) kt (by simp) (fun y hy => by
            rcases List.mem_cons.1 hy with h | h
            · exact .inr ⟨by omega, by rw [h]; exact rt.lt⟩
            · exact .inl h)
          have vt := HV.out.2.2.1.over kt
          have hlt11 := HV.out.2.2.1.o1.lt4
          have hlt12 := HV.out.2.2.1.o2.lt4
          have hltC := HV.out.2.2.1.Lt
          have htar := kt.row HV.out.2.1 (by simp)
          have htal := HV.out.2.1.lt
          have HT := Lib.hid (And.intro HV.out.2.2.2.1 (And.intro HV.out.2.2.2.2.1 HV.out.2.2.2.2.2))
          clear HV kt y8 e0 e1 e2 e3
          generalize wr.alloc (.cells #[.int .i64 db, .int .i64 dn, .int .i64 df, .slice Ad dch.length nd] 78) = wt at *
          generalize wr.heap.size = tv at *
          have t1 : wt.cell? ⟨tv, 1, none⟩ = some (.int .i64 dn) := rt.cell 1
          have t2 : wt.cell? ⟨tv, 2, none⟩ = some (.int .i64 df) := rt.cell 2
          have t3 : wt.cell? ⟨tv, 3, none⟩ = some (.slice Ad dch.length nd) := rt.cell 3
          have HB := Lib.hid (And.intro rt (And.intro bt (And.intro vt (And.intro htar (And.intro hlt11 (And.intro hlt12 (And.intro hltC htal)))))))
          clear rt bt vt htar hlt11 hlt12 hltC htal
          go_wp2_with fail
          refine (cutConf_any dn df Ad dch nd _ hAA.out.1 hAA.out.2).mono ?_; rintro e w2 ⟨rfl, k2⟩
          obtain ⟨x8, hx8⟩ : ∃ x8, dch.take 8 = x8 := ⟨_, rfl⟩
          rw [hx8] at HT ⊢
          have HE1 := Lib.hid (And.intro HT.out.1 (And.intro HT.out.2.1 hx8))
          clear hx8
          have rt2 := k2.row HB.out.1 (by simp)
          have b2 := HB.out.2.1.over k2
          have v2 := HB.out.2.2.1.over k2
          have ta2 := k2.row HB.out.2.2.2.1 (by simp)
          clear t1 t2 t3
          have u1 : w2.cell? ⟨tv, 1, none⟩ = some (.int .i64 dn) := rt2.cell 1
          have u2 : w2.cell? ⟨tv, 2, none⟩ = some (.int .i64 df) := rt2.cell 2
          have u3 : w2.cell? ⟨tv, 3, none⟩ = some (.slice Ad dch.length nd) := rt2.cell 3
          have uf1 := rt2.free 1
          have uf2 := rt2.free 2
          have uf3 := rt2.free 3
          have HB2 := Lib.hid (And.intro rt2 (And.intro b2 (And.intro v2 ta2)))
          clear rt2 b2 v2 ta2
          go_upto_region 19 with fail
          have r3 : rowAt (((w2.setCell ⟨tv, 1, none⟩ (.int .i64 dn)).setCell ⟨tv, 2, none⟩ (.int .i64 df)).setCell ⟨tv, 3, none⟩ (.slice Ad x8.length nd)) tv 78 #[.int .i64 db, .int .i64 dn, .int .i64 df, .slice Ad x8.length nd] := by
            simpa using ((HB2.out.1.set 1 (.int .i64 dn)).set 2 (.int .i64 df)).set 3 (.slice Ad x8.length nd)
          have k3 := (((keepBut.refl [tv] w2).setCell ⟨tv, 1, none⟩ (.int .i64 dn) (by simp)).setCell ⟨tv, 2, none⟩ (.int .i64 df) (by simp)).setCell ⟨tv, 3, none⟩ (.slice Ad x8.length nd) (by simp)
          have b3 := HB2.out.2.1.poke k3 (by simp)
          have v3 := HB2.out.2.2.1.keep k3 (fun y hy hm => by have := HB.out.2.2.2.2.1 y hy; have := List.mem_singleton.1 hm; omega) (fun y hy hm => by have := HB.out.2.2.2.2.2.1 y hy; have := List.mem_singleton.1 hm; omega) (fun y hy hm => by have := HB.out.2.2.2.2.2.2.1 y hy; have := List.mem_singleton.1 hm; omega)
          have ta3 := k3.row HB2.out.2.2.2 (fun hm => by have := HB.out.2.2.2.2.2.2.2; have := List.mem_singleton.1 hm; omega)
          clear u1 u2 u3 uf1 uf2 uf3 k3 HB2
          generalize ((w2.setCell ⟨tv, 1, none⟩ (.int .i64 dn)).setCell ⟨tv, 2, none⟩ (.int .i64 df)).setCell ⟨tv, 3, none⟩ (.slice Ad x8.length nd) = w3 at *
          have x0 : w3.cell? ⟨tv, 0, none⟩ = some (.int .i64 db) := r3.cell 0
          have x1 : w3.cell? ⟨tv, 1, none⟩ = some (.int .i64 dn) := r3.cell 1
          have x2 : w3.cell? ⟨tv, 2, none⟩ = some (.int .i64 df) := r3.cell 2
          have x3 : w3.cell? ⟨tv, 3, none⟩ = some (.slice Ad x8.length nd) := r3.cell 3
          have ka := (keepBut.refl [] w3).alloc (.cells #[.int .i64 db, .int .i64 dn, .int .i64 df, .slice Ad x8.length nd] 78)
          have rn := reads_rowM (rowAt.new w3 78 #[.int .i64 db, .int .i64 dn, .int .i64 df, .slice Ad x8.length nd]) 1 4 rfl
          have HA := Lib.hid (And.intro ka (And.intro rn (v3.o2.keep ka (by simp))))
          have HB3 := Lib.hid (And.intro r3 (And.intro b3 (And.intro v3 ta3)))
          clear ka rn r3 b3 v3 ta3
          go_upto_region 20 with (at_builtin; refine wp_append _ rfl (.tmp 106) (.tmp 108) 56 rfl 78 i0 voteZeroM 4 48 Try.underlying56 hi0 hz0 hz1 hz2 rfl (by decide) (.slice A12 i2 c12) i2 (flatT T2) rfl HA.out.2.2 (some ⟨w3.heap.size, 0, none⟩) w3.heap.size 1 1 _ rfl HA.out.2.1 (by intro u hu; simp at hu; rcases hu with rfl | rfl | rfl | rfl <;> rfl) (by omega) (by unfold maxLen; omega) ?_; intro A5 c5 w5 hown5 hkb5 hloc5; have H5 := Lib.hid (And.intro hown5 (And.intro hkb5 hloc5)); clear hown5 hkb5 hloc5)
          have v5 := HB3.out.2.2.1.add2 (d := ⟨db, dn, df, x8⟩) HA.out.1 H5.out.1 H5.out.2.1 H5.out.2.2 HT.out.2.2
          have k5 := (HA.out.1.more (T := homes (.slice A12 i2 c12)) (by simp)).then H5.out.2.1 (fun y hy => .inl hy)
          have h5l := H5.out.1.lt4
          have b5 := HB3.out.2.1.own (E' := tv :: ta :: (C ++ homes (.slice A11 i2 c11) ++ homes (.slice A5 (i2 + 1) c5))) k5 (fun y hy => by simp [hy]) (fun y hy => by
            simp only [List.mem_cons, List.mem_append] at hy
            rcases hy with h | h | (h | h) | h
            · exact .inl (by simp [h])
            · exact .inl (by simp [h])
            · exact .inl (by simp [h])
            · exact .inl (by simp [h])
            · rcases H5.out.2.2 y h with r | r
              · exact .inl (by simp [r])
              · have := HA.out.1.size; exact .inr ⟨by omega, h5l y h⟩)
          have tv12 : tv ∉ homes (.slice A12 i2 c12) := fun hm => by have := HB.out.2.2.2.2.2.1 tv hm; omega
          have ta12 : ta ∉ homes (.slice A12 i2 c12) := fun hm => HB3.out.2.2.1.o2.apart HB3.out.2.2.2 (by decide) hm
          have r5 := k5.row HB3.out.1 tv12
          have ta5 := k5.row HB3.out.2.2.2 ta12
          have HH5 := HT.out.2.2.keep (HB3.out.2.1.kept.then k5 (fun y hy => .inr (HB3.out.2.1.eB y (by simp [hy])).1)) (by simp)
          have q0 : w5.cell? ⟨tv, 0, none⟩ = some (.int .i64 db) := r5.cell 0
          have q1 : w5.cell? ⟨tv, 1, none⟩ = some (.int .i64 dn) := r5.cell 1
          have q2 : w5.cell? ⟨tv, 2, none⟩ = some (.int .i64 df) := r5.cell 2
          have q3 : w5.cell? ⟨tv, 3, none⟩ = some (.slice Ad x8.length nd) := r5.cell 3
          have htv5 := r5.lt
          have tv11 : tv ∉ homes (.slice A11 i2 c11) := fun hm => by have := HB.out.2.2.2.2.1 tv hm; omega
          have ta11 : ta ∉ homes (.slice A11 i2 c11) := fun hm => v5.o1.apart ta5 (by decide) hm
          have HB5 := Lib.hid (And.intro b5 (And.intro v5 (And.intro ta5 (And.intro HH5 ta11))))
          clear x0 x1 x2 x3 v5 k5 h5l b5 r5 ta5 tv12 ta12 H5 HA HB3 HH5 ta11
          go_region_held3 (fun w' => w'.cell? ⟨tv, 0, none⟩ = some (.int .i64 db) ∧ w'.cell? ⟨tv, 1, none⟩ = some (.int .i64 dn) ∧ w'.cell? ⟨tv, 2, none⟩ = some (.int .i64 df) ∧ w'.cell? ⟨tv, 3, none⟩ = some (.slice Ad x8.length nd)) (first | exact ⟨q0, q1, q2, q3⟩ | exact ⟨q05, q15, q25, q35⟩ | exact ⟨q06, q16, q26, q36⟩ | exact ⟨q07, q17, q27, q37⟩)
            (first
              | (go_at_call 67; (with_reducible refine (cpConf_any (List.range w0.heap.size) dn df x8 Ad nd _ (HB5.out.2.2.2.1.keep ((keepBut.refl [] w5).drew) (by simp))).mono ?_); intro e w7 hq7; obtain ⟨A7', n7', G7, rfl, hh7, hG7, hk7, hz7⟩ := hq7; have hkd := ((keepBut.refl [] w5).drew).then hk7 (by simp); have q05 := (hk7.cell (p := ⟨tv, 0, none⟩) htv5 (by simp)).trans q0; have q15 := (hk7.cell (p := ⟨tv, 1, none⟩) htv5 (by simp)).trans q1; have q25 := (hk7.cell (p := ⟨tv, 2, none⟩) htv5 (by simp)).trans q2; have q35 := (hk7.cell (p := ⟨tv, 3, none⟩) htv5 (by simp)).trans q3; have ka7 := (keepBut.refl [] w7).alloc (.cells #[.int .i64 db, .int .i64 dn, .int .i64 df, .slice A7' x8.length n7'] 78); have htv7 := Nat.lt_of_lt_of_le htv5 hk7.size; have q06 := (ka7.cell (p := ⟨tv, 0, none⟩) htv7 (by simp)).trans q05; have q16 := (ka7.cell (p := ⟨tv, 1, none⟩) htv7 (by simp)).trans q15; have q26 := (ka7.cell (p := ⟨tv, 2, none⟩) htv7 (by simp)).trans q25; have q36 := (ka7.cell (p := ⟨tv, 3, none⟩) htv7 (by simp)).trans q35)
              | (refine step_append _ rfl (.tmp 110) (.tmp 117) 56 rfl 78 i0 voteZeroM 4 48 Try.underlying56 hi0 hz0 hz1 hz2 rfl (by decide) _ i2 (flatT T1) rfl ((HB5.out.2.1.o1.keep hkd (by simp)).keep ka7 (by simp)) (some ⟨w7.heap.size, 0, none⟩) w7.heap.size 1 1 _ rfl (reads_rowM (rowAt.new w7 78 #[.int .i64 db, .int .i64 dn, .int .i64 df, .slice A7' x8.length n7']) 1 4 rfl) (by intro u hu; simp at hu; rcases hu with rfl | rfl | rfl | rfl <;> rfl) (by omega) (by unfold maxLen; omega) ?_; intro A8' c8' w8 hown8 hkb8 hloc8; have htv8 := Nat.lt_of_lt_of_le htv7 ka7.size; have q07 := (hkb8.cell (p := ⟨tv, 0, none⟩) htv8 tv11).trans q06; have q17 := (hkb8.cell (p := ⟨tv, 1, none⟩) htv8 tv11).trans q16; have q27 := (hkb8.cell (p := ⟨tv, 2, none⟩) htv8 tv11).trans q26; have q37 := (hkb8.cell (p := ⟨tv, 3, none⟩) htv8 tv11).trans q36))
          have v8 := HB5.out.2.1.add1 (d := ⟨db, dn, df, x8⟩) hkd hh7 hz7 hG7 ka7 hown8 hkb8 hloc8
          have k8 := ((hkd.then ka7 (by simp)).more (T := homes (.slice A11 i2 c11)) (by simp)).then hkb8 (fun y hy => .inl hy)
          have h8l := hown8.lt4
          have hs7 := ka7.size
          have hsd := hkd.size
          have hsk := hkb8.size
          have b8 := HB5.out.1.own (E' := ta :: ((C ++ G7) ++ homes (.slice A8' (i2 + 1) c8') ++ homes (.slice A5 (i2 + 1) c5))) k8 (fun y hy => by simp [hy]) (fun y hy => by
            simp only [List.mem_cons, List.mem_append] at hy
            rcases hy with h | ((h | h) | h) | h
            · exact .inl (by simp [h])
            · exact .inl (by simp [h])
            · have h7 : w5.heap.size ≤ y := (hG7 y h).1; have := (hG7 y h).2; exact .inr ⟨h7, by omega⟩
            · rcases hloc8 y h with r | r
              · have r' : y ∈ homes (.slice A11 i2 c11) := r
                exact .inl (by simp [r'])
              · exact .inr ⟨by omega, h8l y h⟩
            · exact .inl (by simp [h]))
          have ta8 := k8.row HB5.out.2.2.1 HB5.out.2.2.2.2
          have HE := Lib.hid (And.intro b8 (And.intro ta8 v8))
          clear v8 k8 h8l b8 ta8 hown8 hkb8 hloc8 hh7 hG7 hz7 hkd ka7 hk7 q0 q1 q2 q3 q05 q15 q25 q35 q06 q16 q26 q36 q07 q17 q27 q37 htv5 htv7 htv8 hs7 hsd hsk tv11
          go_wp2_with fail
          go_roundw
          case rel =>
            refine ⟨i2 + 1, T1 ++ [(⟨db, dn, df, x8⟩, _)], T2 ++ [(⟨db, dn, df, x8⟩, _)], C ++ G7, by omega, by rw [HNL.out]; omega, by go_num, HE.out.1, HE.out.2.1, HE.out.2.2, ?_, ?_⟩
            · rw [List.map_append, HE1.out.1, List.take_add_one, HDD.out.2]; simp [cutV, HE1.out.2.2]
            · rw [List.map_append, HE1.out.2.1, List.take_add_one, HDD.out.2]; simp [cutV, HE1.out.2.2]
          case measure => simp [intOf]; omega
        · have hor : (¬ (i2 : Int) < (N : Int)) ∨ ((i2 : Int) < (N : Int) ∧ ¬ (i2 : Int) < 8) := by omega
          have hm : i2 = min 8 N := by omega
          have HV := Lib.hid (And.intro hb (And.intro hr (And.intro hv (And.intro (hT1.trans hT2.symm) hm))))
          clear hb hr hv hT1 hT2 hm hlt
          rcases hor with hor | ⟨hor, hor2⟩
          all_goals
            go_wp2_with fail
            go_meet
            rw [← HV.out.2.2.2.2]
            exact ⟨T1, T2, C, HV.out.1, HV.out.2.1, HV.out.2.2.1, HV.out.2.2.2.1⟩
    case rest =>
      obtain ⟨T1, T2, C, hb, hr, hv, hT⟩ := hcut
      clear HR
      obtain ⟨nn, hnn⟩ : ∃ nn, min 8 N = nn := ⟨_, rfl⟩
      have hn8 : nn ≤ 8 ∧ 0 < nn := by have := HN0.out; omega
      have HN8 := Lib.hid hn8
      clear hn8
      rw [hnn] at hv
      clear hnn
      obtain ⟨g11, c11, rfl, -, hc11, -, -, -, -⟩ := owns4_at hv.o1 HN8.out.2
      obtain ⟨A12, c12, rfl, -, hc12, -, -⟩ := hv.o2.form
      have hv1' := votes_all hv.o1 hv.l1 (by have := HN8.out.1; omega) hv.h1
      have hv2' := votes_all hv.o2 hv.l2 (by have := HN8.out.1; omega) (fun t ht => (hv.h2 t ht).keep hb.kept (by simp))
      rw [← hT] at hv2'
      have hLl : (T1.map (·.1)).length = nn := by simp [hv.l1]
      generalize T1.map (·.1) = L at hv1' hv2' hLl
      clear hT
      have hFl := hb.l.lt
      have hGl := hb.m.lt
      have hvF : ∀ y ∈ homes (.slice (some ⟨g11, 0, none⟩) nn c11) ++ C, y ∉ F ∧ y < wc.heap.size := fun y hy => by
        have hm : y ∈ ta :: (C ++ homes (.slice (some ⟨g11, 0, none⟩) nn c11) ++ homes (.slice A12 nn c12)) := by
          rcases List.mem_append.1 hy with h | h <;> simp [h]
        exact ⟨hb.eF y hm, (hb.eB y hm).2⟩
      have hvG : ∀ y ∈ homes (.slice A12 nn c12) ++ List.range w0.heap.size, y ∉ G ∧ y < wc.heap.size := fun y hy => by
        rcases List.mem_append.1 hy with h | h
        · have hm : y ∈ ta :: (C ++ homes (.slice (some ⟨g11, 0, none⟩) nn c11) ++ homes (.slice A12 nn c12)) := by simp [h]
          exact ⟨hb.eG y hm, (hb.eB y hm).2⟩
        · have h0 := List.mem_range.1 h
          exact ⟨fun hm => by have := hb.mG y hm; omega, Nat.lt_of_lt_of_le h0 hb.kept.size⟩
      have x1 : wc.cell? ⟨ta, 1, none⟩ = some (.int .i64 a) := (hr.cell 1).trans HRW.out.2.1
      have x2 : wc.cell? ⟨ta, 2, none⟩ = some (.int .i64 b) := (hr.cell 2).trans HRW.out.2.2
      have hok := HIN.out.ok (by omega)
      have HL := Lib.hid (promL_all p F _ s a b _ L wc hb.l hok hv1' hvF)
      have HM := Lib.hid (fun (W : World) hq hvv hgg => promM_all q G (homes (.slice A12 nn c12) ++ List.range w0.heap.size) s a b (.slice A12 nn c12) L W hq hok hvv hgg (by have := HIN.out.len; have := HN8.out.1; omega))
      have HP := Lib.hid (HIN.out.promAll a b L (by have := HN8.out.1; omega))
      have HV := Lib.hid (And.intro hb (And.intro hr (And.intro hv (And.intro hv2' hvG))))
      clear hb hr hv hv1' hv2' hFl hGl hvF hvG hLl hok
      generalize promAll s a b L = pr at HL HM HP
      obtain ⟨ans, er, s'⟩ := pr
      dsimp only at HL HM HP
      go_wp2_with fail
      refine HL.out.mono ?_; intro e w2 hq; obtain ⟨rfl, hq2⟩ := hq; obtain ⟨F2, h2, k2⟩ := HV.out.1.dl hq2; clear hq2
      have r2 := k2.row HV.out.2.1 (HV.out.1.eF ta (by simp))
      have v2 := HV.out.2.2.1.keep k2 (fun y hy => HV.out.1.eF y (by simp [hy])) (fun y hy => HV.out.1.eF y (by simp [hy])) (fun y hy => HV.out.1.eF y (by simp [hy]))
      have hvv2 := HV.out.2.2.2.1.keep k2 (fun y hy => by
        rcases List.mem_append.1 hy with h | h
        · exact HV.out.1.eF y (by simp [h])
        · have h0 := List.mem_range.1 h
          exact fun hm => by have := HV.out.1.lF y hm; omega)
      have hvG2 : ∀ y ∈ homes (.slice A12 nn c12) ++ List.range w0.heap.size, y ∉ G ∧ y < w2.heap.size := fun y hy => ⟨(HV.out.2.2.2.2 y hy).1, Nat.lt_of_lt_of_le (HV.out.2.2.2.2 y hy).2 k2.size⟩
      have z1 : w2.cell? ⟨ta, 1, none⟩ = some (.int .i64 a) := (r2.cell 1).trans HRW.out.2.1
      have z2 : w2.cell? ⟨ta, 2, none⟩ = some (.int .i64 b) := (r2.cell 2).trans HRW.out.2.2
      have H2 := Lib.hid (And.intro h2 (And.intro v2 (And.intro hvv2 hvG2)))
      clear h2 k2 r2 v2 hvv2 hvG2 x1 x2 HV HL
      go_wp2_with fail
      refine (HM.out w2 H2.out.1.m H2.out.2.2.1 H2.out.2.2.2).mono ?_; intro e w3 hq; obtain ⟨rfl, G3, h3, k3⟩ := H2.out.1.dmp hq; clear hq
      have v3 := H2.out.2.1.keep k3 (fun y hy => H2.out.1.eG y (by simp [hy])) (fun y hy => H2.out.1.eG y (by simp [hy])) (fun y hy => H2.out.1.eG y (by simp [hy]))
      have H3 := Lib.hid (And.intro (h3.some (E' := C ++ homes (.slice (some ⟨g11, 0, none⟩) nn c11)) (fun y hy => by rcases List.mem_append.1 hy with h | h <;> simp [h])) (And.intro v3.o1 (And.intro v3.nines (And.intro v3.c1 v3.l1))))
      clear h3 k3 v3 z1 z2 H2 HM
      go_wp2_with fail
      go_loopw [19, 20] (fun v19 _ wx => ninesRel w0 p F2 s' q G3 (.slice (some ⟨g11, 0, none⟩) nn c11) nn T1 C v19 wx) (fun v19 _ _ => nn - (intOf v19).toNat)
      case atStart => exact ⟨0, by omega, rfl, H3.out.1, H3.out.2.1, H3.out.2.2.1⟩
      case round =>
        obtain ⟨k4, hk4, rfl, hb4, ho4, hc4⟩ := hrel
        by_cases hlt : k4 < nn
        · have hlt' : (k4 : Int) < (nn : Int) := by omega
          obtain ⟨t, ht⟩ : ∃ t, T1[k4]? = some t := ⟨_, List.getElem?_eq_getElem (by rw [H3.out.2.2.2.2]; exact hlt)⟩
          obtain ⟨At, nt, et, lt9, cnt⟩ := hc4 t (List.mem_of_getElem? ht)
          have y3 := (flatT_at T1 k4 t ht).2.2.2
          obtain ⟨m, hm⟩ : ∃ m, t.1.c.chain.length = m := ⟨_, rfl⟩
          rw [hm] at et lt9 cnt
          rw [et] at y3
          have HT1 := Lib.hid (And.intro ht (And.intro y3 (And.intro et hm)))
          have HX := Lib.hid (And.intro hb4 (And.intro ho4 hc4))
          clear ht y3 et hm cnt hb4 ho4 hc4
          go_wp2_with fail
          go_loopw [20] (fun v20 wx => nines2Rel w0 p F2 s' q G3 (.slice (some ⟨g11, 0, none⟩) nn c11) nn T1 C m v20 wx) (fun v20 _ => m - (intOf v20).toNat)
          case atStart => exact ⟨0, by omega, rfl, HX.out.1, HX.out.2.1, HX.out.2.2⟩
          case round =>
            obtain ⟨k5, hk5, rfl, hb5, ho5, hc5⟩ := hrel
            obtain ⟨g', c', e', -, -, -, -, hcell5, hfree5⟩ := owns4_at ho5 (by omega)
            injection e' with e1 e2 e3
            injection e1 with e1
            injection e1 with e1 _ _
            subst e1 e3
            have x3 := hcell5 _ _ HT1.out.2.1
            clear hcell5 hfree5
            by_cases hlt5 : k5 < m
            · have hlt5' : (k5 : Int) < (m : Int) := by omega
              obtain ⟨A', n', et', -, cn'⟩ := hc5 t (List.mem_of_getElem? HT1.out.1)
              rw [HT1.out.2.2.1, HT1.out.2.2.2] at et'
              rw [HT1.out.2.2.2] at cn'
              injection et' with ea eb ec
              subst ea ec
              obtain ⟨gn, on, rfl, hgn, hcs⟩ := id (cn' (by omega))
              obtain ⟨u, hu, hf⟩ := hcs k5 hlt5
              have HY := Lib.hid (And.intro hb5 (And.intro ho5 (And.intro hc5 hgn)))
              clear hb5 ho5 hc5 hgn cn' hcs
              go_wp2_with fail
              go_roundw
              case rel =>
                obtain ⟨hb5, ho5, hc5, hgn⟩ := HY.out
                have ks := (keepBut.refl [gn] wr).setCell ⟨gn, on + k5, none⟩ (.int .i64 (-9)) (by simp)
                exact ⟨k5 + 1, by omega, by go_num, hb5.poke ks (fun y hy => by rw [List.mem_singleton.1 hy]; simp [hgn]), ho5.keep ks (fun y hy hm => H3.out.2.2.2.1 gn hgn (by rw [List.mem_singleton.1 hm] at hy; exact hy)), fun t ht => (hc5 t ht).set hu⟩
              case measure => simp [intOf]; omega
            · obtain rfl : k5 = m := by omega
              have HY := Lib.hid (And.intro hb5 (And.intro ho5 hc5))
              clear hb5 ho5 hc5
              have hnn8 := HN8.out.1
              go_wp2_with fail
              go_roundw
              case rel => exact ⟨k4 + 1, by omega, by go_num, HY.out.1, HY.out.2.1, HY.out.2.2⟩
              case measure => simp [intOf]; omega
        · obtain rfl : k4 = nn := by omega
          have HX := Lib.hid hb4
          clear hb4 ho4 hc4
          go_wp2
          go_ret
          exact ⟨rfl, F2, G3, s', HX.out.some (by simp), HP.out⟩
end Go.Proofs.Ytbjonlfjfjlelaa
