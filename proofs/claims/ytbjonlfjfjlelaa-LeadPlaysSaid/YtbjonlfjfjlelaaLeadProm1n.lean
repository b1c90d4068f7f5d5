/-
  LEAD: the law's own step, kind 1, no votes.
-/
import Derived.Test.YtbjonlfjfjlelaaLeadVotes
namespace Go.Proofs.Ytbjonlfjfjlelaa
open Go.RowKit
set_option linter.unusedVariables false
set_option maxRecDepth 100000

set_option maxHeartbeats 8000000 in
theorem step1nil_any (w0 w : World) (p : Nat) (F : List Nat) (s : LS) (q : Nat) (G : List Nat) (i : Nat) (k a b n : Int) (near : Bool) (num full : Int) (A7 : Option Addr) (n7 : Nat) (cl : List Int) (A8 : Option Addr) (c8 : Nat) (vl : List VS)
    (h : both w0 w p F s q G s []) (hin : inP s i) (hi : i < 60) (hk : -9223372036854775808 ≤ k ∧ k ≤ 9223372036854775807) (ha : -9223372036854775808 ≤ a ∧ a ≤ 9223372036854775807) (hcl : argI w0 (.slice A7 cl.length n7) cl) (hv1 : vl.length ≤ c8) (hv2 : c8 ≤ maxLen) (hv : argV w0 A8 vl) (hkind : k % 7 = 1) (hvl : vl = []) :
    Calls Try.prog 29 #[.pointer (some ⟨p, 0, none⟩), .pointer (some ⟨q, 0, none⟩), .agg #[.int .i64 k, .int .i64 a, .int .i64 b, .int .i64 n, .bool near, .int .i64 num, .int .i64 full, .slice A7 cl.length n7, .slice A8 vl.length c8]] w (stepPost w0 p q i) := by
  unfold maxLen at hv2
  have HVL := Lib.hid hvl
  clear hvl
  have hra := rowAt.new w 58 (rowD k a b n near num full (.slice A7 cl.length n7) (.slice A8 vl.length c8))
  have hka := (keepBut.refl [] w).alloc (.cells (rowD k a b n near num full (.slice A7 cl.length n7) (.slice A8 vl.length c8)) 58)
  have hB := h.grow (E' := [w.heap.size]) hka (fun y hy => .inr (by rw [List.mem_singleton.1 hy]; exact ⟨Nat.le_refl _, hra.lt⟩))
  unfold rowD at hra hka hB
  clear hka h
  have HK := Lib.hid (And.intro hcl hv)
  clear hcl hv
  go_enter Try.func29, Try.ntmps29
  go_upto_region 1 with fail
  generalize w.alloc (.cells #[.int .i64 k, .int .i64 a, .int .i64 b, .int .i64 n, .bool near, .int .i64 num, .int .i64 full, .slice A7 cl.length n7, .slice A8 vl.length c8] 58) = wa at *
  generalize w.heap.size = ta at *
  have y2 : wa.cell? ⟨ta, 2, none⟩ = some (.int .i64 b) := hra.cell 2
  have y3 : wa.cell? ⟨ta, 3, none⟩ = some (.int .i64 n) := hra.cell 3
  have y4 : wa.cell? ⟨ta, 4, none⟩ = some (.bool near) := hra.cell 4
  have yf2 := hra.free 2
  have yf3 := hra.free 3
  have x1 := hB.m.c1
  have x9 := hB.m.c8.2
  have HA := Lib.hid (And.intro hra hB)
  clear hra hB
  go_upto_if 33 with fail
  go_cut [] (fun wx => stepIn w0 p F s q G ta k a near num full (.slice A7 cl.length n7) (.slice A8 vl.length c8) wx)
  case first =>
    cases near with
    | true =>
      go_wp2_with fail
      go_meet
      have hr := (HA.out.1.set 2 (.int .i64 s.bal)).set 3 (.int .i64 s.prop.num)
      have hk2 := ((keepBut.refl [ta] wa).setCell ⟨ta, 2, none⟩ (.int .i64 s.bal) (by simp)).setCell ⟨ta, 3, none⟩ (.int .i64 s.prop.num) (by simp)
      exact ⟨s.bal, s.prop.num, by simpa [rowD] using hr, HA.out.2.poke hk2 (by simp)⟩
    | false =>
      go_wp2_with fail
      go_meet
      exact ⟨b, n, HA.out.1, HA.out.2⟩
  case rest =>
    obtain ⟨b, n, hr, hB⟩ := hcut
    clear y2 y3 y4 yf2 yf3 x1 x9 HA
    generalize wc = w1 at *
    have y0 : w1.cell? ⟨ta, 0, none⟩ = some (.int .i64 k) := hr.cell 0
    have HR := Lib.hid (And.intro hr hB)
    clear hr hB
    go_wp2_with fail
    refine (bring_any k 7 hk.1 hk.2 (by omega) (by omega) _).mono ?_; rintro e w' ⟨rfl, rfl⟩
    clear y0
    rw [hkind]
    have HIN := Lib.hid hin
    clear hin
    obtain ⟨i0, hi0, hz0, hz1, hz2⟩ := info_parts infoVoteM
    obtain ⟨row, hrow⟩ : ∃ row, rowD k a b n near num full (.slice A7 cl.length n7) (.slice A8 vl.length c8) = row := ⟨_, rfl⟩
    have hrow8 : row[8]? = some (.slice A8 vl.length c8) := by rw [← hrow]; rfl
    have hrow1 : row[1]? = some (.int .i64 a) := by rw [← hrow]; rfl
    have hrow2 : row[2]? = some (.int .i64 b) := by rw [← hrow]; rfl
    rw [hrow] at HR
    have HRW := Lib.hid (And.intro hrow8 (And.intro hrow1 hrow2))
    clear hrow hrow8 hrow1 hrow2
    obtain ⟨N, hN⟩ : ∃ N, vl.length = N := ⟨_, rfl⟩
    have hN0 : N = 0 := by rw [← hN, HVL.out]; rfl
    have HN0 := Lib.hid hN0
    clear hN0
    have HNL := Lib.hid hN
    rw [hN] at HRW hv1 ⊢
    clear hN
    go_upto_region 14 with fail
    go_upto_block 1 with fail
    go_cut [11, 12, 13, 14, 110, 111, 112, 113, 114, 115, 116, 117, 118] (fun v11 v12 _ _ _ _ _ _ _ _ _ _ _ wx => mkMid w0 p F s q G ta row (min 8 N) v11 v12 wx)
    case first =>
      go_wp2_with fail
      go_loopw [11, 12, 13, 14, 110, 111, 112, 113, 114, 115, 116, 117, 118] (fun v11 v12 v13 _ _ _ _ _ _ _ _ _ _ wx => mkRel w0 p F s q G ta row vl v11 v12 v13 wx) (fun _ _ v13 _ _ _ _ _ _ _ _ _ _ _ => 8 - (intOf v13).toNat)
      case atStart => exact ⟨0, [], [], [], by omega, by omega, rfl, HR.out.2.over (keepBut.refl _ _), HR.out.1, vts.nil _ _, by simp, by simp⟩
      case round =>
        obtain ⟨i2, T1, T2, C, hi8, hiN, rfl, hb, hr, hv, hT1, hT2⟩ := hrel
        rw [HNL.out] at hiN
        obtain ⟨A11, c11, rfl, -, hc11, -, -⟩ := hv.o1.form
        obtain ⟨A12, c12, rfl, -, hc12, -, -⟩ := hv.o2.form
        have y8 : wr.cell? ⟨ta, 8, none⟩ = some (.slice A8 N c8) := (hr.cell 8).trans HRW.out.1
        by_cases hlt : i2 < N ∧ i2 < 8
        · exact absurd hlt.1 (by have := HN0.out; omega)
        · have hor : (¬ (i2 : Int) < (N : Int)) ∨ ((i2 : Int) < (N : Int) ∧ ¬ (i2 : Int) < 8) := by omega
          have hm : i2 = min 8 N := by omega
          have HV := Lib.hid (And.intro hb (And.intro hr (And.intro hv (And.intro (hT1.trans hT2.symm) hm))))
          clear hb hr hv hT1 hT2 hm hlt
          rcases hor with hor | ⟨hor, hor2⟩
          all_goals
            go_wp2_with fail
            go_meet
            rw [← HV.out.2.2.2.2]
            exact ⟨T1, T2, C, HV.out.1, HV.out.2.1, HV.out.2.2.1, HV.out.2.2.2.1⟩
    case rest =>
      obtain ⟨T1, T2, C, hb, hr, hv, hT⟩ := hcut
      clear HR
      obtain ⟨nn, hnn⟩ : ∃ nn, min 8 N = nn := ⟨_, rfl⟩
      have hn8 : nn ≤ 8 ∧ nn = 0 := by have := HN0.out; omega
      have HN8 := Lib.hid hn8
      clear hn8
      rw [hnn] at hv
      clear hnn
      obtain ⟨A11, c11, rfl, -, hc11, -, -⟩ := hv.o1.form
      obtain ⟨A12, c12, rfl, -, hc12, -, -⟩ := hv.o2.form
      have hv1' := votes_all hv.o1 hv.l1 (by have := HN8.out.1; omega) hv.h1
      have hv2' := votes_all hv.o2 hv.l2 (by have := HN8.out.1; omega) (fun t ht => (hv.h2 t ht).keep hb.kept (by simp))
      rw [← hT] at hv2'
      have hLl : (T1.map (·.1)).length = nn := by simp [hv.l1]
      generalize T1.map (·.1) = L at hv1' hv2' hLl
      clear hT
      have hFl := hb.l.lt
      have hGl := hb.m.lt
      have hvF : ∀ y ∈ homes (.slice A11 nn c11) ++ C, y ∉ F ∧ y < wc.heap.size := fun y hy => by
        have hm : y ∈ ta :: (C ++ homes (.slice A11 nn c11) ++ homes (.slice A12 nn c12)) := by
          rcases List.mem_append.1 hy with h | h <;> simp [h]
        exact ⟨hb.eF y hm, (hb.eB y hm).2⟩
      have hvG : ∀ y ∈ homes (.slice A12 nn c12) ++ List.range w0.heap.size, y ∉ G ∧ y < wc.heap.size := fun y hy => by
        rcases List.mem_append.1 hy with h | h
        · have hm : y ∈ ta :: (C ++ homes (.slice A11 nn c11) ++ homes (.slice A12 nn c12)) := by simp [h]
          exact ⟨hb.eG y hm, (hb.eB y hm).2⟩
        · have h0 := List.mem_range.1 h
          exact ⟨fun hm => by have := hb.mG y hm; omega, Nat.lt_of_lt_of_le h0 hb.kept.size⟩
      have x1 : wc.cell? ⟨ta, 1, none⟩ = some (.int .i64 a) := (hr.cell 1).trans HRW.out.2.1
      have x2 : wc.cell? ⟨ta, 2, none⟩ = some (.int .i64 b) := (hr.cell 2).trans HRW.out.2.2
      have hok := HIN.out.ok (by omega)
      have HL := Lib.hid (promL_all p F _ s a b _ L wc hb.l hok hv1' hvF)
      have HM := Lib.hid (fun (W : World) hq hvv hgg => promM_all q G (homes (.slice A12 nn c12) ++ List.range w0.heap.size) s a b (.slice A12 nn c12) L W hq hok hvv hgg (by have := HIN.out.len; have := HN8.out.1; omega))
      have HP := Lib.hid (HIN.out.promAll a b L (by have := HN8.out.1; omega))
      have HV := Lib.hid (And.intro hb (And.intro hr (And.intro hv (And.intro hv2' hvG))))
      clear hb hr hv hv1' hv2' hFl hGl hvF hvG hLl hok
      generalize promAll s a b L = pr at HL HM HP
      obtain ⟨ans, er, s'⟩ := pr
      dsimp only at HL HM HP
      go_wp2_with fail
      refine HL.out.mono ?_; intro e w2 hq; obtain ⟨rfl, hq2⟩ := hq; obtain ⟨F2, h2, k2⟩ := HV.out.1.dl hq2; clear hq2
      have r2 := k2.row HV.out.2.1 (HV.out.1.eF ta (by simp))
      have v2 := HV.out.2.2.1.keep k2 (fun y hy => HV.out.1.eF y (by simp [hy])) (fun y hy => HV.out.1.eF y (by simp [hy])) (fun y hy => HV.out.1.eF y (by simp [hy]))
      have hvv2 := HV.out.2.2.2.1.keep k2 (fun y hy => by
        rcases List.mem_append.1 hy with h | h
        · exact HV.out.1.eF y (by simp [h])
        · have h0 := List.mem_range.1 h
          exact fun hm => by have := HV.out.1.lF y hm; omega)
      have hvG2 : ∀ y ∈ homes (.slice A12 nn c12) ++ List.range w0.heap.size, y ∉ G ∧ y < w2.heap.size := fun y hy => ⟨(HV.out.2.2.2.2 y hy).1, Nat.lt_of_lt_of_le (HV.out.2.2.2.2 y hy).2 k2.size⟩
      have z1 : w2.cell? ⟨ta, 1, none⟩ = some (.int .i64 a) := (r2.cell 1).trans HRW.out.2.1
      have z2 : w2.cell? ⟨ta, 2, none⟩ = some (.int .i64 b) := (r2.cell 2).trans HRW.out.2.2
      have H2 := Lib.hid (And.intro h2 (And.intro v2 (And.intro hvv2 hvG2)))
      clear h2 k2 r2 v2 hvv2 hvG2 x1 x2 HV HL
      go_wp2_with fail
      refine (HM.out w2 H2.out.1.m H2.out.2.2.1 H2.out.2.2.2).mono ?_; intro e w3 hq; obtain ⟨rfl, G3, h3, k3⟩ := H2.out.1.dmp hq; clear hq
      have v3 := H2.out.2.1.keep k3 (fun y hy => H2.out.1.eG y (by simp [hy])) (fun y hy => H2.out.1.eG y (by simp [hy])) (fun y hy => H2.out.1.eG y (by simp [hy]))
      have H3 := Lib.hid (And.intro (h3.some (E' := C ++ homes (.slice A11 nn c11)) (fun y hy => by rcases List.mem_append.1 hy with h | h <;> simp [h])) (And.intro v3.o1 (And.intro v3.nines (And.intro v3.c1 v3.l1))))
      clear h3 k3 v3 z1 z2 H2 HM
      go_wp2_with fail
      go_loopw [19, 20] (fun v19 _ wx => ninesRel w0 p F2 s' q G3 (.slice A11 nn c11) nn T1 C v19 wx) (fun v19 _ _ => nn - (intOf v19).toNat)
      case atStart => exact ⟨0, by omega, rfl, H3.out.1, H3.out.2.1, H3.out.2.2.1⟩
      case round =>
        obtain ⟨k4, hk4, rfl, hb4, ho4, hc4⟩ := hrel
        by_cases hlt : k4 < nn
        · exact absurd hlt (by have := HN8.out.2; omega)
        · obtain rfl : k4 = nn := by omega
          have HX := Lib.hid hb4
          clear hb4 ho4 hc4
          go_wp2
          go_ret
          exact ⟨rfl, F2, G3, s', HX.out.some (by simp), HP.out⟩
end Go.Proofs.Ytbjonlfjfjlelaa
