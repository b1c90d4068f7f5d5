/-
  LEAD: the law's own step, kind 6.
-/
import Derived.Test.YtbjonlfjfjlelaaLeadStep0
namespace Go.Proofs.Ytbjonlfjfjlelaa
open Go.RowKit
set_option linter.unusedVariables false
set_option maxRecDepth 100000

set_option maxHeartbeats 8000000 in
theorem step6_any (w0 w : World) (p : Nat) (F : List Nat) (s : LS) (q : Nat) (G : List Nat) (i : Nat) (k a b n : Int) (near : Bool) (num full : Int) (A7 : Option Addr) (n7 : Nat) (cl : List Int) (A8 : Option Addr) (c8 : Nat) (vl : List VS)
    (h : both w0 w p F s q G s []) (hin : inP s i) (hi : i < 60) (hk : -9223372036854775808 ≤ k ∧ k ≤ 9223372036854775807) (ha : -9223372036854775808 ≤ a ∧ a ≤ 9223372036854775807) (hcl : argI w0 (.slice A7 cl.length n7) cl) (hv1 : vl.length ≤ c8) (hv2 : c8 ≤ maxLen) (hv : argV w0 A8 vl) (hkind : k % 7 = 6) :
    Calls Try.prog 29 #[.pointer (some ⟨p, 0, none⟩), .pointer (some ⟨q, 0, none⟩), .agg #[.int .i64 k, .int .i64 a, .int .i64 b, .int .i64 n, .bool near, .int .i64 num, .int .i64 full, .slice A7 cl.length n7, .slice A8 vl.length c8]] w (stepPost w0 p q i) := by
  unfold maxLen at hv2
  have hra := rowAt.new w 58 (rowD k a b n near num full (.slice A7 cl.length n7) (.slice A8 vl.length c8))
  have hka := (keepBut.refl [] w).alloc (.cells (rowD k a b n near num full (.slice A7 cl.length n7) (.slice A8 vl.length c8)) 58)
  have hB := h.grow (E' := [w.heap.size]) hka (fun y hy => .inr (by rw [List.mem_singleton.1 hy]; exact ⟨Nat.le_refl _, hra.lt⟩))
  unfold rowD at hra hka hB
  clear hka h
  have HK := Lib.hid (And.intro hcl hv)
  clear hcl hv
  go_enter Try.func29, Try.ntmps29
  go_upto_region 1 with fail
  generalize w.alloc (.cells #[.int .i64 k, .int .i64 a, .int .i64 b, .int .i64 n, .bool near, .int .i64 num, .int .i64 full, .slice A7 cl.length n7, .slice A8 vl.length c8] 58) = wa at *
  generalize w.heap.size = ta at *
  have y2 : wa.cell? ⟨ta, 2, none⟩ = some (.int .i64 b) := hra.cell 2
  have y3 : wa.cell? ⟨ta, 3, none⟩ = some (.int .i64 n) := hra.cell 3
  have y4 : wa.cell? ⟨ta, 4, none⟩ = some (.bool near) := hra.cell 4
  have yf2 := hra.free 2
  have yf3 := hra.free 3
  have x1 := hB.m.c1
  have x9 := hB.m.c8.2
  have HA := Lib.hid (And.intro hra hB)
  clear hra hB
  go_upto_if 33 with fail
  go_cut [] (fun wx => stepIn w0 p F s q G ta k a near num full (.slice A7 cl.length n7) (.slice A8 vl.length c8) wx)
  case first =>
    cases near with
    | true =>
      go_wp2_with fail
      go_meet
      have hr := (HA.out.1.set 2 (.int .i64 s.bal)).set 3 (.int .i64 s.prop.num)
      have hk2 := ((keepBut.refl [ta] wa).setCell ⟨ta, 2, none⟩ (.int .i64 s.bal) (by simp)).setCell ⟨ta, 3, none⟩ (.int .i64 s.prop.num) (by simp)
      exact ⟨s.bal, s.prop.num, by simpa [rowD] using hr, HA.out.2.poke hk2 (by simp)⟩
    | false =>
      go_wp2_with fail
      go_meet
      exact ⟨b, n, HA.out.1, HA.out.2⟩
  case rest =>
    obtain ⟨b, n, hr, hB⟩ := hcut
    clear y2 y3 y4 yf2 yf3 x1 x9 HA
    generalize wc = w1 at *
    have y0 : w1.cell? ⟨ta, 0, none⟩ = some (.int .i64 k) := hr.cell 0
    have HR := Lib.hid (And.intro hr hB)
    clear hr hB
    go_wp2_with fail
    refine (bring_any k 7 hk.1 hk.2 (by omega) (by omega) _).mono ?_; rintro e w' ⟨rfl, rfl⟩
    clear y0
    rw [hkind]
    have y1 : w1.cell? ⟨ta, 1, none⟩ = some (.int .i64 a) := HR.out.1.cell 1
    have y2 : w1.cell? ⟨ta, 2, none⟩ = some (.int .i64 b) := HR.out.1.cell 2
    have y4 : w1.cell? ⟨ta, 4, none⟩ = some (.bool near) := HR.out.1.cell 4
    have yf2 := HR.out.1.free 2
    go_upto_if 215 with fail
    go_cut [] (fun wx => stepIn w0 p F s q G ta k a near num full (.slice A7 cl.length n7) (.slice A8 vl.length c8) wx)
    case first =>
      cases near with
      | true =>
        go_wp2_with fail
        go_region_law (go_simp; go_at_call 38; (with_reducible refine (bring_any a 3 ha.1 ha.2 (by omega) (by omega) _).mono ?_); rintro e w' ⟨rfl, rfl⟩)
        all_goals
          go_wp2
          go_meet
          exact ⟨_, n, show rowAt (w1.setCell ⟨ta, 2, none⟩ (.int .i64 (IntKind.i64.wrap (b + a % 3)))) ta _ _ from (by simpa [rowD] using HR.out.1.set 2 (.int .i64 (IntKind.i64.wrap (b + a % 3)))), HR.out.2.poke (((keepBut.refl [ta] w1).setCell ⟨ta, 2, none⟩ (.int .i64 (IntKind.i64.wrap (b + a % 3))) (by simp)).drew) (by simp)⟩
      | false =>
        go_wp2_with fail
        go_meet
        exact ⟨b, n, HR.out.1, HR.out.2⟩
    case rest =>
      obtain ⟨b, n, hr, hB⟩ := hcut
      clear y1 y2 y4 yf2 HR
      generalize wc = w1 at *
      have y2 : w1.cell? ⟨ta, 2, none⟩ = some (.int .i64 b) := hr.cell 2
      have hta := hB.eF ta (by simp)
      have htg := hB.eG ta (by simp)
      have htl := (hB.eB ta (by simp)).2
      have HR := Lib.hid (And.intro hr hB)
      clear hr hB
      go_upto_region 44 with fail
      go_region_held3 (fun w' => w'.cell? ⟨ta, 2, none⟩ = some (.int .i64 b) ∧ True) (first | exact ⟨y2, trivial⟩ | exact ⟨z2, trivial⟩ | exact ⟨x2, trivial⟩)
        (first
          | (go_at_call 47; (with_reducible refine (noL_any p F s b _ (HR.out.2.over ((keepBut.refl [] w1).drew)).l).mono ?_); intro e w2 hq; obtain ⟨rfl, F2, h2, k2⟩ := (HR.out.2.over ((keepBut.refl [] w1).drew)).dw hq; have z2 : w2.cell? ⟨ta, 2, none⟩ = some (.int .i64 b) := (k2.cell (p := ⟨ta, 2, none⟩) htl hta).trans y2; have H2 := Lib.hid h2; clear h2 k2 hq)
          | (go_at_call 70; (with_reducible refine (noM_any q G s b _ H2.out.m).mono ?_); intro e w3 hq; obtain ⟨rfl, G3, h3, k3⟩ := H2.out.dmp hq; have x2 : w3.cell? ⟨ta, 2, none⟩ = some (.int .i64 b) := (k3.cell (p := ⟨ta, 2, none⟩) (H2.out.eB ta (by simp)).2 htg).trans z2; have H3 := Lib.hid h3; clear h3 k3 hq)
          | fail)
      go_wp2
      go_ret
      exact ⟨rfl, F2, G3, _, H3.out.some (by simp), hin.no' b⟩
end Go.Proofs.Ytbjonlfjfjlelaa
