/-
  VIEW: ViewUntil's walk.
-/
import Derived.Test.YtjipokilidhnoaaViewWorks
import Derived.Test.YtjipokilidhnoaaViewUntilPure
import Derived.Test.YtjipokilidhnoaaViewLift
namespace Go.Proofs.Ytjipokilidhnoaa
open Go.RowKit
set_option linter.unusedVariables false
set_option maxRecDepth 100000

def untilRel (w : World) (q : Nat) (L : List VR) (p : Nat) (F G : List Nat) (A : Option Addr) (n : Nat) (v9 : Value) (wx : World) : Prop :=
  ∃ (i : Nat) (H : List Nat), n ≤ i ∧ i ≤ L.length ∧ v9 = .int .i64 (i : Int) ∧ isV wx q H (L.take i) ∧ isV wx p F L ∧ rowsV wx G A L ∧ (∀ y ∈ H, y ∉ F ∧ y ∉ G ∧ w.heap.size ≤ y) ∧ (∀ y ∈ G, y < wx.heap.size) ∧ keepBut [] w wx
set_option maxHeartbeats 4000000 in
theorem viewUntil_walk (A : Option Addr) (l : List SD) (c : Nat) (st : Int) (w : World) (h : seedsV w A l) (hlc : l.length ≤ c) (hc : c ≤ maxLen) (hst : (Lit.int .i64 st).wf = true) :
    Calls Try.prog 5 #[.slice A l.length c, .int .i64 st] w (yesPost w) := by
  have hb := bd_sd hst
  have hl : l.length ≤ 9223372036854775807 := by unfold maxLen at hc; omega
  go_enter Try.func5, Try.ntmps5
  go_wp2_with fail
  refine (made_any l A c 60 _ h (by omega) hl).mono ?_
  rintro e w1 ⟨A1, c1, G, rfl, hc1, hc1m, hr1, hG1, k1⟩
  have hk : min l.length 60 ≤ l.length := by omega
  have hL60 : (mdTo l (min l.length 60)).length ≤ 60 := by rw [mdTo_len hk]; omega
  have hgood := mdTo_good hk (by omega)
  have hsort := mdTo_sorted hk
  have hpos := mdTo_nonneg hk
  generalize mdTo l (min l.length 60) = L at hc1 hr1 hL60 hgood hsort hpos ⊢
  go_wp2_with fail
  refine (ofL_any G A1 c1 L _ hr1 hgood hc1).mono ?_
  rintro e w2 ⟨p, F, rfl, hp2, hF2, k2⟩
  have k02 := k1.then k2 (by simp)
  have hr2 := hr1.keep k2 (by simp)
  have hG2 : ∀ y ∈ G, y < w2.heap.size := fun y hy => Nat.lt_of_lt_of_le (hG1 y hy) k2.size
  clear hr1 k1 k2 hF2 hG1
  have HG := Lib.hid (And.intro hgood (And.intro hsort hpos))
  have H2 := Lib.hid (And.intro hp2 (And.intro hr2 (And.intro hG2 k02)))
  clear hgood hsort hpos hp2 hr2 hG2 k02 h
  go_wp2_with fail
  refine (bring_any st 130 hb.1 hb.2 (by decide) (by decide) _).mono ?_
  rintro e w' ⟨rfl, rfl⟩
  generalize st % 130 = sx
  obtain ⟨n, hn, hfil, hlo, hhi⟩ := filter_take sx L HG.out.2.1
  go_wp2_with fail
  refine (untilV_any p F L sx _ H2.out.1 (by omega)).mono ?_
  rintro e w3 ⟨q, Q, rfl, hq3, hQ3, k3⟩
  rw [hfil] at hq3
  have hp3 := H2.out.1.over k3
  have hr3 := H2.out.2.1.keep k3 (by simp)
  have hdis : ∀ y ∈ Q, y ∉ F ∧ y ∉ G ∧ w.heap.size ≤ y := fun y hy => ⟨fun hm => by have := hQ3 y hy; have := H2.out.1.lt y hm; omega, fun hm => by have := hQ3 y hy; have := H2.out.2.2.1 y hm; omega, Nat.le_trans H2.out.2.2.2.size (hQ3 y hy)⟩
  have hG3 : ∀ y ∈ G, y < w3.heap.size := fun y hy => Nat.lt_of_lt_of_le (H2.out.2.2.1 y hy) k3.size
  have k03 := H2.out.2.2.2.then k3 (by simp)
  have hnl : (L.take n).length = n := by rw [List.length_take]; omega
  have HS := Lib.hid (And.intro hlo hhi)
  have H3 := Lib.hid (And.intro hq3 (And.intro hp3 (And.intro hr3 (And.intro hdis (And.intro hG3 k03)))))
  clear hfil hlo hhi hq3 hp3 hr3 hdis hG3 k03 k3 hQ3 H2
  go_wp2_with fail
  refine (lenV_any q Q (L.take n) _ H3.out.1).mono ?_
  rintro e w' ⟨rfl, rfl⟩
  rw [hnl]
  go_upto_region 8 with fail
  go_cut [23, 24, 25, 26, 27, 28, 29, 30, 31, 32, 33, 34, 35, 36, 37, 38, 39, 40, 41, 42, 43, 44, 45, 46, 47, 48, 49, 50, 51, 52, 53, 54, 55, 56, 57, 58, 59, 60, 61, 62, 63, 64, 65, 66, 67, 68, 69, 70, 71, 72, 73, 74, 75, 76, 77, 78, 79, 80] (fun _ _ _ _ _ _ _ _ _ _ _ _ _ _ _ _ _ _ _ _ _ _ _ _ _ _ _ _ _ _ _ _ _ _ _ _ _ _ _ _ _ _ _ _ _ _ _ _ _ _ _ _ _ _ _ _ _ v80 wx => v80 = .bool false ∧ keepBut [] w3 wx)
  case first =>
    rcases Nat.lt_or_ge n L.length with hlt | hge
    · have hlt' : (n : Int) < (L.length : Int) := by omega
      have hf1 : firstAt L (L.take n) 0 = (n : Int) := by rw [firstAt_take L n 0 hlt]; simp
      obtain ⟨r, hr⟩ : ∃ r, L[n]? = some r := ⟨_, List.getElem?_eq_getElem hlt⟩
      have hrs := HS.out.2 n r (Nat.le_refl n) hr
      obtain ⟨g, o, rfl, hgl, hgG, hall⟩ := H3.out.2.2.1 (by rintro rfl; simp at hlt)
      obtain ⟨A', m, hbb, y0, y1, y2, y3⟩ := hall n r hr
      clear hbb y1 y2 y3
      have hrs' : ¬ (r.step ≤ sx) := by omega
      rcases Nat.eq_zero_or_pos n with h0 | h0
      · subst h0
        have HA := Lib.hid hall
        clear hall hr
        have hd0 : ¬ ((L.length : Int) < 0) := by omega
        have he0 : ((0 : Int) == (L.length : Int)) = false := by simp; omega
        replace y0 : w3.cell? ⟨g, o, none⟩ = some (.int .i64 r.step) := by simpa using y0
        go_wp2_with fail
        refine (firstV_any p q F Q _ _ _ H3.out.2.1 H3.out.1 (by omega) (by rw [hnl]; omega)).mono ?_
        rintro e w4 ⟨rfl, k4⟩
        rw [hf1]
        have y4 := (k4.cell (p := ⟨g, o, none⟩) hgl (by simp)).trans y0
        clear y0
        go_wp2_with fail
        go_meet
        exact ⟨by simp [hrs'], k4⟩
      · have h0' : (0 : Int) < (n : Int) := by omega
        obtain ⟨r', hr'⟩ : ∃ r, L[n - 1]? = some r := ⟨_, List.getElem?_eq_getElem (by omega)⟩
        have hrs1 := HS.out.1 (n - 1) r' (by omega) hr'
        obtain ⟨A'', m', hbb, z0, z1, z2, z3⟩ := hall (n - 1) r' hr'
        clear hbb z1 z2 z3
        have HA := Lib.hid hall
        clear hall hr hr'
        have hn1 : IntKind.i64.wrap ((n : Int) - 1) = ((n - 1 : Nat) : Int) := by rw [wraps_i64 _ (by omega) (by omega)]; omega
        have hrs1' : ¬ (sx < r'.step) := by omega
        have hd0 : ¬ ((L.length : Int) < (n : Int)) := by omega
        have he0 : ((n : Int) == (L.length : Int)) = false := by simp; omega
        go_wp2_with fail
        refine (firstV_any p q F Q _ _ _ H3.out.2.1 H3.out.1 (by omega) (by rw [hnl]; omega)).mono ?_
        rintro e w4 ⟨rfl, k4⟩
        rw [hf1]
        have y4 := (k4.cell (p := ⟨g, o + n * 4, none⟩) hgl (by simp)).trans y0
        have z4 := (k4.cell (p := ⟨g, o + (n - 1) * 4, none⟩) hgl (by simp)).trans z0
        clear y0 z0
        go_wp2_with fail
        go_meet
        exact ⟨by simp [hrs', hrs1'], k4⟩
    · obtain rfl : n = L.length := by omega
      have hf1 : firstAt L (L.take L.length) 0 = -1 := by rw [List.take_length]; exact firstAt_self L 0
      rcases Nat.eq_zero_or_pos L.length with h0 | h0
      · obtain rfl : L = [] := List.eq_nil_of_length_eq_zero h0
        clear h0
        go_wp2_with fail
        refine (firstV_any p q F Q _ _ _ H3.out.2.1 H3.out.1 (by omega) (by rw [hnl]; omega)).mono ?_
        rintro e w4 ⟨rfl, k4⟩
        rw [hf1]
        go_wp2_with fail
        go_meet
        exact ⟨rfl, k4⟩
      · have h0' : (0 : Int) < (L.length : Int) := by omega
        obtain ⟨g, o, rfl, hgl, hgG, hall⟩ := H3.out.2.2.1 (by rintro rfl; simp at h0)
        obtain ⟨r', hr'⟩ : ∃ r, L[L.length - 1]? = some r := ⟨_, List.getElem?_eq_getElem (by omega)⟩
        have hrs1 := HS.out.1 (L.length - 1) r' (by omega) hr'
        obtain ⟨A'', m', hbb, z0, z1, z2, z3⟩ := hall (L.length - 1) r' hr'
        clear hbb z1 z2 z3
        have HA := Lib.hid hall
        clear hall hr'
        have hn1 : IntKind.i64.wrap ((L.length : Int) - 1) = ((L.length - 1 : Nat) : Int) := by rw [wraps_i64 _ (by omega) (by omega)]; omega
        have hrs1' : ¬ (sx < r'.step) := by omega
        go_wp2_with fail
        refine (firstV_any p q F Q _ _ _ H3.out.2.1 H3.out.1 (by omega) (by rw [hnl]; omega)).mono ?_
        rintro e w4 ⟨rfl, k4⟩
        rw [hf1]
        have z4 := (k4.cell (p := ⟨g, o + (L.length - 1) * 4, none⟩) hgl (by simp)).trans z0
        clear z0
        go_wp2_with fail
        go_meet
        exact ⟨by simp [hrs1'], k4⟩
  case rest =>
    obtain ⟨rfl, hk⟩ := hcut
    have hI0 : untilRel w q L p F G A1 n (.int .i64 (n : Int)) wc := ⟨n, Q, Nat.le_refl n, hn, rfl, H3.out.1.over hk, H3.out.2.1.over hk, H3.out.2.2.1.keep hk (by simp), H3.out.2.2.2.1, fun y hy => Nat.lt_of_lt_of_le (H3.out.2.2.2.2.1 y hy) hk.size, H3.out.2.2.2.2.2.then hk (by simp)⟩
    have HI := Lib.hid hI0
    clear hI0 hk H3 HS
    go_wp2_with fail
    go_loopw [9] (fun v9 wx => untilRel w q L p F G A1 n v9 wx) (fun v9 _ => L.length - (intOf v9).toNat)
    case atStart => exact HI.out
    case round =>
      obtain ⟨i, H, hni, hi, rfl, hq, hp, hr, hdis, hG, hk⟩ := hrel
      by_cases hlt : i < L.length
      · have hlt' : (i : Int) < (L.length : Int) := by omega
        obtain ⟨x, hx⟩ : ∃ r, L[i]? = some r := ⟨_, List.getElem?_eq_getElem hlt⟩
        obtain ⟨g, o, rfl, hgl, hgG, hall⟩ := id hr (by rintro rfl; simp at hlt)
        obtain ⟨A', m, hbb, y0, y1, y2, y3⟩ := hall i x hx
        have hadd := HG.out.1.add hx
        obtain ⟨s, nd, kd, b⟩ := x
        dsimp only at hbb y0 y1 y2 y3
        have HR := Lib.hid (And.intro hq (And.intro hp (And.intro hr (And.intro hdis (And.intro hG (And.intro hk (And.intro hbb hadd)))))))
        have hgd := hG g hgG
        clear hq hp hr hdis hG hk hbb hadd hall hx
        go_wp2_with fail
        refine (addV_any q H G (L.take i) s nd kd b A' m _ HR.out.1 HR.out.2.2.2.2.2.2.1 (by rw [List.length_take]; omega)).mono ?_
        rintro e w5 ⟨rfl, H5, hq5, k5, hH5⟩
        rw [HR.out.2.2.2.2.2.2.2] at hq5 ⊢
        have hp5 := HR.out.2.1.keep k5 (fun y hy hm => (HR.out.2.2.2.1 y hm).1 hy)
        have hr5 := HR.out.2.2.1.keep k5 (fun y hy hm => (HR.out.2.2.2.1 y hm).2.1 hy)
        have k05 := HR.out.2.2.2.2.2.1.then k5 (fun y hy => .inr (HR.out.2.2.2.1 y hy).2.2)
        have hd5 : ∀ y ∈ H5, y ∉ F ∧ y ∉ G ∧ w.heap.size ≤ y := fun y hy => by
          rcases hH5 y hy with h1 | h1
          · exact HR.out.2.2.2.1 y h1
          · exact ⟨fun hm => by have := HR.out.2.1.lt y hm; omega, fun hm => by have := HR.out.2.2.2.2.1 y hm; omega, by have := HR.out.2.2.2.2.2.1.size; omega⟩
        have H6 := Lib.hid (And.intro hq5 (And.intro hp5 (And.intro hr5 (And.intro hd5 (And.intro (fun y hy => Nat.lt_of_lt_of_le (HR.out.2.2.2.2.1 y hy) k5.size) k05)))))
        clear hq5 hp5 hr5 hd5 k05 k5 hH5 y0 y1 y2 y3
        go_wp2_with fail
        go_roundw
        case rel => exact ⟨i + 1, H5, by omega, by omega, by go_num, H6.out.1, H6.out.2.1, H6.out.2.2.1, H6.out.2.2.2.1, H6.out.2.2.2.2.1, H6.out.2.2.2.2.2⟩
        case measure => simp [intOf]; omega
      · obtain rfl : i = L.length := by omega
        rw [List.take_length] at hq
        have H6 := Lib.hid (And.intro hq (And.intro hp hk))
        clear hq hp hk hr hdis hG HI
        go_wp2_with fail
        refine (firstV_any q p H F L L _ H6.out.1 H6.out.2.1 (by omega) (by omega)).mono ?_
        rintro e w7 ⟨rfl, k7⟩
        rw [firstAt_self]
        have hp7 := H6.out.2.1.over k7
        have k07 := H6.out.2.2.then k7 (by simp)
        go_wp2_with fail
        refine (untilV_any p F L (-1) _ hp7 (by omega)).mono ?_
        rintro e w8 ⟨z, Z, rfl, hz, hZ, k8⟩
        rw [filter_none (fun i r hr => by have := HG.out.2.2 i r hr; omega)] at hz
        have k08 := k07.then k8 (by simp)
        clear k7 hp7 k07 k8 hZ
        go_wp2_with fail
        refine (lenV_any z Z [] _ hz).mono ?_
        rintro e w' ⟨rfl, rfl⟩
        have HK := Lib.hid k08
        clear k08 hz
        go_wp2_with fail
        refine (worksV_any _).mono ?_
        rintro e w9 ⟨rfl, k9⟩
        have HK9 := Lib.hid (HK.out.then k9 (by simp))
        clear k9
        go_wp2_with fail
        go_ret
        exact ⟨rfl, HK9.out⟩
theorem viewUntil_law (A : Option Addr) (n c : Nat) (st : Int) (w : World) (h : seedls w A n) (hnc : n ≤ c) (hc : c ≤ maxLen) (hst : (Lit.int .i64 st).wf = true) :
    Calls Try.prog 5 #[.slice A n c, .int .i64 st] w (yesPost w) := by
  obtain ⟨l, rfl, hl⟩ := h
  exact viewUntil_walk A l c st w hl hnc hc hst
end Go.Proofs.Ytjipokilidhnoaa
