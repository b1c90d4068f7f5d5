/-
  TABLE, 3: where a number stands among numbers.
-/
import Derived.Test.YtmlmhnhilemjhaaDoorTB2
namespace Go.Proofs.YtmlmhnhilemjhaaDoor
open Go.RowKit
set_option linter.unusedVariables false
set_option maxRecDepth 100000
set_option linter.unusedSimpArgs false

def ordI : Value := .func (.func 21) #[.agg #[]] #[]
theorem reads.intAt {w : World} {g o : Nat} {ns : List Int} (h : reads w (some ⟨g, o, none⟩) g ns.length 1 (ns.map (Value.int .i64))) {i : Nat} {n : Int} (hi : ns[i]? = some n) :
    w.cell? ⟨g, o + i, none⟩ = some (.int .i64 n) := by
  obtain ⟨o', hA, _, hc⟩ := h.2 (Nat.lt_of_le_of_lt (Nat.zero_le _) (List.getElem?_eq_some_iff.1 hi).1)
  obtain rfl : o = o' := by simpa using hA
  exact hc i _ (by rw [List.getElem?_map, hi]; rfl)
set_option maxHeartbeats 8000000 in
theorem searchI_any (g o c : Nat) (ns : List Int) (t : Int) (w : World) (hl : ∀ n ∈ ns, 0 ≤ n ∧ n ≤ 1000000) (ht : 0 ≤ t ∧ t ≤ 1000000) (hr : reads w (some ⟨g, o, none⟩) g ns.length 1 (ns.map (Value.int .i64))) (hsz : ns.length ≤ 1000000)
    (hm : monoF (fun n => n - t) ns) :
    Calls Tryd.prog 73 #[.slice (some ⟨g, o, none⟩) ns.length c, .int .i64 t, ordI] w
      fun e w' => e = .returned (.tuple #[.int .i64 (posOf (fun n => n - t) ns : Nat), .bool (hitOf (fun n => n - t) ns)]) ∧ keepBut [] w w' := by
  have HK := Lib.hid (keepBut.refl [] w)
  have HX := Lib.hid hr
  clear hr
  have HL := Lib.hid (And.intro hl ht)
  have HM := Lib.hid hm
  have S0 : Hid (keepBut [] w w) := Lib.hid (keepBut.refl _ _)
  clear hl ht hm
  unfold ordI
  go_enter Tryd.func73, Tryd.ntmps73
  go_wp2
  go_loopg [9, 10] ns.length (fun kx s9 s10 wr => ∃ lo hi : Nat, s9 = .int .i64 lo ∧ s10 = .int .i64 hi ∧ lo ≤ hi ∧ hi ≤ ns.length ∧ hi - lo ≤ kx ∧ Hid (keepBut [] w wr) ∧
    Hid ((∀ (t' : Nat) (x : Int), t' < lo → ns[t']? = some x → x - t < 0) ∧ (∀ (t' : Nat) (x : Int), hi ≤ t' → ns[t']? = some x → 0 ≤ x - t)))
  case atStart =>
    exact ⟨0, ns.length, rfl, rfl, Nat.zero_le _, Nat.le_refl _, by omega, S0, Lib.hid ⟨fun t' x ht => absurd ht (Nat.not_lt_zero _), fun t' x h1 h2 => by rw [List.getElem?_eq_none h1] at h2; cases h2⟩⟩
  case round =>
    clear S0
    obtain ⟨lo, hi, rfl, rfl, hlh, hin, hg, S1, I⟩ := hrel
    by_cases hlt : lo < hi
    · obtain ⟨x, hx⟩ : ∃ x, ns[(lo + hi) / 2]? = some x := ⟨_, List.getElem?_eq_getElem (by omega)⟩
      have HXX := Lib.hid hx
      have hxl := Lib.hid (HL.out.1 x (List.mem_of_getElem? hx))
      clear hx
      go_upto_region 5 with fail
      obtain ⟨h, eh⟩ : ∃ h : Nat, ((lo : Int) + (hi : Int)) / 2 = (h : Int) := ⟨(lo + hi) / 2, by omega⟩
      obtain rfl : h = (lo + hi) / 2 := by omega
      rw [eh]
      have HB := Lib.hid (show lo ≤ (lo + hi) / 2 ∧ (lo + hi) / 2 < hi by omega)
      clear eh
      generalize (lo + hi) / 2 = h at *
      have HRG : Hid (∀ W, keepBut [] w W → W.cell? ⟨g, o + h, none⟩ = some (.int .i64 x)) := Lib.hid (fun W k => (HX.out.keepS k (by simp)).intAt HXX.out)
      have b1 : (h : Int) < (ns.length : Int) := by have := (List.getElem?_eq_some_iff.1 HXX.out).1; omega
      have y := HRG.out wr S1.out
      have hwr : IntKind.i64.wrap (x - t) = x - t := by have h1 := hxl.out; have h2 := HL.out.2; rw [IntKind.wrap_i64]; omega
      by_cases hneg : x - t < 0
      · go_wp2_with (go_at_call 21; refine (upward_any x t _).mono ?_; rintro e w2 ⟨rfl, kk⟩; rw [hwr]; have K2 := Lib.hid (S1.out.then kk (by simp)); clear kk)
        go_roundg (hi - (h + 1))
        case measure => have := HB.out; omega
        case rel => exact ⟨h + 1, hi, by go_num, rfl, by have := HB.out; omega, hin, Nat.le_refl _, K2, Lib.hid ⟨fun t' y ht hy => HM.out t' h y x (by omega) hy HXX.out hneg, I.out.2⟩⟩
      · go_wp2_with (go_at_call 21; refine (upward_any x t _).mono ?_; rintro e w2 ⟨rfl, kk⟩; rw [hwr]; have K2 := Lib.hid (S1.out.then kk (by simp)); clear kk)
        go_roundg (h - lo)
        case measure => have := HB.out; omega
        case rel => exact ⟨lo, h, rfl, rfl, by have := HB.out; omega, by have := HB.out; omega, Nat.le_refl _, K2, Lib.hid ⟨I.out.1, fun t' y ht hy => by have := HM.out h t' x y ht HXX.out hy; dsimp only at this; omega⟩⟩
    · obtain rfl : hi = lo := by omega
      have HP := Lib.hid (posOf_at (fun n => n - t) ns hi (by omega) (fun t' x ht hx => I.out.1 t' x ht hx) (fun t' x ht hx => I.out.2 t' x ht hx))
      by_cases hn : hi < ns.length
      · obtain ⟨x, hx⟩ : ∃ x, ns[hi]? = some x := ⟨_, List.getElem?_eq_getElem hn⟩
        have HXX := Lib.hid hx
        have hxl := Lib.hid (HL.out.1 x (List.mem_of_getElem? hx))
        clear hx
        have y := ((HX.out.keepS S1.out (by simp)).intAt HXX.out)
        have hwr : IntKind.i64.wrap (x - t) = x - t := by have h1 := hxl.out; have h2 := HL.out.2; rw [IntKind.wrap_i64]; omega
        have b1 : (hi : Int) < (ns.length : Int) := by omega
        go_wp2_with (go_at_call 21; refine (upward_any x t _).mono ?_; rintro e w2 ⟨rfl, kk⟩; rw [hwr]; have K2 := Lib.hid (S1.out.then kk (by simp)); clear kk)
        go_ret2
        refine ⟨?_, HK.out.then K2.out (by simp)⟩
        have e1 : hitOf (fun n => n - t) ns = decide (x - t = 0) := by unfold hitOf; rw [HP.out, HXX.out]
        rw [e1, HP.out]
        rfl
      · have hn' : ¬ (hi : Int) < (ns.length : Int) := by omega
        go_wp2_with fail
        go_ret2
        refine ⟨?_, HK.out.then S1.out (by simp)⟩
        have e1 : hitOf (fun n => n - t) ns = false := by unfold hitOf; rw [HP.out, List.getElem?_eq_none (by omega)]
        rw [e1, HP.out]
        rfl
end Go.Proofs.YtmlmhnhilemjhaaDoor
