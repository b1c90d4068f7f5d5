/-
  RC, 3: the document's SameConf.
-/
import Derived.Test.YthfdkonhjpdflaaGreatDoorRC2
namespace Go.Proofs.YthfdkonhjpdflaaGreatDoor
open Go.RowKit
set_option linter.unusedVariables false
set_option maxRecDepth 100000
set_option linter.unusedSimpArgs false

theorem intsV.held {w : World} {F : List Nat} {v : Value} {l : List Int} (h : intsV w F v l) (hl : l.length ≤ 17592186044416) : held w F v l := by
  obtain ⟨A, c, g, h1, h2, h3, h5, h6⟩ := h
  exact ⟨A, c, g, h1, h2, h3, hl, h5, h6⟩
set_option maxHeartbeats 2000000 in
theorem sameConfD (F G : List Nat) (c d : CF) (cv dv : Value) (w : World) (hc : intsV w F cv c.chain) (hd : intsV w G dv d.chain) (hbc : c.chain.length ≤ 17592186044416) (hbd : d.chain.length ≤ 17592186044416) :
    Calls Tryz.prog 38 #[.agg (cfL c cv).toArray, .agg (cfL d dv).toArray] w fun e w' => e = .returned (.bool (c.same d)) ∧ keepBut [] w w' := by
  obtain ⟨r1, r2, kk⟩ := rowAt.two w 31 (cfL c cv).toArray (cfL d dv).toArray
  obtain ⟨cn, cf, cl⟩ := c
  obtain ⟨dn, df, dl⟩ := d
  unfold cfL at r1 r2 kk ⊢
  dsimp only at r1 r2 kk hc hd hbc hbd ⊢
  have hc2 := hc.keep kk (by simp)
  have hd2 := hd.keep kk (by simp)
  obtain ⟨A, cc, g, rfl, _⟩ := id hc
  obtain ⟨B, dc, h, rfl, _⟩ := id hd
  have HE := Lib.hid (eqInts_any F G _ _ cl dl _ (hc2.held hbc) (hd2.held hbd))
  have HK := Lib.hid kk
  clear hbc hbd r1 r2 kk hc2 hd2 hc hd
  by_cases h1 : cn = dn
  · subst h1
    by_cases h2 : cf = df
    · subst h2
      have HS := Lib.hid (show CF.same ⟨cn, cf, cl⟩ ⟨cn, cf, dl⟩ = decide (cl = dl) by simp [CF.same])
      go_enter Tryz.func38, Tryz.ntmps38
      go_wp2_with fail
      refine HE.out.mono ?_
      rintro e w' ⟨rfl, k⟩
      have HK2 := Lib.hid (HK.out.then k (by simp))
      clear k
      go_wp2_with fail
      go_ret
      exact ⟨by rw [HS.out]; rfl, HK2.out⟩
    · have HS := Lib.hid (show CF.same ⟨cn, cf, cl⟩ ⟨cn, df, dl⟩ = false by simp [CF.same, h2])
      have t2 : (cf == df) = false := by simpa using h2
      clear h2
      go_enter Tryz.func38, Tryz.ntmps38
      go_wp2_with fail
      go_ret
      exact ⟨by rw [HS.out]; rfl, HK.out⟩
  · have HS := Lib.hid (show CF.same ⟨cn, cf, cl⟩ ⟨dn, df, dl⟩ = false by simp [CF.same, h1])
    have t1 : (cn == dn) = false := by simpa using h1
    clear h1
    go_enter Tryz.func38, Tryz.ntmps38
    go_wp2_with fail
    go_ret
    exact ⟨by rw [HS.out]; rfl, HK.out⟩
end Go.Proofs.YthfdkonhjpdflaaGreatDoor
