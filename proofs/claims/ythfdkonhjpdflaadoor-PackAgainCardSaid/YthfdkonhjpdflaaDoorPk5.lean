/-
  PACK, 5: sameConf, sameVote, slices.EqualFunc of votes.
-/
import Derived.Test.YthfdkonhjpdflaaDoorPk4
namespace Go.Proofs.YthfdkonhjpdflaaDoor
open Go.RowKit
set_option linter.unusedVariables false
set_option maxRecDepth 100000

def CF.same (c d : CF) : Bool := (c.num == d.num) && ((c.full == d.full) && decide (c.chain = d.chain))
def VT.same (v u : VT) : Bool := (v.ballot == u.ballot) && v.conf.same u.conf
theorem CF.same_iff (c d : CF) : c.same d = true ↔ c = d := by
  obtain ⟨a, b, l⟩ := c
  obtain ⟨a', b', l'⟩ := d
  simp [CF.same]
theorem VT.same_iff (c d : VT) : c.same d = true ↔ c = d := by
  obtain ⟨a, l⟩ := c
  obtain ⟨a', l'⟩ := d
  simp [VT.same, CF.same_iff]
set_option maxHeartbeats 2000000 in
theorem sameConf_any (F G : List Nat) (c d : CF) (cv dv : Value) (w : World) (hc : intsV w F cv c.chain) (hd : intsV w G dv d.chain) :
    Calls Tryd.prog 54 #[.agg (cfL c cv).toArray, .agg (cfL d dv).toArray] w fun e w' => e = .returned (.bool (c.same d)) ∧ keepBut [] w w' := by
  obtain ⟨r1, r2, kk⟩ := rowAt.two w 35 (cfL c cv).toArray (cfL d dv).toArray
  obtain ⟨cn, cf, cl⟩ := c
  obtain ⟨dn, df, dl⟩ := d
  unfold cfL at r1 r2 kk ⊢
  dsimp only at r1 r2 kk hc hd ⊢
  have hc2 := hc.keep kk (by simp)
  have hd2 := hd.keep kk (by simp)
  obtain ⟨A, cc, g, rfl, _⟩ := id hc
  obtain ⟨B, dc, h, rfl, _⟩ := id hd
  have HE := Lib.hid (eqI_any F G cl dl _ _ _ hc2 hd2)
  have HK := Lib.hid kk
  clear r1 r2 kk hc2 hd2 hc hd
  by_cases h1 : cn = dn
  · subst h1
    by_cases h2 : cf = df
    · subst h2
      have HS := Lib.hid (show CF.same ⟨cn, cf, cl⟩ ⟨cn, cf, dl⟩ = decide (cl = dl) by simp [CF.same])
      go_enter Tryd.func54, Tryd.ntmps54
      go_wp2_with fail
      refine HE.out.mono ?_
      rintro e w' ⟨rfl, k⟩
      have HK2 := Lib.hid (HK.out.then k (by simp))
      clear k
      go_wp2_with fail
      go_ret
      exact ⟨by rw [HS.out]; rfl, HK2.out⟩
    · have HS := Lib.hid (show CF.same ⟨cn, cf, cl⟩ ⟨cn, df, dl⟩ = false by simp [CF.same, h2])
      have t2 : (cf == df) = false := by simpa using h2
      clear h2
      go_enter Tryd.func54, Tryd.ntmps54
      go_wp2_with fail
      go_ret
      exact ⟨by rw [HS.out]; rfl, HK.out⟩
  · have HS := Lib.hid (show CF.same ⟨cn, cf, cl⟩ ⟨dn, df, dl⟩ = false by simp [CF.same, h1])
    have t1 : (cn == dn) = false := by simpa using h1
    clear h1
    go_enter Tryd.func54, Tryd.ntmps54
    go_wp2_with fail
    go_ret
    exact ⟨by rw [HS.out]; rfl, HK.out⟩
set_option maxHeartbeats 2000000 in
theorem sameVote_any (F G : List Nat) (c d : VT) (cv dv : Value) (w : World) (hc : intsV w F cv c.conf.chain) (hd : intsV w G dv d.conf.chain) :
    Calls Tryd.prog 56 #[.agg (vtL c cv).toArray, .agg (vtL d dv).toArray] w fun e w' => e = .returned (.bool (c.same d)) ∧ keepBut [] w w' := by
  obtain ⟨r1, r2, kk⟩ := rowAt.two w 69 (vtL c cv).toArray (vtL d dv).toArray
  have hc2 := hc.keep kk (by simp)
  have hd2 := hd.keep kk (by simp)
  obtain ⟨A, cc, g, rfl, _⟩ := id hc
  obtain ⟨B, dc, h, rfl, _⟩ := id hd
  have HE := Lib.hid (sameConf_any F G c.conf d.conf _ _ _ hc2 hd2)
  have HK := Lib.hid kk
  clear r1 r2 kk hc2 hd2 hc hd
  obtain ⟨cb, cn, cf, cl⟩ := c
  obtain ⟨db, dn, df, dl⟩ := d
  unfold vtL cfL at HE HK ⊢
  dsimp only at HE HK ⊢
  by_cases h1 : cb = db
  · subst h1
    have HS := Lib.hid (show VT.same ⟨cb, cn, cf, cl⟩ ⟨cb, dn, df, dl⟩ = CF.same ⟨cn, cf, cl⟩ ⟨dn, df, dl⟩ by simp [VT.same])
    go_enter Tryd.func56, Tryd.ntmps56
    go_wp2_with fail
    refine HE.out.mono ?_
    rintro e w' ⟨rfl, k⟩
    have HK2 := Lib.hid (HK.out.then k (by simp))
    clear k
    go_wp2_with fail
    go_ret
    exact ⟨by rw [HS.out]; rfl, HK2.out⟩
  · have HS := Lib.hid (show VT.same ⟨cb, cn, cf, cl⟩ ⟨db, dn, df, dl⟩ = false by simp [VT.same, h1])
    have t1 : (cb == db) = false := by simpa using h1
    clear h1
    go_enter Tryd.func56, Tryd.ntmps56
    go_wp2_with fail
    go_ret
    exact ⟨by rw [HS.out]; rfl, HK.out⟩
/-- the value v is a slice of votes that reads as l, in the blocks F -/
def votesV (w : World) (F : List Nat) (v : Value) (l : List VT) : Prop :=
  ∃ (A : Option Addr) (c g : Nat) (T : List (VT × Value)), v = .slice A l.length c ∧ l.length ≤ c ∧ c ≤ maxLen ∧ T.map (·.1) = l ∧ reads w A g l.length 4 (flatVT T) ∧ (∀ t ∈ T, intsV w F t.2 t.1.conf.chain) ∧ (l ≠ [] → g ∈ F)
theorem votesV.keep {S F : List Nat} {w w' : World} {v : Value} {l : List VT} (h : votesV w F v l) (hk : keepBut S w w') (hS : ∀ y ∈ F, y ∉ S) : votesV w' F v l := by
  obtain ⟨A, c, g, T, h1, h2, h3, h4, h5, h6, h7⟩ := h
  exact ⟨A, c, g, T, h1, h2, h3, h4, h5.keepS hk (fun hl => hS g (h7 (List.length_pos_iff.1 hl))), fun t ht => (h6 t ht).keep hk hS, h7⟩
theorem votesV.nil (w : World) (F : List Nat) : votesV w F (.slice none 0 0) [] := ⟨none, 0, 0, [], rfl, by simp, by simp [maxLen], rfl, ⟨rfl, fun h => absurd h (by simp)⟩, by simp, fun h => absurd rfl h⟩
theorem flatVT_at : ∀ (T : List (VT × Value)) (i : Nat) (t : VT × Value), T[i]? = some t → ∀ j u, (vtL t.1 t.2)[j]? = some u → (flatVT T)[i * 4 + j]? = some u
  | [], i, t, h, j, u, hu => by simp at h
  | a :: r, 0, t, h, j, u, hu => by
    simp at h
    subst h
    have hj : j < (vtL a.1 a.2).length := (List.getElem?_eq_some_iff.1 hu).1
    show (vtL a.1 a.2 ++ flatVT r)[0 * 4 + j]? = some u
    rw [show 0 * 4 + j = j by omega, List.getElem?_append_left hj]
    exact hu
  | a :: r, i + 1, t, h, j, u, hu => by
    have := flatVT_at r i t (by simpa using h) j u hu
    show (vtL a.1 a.2 ++ flatVT r)[(i + 1) * 4 + j]? = some u
    rw [List.getElem?_append_right (by simp [vtL, cfL]; omega), show (i + 1) * 4 + j - (vtL a.1 a.2).length = i * 4 + j by simp [vtL, cfL]; omega]
    exact this
/-- one vote of a list -/
theorem votesV.at {w : World} {F : List Nat} {A : Option Addr} {n c : Nat} {l : List VT} (h : votesV w F (.slice A n c) l) {i : Nat} {x : VT} (hx : l[i]? = some x) :
    ∃ g o cv, A = some ⟨g, o, none⟩ ∧ g < w.heap.size ∧ g ∈ F ∧ intsV w F cv x.conf.chain ∧ w.cell? ⟨g, o + i * 4, none⟩ = some (.int .i64 x.ballot) ∧ w.cell? ⟨g, o + i * 4 + 1, none⟩ = some (.int .i64 x.conf.num) ∧ w.cell? ⟨g, o + i * 4 + 2, none⟩ = some (.int .i64 x.conf.full) ∧ w.cell? ⟨g, o + i * 4 + 3, none⟩ = some cv := by
  obtain ⟨A', c', g, T, h1, h2, h3, h4, h5, h6, h7⟩ := h
  injection h1 with ha hb hc
  subst ha
  have hi : i < l.length := (List.getElem?_eq_some_iff.1 hx).1
  obtain ⟨o, rfl, hgl, hcell⟩ := h5.2 (by omega)
  rw [← h4, List.getElem?_map] at hx
  cases ht : T[i]? with
  | none => rw [ht] at hx; cases hx
  | some t =>
    rw [ht] at hx
    simp at hx
    subst hx
    have hf := flatVT_at T i t ht
    have hg : g ∈ F := h7 (by rintro rfl; simp at hi)
    refine ⟨g, o, t.2, rfl, hgl, hg, h6 t (List.mem_of_getElem? ht), ?_, ?_, ?_, ?_⟩
    · exact hcell _ _ (hf 0 _ rfl)
    · exact hcell _ _ (hf 1 _ rfl)
    · exact hcell _ _ (hf 2 _ rfl)
    · exact hcell _ _ (hf 3 _ rfl)
end Go.Proofs.YthfdkonhjpdflaaDoor
