/-
  THE READER of package num: each method does what the pure function says.
-/
import Derived.Test.YthfdkonhjpdflaaDoorNumPure
namespace Go.Proofs.YthfdkonhjpdflaaDoor
open Go.RowKit
set_option linter.unusedVariables false

/-- block p is a reader that stands at r; its bytes lie in block g -/
def isR (w : World) (p g : Nat) (r : RS) : Prop :=
  ∃ A c, rowAt w p 114 #[.slice A r.l.length c, .int .i64 r.e] ∧ r.l.length ≤ c ∧ c ≤ maxLen ∧ seen w A g r.l ∧ (r.l ≠ [] → g ≠ p)

theorem isR.keep {S : List Nat} {w w' : World} {p g : Nat} {r : RS} (h : isR w p g r) (hk : keepBut S w w') (hp : p ∉ S) (hg : r.l ≠ [] → g ∉ S) : isR w' p g r := by
  obtain ⟨A, c, h1, h2, h3, h4, h5⟩ := h
  exact ⟨A, c, hk.row h1 hp, h2, h3, h4.keep hk hg, h5⟩
theorem isR.lt {w : World} {p g : Nat} {r : RS} (h : isR w p g r) : p < w.heap.size := by
  obtain ⟨A, c, h1, _⟩ := h; exact h1.lt

def failPost (p g : Nat) (r : RS) (x : Int) (w : World) (e : Ending) (w' : World) : Prop :=
  e = .returned (.tuple #[]) ∧ isR w' p g (r.fail x) ∧ keepBut [p] w w'

set_option maxHeartbeats 400000 in
theorem fail_any (p g : Nat) (r : RS) (x : Int) (w : World) (h : isR w p g r) :
    Calls Tryd.prog 71 #[.pointer (some ⟨p, 0, none⟩), .int .i64 x] w (failPost p g r x w) := by
  obtain ⟨A, c, h1, h2, h3, h4, h5⟩ := h
  have hc0 : w.cell? ⟨p, 0, none⟩ = some (.slice A r.l.length c) := h1.cell 0
  have hc1 : w.cell? ⟨p, 1, none⟩ = some (.int .i64 r.e) := h1.cell 1
  have hf0 := h1.free 0
  have hf1 := h1.free 1
  by_cases he : r.e = 0
  · have he' : (r.e == 0) = true := by simp [he]
    have H := Lib.hid he
    clear he
    go_enter Tryd.func71, Tryd.ntmps71
    go_wp2
    go_end0
    refine ⟨rfl, ⟨none, 0, ?_, ?_, ?_, ?_, by simp only [RS.fail, if_pos H.out]; exact fun h => absurd rfl h⟩, ((keepBut.refl _ _).setCell _ _ (by simp)).setCell _ _ (by simp)⟩
    · simp only [RS.fail, if_pos H.out]
      exact (h1.set 1 _).set 0 _
    · simp only [RS.fail, if_pos H.out]
      exact Nat.le_refl _
    · simp [maxLen]
    · simp only [RS.fail, if_pos H.out]
      exact seen.nil _ _ _
  · have he' : (r.e == 0) = false := by simp [he]
    go_enter Tryd.func71, Tryd.ntmps71
    go_wp2
    go_end0
    have hf : r.fail x = r := by simp [RS.fail, he]
    exact ⟨rfl, by rw [hf]; exact ⟨A, c, h1, h2, h3, h4, h5⟩, keepBut.refl _ _⟩

def takePost (p g : Nat) (r : RS) (n : Nat) (w : World) (e : Ending) (w' : World) : Prop :=
  ∃ A c, e = .returned (.tuple #[.slice A (r.take n).length c, .bool (r.took n)]) ∧ (r.take n).length ≤ c ∧ c ≤ maxLen ∧ seen w' A g (r.take n) ∧ isR w' p g (r.past n) ∧ keepBut [p] w w'

set_option maxHeartbeats 400000 in
theorem take_any (p g : Nat) (r : RS) (n : Nat) (w : World) (h : isR w p g r) :
    Calls Tryd.prog 72 #[.pointer (some ⟨p, 0, none⟩), .int .i64 n] w (takePost p g r n w) := by
  obtain ⟨A, c, h1, h2, h3, h4, h5⟩ := id h
  have hc0 : w.cell? ⟨p, 0, none⟩ = some (.slice A r.l.length c) := h1.cell 0
  have hc1 : w.cell? ⟨p, 1, none⟩ = some (.int .i64 r.e) := h1.cell 1
  have hf0 := h1.free 0
  have hf1 := h1.free 1
  unfold maxLen at h3
  by_cases he : r.e = 0
  · have he' : (r.e == 0) = true := by simp [he]
    have H := Lib.hid he
    clear he
    by_cases hn : n ≤ r.l.length
    · have T : r.take n = r.l.take n := by simp [RS.take, H.out, hn]
      have P : r.past n = ⟨r.l.drop n, 0⟩ := by simp [RS.past, H.out, hn]
      have K : r.took n = true := by simp [RS.took, H.out, hn]
      have L : (r.take n).length = n := by rw [T, List.length_take]; omega
      have HT := Lib.hid T; have HP := Lib.hid P; have HK := Lib.hid K; have HL := Lib.hid L
      clear T P K L
      go_enter Tryd.func72, Tryd.ntmps72
      go_wp2
      · go_ret2
        refine ⟨A, n, by rw [HK.out, HL.out]; rfl, by rw [HL.out]; omega, by unfold maxLen; omega, ?_, ?_, (keepBut.refl _ _).setCell _ _ (by simp)⟩
        · rw [HT.out]; exact (h4.take n).keep ((keepBut.refl [p] w).setCell _ _ (by simp)) (fun hne => by simpa using h5 (by rintro h0; apply hne; rw [h0]; simp))
        · rw [HP.out]
          have hd : r.l.drop n = [] := List.drop_eq_nil_of_le (by omega)
          refine ⟨A, 0, ?_, by simp [hd], by simp [maxLen], by rw [hd]; exact seen.nil _ _ _, fun hne => absurd hd hne⟩
          have := h1.set 0 (.slice A (r.l.length - n) 0)
          simpa [H.out] using this
      · go_ret2
        refine ⟨A, c, by rw [HK.out, HL.out]; rfl, by rw [HL.out]; omega, by unfold maxLen; omega, ?_, ?_, (keepBut.refl _ _).setCell _ _ (by simp)⟩
        · rw [HT.out]; exact (h4.take n).keep ((keepBut.refl [p] w).setCell _ _ (by simp)) (fun hne => by simpa using h5 (by rintro h0; apply hne; rw [h0]; simp))
        · rw [HP.out]
          refine ⟨_, c - n, ?_, by simp; omega, by unfold maxLen; omega, (h4.drop n).keep ((keepBut.refl [p] w).setCell _ _ (by simp)) (fun hne => by simpa using h5 (by rintro h0; apply hne; rw [h0]; simp)), fun hne => h5 (by rintro h0; apply hne; rw [h0]; simp)⟩
          have := h1.set 0 (.slice (Option.map (fun x => x.add n) A) (r.l.length - n) (c - n))
          simpa [H.out] using this
    · have T : r.take n = [] := by simp [RS.take, H.out, hn]
      have P : r.past n = r.fail 3 := by simp [RS.past, RS.fail, H.out, hn]
      have K : r.took n = false := by simp [RS.took, hn]
      have HT := Lib.hid T; have HP := Lib.hid P; have HK := Lib.hid K
      clear T P K
      go_enter Tryd.func72, Tryd.ntmps72
      go_wp2_with (go_at_call 71; refine (fail_any p g r _ _ h).mono ?_; rintro e w' ⟨rfl, hi, hk⟩)
      go_ret2
      exact ⟨none, 0, by rw [HK.out, HT.out]; rfl, by rw [HT.out]; simp, by simp [maxLen], by rw [HT.out]; exact seen.nil _ _ _, by rw [HP.out]; exact hi, hk⟩
  · have he' : (r.e == 0) = false := by simp [he]
    have T : r.take n = [] := by simp [RS.take, he]
    have P : r.past n = r := by simp [RS.past, he]
    have K : r.took n = false := by simp [RS.took, he]
    have HT := Lib.hid T; have HP := Lib.hid P; have HK := Lib.hid K
    clear T P K
    go_enter Tryd.func72, Tryd.ntmps72
    go_wp2
    go_ret2
    exact ⟨none, 0, by rw [HK.out, HT.out]; rfl, by rw [HT.out]; simp, by simp [maxLen], by rw [HT.out]; exact seen.nil _ _ _, by rw [HP.out]; exact h, keepBut.refl _ _⟩
end Go.Proofs.YthfdkonhjpdflaaDoor
