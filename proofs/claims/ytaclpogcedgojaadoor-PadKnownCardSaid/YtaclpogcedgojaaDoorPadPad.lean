/-
  PAD: Pad.
-/
import Derived.Test.YtaclpogcedgojaaDoorPadZero
import Derived.Test.YtaclpogcedgojaaDoorMemCopy
import Derived.Deep.DeepCutAuto
import Derived.Deep.CutBlock
import Derived.Outline
namespace Go.Proofs.YtaclpogcedgojaaDoor
open Go.RowKit
set_option linter.unusedVariables false

theorem classesAt.keep {w w' : World} (h : classesAt w) (hk : keepBut [] w w') : classesAt w' := by
  obtain ⟨h0, h1, h2⟩ := h
  have hb : 0 < w.heap.size := World.block_lt_of_cell? w _ h0
  exact ⟨(hk.cell (p := ⟨0, 0, none⟩) hb (by simp)).trans h0, (hk.cell (p := ⟨0, 1, none⟩) hb (by simp)).trans h1, (hk.cell (p := ⟨0, 2, none⟩) hb (by simp)).trans h2⟩

/-- a value, padded to S bytes -/
def padBytes (l : List UInt8) (S : Nat) : List UInt8 := [0, UInt8.ofNat (l.length / 256), UInt8.ofNat (l.length % 256)] ++ l ++ List.replicate (S - 3 - l.length) 0
/-- a tombstone, padded to S bytes -/
def graveBytes (S : Nat) : List UInt8 := 1 :: List.replicate (S - 1) 0
def padP (l : List UInt8) (tomb : Bool) : List UInt8 × Int :=
  if tomb = true ∧ l ≠ [] then ([], 2) else if classP (l.length : Int) = 0 then ([], 70) else if tomb = true then (graveBytes (classP (l.length : Int)).toNat, 0) else (padBytes l (classP (l.length : Int)).toNat, 0)
def padPost (r : List UInt8 × Int) (w : World) (e : Ending) (w' : World) : Prop :=
  ∃ v, e = .returned (.tuple #[v, .int .i64 r.2]) ∧ owns w' 5 1 v r.1.length (r.1.map bv) ∧ (∀ x ∈ homes v, w.heap.size ≤ x) ∧ keepBut [] w w'

theorem padBytes_length (l : List UInt8) (S : Nat) (h : l.length + 3 ≤ S) : (padBytes l S).length = S := by
  unfold padBytes
  simp
  omega
theorem pad_list (l : List UInt8) (S : Nat) (h : l.length + 3 ≤ S) (hn : l.length ≤ 250) :
    splice ((((zeroRow S).setIfInBounds 0 (.int .u8 0)).setIfInBounds 1 (.int .u8 ((l.length : Int) / 256))).setIfInBounds 2 (.int .u8 (l.length : Int))).toList 3 (l.map bv) = (padBytes l S).map bv := by
  obtain ⟨k, rfl⟩ : ∃ k, S = k + 3 := ⟨S - 3, by omega⟩
  have hd : (l.length : Int) / 256 = 0 := by omega
  have hm : l.length % 256 = l.length := by omega
  have hq : l.length / 256 = 0 := by omega
  rw [hd]
  unfold splice padBytes
  rw [zeroRow_eq, hm, hq]
  have e3 : List.map bv (List.replicate (k + 3) (0 : UInt8)) = .int .u8 0 :: .int .u8 0 :: .int .u8 0 :: List.replicate k (.int .u8 0) := by
    simp [List.replicate_succ, bv]
  have hb : bv (UInt8.ofNat l.length) = .int .u8 (l.length : Int) := by
    unfold bv
    rw [UInt8.toNat_ofNat']
    congr 1
    omega
  rw [e3]
  simp only [Array.toList_setIfInBounds, List.set_cons_zero, List.set_cons_succ, List.map_append, List.map_cons, List.map_nil, hb]
  simp [bv]
  rw [show 3 + l.length = l.length + 3 by omega]
  simp
theorem grave_list (S : Nat) (h : 1 ≤ S) : (zeroRow S).setIfInBounds 0 (.int .u8 1) = ((graveBytes S).map bv).toArray := by
  obtain ⟨k, rfl⟩ : ∃ k, S = k + 1 := ⟨S - 1, by omega⟩
  rw [zeroRow_eq]
  apply Array.toList_inj.1
  simp [graveBytes, List.replicate_succ, bv]
theorem classP_cases (n : Nat) : (250 < n ∧ classP (n : Int) = 0) ∨ ∃ S : Nat, n ≤ 250 ∧ classP (n : Int) = (S : Int) ∧ 16 ≤ S ∧ S ≤ 256 ∧ n + 3 ≤ S := by
  unfold classP
  by_cases h : 250 < n
  · exact .inl ⟨h, by rw [if_pos (by omega)]⟩
  · rw [if_neg (by omega)]
    by_cases a : (n : Int) ≤ 13
    · exact .inr ⟨16, by omega, by rw [if_pos a]; rfl, by omega, by omega, by omega⟩
    · rw [if_neg a]
      by_cases b : (n : Int) ≤ 61
      · exact .inr ⟨64, by omega, by rw [if_pos b]; rfl, by omega, by omega, by omega⟩
      · exact .inr ⟨256, by omega, by rw [if_neg b]; rfl, by omega, by omega, by omega⟩

set_option maxRecDepth 100000 in
set_option maxHeartbeats 1000000 in
theorem pad_any (A : Option Addr) (g c : Nat) (l : List UInt8) (tomb : Bool) (w : World) (h : classesAt w) (hs : seen w A g l) (hb : l.length ≤ 140737488355328) :
    Calls Tryd.prog 11 #[.slice A l.length c, .bool tomb] w (padPost (padP l tomb) w) := by
  by_cases hbad : tomb = true ∧ l ≠ []
  · have HP := Lib.hid (show padP l tomb = ([], 2) by unfold padP; rw [if_pos hbad])
    obtain ⟨rfl, hne⟩ := hbad
    have hpos : (0 : Int) < (l.length : Int) := by have := List.length_pos_iff.2 hne; omega
    clear hne
    go_enter Tryd.func11, Tryd.ntmps11
    go_wp2
    go_ret2
    rw [HP.out]
    exact ⟨_, rfl, owns.nil _ _ _, by simp [homes_none], keepBut.refl _ _⟩
  · have hguard : tomb = false ∨ (tomb = true ∧ l = []) := by
      cases tomb with
      | false => exact .inl rfl
      | true => exact .inr ⟨rfl, by by_cases h0 : l = []; exact h0; exact absurd ⟨rfl, h0⟩ hbad⟩
    rcases classP_cases l.length with ⟨hbig, hc0⟩ | ⟨S, hn, hS, hS0, hS2, hS1⟩
    · have HP := Lib.hid (show padP l tomb = ([], 70) by unfold padP; rw [if_neg hbad, if_pos hc0])
      have hneg : tomb = false := by
        rcases hguard with h1 | ⟨_, h1⟩
        · exact h1
        · rw [h1] at hbig; simp at hbig
      subst hneg
      have HC := Lib.hid hc0
      clear hc0 hbad hguard
      go_enter Tryd.func11, Tryd.ntmps11
      go_wp2_with (go_at_call 14; refine (class_any _ _ h).mono ?_; rintro e w' ⟨rfl, rfl⟩; rw [HC.out])
      go_ret2
      rw [HP.out]
      exact ⟨_, rfl, owns.nil _ _ _, by simp [homes_none], keepBut.refl _ _⟩
    · have hS' : ((S : Int) == 0) = false := by simp; omega
      have hne0 : classP (l.length : Int) ≠ 0 := by rw [hS]; omega
      have hmk := make_bytes S (by omega)
      have HC := Lib.hid hS
      have hb0 : (0 : Int) < (S : Int) := by omega
      have hb1 : (1 : Int) < (S : Int) := by omega
      have hb2 : (2 : Int) < (S : Int) := by omega
      have hz : ∀ i, i < S → (zeroRow S)[i]? = some (.int .u8 0) := fun i hi => by
        rw [zeroRow_eq]
        simp [hi, bv]
      have r0 := rowAt.new w 5 (zeroRow S)
      have k0 := (keepBut.refl [] w).alloc (.cells (zeroRow S) 5)
      have z0 := (r0.cell 0).trans (hz 0 (by omega))
      have z1 := (r0.cell 1).trans (hz 1 (by omega))
      have z2 := (r0.cell 2).trans (hz 2 (by omega))
      have f0 := r0.free 0
      have f1 := r0.free 1
      have f2 := r0.free 2
      have s0 := hs.keep k0 (by simp)
      have HR := Lib.hid (And.intro r0 (And.intro k0 s0))
      have HS := Lib.hid hs
      clear hS hz r0 k0 s0 hs
      rcases hguard with rfl | ⟨rfl, rfl⟩
      · have HP := Lib.hid (show padP l false = (padBytes l S, 0) by unfold padP; rw [if_neg hbad, if_neg hne0, if_neg (by simp), HC.out]; rfl)
        clear hbad hne0
        go_enter Tryd.func11, Tryd.ntmps11
        go_upto_region 7 with (go_at_call 14; refine (class_any _ _ h).mono ?_; rintro e w' ⟨rfl, rfl⟩; rw [HC.out])
        clear hmk
        generalize w.alloc (.cells (zeroRow S) 5) = w1 at *
        have hg1 : w.heap.size ≤ w.heap.size := Nat.le_refl _
        generalize hgg : w.heap.size = g1 at *
        have HG := Lib.hid hgg; clear hgg
        go_upto_region 11 with fail
        have r2 := ((HR.out.1.set 0 (.int .u8 0)).set 1 (.int .u8 ((l.length : Int) / 256))).set 2 (.int .u8 (l.length : Int))
        have k2 : keepBut [] w (((w1.setCell ⟨g1, 0, none⟩ (.int .u8 0)).setCell ⟨g1, 1, none⟩ (.int .u8 ((l.length : Int) / 256))).setCell ⟨g1, 2, none⟩ (.int .u8 (l.length : Int))) :=
          ((HR.out.2.1.setCell _ _ (.inr (by rw [HG.out]; exact Nat.le_refl _))).setCell _ _ (.inr (by rw [HG.out]; exact Nat.le_refl _))).setCell _ _ (.inr (by rw [HG.out]; exact Nat.le_refl _))
        have s2 : seen (((w1.setCell ⟨g1, 0, none⟩ (.int .u8 0)).setCell ⟨g1, 1, none⟩ (.int .u8 ((l.length : Int) / 256))).setCell ⟨g1, 2, none⟩ (.int .u8 (l.length : Int))) A g l := HS.out.keep k2 (by simp)
        generalize (((w1.setCell ⟨g1, 0, none⟩ (.int .u8 0)).setCell ⟨g1, 1, none⟩ (.int .u8 ((l.length : Int) / 256))).setCell ⟨g1, 2, none⟩ (.int .u8 (l.length : Int))) = w2 at *
        have HR2 := Lib.hid (And.intro r2 (And.intro k2 s2))
        clear r2 k2 s2 z0 z1 z2 f0 f1 f2
        have hne3 : ¬ S = 3 := by omega
        have h3S : (3 : Int) ≤ (S : Int) := by omega
        go_wp2_with (with_reducible refine wp_copy _ rfl (.tmp 39) (.tmp 40) 22 22 rfl 5 Tryd.underlying22 infoSize1 g1 3 (S - 3) (S - 3) A g c l rfl rfl _ 5 HR2.out.1 HR2.out.2.2 (by omega) (by simp [zeroRow_size]; omega) ?_; intro w3 hr3 hk3)
        go_ret2
        rw [HP.out]
        have hgs : g1 = w.heap.size := HG.out.symm
        refine ⟨_, rfl, ?_, ?_, HR2.out.2.1.then hk3 (fun y hy => .inr (by rw [List.mem_singleton.1 hy, hgs]; exact Nat.le_refl _))⟩
        · have e := pad_list l S hS1 hn
          rw [e] at hr3
          have hl := padBytes_length l S (by omega)
          have := owns_row_all hr3 (by rw [hl]; unfold maxLen; omega)
          rw [hl] at this ⊢
          exact this
        · intro y hy; simp [homes_some] at hy; rw [hy, hgs]; exact Nat.le_refl _
      · have HP := Lib.hid (show padP [] true = (graveBytes S, 0) by unfold padP; rw [if_neg hbad, if_neg hne0, if_pos rfl, HC.out]; rfl)
        clear hbad hne0
        go_enter Tryd.func11, Tryd.ntmps11
        go_upto_region 7 with (go_at_call 14; refine (class_any _ _ h).mono ?_; rintro e w' ⟨rfl, rfl⟩; rw [show ((([] : List UInt8).length : Nat) : Int) = 0 from rfl] at HC; first | rw [HC.out] | skip)
        clear hmk
        generalize w.alloc (.cells (zeroRow S) 5) = w1 at *
        generalize hgg : w.heap.size = g1 at *
        have HG := Lib.hid hgg; clear hgg
        go_wp2
        go_ret2
        rw [HP.out]
        have hgs : g1 = w.heap.size := HG.out.symm
        have r2 := HR.out.1.set 0 (.int .u8 1)
        rw [grave_list S (by omega)] at r2
        have hl : (graveBytes S).length = S := by simp [graveBytes]; omega
        have ho := owns_row_all r2 (by rw [hl]; unfold maxLen; omega)
        refine ⟨_, rfl, by rw [hl] at ho ⊢; exact ho, fun y hy => by simp [homes_some] at hy; rw [hy, hgs]; exact Nat.le_refl _, HR.out.2.1.setCell _ _ (.inr (by rw [hgs]; exact Nat.le_refl _))⟩
end Go.Proofs.YtaclpogcedgojaaDoor
