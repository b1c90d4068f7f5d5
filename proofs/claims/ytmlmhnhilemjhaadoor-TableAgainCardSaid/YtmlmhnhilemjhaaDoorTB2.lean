/-
  TABLE, 2: where a name stands among names (slices.BinarySearchFunc).
-/
import Derived.Test.YtmlmhnhilemjhaaDoorTB1
import Derived.Deep.LoopGhost
import Derived.Deep.RegionLaw
namespace Go.Proofs.YtmlmhnhilemjhaaDoor
open Go.RowKit
set_option linter.unusedVariables false
set_option maxRecDepth 100000
set_option linter.unusedSimpArgs false

/-- how many stand ahead -/
def posOf {α : Type} (f : α → Int) (l : List α) : Nat := l.countP (fun x => decide (f x < 0))
def hitOf {α : Type} (f : α → Int) (l : List α) : Bool := match l[posOf f l]? with | some x => decide (f x = 0) | none => false
/-- what stands ahead stands ahead of what does not -/
def monoF {α : Type} (f : α → Int) (l : List α) : Prop := ∀ (a b : Nat) (x y : α), a ≤ b → l[a]? = some x → l[b]? = some y → f y < 0 → f x < 0
theorem posOf_at {α : Type} (f : α → Int) : ∀ (l : List α) (i : Nat), i ≤ l.length → (∀ (t : Nat) (x : α), t < i → l[t]? = some x → f x < 0) → (∀ (t : Nat) (x : α), i ≤ t → l[t]? = some x → 0 ≤ f x) → posOf f l = i
  | [], i, hi, _, _ => by simp at hi; subst hi; rfl
  | a :: r, 0, _, _, h2 => by
    unfold posOf
    rw [List.countP_eq_zero]
    intro x hx
    obtain ⟨t, ht⟩ := List.getElem?_of_mem hx
    have := h2 t x (Nat.zero_le _) ht
    simp; omega
  | a :: r, i + 1, hi, h1, h2 => by
    have ha := h1 0 a (by omega) rfl
    have := posOf_at f r i (by simpa using hi) (fun t x ht hx => h1 (t + 1) x (by omega) (by simpa using hx)) (fun t x ht hx => h2 (t + 1) x (by omega) (by simpa using hx))
    unfold posOf at this ⊢
    rw [List.countP_cons_of_pos (by simp; omega), this]
theorem posOf_le {α : Type} (f : α → Int) (l : List α) : posOf f l ≤ l.length := List.countP_le_length

/-- the cells of names -/
def flatN : List (List UInt8) → List Value
  | [] => []
  | n :: r => nameL n ++ flatN r
theorem flatN_len : ∀ (l : List (List UInt8)), (∀ n ∈ l, n.length = 32) → (flatN l).length = l.length * 32
  | [], _ => rfl
  | n :: r, h => by
    rw [flatN, List.length_append, nameL_len, h n (by simp), flatN_len r (fun m hm => h m (by simp [hm])), List.length_cons]
    omega
theorem flatN_at : ∀ (l : List (List UInt8)) (i : Nat) (n : List UInt8), (∀ n ∈ l, n.length = 32) → l[i]? = some n → ∀ j u, (nameL n)[j]? = some u → (flatN l)[i * 32 + j]? = some u
  | [], i, n, _, h, _, _, _ => by simp at h
  | a :: r, 0, n, hl, h, j, u, hu => by
    simp at h; subst h
    have hj : j < (nameL a).length := (List.getElem?_eq_some_iff.1 hu).1
    rw [flatN, Nat.zero_mul, Nat.zero_add, List.getElem?_append_left hj]
    exact hu
  | a :: r, i + 1, n, hl, h, j, u, hu => by
    have ha := hl a (by simp)
    rw [flatN, List.getElem?_append_right (by rw [nameL_len, ha]; omega), nameL_len, ha]
    have := flatN_at r i n (fun m hm => hl m (by simp [hm])) (by simpa using h) j u hu
    rw [show (i + 1) * 32 + j - 32 = i * 32 + j by omega]
    exact this
theorem reads.nameAt {w : World} {g o : Nat} {ns : List (List UInt8)} (hl : ∀ n ∈ ns, n.length = 32) (h : reads w (some ⟨g, o, none⟩) g ns.length 32 (flatN ns)) {i : Nat} {n : List UInt8} (hi : ns[i]? = some n) :
    w.rangeAt g (o + i * 32) (nameL n) := fun j u hu => by
  obtain ⟨o', hA, _, hc⟩ := h.2 (Nat.lt_of_le_of_lt (Nat.zero_le _) (List.getElem?_eq_some_iff.1 hi).1)
  obtain rfl : o = o' := by simpa using hA
  rw [Nat.add_assoc]
  exact hc _ u (flatN_at ns i n hl hi j u hu)

def ordN : Value := .func (.func 20) #[.agg #[]] #[]

set_option maxHeartbeats 8000000 in
theorem searchN_any (g o c : Nat) (ns : List (List UInt8)) (t : List UInt8) (w : World) (hl : ∀ n ∈ ns, n.length = 32) (ht : t.length = 32) (hr : reads w (some ⟨g, o, none⟩) g ns.length 32 (flatN ns)) (hsz : ns.length ≤ 1000000)
    (hm : monoF (fun n => Lib.compareBytes n t) ns) :
    Calls Tryd.prog 72 #[.slice (some ⟨g, o, none⟩) ns.length c, .agg (nameL t).toArray, ordN] w
      fun e w' => e = .returned (.tuple #[.int .i64 (posOf (fun n => Lib.compareBytes n t) ns : Nat), .bool (hitOf (fun n => Lib.compareBytes n t) ns)]) ∧ keepBut [] w w' := by
  obtain ⟨w1, hw1⟩ : ∃ w1, w.alloc (.cells (nameL t).toArray 28) = w1 := ⟨_, rfl⟩
  have r1 : rowAt w1 w.heap.size 28 (nameL t).toArray := hw1 ▸ rowAt.new _ _ _
  have k1 : keepBut [] w w1 := hw1 ▸ (keepBut.refl [] w).alloc _
  have HW1 := Lib.hid hw1
  have HR := Lib.hid r1
  have HK := Lib.hid k1
  have HX := Lib.hid (hr.keepS k1 (by simp))
  clear hw1 r1 k1 hr
  have HL := Lib.hid (And.intro hl ht)
  have HM := Lib.hid hm
  have S0 : Hid (keepBut [] w1 w1) := Lib.hid (keepBut.refl _ _)
  clear hl ht hm
  unfold ordN
  go_enter Tryd.func72, Tryd.ntmps72
  go_upto_region 1 with (with_reducible refine wpList_box_to _ _ rfl 28 (.tmp 1) rfl _ rfl HW1.out ?_)
  go_wp2
  go_loopg [9, 10] ns.length (fun kx s9 s10 wr => ∃ lo hi : Nat, s9 = .int .i64 lo ∧ s10 = .int .i64 hi ∧ lo ≤ hi ∧ hi ≤ ns.length ∧ hi - lo ≤ kx ∧ Hid (keepBut [] w1 wr) ∧
    Hid ((∀ (t' : Nat) (x : List UInt8), t' < lo → ns[t']? = some x → Lib.compareBytes x t < 0) ∧ (∀ (t' : Nat) (x : List UInt8), hi ≤ t' → ns[t']? = some x → 0 ≤ Lib.compareBytes x t)))
  case atStart =>
    exact ⟨0, ns.length, rfl, rfl, Nat.zero_le _, Nat.le_refl _, by omega, S0, Lib.hid ⟨fun t' x ht => absurd ht (Nat.not_lt_zero _), fun t' x h1 h2 => by rw [List.getElem?_eq_none h1] at h2; cases h2⟩⟩
  case round =>
    clear S0
    obtain ⟨lo, hi, rfl, rfl, hlh, hin, hg, S1, I⟩ := hrel
    by_cases hlt : lo < hi
    · obtain ⟨x, hx⟩ : ∃ x, ns[(lo + hi) / 2]? = some x := ⟨_, List.getElem?_eq_getElem (by omega)⟩
      have HXX := Lib.hid hx
      have hxl := Lib.hid (HL.out.1 x (List.mem_of_getElem? hx))
      clear hx
      go_upto_region 5 with fail
      obtain ⟨h, eh⟩ : ∃ h : Nat, ((lo : Int) + (hi : Int)) / 2 = (h : Int) := ⟨(lo + hi) / 2, by omega⟩
      obtain rfl : h = (lo + hi) / 2 := by omega
      rw [eh]
      have HB := Lib.hid (show lo ≤ (lo + hi) / 2 ∧ (lo + hi) / 2 < hi by omega)
      clear eh
      generalize (lo + hi) / 2 = h at *
      have HRG : Hid (∀ W, keepBut [] w1 W → W.rangeAt g (o + h * 32) (nameL x) ∧ W.rangeAt w.heap.size 0 (nameL t)) := Lib.hid (fun W k =>
        ⟨reads.nameAt HL.out.1 (HX.out.keepS k (by simp)) HXX.out, (k.row HR.out (by simp)).rangeAll⟩)
      have b1 : (h : Int) < (ns.length : Int) := by have := (List.getElem?_eq_some_iff.1 HXX.out).1; omega
      refine wp_region_held_drew (S := fun W => keepBut [] w1 W) (by kernel_rfl) S1.out.drew (fun _ => ?_)
      have KS := S1.out.drew
      refine wpAnyH_take (i := 0) (oi := ⟨_, _, _, _, _, _⟩) (v := ?_) rfl (by kernel_rfl) (by kernel_rfl) (by kernel_rfl) (fun _ _ _ h => h) (Or.inl ⟨by rfl, ?_⟩) KS ?_
      rotate_left
      · intro w' hSw; (go_simp; try with_reducible rfl)
      try simp only [Act.put, List.setIfInBounds_toArray, List.set_cons_zero, List.set_cons_succ]
      refine wpAnyH_take (i := 1) (oi := ⟨_, _, _, _, _, _⟩) (v := ?_) rfl (by kernel_rfl) (by kernel_rfl) (by kernel_rfl) (fun _ _ _ h => h) (Or.inl ⟨by rfl, ?_⟩) KS ?_
      rotate_left
      · intro w' hSw; (go_simp; try with_reducible rfl)
      try simp only [Act.put, List.setIfInBounds_toArray, List.set_cons_zero, List.set_cons_succ]
      refine wpAnyH_take (i := 2) (oi := ⟨_, _, _, _, _, _⟩) (v := ?_) rfl (by kernel_rfl) (by kernel_rfl) (by kernel_rfl) (fun _ _ _ h => h) (Or.inl ⟨by rfl, ?_⟩) KS ?_
      rotate_left
      · intro w' hSw; (go_simp; try with_reducible rfl)
      try simp only [Act.put, List.setIfInBounds_toArray, List.set_cons_zero, List.set_cons_succ]
      refine wpAnyH_take (i := 3) (oi := ⟨_, _, _, _, _, _⟩) (v := ?_) rfl (by kernel_rfl) (by kernel_rfl) (by kernel_rfl) (fun _ _ _ h => h) (Or.inl ⟨by rfl, ?_⟩) KS ?_
      rotate_left
      · intro w' hSw; (go_simp; try with_reducible rfl)
      try simp only [Act.put, List.setIfInBounds_toArray, List.set_cons_zero, List.set_cons_succ]
      refine wpAnyH_take (i := 4) (oi := ⟨_, _, _, _, _, _⟩) (v := .agg (nameL x).toArray) rfl (by kernel_rfl) (by kernel_rfl) (by kernel_rfl) (fun _ _ _ h => h) (yieldsIf_mid 28 (.tmp 27) rfl g (o + h * 32) rfl (nameL x) _ (fun w' hSw => (HRG.out w' hSw).1) Tryd.underlying28 rfl (by rw [nameL_len, hxl.out]; exact infoName) ?_) KS ?_
      · rfl
      try simp only [Act.put, List.setIfInBounds_toArray, List.set_cons_zero, List.set_cons_succ]
      refine wpAnyH_take (i := 5) (oi := ⟨_, _, _, _, _, _⟩) (v := .agg (nameL t).toArray) rfl (by kernel_rfl) (by kernel_rfl) (by kernel_rfl) (fun _ _ _ h => h) (yieldsIf_mid 28 (.tmp 4) rfl w.heap.size 0 rfl (nameL t) _ (fun w' hSw => (HRG.out w' hSw).2) Tryd.underlying28 rfl (by rw [nameL_len, HL.out.2]; exact infoName) ?_) KS ?_
      · rfl
      try simp only [Act.put, List.setIfInBounds_toArray, List.set_cons_zero, List.set_cons_succ]
      refine wpAnyH_ready (rs := [6]) (by kernel_rfl) (by simp) ?_
      refine AllReadyH.cons (o := ⟨_, _, _, _, _, _⟩) rfl (fun K hK => ?_) AllReadyH.nil
      go_simp
      refine (bytewise_any x t hxl.out HL.out.2 _).mono ?_
      rintro e w2 ⟨rfl, kk⟩
      have K2 := Lib.hid (KS.then kk (by simp))
      clear kk
      go_wp2_with fail
      refine hK.out _ _ K2.out (fun _ => ?_)
      clear hK K
      try simp only [Act.put, List.setIfInBounds_toArray, List.set_cons_zero, List.set_cons_succ]
      by_cases hneg : Lib.compareBytes x t < 0
      · skip
        refine wpAnyH_take (i := 7) (oi := ⟨_, _, _, _, _, _⟩) (v := ?_) rfl (by kernel_rfl) (by kernel_rfl) (by kernel_rfl) (fun _ _ _ h => h) (Or.inl ⟨by rfl, ?_⟩) K2.out ?_
        rotate_left
        · intro w' hSw; (go_simp; try with_reducible rfl)
        try simp only [Act.put, List.setIfInBounds_toArray, List.set_cons_zero, List.set_cons_succ]
        refine wpAnyH_done (by kernel_rfl) ?_ _
        go_wp2_with fail
        go_roundg (hi - (h + 1))
        case measure => have := HB.out; omega
        case rel => exact ⟨h + 1, hi, by go_num, rfl, by have := HB.out; omega, hin, Nat.le_refl _, K2, Lib.hid ⟨fun t' y ht hy => HM.out t' h y x (by omega) hy HXX.out hneg, I.out.2⟩⟩
      · skip
        have hnn : 0 ≤ Lib.compareBytes x t := by omega
        refine wpAnyH_take (i := 7) (oi := ⟨_, _, _, _, _, _⟩) (v := ?_) rfl (by kernel_rfl) (by kernel_rfl) (by kernel_rfl) (fun _ _ _ h => h) (Or.inl ⟨by rfl, ?_⟩) K2.out ?_
        rotate_left
        · intro w' hSw; (go_simp; try with_reducible rfl)
        try simp only [Act.put, List.setIfInBounds_toArray, List.set_cons_zero, List.set_cons_succ]
        refine wpAnyH_done (by kernel_rfl) ?_ _
        go_wp2_with fail
        go_roundg (h - lo)
        case measure => have := HB.out; omega
        case rel => exact ⟨lo, h, rfl, rfl, by have := HB.out; omega, by have := HB.out; omega, Nat.le_refl _, K2, Lib.hid ⟨I.out.1, fun t' y ht hy => by have := HM.out h t' x y ht HXX.out hy; dsimp only at this; omega⟩⟩
    · obtain rfl : hi = lo := by omega
      have HP := Lib.hid (posOf_at (fun n => Lib.compareBytes n t) ns hi (by omega) (fun t' x ht hx => I.out.1 t' x ht hx) (fun t' x ht hx => I.out.2 t' x ht hx))
      by_cases hn : hi < ns.length
      · obtain ⟨x, hx⟩ : ∃ x, ns[hi]? = some x := ⟨_, List.getElem?_eq_getElem hn⟩
        have HXX := Lib.hid hx
        have hxl := Lib.hid (HL.out.1 x (List.mem_of_getElem? hx))
        clear hx
        go_upto_region 8 with fail
        have HRG : Hid (∀ W, keepBut [] w1 W → W.rangeAt g (o + hi * 32) (nameL x) ∧ W.rangeAt w.heap.size 0 (nameL t)) := Lib.hid (fun W k =>
          ⟨reads.nameAt HL.out.1 (HX.out.keepS k (by simp)) HXX.out, (k.row HR.out (by simp)).rangeAll⟩)
        have b1 : (hi : Int) < (ns.length : Int) := by omega
        have KS := S1.out.drew
        refine wp_region_held_drew (S := fun W => keepBut [] w1 W) (by kernel_rfl) S1.out.drew (fun _ => ?_)
        refine wpAnyH_take (i := 0) (oi := ⟨_, _, _, _, _, _⟩) (v := ?_) rfl (by kernel_rfl) (by kernel_rfl) (by kernel_rfl) (fun _ _ _ h => h) (Or.inl ⟨by rfl, ?_⟩) KS ?_
        rotate_left
        · intro w' hSw; (go_simp; try with_reducible rfl)
        try simp only [Act.put, List.setIfInBounds_toArray, List.set_cons_zero, List.set_cons_succ]
        refine wpAnyH_take (i := 1) (oi := ⟨_, _, _, _, _, _⟩) (v := ?_) rfl (by kernel_rfl) (by kernel_rfl) (by kernel_rfl) (fun _ _ _ h => h) (Or.inl ⟨by rfl, ?_⟩) KS ?_
        rotate_left
        · intro w' hSw; (go_simp; try with_reducible rfl)
        try simp only [Act.put, List.setIfInBounds_toArray, List.set_cons_zero, List.set_cons_succ]
        refine wpAnyH_take (i := 2) (oi := ⟨_, _, _, _, _, _⟩) (v := ?_) rfl (by kernel_rfl) (by kernel_rfl) (by kernel_rfl) (fun _ _ _ h => h) (Or.inl ⟨by rfl, ?_⟩) KS ?_
        rotate_left
        · intro w' hSw; (go_simp; try with_reducible rfl)
        try simp only [Act.put, List.setIfInBounds_toArray, List.set_cons_zero, List.set_cons_succ]
        refine wpAnyH_take (i := 3) (oi := ⟨_, _, _, _, _, _⟩) (v := ?_) rfl (by kernel_rfl) (by kernel_rfl) (by kernel_rfl) (fun _ _ _ h => h) (Or.inl ⟨by rfl, ?_⟩) KS ?_
        rotate_left
        · intro w' hSw; (go_simp; try with_reducible rfl)
        try simp only [Act.put, List.setIfInBounds_toArray, List.set_cons_zero, List.set_cons_succ]
        refine wpAnyH_take (i := 4) (oi := ⟨_, _, _, _, _, _⟩) (v := ?_) rfl (by kernel_rfl) (by kernel_rfl) (by kernel_rfl) (fun _ _ _ h => h) (Or.inl ⟨by rfl, ?_⟩) KS ?_
        rotate_left
        · intro w' hSw; (go_simp; try with_reducible rfl)
        try simp only [Act.put, List.setIfInBounds_toArray, List.set_cons_zero, List.set_cons_succ]
        refine wpAnyH_take (i := 5) (oi := ⟨_, _, _, _, _, _⟩) (v := ?_) rfl (by kernel_rfl) (by kernel_rfl) (by kernel_rfl) (fun _ _ _ h => h) (Or.inl ⟨by rfl, ?_⟩) KS ?_
        rotate_left
        · intro w' hSw; (go_simp; try with_reducible rfl)
        try simp only [Act.put, List.setIfInBounds_toArray, List.set_cons_zero, List.set_cons_succ]
        refine wpAnyH_take (i := 6) (oi := ⟨_, _, _, _, _, _⟩) (v := ?_) rfl (by kernel_rfl) (by kernel_rfl) (by kernel_rfl) (fun _ _ _ h => h) (Or.inl ⟨by rfl, ?_⟩) KS ?_
        rotate_left
        · intro w' hSw; (go_simp; try with_reducible rfl)
        try simp only [Act.put, List.setIfInBounds_toArray, List.set_cons_zero, List.set_cons_succ]
        refine wpAnyH_take (i := 7) (oi := ⟨_, _, _, _, _, _⟩) (v := ?_) rfl (by kernel_rfl) (by kernel_rfl) (by kernel_rfl) (fun _ _ _ h => h) (Or.inl ⟨by rfl, ?_⟩) KS ?_
        rotate_left
        · intro w' hSw; (go_simp; try with_reducible rfl)
        try simp only [Act.put, List.setIfInBounds_toArray, List.set_cons_zero, List.set_cons_succ]
        refine wpAnyH_take (i := 8) (oi := ⟨_, _, _, _, _, _⟩) (v := ?_) rfl (by kernel_rfl) (by kernel_rfl) (by kernel_rfl) (fun _ _ _ h => h) (Or.inl ⟨by rfl, ?_⟩) KS ?_
        rotate_left
        · intro w' hSw; (go_simp; try with_reducible rfl)
        try simp only [Act.put, List.setIfInBounds_toArray, List.set_cons_zero, List.set_cons_succ]
        refine wpAnyH_take (i := 9) (oi := ⟨_, _, _, _, _, _⟩) (v := .agg (nameL x).toArray) rfl (by kernel_rfl) (by kernel_rfl) (by kernel_rfl) (fun _ _ _ h => h) (yieldsIf_mid 28 (.tmp 43) rfl g (o + hi * 32) rfl (nameL x) _ (fun w' hSw => (HRG.out w' hSw).1) Tryd.underlying28 rfl (by rw [nameL_len, hxl.out]; exact infoName) ?_) KS ?_
        · rfl
        try simp only [Act.put, List.setIfInBounds_toArray, List.set_cons_zero, List.set_cons_succ]
        refine wpAnyH_take (i := 10) (oi := ⟨_, _, _, _, _, _⟩) (v := .agg (nameL t).toArray) rfl (by kernel_rfl) (by kernel_rfl) (by kernel_rfl) (fun _ _ _ h => h) (yieldsIf_mid 28 (.tmp 4) rfl w.heap.size 0 rfl (nameL t) _ (fun w' hSw => (HRG.out w' hSw).2) Tryd.underlying28 rfl (by rw [nameL_len, HL.out.2]; exact infoName) ?_) KS ?_
        · rfl
        try simp only [Act.put, List.setIfInBounds_toArray, List.set_cons_zero, List.set_cons_succ]
        refine wpAnyH_ready (rs := [11]) (by kernel_rfl) (by simp) ?_
        refine AllReadyH.cons (o := ⟨_, _, _, _, _, _⟩) rfl (fun K hK => ?_) AllReadyH.nil
        go_simp
        refine (bytewise_any x t hxl.out HL.out.2 _).mono ?_
        rintro e w2 ⟨rfl, kk⟩
        have K2 := Lib.hid (KS.then kk (by simp))
        clear kk
        go_wp2_with fail
        refine hK.out _ _ K2.out (fun _ => ?_)
        clear hK K
        try simp only [Act.put, List.setIfInBounds_toArray, List.set_cons_zero, List.set_cons_succ]
        refine wpAnyH_take (i := 12) (oi := ⟨_, _, _, _, _, _⟩) (v := ?_) rfl (by kernel_rfl) (by kernel_rfl) (by kernel_rfl) (fun _ _ _ h => h) (Or.inl ⟨by rfl, ?_⟩) K2.out ?_
        rotate_left
        · intro w' hSw; (go_simp; try with_reducible rfl)
        try simp only [Act.put, List.setIfInBounds_toArray, List.set_cons_zero, List.set_cons_succ]
        refine wpAnyH_take (i := 13) (oi := ⟨_, _, _, _, _, _⟩) (v := ?_) rfl (by kernel_rfl) (by kernel_rfl) (by kernel_rfl) (fun _ _ _ h => h) (Or.inl ⟨by rfl, ?_⟩) K2.out ?_
        rotate_left
        · intro w' hSw; (go_simp; try with_reducible rfl)
        try simp only [Act.put, List.setIfInBounds_toArray, List.set_cons_zero, List.set_cons_succ]
        refine wpAnyH_take (i := 14) (oi := ⟨_, _, _, _, _, _⟩) (v := ?_) rfl (by kernel_rfl) (by kernel_rfl) (by kernel_rfl) (fun _ _ _ h => h) (Or.inl ⟨by rfl, ?_⟩) K2.out ?_
        rotate_left
        · intro w' hSw; (go_simp; try with_reducible rfl)
        try simp only [Act.put, List.setIfInBounds_toArray, List.set_cons_zero, List.set_cons_succ]
        refine wpAnyH_take (i := 15) (oi := ⟨_, _, _, _, _, _⟩) (v := ?_) rfl (by kernel_rfl) (by kernel_rfl) (by kernel_rfl) (fun _ _ _ h => h) (Or.inl ⟨by rfl, ?_⟩) K2.out ?_
        rotate_left
        · intro w' hSw; (go_simp; try with_reducible rfl)
        try simp only [Act.put, List.setIfInBounds_toArray, List.set_cons_zero, List.set_cons_succ]
        refine wpAnyH_done (by kernel_rfl) ?_ _
        go_wp2_with fail
        go_ret2
        refine ⟨?_, HK.out.then K2.out (by simp)⟩
        have e1 : hitOf (fun n => Lib.compareBytes n t) ns = decide (Lib.compareBytes x t = 0) := by unfold hitOf; rw [HP.out, HXX.out]
        rw [e1, HP.out]
        rfl
      · have hn' : ¬ (hi : Int) < (ns.length : Int) := by omega
        go_upto_region 8 with fail
        have KS := S1.out.drew
        refine wp_region_held_drew (S := fun W => keepBut [] w1 W) (by kernel_rfl) S1.out.drew (fun _ => ?_)
        refine wpAnyH_take (i := 0) (oi := ⟨_, _, _, _, _, _⟩) (v := ?_) rfl (by kernel_rfl) (by kernel_rfl) (by kernel_rfl) (fun _ _ _ h => h) (Or.inl ⟨by rfl, ?_⟩) KS ?_
        rotate_left
        · intro w' hSw; (go_simp; try with_reducible rfl)
        try simp only [Act.put, List.setIfInBounds_toArray, List.set_cons_zero, List.set_cons_succ]
        refine wpAnyH_take (i := 1) (oi := ⟨_, _, _, _, _, _⟩) (v := ?_) rfl (by kernel_rfl) (by kernel_rfl) (by kernel_rfl) (fun _ _ _ h => h) (Or.inl ⟨by rfl, ?_⟩) KS ?_
        rotate_left
        · intro w' hSw; (go_simp; try with_reducible rfl)
        try simp only [Act.put, List.setIfInBounds_toArray, List.set_cons_zero, List.set_cons_succ]
        refine wpAnyH_take (i := 2) (oi := ⟨_, _, _, _, _, _⟩) (v := ?_) rfl (by kernel_rfl) (by kernel_rfl) (by kernel_rfl) (fun _ _ _ h => h) (Or.inl ⟨by rfl, ?_⟩) KS ?_
        rotate_left
        · intro w' hSw; (go_simp; try with_reducible rfl)
        try simp only [Act.put, List.setIfInBounds_toArray, List.set_cons_zero, List.set_cons_succ]
        refine wpAnyH_take (i := 3) (oi := ⟨_, _, _, _, _, _⟩) (v := ?_) rfl (by kernel_rfl) (by kernel_rfl) (by kernel_rfl) (fun _ _ _ h => h) (Or.inl ⟨by rfl, ?_⟩) KS ?_
        rotate_left
        · intro w' hSw; (go_simp; try with_reducible rfl)
        try simp only [Act.put, List.setIfInBounds_toArray, List.set_cons_zero, List.set_cons_succ]
        refine wpAnyH_take (i := 4) (oi := ⟨_, _, _, _, _, _⟩) (v := ?_) rfl (by kernel_rfl) (by kernel_rfl) (by kernel_rfl) (fun _ _ _ h => h) (Or.inl ⟨by rfl, ?_⟩) KS ?_
        rotate_left
        · intro w' hSw; (go_simp; try with_reducible rfl)
        try simp only [Act.put, List.setIfInBounds_toArray, List.set_cons_zero, List.set_cons_succ]
        refine wpAnyH_take (i := 5) (oi := ⟨_, _, _, _, _, _⟩) (v := undef) rfl (by kernel_rfl) (by kernel_rfl) (by kernel_rfl) (fun _ _ _ h => h) (Or.inr ⟨by rfl, rfl⟩) KS ?_
        try simp only [Act.put, List.setIfInBounds_toArray, List.set_cons_zero, List.set_cons_succ]
        refine wpAnyH_take (i := 6) (oi := ⟨_, _, _, _, _, _⟩) (v := undef) rfl (by kernel_rfl) (by kernel_rfl) (by kernel_rfl) (fun _ _ _ h => h) (Or.inr ⟨by rfl, rfl⟩) KS ?_
        try simp only [Act.put, List.setIfInBounds_toArray, List.set_cons_zero, List.set_cons_succ]
        refine wpAnyH_take (i := 7) (oi := ⟨_, _, _, _, _, _⟩) (v := undef) rfl (by kernel_rfl) (by kernel_rfl) (by kernel_rfl) (fun _ _ _ h => h) (Or.inr ⟨by rfl, rfl⟩) KS ?_
        try simp only [Act.put, List.setIfInBounds_toArray, List.set_cons_zero, List.set_cons_succ]
        refine wpAnyH_take (i := 8) (oi := ⟨_, _, _, _, _, _⟩) (v := undef) rfl (by kernel_rfl) (by kernel_rfl) (by kernel_rfl) (fun _ _ _ h => h) (Or.inr ⟨by rfl, rfl⟩) KS ?_
        try simp only [Act.put, List.setIfInBounds_toArray, List.set_cons_zero, List.set_cons_succ]
        refine wpAnyH_take (i := 9) (oi := ⟨_, _, _, _, _, _⟩) (v := undef) rfl (by kernel_rfl) (by kernel_rfl) (by kernel_rfl) (fun _ _ _ h => h) (Or.inr ⟨by rfl, rfl⟩) KS ?_
        try simp only [Act.put, List.setIfInBounds_toArray, List.set_cons_zero, List.set_cons_succ]
        refine wpAnyH_take (i := 10) (oi := ⟨_, _, _, _, _, _⟩) (v := undef) rfl (by kernel_rfl) (by kernel_rfl) (by kernel_rfl) (fun _ _ _ h => h) (Or.inr ⟨by rfl, rfl⟩) KS ?_
        try simp only [Act.put, List.setIfInBounds_toArray, List.set_cons_zero, List.set_cons_succ]
        refine wpAnyH_take (i := 11) (oi := ⟨_, _, _, _, _, _⟩) (v := undef) rfl (by kernel_rfl) (by kernel_rfl) (by kernel_rfl) (fun _ _ _ h => h) (Or.inr ⟨by rfl, rfl⟩) KS ?_
        try simp only [Act.put, List.setIfInBounds_toArray, List.set_cons_zero, List.set_cons_succ]
        refine wpAnyH_take (i := 12) (oi := ⟨_, _, _, _, _, _⟩) (v := undef) rfl (by kernel_rfl) (by kernel_rfl) (by kernel_rfl) (fun _ _ _ h => h) (Or.inr ⟨by rfl, rfl⟩) KS ?_
        try simp only [Act.put, List.setIfInBounds_toArray, List.set_cons_zero, List.set_cons_succ]
        refine wpAnyH_take (i := 13) (oi := ⟨_, _, _, _, _, _⟩) (v := ?_) rfl (by kernel_rfl) (by kernel_rfl) (by kernel_rfl) (fun _ _ _ h => h) (Or.inl ⟨by rfl, ?_⟩) KS ?_
        rotate_left
        · intro w' hSw; (go_simp; try with_reducible rfl)
        try simp only [Act.put, List.setIfInBounds_toArray, List.set_cons_zero, List.set_cons_succ]
        refine wpAnyH_take (i := 14) (oi := ⟨_, _, _, _, _, _⟩) (v := ?_) rfl (by kernel_rfl) (by kernel_rfl) (by kernel_rfl) (fun _ _ _ h => h) (Or.inl ⟨by rfl, ?_⟩) KS ?_
        rotate_left
        · intro w' hSw; (go_simp; try with_reducible rfl)
        try simp only [Act.put, List.setIfInBounds_toArray, List.set_cons_zero, List.set_cons_succ]
        refine wpAnyH_take (i := 15) (oi := ⟨_, _, _, _, _, _⟩) (v := ?_) rfl (by kernel_rfl) (by kernel_rfl) (by kernel_rfl) (fun _ _ _ h => h) (Or.inl ⟨by rfl, ?_⟩) KS ?_
        rotate_left
        · intro w' hSw; (go_simp; try with_reducible rfl)
        try simp only [Act.put, List.setIfInBounds_toArray, List.set_cons_zero, List.set_cons_succ]
        refine wpAnyH_done (by kernel_rfl) ?_ _
        go_wp2_with fail
        go_ret2
        refine ⟨?_, HK.out.then S1.out.drew (by simp)⟩
        have e1 : hitOf (fun n => Lib.compareBytes n t) ns = false := by unfold hitOf; rw [HP.out, List.getElem?_eq_none (by omega)]
        rw [e1, HP.out]
        rfl
end Go.Proofs.YtmlmhnhilemjhaaDoor
