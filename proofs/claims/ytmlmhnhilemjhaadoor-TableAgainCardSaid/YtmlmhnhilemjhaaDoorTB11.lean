/-
  TABLE, 11: a key more, in its place.
-/
import Derived.Test.YtmlmhnhilemjhaaDoorTB10
namespace Go.Proofs.YtmlmhnhilemjhaaDoor
open Go.RowKit
set_option linter.unusedVariables false
set_option maxRecDepth 100000
set_option linter.unusedSimpArgs false

theorem monoF_of {α : Type} {f : α → Int} {l : List α} (hs : ∀ (a b : Nat) (x y : α), a < b → l[a]? = some x → l[b]? = some y → f y ≤ 0 → f x < 0) : monoF f l := fun a b x y hab hx hy h => by
  rcases Nat.lt_or_ge a b with h1 | h1
  · exact hs a b x y h1 hx hy (by omega)
  · obtain rfl : a = b := by omega
    rw [hx] at hy; injection hy with hy; subst hy; exact h
theorem posOf_split {α : Type} (f : α → Int) : ∀ l : List α, monoF f l → (∀ (t : Nat) (x : α), t < posOf f l → l[t]? = some x → f x < 0) ∧ (∀ (t : Nat) (x : α), posOf f l ≤ t → l[t]? = some x → 0 ≤ f x)
  | [], _ => ⟨fun t x _ h => by simp at h, fun t x _ h => by simp at h⟩
  | a :: r, hm => by
    have hr : monoF f r := fun i j x y hij hx hy h => hm (i + 1) (j + 1) x y (by omega) (by simpa using hx) (by simpa using hy) h
    have ih := posOf_split f r hr
    by_cases ha : f a < 0
    · have e : posOf f (a :: r) = posOf f r + 1 := by unfold posOf; rw [List.countP_cons_of_pos (by simp; omega)]
      rw [e]
      refine ⟨fun t x ht hx => ?_, fun t x ht hx => ?_⟩
      · cases t with
        | zero => simp at hx; subst hx; exact ha
        | succ t => exact ih.1 t x (by omega) (by simpa using hx)
      · cases t with
        | zero => omega
        | succ t => exact ih.2 t x (by omega) (by simpa using hx)
    · have hall : ∀ (t : Nat) (x : α), (a :: r)[t]? = some x → 0 ≤ f x := fun t x hx => Int.not_lt.1 fun hc => ha (hm 0 t a x (by omega) rfl hx hc)
      have e : posOf f (a :: r) = 0 := posOf_at f (a :: r) 0 (by omega) (fun t x ht => absurd ht (by omega)) (fun t x _ hx => hall t x hx)
      rw [e]
      exact ⟨fun t x ht => absurd ht (by omega), fun t x _ hx => hall t x hx⟩
theorem posOf_miss {α : Type} {f : α → Int} {l : List α} (hs : ∀ (a b : Nat) (x y : α), a < b → l[a]? = some x → l[b]? = some y → f y ≤ 0 → f x < 0) (hm : hitOf f l = false) :
    ∀ (t : Nat) (x : α), posOf f l ≤ t → l[t]? = some x → 0 < f x := fun t x ht hx => by
  have h2 := (posOf_split f l (monoF_of hs)).2
  have h0 := h2 t x ht hx
  refine Int.not_le.1 fun hc => ?_
  obtain ⟨y, hy⟩ : ∃ y, l[posOf f l]? = some y := ⟨_, List.getElem?_eq_getElem (by have := (List.getElem?_eq_some_iff.1 hx).1; omega)⟩
  rcases Nat.lt_or_ge (posOf f l) t with h1 | h1
  · have := hs _ t y x h1 hy hx hc
    have := h2 _ y (Nat.le_refl _) hy
    omega
  · obtain rfl : t = posOf f l := by omega
    unfold hitOf at hm
    rw [hx] at hm
    have : f x = 0 := by omega
    simp [this] at hm
def insAt {α : Type} (l : List α) (i : Nat) (b : α) : List α := l.take i ++ b :: l.drop i
theorem insAt_map {α β : Type} (g : α → β) (l : List α) (i : Nat) (b : α) : (insAt l i b).map g = insAt (l.map g) i (g b) := by
  unfold insAt; simp [List.map_take, List.map_drop]
theorem insAt_len {α : Type} (l : List α) (i : Nat) (b : α) : (insAt l i b).length = l.length + 1 := by
  unfold insAt; simp; omega
theorem insAt_mem {α : Type} {l : List α} {i : Nat} {b x : α} (h : x ∈ insAt l i b) : x = b ∨ x ∈ l := by
  unfold insAt at h
  rcases List.mem_append.1 h with h | h
  · exact .inr (List.mem_of_mem_take h)
  · rcases List.mem_cons.1 h with h | h
    · exact .inl h
    · exact .inr (List.mem_of_mem_drop h)
theorem insAt_sorted {α : Type} {R : α → α → Prop} {l : List α} {i : Nat} {b : α} (hl : l.Pairwise R) (hb : ∀ (t : Nat) (x : α), t < i → l[t]? = some x → R x b) (ha : ∀ (t : Nat) (x : α), i ≤ t → l[t]? = some x → R b x)
    (hR : ∀ x y, R x b → R b y → R x y) : (insAt l i b).Pairwise R := by
  have h1 : ∀ x ∈ l.take i, R x b := fun x hx => by
    obtain ⟨t, ht⟩ := List.getElem?_of_mem hx
    rw [List.getElem?_take] at ht
    split at ht
    · rename_i hlt; exact hb t x hlt ht
    · cases ht
  have h2 : ∀ x ∈ l.drop i, R b x := fun x hx => by
    obtain ⟨t, ht⟩ := List.getElem?_of_mem hx
    rw [List.getElem?_drop] at ht
    exact ha (i + t) x (by omega) ht
  unfold insAt
  refine List.pairwise_append.2 ⟨hl.sublist (List.take_sublist _ _), List.pairwise_cons.2 ⟨h2, hl.sublist (List.drop_sublist _ _)⟩, fun x hx y hy => ?_⟩
  rcases List.mem_cons.1 hy with rfl | hy
  · exact h1 x hx
  · exact hR x y (h1 x hx) (h2 y hy)
theorem flatN_append : ∀ (a b : List (List UInt8)), flatN (a ++ b) = flatN a ++ flatN b
  | [], b => rfl
  | x :: a, b => by rw [List.cons_append, flatN, flatN, flatN_append a b, List.append_assoc]
theorem flatO_append : ∀ (a b : List OB), flatO (a ++ b) = flatO a ++ flatO b
  | [], b => rfl
  | x :: a, b => by rw [List.cons_append, flatO, flatO, flatO_append a b]; rfl
theorem flatA_append : ∀ (a b : List AB), flatA (a ++ b) = flatA a ++ flatA b
  | [], b => rfl
  | x :: a, b => by rw [List.cons_append, flatA, flatA, flatA_append a b, List.append_assoc]
theorem flatO_len : ∀ l : List OB, (flatO l).length = l.length * 2
  | [] => rfl
  | b :: r => by rw [flatO, List.length_cons, List.length_cons, flatO_len r, List.length_cons]; omega
theorem flatA_len : ∀ l : List AB, (∀ b ∈ l, b.ans.name.length = 32) → (flatA l).length = l.length * 38
  | [], _ => rfl
  | b :: r, h => by rw [flatA, List.length_append, anL_len (h b (by simp)), flatA_len r (fun m hm => h m (by simp [hm])), List.length_cons]; omega
theorem flatN_ins {l : List (List UInt8)} {i : Nat} {n : List UInt8} (hl : ∀ n ∈ l, n.length = 32) (hi : i ≤ l.length) : flatN (insAt l i n) = (flatN l).take (i * 32) ++ (nameL n ++ (flatN l).drop (i * 32)) := by
  have e : flatN l = flatN (l.take i) ++ flatN (l.drop i) := by rw [← flatN_append, List.take_append_drop]
  have hlen : (flatN (l.take i)).length = i * 32 := by rw [flatN_len _ (fun m hm => hl m (List.mem_of_mem_take hm)), List.length_take, Nat.min_eq_left hi]
  unfold insAt
  rw [flatN_append, flatN, e, List.take_left' hlen, List.drop_left' hlen]
theorem flatO_ins {l : List OB} {i : Nat} {b : OB} (hi : i ≤ l.length) : flatO (insAt l i b) = (flatO l).take (i * 2) ++ (obL b ++ (flatO l).drop (i * 2)) := by
  have e : flatO l = flatO (l.take i) ++ flatO (l.drop i) := by rw [← flatO_append, List.take_append_drop]
  have hlen : (flatO (l.take i)).length = i * 2 := by rw [flatO_len, List.length_take, Nat.min_eq_left hi]
  unfold insAt
  rw [flatO_append, flatO, e, List.take_left' hlen, List.drop_left' hlen]
  rfl
theorem flatA_ins {l : List AB} {i : Nat} {b : AB} (hl : ∀ b ∈ l, b.ans.name.length = 32) (hi : i ≤ l.length) : flatA (insAt l i b) = (flatA l).take (i * 38) ++ (anL b.ans b.ev ++ (flatA l).drop (i * 38)) := by
  have e : flatA l = flatA (l.take i) ++ flatA (l.drop i) := by rw [← flatA_append, List.take_append_drop]
  have hlen : (flatA (l.take i)).length = i * 38 := by rw [flatA_len _ (fun m hm => hl m (List.mem_of_mem_take hm)), List.length_take, Nat.min_eq_left hi]
  unfold insAt
  rw [flatA_append, flatA, e, List.take_left' hlen, List.drop_left' hlen]
theorem ints_ins (l : List Int) (i : Nat) (n : Int) : (insAt l i n).map (Value.int .i64) = (l.map (Value.int .i64)).take (i * 1) ++ ([.int .i64 n] ++ (l.map (Value.int .i64)).drop (i * 1)) := by
  rw [insAt_map, Nat.mul_one]; rfl
theorem isT.strictN {w : World} {p : Nat} {s : TS} (h : isT w p s) (t : List UInt8) : ∀ (a b : Nat) (x y : List UInt8), a < b → s.names[a]? = some x → s.names[b]? = some y → Lib.compareBytes y t ≤ 0 → Lib.compareBytes x t < 0 := fun a b x y hab hx hy hle => by
  obtain ⟨ha, rfl⟩ := List.getElem?_eq_some_iff.1 hx
  obtain ⟨hb, rfl⟩ := List.getElem?_eq_some_iff.1 hy
  have h1 := List.pairwise_iff_getElem.1 h.sortN a b ha hb hab
  rcases cmpB_range s.names[b] t with h2 | h2 | h2
  · rw [← cmpB_eq _ _ h2]; exact h1
  · omega
  · exact cmpB_trans _ _ _ h1 (by omega)
theorem isT.strictI {w : World} {p : Nat} {s : TS} (h : isT w p s) (t : Int) : ∀ (a b : Nat) (x y : Int), a < b → s.keys[a]? = some x → s.keys[b]? = some y → y - t ≤ 0 → x - t < 0 := fun a b x y hab hx hy hle => by
  obtain ⟨ha, rfl⟩ := List.getElem?_eq_some_iff.1 hx
  obtain ⟨hb, rfl⟩ := List.getElem?_eq_some_iff.1 hy
  have := List.pairwise_iff_getElem.1 h.sortI a b ha hb hab
  omega
theorem isT.insN {w : World} {p : Nat} {s : TS} (h : isT w p s) {t : List UInt8} (hm : hitN s t = false) : (insAt s.names (posN s t) t).Pairwise (fun a b => Lib.compareBytes a b < 0) :=
  insAt_sorted h.sortN (fun i x hi hx => (posOf_split (fun n => Lib.compareBytes n t) s.names (monoF_of (h.strictN t))).1 i x hi hx)
    (fun i x hi hx => by have := posOf_miss (f := fun n => Lib.compareBytes n t) (h.strictN t) hm i x hi hx; rw [cmpB_anti]; omega) (fun x y => cmpB_trans x t y)
theorem isT.insI {w : World} {p : Nat} {s : TS} (h : isT w p s) {t : Int} (hm : hitI s t = false) : (insAt s.keys (posI s t) t).Pairwise (fun a b => a < b) :=
  insAt_sorted h.sortI (fun i x hi hx => by have := (posOf_split (fun n => n - t) s.keys (monoF_of (h.strictI t))).1 i x hi hx; omega)
    (fun i x hi hx => by have := posOf_miss (f := fun n => n - t) (h.strictI t) hm i x hi hx; omega) (fun x y => Int.lt_trans)
end Go.Proofs.YtmlmhnhilemjhaaDoor
