/-
  PACK, 27: what is read into a row of its own.
-/
import Derived.Test.YthfdkonhjpdflaaGreatDoorPk26
namespace Go.Proofs.YthfdkonhjpdflaaGreatDoor
open Go.RowKit
set_option linter.unusedVariables false
set_option maxRecDepth 100000
set_option linter.unusedSimpArgs false

theorem past_short (r : RS) (n : Nat) : (r.past n).l.length ≤ r.l.length := by
  unfold RS.past
  split
  · split
    · simp
    · simp
  · exact Nat.le_refl _
theorem fail_short (r : RS) (x : Int) : (r.fail x).l.length ≤ r.l.length := by
  unfold RS.fail
  split
  · simp
  · exact Nat.le_refl _
theorem num_short (r : RS) (n : Int) : (r.num n).2.l.length ≤ r.l.length := by
  unfold RS.num
  split
  · split
    · split
      · exact Nat.le_trans (fail_short _ _) (past_short r _)
      · exact past_short r _
    · exact past_short r _
  · exact fail_short r _
theorem raw_short (r : RS) (n : Int) : (r.raw n).2.l.length ≤ r.l.length := by
  unfold RS.raw
  split
  · exact fail_short r _
  · exact past_short r _
theorem text_short (r : RS) (n : Int) : (r.text n).2.l.length ≤ r.l.length := Nat.le_trans (raw_short _ _) (RS.count_short r n)
theorem putL_mid : ∀ (a b b' c : List Value), b.length = b'.length → putL (a ++ (b ++ c)).toArray a.length b' = (a ++ (b' ++ c)).toArray := fun a b b' c h => by
  refine Array.ext_getElem? (fun i => ?_)
  rw [putL_get _ _ _ _ (by simp; omega)]
  simp only [List.getElem?_toArray]
  by_cases h1 : i < a.length
  · rw [if_neg (by omega), List.getElem?_append_left h1, List.getElem?_append_left h1]
  · by_cases h2 : i - a.length < b'.length
    · rw [if_pos (by omega), List.getElem?_append_right (by omega), List.getElem?_append_left h2]
    · rw [if_neg (by omega), List.getElem?_append_right (by omega), List.getElem?_append_right (by omega), List.getElem?_append_right (by omega), List.getElem?_append_right (by omega), h]
/-- a reader between two marks, and a row that it is read into; the result's row -/
structure prT (w0 w : World) (p g tb : Nat) (r : RS) (T : TypeId) (L Z : List Value) : Prop where
  rd : isR w p g r
  lo : w0.heap.size < p
  hi : p < tb
  gl : r.l ≠ [] → w0.heap.size < g ∧ g < tb
  len : r.l.length ≤ 1000000
  row : rowAt w tb T L.toArray
  res : rowAt w w0.heap.size T Z.toArray
  kp : keepBut [] w0 w
theorem prT.read {w0 w w' : World} {p g tb : Nat} {r r' : RS} {T : TypeId} {L Z : List Value} (h : prT w0 w p g tb r T L Z) (hr : isR w' p g r') (hk : keepBut [p] w w') (hl : r'.l ≠ [] → r.l ≠ []) (hs : r'.l.length ≤ r.l.length) : prT w0 w' p g tb r' T L Z :=
  ⟨hr, h.lo, h.hi, fun hne => h.gl (hl hne), Nat.le_trans hs h.len, hk.row h.row (by have := h.hi; simp; omega), hk.row h.res (by have := h.lo; simp; omega), h.kp.then hk (fun x hx => .inr (by simp at hx; have := h.lo; omega))⟩
theorem prT.keep {w0 w w' : World} {p g tb : Nat} {r : RS} {T : TypeId} {L L' Z : List Value} (h : prT w0 w p g tb r T L Z) (hk : keepBut [tb] w w') (hrow : rowAt w' tb T L'.toArray) : prT w0 w' p g tb r T L' Z :=
  ⟨h.rd.keep hk (by have := h.hi; simp; omega) (fun hne => by have := h.gl hne; simp; omega), h.lo, h.hi, h.gl, h.len, hrow, hk.row h.res (by have := h.lo; have := h.hi; simp; omega), h.kp.then hk (fun x hx => .inr (by simp at hx; have := h.lo; have := h.hi; omega))⟩
theorem prT.set {w0 w : World} {p g tb : Nat} {r : RS} {T : TypeId} {L L' Z : List Value} (h : prT w0 w p g tb r T L Z) (k : Nat) (u : Value) (he : L.toArray.setIfInBounds k u = L'.toArray) : prT w0 (w.setCell ⟨tb, k, none⟩ u) p g tb r T L' Z :=
  h.keep ((keepBut.refl [tb] w).setCell ⟨tb, k, none⟩ u (.inl (by simp))) (by rw [← he]; exact h.row.set k u)
theorem prT.setL {w0 w : World} {p g tb : Nat} {r : RS} {T : TypeId} {L L' Z : List Value} (h : prT w0 w p g tb r T L Z) (k : Nat) (us : List Value) (he : putL L.toArray k us = L'.toArray) : prT w0 (w.setCells tb k us) p g tb r T L' Z :=
  h.keep ((keepBut.refl [tb] w).setL (.inl (by simp))) (by rw [← he]; exact h.row.setL)
theorem prT.over {w0 w w' : World} {p g tb : Nat} {r : RS} {T : TypeId} {L Z : List Value} (h : prT w0 w p g tb r T L Z) (hk : keepBut [] w w') : prT w0 w' p g tb r T L Z :=
  h.keep (hk.more (by simp)) (hk.row h.row (by simp))
/-- a slice of its own that holds bytes, by its values -/
theorem freshB.gives {w w' : World} {v : Value} {l : List UInt8} (h : freshB w w' v l) : ∃ A c G, v = .slice A l.length c ∧ bytesV w' G v l ∧ newIn w w' G := by
  obtain ⟨h1, h2⟩ := h
  obtain ⟨A3, c3, e3, h31, h32, h33, h34⟩ := h1.form
  subst e3
  obtain ⟨g3, hg3⟩ := homes_one (.slice A3 l.length c3)
  refine ⟨A3, c3, homes (.slice A3 l.length c3), rfl, ⟨A3, c3, g3, rfl, h31, h32, reads.seenB (h34 g3 hg3), fun hne => ?_⟩, fun y hy => ⟨h2 y hy, h33 y hy⟩⟩
  obtain ⟨o, hA, _⟩ := (h34 g3 hg3).2 (List.length_pos_iff.2 hne)
  rw [hA]; simp [homes_some]
set_option maxHeartbeats 2000000 in
theorem numRead_any (F : List Nat) (b : List UInt8) (v : Value) (w : World) (h : bytesV w F v b) (hb : b.length ≤ 1000000) :
    Calls Tryz.prog 93 #[v] w fun e w' => ∃ p g, e = .returned (.pointer (some ⟨p, 0, none⟩)) ∧ isR w' p g ⟨b, 0⟩ ∧ w.heap.size ≤ p ∧ (b ≠ [] → w.heap.size ≤ g) ∧ keepBut [] w w' := by
  obtain ⟨A, c, g, rfl, h2, h3, h4, h5⟩ := h
  obtain ⟨i0, hi0, hz0, hz1, hz2⟩ := info_parts infoU8c
  have H := Lib.hid (And.intro (seen.reads h4) (owns.nil w 5 1))
  clear h4 h5 h3
  go_enter Tryz.func93, Tryz.ntmps93
  go_wp2_with (at_builtin; refine wp_append _ rfl _ _ 24 rfl 5 i0 (.int .u8 0) 1 1 Tryz.underlying24 hi0 hz0 hz1 hz2 rfl (by decide) (.slice none 0 0) 0 [] rfl H.out.2 A g b.length c _ (by simp [Act.eval]) H.out.1 (by intro u hu; simp at hu; obtain ⟨b, _, rfl⟩ := hu; rfl) (by omega) (by unfold maxLen; omega) ?_; intro A2 c2 w2 hown2 hkb2 hloc2)
  go_ret
  simp only [Nat.zero_add, List.nil_append] at hown2 hloc2 ⊢
  obtain ⟨A3, c3, e3, h31, h32, h33, h34⟩ := hown2.form
  injection e3 with e3a e3b e3c
  subst e3a e3c
  obtain ⟨g3, hg3⟩ := homes_one (.slice A2 b.length c2)
  have hk3 := (keepBut.refl [] w2).alloc (.cells #[.slice A2 b.length c2, .int .i64 0] 139)
  have hin : b ≠ [] → g3 ∈ homes (.slice A2 b.length c2) := fun hne => by
    obtain ⟨o, hA, _⟩ := (h34 g3 hg3).2 (List.length_pos_iff.2 hne)
    rw [hA]; simp [homes_some]
  have hks := hkb2.size
  refine ⟨w2.heap.size, g3, rfl, ⟨A2, c2, rowAt.new _ _ _, h31, h32, (reads.seenB (h34 g3 hg3)).keep hk3 (by simp), fun hne => by have := h33 g3 (hin hne); show g3 ≠ w2.heap.size; omega⟩, hks, fun hne => ?_, (hkb2.more (by simp [homes_none])).then hk3 (by simp)⟩
  rcases hloc2 g3 (hin hne) with h | h
  · simp [homes_none] at h
  · exact h
end Go.Proofs.YthfdkonhjpdflaaGreatDoor
