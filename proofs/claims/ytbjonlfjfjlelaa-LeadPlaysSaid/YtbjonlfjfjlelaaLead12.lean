/-
  LEAD, 14: the chapter's leader, as the statements ask for it.
-/
import Derived.Test.YtbjonlfjfjlelaaLead11
namespace Go.Proofs.Ytbjonlfjfjlelaa
open Go.RowKit
set_option linter.unusedVariables false
set_option maxRecDepth 100000

/-- a leader that was made since w0, when nothing that was there in w0 has changed -/
def lOn (w0 w : World) (p : Nat) (F : List Nat) (s : LS) : Prop := isL w p F s ∧ (∀ y ∈ F, w0.heap.size ≤ y) ∧ keepBut [] w0 w
theorem lOn.step {w0 w w' : World} {p : Nat} {F : List Nat} {s s' : LS} (h : lOn w0 w p F s) (hl : lPost p F s' w w') : ∃ F', lOn w0 w' p F' s' := by
  obtain ⟨F', a, b, c⟩ := hl
  refine ⟨F', a, fun y hy => ?_, h.2.2.then b (fun y hy => .inr (h.2.1 y hy))⟩
  rcases c y hy with h1 | h1
  · exact h.2.1 y h1
  · exact Nat.le_trans h.2.2.size h1
theorem lOn.w {w0 w w' : World} {p : Nat} {F : List Nat} {s s' : LS} {v : Value} {e : Ending} (h : lOn w0 w p F s) (hl : wPost p F s' v w e w') : e = .returned v ∧ lOn w0 w' p F s' :=
  ⟨hl.1, hl.2.1, h.2.1, h.2.2.then hl.2.2 (fun y hy => .inr (h.2.1 y (by rw [List.mem_singleton.1 hy]; exact h.1.mem)))⟩
theorem lOn.over {w0 w w' : World} {p : Nat} {F : List Nat} {s : LS} (h : lOn w0 w p F s) (hk : keepBut [] w w') : lOn w0 w' p F s := ⟨h.1.over hk, h.2.1, h.2.2.then hk (by simp)⟩
theorem lOn.start {w0 w w' : World} {id : Int} {e : Ending} (hk : keepBut [] w0 w) (h : newLPost id w e w') : ∃ p F, e = .returned (.tuple #[.pointer (some ⟨p, 0, none⟩), .int .i64 0]) ∧ lOn w0 w' p F (LS.new id) := by
  obtain ⟨p, F, he, a, b, c⟩ := h
  exact ⟨p, F, he, a, fun y hy => Nat.le_trans hk.size (b y hy), hk.then c (by simp)⟩
/-- one vote in a new block -/
theorem votes_one {w : World} {G : List Nat} {A : Option Addr} {n : Nat} {b : Int} {c : CS} (h : held w G (.slice A c.chain.length n) c.chain) (hG : ∀ y ∈ G, y < w.heap.size) :
    votesV (w.alloc (.cells #[.int .i64 b, .int .i64 c.num, .int .i64 c.full, .slice A c.chain.length n] 78)) (w.heap.size :: G) (.slice (some ⟨w.heap.size, 0, none⟩) 1 1) [⟨b, c⟩] := by
  have hr := rowAt.new w 78 #[.int .i64 b, .int .i64 c.num, .int .i64 c.full, .slice A c.chain.length n]
  have hh := (h.keep ((keepBut.refl [] w).alloc (.cells #[.int .i64 b, .int .i64 c.num, .int .i64 c.full, .slice A c.chain.length n] 78)) (by simp)).more (G := w.heap.size :: G) (fun y hy => List.mem_cons_of_mem _ hy)
  refine ⟨_, 1, rfl, by simp, by simp [maxLen], by simp, fun _ => ⟨w.heap.size, 0, rfl, hr.lt, by simp, fun i d hd => ?_⟩⟩
  match i, hd with
  | 0, hd =>
    obtain rfl : (⟨b, c⟩ : VS) = d := by simpa using hd
    exact ⟨_, hh, hr.cell 0, hr.cell 1, hr.cell 2, hr.cell 3⟩
def yesPost (w : World) (e : Ending) (w' : World) : Prop := e = .returned (.bool true) ∧ keepBut [] w w'

set_option maxHeartbeats 8000000 in
theorem works_any (w : World) : Calls Try.prog 37 #[] w (yesPost w) := by
  go_enter Try.func37, Try.ntmps37
  go_wp2_with fail
  refine (newL_any 1 _ (by omega) (by omega)).mono ?_; intro e w1 hq; obtain ⟨p, F1, rfl, h1⟩ := lOn.start (keepBut.refl [] w) hq; clear hq
  go_wp2_with fail
  refine (start_yes p F1 _ 0 1 _ h1.1 ⟨by simp [LS.new], by simp [LS.new], by simp [LS.new], by simp [LS.new], by simp [LS.new], by simp [LS.new]⟩ (by omega) (by omega) (by omega) (by omega)).mono ?_; rintro e w2 ⟨rfl, hl⟩; obtain ⟨F2, h2⟩ := h1.step hl; clear hl h1
  rw [show (LS.new 1).start 0 1 = (1, 0, ⟨1, 1, 1, 1, 0, [], false, CS.zero, 0⟩) from rfl] at h2 ⊢
  go_wp2_with fail
  refine (start_yes p F2 _ 0 1 _ h2.1 ⟨by simp, by simp, by simp, by simp, by simp, by simp⟩ (by omega) (by omega) (by omega) (by omega)).mono ?_; rintro e w3 ⟨rfl, hl⟩; obtain ⟨F3, h3⟩ := h2.step hl; clear hl h2
  rw [show LS.start ⟨1, 1, 1, 1, 0, [], false, CS.zero, 0⟩ 0 1 = (4, 0, ⟨1, 1, 4, 1, 0, [], false, CS.zero, 0⟩) from rfl] at h3 ⊢
  go_wp2_with fail
  refine (start_yes p F3 _ 7 2 _ h3.1 ⟨by simp, by simp, by simp, by simp, by simp, by simp⟩ (by omega) (by omega) (by omega) (by omega)).mono ?_; rintro e w4 ⟨rfl, hl⟩; obtain ⟨F4, h4⟩ := h3.step hl; clear hl h3
  rw [show LS.start ⟨1, 1, 4, 1, 0, [], false, CS.zero, 0⟩ 7 2 = (10, 0, ⟨1, 1, 10, 2, 0, [], false, CS.zero, 0⟩) from rfl] at h4 ⊢
  go_wp2_with fail
  refine (phaseL_any p F4 _ _ h4.1).mono ?_; rintro e w5 ⟨rfl, rfl⟩
  go_wp2_with fail
  refine (promise_yes p F4 [] _ 1 (.slice none 0 0) [] _ h4.1 ⟨by simp, by simp, by simp, by simp, by simp, by simp⟩ (by omega) rfl (votesV.nil _ _) (by simp)).mono ?_; rintro e w5 ⟨rfl, hl⟩; obtain ⟨F5, h5⟩ := h4.step hl; clear hl h4
  rw [show LS.promise ⟨1, 1, 10, 2, 0, [], false, CS.zero, 0⟩ 1 10 [] = (false, 0, ⟨1, 1, 10, 2, 2, [], false, CS.zero, 0⟩) from rfl] at h5 ⊢
  go_wp2_with fail
  refine (conf_any 2 11 _).mono ?_; rintro e w6 ⟨cv, rfl, G, hcv, hG, hk6⟩
  obtain ⟨A6, n6, g6, rfl, q2, q3, q4, q5, q6⟩ := id hcv
  have h6 := h5.over hk6
  have hv6 := votes_one (b := 3) (c := ⟨2, 1, [11]⟩) hcv (fun y hy => (hG y hy).2)
  have h7 := h6.over ((keepBut.refl [] w6).alloc (.cells #[.int .i64 3, .int .i64 2, .int .i64 1, .slice A6 [(11 : Int)].length n6] 78))
  have hlt6 := h6.1.lt
  have hlt5 := h5.1.lt
  have hGF : ∀ y ∈ w6.heap.size :: G, y ∉ F5 ∧ y < (w6.alloc (.cells #[.int .i64 3, .int .i64 2, .int .i64 1, .slice A6 [(11 : Int)].length n6] 78)).heap.size := fun y hy => by
    rcases List.mem_cons.1 hy with rfl | hy
    · exact ⟨fun hm => by have := hlt6 _ hm; omega, by simp⟩
    · exact ⟨fun hm => by have := hlt5 _ hm; have := (hG y hy).1; omega, by have := (hG y hy).2; simp; omega⟩
  have HX := Lib.hid (And.intro h7 (And.intro hv6 hGF))
  clear h5 h6 h7 hv6 hGF hcv hG hk6 q2 q3 q4 q5 q6 hlt5 hlt6
  unfold confV
  go_wp2_with fail
  refine (promise_yes p F5 _ _ 2 _ [⟨3, ⟨2, 1, [11]⟩⟩] _ HX.out.1.1 ⟨by simp, by simp, by simp, by simp, by simp, by simp⟩ (by omega) rfl HX.out.2.1 HX.out.2.2).mono ?_; rintro e w8 ⟨rfl, hl⟩; obtain ⟨F8, h8⟩ := HX.out.1.step hl; clear hl HX
  rw [show LS.promise ⟨1, 1, 10, 2, 2, [], false, CS.zero, 0⟩ 2 10 [⟨3, ⟨2, 1, [11]⟩⟩] = (true, 0, ⟨1, 2, 10, 2, 6, [(2, ⟨3, ⟨2, 1, [11]⟩⟩)], false, CS.zero, 0⟩) from rfl] at h8 ⊢
  go_wp2_with fail
  refine (conf_any 2 12 _).mono ?_; rintro e w9 ⟨cv, rfl, G, hcv, hG, hk9⟩
  have h9 := h8.over hk9
  have hlt8 := h8.1.lt
  unfold confV
  go_wp2_with fail
  refine (propose_yes p F8 G _ ⟨2, 1, [12]⟩ cv _ h9.1 hcv (fun y hy => ⟨fun hm => by have := hlt8 _ hm; have := (hG y hy).1; omega, (hG y hy).2⟩) rfl rfl (by simp)).mono ?_; rintro e w10 ⟨cv10, F10, G10, rfl, i10, k10, f10, hh10, hG10⟩
  obtain ⟨F10', h10⟩ : ∃ F', lOn w w10 p F' _ := h9.step ⟨F10, i10, k10, f10⟩
  clear h8 h9 hcv hG hk9 i10 k10 f10 hlt8
  rw [show LS.propose ⟨1, 2, 10, 2, 6, [(2, ⟨3, ⟨2, 1, [11]⟩⟩)], false, CS.zero, 0⟩ ⟨2, 1, [12]⟩ = (0, ⟨2, 1, [11]⟩, ⟨1, 2, 10, 2, 6, [(2, ⟨3, ⟨2, 1, [11]⟩⟩)], true, ⟨2, 1, [11]⟩, 0⟩) from rfl] at h10 hh10 ⊢
  obtain ⟨A10, n10, g10, rfl, -⟩ := id hh10
  have hk11 := (keepBut.refl [] w10).alloc (.cells #[.int .i64 2, .int .i64 1, .slice A10 [(11 : Int)].length n10] 55)
  have h11 := h10.over hk11
  have hh11 := hh10.keep hk11 (by simp)
  have H11 := Lib.hid (And.intro h11 hh11)
  clear h10 hk11 h11 hh10 hh11 hG10
  unfold confV
  go_wp2_with fail
  simp only [List.length_cons, List.length_nil, Nat.zero_add] at H11
  refine (is_any G10 ⟨2, 1, [11]⟩ (.slice A10 1 n10) 2 11 _ H11.out.2 rfl).mono ?_; rintro e w12 ⟨rfl, hk12⟩
  have h12 := H11.out.1.over hk12
  clear H11 hk12
  go_wp2_with fail
  refine (yes_yes p F10' _ 0 _ h12.1 ⟨by simp, by simp, by simp, by simp, by simp, by simp⟩ (by omega) rfl rfl).mono ?_; intro e w13 hq; obtain ⟨rfl, h13⟩ := h12.w hq; clear hq h12
  rw [show LS.yes ⟨1, 2, 10, 2, 6, [(2, ⟨3, ⟨2, 1, [11]⟩⟩)], true, ⟨2, 1, [11]⟩, 0⟩ 0 = (false, ⟨1, 2, 10, 2, 6, [(2, ⟨3, ⟨2, 1, [11]⟩⟩)], true, ⟨2, 1, [11]⟩, 1⟩) from rfl] at h13 ⊢
  go_wp2_with fail
  refine (yes_yes p F10' _ 0 _ h13.1 ⟨by simp, by simp, by simp, by simp, by simp, by simp⟩ (by omega) rfl rfl).mono ?_; intro e w14 hq; obtain ⟨rfl, h14⟩ := h13.w hq; clear hq h13
  rw [show LS.yes ⟨1, 2, 10, 2, 6, [(2, ⟨3, ⟨2, 1, [11]⟩⟩)], true, ⟨2, 1, [11]⟩, 1⟩ 0 = (false, ⟨1, 2, 10, 2, 6, [(2, ⟨3, ⟨2, 1, [11]⟩⟩)], true, ⟨2, 1, [11]⟩, 1⟩) from rfl] at h14 ⊢
  go_wp2_with fail
  refine (yes_yes p F10' _ 1 _ h14.1 ⟨by simp, by simp, by simp, by simp, by simp, by simp⟩ (by omega) rfl rfl).mono ?_; intro e w15 hq; obtain ⟨rfl, h15⟩ := h14.w hq; clear hq h14
  rw [show LS.yes ⟨1, 2, 10, 2, 6, [(2, ⟨3, ⟨2, 1, [11]⟩⟩)], true, ⟨2, 1, [11]⟩, 1⟩ 1 = (true, ⟨1, 2, 10, 3, 6, [(2, ⟨3, ⟨2, 1, [11]⟩⟩)], false, CS.zero, 0⟩) from by
    have e3 : wrap64 ((2 : Int) + 1) = 3 := by unfold wrap64; decide
    unfold LS.yes
    rw [if_neg (by decide)]
    simp only [e3]
    rfl] at h15 ⊢
  go_wp2_with fail
  refine (fromL_any p F10' _ _ h15.1).mono ?_; rintro e w16 ⟨rfl, rfl⟩
  go_wp2_with fail
  refine (noL_any p F10' _ 9 _ h15.1).mono ?_; intro e w17 hq; obtain ⟨rfl, h17⟩ := h15.w hq; clear hq h15
  rw [show LS.no ⟨1, 2, 10, 3, 6, [(2, ⟨3, ⟨2, 1, [11]⟩⟩)], false, CS.zero, 0⟩ 9 = (170, ⟨1, 2, 10, 3, 6, [(2, ⟨3, ⟨2, 1, [11]⟩⟩)], false, CS.zero, 0⟩) from rfl] at h17 ⊢
  go_wp2_with fail
  refine (noL_any p F10' _ 12 _ h17.1).mono ?_; intro e w18 hq; obtain ⟨rfl, h18⟩ := h17.w hq; clear hq h17
  rw [show LS.no ⟨1, 2, 10, 3, 6, [(2, ⟨3, ⟨2, 1, [11]⟩⟩)], false, CS.zero, 0⟩ 12 = (0, ⟨1, 0, 10, 3, 6, [(2, ⟨3, ⟨2, 1, [11]⟩⟩)], false, CS.zero, 0⟩) from rfl] at h18 ⊢
  go_wp2_with fail
  refine (phaseL_any p F10' _ _ h18.1).mono ?_; rintro e w19 ⟨rfl, rfl⟩
  have HK := Lib.hid h18.2.2
  clear h18
  go_wp2_with fail
  go_ret
  exact ⟨rfl, HK.out⟩
end Go.Proofs.Ytbjonlfjfjlelaa
