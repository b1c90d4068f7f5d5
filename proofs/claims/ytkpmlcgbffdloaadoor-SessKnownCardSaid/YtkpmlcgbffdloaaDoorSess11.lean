/-
  SESS, 11: Ask.
-/
import Derived.Test.YtkpmlcgbffdloaaDoorSess10
namespace Go.Proofs.YtkpmlcgbffdloaaDoor
open Go.RowKit
set_option linter.unusedVariables false
set_option maxRecDepth 100000

def SS.took (s : SS) (r : RQ) : SS := ((((((s.setReq (r.as s.client s.next)).setWaits true).setLate false).setSent false).setTicks 0).setLast s.next).setNext (s.next + 1)
def SS.askP (s : SS) (r : RQ) : (Int × Int) × SS :=
  if s.waits then ((0, 170), s) else if 9007199254740991 < s.next then ((0, 5), s) else if (r.as s.client s.next).tok then ((s.next, 0), s.took r) else ((0, 2), s)
def askQPost (p q : Nat) (a : (Int × Int) × SS) (cv : Value) (F K : List Nat) (T : List (PK × List Value)) (w : World) (e : Ending) (w' : World) : Prop :=
  e = .returned (.tuple #[.int .i64 a.1.1, .int .i64 a.1.2]) ∧ ∃ ev' G', isQ w' p q a.2 cv ev' (F ++ G') K T ∧ newIn w w' G' ∧ keepBut [p] w w'
theorem tok_len {r : RQ} (h : r.tok = true) : r.env.length ≤ 1000000 := by
  unfold RQ.tok at h
  simp only [Bool.and_eq_true] at h
  obtain ⟨_, _, h⟩ := h
  split at h
  · simp at h; simp [h.2]
  · split at h
    · simp [sizedP] at h; omega
    · split at h
      · simp at h; simp [h.2.2]
      · cases h
theorem ssL_len (s : SS) {q : Nat} {cv ev : Value} (h : s.req.name.length = 32) : (ssL s q cv ev).length = 50 := by
  have e1 : (rqL s.req ev).length = 37 := rqL_len h
  unfold ssL
  simp only [List.length_append, e1]
  rfl
theorem rqV.as {G : List Nat} {rv : Value} {r : RQ} {w : World} (h : rqV w G r rv) (c n : Int) : rqV w G (r.as c n) rv := h
section
variable (p q : Nat) (s : SS) (cv ev : Value) (F K : List Nat) (T : List (PK × List Value)) (r : RQ) (rv : Value) (w : World) (h : isQ w p q s cv ev F K T)
include h
theorem askQ_stay (a : Int × Int) {w' : World} (k : keepBut [] w w') : askQPost p q (a, s) cv F K T w (.returned (.tuple #[.int .i64 a.1, .int .i64 a.2])) w' :=
  ⟨rfl, ev, [], by rw [List.append_nil]; exact h.over k, by simp [newIn], k.more (by simp)⟩
set_option maxHeartbeats 1000000 in
theorem askQ_state (hw : s.waits = true) :
    Calls Tryd.prog 28 #[.pointer (some ⟨p, 0, none⟩), .agg (rqL r rv).toArray] w (askQPost p q ((0, 170), s) cv F K T w) := by
  have k1 := (keepBut.refl [] w).alloc (.cells (rqL r rv).toArray 37)
  obtain ⟨X, hX⟩ : ∃ X, rqL r rv = X := ⟨_, rfl⟩
  rw [hX] at k1 ⊢
  obtain ⟨w1, hw1⟩ : ∃ w1, w.alloc (.cells X.toArray 37) = w1 := ⟨_, rfl⟩
  rw [hw1] at k1
  have h1 := h.over k1
  obtain ⟨_, _, _, _, _, _, _, _, _, x9, _⟩ := h1.cells
  rw [hw] at x9
  have HW := Lib.hid hw1
  have H0 := Lib.hid (And.intro h k1)
  have H1 := Lib.hid h1
  clear h k1 h1 hw1 hX hw
  go_enter Tryd.func28, Tryd.ntmps28
  go_wp2_with (first
    | (with_reducible refine wpList_box_to _ _ rfl 37 (.tmp 1) rfl _ rfl HW.out ?_)
    | (go_at_call 42; refine (noneQ_any _ _ _ _ _ _ _ _ _ H1.out).mono ?_; rintro e w' ⟨rfl, rfl⟩))
  go_ret2
  exact askQ_stay p q s cv ev F K T w H0.out.1 (0, 170) H0.out.2
set_option maxHeartbeats 1000000 in
theorem askQ_limit (hw : s.waits = false) (hn : 9007199254740991 < s.next) :
    Calls Tryd.prog 28 #[.pointer (some ⟨p, 0, none⟩), .agg (rqL r rv).toArray] w (askQPost p q ((0, 5), s) cv F K T w) := by
  have k1 := (keepBut.refl [] w).alloc (.cells (rqL r rv).toArray 37)
  obtain ⟨X, hX⟩ : ∃ X, rqL r rv = X := ⟨_, rfl⟩
  rw [hX] at k1 ⊢
  obtain ⟨w1, hw1⟩ : ∃ w1, w.alloc (.cells X.toArray 37) = w1 := ⟨_, rfl⟩
  rw [hw1] at k1
  have h1 := h.over k1
  obtain ⟨_, _, _, _, _, _, _, x7, _, x9, _⟩ := h1.cells
  rw [hw] at x9
  have HW := Lib.hid hw1
  have H0 := Lib.hid (And.intro h k1)
  have H1 := Lib.hid h1
  clear h k1 h1 hw1 hX hw
  go_enter Tryd.func28, Tryd.ntmps28
  go_wp2_with (first
    | (with_reducible refine wpList_box_to _ _ rfl 37 (.tmp 1) rfl _ rfl HW.out ?_)
    | (go_at_call 42; refine (noneQ_any _ _ _ _ _ _ _ _ _ H1.out).mono ?_; rintro e w' ⟨rfl, rfl⟩))
  go_ret2
  exact askQ_stay p q s cv ev F K T w H0.out.1 (0, 5) H0.out.2
set_option maxHeartbeats 1000000 in
theorem askQ_no (G : List Nat) (hr : rqV w G r rv) (hsz : sizesAt w) (hw : s.waits = false) (hn : s.next ≤ 9007199254740991) (ht : (r.as s.client s.next).tok = false) :
    Calls Tryd.prog 28 #[.pointer (some ⟨p, 0, none⟩), .agg (rqL r rv).toArray] w (askQPost p q ((0, 2), s) cv F K T w) := by
  have k1 := (keepBut.refl [] w).alloc (.cells (rqL r rv).toArray 37)
  have r1 := rowAt.new w 37 (rqL r rv).toArray
  obtain ⟨w1, hw1⟩ : ∃ w1, w.alloc (.cells (rqL r rv).toArray 37) = w1 := ⟨_, rfl⟩
  rw [hw1] at k1 r1
  have h1 := h.over k1
  obtain ⟨x0, _, _, _, _, _, _, x7, _, x9, _⟩ := h1.cells
  rw [hw] at x9
  have hpb : p ≠ w.heap.size := by have := h.row.lt; omega
  obtain ⟨b, hb⟩ : ∃ b, w.heap.size = b := ⟨_, rfl⟩
  rw [hb] at hpb r1
  have y0 : w1.cell? ⟨b, 0, none⟩ = some (.int .i64 r.client) := r1.cell 0
  have y1 : w1.cell? ⟨b, 1, none⟩ = some (.int .i64 r.num) := r1.cell 1
  have f0 := r1.free 0
  have f1 := r1.free 1
  have HW := Lib.hid hw1
  have HB := Lib.hid hb
  have H0 := Lib.hid (And.intro h (And.intro k1 (And.intro r1 (And.intro hr hsz))))
  have H1 := Lib.hid h1
  have HT := Lib.hid ht
  clear h k1 h1 hw1 hw r1 hr hsz ht
  go_enter Tryd.func28, Tryd.ntmps28
  go_upto_region 7 with (first
    | (with_reducible refine wpList_box_to _ _ rfl 37 (.tmp 1) rfl _ rfl HW.out ?_)
    | (go_at_call 42; refine (noneQ_any _ _ _ _ _ _ _ _ _ H1.out).mono ?_; rintro e w' ⟨rfl, rfl⟩))
  go_region
  have r2 : rowAt (((w1.setCell ⟨b, 0, none⟩ (.int .i64 s.client)).setCell ⟨b, 1, none⟩ (.int .i64 s.next)).drew) b 37 (rqL (r.as s.client s.next) rv).toArray := by
    have h := (H0.out.2.2.1.set 0 (.int .i64 s.client)).set 1 (.int .i64 s.next)
    have e : ((rqL r rv).toArray.setIfInBounds 0 (.int .i64 s.client)).setIfInBounds 1 (.int .i64 s.next) = (rqL (r.as s.client s.next) rv).toArray := by simp only [List.setIfInBounds_toArray]; rfl
    rw [e] at h
    exact h
  have k2 : keepBut [] w (((w1.setCell ⟨b, 0, none⟩ (.int .i64 s.client)).setCell ⟨b, 1, none⟩ (.int .i64 s.next)).drew) := ((H0.out.2.1.setCell _ _ (.inr (Nat.le_of_eq HB.out))).setCell _ _ (.inr (Nat.le_of_eq HB.out))).drew
  generalize (((w1.setCell ⟨b, 0, none⟩ (.int .i64 s.client)).setCell ⟨b, 1, none⟩ (.int .i64 s.next)).drew) = w2 at r2 k2 ⊢
  have HV := Lib.hid (show rqV w2 G (r.as s.client s.next) rv from ⟨H0.out.2.2.2.1.1, H0.out.2.2.2.1.2.keep k2 (by simp)⟩)
  have HS := Lib.hid (H0.out.2.2.2.2.keep k2 (by simp))
  have HX := Lib.hid (And.intro r2.rangeAll (show (Tryd.prog.info? 37).map (·.size) = some (rqL (r.as s.client s.next) rv).length by rw [rqL_len HV.out.1]; exact info_rqS))
  have h2 := H0.out.1.over k2
  have H2 := Lib.hid (And.intro k2 h2)
  have HC := Lib.hid (fun W => tcheck_any G (r.as s.client s.next) rv W)
  generalize hY : rqL (r.as s.client s.next) rv = Y at *
  clear r2 k2 h2 y0 y1 f0 f1 x0 x7 x9
  go_wp2_with (first
    | (refine wpList_load_mid rfl 37 (.tmp 3) rfl b 0 rfl Y _ HX.out.1 Tryd.underlying37 rfl HX.out.2 ?_)
    | (go_at_call 52; (with_reducible refine (HC.out _ HV.out HS.out).mono ?_); rintro e w3 ⟨rfl, k3⟩; rw [HT.out]; have H3 := Lib.hid k3; clear k3; simp only [toldP, Bool.false_eq_true, if_false]))
  go_ret2
  exact askQ_stay p q s cv ev F K T w H0.out.1 (0, 2) (H2.out.1.then H3.out (by simp))
set_option maxHeartbeats 1000000 in
theorem askQ_yes (G : List Nat) (hr : rqV w G r rv) (hsz : sizesAt w) (hw : s.waits = false) (hn : s.next ≤ 9007199254740991) (hn0 : 1 ≤ s.next) (ht : (r.as s.client s.next).tok = true) :
    Calls Tryd.prog 28 #[.pointer (some ⟨p, 0, none⟩), .agg (rqL r rv).toArray] w (askQPost p q ((s.next, 0), s.took r) cv F K T w) := by
  have k1 := (keepBut.refl [] w).alloc (.cells (rqL r rv).toArray 37)
  have r1 := rowAt.new w 37 (rqL r rv).toArray
  obtain ⟨w1, hw1⟩ : ∃ w1, w.alloc (.cells (rqL r rv).toArray 37) = w1 := ⟨_, rfl⟩
  rw [hw1] at k1 r1
  have h1 := h.over k1
  obtain ⟨x0, _, _, _, _, _, _, x7, _, x9, _⟩ := h1.cells
  rw [hw] at x9
  have hpb : p ≠ w.heap.size := by have := h.row.lt; omega
  obtain ⟨b, hb⟩ : ∃ b, w.heap.size = b := ⟨_, rfl⟩
  rw [hb] at hpb r1
  have y0 : w1.cell? ⟨b, 0, none⟩ = some (.int .i64 r.client) := r1.cell 0
  have y1 : w1.cell? ⟨b, 1, none⟩ = some (.int .i64 r.num) := r1.cell 1
  have f0 := r1.free 0
  have f1 := r1.free 1
  have HW := Lib.hid hw1
  have HB := Lib.hid hb
  have H0 := Lib.hid (And.intro h (And.intro k1 (And.intro r1 (And.intro hr hsz))))
  have H1 := Lib.hid h1
  have HT := Lib.hid ht
  clear h k1 h1 hw1 hw r1 hr hsz ht
  go_enter Tryd.func28, Tryd.ntmps28
  go_upto_region 7 with (first
    | (with_reducible refine wpList_box_to _ _ rfl 37 (.tmp 1) rfl _ rfl HW.out ?_)
    | (go_at_call 42; refine (noneQ_any _ _ _ _ _ _ _ _ _ H1.out).mono ?_; rintro e w' ⟨rfl, rfl⟩))
  go_region
  have r2 : rowAt (((w1.setCell ⟨b, 0, none⟩ (.int .i64 s.client)).setCell ⟨b, 1, none⟩ (.int .i64 s.next)).drew) b 37 (rqL (r.as s.client s.next) rv).toArray := by
    have h := (H0.out.2.2.1.set 0 (.int .i64 s.client)).set 1 (.int .i64 s.next)
    have e : ((rqL r rv).toArray.setIfInBounds 0 (.int .i64 s.client)).setIfInBounds 1 (.int .i64 s.next) = (rqL (r.as s.client s.next) rv).toArray := by simp only [List.setIfInBounds_toArray]; rfl
    rw [e] at h
    exact h
  have k2 : keepBut [] w (((w1.setCell ⟨b, 0, none⟩ (.int .i64 s.client)).setCell ⟨b, 1, none⟩ (.int .i64 s.next)).drew) := ((H0.out.2.1.setCell _ _ (.inr (Nat.le_of_eq HB.out))).setCell _ _ (.inr (Nat.le_of_eq HB.out))).drew
  generalize (((w1.setCell ⟨b, 0, none⟩ (.int .i64 s.client)).setCell ⟨b, 1, none⟩ (.int .i64 s.next)).drew) = w2 at r2 k2 ⊢
  have HV := Lib.hid (show rqV w2 G (r.as s.client s.next) rv from ⟨H0.out.2.2.2.1.1, H0.out.2.2.2.1.2.keep k2 (by simp)⟩)
  have HS := Lib.hid (H0.out.2.2.2.2.keep k2 (by simp))
  have HX := Lib.hid (And.intro r2.rangeAll (show (Tryd.prog.info? 37).map (·.size) = some (rqL (r.as s.client s.next) rv).length by rw [rqL_len HV.out.1]; exact info_rqS))
  have h2 := H0.out.1.over k2
  have H2 := Lib.hid (And.intro k2 h2)
  have HC := Lib.hid (fun W => tcheck_any G (r.as s.client s.next) rv W)
  generalize hY : rqL (r.as s.client s.next) rv = Y at *
  have hp2 := h2.row.lt
  clear k2 h2 y0 y1 f0 f1 x0 x7 x9
  go_upto_region 11 with (first
    | (refine wpList_load_mid rfl 37 (.tmp 3) rfl b 0 rfl Y _ HX.out.1 Tryd.underlying37 rfl HX.out.2 ?_)
    | (go_at_call 52; (with_reducible refine (HC.out _ HV.out HS.out).mono ?_); rintro e w3 ⟨rfl, k3⟩; rw [HT.out]; have H3 := Lib.hid k3; clear k3; simp only [toldP, if_true]))
  have h3 := H2.out.2.over H3.out
  have r3 := H3.out.row r2 (by simp)
  have k3 := H2.out.1.then H3.out (by simp)
  have HX3 := Lib.hid (And.intro r3.rangeAll HX.out.2)
  have hlen : (r.as s.client s.next).env.length ≤ 1000000 := tok_len HT.out
  have HD := Lib.hid (copiedQ_any G (r.as s.client s.next) rv w3 ⟨HV.out.1, HV.out.2.keep H3.out (by simp)⟩ hlen)
  rw [hY] at HD
  have H4 := Lib.hid (And.intro h3 k3)
  clear h3 r3 k3 hlen
  have hYl := rqL_len (ev := rv) HV.out.1
  go_upto_region 12 with (first
    | (refine wpList_load_mid rfl 37 (.tmp 3) rfl b 0 rfl Y _ HX3.out.1 Tryd.underlying37 rfl HX3.out.2 ?_)
    | (go_at_call 53; (with_reducible refine HD.out.mono ?_); rintro e w4 ⟨ev', rfl, G', hv', hG', k4⟩; have h4 := H4.out.1.over k4; have H5 := Lib.hid (And.intro hv' (And.intro hG' (And.intro k4 h4))); clear hv' hG' k4 h4)
    | (refine wpList_store_mid rfl 37 (.tmp 40) (.tmp 38) rfl p 11 (rqL (r.as s.client s.next) ev').toArray rfl rfl (H5.out.2.2.2.row.there (by rw [List.size_toArray, rqL_len HV.out.1, List.size_toArray, ssL_len _ H5.out.2.2.2.nm]; decide)) (by rw [List.size_toArray, rqL_len HV.out.1]; exact info_rqS) (by simpa using rqL_one _ H5.out.1.2.one) ?_))
  have hF : ∀ y ∈ G', y < w4.heap.size ∧ y ≠ p ∧ y ≠ q := fun y hy => by
    have h1 := H5.out.2.1 y hy
    have h2 := H4.out.1.row.lt
    have h3 := H4.out.1.ch.lt
    omega
  obtain ⟨h5, k5⟩ := H5.out.2.2.2.req H5.out.1 hF
  generalize w4.setCells p 11 (rqL (r.as s.client s.next) ev') = w5 at h5 k5 ⊢
  obtain ⟨_, _, _, _, _, _, _, x7, x8, x9, x10, x48, x49⟩ := h5.cells
  have f7 := h5.row.free 7
  have f8 := h5.row.free 8
  have f9 := h5.row.free 9
  have f10 := h5.row.free 10
  have f48 := h5.row.free 48
  have f49 := h5.row.free 49
  have H6 := Lib.hid (And.intro h5 k5)
  have hwr : IntKind.i64.wrap (s.next + 1) = s.next + 1 := by rw [IntKind.wrap_i64]; omega
  have HN := Lib.hid (And.intro hn hn0)
  clear h5 k5 hF hYl r2 hn hn0
  replace x7 : w5.cell? ⟨p, 7, none⟩ = some (.int .i64 s.next) := x7
  go_wp2_with fail
  go_ret2
  have hw64 : wrap64 (s.next + 1) = s.next + 1 := by have := HN.out; unfold wrap64; omega
  try rw [hw64]
  have a1 := H6.out.1.waits true
  have a2 := a1.1.late false
  have a3 := a2.1.sent false
  have a4 := a3.1.ticks 0
  have a5 := a4.1.last s.next
  have a6 := a5.1.next (s.next + 1)
  have kk := ((((((H6.out.2.then a1.2 (fun x hx => .inl hx)).then a2.2 (fun x hx => .inl hx)).then a3.2 (fun x hx => .inl hx)).then a4.2 (fun x hx => .inl hx)).then a5.2 (fun x hx => .inl hx)).then a6.2 (fun x hx => .inl hx))
  have k4 := H4.out.2.then H5.out.2.2.1 (by simp)
  refine ⟨rfl, ev', G', a6.1, fun y hy => ⟨?_, ?_⟩, (k4.more (by simp)).then kk (fun x hx => .inl hx)⟩
  · have h1 := (H5.out.2.1 y hy).1
    have h2 := H4.out.2.size
    omega
  · have h1 := (H5.out.2.1 y hy).2
    have h2 := kk.size
    omega
theorem askQ_any (G : List Nat) (hr : rqV w G r rv) (hsz : sizesAt w) (hn0 : 1 ≤ s.next) :
    Calls Tryd.prog 28 #[.pointer (some ⟨p, 0, none⟩), .agg (rqL r rv).toArray] w (askQPost p q (s.askP r) cv F K T w) := by
  unfold SS.askP
  cases hw : s.waits with
  | true => simpa using askQ_state p q s cv ev F K T r rv w h hw
  | false =>
    rw [if_neg (by simp)]
    by_cases hn : 9007199254740991 < s.next
    · rw [if_pos hn]; exact askQ_limit p q s cv ev F K T r rv w h hw hn
    · rw [if_neg hn]
      cases ht : (r.as s.client s.next).tok with
      | true => rw [if_pos rfl]; exact askQ_yes p q s cv ev F K T r rv w h G hr hsz hw (by omega) hn0 ht
      | false => rw [if_neg (by simp)]; exact askQ_no p q s cv ev F K T r rv w h G hr hsz hw (by omega) ht
end
end Go.Proofs.YtkpmlcgbffdloaaDoor
