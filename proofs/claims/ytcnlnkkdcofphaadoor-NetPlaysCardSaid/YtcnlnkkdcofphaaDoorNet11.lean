/-
  NET, 11: the statements' works.
-/
import Derived.Test.YtcnlnkkdcofphaaDoorNet10
import Derived.Test.YtcnlnkkdcofphaaDoorBox
namespace Go.Proofs.YtcnlnkkdcofphaaDoor
open Go.RowKit
set_option linter.unusedVariables false
set_option maxRecDepth 100000
set_option linter.unusedSimpArgs false

theorem keepBut.up {S : List Nat} {w a b : World} (h : keepBut [] w a) (k : keepBut S a b) (hS : ∀ x ∈ S, w.heap.size ≤ x) : keepBut [] w b := h.then k (fun x hx => .inr (hS x hx))
/-- two boxes apart, made since w0 -/
structure twoB (w0 w : World) (b q c r : Nat) (l m : List Int) : Prop where
  one : isB w b q 2 l
  two : isB w c r 2 m
  bc : b ≠ r ∧ c ≠ q ∧ q ≠ r
  new : w0.heap.size ≤ q ∧ w0.heap.size ≤ r
  kept : keepBut [] w0 w
theorem twoB.fst {w0 w w' : World} {b q c r : Nat} {l l' m : List Int} (h : twoB w0 w b q c r l m) (k : keepBut [q] w w') (h' : isB w' b q 2 l') : twoB w0 w' b q c r l' m :=
  ⟨h', h.two.keep k (by simp [h.bc.2.1]) (by simp [h.bc.2.2.symm]), h.bc, h.new, h.kept.up k (by simp [h.new.1])⟩
/-- a net, made since w0 -/
structure nOn (w0 w : World) (p : Nat) (v : Value) (T : List (PK × List Value)) (F : List Nat) (c : Nat) : Prop where
  net : isN w p v T F c
  kept : keepBut [] w0 w
  pn : w0.heap.size ≤ p
  vn : ∀ x ∈ homes v, w0.heap.size ≤ x
theorem nOn.step {w0 w w' : World} {p : Nat} {v v' : Value} {T T' : List (PK × List Value)} {F F' : List Nat} {c c' : Nat} (h : nOn w0 w p v T F c) (h' : isN w' p v' T' F' c') (k : keepBut (p :: homes v) w w') (hh : ∀ x ∈ homes v', x ∈ homes v ∨ w.heap.size ≤ x) : nOn w0 w' p v' T' F' c' :=
  ⟨h', h.kept.up k (fun x hx => by
    rcases List.mem_cons.1 hx with rfl | hx
    · exact h.pn
    · exact h.vn x hx), h.pn, fun x hx => by
    rcases hh x hx with h1 | h1
    · exact h.vn x h1
    · exact Nat.le_trans h.kept.size h1⟩
theorem nOn.over {w0 w w' : World} {p : Nat} {v : Value} {T : List (PK × List Value)} {F : List Nat} {c : Nat} (h : nOn w0 w p v T F c) (k : keepBut [] w w') : nOn w0 w' p v T F c :=
  ⟨h.net.over k, h.kept.then k (by simp), h.pn, h.vn⟩
def morePost (w0 : World) (p : Nat) (v : Value) (T : List (PK × List Value)) (c : Nat) (pk : PK) (w : World) (e : Ending) (w' : World) : Prop :=
  ∃ v' X F', e = .returned (.int .i64 0) ∧ nOn w0 w' p v' (T ++ [(pk, X)]) F' (c + 1) ∧ keepBut (p :: homes v) w w'
theorem put_on {w0 w : World} {p : Nat} {v : Value} {T : List (PK × List Value)} {F : List Nat} {c : Nat} (h : nOn w0 w p v T F c) (hfl : fieldsAt w0) (a b d n : Int) (X : List Value) (hX : ∀ w, itemV w [] (plP a b d n, X)) (hl : T.length < 2000) (hc : c < 1000000) (hb : i64P b) (hd : i64P d) (hok : (plP a b d n).ok = true) :
    Calls Tryd.prog 25 #[.pointer (some ⟨p, 0, none⟩), .agg X.toArray] w (morePost w0 p v T c (plP a b d n) w) := by
  refine (putN_any p v T F c [] (plP a b d n) X w h.net (hX w) (by simp) (plP_fits a b d n) hl hc (hfl.keep h.kept (by simp)) hb hd hok).mono ?_
  rintro e w' ⟨v', X', G, rfl, h1, h2, h3, _⟩
  exact ⟨v', X', _, rfl, h.step h1 h2 h3, h2⟩
theorem twice_on {w0 w : World} {p : Nat} {v : Value} {T : List (PK × List Value)} {F : List Nat} {c : Nat} (h : nOn w0 w p v T F c) (i : Nat) (t : PK × List Value) (ht : T[i]? = some t) (hf : t.1.fits) (hl : T.length < 2000) (hc : c < 1000000) :
    Calls Tryd.prog 29 #[.pointer (some ⟨p, 0, none⟩), .int .i64 i] w (morePost w0 p v T c t.1 w) := by
  refine (twiceN_any p v T F c i t w h.net ht hf hl hc).mono ?_
  rintro e w' ⟨v', X', G, rfl, h1, h2, h3, _⟩
  exact ⟨v', X', _, rfl, h.step h1 h2 h3, h2⟩
def lessPost (w0 : World) (p : Nat) (v : Value) (T : List (PK × List Value)) (F : List Nat) (c i : Nat) (r : Value) (w : World) (e : Ending) (w' : World) : Prop :=
  ∃ v', e = .returned r ∧ nOn w0 w' p v' (T.eraseIdx i) F c ∧ keepBut (p :: homes v) w w'
theorem take_on {w0 w : World} {p : Nat} {v : Value} {T : List (PK × List Value)} {F : List Nat} {c : Nat} (h : nOn w0 w p v T F c) (i : Nat) (t : PK × List Value) (ht : T[i]? = some t) (hl : T.length ≤ 100000) :
    Calls Tryd.prog 27 #[.pointer (some ⟨p, 0, none⟩), .int .i64 i] w (lessPost w0 p v T F c i (.tuple #[.agg t.2.toArray, .int .i64 0]) w) := by
  refine (takeN_any p v T F c i t w h.net ht hl).mono ?_
  rintro e w' ⟨v', rfl, h1, h2, h3⟩
  exact ⟨v', rfl, h.step h1 h2 (fun x hx => .inl (h3 x hx)), h2⟩
theorem drop_on {w0 w : World} {p : Nat} {v : Value} {T : List (PK × List Value)} {F : List Nat} {c : Nat} (h : nOn w0 w p v T F c) (i : Nat) (t : PK × List Value) (ht : T[i]? = some t) (hl : T.length ≤ 100000) :
    Calls Tryd.prog 28 #[.pointer (some ⟨p, 0, none⟩), .int .i64 i] w (lessPost w0 p v T F c i (.int .i64 0) w) := by
  refine (dropN_any p v T F c i t w h.net ht hl).mono ?_
  rintro e w' ⟨v', rfl, h1, h2, h3⟩
  exact ⟨v', rfl, h.step h1 h2 (fun x hx => .inl (h3 x hx)), h2⟩
theorem row_held (w : World) (l : List Int) (hl : l.length ≤ 17592186044416) : held (w.alloc (.cells (l.map (Value.int .i64)).toArray 3)) [w.heap.size] (.slice (some ⟨w.heap.size, 0, none⟩) l.length l.length) l := by
  refine ⟨_, _, w.heap.size, rfl, Nat.le_refl _, by unfold maxLen; omega, hl, ⟨by simp, fun _ => ⟨0, rfl, by simp, fun j u hu => ?_⟩⟩, fun _ => by simp⟩
  rw [(rowAt.new w _ _).cell]
  simpa using hu
set_option maxHeartbeats 16000000 in
theorem works_any (w : World) (hfl : fieldsAt w) : Calls Tryd.prog 19 #[] w fun e w' => e = .returned (.bool true) ∧ keepBut [] w w' := by
  have HFL := Lib.hid hfl
  clear hfl
  go_enter Tryd.func19, Tryd.ntmps19
  go_upto_region 2 with (go_at_call 20; refine (newBox 2 _ ⟨by omega, by omega⟩).mono ?_; rintro e w1 ⟨b, q, rfl, h1, k1, l1, l1'⟩; have B1 := Lib.hid (show isB w1 b q 2 [] ∧ keepBut [] w w1 ∧ w.heap.size ≤ b ∧ w.heap.size ≤ q from ⟨h1, k1, l1, l1'⟩); clear h1 k1 l1 l1')
  go_upto_region 3 with (go_at_call 20; refine (newBox 2 _ ⟨by omega, by omega⟩).mono ?_; rintro e w2 ⟨c, r, rfl, h2, k2, l2, l2'⟩; have B2 := Lib.hid (show twoB w w2 b q c r [] [] from (have hb := B1.out.1.lt; ⟨B1.out.1.over k2, h2, ⟨by omega, by omega, by omega⟩, ⟨B1.out.2.2.2, by have := B1.out.2.1.size; omega⟩, B1.out.2.1.then k2 (by simp)⟩)); clear h2 k2 l2 l2')
  clear B1
  have P1 := Lib.hid (show ([] : List Int).length < 2 by decide)
  have P2 := Lib.hid (show ([5] : List Int).length < 2 by decide)
  have P3 := Lib.hid (show 2 ≤ ([5, 6] : List Int).length by decide)
  go_upto_region 5 with (first
    | (go_at_call 21; (with_reducible refine (putB_room b q 2 [] 5 _ B2.out.one P1.out).mono ?_); rintro e w3 ⟨rfl, h3, k3⟩; have B3 := Lib.hid (B2.out.fst k3 h3); clear h3 k3)
    | (go_at_call 21; (with_reducible refine (putB_room b q 2 [5] 6 _ B3.out.one P2.out).mono ?_); rintro e w4 ⟨rfl, h4, k4⟩; have B4 := Lib.hid (B3.out.fst k4 h4); clear h4 k4)
    | (go_at_call 21; (with_reducible refine (putB_full b q 2 [5, 6] 7 _ B4.out.one P3.out).mono ?_); rintro e w' ⟨rfl, rfl⟩))
  clear B2 B3
  go_upto_region 6 with (go_at_call 22; refine (takeB_some b q 2 [6] 5 _ B4.out.one).mono ?_; rintro e w5 ⟨rfl, h5, k5⟩; have B5 := Lib.hid (B4.out.fst k5 h5); clear h5 k5)
  clear B4
  go_upto_region 7 with (go_at_call 24; refine (lenB b q 2 [6] _ B5.out.one).mono ?_; rintro e w' ⟨rfl, rfl⟩)
  go_upto_region 8 with (go_at_call 23; refine (firstB_none c r 2 (.pointer (some ⟨b, 0, none⟩)) _ (.int .i64 6) true (fun w' => isB w' b q 2 [] ∧ keepBut [q] w5 w') B5.out.two (takeB_some b q 2 [] 6 _ B5.out.one)).mono ?_; rintro e w6 ⟨rfl, h6, k6⟩; have B6 := Lib.hid (B5.out.fst k6 h6); clear h6 k6)
  clear B5
  go_upto_region 9 with (go_at_call 23; refine (firstB_none c r 2 (.pointer (some ⟨b, 0, none⟩)) _ (.int .i64 0) false (fun w' => w6 = w') B6.out.two (takeB_none b q 2 _ B6.out.one)).mono ?_; rintro e w' ⟨rfl, rfl⟩)
  go_upto_region 10 with (go_at_call 8; refine (newN_any _).mono ?_; rintro e w7 ⟨p, rfl, h7, k7, l7⟩; have N7 := Lib.hid (show nOn w w7 p (.slice none 0 0) [] [] 0 from ⟨h7, B6.out.kept.then k7 (by simp), Nat.le_trans B6.out.kept.size l7, by simp [homes_none]⟩); clear h7 k7 l7)
  clear B6
  have I64 : Hid (i64P 20 ∧ i64P 0 ∧ i64P 1) := Lib.hid (by unfold i64P; omega)
  have hb1 := run_build2 9 20
  have hi1 := plP_item 9 20 0 0
  obtain ⟨X1, hX1⟩ : ∃ X, pkL (plP 9 20 0 0) nilV nilV nilV nilV nilV = X := ⟨_, rfl⟩
  rw [hX1] at hb1 hi1
  have hb2 := run_build3 9 20 1
  have hi2 := plP_item 9 20 1 0
  obtain ⟨X2, hX2⟩ : ∃ X, pkL (plP 9 20 1 0) nilV nilV nilV nilV nilV = X := ⟨_, rfl⟩
  rw [hX2] at hb2 hi2
  have P4 := Lib.hid (put_on N7.out HFL.out 9 20 0 0 X1 hi1 (by decide) (by decide) I64.out.1 I64.out.2.1 ask9_ok.1)
  have HB := Lib.hid (And.intro hb1 hb2)
  have HI2 := Lib.hid hi2
  clear hb1 hb2 hi1 hi2 hX1 hX2
  go_upto_region 12 with (first
    | (refine wpList_build_g _ 40 #[(0, .const (.int .i64 9)), (1, .const (.int .i64 20))] rfl (.agg X1.toArray) #[(0, .int .i64 9), (1, .int .i64 20)] (by simp [Act.eval]) (HB.out.1 _) rfl ?_)
    | (refine wpList_build_g _ 40 #[(0, .const (.int .i64 9)), (1, .const (.int .i64 20)), (2, .const (.int .i64 1))] rfl (.agg X2.toArray) #[(0, .int .i64 9), (1, .int .i64 20), (2, .int .i64 1)] (by simp [Act.eval]) (HB.out.2 _) rfl ?_)
    | (go_at_call 25; (with_reducible refine P4.out.mono ?_); rintro e w8 ⟨v8, Y1, F8, rfl, n8, _⟩; have P5 := Lib.hid (put_on n8 HFL.out 9 20 1 0 X2 HI2.out (by simp) (by omega) I64.out.1 I64.out.2.2 ask9_ok.2); clear n8)
    | (go_at_call 25; (with_reducible refine P5.out.mono ?_); rintro e w9 ⟨v9, Y2, F9, rfl, n9, _⟩; have P6 := Lib.hid (show Calls Tryd.prog 29 #[.pointer (some ⟨p, 0, none⟩), .int .i64 0] w9 _ from twice_on n9 0 (plP 9 20 0 0, Y1) rfl (plP_fits 9 20 0 0) (by simp) (by omega)); clear n9)
    | (go_at_call 29; (with_reducible refine P6.out.mono ?_); rintro e w10 ⟨v10, Y3, F10, rfl, n10, _⟩; have N10 := Lib.hid (show nOn w w10 p v10 [(plP 9 20 0 0, Y1), (plP 9 20 1 0, Y2), (plP 9 20 0 0, Y3)] F10 3 from n10); clear n10))
  clear P4 P5 P6
  have P7 := Lib.hid (show Calls Tryd.prog 27 #[.pointer (some ⟨p, 0, none⟩), .int .i64 1] w10 (lessPost w p v10 _ F10 3 1 (.tuple #[.agg Y2.toArray, .int .i64 0]) w10) from take_on N10.out 1 (plP 9 20 1 0, Y2) rfl (by simp))
  have hit : itemV w10 F10 (plP 9 20 1 0, Y2) := N10.out.net.its _ (by simp)
  have hl2 : Y2.length = 87 := hit.len
  have ho2 : ∀ u ∈ Y2, u.oneCell' = true := hit.one
  have hc2 : Y2[2]? = some (.int .i64 1) := by
    obtain ⟨ev, av, cv, vv, bw, e1, e2⟩ := hit
    dsimp only at e1
    rw [e1]; rfl
  obtain ⟨Z, hZl, hZ, hZb, hZi⟩ := zeroP
  have HZ := Lib.hid (And.intro hZ hZl)
  have HY := Lib.hid (And.intro hl2 (And.intro ho2 hc2))
  clear hit hl2 ho2 hc2 hZl hZ hZb hZi
  go_upto_region 13 with (first
    | (go_at_call 27; (with_reducible refine P7.out.mono ?_); rintro e w11 ⟨v11, rfl, n11, _⟩; have N11 := Lib.hid (show nOn w w11 p v11 [(plP 9 20 0 0, Y1), (plP 9 20 0 0, Y3)] F10 3 from n11); clear n11)
    | (with_reducible refine wpList_alloc_to _ _ rfl 40 rfl _ HZ.out.1 rfl ?_)
    | (refine wpList_store_mid rfl 40 (.tmp 13) (.tmp 93) rfl w11.heap.size 0 Y2.toArray rfl rfl (there_newP (by rw [HY.out.1]; exact HZ.out.2.symm)) (by rw [List.size_toArray, HY.out.1]; exact info_pk) (all_oneCell_toArray HY.out.2.1) ?_))
  have hst := storedP (w := w11) (t := 40) (Z := Z) (X := Y2) (by rw [HY.out.1]; exact HZ.out.2.symm)
  obtain ⟨w12, hw12⟩ : ∃ w12, (w11.alloc (.cells Z.toArray 40)).setCells w11.heap.size 0 Y2 = w12 := ⟨_, rfl⟩
  rw [hw12] at hst ⊢
  have x2 : w12.cell? ⟨w11.heap.size, 2, none⟩ = some (.int .i64 1) := by rw [hst.1.cell]; simpa using HY.out.2.2
  have n12 := N11.out.over hst.2
  have P8 := Lib.hid (show Calls Tryd.prog 11 #[.pointer (some ⟨p, 0, none⟩)] w12 (fun e w' => e = .returned (.int .i64 2) ∧ w12 = w') from lenN_any _ _ _ _ _ _ n12.net)
  have P9 := Lib.hid (show Calls Tryd.prog 12 #[.pointer (some ⟨p, 0, none⟩)] w12 (fun e w' => e = .returned (.int .i64 3) ∧ w12 = w') from countN_any _ _ _ _ _ _ n12.net)
  have P10 := Lib.hid (show Calls Tryd.prog 15 #[.pointer (some ⟨p, 0, none⟩), .int .i64 0] w12 (fun e w' => ∃ u, e = .returned u ∧ owns w' 3 1 u ([0, 1] : List Int).length (([0, 1] : List Int).map (Value.int .i64)) ∧ (∀ x ∈ homes u, w12.heap.size ≤ x) ∧ keepBut [] w12 w') from toN_any _ _ _ _ _ 0 _ n12.net (by simp))
  have HK := Lib.hid n12.kept
  clear P7 n12 hst hw12 N10
  go_wp2_with (first
    | (go_at_call 11; (with_reducible refine P8.out.mono ?_); rintro e w' ⟨rfl, rfl⟩)
    | (go_at_call 12; (with_reducible refine P9.out.mono ?_); rintro e w' ⟨rfl, rfl⟩)
    | (go_at_call 15; (with_reducible refine P10.out.mono ?_); rintro e w13 ⟨u, rfl, o13, h13, k13⟩; obtain ⟨Au, cu, rfl, _⟩ := id o13.form; have O13 := Lib.hid (And.intro o13 k13); clear o13 h13)
    | (go_at_call 14; refine (eqInts_any _ _ _ _ [0, 1] [0, 1] _ ((O13.out.1.alloc (.cells #[.int .i64 0, .int .i64 1] 3)).held (by simp)) (row_held w13 [0, 1] (by simp))).mono ?_; rintro e w15 ⟨rfl, k15⟩; have K15 := Lib.hid k15; clear k15))
  go_ret
  exact ⟨rfl, (HK.out.then (O13.out.2.alloc _) (by simp)).then K15.out (by simp)⟩
end Go.Proofs.YtcnlnkkdcofphaaDoor
