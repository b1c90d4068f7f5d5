/-
  NET, 8: Take, of a place that is not the first.
-/
import Derived.Test.YtcnlnkkdcofphaaDoorNet7
namespace Go.Proofs.YtcnlnkkdcofphaaDoor
open Go.RowKit
set_option linter.unusedVariables false
set_option maxRecDepth 100000
set_option linter.unusedSimpArgs false

set_option maxHeartbeats 4000000 in
theorem takeN_rest (p : Nat) (v : Value) (T : List (PK × List Value)) (F : List Nat) (c : Nat) (i : Nat) (hi0' : 0 < i) (t : PK × List Value) (w : World) (h : isN w p v T F c) (ht : T[i]? = some t) (hk : T.length ≤ 100000) :
    Calls Tryd.prog 27 #[.pointer (some ⟨p, 0, none⟩), .int .i64 i] w (takePost p v T F c i t.2 w) := by
  have hi : i < T.length := (List.getElem?_eq_some_iff.1 ht).1
  obtain ⟨m, hm⟩ : ∃ m, T.length = m + 1 := ⟨T.length - 1, by omega⟩
  obtain ⟨Z, hZl, hZ, hZb, hZi⟩ := zeroP
  have HZ := Lib.hid (And.intro hZ (And.intro hZl (And.intro hZb (fun w => (hZi w).one))))
  have k1 := (keepBut.refl [] w).alloc (.cells Z.toArray 40)
  have r1 := rowAt.new w 40 Z.toArray
  have hs1 : (w.alloc (.cells Z.toArray 40)).heap.size = w.heap.size + 1 := World.size_alloc _ _
  obtain ⟨w1, hw1⟩ : ∃ w1, w.alloc (.cells Z.toArray 40) = w1 := ⟨_, rfl⟩
  rw [hw1] at k1 r1 hs1
  have h1 := h.over k1
  have htl : t.2.length = 87 := h.lens t (List.mem_of_getElem? ht)
  have hto : ∀ u ∈ t.2, u.oneCell' = true := (h.its t (List.mem_of_getElem? ht)).one
  have hst := storedP (w := w1) (t := 40) (Z := Z) (X := t.2) (by rw [htl]; exact hZl.symm)
  obtain ⟨w2, hw2⟩ : ∃ w2, w1.alloc (.cells Z.toArray 40) = w2 := ⟨_, rfl⟩
  have hth := there_newP (w := w1) (t := 40) (Z := Z) (X := t.2) (by rw [htl]; exact hZl.symm)
  rw [hw2] at hst hth
  obtain ⟨w3, hw3⟩ : ∃ w3, w2.setCells w1.heap.size 0 t.2 = w3 := ⟨_, rfl⟩
  rw [hw3] at hst
  have h3 := h1.over hst.2
  obtain ⟨A, k, rfl, hk1, hk2⟩ := h.form
  obtain ⟨g, off, rfl, hg, hh, hr⟩ := h1.item ht
  rw [hm] at hk1 hh h1 h3 h hi hk ⊢
  have x1 : w1.cell? ⟨p, 1, none⟩ = some (.slice (some ⟨g, off, none⟩) (m + 1) k) := h1.row.cell 1
  have x3 : w3.cell? ⟨p, 1, none⟩ = some (.slice (some ⟨g, off, none⟩) (m + 1) k) := h3.row.cell 1
  have HI := Lib.hid (show (Tryd.prog.info? 40).map (·.size) = some t.2.length by rw [htl]; exact info_pk)
  have HR := Lib.hid hr
  have HN1 := Lib.hid h1
  have HN3 := Lib.hid h3
  have HW1 := Lib.hid hw1
  have HW2 := Lib.hid hw2
  have R1 := Lib.hid (hst.2.row r1 (by simp))
  have R2 := Lib.hid hst.1
  have HTH := Lib.hid hth
  have K3 := Lib.hid (k1.then hst.2 (by simp))
  have HT := Lib.hid (And.intro htl (And.intro hto (And.intro hm (And.intro ht (And.intro hh (And.intro hs1 (And.intro h.row.lt (And.intro h.own.lt h.far))))))))
  have hi0 : (0 : Int) ≤ (i : Int) := by omega
  have hi1 : (i : Int) < ((m + 1 : Nat) : Int) := by omega
  have hle : (T.eraseIdx i).length = m := by rw [List.length_eraseIdx, if_pos (by omega), hm]; rfl
  have own3 := h3.own
  rw [hm] at own3
  have HD := Lib.hid (delN_any g off k i m T w3 own3 h3.lens h3.ones hm (by omega) (by omega))
  have hgl : g < w.heap.size := h.own.lt g (by rw [hh]; simp)
  have hpl : p < w.heap.size := h.row.lt
  have hrr1 := hst.2.row r1 (by simp)
  have hrr2 := hst.1
  have hgp : p ≠ g := fun e => h3.apart (by rw [hh]; simp [e])
  have HS := Lib.hid (fun (w4 : World) (k4 : keepBut [g] w3 w4) => (⟨fun v' => (have kx := (k4.more (S := [g]) (T := [g, p]) (by simp)).setCell ⟨p, 1, none⟩ v' (.inl (by simp)); ⟨kx.row hrr2 (by simp; omega), kx.row hrr1 (by simp; omega)⟩), (k4.row h3.row (by simpa using hgp)).cell 1, (k4.row h3.row (by simpa using hgp)).free 1⟩ : (∀ v' : Value, rowAt (w4.setCell ⟨p, 1, none⟩ v') w1.heap.size 40 t.2.toArray ∧ rowAt (w4.setCell ⟨p, 1, none⟩ v') w.heap.size 40 Z.toArray) ∧ w4.cell? ⟨p, 1, none⟩ = some (.slice (some ⟨g, off, none⟩) (m + 1) k) ∧ w4.frozen? ⟨p, 1, none⟩ = false))
  have HW3 := Lib.hid hw3
  have HLE := Lib.hid hle
  have hwr : IntKind.i64.wrap ((i : Int) + 1) = (i : Int) + 1 := by rw [IntKind.wrap_i64]; omega
  have hne : ((i : Int) == 0) = false := by simp; omega
  have hne' : ¬ (i : Int) = 0 := by omega
  clear ht hr h1 h3 hi hg hZ hZl hZb hZi hw1 hw2 k1 r1 hst hth htl hto hs1 hm h hh hw3 hgl hpl hrr1 hrr2 hgp hle own3 hk hk1 hk2
  go_enter Tryd.func27, Tryd.ntmps27
  go_upto_region 4 with (first
    | (with_reducible refine wpList_alloc_to _ _ rfl 40 rfl _ HZ.out.1 HW1.out ?_)
    | (go_at_call 37; refine (findN_yes _ _ _ _ _ _ _ HN1.out ⟨hi0, by rw [HT.out.2.2.1]; exact hi1⟩).mono ?_; rintro e w' ⟨rfl, rfl⟩))
  go_upto_region 5 with (first
    | (refine wpList_load_mid_g 40 (.tmp 20) rfl g (off + i * 87) rfl t.2 _ HR.out Tryd.underlying40 rfl HI.out rfl ?_)
    | (with_reducible refine wpList_alloc_to _ _ rfl 40 rfl _ HZ.out.1 HW2.out ?_)
    | (refine wpList_store_mid rfl 40 (.tmp 7) (.tmp 21) rfl w1.heap.size 0 t.2.toArray rfl rfl HTH.out (by rw [List.size_toArray, HT.out.1]; exact info_pk) (all_oneCell_toArray HT.out.2.1) ?_))
  rw [HW3.out]
  go_wp2_with (first
    | (go_at_call 46; refine HD.out.mono ?_; rintro e w4 ⟨rfl, o4, k4⟩; have y4 := (HS.out _ k4).2.1; have f4 := (HS.out _ k4).2.2; have HS5 := Lib.hid (HS.out _ k4).1; have Q4 := Lib.hid (And.intro o4 k4); clear o4 k4)
    | (refine wpList_load_mid_g 40 (.tmp 7) rfl w1.heap.size 0 rfl t.2 _ (HS5.out _).1.rangeAll Tryd.underlying40 rfl HI.out rfl ?_)
    | (refine wpList_store_mid rfl 40 (.tmp 4) (.tmp 49) rfl w.heap.size 0 t.2.toArray rfl rfl ((HS5.out _).2.there (by have := HT.out.1; have := HZ.out.2.1; simp only [List.size_toArray]; omega)) (by rw [List.size_toArray, HT.out.1]; exact info_pk) (all_oneCell_toArray HT.out.2.1) ?_))
  have r6 := (HS5.out (.slice (some ⟨g, off, none⟩) m k)).2.setL (vs := t.2) (o := 0)
  rw [putL_all (by rw [List.size_toArray, HT.out.1]; exact HZ.out.2.1.symm)] at r6
  refine bodyPost_ret (results_row_tmp rfl _ _ w.heap.size 40 _ (0, 0) _ rfl r6 Tryd.underlying40 rfl (by rw [List.size_toArray, HT.out.1]; exact info_pk)) rfl ?_
  exact takeEnd HN3.out K3.out (Nat.le_refl _) (by rw [HT.out.2.2.2.2.1]; exact Q4.out.2) (by rw [HLE.out]; exact Q4.out.1) (by intro x hx; rw [HT.out.2.2.2.2.1]; simpa [homes_some] using hx) rfl (by have := HT.out.2.2.2.2.2.2.1; omega) (fun hm => Nat.lt_irrefl _ (HT.out.2.2.2.2.2.2.2.1 _ hm)) (fun y hy he => by have := (HT.out.2.2.2.2.2.2.2.2 y hy).1; omega)
theorem takeN_any (p : Nat) (v : Value) (T : List (PK × List Value)) (F : List Nat) (c : Nat) (i : Nat) (t : PK × List Value) (w : World) (h : isN w p v T F c) (ht : T[i]? = some t) (hk : T.length ≤ 100000) :
    Calls Tryd.prog 27 #[.pointer (some ⟨p, 0, none⟩), .int .i64 i] w (takePost p v T F c i t.2 w) := by
  rcases Nat.eq_zero_or_pos i with rfl | hi
  · exact takeN_first p v T F c t w h ht hk
  · exact takeN_rest p v T F c i hi t w h ht hk
set_option maxHeartbeats 4000000 in
theorem dropN_any (p : Nat) (v : Value) (T : List (PK × List Value)) (F : List Nat) (c : Nat) (i : Nat) (t : PK × List Value) (w : World) (h : isN w p v T F c) (ht : T[i]? = some t) (hk : T.length ≤ 100000) :
    Calls Tryd.prog 28 #[.pointer (some ⟨p, 0, none⟩), .int .i64 i] w fun e w' => ∃ v', e = .returned (.int .i64 0) ∧ isN w' p v' (T.eraseIdx i) F c ∧ keepBut (p :: homes v) w w' ∧ ∀ x ∈ homes v', x ∈ homes v := by
  have htl : t.2.length = 87 := h.lens t (List.mem_of_getElem? ht)
  have hto : ∀ u ∈ t.2, u.oneCell' = true := (h.its t (List.mem_of_getElem? ht)).one
  obtain ⟨Z, hZl, hZ, hZb, hZi⟩ := zeroP
  have HZ := Lib.hid (And.intro hZ hZl)
  have HT := Lib.hid (And.intro htl hto)
  have HC := Lib.hid (takeN_any p v T F c i t w h ht hk)
  clear hZl hZ hZb hZi htl hto h ht hk
  go_enter Tryd.func28, Tryd.ntmps28
  go_wp2_with (first
    | (go_at_call 27; refine HC.out.mono ?_; rintro e w2 ⟨v2, rfl, q2⟩; have Q2 := Lib.hid q2; clear q2)
    | (with_reducible refine wpList_alloc_to _ _ rfl 40 rfl _ HZ.out.1 rfl ?_)
    | (refine wpList_store_mid rfl 40 (.tmp 5) (.tmp 11) rfl w2.heap.size 0 t.2.toArray rfl rfl (there_newP (by rw [HT.out.1]; exact HZ.out.2.symm)) (by rw [List.size_toArray, HT.out.1]; exact info_pk) (all_oneCell_toArray HT.out.2) ?_))
  go_ret
  have hst := storedP (w := w2) (t := 40) (Z := Z) (X := t.2) (by rw [HT.out.1]; exact HZ.out.2.symm)
  exact ⟨v2, rfl, Q2.out.1.over hst.2, Q2.out.2.1.then hst.2 (by simp), Q2.out.2.2⟩
end Go.Proofs.YtcnlnkkdcofphaaDoor
