/-
  NET, 7: Take.
-/
import Derived.Test.YtcnlnkkdcofphaaDoorNet6
namespace Go.Proofs.YtcnlnkkdcofphaaDoor
open Go.RowKit
set_option linter.unusedVariables false
set_option maxRecDepth 100000
set_option linter.unusedSimpArgs false

def takePost (p : Nat) (v : Value) (T : List (PK × List Value)) (F : List Nat) (c i : Nat) (X : List Value) (w : World) (e : Ending) (w' : World) : Prop :=
  ∃ v', e = .returned (.tuple #[.agg X.toArray, .int .i64 0]) ∧ isN w' p v' (T.eraseIdx i) F c ∧ keepBut (p :: homes v) w w' ∧ ∀ x ∈ homes v', x ∈ homes v
theorem isN.ones {w : World} {p : Nat} {v : Value} {T : List (PK × List Value)} {F : List Nat} {c : Nat} (h : isN w p v T F c) : ∀ u ∈ flatP T, u.oneCell' = true := by
  have : ∀ U : List (PK × List Value), (∀ t ∈ U, ∀ u ∈ t.2, u.oneCell' = true) → ∀ u ∈ flatP U, u.oneCell' = true := by
    intro U
    induction U with
    | nil => intro _ u hu; simp [flatP] at hu
    | cons a r ih =>
      intro ha u hu
      rcases List.mem_append.1 hu with hu | hu
      · exact ha a (by simp) u hu
      · exact ih (fun t ht => ha t (by simp [ht])) u hu
  exact this T (fun t ht => (h.its t ht).one)
/-- the end of Take: the packet's copy in the result's block -/
theorem takeEnd {w w3 w5 w6 : World} {p c i b : Nat} {v v' : Value} {T : List (PK × List Value)} {F : List Nat} {X : List Value} (h : isN w3 p v T F c) (hw : keepBut [] w w3) (hb : w.heap.size ≤ b) (k5 : keepBut (homes v) w3 w5)
    (o5 : ownsO w5 40 87 v' (T.eraseIdx i).length (flatP (T.eraseIdx i))) (hh : ∀ x ∈ homes v', x ∈ homes v)
    (h6 : w6 = (w5.setCell ⟨p, 1, none⟩ v').setCells b 0 X) (hbp : b ≠ p) (hbv : b ∉ homes v) (hbF : ∀ y ∈ F, y ≠ b) :
    takePost p v T F c i X w (.returned (.tuple #[.agg X.toArray, .int .i64 0])) w6 := by
  have hp := h.apart
  have ka : keepBut [p, b] w5 w6 := by
    rw [h6]
    exact ((keepBut.refl [p, b] w5).setCell ⟨p, 1, none⟩ v' (.inl (by simp))).setL (.inl (by simp))
  have r5 := (k5.row h.row hp).set 1 v'
  have kb : keepBut [b] (w5.setCell ⟨p, 1, none⟩ v') w6 := by
    rw [h6]
    exact (keepBut.refl [b] _).setL (.inl (by simp))
  have r6 := kb.row r5 (by simpa using fun e => hbp e.symm)
  have kk : keepBut (p :: b :: homes v) w3 w6 := (k5.more (fun x hx => by simp [hx])).then (ka.more (by simp)) (fun x hx => .inl hx)
  refine ⟨v', rfl, ⟨by simpa using r6, o5.keep ka (fun x hx hm => ?_), fun t ht => (h.its t (List.mem_of_mem_eraseIdx ht)).keep kk (fun y hy hm => ?_), fun y hy => ⟨Nat.lt_of_lt_of_le (h.far y hy).1 kk.size, (h.far y hy).2.1, fun hm => (h.far y hy).2.2 (hh y hm)⟩⟩, ?_, hh⟩
  · have hx' := hh x hx
    simp only [List.mem_cons, List.not_mem_nil, or_false] at hm
    rcases hm with rfl | rfl
    · exact hp hx'
    · exact hbv hx'
  · simp only [List.mem_cons] at hm
    rcases hm with rfl | rfl | hm
    · exact (h.far y hy).2.1 rfl
    · exact hbF y hy rfl
    · exact (h.far y hy).2.2 hm
  · exact (hw.more (by simp)).then kk (fun x hx => by
      simp only [List.mem_cons] at hx ⊢
      rcases hx with rfl | rfl | hx
      · exact .inl (.inl rfl)
      · exact .inr hb
      · exact .inl (.inr hx))
set_option maxHeartbeats 4000000 in
theorem takeN_first (p : Nat) (v : Value) (T : List (PK × List Value)) (F : List Nat) (c : Nat)  (t : PK × List Value) (w : World) (h : isN w p v T F c) (ht : T[0]? = some t) (hk : T.length ≤ 100000) :
    Calls Tryd.prog 27 #[.pointer (some ⟨p, 0, none⟩), .int .i64 0] w (takePost p v T F c 0 t.2 w) := by
  have hi : 0 < T.length := (List.getElem?_eq_some_iff.1 ht).1
  obtain ⟨m, hm⟩ : ∃ m, T.length = m + 1 := ⟨T.length - 1, by omega⟩
  obtain ⟨Z, hZl, hZ, hZb, hZi⟩ := zeroP
  have HZ := Lib.hid (And.intro hZ (And.intro hZl (And.intro hZb (fun w => (hZi w).one))))
  have k1 := (keepBut.refl [] w).alloc (.cells Z.toArray 40)
  have r1 := rowAt.new w 40 Z.toArray
  have hs1 : (w.alloc (.cells Z.toArray 40)).heap.size = w.heap.size + 1 := World.size_alloc _ _
  obtain ⟨w1, hw1⟩ : ∃ w1, w.alloc (.cells Z.toArray 40) = w1 := ⟨_, rfl⟩
  rw [hw1] at k1 r1 hs1
  have h1 := h.over k1
  have htl : t.2.length = 87 := h.lens t (List.mem_of_getElem? ht)
  have hto : ∀ u ∈ t.2, u.oneCell' = true := (h.its t (List.mem_of_getElem? ht)).one
  have hst := storedP (w := w1) (t := 40) (Z := Z) (X := t.2) (by rw [htl]; exact hZl.symm)
  obtain ⟨w2, hw2⟩ : ∃ w2, w1.alloc (.cells Z.toArray 40) = w2 := ⟨_, rfl⟩
  have hth := there_newP (w := w1) (t := 40) (Z := Z) (X := t.2) (by rw [htl]; exact hZl.symm)
  rw [hw2] at hst hth
  obtain ⟨w3, hw3⟩ : ∃ w3, w2.setCells w1.heap.size 0 t.2 = w3 := ⟨_, rfl⟩
  rw [hw3] at hst
  have h3 := h1.over hst.2
  obtain ⟨A, k, rfl, hk1, hk2⟩ := h.form
  obtain ⟨g, off, rfl, hg, hh, hr⟩ := h1.item ht
  rw [hm] at hk1 hh h1 h3 h hi hk ⊢
  have x1 : w1.cell? ⟨p, 1, none⟩ = some (.slice (some ⟨g, off, none⟩) (m + 1) k) := h1.row.cell 1
  have x3 : w3.cell? ⟨p, 1, none⟩ = some (.slice (some ⟨g, off, none⟩) (m + 1) k) := h3.row.cell 1
  have HI := Lib.hid (show (Tryd.prog.info? 40).map (·.size) = some t.2.length by rw [htl]; exact info_pk)
  have HR := Lib.hid hr
  have HN1 := Lib.hid h1
  have HN3 := Lib.hid h3
  have HW1 := Lib.hid hw1
  have HW2 := Lib.hid hw2
  have R1 := Lib.hid (hst.2.row r1 (by simp))
  have R2 := Lib.hid hst.1
  have HTH := Lib.hid hth
  have K3 := Lib.hid (k1.then hst.2 (by simp))
  have HT := Lib.hid (And.intro htl (And.intro hto (And.intro hm (And.intro ht (And.intro hh (And.intro hs1 (And.intro h.row.lt (And.intro h.own.lt h.far))))))))
  have hi0 : (0 : Int) ≤ 0 := by omega
  have hi1 : 0 < ((m + 1 : Nat) : Int) := by omega
  rcases h3.own.2 with ⟨h0, -⟩ | ⟨g', off', k', cur, e0, hrg, -, hkm, hcs, hat⟩
  · cases h0
  injection e0 with e1 e2 e3
  injection e1 with e1
  injection e1 with e4 e5
  subst e3 e4 e5
  clear e2
  have hmul : (m + 1) * 87 ≤ k * 87 := Nat.mul_le_mul_right _ hk1
  have hthg : w3.there g off Z.toArray.size := hrg.there (by simp only [List.size_toArray]; omega)
  have hr4 := hrg.setL (vs := Z) (o := off)
  have k4 := (keepBut.refl [g] w3).setL (vs := Z) (g := g) (o := off) (.inl (by simp))
  have hgp : p ≠ g := fun e => h3.apart (by rw [hh]; simp [e])
  have x4' : (w3.setCells g off Z).cell? ⟨p, 1, none⟩ = some (.slice (some ⟨g, off, none⟩) (m + 1) k) := (k4.row h3.row (by simpa using hgp)).cell 1
  have f4' : (w3.setCells g off Z).frozen? ⟨p, 1, none⟩ = false := (k4.row h3.row (by simpa using hgp)).free 1
  obtain ⟨w4, hw4⟩ : ∃ w4, w3.setCells g off Z = w4 := ⟨_, rfl⟩
  have hfl := flatP_len T (h.lens)
  have hle : (T.eraseIdx 0).length = m := by rw [List.length_eraseIdx, if_pos (by omega), hm]; rfl
  have hdr : flatP (T.eraseIdx 0) = (flatP T).drop 87 := by rw [flatP_erase T 0 h.lens (by omega)]; simp
  rw [hm] at hfl
  rw [hw4] at hr4 k4 x4' f4'
  have hown : ∀ o' k', (o' = off + 87 ∧ k' = k - 1 ∨ o' = off ∧ k' = 0 ∧ k = 1) → ownsO w4 40 87 (.slice (some ⟨g, o', none⟩) m k') (T.eraseIdx 0).length (flatP (T.eraseIdx 0)) := fun o' k' ho => by
    rw [hle, hdr]
    refine ⟨by rw [List.length_drop, hfl]; omega, .inr ⟨g, o', k', _, rfl, hr4, by omega, by omega, by rw [putL_size]; omega, fun j hj => ?_⟩⟩
    rcases ho with ⟨rfl, rfl⟩ | ⟨rfl, rfl, hk1'⟩
    · rw [putL_get _ _ _ _ (by rw [hZl]; omega), if_neg (by rw [hZl]; omega), show off + 87 + j = off + (87 + j) by omega, hat (87 + j) (by omega), List.getElem?_drop]
    · omega
  have HO := Lib.hid hown
  have hgl : g < w.heap.size := h.own.lt g (by rw [hh]; simp)
  have hpl : p < w.heap.size := h.row.lt
  have hrr1 := hst.2.row r1 (by simp)
  have hrr2 := hst.1
  have HS := Lib.hid (fun v' : Value => (have kx := (k4.more (S := [g]) (T := [g, p]) (by simp)).setCell ⟨p, 1, none⟩ v' (.inl (by simp)); ⟨kx.row hrr2 (by simp; omega), kx.row hrr1 (by simp; omega)⟩ : rowAt (w4.setCell ⟨p, 1, none⟩ v') w1.heap.size 40 t.2.toArray ∧ rowAt (w4.setCell ⟨p, 1, none⟩ v') w.heap.size 40 Z.toArray))
  have HTG := Lib.hid hthg
  have K4 := Lib.hid (And.intro k4 (And.intro hrg.lt (hst.1.lt)))
  have HW3 := Lib.hid hw3
  have HW4 := Lib.hid hw4
  clear ht hr h1 h3 hi hg hZ hZl hZb hZi hw1 hw2 k1 r1 hst hth htl hto hs1 hm h hh hrg hkm hcs hat hmul hthg hr4 k4 hgp hw4 hfl hle hdr hown hw3 hgl hpl hrr1 hrr2
  go_enter Tryd.func27, Tryd.ntmps27
  go_upto_region 4 with (first
    | (with_reducible refine wpList_alloc_to _ _ rfl 40 rfl _ HZ.out.1 HW1.out ?_)
    | (go_at_call 37; refine (findN_yes _ _ _ _ _ _ _ HN1.out ⟨hi0, by rw [HT.out.2.2.1]; exact hi1⟩).mono ?_; rintro e w' ⟨rfl, rfl⟩))
  go_upto_region 5 with (first
    | (refine wpList_load_mid_g 40 (.tmp 20) rfl g off rfl t.2 _ (by have hr := HR.out; rw [show off + 0 * 87 = off by omega] at hr; exact hr) Tryd.underlying40 rfl HI.out rfl ?_)
    | (with_reducible refine wpList_alloc_to _ _ rfl 40 rfl _ HZ.out.1 HW2.out ?_)
    | (refine wpList_store_mid rfl 40 (.tmp 7) (.tmp 21) rfl w1.heap.size 0 t.2.toArray rfl rfl HTH.out (by rw [List.size_toArray, HT.out.1]; exact info_pk) (all_oneCell_toArray HT.out.2.1) ?_))
  rw [HW3.out]
  go_upto_region 7 with (first
    | (with_reducible refine wpList_build_v _ rfl 40 rfl _ (HZ.out.2.2.1 _) ?_)
    | (refine wpList_store_mid rfl 40 (.tmp 29) (.tmp 28) rfl g off Z.toArray rfl rfl HTG.out (by rw [List.size_toArray, HZ.out.2.1]; exact info_pk) (all_oneCell_toArray (HZ.out.2.2.2 w)) ?_))
  rw [HW4.out]
  clear x1 x3
  by_cases hk1' : k = 1
  all_goals
    go_upto_region 9 with fail
    go_wp2_with (first
      | (refine wpList_load_mid_g 40 (.tmp 7) rfl w1.heap.size 0 rfl t.2 _ (HS.out _).1.rangeAll Tryd.underlying40 rfl HI.out rfl ?_)
      | (refine wpList_store_mid rfl 40 (.tmp 4) (.tmp 49) rfl w.heap.size 0 t.2.toArray rfl rfl ((HS.out _).2.there (by have := HT.out.1; have := HZ.out.2.1; simp only [List.size_toArray]; omega)) (by rw [List.size_toArray, HT.out.1]; exact info_pk) (all_oneCell_toArray HT.out.2.1) ?_))
  · have r6 := (HS.out (.slice (some ⟨g, off, none⟩) m 0)).2.setL (vs := t.2) (o := 0)
    rw [putL_all (by rw [List.size_toArray, HT.out.1]; exact HZ.out.2.1.symm)] at r6
    refine bodyPost_ret (results_row_tmp rfl _ _ w.heap.size 40 _ (0, 0) _ rfl r6 Tryd.underlying40 rfl (by rw [List.size_toArray, HT.out.1]; exact info_pk)) rfl ?_
    exact takeEnd HN3.out K3.out (Nat.le_refl _) (by rw [HT.out.2.2.2.2.1]; exact K4.out.1) (HO.out _ _ (.inr ⟨rfl, rfl, hk1'⟩)) (by intro x hx; rw [HT.out.2.2.2.2.1]; simpa [homes_some] using hx) rfl (by have := HT.out.2.2.2.2.2.2.1; omega) (fun hm => Nat.lt_irrefl _ (HT.out.2.2.2.2.2.2.2.1 _ hm)) (fun y hy he => by have := (HT.out.2.2.2.2.2.2.2.2 y hy).1; omega)
  · have r6 := (HS.out (.slice (some ⟨g, off + 87, none⟩) m (k - 1))).2.setL (vs := t.2) (o := 0)
    rw [putL_all (by rw [List.size_toArray, HT.out.1]; exact HZ.out.2.1.symm)] at r6
    refine bodyPost_ret (results_row_tmp rfl _ _ w.heap.size 40 _ (0, 0) _ rfl r6 Tryd.underlying40 rfl (by rw [List.size_toArray, HT.out.1]; exact info_pk)) rfl ?_
    exact takeEnd HN3.out K3.out (Nat.le_refl _) (by rw [HT.out.2.2.2.2.1]; exact K4.out.1) (HO.out _ _ (.inl ⟨rfl, rfl⟩)) (by intro x hx; rw [HT.out.2.2.2.2.1]; simpa [homes_some] using hx) rfl (by have := HT.out.2.2.2.2.2.2.1; omega) (fun hm => Nat.lt_irrefl _ (HT.out.2.2.2.2.2.2.2.1 _ hm)) (fun y hy he => by have := (HT.out.2.2.2.2.2.2.2.2 y hy).1; omega)
end Go.Proofs.YtcnlnkkdcofphaaDoor
