/-
  PKH: Pk26, Pk27, joined.
-/
import Derived.Test.YthfdkonhjpdflaaGreatDoorPk25
import Derived.Test.YthfdkonhjpdflaaGreatDoorRWide
section
namespace Go.Proofs.YthfdkonhjpdflaaGreatDoor
open Go.RowKit
set_option linter.unusedVariables false
set_option maxRecDepth 100000
set_option linter.unusedSimpArgs false

def nmOf (l : List UInt8) : List UInt8 := l ++ List.replicate (32 - l.length) 0
theorem nmOf_len {l : List UInt8} (h : l.length ≤ 32) : (nmOf l).length = 32 := by unfold nmOf; simp; omega
theorem nmOf_all {l : List UInt8} (h : l.length = 32) : nmOf l = l := by unfold nmOf; rw [h]; simp
theorem splice_name (l : List UInt8) (h : l.length ≤ 32) : splice (nameL (List.replicate 32 0)) 0 (l.map bv) = nameL (nmOf l) := by
  unfold splice nameL nmOf
  rw [List.map_replicate, List.map_append, List.map_replicate, List.drop_replicate, List.length_map]
  simp
theorem raw32_len (r : RS) : (r.raw 32).1.length ≤ 32 := by
  unfold RS.raw
  rw [if_neg (by omega)]
  unfold RS.take
  split
  · show (r.l.take 32).length ≤ 32
    rw [List.length_take]; omega
  · simp
theorem isR.gl {w : World} {p g : Nat} {r : RS} (h : isR w p g r) (hne : r.l ≠ []) : g < w.heap.size := by
  obtain ⟨A, c, _, _, _, h4, _⟩ := h
  obtain ⟨o, _, h6, _⟩ := h4 hne
  exact h6
theorem past_left {r : RS} {n : Nat} (h : (r.past n).l ≠ []) : r.l ≠ [] := by
  intro e
  unfold RS.past at h
  split at h
  · split at h
    · rw [e] at h; simp at h
    · exact h rfl
  · exact h e
theorem fail_left {r : RS} {x : Int} (h : (r.fail x).l ≠ []) : r.l ≠ [] := by
  intro e
  unfold RS.fail at h
  split at h
  · exact h rfl
  · exact h e
theorem raw_left {r : RS} {n : Int} (h : (r.raw n).2.l ≠ []) : r.l ≠ [] := by
  unfold RS.raw at h
  split at h
  · exact fail_left h
  · exact past_left h
theorem num_left {r : RS} {n : Int} (h : (r.num n).2.l ≠ []) : r.l ≠ [] := by
  unfold RS.num at h
  split at h
  · split at h
    · split at h
      · exact past_left (fail_left h)
      · exact past_left h
    · exact past_left h
  · exact fail_left h
theorem count_left {r : RS} {n : Int} (h : (r.count n).2.l ≠ []) : r.l ≠ [] := by
  intro e
  unfold RS.count at h
  split at h
  · rw [e, cnt_nil] at h; exact h rfl
  · exact h e
theorem text_left {r : RS} {n : Int} (h : (r.text n).2.l ≠ []) : r.l ≠ [] := count_left (raw_left h)
theorem zv_nm : (Tryz.prog.info? 23).bind (·.zero) = some (.agg (nameL (List.replicate 32 0)).toArray) := by kernel_rfl
theorem nameL_one (n : List UInt8) : ∀ v ∈ nameL n, v.oneCell' = true := by intro v hv; unfold nameL at hv; simp at hv; obtain ⟨b, _, rfl⟩ := hv; rfl
theorem infoSizeB : (Tryz.prog.info? 5).map (·.size) = some 1 := by kernel_rfl
set_option maxHeartbeats 4000000 in
theorem readName_any (p g : Nat) (r : RS) (w : World) (hr : isR w p g r) (hb : r.l.length ≤ 140737488355328) :
    Calls Tryz.prog 103 #[.pointer (some ⟨p, 0, none⟩)] w fun e w' => e = .returned (.agg (nameL (nmOf (r.raw 32).1)).toArray) ∧ isR w' p g (r.raw 32).2 ∧ keepBut [p] w w' := by
  obtain ⟨Z, hZ⟩ : ∃ Z, nameL (List.replicate 32 0) = Z := ⟨_, rfl⟩
  have zl : Z.length = 32 := by rw [← hZ, nameL_len, List.length_replicate]
  have zv := zv_nm
  have hsp := splice_name (r.raw 32).1 (raw32_len r)
  rw [hZ] at zv hsp
  obtain ⟨wA, hwA⟩ : ∃ wA, w.alloc (.cells Z.toArray 23) = wA := ⟨_, rfl⟩
  obtain ⟨wB, hwB⟩ : ∃ wB, wA.alloc (.cells Z.toArray 23) = wB := ⟨_, rfl⟩
  have rA := rowAt.new w 23 Z.toArray
  have rB := rowAt.new wA 23 Z.toArray
  have kA := (keepBut.refl [] w).alloc (.cells Z.toArray 23)
  have kB := (keepBut.refl [] wA).alloc (.cells Z.toArray 23)
  rw [hwA] at rA kA
  rw [hwB] at rB kB
  have rA3 := kB.row rA (by simp)
  have kk := kA.then kB (by simp)
  have hlA : w.heap.size < wA.heap.size := rA.lt
  have hpl := hr.lt
  have HW := Lib.hid (And.intro hwA (And.intro hwB zv))
  have HR := Lib.hid (And.intro rA3 (And.intro rB (And.intro kk (And.intro (hr.keep kk (by simp) (by simp)) (And.intro hlA (And.intro zl hsp))))))
  have HL := Lib.hid (And.intro hb (And.intro (raw32_len r) (fun hne : r.l ≠ [] => hr.gl hne)))
  clear hwA hwB zv rA rB kA kB rA3 kk hr hlA zl hsp hb hZ
  have hpA : wA.heap.size ≠ p := by have := HR.out.2.2.2.2.1; omega
  have hpw : w.heap.size ≠ p := by omega
  go_enter Tryz.func103, Tryz.ntmps103
  go_upto_region 2 with (first
    | (with_reducible refine wpList_alloc_to _ _ rfl 23 rfl _ HW.out.2.2 HW.out.1 ?_)
    | (with_reducible refine wpList_alloc_to _ _ rfl 23 rfl _ HW.out.2.2 HW.out.2.1 ?_))
  go_region_law (first
    | (go_simp; go_at_call 150; refine (raw_any p g r 32 _ (HR.out.2.2.2.1.keep ((keepBut.refl [] wB).drew) (by simp) (by simp)) HL.out.1).mono ?_; intro e w4 hq; obtain ⟨v, rfl, ⟨ho, hh⟩, hr4, hk4⟩ := hq; obtain ⟨A4, c4, rfl, _, _, _, hrd4⟩ := ho.form; have H4 := Lib.hid (And.intro hr4 (And.intro (((keepBut.refl [p] wB).drew).then hk4 (by simp)) (And.intro (homes_one (.slice A4 (r.raw 32).1.length c4)) (And.intro hrd4 hh)))); clear hr4 hk4 hrd4 ho hh)
    | (obtain ⟨g4, hg4⟩ := H4.out.2.2.1; refine step_copy rfl (.tmp 4) (.tmp 6) 24 24 rfl 5 Tryz.underlying24 infoSizeB wA.heap.size 0 32 32 A4 g4 c4 (r.raw 32).1 rfl rfl _ 23 (H4.out.2.1.row HR.out.2.1 (by simp [hpA])) (reads.seenB (H4.out.2.2.2.1 g4 hg4)) HL.out.2.1 (by simp only [List.size_toArray]; have := HR.out.2.2.2.2.2.1; have := HL.out.2.1; omega) ?_; intro w5 r5 k5; have H5 := Lib.hid (And.intro r5 k5); clear r5 k5))
  have hs : (splice Z 0 ((r.raw 32).1.map bv)) = nameL (nmOf (r.raw 32).1) := HR.out.2.2.2.2.2.2
  have r5 := H5.out.1
  rw [show (Z.toArray).toList = Z from rfl, hs] at r5
  have hnl : (nameL (nmOf (r.raw 32).1)).length = 32 := by rw [nameL_len, nmOf_len HL.out.2.1]
  have rw5 := H5.out.2.row (H4.out.2.1.row HR.out.1 (by simp [hpw])) (by simp; have := HR.out.2.2.2.2.1; omega)
  have hgl : (r.raw 32).2.l ≠ [] → g < w.heap.size := fun hne => HL.out.2.2 (raw_left hne)
  have hr5 := H4.out.1.keep H5.out.2 (by simp; exact fun e => hpA e.symm) (fun hne => by have := hgl hne; have := HR.out.2.2.2.2.1; simp; omega)
  have k05 : keepBut [p] w w5 := ((HR.out.2.2.1.more (by simp)).then H4.out.2.1 (by simp)).then H5.out.2 (fun x hx => .inr (by simp at hx; have := HR.out.2.2.2.2.1; omega))
  have rs := rw5.setL (vs := nameL (nmOf (r.raw 32).1)) (o := 0)
  rw [putL_all (by rw [hnl, List.size_toArray]; exact HR.out.2.2.2.2.2.1.symm)] at rs
  have ks := (keepBut.refl [w.heap.size] w5).setL (vs := nameL (nmOf (r.raw 32).1)) (g := w.heap.size) (o := 0) (by simp)
  have kf := k05.setL (vs := nameL (nmOf (r.raw 32).1)) (g := w.heap.size) (o := 0) (.inr (Nat.le_refl _))
  have hr6 := hr5.keep ks (by simp; exact fun e => hpw e.symm) (fun hne => by have := hgl hne; simp; omega)
  have ht := rw5.there (o := 0) (n := (nameL (nmOf (r.raw 32).1)).toArray.size) (by simp only [List.size_toArray]; have := HR.out.2.2.2.2.2.1; omega)
  have hI : (Tryz.prog.info? 23).map (·.size) = some (nameL (nmOf (r.raw 32).1)).length := by rw [hnl]; exact infoName
  have hJ : (Tryz.prog.info? 23).map (·.size) = some (nameL (nmOf (r.raw 32).1)).toArray.size := by rw [List.size_toArray]; exact hI
  have HS := Lib.hid (And.intro r5.rangeAll (And.intro rs (And.intro ht (And.intro hI (And.intro hJ (And.intro hr6 kf))))))
  have HO := Lib.hid (all_oneCell_toArray (nameL_one (nmOf (r.raw 32).1)))
  clear r5 rw5 rs ks kf hr6 ht hI hJ hr5 k05 hgl hnl hs hg4
  go_wp2_with (first
    | (refine wpList_load_mid rfl 23 (.tmp 3) rfl wA.heap.size 0 rfl _ _ HS.out.1 Tryz.underlying23 rfl HS.out.2.2.2.1 ?_)
    | (refine wpList_store_mid rfl 23 (.tmp 2) (.tmp 8) rfl w.heap.size 0 (nameL (nmOf (r.raw 32).1)).toArray rfl rfl HS.out.2.2.1 HS.out.2.2.2.2.1 HO.out ?_))
  refine bodyPost_ret (results_cell_row rfl _ _ w.heap.size 23 _ (0, 0) _ rfl HS.out.2.1 Tryz.underlying23 rfl HS.out.2.2.2.2.1) rfl ?_
  exact ⟨rfl, HS.out.2.2.2.2.2.1, HS.out.2.2.2.2.2.2⟩
end Go.Proofs.YthfdkonhjpdflaaGreatDoor
end

section
namespace Go.Proofs.YthfdkonhjpdflaaGreatDoor
open Go.RowKit
set_option linter.unusedVariables false
set_option maxRecDepth 100000
set_option linter.unusedSimpArgs false

theorem past_short (r : RS) (n : Nat) : (r.past n).l.length ≤ r.l.length := by
  unfold RS.past
  split
  · split
    · simp
    · simp
  · exact Nat.le_refl _
theorem fail_short (r : RS) (x : Int) : (r.fail x).l.length ≤ r.l.length := by
  unfold RS.fail
  split
  · simp
  · exact Nat.le_refl _
theorem num_short (r : RS) (n : Int) : (r.num n).2.l.length ≤ r.l.length := by
  unfold RS.num
  split
  · split
    · split
      · exact Nat.le_trans (fail_short _ _) (past_short r _)
      · exact past_short r _
    · exact past_short r _
  · exact fail_short r _
theorem raw_short (r : RS) (n : Int) : (r.raw n).2.l.length ≤ r.l.length := by
  unfold RS.raw
  split
  · exact fail_short r _
  · exact past_short r _
theorem text_short (r : RS) (n : Int) : (r.text n).2.l.length ≤ r.l.length := Nat.le_trans (raw_short _ _) (RS.count_short r n)
theorem putL_mid : ∀ (a b b' c : List Value), b.length = b'.length → putL (a ++ (b ++ c)).toArray a.length b' = (a ++ (b' ++ c)).toArray := fun a b b' c h => by
  refine Array.ext_getElem? (fun i => ?_)
  rw [putL_get _ _ _ _ (by simp; omega)]
  simp only [List.getElem?_toArray]
  by_cases h1 : i < a.length
  · rw [if_neg (by omega), List.getElem?_append_left h1, List.getElem?_append_left h1]
  · by_cases h2 : i - a.length < b'.length
    · rw [if_pos (by omega), List.getElem?_append_right (by omega), List.getElem?_append_left h2]
    · rw [if_neg (by omega), List.getElem?_append_right (by omega), List.getElem?_append_right (by omega), List.getElem?_append_right (by omega), List.getElem?_append_right (by omega), h]
/-- a reader between two marks, and a row that it is read into; the result's row -/
structure prT (w0 w : World) (p g tb : Nat) (r : RS) (T : TypeId) (L Z : List Value) : Prop where
  rd : isR w p g r
  lo : w0.heap.size < p
  hi : p < tb
  gl : r.l ≠ [] → w0.heap.size < g ∧ g < tb
  len : r.l.length ≤ 1000000
  row : rowAt w tb T L.toArray
  res : rowAt w w0.heap.size T Z.toArray
  kp : keepBut [] w0 w
theorem prT.read {w0 w w' : World} {p g tb : Nat} {r r' : RS} {T : TypeId} {L Z : List Value} (h : prT w0 w p g tb r T L Z) (hr : isR w' p g r') (hk : keepBut [p] w w') (hl : r'.l ≠ [] → r.l ≠ []) (hs : r'.l.length ≤ r.l.length) : prT w0 w' p g tb r' T L Z :=
  ⟨hr, h.lo, h.hi, fun hne => h.gl (hl hne), Nat.le_trans hs h.len, hk.row h.row (by have := h.hi; simp; omega), hk.row h.res (by have := h.lo; simp; omega), h.kp.then hk (fun x hx => .inr (by simp at hx; have := h.lo; omega))⟩
theorem prT.keep {w0 w w' : World} {p g tb : Nat} {r : RS} {T : TypeId} {L L' Z : List Value} (h : prT w0 w p g tb r T L Z) (hk : keepBut [tb] w w') (hrow : rowAt w' tb T L'.toArray) : prT w0 w' p g tb r T L' Z :=
  ⟨h.rd.keep hk (by have := h.hi; simp; omega) (fun hne => by have := h.gl hne; simp; omega), h.lo, h.hi, h.gl, h.len, hrow, hk.row h.res (by have := h.lo; have := h.hi; simp; omega), h.kp.then hk (fun x hx => .inr (by simp at hx; have := h.lo; have := h.hi; omega))⟩
theorem prT.set {w0 w : World} {p g tb : Nat} {r : RS} {T : TypeId} {L L' Z : List Value} (h : prT w0 w p g tb r T L Z) (k : Nat) (u : Value) (he : L.toArray.setIfInBounds k u = L'.toArray) : prT w0 (w.setCell ⟨tb, k, none⟩ u) p g tb r T L' Z :=
  h.keep ((keepBut.refl [tb] w).setCell ⟨tb, k, none⟩ u (.inl (by simp))) (by rw [← he]; exact h.row.set k u)
theorem prT.setL {w0 w : World} {p g tb : Nat} {r : RS} {T : TypeId} {L L' Z : List Value} (h : prT w0 w p g tb r T L Z) (k : Nat) (us : List Value) (he : putL L.toArray k us = L'.toArray) : prT w0 (w.setCells tb k us) p g tb r T L' Z :=
  h.keep ((keepBut.refl [tb] w).setL (.inl (by simp))) (by rw [← he]; exact h.row.setL)
theorem prT.over {w0 w w' : World} {p g tb : Nat} {r : RS} {T : TypeId} {L Z : List Value} (h : prT w0 w p g tb r T L Z) (hk : keepBut [] w w') : prT w0 w' p g tb r T L Z :=
  h.keep (hk.more (by simp)) (hk.row h.row (by simp))
/-- a slice of its own that holds bytes, by its values -/
theorem freshB.gives {w w' : World} {v : Value} {l : List UInt8} (h : freshB w w' v l) : ∃ A c G, v = .slice A l.length c ∧ bytesV w' G v l ∧ newIn w w' G := by
  obtain ⟨h1, h2⟩ := h
  obtain ⟨A3, c3, e3, h31, h32, h33, h34⟩ := h1.form
  subst e3
  obtain ⟨g3, hg3⟩ := homes_one (.slice A3 l.length c3)
  refine ⟨A3, c3, homes (.slice A3 l.length c3), rfl, ⟨A3, c3, g3, rfl, h31, h32, reads.seenB (h34 g3 hg3), fun hne => ?_⟩, fun y hy => ⟨h2 y hy, h33 y hy⟩⟩
  obtain ⟨o, hA, _⟩ := (h34 g3 hg3).2 (List.length_pos_iff.2 hne)
  rw [hA]; simp [homes_some]
set_option maxHeartbeats 2000000 in
theorem numRead_any (F : List Nat) (b : List UInt8) (v : Value) (w : World) (h : bytesV w F v b) (hb : b.length ≤ 1000000) :
    Calls Tryz.prog 93 #[v] w fun e w' => ∃ p g, e = .returned (.pointer (some ⟨p, 0, none⟩)) ∧ isR w' p g ⟨b, 0⟩ ∧ w.heap.size ≤ p ∧ (b ≠ [] → w.heap.size ≤ g) ∧ keepBut [] w w' := by
  obtain ⟨A, c, g, rfl, h2, h3, h4, h5⟩ := h
  obtain ⟨i0, hi0, hz0, hz1, hz2⟩ := info_parts infoU8c
  have H := Lib.hid (And.intro (seen.reads h4) (owns.nil w 5 1))
  clear h4 h5 h3
  go_enter Tryz.func93, Tryz.ntmps93
  go_wp2_with (at_builtin; refine wp_append _ rfl _ _ 24 rfl 5 i0 (.int .u8 0) 1 1 Tryz.underlying24 hi0 hz0 hz1 hz2 rfl (by decide) (.slice none 0 0) 0 [] rfl H.out.2 A g b.length c _ (by simp [Act.eval]) H.out.1 (by intro u hu; simp at hu; obtain ⟨b, _, rfl⟩ := hu; rfl) (by omega) (by unfold maxLen; omega) ?_; intro A2 c2 w2 hown2 hkb2 hloc2)
  go_ret
  simp only [Nat.zero_add, List.nil_append] at hown2 hloc2 ⊢
  obtain ⟨A3, c3, e3, h31, h32, h33, h34⟩ := hown2.form
  injection e3 with e3a e3b e3c
  subst e3a e3c
  obtain ⟨g3, hg3⟩ := homes_one (.slice A2 b.length c2)
  have hk3 := (keepBut.refl [] w2).alloc (.cells #[.slice A2 b.length c2, .int .i64 0] 139)
  have hin : b ≠ [] → g3 ∈ homes (.slice A2 b.length c2) := fun hne => by
    obtain ⟨o, hA, _⟩ := (h34 g3 hg3).2 (List.length_pos_iff.2 hne)
    rw [hA]; simp [homes_some]
  have hks := hkb2.size
  refine ⟨w2.heap.size, g3, rfl, ⟨A2, c2, rowAt.new _ _ _, h31, h32, (reads.seenB (h34 g3 hg3)).keep hk3 (by simp), fun hne => by have := h33 g3 (hin hne); show g3 ≠ w2.heap.size; omega⟩, hks, fun hne => ?_, (hkb2.more (by simp [homes_none])).then hk3 (by simp)⟩
  rcases hloc2 g3 (hin hne) with h | h
  · simp [homes_none] at h
  · exact h
end Go.Proofs.YthfdkonhjpdflaaGreatDoor
end
