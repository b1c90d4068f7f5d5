/-
  VIEW, 10: Rows.
-/
import Derived.Test.YtjipokilidhnoaaView9
namespace Go.Proofs.Ytjipokilidhnoaa
open Go.RowKit
set_option linter.unusedVariables false
set_option maxRecDepth 100000

/-- a list of rows that was made since w0: its rows are T, their bytes lie in C -/
structure rowsOwn (w0 w : World) (v : Value) (T : List (VR × Value)) (C : List Nat) : Prop where
  own : owns w 46 4 v T.length (flatR T)
  byt : ∀ t ∈ T, heldB w C t.2 t.1.bytes
  new : ∀ y ∈ C, w0.heap.size ≤ y ∧ y < w.heap.size
  home : ∀ y ∈ homes v, w0.heap.size ≤ y ∧ y ∉ C
  kept : keepBut [] w0 w
theorem rowsOwn.nil (w : World) : rowsOwn w w (.slice none 0 0) [] [] := ⟨owns.nil _ _ _, by simp, by simp, by simp [homes_none], keepBut.refl _ _⟩
theorem rowsOwn.over {w0 w w' : World} {v : Value} {T : List (VR × Value)} {C : List Nat} (h : rowsOwn w0 w v T C) (hk : keepBut [] w w') : rowsOwn w0 w' v T C :=
  ⟨h.own.keep hk (by simp), fun t ht => (h.byt t ht).keep hk (by simp), fun y hy => ⟨(h.new y hy).1, Nat.lt_of_lt_of_le (h.new y hy).2 hk.size⟩, h.home, h.kept.then hk (by simp)⟩
/-- one more: its bytes were copied, its cells were laid, it was appended -/
theorem rowsOwn.add {w0 w w1 w2 w3 : World} {v v' bvv : Value} {T : List (VR × Value)} {C G : List Nat} {r : VR} (h : rowsOwn w0 w v T C)
    (hh : heldB w1 G bvv r.bytes) (hG : ∀ y ∈ G, w.heap.size ≤ y ∧ y < w1.heap.size) (hk : keepBut [] w w1) (hk2 : keepBut [] w1 w2)
    (ho : owns w3 46 4 v' (T.length + 1) (flatR T ++ [.int .i64 r.step, .int .i64 r.node, .int .i64 r.kind, bvv])) (hk3 : keepBut (homes v) w2 w3) (hm : ∀ x ∈ homes v', x ∈ homes v ∨ w2.heap.size ≤ x) :
    rowsOwn w0 w3 v' (T ++ [(r, bvv)]) (C ++ G) := by
  have h2 := (h.over hk).over hk2
  have hlt := h.own.ltV
  have hs0 := h.kept.size
  have hs1 := hk.size
  have hs2 := hk2.size
  have hs3 := hk3.size
  have hCv : ∀ y ∈ C, y ∉ homes v := fun y hy hx => (h.home y hx).2 hy
  have hGv : ∀ y ∈ G, y ∉ homes v := fun y hy hx => by have := hlt y hx; have := (hG y hy).1; omega
  refine ⟨by rw [flatR_add, List.length_append]; exact ho, fun t ht => ?_, fun y hy => ?_, fun y hy => ⟨?_, fun hx => ?_⟩, h2.kept.then hk3 (fun y hy => .inr (h.home y hy).1)⟩
  · rcases List.mem_append.1 ht with q | q
    · exact ((h2.byt t q).keep hk3 hCv).more (fun y hy => List.mem_append.2 (.inl hy))
    · rw [List.mem_singleton.1 q]; exact ((hh.keep hk2 (by simp)).keep hk3 hGv).more (fun y hy => List.mem_append.2 (.inr hy))
  · rcases List.mem_append.1 hy with q | q
    · have := h2.new y q; omega
    · have := hG y q; omega
  · rcases hm y hy with q | q
    · exact (h.home y q).1
    · omega
  · rcases List.mem_append.1 hx with q | q
    · rcases hm y hy with r | r
      · exact hCv y q r
      · have := h2.new y q; omega
    · rcases hm y hy with r | r
      · exact hGv y q r
      · have := (hG y q).2; omega
theorem rowsOwn.rows {w0 w : World} {A : Option Addr} {n c : Nat} {T : List (VR × Value)} {C : List Nat} (h : rowsOwn w0 w (.slice A n c) T C) : rowsV w (homes (.slice A n c) ++ C) A (T.map (·.1)) := by
  intro hne
  rcases h.own.2 with ⟨_, h0⟩ | ⟨g, cap, cur, e, hg, h1, h2, h3, h4⟩
  · exact absurd (by simpa using h0) (by simpa using hne)
  · injection e with e1 e2 e3
    subst e1
    refine ⟨g, 0, rfl, hg.lt, by simp [homes_some], fun i r hi => ?_⟩
    rw [List.getElem?_map] at hi
    cases ht : T[i]? with
    | none => rw [ht] at hi; cases hi
    | some t =>
      rw [ht] at hi
      simp at hi
      subst hi
      obtain ⟨y0, y1, y2, y3⟩ := flatR_at T i t ht
      have hcell : ∀ j u, (flatR T)[j]? = some u → w.cell? ⟨g, j, none⟩ = some u := fun j u hu => by
        rw [hg.cell]
        rw [← h4, List.getElem?_take] at hu
        split at hu
        · simpa using hu
        · cases hu
      have hb := h.byt t (List.mem_of_getElem? ht)
      obtain ⟨A', n', gb, e', r2⟩ := id hb
      rw [e'] at y3 hb
      exact ⟨A', n', hb.more (fun y hy => List.mem_append.2 (.inr hy)), by simpa using hcell _ _ y0, by simpa using hcell _ _ y1, by simpa using hcell _ _ y2, by simpa using hcell _ _ y3⟩
def rowsRel (w : World) (l : List VR) (v14 v3 : Value) (wx : World) : Prop := ∃ (i : Nat) (T : List (VR × Value)) (C : List Nat), i ≤ l.length ∧ v14 = .int .i64 (i : Int) ∧ rowsOwn w wx v3 T C ∧ T.length = i ∧ T.map (·.1) = l.take i
def rowsPost (l : List VR) (w : World) (e : Ending) (w' : World) : Prop := ∃ A c G, e = .returned (.slice A l.length c) ∧ l.length ≤ c ∧ c ≤ maxLen ∧ rowsV w' G A l ∧ (∀ y ∈ G, w.heap.size ≤ y) ∧ keepBut [] w w'
set_option maxHeartbeats 4000000 in
theorem rowsR_any (p : Nat) (F : List Nat) (l : List VR) (w : World) (h : isV w p F l) (hl : l.length ≤ 20000) :
    Calls Try.prog 16 #[.pointer (some ⟨p, 0, none⟩)] w (rowsPost l w) := by
  obtain ⟨A, c, c1, hc1, hc2, hr1⟩ := h.rows
  have HH := Lib.hid (And.intro h hr1)
  clear h hr1
  obtain ⟨i0, hi0, hz0, hz1, hz2⟩ := info_parts infoRowV
  go_enter Try.func16, Try.ntmps16
  go_wp2_with (go_at_call 29; refine (noneV_any _ _ _ _ HH.out.1).mono ?_; rintro e w' ⟨rfl, rfl⟩)
  go_loopw [14, 3, 5] (fun v14 v3 _ wx => rowsRel w l v14 v3 wx) (fun v14 _ _ _ => l.length - (intOf v14).toNat)
  case atStart => exact ⟨0, [], [], by omega, rfl, rowsOwn.nil _, rfl, by simp⟩
  case round =>
    obtain ⟨i, T, C, hi, rfl, hv, hTl, hTm⟩ := hrel
    obtain ⟨A3, c3, rfl, h31, h32, -, -⟩ := hv.own.form
    rw [hTl] at h31 ⊢
    by_cases hlt : i < l.length
    · have hlt' : (i : Int) < (l.length : Int) := by omega
      obtain ⟨r, hr⟩ : ∃ r, l[i]? = some r := ⟨_, List.getElem?_eq_getElem hlt⟩
      obtain ⟨g, o, rfl, hgl, hgG, hall⟩ := HH.out.2 (by rintro rfl; simp at hlt)
      obtain ⟨A', n, hb, y0, y1, y2, y3⟩ := hall i r hr
      have e := fun x => hv.kept.cell (p := ⟨g, x, none⟩) hgl (by simp)
      rw [← e] at y0 y1 y2 y3
      have hbk := hb.keep hv.kept (by simp)
      obtain ⟨s, nd, kd, b⟩ := r
      dsimp only at hbk y0 y1 y2 y3
      have HR := Lib.hid (And.intro hv (And.intro hTl (And.intro hTm (And.intro hr hbk))))
      clear hv hTl hTm hb hbk hr hall e c1
      go_upto_region 7 with fail
      have ka := (keepBut.refl [] wr).alloc (.cells #[.int .i64 s, .int .i64 nd, .int .i64 kd, .slice A' b.length n] 46)
      have ra := rowAt.new wr 46 #[.int .i64 s, .int .i64 nd, .int .i64 kd, .slice A' b.length n]
      have HA := Lib.hid (And.intro ka (HR.out.2.2.2.2.keep ka (by simp)))
      clear ka y0 y1 y2 y3
      obtain ⟨wa, hwa⟩ : ∃ wa, wr.alloc (.cells #[.int .i64 s, .int .i64 nd, .int .i64 kd, .slice A' b.length n] 46) = wa := ⟨_, rfl⟩
      rw [hwa] at HA ra ⊢
      clear hwa
      have x0 : wa.cell? ⟨wr.heap.size, 0, none⟩ = some (.int .i64 s) := ra.cell 0
      have x1 : wa.cell? ⟨wr.heap.size, 1, none⟩ = some (.int .i64 nd) := ra.cell 1
      have x2 : wa.cell? ⟨wr.heap.size, 2, none⟩ = some (.int .i64 kd) := ra.cell 2
      have x3 : wa.cell? ⟨wr.heap.size, 3, none⟩ = some (.slice A' b.length n) := ra.cell 3
      clear ra
      go_wp2_with fail
      refine (copiedR_any F s nd kd b A' n _ HA.out.2).mono ?_; rintro e w5 ⟨A5, n5, rfl, G5, hh5, hG5, k5⟩
      clear x0 x1 x2 x3
      have hov := (HR.out.1.over HA.out.1).over k5
      have kb := (keepBut.refl [] w5).alloc (.cells #[.int .i64 s, .int .i64 nd, .int .i64 kd, .slice A5 b.length n5] 46)
      have rn := reads_rowV (rowAt.new w5 46 #[.int .i64 s, .int .i64 nd, .int .i64 kd, .slice A5 b.length n5]) 1 4 rfl
      have ho5 := hov.own.keep kb (by simp)
      rw [HR.out.2.1] at ho5
      have H5 := Lib.hid (And.intro hh5 (And.intro hG5 (And.intro k5 (And.intro kb (And.intro rn ho5)))))
      clear hh5 hG5 k5 hov kb rn ho5
      go_wp2_with (at_builtin; refine wp_append _ rfl (.tmp 18) (.tmp 21) 31 rfl 46 i0 rowZeroV 4 48 Try.underlying31 hi0 hz0 hz1 hz2 rfl (by decide) (.slice A3 i c3) i (flatR T) rfl H5.out.2.2.2.2.2 (some ⟨w5.heap.size, 0, none⟩) w5.heap.size 1 1 _ rfl H5.out.2.2.2.2.1 (by intro u hu; simp at hu; rcases hu with rfl | rfl | rfl | rfl <;> rfl) (by omega) (by unfold maxLen; omega) ?_; intro A8 c8 w8 hown8 hkb8 hloc8; have H8 := Lib.hid (And.intro hown8 (And.intro hkb8 hloc8)); clear hown8 hkb8 hloc8)
      go_roundw
      case rel =>
        have hT := HR.out.2.1
        subst hT
        refine ⟨T.length + 1, T ++ [(⟨s, nd, kd, b⟩, .slice A5 b.length n5)], C ++ G5, by omega, by go_num, (HR.out.1.over HA.out.1).add H5.out.1 H5.out.2.1 H5.out.2.2.1 H5.out.2.2.2.1 H8.out.1 H8.out.2.1 H8.out.2.2, by simp, ?_⟩
        rw [List.map_append, HR.out.2.2.1, List.take_add_one, HR.out.2.2.2.1]
        rfl
      case measure => simp [intOf]; omega
    · obtain rfl : i = l.length := by omega
      rw [List.take_length] at hTm
      have hrw := hv.rows
      rw [hTm] at hrw
      have HR := Lib.hid (And.intro hv (And.intro hTl hrw))
      clear hv hTl hTm hrw
      go_wp2
      go_ret
      refine ⟨A3, c3, _, rfl, h31, h32, HR.out.2.2, fun y hy => ?_, HR.out.1.kept⟩
      rcases List.mem_append.1 hy with q | q
      · exact (HR.out.1.home y q).1
      · exact (HR.out.1.new y q).1
end Go.Proofs.Ytjipokilidhnoaa
