/-
  RCE: RC9, RC13, RC14, joined.
-/
import Derived.Test.YthfdkonhjpdflaaGreatDoorRCA
import Derived.Test.YthfdkonhjpdflaaGreatDoorPkD
import Derived.Test.YthfdkonhjpdflaaGreatDoorRCD
section
namespace Go.Proofs.YthfdkonhjpdflaaGreatDoor
open Go.RowKit
set_option linter.unusedVariables false
set_option maxRecDepth 100000
set_option linter.unusedSimpArgs false

set_option maxHeartbeats 1000000 in
theorem copyBytesD (F : List Nat) (v : Value) (l : List UInt8) (w : World) (h : bytesV w F v l) (hb : l.length ≤ 140737488355328) :
    Calls Tryz.prog 27 #[v] w fun e w' => ∃ u G, e = .returned u ∧ bytesV w' G u l ∧ newIn w w' G ∧ keepBut [] w w' := by
  obtain ⟨A, c, g, rfl, h2, h3, h4, h5⟩ := h
  obtain ⟨i0, hi0, hz0, hz1, hz2⟩ := info_parts infoU8c
  have H := Lib.hid (And.intro (seen.reads h4) (owns.nil w 5 1))
  clear h4 h5 h3
  go_enter Tryz.func27, Tryz.ntmps27
  go_wp2_with (at_builtin; refine wp_append _ rfl _ _ 24 rfl 5 i0 (.int .u8 0) 1 1 Tryz.underlying24 hi0 hz0 hz1 hz2 rfl (by decide) (.slice none 0 0) 0 [] rfl H.out.2 A g l.length c _ (by simp [Act.eval]) H.out.1 (by intro u hu; simp at hu; obtain ⟨b, _, rfl⟩ := hu; rfl) (by omega) (by unfold maxLen; omega) ?_; intro A2 c2 w2 hown2 hkb2 hloc2)
  go_ret
  simp only [Nat.zero_add, List.nil_append] at hown2 hloc2 ⊢
  obtain ⟨A3, c3, e3, h31, h32, h33, h34⟩ := hown2.form
  injection e3 with e3a e3b e3c
  subst e3a e3c
  obtain ⟨g3, hg3⟩ := homes_one (.slice A2 l.length c2)
  refine ⟨_, homes (.slice A2 l.length c2), rfl, ⟨A2, c2, g3, rfl, h31, h32, reads.seenB (h34 g3 hg3), fun hne => ?_⟩, fun y hy => ⟨?_, h33 y hy⟩, hkb2.more (by simp [homes_none])⟩
  · obtain ⟨o, hA, _⟩ := (h34 g3 hg3).2 (List.length_pos_iff.2 hne)
    rw [hA]; simp [homes_some]
  · rcases hloc2 y hy with h | h
    · simp [homes_none] at h
    · exact h
set_option maxHeartbeats 1000000 in
theorem copyIntsD (F : List Nat) (v : Value) (l : List Int) (w : World) (h : intsV w F v l) (hb : l.length ≤ 17592186044416) :
    Calls Tryz.prog 137 #[v] w fun e w' => ∃ u G, e = .returned u ∧ intsV w' G u l ∧ newIn w w' G ∧ keepBut [] w w' := by
  obtain ⟨A, c, g, rfl, h2, h3, h4, h5⟩ := h
  obtain ⟨i0, hi0, hz0, hz1, hz2⟩ := info_parts infoIntc
  have H := Lib.hid (And.intro h4 (owns.nil w 3 1))
  clear h4 h5 h3
  go_enter Tryz.func137, Tryz.ntmps137
  go_wp2_with (at_builtin; refine wp_append _ rfl _ _ 29 rfl 3 i0 (.int .i64 0) 1 8 Tryz.underlying29 hi0 hz0 hz1 hz2 rfl (by decide) (.slice none 0 0) 0 [] rfl H.out.2 A g l.length c _ (by simp [Act.eval]) H.out.1 (by intro u hu; simp at hu; obtain ⟨b, _, rfl⟩ := hu; rfl) (by omega) (by unfold maxLen; omega) ?_; intro A2 c2 w2 hown2 hkb2 hloc2)
  go_ret
  simp only [Nat.zero_add, List.nil_append] at hown2 hloc2 ⊢
  obtain ⟨A3, c3, e3, h31, h32, h33, h34⟩ := hown2.form
  injection e3 with e3a e3b e3c
  subst e3a e3c
  obtain ⟨g3, hg3⟩ := homes_one (.slice A2 l.length c2)
  refine ⟨_, homes (.slice A2 l.length c2), rfl, ⟨A2, c2, g3, rfl, h31, h32, h34 g3 hg3, fun hne => ?_⟩, fun y hy => ⟨?_, h33 y hy⟩, hkb2.more (by simp [homes_none])⟩
  · obtain ⟨o, hA, _⟩ := (h34 g3 hg3).2 (List.length_pos_iff.2 hne)
    rw [hA]; simp [homes_some]
  · rcases hloc2 y hy with h | h
    · simp [homes_none] at h
    · exact h
set_option maxHeartbeats 1000000 in
theorem copyConfD (F : List Nat) (c : CF) (cv : Value) (w : World) (h : intsV w F cv c.chain) (hb : c.chain.length ≤ 17592186044416) :
    Calls Tryz.prog 87 #[.agg (cfL c cv).toArray] w fun e w' => ∃ u G, e = .returned (.agg (cfL c u).toArray) ∧ intsV w' G u c.chain ∧ newIn w w' G ∧ keepBut [] w w' := by
  have hr0 := rowAt.new w 31 #[.int .i64 c.num, .int .i64 c.full, cv]
  have hr1 := rowAt.new (w.alloc (.cells #[.int .i64 c.num, .int .i64 c.full, cv] 31)) 31 #[.int .i64 0, .int .i64 0, .slice none 0 0]
  have hk0 := (keepBut.refl [] w).alloc (.cells #[.int .i64 c.num, .int .i64 c.full, cv] 31)
  have hk1 := (keepBut.refl [] (w.alloc (.cells #[.int .i64 c.num, .int .i64 c.full, cv] 31))).alloc (.cells #[.int .i64 0, .int .i64 0, .slice none 0 0] 31)
  have hr0' := hk1.row hr0 (by simp)
  have h' := (h.keep hk0 (by simp)).keep hk1 (by simp)
  have hk := hk0.then hk1 (by simp)
  rw [World.size_alloc] at hr1
  obtain ⟨A, cc, g, rfl, h2⟩ := h
  unfold cfL
  generalize hW : (w.alloc (.cells #[.int .i64 c.num, .int .i64 c.full, .slice A c.chain.length cc] 31)).alloc (.cells #[.int .i64 0, .int .i64 0, .slice none 0 0] 31) = w1 at *
  have c2 : w1.cell? ⟨w.heap.size, 2, none⟩ = some (.slice A c.chain.length cc) := hr0'.cell 2
  have H := Lib.hid (And.intro hr0' (And.intro hr1 (And.intro h' hk)))
  have HW := Lib.hid hW
  clear hr0 hr1 hk0 hk1 hr0' h' hk hW h2
  go_enter Tryz.func87, Tryz.ntmps87
  go_upto_region 1 with fail
  rw [HW.out]
  go_wp2_with fail
  refine (copyIntsD F _ _ _ H.out.2.2.1 hb).mono ?_; rintro e w2 ⟨v, G, rfl, ⟨A2, n2, g2, rfl, i2, i3, i5, i6⟩, hG, hk2⟩
  have r0 := hk2.row H.out.1 (by simp)
  have r1 := hk2.row H.out.2.1 (by simp)
  have a0 : w2.cell? ⟨w.heap.size, 0, none⟩ = some (.int .i64 c.num) := r0.cell 0
  have a1 : w2.cell? ⟨w.heap.size, 1, none⟩ = some (.int .i64 c.full) := r0.cell 1
  have a2 : w2.cell? ⟨w.heap.size, 2, none⟩ = some (.slice A c.chain.length cc) := r0.cell 2
  have f2 : w2.frozen? ⟨w.heap.size, 2, none⟩ = false := r0.free 2
  have b0 : w2.cell? ⟨w.heap.size + 1, 0, none⟩ = some (.int .i64 0) := r1.cell 0
  have b1 : w2.cell? ⟨w.heap.size + 1, 1, none⟩ = some (.int .i64 0) := r1.cell 1
  have b2 : w2.cell? ⟨w.heap.size + 1, 2, none⟩ = some (.slice none 0 0) := r1.cell 2
  have e0 : w2.frozen? ⟨w.heap.size + 1, 0, none⟩ = false := r1.free 0
  have e1 : w2.frozen? ⟨w.heap.size + 1, 1, none⟩ = false := r1.free 1
  have e2 : w2.frozen? ⟨w.heap.size + 1, 2, none⟩ = false := r1.free 2
  have hgg := H.out.1.lt
  have H2 := Lib.hid (And.intro hG (And.intro hk2 (And.intro i2 (And.intro i3 (And.intro i5 i6)))))
  clear r0 r1 hG hk2 i2 i3 i5 i6 c2 hgg
  go_wp2
  refine bodyPost_ret (v := .agg #[.int .i64 c.num, .int .i64 c.full, .slice A2 c.chain.length n2]) (by simp [results, Tryz.results87, go_sem, *]) rfl ?_
  obtain ⟨hG, hk2, i2, i3, i5, i6⟩ := H2.out
  have hs1 := H.out.2.1.lt
  have k4 := ((((keepBut.refl [w.heap.size, w.heap.size + 1] w2).setCell ⟨w.heap.size, 2, none⟩ (.slice A2 c.chain.length n2) (by simp)).setCell ⟨w.heap.size + 1, 0, none⟩ (.int .i64 c.num) (by simp)).setCell ⟨w.heap.size + 1, 1, none⟩ (.int .i64 c.full) (by simp)).setCell ⟨w.heap.size + 1, 2, none⟩ (.slice A2 c.chain.length n2) (by simp)
  have hh : intsV w2 G (.slice A2 c.chain.length n2) c.chain := ⟨A2, n2, g2, rfl, i2, i3, i5, i6⟩
  have hkk := (H.out.2.2.2.then hk2 (by simp)).then k4 (by simp)
  refine ⟨_, G, rfl, hh.keep k4 (fun y hy => ?_), fun y hy => ⟨?_, Nat.lt_of_lt_of_le (hG y hy).2 k4.size⟩, hkk⟩
  · have := (hG y hy).1; simp; omega
  · have := (hG y hy).1; omega
end Go.Proofs.YthfdkonhjpdflaaGreatDoor
end

section
namespace Go.Proofs.YthfdkonhjpdflaaGreatDoor
open Go.RowKit
set_option linter.unusedVariables false
set_option maxRecDepth 100000
set_option linter.unusedSimpArgs false

/-- the votes that were copied up to i -/
structure cvIs (w : World) (l : List VT) (v : Value) (wx : World) (i : Nat) (T : List (VT × Value)) (G : List Nat) : Prop where
  m : T.map (·.1) = l.take i
  n : T.length = i
  own : owns wx 69 4 v i (flatVT T)
  its : ∀ t ∈ T, intsV wx G t.2 t.1.conf.chain
  kept : keepBut [] w wx
  far : ∀ y ∈ G, w.heap.size ≤ y ∧ y < wx.heap.size ∧ y ∉ homes v
  new : ∀ x ∈ homes v, w.heap.size ≤ x
def cvRel (w : World) (l : List VT) (v3 v4 : Value) (wx : World) : Prop := ∃ (i : Nat) (T : List (VT × Value)) (G : List Nat), i ≤ l.length ∧ v4 = .int .i64 (i : Int) ∧ cvIs w l v3 wx i T G
theorem flatVT_app : ∀ T U : List (VT × Value), flatVT (T ++ U) = flatVT T ++ flatVT U
  | [], _ => rfl
  | t :: r, U => by
    show vtL t.1 t.2 ++ flatVT (r ++ U) = (vtL t.1 t.2 ++ flatVT r) ++ flatVT U
    rw [flatVT_app r U, List.append_assoc]
theorem cvIs.step {w wr w5 w7 : World} {l : List VT} {v v7 : Value} {i : Nat} {T : List (VT × Value)} {G G5 : List Nat} {a : VT} {u : Value} (h : cvIs w l v wr i T G) (ha : l[i]? = some a)
    (k5 : keepBut [] wr w5) (hu : intsV w5 G5 u a.conf.chain) (hG : newIn wr w5 G5)
    (own7 : owns w7 69 4 v7 (i + 1) (flatVT T ++ vtL a u)) (k7 : keepBut (homes v) (w5.alloc (.cells (vtL a u).toArray 69)) w7)
    (h7 : ∀ x ∈ homes v7, x ∈ homes v ∨ (w5.alloc (.cells (vtL a u).toArray 69)).heap.size ≤ x) : cvIs w l v7 w7 (i + 1) (T ++ [(a, u)]) (G ++ G5) := by
  have ka := (keepBut.refl [] w5).alloc (.cells (vtL a u).toArray 69)
  have s0 := h.kept.size
  have s5 := k5.size
  have s7 := k7.size
  rw [World.size_alloc] at s7 h7
  have hlt := h.own.lt
  have kk : keepBut (homes v) wr w7 := ((k5.then ka (by simp)).more (by simp)).then k7 (fun x hx => .inl hx)
  refine ⟨by rw [List.map_append, h.m, List.take_add_one, ha]; rfl, by rw [List.length_append, h.n]; rfl, by rw [flatVT_app]; simpa [flatVT] using own7, fun t ht => ?_, h.kept.then kk (fun x hx => .inr (h.new x hx)), fun y hy => ?_, fun x hx => ?_⟩
  · rcases List.mem_append.1 ht with ht | ht
    · exact ((h.its t ht).keep kk (fun y hy => (h.far y hy).2.2)).more (fun y hy => List.mem_append_left _ hy)
    · simp only [List.mem_singleton] at ht
      subst ht
      exact ((hu.keep ka (by simp)).keep k7 (fun y hy hm => by have := hlt y hm; have := (hG y hy).1; omega)).more (fun y hy => List.mem_append_right _ hy)
  · rcases List.mem_append.1 hy with hy | hy
    · have f := h.far y hy
      refine ⟨f.1, by omega, fun hm => ?_⟩
      rcases h7 y hm with h1 | h1
      · exact f.2.2 h1
      · omega
    · have g := hG y hy
      refine ⟨by omega, by omega, fun hm => ?_⟩
      rcases h7 y hm with h1 | h1
      · have := hlt y h1; omega
      · omega
  · rcases h7 x hx with h1 | h1
    · exact h.new x h1
    · omega
theorem cvIs.done {w wx : World} {l : List VT} {v : Value} {T : List (VT × Value)} {G : List Nat} (h : cvIs w l v wx l.length T G) : ∃ G', votesV wx G' v l ∧ newIn w wx G' := by
  obtain ⟨A, c, rfl, h1, h2, h3, h4⟩ := h.own.form
  obtain ⟨g, hg⟩ := homes_one (.slice A l.length c)
  refine ⟨G ++ homes (.slice A l.length c), ⟨A, c, g, T, rfl, h1, h2, by rw [h.m, List.take_length], h4 g hg, fun t ht => (h.its t ht).more (fun y hy => List.mem_append_left _ hy), fun hne => ?_⟩, fun y hy => ?_⟩
  · obtain ⟨o, hA, _⟩ := (h4 g hg).2 (List.length_pos_iff.2 hne)
    rw [hA]; simp [homes_some]
  · rcases List.mem_append.1 hy with hy | hy
    · exact ⟨(h.far y hy).1, (h.far y hy).2.1⟩
    · exact ⟨h.new y hy, h3 y hy⟩
set_option maxHeartbeats 8000000 in
theorem copyVotesD (F : List Nat) (l : List VT) (v : Value) (w : World) (h : votesV w F v l) (hb : l.length ≤ 2932031007402) (hcb : ∀ v ∈ l, v.conf.chain.length ≤ 17592186044416) :
    Calls Tryz.prog 88 #[v] w fun e w' => ∃ u G, e = .returned u ∧ votesV w' G u l ∧ newIn w w' G ∧ keepBut [] w w' := by
  obtain ⟨A, c, gA, TA, rfl, _, hc, _⟩ := id h
  obtain ⟨L, hL⟩ : ∃ L, l.length = L := ⟨_, rfl⟩
  have HA := Lib.hid h
  have HB := Lib.hid hcb
  have HS0 : Hid (cvRel w l (.slice none 0 0) (.int .i64 0) w) := Lib.hid ⟨0, [], [], by omega, rfl, by simp, rfl, owns.nil _ _ _, by simp, keepBut.refl _ _, by simp, by simp [homes_none]⟩
  rw [hL] at HA hb ⊢
  have HL := Lib.hid hL
  obtain ⟨i0, hi0, hz0, hz1, hz2⟩ := info_parts infoVTc
  clear h hL hcb hc
  go_enter Tryz.func88, Tryz.ntmps88
  go_upto_region 3 with fail
  go_loopw [3, 4] (fun v3 v4 wx => cvRel w l v3 v4 wx) (fun _ v4 _ => L - (intOf v4).toNat)
  case atStart => exact HS0.out
  case round =>
    obtain ⟨i, T, G, hi, rfl, hI⟩ := hrel
    rw [HL.out] at hi
    by_cases hlt : i < L
    · have hlt' : (i : Int) < (L : Int) := by omega
      obtain ⟨a, ha⟩ : ∃ a, l[i]? = some a := ⟨_, List.getElem?_eq_getElem (by rw [HL.out]; omega)⟩
      obtain ⟨g, o, cv, rfl, hgl, _, hcv, x0, x1, x2, x3⟩ := (HA.out.keep hI.kept (by simp)).at ha
      have hgw : g < w.heap.size := by
        obtain ⟨g2, o2, _, e2, h2, _⟩ := HA.out.at ha
        injection e2 with e2
        injection e2 with e2
        rw [e2]; exact h2
      have hnh : g ∉ homes u3 := fun hm => by have := hI.new g hm; omega
      have hal : a.conf.chain.length ≤ 17592186044416 := HB.out a (List.mem_of_getElem? ha)
      have HR := Lib.hid (And.intro hI (And.intro ha hcv))
      have hw1 : IntKind.i64.wrap ((i : Int) + 1) = (i : Int) + 1 := by rw [IntKind.wrap_i64]; omega
      clear hI ha hcv
      obtain ⟨ab, an, af, al⟩ := a
      dsimp only at x0 x1 x2 x3 hal
      obtain ⟨CA, cc, cg, rfl, _⟩ := id HR.out.2.2
      dsimp only at x3
      have HC := Lib.hid (copyConfD F ⟨an, af, al⟩ _ wr.drew (HR.out.2.2.keep (keepBut.refl [] wr).drew (by simp)) hal)
      have HFO := Lib.hid HR.out.1.own.form
      go_upto_region 5 with fail
      go_region_held3 (fun w' => w'.cell? ⟨g, o + i * 4, none⟩ = some (.int .i64 ab) ∧ w'.cell? ⟨g, o + i * 4 + 1, none⟩ = some (.int .i64 an) ∧ w'.cell? ⟨g, o + i * 4 + 2, none⟩ = some (.int .i64 af) ∧ w'.cell? ⟨g, o + i * 4 + 3, none⟩ = some (.slice CA al.length cc)) (first | exact ⟨x0, x1, x2, x3⟩ | exact ⟨y0, y1, y2, y3⟩ | exact ⟨z0, z1, z2, z3⟩ | exact ⟨q0, q1, q2, q3⟩)
        (first
          | (go_at_call 87; refine HC.out.mono ?_; rintro e w5 ⟨u, G5, rfl, hu5, hG5, k5⟩; obtain ⟨UA, uc, ug, rfl, _⟩ := id hu5; dsimp only [cfL]; have hkd := ((keepBut.refl [] wr).drew).then k5 (by simp); have y0 := (hkd.cell (p := ⟨g, o + i * 4, none⟩) hgl (by simp)).trans x0; have y1 := (hkd.cell (p := ⟨g, o + i * 4 + 1, none⟩) hgl (by simp)).trans x1; have y2 := (hkd.cell (p := ⟨g, o + i * 4 + 2, none⟩) hgl (by simp)).trans x2; have y3 := (hkd.cell (p := ⟨g, o + i * 4 + 3, none⟩) hgl (by simp)).trans x3; have hgl5 := Nat.lt_of_lt_of_le hgl hkd.size; have ka5 := (keepBut.refl [] w5).alloc (.cells #[.int .i64 ab, .int .i64 an, .int .i64 af, .slice UA al.length uc] 69); have z0 := (ka5.cell (p := ⟨g, o + i * 4, none⟩) hgl5 (by simp)).trans y0; have z1 := (ka5.cell (p := ⟨g, o + i * 4 + 1, none⟩) hgl5 (by simp)).trans y1; have z2 := (ka5.cell (p := ⟨g, o + i * 4 + 2, none⟩) hgl5 (by simp)).trans y2; have z3 := (ka5.cell (p := ⟨g, o + i * 4 + 3, none⟩) hgl5 (by simp)).trans y3; have hgl6 := Nat.lt_of_lt_of_le hgl5 ka5.size)
          | (refine step_append _ rfl (.tmp 11) (.tmp 24) 32 rfl 69 i0 _ 4 48 Tryz.underlying32 hi0 hz0 hz1 hz2 rfl (by decide) _ i (flatVT T) rfl ((HR.out.1.own.keep hkd (by simp)).keep ka5 (by simp)) (some ⟨w5.heap.size, 0, none⟩) w5.heap.size 1 1 _ rfl (reads_row w5 69 [.int .i64 ab, .int .i64 an, .int .i64 af, .slice UA al.length uc]) (by intro u hu; simp at hu; rcases hu with rfl | rfl | rfl | rfl <;> rfl) (by omega) (by unfold maxLen; omega) ?_; intro A7 c7 w7 hown7 hkb7 hloc7; have q0 := (hkb7.cell (p := ⟨g, o + i * 4, none⟩) hgl6 hnh).trans z0; have q1 := (hkb7.cell (p := ⟨g, o + i * 4 + 1, none⟩) hgl6 hnh).trans z1; have q2 := (hkb7.cell (p := ⟨g, o + i * 4 + 2, none⟩) hgl6 hnh).trans z2; have q3 := (hkb7.cell (p := ⟨g, o + i * 4 + 3, none⟩) hgl6 hnh).trans z3))
      have HT := Lib.hid (HR.out.1.step (w5 := w5) (u := .slice UA al.length uc) (a := ⟨ab, an, af, al⟩) HR.out.2.1 hkd hu5 hG5 hown7 hkb7 hloc7)
      clear hown7 hkb7 hloc7 q0 q1 q2 q3 z0 z1 z2 z3 y0 y1 y2 y3 x0 x1 x2 x3 hkd ka5 k5 hu5 hG5 hi0 hz0 hz1 hz2
      go_wp2_with fail
      go_roundw
      case rel => exact ⟨i + 1, _, _, by rw [HL.out]; omega, by go_num, HT.out⟩
      case measure => simp [intOf]; omega
    · obtain rfl : i = L := by omega
      have hI' : cvIs w l u3 wr l.length T G := by rw [HL.out]; exact hI
      have HE := Lib.hid (And.intro hI'.done hI'.kept)
      clear hI hI'
      go_wp2_with fail
      go_ret
      obtain ⟨G', h1, h2⟩ := HE.out.1
      exact ⟨_, G', rfl, h1, h2, HE.out.2⟩
end Go.Proofs.YthfdkonhjpdflaaGreatDoor
end

section
namespace Go.Proofs.YthfdkonhjpdflaaGreatDoor
open Go.RowKit
set_option linter.unusedVariables false
set_option maxRecDepth 100000
set_option linter.unusedSimpArgs false

theorem putL_midR {a m m' r : List Value} {o : Nat} (ho : a.length = o) (h : m'.length = m.length) : putL (a ++ (m ++ r)).toArray o m' = (a ++ (m' ++ r)).toArray := by
  subst ho
  refine Array.ext_getElem? (fun i => ?_)
  rw [putL_get _ _ _ _ (by simp only [List.size_toArray, List.length_append]; omega)]
  by_cases c : a.length ≤ i ∧ i < a.length + m'.length
  · rw [if_pos c, List.getElem?_toArray, List.getElem?_append_right c.1, List.getElem?_append_left (by omega)]
  · rw [if_neg c, List.getElem?_toArray, List.getElem?_toArray]
    by_cases d : i < a.length
    · rw [List.getElem?_append_left d, List.getElem?_append_left d]
    · rw [List.getElem?_append_right (by omega), List.getElem?_append_right (by omega), List.getElem?_append_right (by omega), List.getElem?_append_right (by omega), h]
theorem pkL_putRR {p : PK} {ev av cv vv bw : Value} (h : p.req.name.length = 32) (u : Value) : putL (pkL p ev av cv vv bw).toArray 7 (rqL p.req u) = (pkL p u av cv vv bw).toArray :=
  putL_midR (a := [.int .i64 p.kind, .int .i64 p.frm, .int .i64 p.dst, .int .i64 p.num, .int .i64 p.seq, .int .i64 p.ballot, .bool p.ready]) (m := rqL p.req ev) rfl (by rw [rqL_len h, rqL_len h])
theorem pkL_putAR {p : PK} {ev av cv vv bw : Value} (h : p.req.name.length = 32) (h' : p.ans.name.length = 32) (u : Value) : putL (pkL p ev av cv vv bw).toArray 44 (anL p.ans u) = (pkL p ev u cv vv bw).toArray := by
  have e : ∀ v, pkL p ev v cv vv bw = ([.int .i64 p.kind, .int .i64 p.frm, .int .i64 p.dst, .int .i64 p.num, .int .i64 p.seq, .int .i64 p.ballot, .bool p.ready] ++ rqL p.req ev) ++ (anL p.ans v ++ (cfL p.conf cv ++ [vv, bw])) := fun v => by simp [pkL]
  rw [e, e]
  exact putL_midR (by simp [rqL_len h]) (by rw [anL_len h', anL_len h'])
theorem rqL_setE {r : RQ} {ev : Value} (h : r.name.length = 32) (u : Value) : (rqL r ev).toArray.setIfInBounds 36 u = (rqL r u).toArray := by
  rw [set_mid (l := rqL r ev) (a := [.int .i64 r.client, .int .i64 r.num, .int .i64 r.kind, .int .i64 r.version] ++ nameL r.name) (x := ev) (b := []) (k := 36) (by simp [rqL]) (by simp [nameL_len, h]) u]
  simp [rqL]
theorem anL_setE {r : AN} {ev : Value} (h : r.name.length = 32) (u : Value) : (anL r ev).toArray.setIfInBounds 37 u = (anL r u).toArray := by
  rw [set_mid (l := anL r ev) (a := [.int .i64 r.client, .int .i64 r.num, .int .i64 r.code, .int .i64 r.version, .int .i64 r.epoch] ++ nameL r.name) (x := ev) (b := []) (k := 37) (by simp [anL]) (by simp [nameL_len, h]) u]
  simp [anL]
theorem zv_rqC : (Tryz.prog.info? 26).bind (·.zero) = some (.agg (rqL rqZero nilV).toArray) := by kernel_rfl
theorem zv_anC : (Tryz.prog.info? 28).bind (·.zero) = some (.agg (anL anZero nilV).toArray) := by kernel_rfl
theorem cpAt.put {w a : World} {g : Nat} {p : PK} {ev av cv vv bw ev' av' : Value} (h : cpAt w a g p ev av cv vv bw) (hg : w.heap.size ≤ g) (k : Nat) (l : List Value) (he : putL (pkL p ev av cv vv bw).toArray k l = (pkL p ev' av' cv vv bw).toArray) :
    cpAt w (a.setCells g k l) g p ev' av' cv vv bw :=
  ⟨by rw [← he]; exact h.row.setL, (((keepBut.refl [g] a).setL (.inl (by simp))).row h.res (by simp)), h.kp.setL (.inr hg)⟩
theorem cpB.keepS {S : List Nat} {b : Nat} {W W' : World} {G : List Nat} {v : Value} {l : List UInt8} (h : cpB b W G v l) (hk : keepBut S W W') (hS : ∀ y ∈ G, y ∉ S) : cpB b W' G v l := ⟨h.1.keep hk hS, h.2.keep hk⟩
set_option maxHeartbeats 16000000 in
theorem copyD (F : List Nat) (p : PK) (ev av cv vv bw : Value) (w : World) (h : pkV w F p ev av cv vv bw) (hf : p.fits) :
    Calls Tryz.prog 23 #[.agg (pkL p ev av cv vv bw).toArray] w (copyPost p w) := by
  have k1 := (keepBut.refl [] w).alloc (.cells (pkL p ev av cv vv bw).toArray 34)
  have r1 := rowAt.new w 34 (pkL p ev av cv vv bw).toArray
  have hs1 : (w.alloc (.cells (pkL p ev av cv vv bw).toArray 34)).heap.size = w.heap.size + 1 := World.size_alloc _ _
  obtain ⟨w1, hw1⟩ : ∃ w1, w.alloc (.cells (pkL p ev av cv vv bw).toArray 34) = w1 := ⟨_, rfl⟩
  rw [hw1] at k1 r1 hs1
  have k2 := (keepBut.refl [] w1).alloc (.cells Tryz.zeroCells34 34)
  have r2 := rowAt.new w1 34 Tryz.zeroCells34
  have r1' := k2.row r1 (by simp)
  rw [hs1] at r2
  have k12 := k1.then k2 (by simp)
  have hrn := h.rn
  have han := h.an
  have HW := Lib.hid hw1
  have hv := Lib.hid h
  obtain ⟨A0, c0, g0, rfl, _⟩ := id h.re
  obtain ⟨A1, c1, g1, rfl, _⟩ := id h.ae
  obtain ⟨A2, c2, g2, rfl, _⟩ := id h.cc
  obtain ⟨A3, c3, g3, T3, rfl, _⟩ := id h.vs
  obtain ⟨A4, c4, g4, rfl, _⟩ := id h.bs
  have HN := Lib.hid (And.intro hrn han)
  clear hw1 k1 r1 k2 h
  go_enter Tryz.func23, Tryz.ntmps23
  go_upto_region 1 with (first
    | (with_reducible refine wpList_box_to _ _ rfl 34 (.tmp 0) rfl _ rfl HW.out ?_))
  obtain ⟨w2, hw2⟩ : ∃ w2, w1.alloc (.cells Tryz.zeroCells34 34) = w2 := ⟨_, rfl⟩
  rw [hw2] at r1' r2 k12 ⊢
  have C0 : Hid (cpAt w w2 w.heap.size p _ _ _ _ _) := Lib.hid ⟨r1', r2, k12⟩
  obtain ⟨b, hb⟩ : ∃ b, w.heap.size = b := ⟨_, rfl⟩
  have hbl : w.heap.size ≤ b := by omega
  rw [hb] at C0 ⊢
  have HB := Lib.hid (And.intro hb hbl)
  clear hw2 r1' r2 k12 HW hs1 hb hbl
  -- a part
  obtain ⟨Z0, hZ0⟩ : ∃ Z, rqL rqZero nilV = Z := ⟨_, rfl⟩
  obtain ⟨X0, hX0⟩ : ∃ X, rqL p.req (.slice A0 p.req.env.length c0) = X := ⟨_, rfl⟩
  have HZ0 := Lib.hid (show (Tryz.prog.info? 26).bind (·.zero) = some (.agg Z0.toArray) ∧ X0.length = Z0.length ∧ X0.length = 37 ∧ (∀ u ∈ X0, u.oneCell' = true) by rw [← hZ0, ← hX0]; exact ⟨zv_rqC, by rw [rqL_len hrn, rqL_len rqZero_name], rqL_len hrn, rqL_one _ rfl⟩)
  have HI0 := Lib.hid (show (Tryz.prog.info? 26).map (·.size) = some X0.length by rw [HZ0.out.2.2.1]; exact info_rq)
  have HQ0 := Lib.hid (show w2.rangeAt b 7 X0 by rw [← hX0]; exact (C0.out.row.pk hrn han).rq)
  have hst := storedP (w := w2) (t := 26) HZ0.out.2.1
  have hth := there_newP (w := w2) (t := 26) HZ0.out.2.1
  obtain ⟨q0, hq0⟩ : ∃ q, w2.heap.size = q := ⟨_, rfl⟩
  obtain ⟨wa0, hwa0⟩ : ∃ q, w2.alloc (.cells Z0.toArray 26) = q := ⟨_, rfl⟩
  rw [hwa0, hq0] at hst hth
  have HTH0 := Lib.hid (And.intro hth (And.intro hwa0 hq0))
  obtain ⟨wb0, hwb0⟩ : ∃ q, wa0.setCells q0 0 X0 = q := ⟨_, rfl⟩
  rw [hwb0] at hst
  have HWB0 := Lib.hid hwb0
  have CQ0 := Lib.hid (And.intro hst.1 (And.intro (C0.out.over hst.2) (by have := C0.out.row.lt; have := C0.out.res.lt; exact (⟨by omega, by omega⟩ : q0 ≠ b ∧ q0 ≠ b + 1))))
  have hb0 : b + 1 < q0 := by have := C0.out.res.lt; omega
  have HBQ0 := Lib.hid hb0
  clear hZ0 hst hth hwa0 hwb0 hb0 
  go_upto_region 2 with (first
    | (refine wpList_load_mid rfl 26 (.tmp 5) rfl b 7 rfl X0 _ HQ0.out Tryz.underlying26 rfl HI0.out ?_)
    | (with_reducible refine wpList_alloc_to _ _ rfl 26 rfl _ HZ0.out.1 HTH0.out.2.1 ?_)
    | (simp only [hq0]; refine wpList_store_mid rfl 26 (.tmp 3) (.tmp 6) rfl q0 0 X0.toArray rfl rfl (by rw [List.size_toArray]; exact HTH0.out.1) (by rw [List.size_toArray]; exact HI0.out) (all_oneCell_toArray HZ0.out.2.2.2) ?_))
  rw [HWB0.out]
  have xe : wb0.cell? ⟨q0, 36, none⟩ = some (.slice A0 p.req.env.length c0) := by rw [CQ0.out.1.cell, ← hX0]; exact rqL_env hrn
  go_upto_region 3 with (first
    | (go_at_call 27; refine (copyBytesD F _ p.req.env _ (hv.out.re.keep CQ0.out.2.1.kp (by simp)) hf.e).mono ?_; rintro e wc0 ⟨u0, G0, rfl, ⟨B0, d0, e0, rfl, i0⟩, n0, kk0⟩; have CR0 := Lib.hid (And.intro (kk0.row CQ0.out.1 (by simp)) (CQ0.out.2.1.over kk0)); have ye : wc0.cell? ⟨q0, 36, none⟩ = some (.slice A0 p.req.env.length c0) := (kk0.cell (p := ⟨q0, 36, none⟩) CQ0.out.1.lt (by simp)).trans xe; have fe := CR0.out.1.free 36; have EB0 : Hid (cpB b wc0 G0 (.slice B0 p.req.env.length d0) p.req.env ∧ (∀ y ∈ G0, y ≠ q0)) := Lib.hid ⟨⟨⟨B0, d0, e0, rfl, i0⟩, newB.of n0 CQ0.out.2.1.res.lt⟩, fun y hy => by have := (n0 y hy).1; have := CQ0.out.1.lt; omega⟩; clear i0 n0 kk0 xe))
  have ks := (keepBut.refl [q0] wc0).setCell ⟨q0, 36, none⟩ (.slice B0 p.req.env.length d0) (.inl (by simp))
  have CS0 := Lib.hid (show rowAt (wc0.setCell ⟨q0, 36, none⟩ (.slice B0 p.req.env.length d0)) q0 26 (rqL p.req (.slice B0 p.req.env.length d0)).toArray from (by have hh := CR0.out.1; rw [← hX0] at hh; have h2 := hh.set 36 (.slice B0 p.req.env.length d0); rw [rqL_setE hrn] at h2; exact h2))
  have CT0 := Lib.hid (show cpAt w (wc0.setCell ⟨q0, 36, none⟩ (.slice B0 p.req.env.length d0)) b p _ _ _ _ _ from ⟨ks.row CR0.out.2.row (by have := HBQ0.out; simp; omega), ks.row CR0.out.2.res (by have := HBQ0.out; simp; omega), CR0.out.2.kp.setCell _ _ (.inr (by have := HBQ0.out; have := HB.out.2; show w.heap.size ≤ q0; omega))⟩)
  have EC0 := Lib.hid (EB0.out.1.keepS ks (fun y hy => by have := EB0.out.2 y hy; simpa using this))
  obtain ⟨wd0, hwd0⟩ : ∃ q, wc0.setCell ⟨q0, 36, none⟩ (.slice B0 p.req.env.length d0) = q := ⟨_, rfl⟩
  rw [hwd0] at CS0 CT0 EC0 ⊢
  obtain ⟨Y0, hY0⟩ : ∃ X, rqL p.req (.slice B0 p.req.env.length d0) = X := ⟨_, rfl⟩
  rw [hY0] at CS0
  have HY0 := Lib.hid (show Y0.length = 37 ∧ (∀ u ∈ Y0, u.oneCell' = true) by rw [← hY0]; exact ⟨rqL_len hrn, rqL_one _ rfl⟩)
  have HJ0 := Lib.hid (show (Tryz.prog.info? 26).map (·.size) = some Y0.length by rw [HY0.out.1]; exact info_rq)
  have HTB0 := Lib.hid (CT0.out.row.there (o := 7) (n := Y0.length) (by rw [HY0.out.1, List.size_toArray, pkL_len hrn han]; decide))
  clear hX0 hwd0 ks ye fe CR0 EB0 CQ0 hq0 
  go_upto_region 4 with (first
    | (refine wpList_load_mid rfl 26 (.tmp 3) rfl q0 0 rfl Y0 _ CS0.out.rangeAll Tryz.underlying26 rfl HJ0.out ?_)
    | (refine wpList_store_mid rfl 26 (.tmp 12) (.tmp 11) rfl b 7 Y0.toArray rfl rfl (by rw [List.size_toArray]; exact HTB0.out) (by rw [List.size_toArray]; exact HJ0.out) (all_oneCell_toArray HY0.out.2) ?_))
  have D0 := Lib.hid (CT0.out.put HB.out.2 7 Y0 (by rw [← hY0]; exact pkL_putRR hrn _))
  have kz : keepBut [b] wd0 (wd0.setCells b 7 Y0) := (keepBut.refl [b] wd0).setL (.inl (by simp))
  have E0 := Lib.hid (EC0.out.keep kz)
  obtain ⟨we0, hwe0⟩ : ∃ q, wd0.setCells b 7 Y0 = q := ⟨_, rfl⟩
  rw [hwe0] at D0 E0 ⊢
  clear hY0 kz hwe0 CS0 CT0 EC0 HTB0 
  -- a part
  obtain ⟨Z1, hZ1⟩ : ∃ Z, anL anZero nilV = Z := ⟨_, rfl⟩
  obtain ⟨X1, hX1⟩ : ∃ X, anL p.ans (.slice A1 p.ans.env.length c1) = X := ⟨_, rfl⟩
  have HZ1 := Lib.hid (show (Tryz.prog.info? 28).bind (·.zero) = some (.agg Z1.toArray) ∧ X1.length = Z1.length ∧ X1.length = 38 ∧ (∀ u ∈ X1, u.oneCell' = true) by rw [← hZ1, ← hX1]; exact ⟨zv_anC, by rw [anL_len han, anL_len anZero_name], anL_len han, anL_one _ rfl⟩)
  have HI1 := Lib.hid (show (Tryz.prog.info? 28).map (·.size) = some X1.length by rw [HZ1.out.2.2.1]; exact info_an)
  have HQ1 := Lib.hid (show we0.rangeAt b 44 X1 by rw [← hX1]; exact (D0.out.row.pk hrn han).an)
  have hst := storedP (w := we0) (t := 28) HZ1.out.2.1
  have hth := there_newP (w := we0) (t := 28) HZ1.out.2.1
  obtain ⟨q1, hq1⟩ : ∃ q, we0.heap.size = q := ⟨_, rfl⟩
  obtain ⟨wa1, hwa1⟩ : ∃ q, we0.alloc (.cells Z1.toArray 28) = q := ⟨_, rfl⟩
  rw [hwa1, hq1] at hst hth
  have HTH1 := Lib.hid (And.intro hth (And.intro hwa1 hq1))
  obtain ⟨wb1, hwb1⟩ : ∃ q, wa1.setCells q1 0 X1 = q := ⟨_, rfl⟩
  rw [hwb1] at hst
  have HWB1 := Lib.hid hwb1
  have CQ1 := Lib.hid (And.intro hst.1 (And.intro (D0.out.over hst.2) (by have := D0.out.row.lt; have := D0.out.res.lt; exact (⟨by omega, by omega⟩ : q1 ≠ b ∧ q1 ≠ b + 1))))
  have Ea := Lib.hid (E0.out.over hst.2)
  have hb1 : b + 1 < q1 := by have := D0.out.res.lt; omega
  have HBQ1 := Lib.hid hb1
  clear hZ1 hst hth hwa1 hwb1 hb1 
  go_upto_region 5 with (first
    | (refine wpList_load_mid rfl 28 (.tmp 13) rfl b 44 rfl X1 _ HQ1.out Tryz.underlying28 rfl HI1.out ?_)
    | (with_reducible refine wpList_alloc_to _ _ rfl 28 rfl _ HZ1.out.1 HTH1.out.2.1 ?_)
    | (simp only [hq1]; refine wpList_store_mid rfl 28 (.tmp 4) (.tmp 14) rfl q1 0 X1.toArray rfl rfl (by rw [List.size_toArray]; exact HTH1.out.1) (by rw [List.size_toArray]; exact HI1.out) (all_oneCell_toArray HZ1.out.2.2.2) ?_))
  rw [HWB1.out]
  have xe : wb1.cell? ⟨q1, 37, none⟩ = some (.slice A1 p.ans.env.length c1) := by rw [CQ1.out.1.cell, ← hX1]; exact anL_env han
  go_upto_region 6 with (first
    | (go_at_call 27; refine (copyBytesD F _ p.ans.env _ (hv.out.ae.keep CQ1.out.2.1.kp (by simp)) hf.a).mono ?_; rintro e wc1 ⟨u0, G1, rfl, ⟨B1, d1, e1, rfl, i0⟩, n0, kk0⟩; have CR1 := Lib.hid (And.intro (kk0.row CQ1.out.1 (by simp)) (CQ1.out.2.1.over kk0)); have ye : wc1.cell? ⟨q1, 37, none⟩ = some (.slice A1 p.ans.env.length c1) := (kk0.cell (p := ⟨q1, 37, none⟩) CQ1.out.1.lt (by simp)).trans xe; have fe := CR1.out.1.free 37; have EB1 : Hid (cpB b wc1 G1 (.slice B1 p.ans.env.length d1) p.ans.env ∧ (∀ y ∈ G1, y ≠ q1)) := Lib.hid ⟨⟨⟨B1, d1, e1, rfl, i0⟩, newB.of n0 CQ1.out.2.1.res.lt⟩, fun y hy => by have := (n0 y hy).1; have := CQ1.out.1.lt; omega⟩; have Eb := Lib.hid (Ea.out.over kk0); clear i0 n0 kk0 xe))
  have ks := (keepBut.refl [q1] wc1).setCell ⟨q1, 37, none⟩ (.slice B1 p.ans.env.length d1) (.inl (by simp))
  have CS1 := Lib.hid (show rowAt (wc1.setCell ⟨q1, 37, none⟩ (.slice B1 p.ans.env.length d1)) q1 28 (anL p.ans (.slice B1 p.ans.env.length d1)).toArray from (by have hh := CR1.out.1; rw [← hX1] at hh; have h2 := hh.set 37 (.slice B1 p.ans.env.length d1); rw [anL_setE han] at h2; exact h2))
  have CT1 := Lib.hid (show cpAt w (wc1.setCell ⟨q1, 37, none⟩ (.slice B1 p.ans.env.length d1)) b p _ _ _ _ _ from ⟨ks.row CR1.out.2.row (by have := HBQ1.out; simp; omega), ks.row CR1.out.2.res (by have := HBQ1.out; simp; omega), CR1.out.2.kp.setCell _ _ (.inr (by have := HBQ1.out; have := HB.out.2; show w.heap.size ≤ q1; omega))⟩)
  have EC1 := Lib.hid (EB1.out.1.keepS ks (fun y hy => by have := EB1.out.2 y hy; simpa using this))
  have Ec := Lib.hid (Eb.out.keepS ks (fun y hy => by have := (E0.out.2 y hy).2; have := HTH1.out.2.2; simp; omega))
  obtain ⟨wd1, hwd1⟩ : ∃ q, wc1.setCell ⟨q1, 37, none⟩ (.slice B1 p.ans.env.length d1) = q := ⟨_, rfl⟩
  rw [hwd1] at CS1 CT1 EC1 Ec ⊢
  obtain ⟨Y1, hY1⟩ : ∃ X, anL p.ans (.slice B1 p.ans.env.length d1) = X := ⟨_, rfl⟩
  rw [hY1] at CS1
  have HY1 := Lib.hid (show Y1.length = 38 ∧ (∀ u ∈ Y1, u.oneCell' = true) by rw [← hY1]; exact ⟨anL_len han, anL_one _ rfl⟩)
  have HJ1 := Lib.hid (show (Tryz.prog.info? 28).map (·.size) = some Y1.length by rw [HY1.out.1]; exact info_an)
  have HTB1 := Lib.hid (CT1.out.row.there (o := 44) (n := Y1.length) (by rw [HY1.out.1, List.size_toArray, pkL_len hrn han]; decide))
  clear hX1 hwd1 ks ye fe CR1 EB1 CQ1 hq1 Eb Ea
  go_upto_region 7 with (first
    | (refine wpList_load_mid rfl 28 (.tmp 4) rfl q1 0 rfl Y1 _ CS1.out.rangeAll Tryz.underlying28 rfl HJ1.out ?_)
    | (refine wpList_store_mid rfl 28 (.tmp 20) (.tmp 19) rfl b 44 Y1.toArray rfl rfl (by rw [List.size_toArray]; exact HTB1.out) (by rw [List.size_toArray]; exact HJ1.out) (all_oneCell_toArray HY1.out.2) ?_))
  have D1 := Lib.hid (CT1.out.put HB.out.2 44 Y1 (by rw [← hY1]; exact pkL_putAR hrn han _))
  have kz : keepBut [b] wd1 (wd1.setCells b 44 Y1) := (keepBut.refl [b] wd1).setL (.inl (by simp))
  have E1 := Lib.hid (EC1.out.keep kz)
  have Ed := Lib.hid (Ec.out.keep kz)
  obtain ⟨we1, hwe1⟩ : ∃ q, wd1.setCells b 44 Y1 = q := ⟨_, rfl⟩
  rw [hwe1] at D1 E1 Ed ⊢
  clear hY1 kz hwe1 CS1 CT1 EC1 HTB1 Ec
  -- the configuration
  have P2 := D1.out.row.pk hrn han
  have x82 := P2.d0
  have x83 := P2.d1
  have x84 := P2.d2
  clear P2
  go_upto_region 8 with (first
    | (go_at_call 87; refine (copyConfD F p.conf _ _ (hv.out.cc.keep D1.out.kp (by simp)) hf.c).mono ?_; rintro e w7 ⟨u0, G2, rfl, ⟨B2, d2, q2, rfl, i0⟩, n0, kk0⟩; dsimp only [cfL]; have C1 := Lib.hid (D1.out.over kk0); have P3 := C1.out.row.pk hrn han; have y82 := P3.d0; have y83 := P3.d1; have y84 := P3.d2; have f82 := C1.out.row.free 82; have f83 := C1.out.row.free 83; have f84 := C1.out.row.free 84; have E4 := Lib.hid (And.intro (Ed.out.over kk0) (E1.out.over kk0)); have F4 : Hid (cpI b w7 G2 _ p.conf.chain) := Lib.hid ⟨⟨B2, d2, q2, rfl, i0⟩, newB.of n0 D1.out.res.lt⟩; clear i0 n0 kk0 x82 x83 x84 P3))
  have D3 := Lib.hid (((C1.out.set HB.out.2 82 _ (pkL_setT hrn han (.int .i64 0)).1).set HB.out.2 83 _ (pkL_setT hrn han (.int .i64 0)).2.1).set HB.out.2 84 (.slice B2 p.conf.chain.length d2) (pkL_setT hrn han _).2.2.1)
  have kc := ((kset w7 b 82 (.int .i64 p.conf.num)).setCell ⟨b, 83, none⟩ (.int .i64 p.conf.full) (.inl (by simp))).setCell ⟨b, 84, none⟩ (.slice B2 p.conf.chain.length d2) (.inl (by simp))
  have E5 := Lib.hid (And.intro (E4.out.1.keep kc) (And.intro (E4.out.2.keep kc) (F4.out.keep kc)))
  obtain ⟨w8, hw8⟩ : ∃ w8, ((w7.setCell ⟨b, 82, none⟩ (.int .i64 p.conf.num)).setCell ⟨b, 83, none⟩ (.int .i64 p.conf.full)).setCell ⟨b, 84, none⟩ (.slice B2 p.conf.chain.length d2) = w8 := ⟨_, rfl⟩
  rw [hw8] at D3 E5 ⊢
  clear hw8 kc E4 F4 E1 Ed C1 y82 y83 y84 f82 f83 f84 D1
  -- the votes
  have x85 := (D3.out.row.pk hrn han).d3
  go_upto_region 9 with (first
    | (go_at_call 88; refine (copyVotesD F p.votes _ _ (hv.out.vs.keep D3.out.kp (by simp)) hf.v hf.vc).mono ?_; rintro e w9 ⟨u0, G3, rfl, ⟨V, cV, gV, TV, rfl, i0⟩, n0, kk0⟩; have C1 := Lib.hid (D3.out.over kk0); have y85 := (C1.out.row.pk hrn han).d3; have f85 := C1.out.row.free 85; have E6 := Lib.hid (And.intro (E5.out.1.over kk0) (And.intro (E5.out.2.1.over kk0) (E5.out.2.2.over kk0))); have V6 : Hid (votesV w9 G3 (.slice V p.votes.length cV) p.votes ∧ newB b w9 G3) := Lib.hid ⟨⟨V, cV, gV, TV, rfl, i0⟩, newB.of n0 D3.out.res.lt⟩; clear i0 n0 kk0 x85))
  have D4 := Lib.hid (C1.out.set HB.out.2 85 (.slice V p.votes.length cV) (pkL_setT hrn han _).2.2.2.1)
  have k9 := kset w9 b 85 (.slice V p.votes.length cV)
  have E7 := Lib.hid (And.intro (E6.out.1.keep k9) (And.intro (E6.out.2.1.keep k9) (And.intro (E6.out.2.2.keep k9) (And.intro (V6.out.1.keep k9 V6.out.2.far) (V6.out.2.keep k9)))))
  obtain ⟨wA, hwA⟩ : ∃ wA, w9.setCell ⟨b, 85, none⟩ (.slice V p.votes.length cV) = wA := ⟨_, rfl⟩
  rw [hwA] at D4 E7 ⊢
  clear hwA k9 y85 f85 C1 E6 V6 E5 D3
  -- the bytes
  have x86 := (D4.out.row.pk hrn han).d4
  go_upto_region 10 with (first
    | (go_at_call 27; refine (copyBytesD F _ p.bytes _ (hv.out.bs.keep D4.out.kp (by simp)) hf.b).mono ?_; rintro e wB ⟨u0, G4, rfl, ⟨B4, d4, q4, rfl, i0⟩, n0, kk0⟩; have C1 := Lib.hid (D4.out.over kk0); have y86 := (C1.out.row.pk hrn han).d4; have f86 := C1.out.row.free 86; have E8 := Lib.hid (And.intro (E7.out.1.over kk0) (And.intro (E7.out.2.1.over kk0) (And.intro (E7.out.2.2.1.over kk0) (And.intro (E7.out.2.2.2.1.keep kk0 (by simp)) (E7.out.2.2.2.2.keep kk0))))); have F9 : Hid (cpB b wB G4 _ p.bytes) := Lib.hid ⟨⟨B4, d4, q4, rfl, i0⟩, newB.of n0 D4.out.res.lt⟩; clear i0 n0 kk0 x86))
  have D6 := Lib.hid (C1.out.set HB.out.2 86 (.slice B4 p.bytes.length d4) (pkL_setT hrn han (.slice B4 p.bytes.length d4)).2.2.2.2)
  have kz := kset wB b 86 (.slice B4 p.bytes.length d4)
  have EZ := Lib.hid (And.intro (E8.out.1.keep kz) (And.intro (E8.out.2.1.keep kz) (And.intro (E8.out.2.2.1.keep kz) (And.intro (F9.out.keep kz) (And.intro (E8.out.2.2.2.1.keep kz E8.out.2.2.2.2.far) (E8.out.2.2.2.2.keep kz))))))
  obtain ⟨wZ, hwZ⟩ : ∃ wZ, wB.setCell ⟨b, 86, none⟩ (.slice B4 p.bytes.length d4) = wZ := ⟨_, rfl⟩
  rw [hwZ] at D6 EZ ⊢
  clear hwZ kz y86 f86 C1 E8 F9 E7 D4
  obtain ⟨X, hX⟩ : ∃ X, pkL p (.slice B0 p.req.env.length d0) (.slice B1 p.ans.env.length d1) (.slice B2 p.conf.chain.length d2) (.slice V p.votes.length cV) (.slice B4 p.bytes.length d4) = X := ⟨_, rfl⟩
  have hlen : X.length = 87 := by rw [← hX]; exact pkL_len hrn han
  have hone : ∀ u ∈ X, u.oneCell' = true := by rw [← hX]; exact pkL_one rfl rfl rfl rfl rfl
  have hrow := D6.out.row
  rw [hX] at hrow
  have rz := hrow.rangeAll
  have rs := D6.out.res.setL (vs := X) (o := 0)
  rw [putL_all (by rw [hlen]; rfl)] at rs
  have ks := (keepBut.refl [b + 1] wZ).setL (vs := X) (g := b + 1) (o := 0) (by simp)
  have ks' := D6.out.kp.setL (vs := X) (g := b + 1) (o := 0) (.inr (by have := HB.out.1; omega))
  have ht := D6.out.res.there (o := 0) (n := X.toArray.size) (by rw [List.size_toArray, hlen]; exact Nat.le_refl _)
  have hI : (Tryz.prog.info? 34).map (·.size) = some X.length := by rw [hlen]; exact info_pk
  have hJ : (Tryz.prog.info? 34).map (·.size) = some X.toArray.size := by rw [List.size_toArray]; exact hI
  have HS := Lib.hid (And.intro rz (And.intro rs (And.intro ks (And.intro ht (And.intro hI (And.intro hJ ks'))))))
  have HC := Lib.hid (all_oneCell_toArray hone)
  have HX := Lib.hid hX
  clear rz rs ks ht hI hJ hlen hone ks' hX hrow
  go_wp2_with (first
    | (refine wpList_load_mid rfl 34 (.tmp 1) rfl b 0 rfl X _ HS.out.1 Tryz.underlying34 rfl HS.out.2.2.2.2.1 ?_)
    | (refine wpList_store_mid rfl 34 (.tmp 2) (.tmp 33) rfl (b + 1) 0 X.toArray rfl rfl HS.out.2.2.2.1 HS.out.2.2.2.2.2.1 HC.out ?_))
  refine bodyPost_ret (results_cell_row rfl _ _ (b + 1) 34 _ (0, 0) _ rfl HS.out.2.1 Tryz.underlying34 rfl HS.out.2.2.2.2.2.1) rfl ?_
  have hfarS : ∀ G, newB b wZ G → ∀ y ∈ G, y ∉ [b + 1] := fun G hG y hy => by have := (hG y hy).1; simp; omega
  refine ⟨G0 ++ (G1 ++ (G2 ++ (G3 ++ G4))), _, _, _, _, _, by rw [← HX.out], ⟨hrn, han, ?_, ?_, ?_, ?_, ?_⟩, ?_, HS.out.2.2.2.2.2.2⟩
  · exact (EZ.out.1.1.keep HS.out.2.2.1 (hfarS _ EZ.out.1.2)).more (fun y hy => by simp [hy])
  · exact (EZ.out.2.1.1.keep HS.out.2.2.1 (hfarS _ EZ.out.2.1.2)).more (fun y hy => by simp [hy])
  · exact (EZ.out.2.2.1.1.keep HS.out.2.2.1 (hfarS _ EZ.out.2.2.1.2)).more (fun y hy => by simp [hy])
  · exact (EZ.out.2.2.2.2.1.keep HS.out.2.2.1 (hfarS _ EZ.out.2.2.2.2.2)).more (fun y hy => by simp [hy])
  · exact (EZ.out.2.2.2.1.1.keep HS.out.2.2.1 (hfarS _ EZ.out.2.2.2.1.2)).more (fun y hy => by simp [hy])
  · have hall : newB b wZ (G0 ++ (G1 ++ (G2 ++ (G3 ++ G4)))) := fun y hy => by
      rcases List.mem_append.1 hy with hy | hy
      · exact EZ.out.1.2 y hy
      rcases List.mem_append.1 hy with hy | hy
      · exact EZ.out.2.1.2 y hy
      rcases List.mem_append.1 hy with hy | hy
      · exact EZ.out.2.2.1.2 y hy
      rcases List.mem_append.1 hy with hy | hy
      · exact EZ.out.2.2.2.2.2 y hy
      · exact EZ.out.2.2.2.1.2 y hy
    exact fun y hy => ⟨by have := (hall y hy).1; have := HB.out.1; omega, Nat.lt_of_lt_of_le (hall y hy).2 HS.out.2.2.1.size⟩
end Go.Proofs.YthfdkonhjpdflaaGreatDoor
end
