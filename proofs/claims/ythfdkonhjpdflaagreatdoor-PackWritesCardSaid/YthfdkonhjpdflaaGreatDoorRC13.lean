/-
  RC, 13: the document's CopyVotes.
-/
import Derived.Test.YthfdkonhjpdflaaGreatDoorRC9
import Derived.Test.YthfdkonhjpdflaaGreatDoorPkD
namespace Go.Proofs.YthfdkonhjpdflaaGreatDoor
open Go.RowKit
set_option linter.unusedVariables false
set_option maxRecDepth 100000
set_option linter.unusedSimpArgs false

/-- the votes that were copied up to i -/
structure cvIs (w : World) (l : List VT) (v : Value) (wx : World) (i : Nat) (T : List (VT × Value)) (G : List Nat) : Prop where
  m : T.map (·.1) = l.take i
  n : T.length = i
  own : owns wx 69 4 v i (flatVT T)
  its : ∀ t ∈ T, intsV wx G t.2 t.1.conf.chain
  kept : keepBut [] w wx
  far : ∀ y ∈ G, w.heap.size ≤ y ∧ y < wx.heap.size ∧ y ∉ homes v
  new : ∀ x ∈ homes v, w.heap.size ≤ x
def cvRel (w : World) (l : List VT) (v3 v4 : Value) (wx : World) : Prop := ∃ (i : Nat) (T : List (VT × Value)) (G : List Nat), i ≤ l.length ∧ v4 = .int .i64 (i : Int) ∧ cvIs w l v3 wx i T G
theorem flatVT_app : ∀ T U : List (VT × Value), flatVT (T ++ U) = flatVT T ++ flatVT U
  | [], _ => rfl
  | t :: r, U => by
    show vtL t.1 t.2 ++ flatVT (r ++ U) = (vtL t.1 t.2 ++ flatVT r) ++ flatVT U
    rw [flatVT_app r U, List.append_assoc]
theorem cvIs.step {w wr w5 w7 : World} {l : List VT} {v v7 : Value} {i : Nat} {T : List (VT × Value)} {G G5 : List Nat} {a : VT} {u : Value} (h : cvIs w l v wr i T G) (ha : l[i]? = some a)
    (k5 : keepBut [] wr w5) (hu : intsV w5 G5 u a.conf.chain) (hG : newIn wr w5 G5)
    (own7 : owns w7 69 4 v7 (i + 1) (flatVT T ++ vtL a u)) (k7 : keepBut (homes v) (w5.alloc (.cells (vtL a u).toArray 69)) w7)
    (h7 : ∀ x ∈ homes v7, x ∈ homes v ∨ (w5.alloc (.cells (vtL a u).toArray 69)).heap.size ≤ x) : cvIs w l v7 w7 (i + 1) (T ++ [(a, u)]) (G ++ G5) := by
  have ka := (keepBut.refl [] w5).alloc (.cells (vtL a u).toArray 69)
  have s0 := h.kept.size
  have s5 := k5.size
  have s7 := k7.size
  rw [World.size_alloc] at s7 h7
  have hlt := h.own.lt
  have kk : keepBut (homes v) wr w7 := ((k5.then ka (by simp)).more (by simp)).then k7 (fun x hx => .inl hx)
  refine ⟨by rw [List.map_append, h.m, List.take_add_one, ha]; rfl, by rw [List.length_append, h.n]; rfl, by rw [flatVT_app]; simpa [flatVT] using own7, fun t ht => ?_, h.kept.then kk (fun x hx => .inr (h.new x hx)), fun y hy => ?_, fun x hx => ?_⟩
  · rcases List.mem_append.1 ht with ht | ht
    · exact ((h.its t ht).keep kk (fun y hy => (h.far y hy).2.2)).more (fun y hy => List.mem_append_left _ hy)
    · simp only [List.mem_singleton] at ht
      subst ht
      exact ((hu.keep ka (by simp)).keep k7 (fun y hy hm => by have := hlt y hm; have := (hG y hy).1; omega)).more (fun y hy => List.mem_append_right _ hy)
  · rcases List.mem_append.1 hy with hy | hy
    · have f := h.far y hy
      refine ⟨f.1, by omega, fun hm => ?_⟩
      rcases h7 y hm with h1 | h1
      · exact f.2.2 h1
      · omega
    · have g := hG y hy
      refine ⟨by omega, by omega, fun hm => ?_⟩
      rcases h7 y hm with h1 | h1
      · have := hlt y h1; omega
      · omega
  · rcases h7 x hx with h1 | h1
    · exact h.new x h1
    · omega
theorem cvIs.done {w wx : World} {l : List VT} {v : Value} {T : List (VT × Value)} {G : List Nat} (h : cvIs w l v wx l.length T G) : ∃ G', votesV wx G' v l ∧ newIn w wx G' := by
  obtain ⟨A, c, rfl, h1, h2, h3, h4⟩ := h.own.form
  obtain ⟨g, hg⟩ := homes_one (.slice A l.length c)
  refine ⟨G ++ homes (.slice A l.length c), ⟨A, c, g, T, rfl, h1, h2, by rw [h.m, List.take_length], h4 g hg, fun t ht => (h.its t ht).more (fun y hy => List.mem_append_left _ hy), fun hne => ?_⟩, fun y hy => ?_⟩
  · obtain ⟨o, hA, _⟩ := (h4 g hg).2 (List.length_pos_iff.2 hne)
    rw [hA]; simp [homes_some]
  · rcases List.mem_append.1 hy with hy | hy
    · exact ⟨(h.far y hy).1, (h.far y hy).2.1⟩
    · exact ⟨h.new y hy, h3 y hy⟩
set_option maxHeartbeats 8000000 in
theorem copyVotesD (F : List Nat) (l : List VT) (v : Value) (w : World) (h : votesV w F v l) (hb : l.length ≤ 2932031007402) (hcb : ∀ v ∈ l, v.conf.chain.length ≤ 17592186044416) :
    Calls Tryz.prog 88 #[v] w fun e w' => ∃ u G, e = .returned u ∧ votesV w' G u l ∧ newIn w w' G ∧ keepBut [] w w' := by
  obtain ⟨A, c, gA, TA, rfl, _, hc, _⟩ := id h
  obtain ⟨L, hL⟩ : ∃ L, l.length = L := ⟨_, rfl⟩
  have HA := Lib.hid h
  have HB := Lib.hid hcb
  have HS0 : Hid (cvRel w l (.slice none 0 0) (.int .i64 0) w) := Lib.hid ⟨0, [], [], by omega, rfl, by simp, rfl, owns.nil _ _ _, by simp, keepBut.refl _ _, by simp, by simp [homes_none]⟩
  rw [hL] at HA hb ⊢
  have HL := Lib.hid hL
  obtain ⟨i0, hi0, hz0, hz1, hz2⟩ := info_parts infoVTc
  clear h hL hcb hc
  go_enter Tryz.func88, Tryz.ntmps88
  go_upto_region 3 with fail
  go_loopw [3, 4] (fun v3 v4 wx => cvRel w l v3 v4 wx) (fun _ v4 _ => L - (intOf v4).toNat)
  case atStart => exact HS0.out
  case round =>
    obtain ⟨i, T, G, hi, rfl, hI⟩ := hrel
    rw [HL.out] at hi
    by_cases hlt : i < L
    · have hlt' : (i : Int) < (L : Int) := by omega
      obtain ⟨a, ha⟩ : ∃ a, l[i]? = some a := ⟨_, List.getElem?_eq_getElem (by rw [HL.out]; omega)⟩
      obtain ⟨g, o, cv, rfl, hgl, _, hcv, x0, x1, x2, x3⟩ := (HA.out.keep hI.kept (by simp)).at ha
      have hgw : g < w.heap.size := by
        obtain ⟨g2, o2, _, e2, h2, _⟩ := HA.out.at ha
        injection e2 with e2
        injection e2 with e2
        rw [e2]; exact h2
      have hnh : g ∉ homes u3 := fun hm => by have := hI.new g hm; omega
      have hal : a.conf.chain.length ≤ 17592186044416 := HB.out a (List.mem_of_getElem? ha)
      have HR := Lib.hid (And.intro hI (And.intro ha hcv))
      have hw1 : IntKind.i64.wrap ((i : Int) + 1) = (i : Int) + 1 := by rw [IntKind.wrap_i64]; omega
      clear hI ha hcv
      obtain ⟨ab, an, af, al⟩ := a
      dsimp only at x0 x1 x2 x3 hal
      obtain ⟨CA, cc, cg, rfl, _⟩ := id HR.out.2.2
      dsimp only at x3
      have HC := Lib.hid (copyConfD F ⟨an, af, al⟩ _ wr.drew (HR.out.2.2.keep (keepBut.refl [] wr).drew (by simp)) hal)
      have HFO := Lib.hid HR.out.1.own.form
      go_upto_region 5 with fail
      go_region_held3 (fun w' => w'.cell? ⟨g, o + i * 4, none⟩ = some (.int .i64 ab) ∧ w'.cell? ⟨g, o + i * 4 + 1, none⟩ = some (.int .i64 an) ∧ w'.cell? ⟨g, o + i * 4 + 2, none⟩ = some (.int .i64 af) ∧ w'.cell? ⟨g, o + i * 4 + 3, none⟩ = some (.slice CA al.length cc)) (first | exact ⟨x0, x1, x2, x3⟩ | exact ⟨y0, y1, y2, y3⟩ | exact ⟨z0, z1, z2, z3⟩ | exact ⟨q0, q1, q2, q3⟩)
        (first
          | (go_at_call 87; refine HC.out.mono ?_; rintro e w5 ⟨u, G5, rfl, hu5, hG5, k5⟩; obtain ⟨UA, uc, ug, rfl, _⟩ := id hu5; dsimp only [cfL]; have hkd := ((keepBut.refl [] wr).drew).then k5 (by simp); have y0 := (hkd.cell (p := ⟨g, o + i * 4, none⟩) hgl (by simp)).trans x0; have y1 := (hkd.cell (p := ⟨g, o + i * 4 + 1, none⟩) hgl (by simp)).trans x1; have y2 := (hkd.cell (p := ⟨g, o + i * 4 + 2, none⟩) hgl (by simp)).trans x2; have y3 := (hkd.cell (p := ⟨g, o + i * 4 + 3, none⟩) hgl (by simp)).trans x3; have hgl5 := Nat.lt_of_lt_of_le hgl hkd.size; have ka5 := (keepBut.refl [] w5).alloc (.cells #[.int .i64 ab, .int .i64 an, .int .i64 af, .slice UA al.length uc] 69); have z0 := (ka5.cell (p := ⟨g, o + i * 4, none⟩) hgl5 (by simp)).trans y0; have z1 := (ka5.cell (p := ⟨g, o + i * 4 + 1, none⟩) hgl5 (by simp)).trans y1; have z2 := (ka5.cell (p := ⟨g, o + i * 4 + 2, none⟩) hgl5 (by simp)).trans y2; have z3 := (ka5.cell (p := ⟨g, o + i * 4 + 3, none⟩) hgl5 (by simp)).trans y3; have hgl6 := Nat.lt_of_lt_of_le hgl5 ka5.size)
          | (refine step_append _ rfl (.tmp 11) (.tmp 24) 32 rfl 69 i0 _ 4 48 Tryz.underlying32 hi0 hz0 hz1 hz2 rfl (by decide) _ i (flatVT T) rfl ((HR.out.1.own.keep hkd (by simp)).keep ka5 (by simp)) (some ⟨w5.heap.size, 0, none⟩) w5.heap.size 1 1 _ rfl (reads_row w5 69 [.int .i64 ab, .int .i64 an, .int .i64 af, .slice UA al.length uc]) (by intro u hu; simp at hu; rcases hu with rfl | rfl | rfl | rfl <;> rfl) (by omega) (by unfold maxLen; omega) ?_; intro A7 c7 w7 hown7 hkb7 hloc7; have q0 := (hkb7.cell (p := ⟨g, o + i * 4, none⟩) hgl6 hnh).trans z0; have q1 := (hkb7.cell (p := ⟨g, o + i * 4 + 1, none⟩) hgl6 hnh).trans z1; have q2 := (hkb7.cell (p := ⟨g, o + i * 4 + 2, none⟩) hgl6 hnh).trans z2; have q3 := (hkb7.cell (p := ⟨g, o + i * 4 + 3, none⟩) hgl6 hnh).trans z3))
      have HT := Lib.hid (HR.out.1.step (w5 := w5) (u := .slice UA al.length uc) (a := ⟨ab, an, af, al⟩) HR.out.2.1 hkd hu5 hG5 hown7 hkb7 hloc7)
      clear hown7 hkb7 hloc7 q0 q1 q2 q3 z0 z1 z2 z3 y0 y1 y2 y3 x0 x1 x2 x3 hkd ka5 k5 hu5 hG5 hi0 hz0 hz1 hz2
      go_wp2_with fail
      go_roundw
      case rel => exact ⟨i + 1, _, _, by rw [HL.out]; omega, by go_num, HT.out⟩
      case measure => simp [intOf]; omega
    · obtain rfl : i = L := by omega
      have hI' : cvIs w l u3 wr l.length T G := by rw [HL.out]; exact hI
      have HE := Lib.hid (And.intro hI'.done hI'.kept)
      clear hI hI'
      go_wp2_with fail
      go_ret
      obtain ⟨G', h1, h2⟩ := HE.out.1
      exact ⟨_, G', rfl, h1, h2, HE.out.2⟩
end Go.Proofs.YthfdkonhjpdflaaGreatDoor
