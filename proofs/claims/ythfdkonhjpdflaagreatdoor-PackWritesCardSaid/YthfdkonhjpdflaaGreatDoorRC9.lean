/-
  RC, 9: the document's CopyBytes, CopyInts, CopyConf.
-/
import Derived.Test.YthfdkonhjpdflaaGreatDoorRC3
import Derived.Test.YthfdkonhjpdflaaGreatDoorPkD
namespace Go.Proofs.YthfdkonhjpdflaaGreatDoor
open Go.RowKit
set_option linter.unusedVariables false
set_option maxRecDepth 100000
set_option linter.unusedSimpArgs false

set_option maxHeartbeats 1000000 in
theorem copyBytesD (F : List Nat) (v : Value) (l : List UInt8) (w : World) (h : bytesV w F v l) (hb : l.length ≤ 140737488355328) :
    Calls Tryz.prog 27 #[v] w fun e w' => ∃ u G, e = .returned u ∧ bytesV w' G u l ∧ newIn w w' G ∧ keepBut [] w w' := by
  obtain ⟨A, c, g, rfl, h2, h3, h4, h5⟩ := h
  obtain ⟨i0, hi0, hz0, hz1, hz2⟩ := info_parts infoU8c
  have H := Lib.hid (And.intro (seen.reads h4) (owns.nil w 5 1))
  clear h4 h5 h3
  go_enter Tryz.func27, Tryz.ntmps27
  go_wp2_with (at_builtin; refine wp_append _ rfl _ _ 24 rfl 5 i0 (.int .u8 0) 1 1 Tryz.underlying24 hi0 hz0 hz1 hz2 rfl (by decide) (.slice none 0 0) 0 [] rfl H.out.2 A g l.length c _ (by simp [Act.eval]) H.out.1 (by intro u hu; simp at hu; obtain ⟨b, _, rfl⟩ := hu; rfl) (by omega) (by unfold maxLen; omega) ?_; intro A2 c2 w2 hown2 hkb2 hloc2)
  go_ret
  simp only [Nat.zero_add, List.nil_append] at hown2 hloc2 ⊢
  obtain ⟨A3, c3, e3, h31, h32, h33, h34⟩ := hown2.form
  injection e3 with e3a e3b e3c
  subst e3a e3c
  obtain ⟨g3, hg3⟩ := homes_one (.slice A2 l.length c2)
  refine ⟨_, homes (.slice A2 l.length c2), rfl, ⟨A2, c2, g3, rfl, h31, h32, reads.seenB (h34 g3 hg3), fun hne => ?_⟩, fun y hy => ⟨?_, h33 y hy⟩, hkb2.more (by simp [homes_none])⟩
  · obtain ⟨o, hA, _⟩ := (h34 g3 hg3).2 (List.length_pos_iff.2 hne)
    rw [hA]; simp [homes_some]
  · rcases hloc2 y hy with h | h
    · simp [homes_none] at h
    · exact h
set_option maxHeartbeats 1000000 in
theorem copyIntsD (F : List Nat) (v : Value) (l : List Int) (w : World) (h : intsV w F v l) (hb : l.length ≤ 17592186044416) :
    Calls Tryz.prog 137 #[v] w fun e w' => ∃ u G, e = .returned u ∧ intsV w' G u l ∧ newIn w w' G ∧ keepBut [] w w' := by
  obtain ⟨A, c, g, rfl, h2, h3, h4, h5⟩ := h
  obtain ⟨i0, hi0, hz0, hz1, hz2⟩ := info_parts infoIntc
  have H := Lib.hid (And.intro h4 (owns.nil w 3 1))
  clear h4 h5 h3
  go_enter Tryz.func137, Tryz.ntmps137
  go_wp2_with (at_builtin; refine wp_append _ rfl _ _ 29 rfl 3 i0 (.int .i64 0) 1 8 Tryz.underlying29 hi0 hz0 hz1 hz2 rfl (by decide) (.slice none 0 0) 0 [] rfl H.out.2 A g l.length c _ (by simp [Act.eval]) H.out.1 (by intro u hu; simp at hu; obtain ⟨b, _, rfl⟩ := hu; rfl) (by omega) (by unfold maxLen; omega) ?_; intro A2 c2 w2 hown2 hkb2 hloc2)
  go_ret
  simp only [Nat.zero_add, List.nil_append] at hown2 hloc2 ⊢
  obtain ⟨A3, c3, e3, h31, h32, h33, h34⟩ := hown2.form
  injection e3 with e3a e3b e3c
  subst e3a e3c
  obtain ⟨g3, hg3⟩ := homes_one (.slice A2 l.length c2)
  refine ⟨_, homes (.slice A2 l.length c2), rfl, ⟨A2, c2, g3, rfl, h31, h32, h34 g3 hg3, fun hne => ?_⟩, fun y hy => ⟨?_, h33 y hy⟩, hkb2.more (by simp [homes_none])⟩
  · obtain ⟨o, hA, _⟩ := (h34 g3 hg3).2 (List.length_pos_iff.2 hne)
    rw [hA]; simp [homes_some]
  · rcases hloc2 y hy with h | h
    · simp [homes_none] at h
    · exact h
set_option maxHeartbeats 1000000 in
theorem copyConfD (F : List Nat) (c : CF) (cv : Value) (w : World) (h : intsV w F cv c.chain) (hb : c.chain.length ≤ 17592186044416) :
    Calls Tryz.prog 87 #[.agg (cfL c cv).toArray] w fun e w' => ∃ u G, e = .returned (.agg (cfL c u).toArray) ∧ intsV w' G u c.chain ∧ newIn w w' G ∧ keepBut [] w w' := by
  have hr0 := rowAt.new w 31 #[.int .i64 c.num, .int .i64 c.full, cv]
  have hr1 := rowAt.new (w.alloc (.cells #[.int .i64 c.num, .int .i64 c.full, cv] 31)) 31 #[.int .i64 0, .int .i64 0, .slice none 0 0]
  have hk0 := (keepBut.refl [] w).alloc (.cells #[.int .i64 c.num, .int .i64 c.full, cv] 31)
  have hk1 := (keepBut.refl [] (w.alloc (.cells #[.int .i64 c.num, .int .i64 c.full, cv] 31))).alloc (.cells #[.int .i64 0, .int .i64 0, .slice none 0 0] 31)
  have hr0' := hk1.row hr0 (by simp)
  have h' := (h.keep hk0 (by simp)).keep hk1 (by simp)
  have hk := hk0.then hk1 (by simp)
  rw [World.size_alloc] at hr1
  obtain ⟨A, cc, g, rfl, h2⟩ := h
  unfold cfL
  generalize hW : (w.alloc (.cells #[.int .i64 c.num, .int .i64 c.full, .slice A c.chain.length cc] 31)).alloc (.cells #[.int .i64 0, .int .i64 0, .slice none 0 0] 31) = w1 at *
  have c2 : w1.cell? ⟨w.heap.size, 2, none⟩ = some (.slice A c.chain.length cc) := hr0'.cell 2
  have H := Lib.hid (And.intro hr0' (And.intro hr1 (And.intro h' hk)))
  have HW := Lib.hid hW
  clear hr0 hr1 hk0 hk1 hr0' h' hk hW h2
  go_enter Tryz.func87, Tryz.ntmps87
  go_upto_region 1 with fail
  rw [HW.out]
  go_wp2_with fail
  refine (copyIntsD F _ _ _ H.out.2.2.1 hb).mono ?_; rintro e w2 ⟨v, G, rfl, ⟨A2, n2, g2, rfl, i2, i3, i5, i6⟩, hG, hk2⟩
  have r0 := hk2.row H.out.1 (by simp)
  have r1 := hk2.row H.out.2.1 (by simp)
  have a0 : w2.cell? ⟨w.heap.size, 0, none⟩ = some (.int .i64 c.num) := r0.cell 0
  have a1 : w2.cell? ⟨w.heap.size, 1, none⟩ = some (.int .i64 c.full) := r0.cell 1
  have a2 : w2.cell? ⟨w.heap.size, 2, none⟩ = some (.slice A c.chain.length cc) := r0.cell 2
  have f2 : w2.frozen? ⟨w.heap.size, 2, none⟩ = false := r0.free 2
  have b0 : w2.cell? ⟨w.heap.size + 1, 0, none⟩ = some (.int .i64 0) := r1.cell 0
  have b1 : w2.cell? ⟨w.heap.size + 1, 1, none⟩ = some (.int .i64 0) := r1.cell 1
  have b2 : w2.cell? ⟨w.heap.size + 1, 2, none⟩ = some (.slice none 0 0) := r1.cell 2
  have e0 : w2.frozen? ⟨w.heap.size + 1, 0, none⟩ = false := r1.free 0
  have e1 : w2.frozen? ⟨w.heap.size + 1, 1, none⟩ = false := r1.free 1
  have e2 : w2.frozen? ⟨w.heap.size + 1, 2, none⟩ = false := r1.free 2
  have hgg := H.out.1.lt
  have H2 := Lib.hid (And.intro hG (And.intro hk2 (And.intro i2 (And.intro i3 (And.intro i5 i6)))))
  clear r0 r1 hG hk2 i2 i3 i5 i6 c2 hgg
  go_wp2
  refine bodyPost_ret (v := .agg #[.int .i64 c.num, .int .i64 c.full, .slice A2 c.chain.length n2]) (by simp [results, Tryz.results87, go_sem, *]) rfl ?_
  obtain ⟨hG, hk2, i2, i3, i5, i6⟩ := H2.out
  have hs1 := H.out.2.1.lt
  have k4 := ((((keepBut.refl [w.heap.size, w.heap.size + 1] w2).setCell ⟨w.heap.size, 2, none⟩ (.slice A2 c.chain.length n2) (by simp)).setCell ⟨w.heap.size + 1, 0, none⟩ (.int .i64 c.num) (by simp)).setCell ⟨w.heap.size + 1, 1, none⟩ (.int .i64 c.full) (by simp)).setCell ⟨w.heap.size + 1, 2, none⟩ (.slice A2 c.chain.length n2) (by simp)
  have hh : intsV w2 G (.slice A2 c.chain.length n2) c.chain := ⟨A2, n2, g2, rfl, i2, i3, i5, i6⟩
  have hkk := (H.out.2.2.2.then hk2 (by simp)).then k4 (by simp)
  refine ⟨_, G, rfl, hh.keep k4 (fun y hy => ?_), fun y hy => ⟨?_, Nat.lt_of_lt_of_le (hG y hy).2 k4.size⟩, hkk⟩
  · have := (hG y hy).1; simp; omega
  · have := (hG y hy).1; omega
end Go.Proofs.YthfdkonhjpdflaaGreatDoor
