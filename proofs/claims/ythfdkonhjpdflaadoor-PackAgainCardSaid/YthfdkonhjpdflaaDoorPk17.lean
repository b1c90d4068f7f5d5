/-
  PACK, 17: copies of lists.
-/
import Derived.Test.YthfdkonhjpdflaaDoorPk15
namespace Go.Proofs.YthfdkonhjpdflaaDoor
open Go.RowKit
set_option linter.unusedVariables false
set_option maxRecDepth 100000

theorem reads.seenB {w : World} {A : Option Addr} {g : Nat} {l : List UInt8} (h : reads w A g l.length 1 (l.map bv)) : seen w A g l := fun hl => by
  obtain ⟨o, e1, e2, e3⟩ := h.2 (List.length_pos_iff.2 hl)
  exact ⟨o, e1, e2, fun j b hb => e3 j (bv b) (by rw [List.getElem?_map, hb]; rfl)⟩
/-- where a copy lies: in blocks that were not there -/
def newIn (w w' : World) (G : List Nat) : Prop := ∀ y ∈ G, w.heap.size ≤ y ∧ y < w'.heap.size
theorem infoU8c : (Tryd.prog.info? 5).map (fun i => (i.zero, i.size, i.bytes)) = some (some (.int .u8 0), 1, 1) := by kernel_rfl
theorem infoIntc : (Tryd.prog.info? 3).map (fun i => (i.zero, i.size, i.bytes)) = some (some (.int .i64 0), 1, 8) := by kernel_rfl
set_option maxHeartbeats 1000000 in
theorem copiedB_any (F : List Nat) (v : Value) (l : List UInt8) (w : World) (h : bytesV w F v l) (hb : l.length ≤ 1000000) :
    Calls Tryd.prog 58 #[v] w fun e w' => ∃ u G, e = .returned u ∧ bytesV w' G u l ∧ newIn w w' G ∧ keepBut [] w w' := by
  obtain ⟨A, c, g, rfl, h2, h3, h4, h5⟩ := h
  obtain ⟨i0, hi0, hz0, hz1, hz2⟩ := info_parts infoU8c
  have H := Lib.hid (And.intro (seen.reads h4) (owns.nil w 5 1))
  clear h4 h5 h3
  go_enter Tryd.func58, Tryd.ntmps58
  go_wp2_with (at_builtin; refine wp_append _ rfl _ _ 23 rfl 5 i0 (.int .u8 0) 1 1 Tryd.underlying23 hi0 hz0 hz1 hz2 rfl (by decide) (.slice none 0 0) 0 [] rfl H.out.2 A g l.length c _ (by simp [Act.eval]) H.out.1 (by intro u hu; simp at hu; obtain ⟨b, _, rfl⟩ := hu; rfl) (by omega) (by unfold maxLen; omega) ?_; intro A2 c2 w2 hown2 hkb2 hloc2)
  go_ret
  simp only [Nat.zero_add, List.nil_append] at hown2 hloc2 ⊢
  obtain ⟨A3, c3, e3, h31, h32, h33, h34⟩ := hown2.form
  injection e3 with e3a e3b e3c
  subst e3a e3c
  obtain ⟨g3, hg3⟩ := homes_one (.slice A2 l.length c2)
  refine ⟨_, homes (.slice A2 l.length c2), rfl, ⟨A2, c2, g3, rfl, h31, h32, reads.seenB (h34 g3 hg3), fun hne => ?_⟩, fun y hy => ⟨?_, h33 y hy⟩, hkb2.more (by simp [homes_none])⟩
  · obtain ⟨o, hA, _⟩ := (h34 g3 hg3).2 (List.length_pos_iff.2 hne)
    rw [hA]; simp [homes_some]
  · rcases hloc2 y hy with h | h
    · simp [homes_none] at h
    · exact h
set_option maxHeartbeats 1000000 in
theorem copiedI_any (F : List Nat) (v : Value) (l : List Int) (w : World) (h : intsV w F v l) (hb : l.length ≤ 1000000) :
    Calls Tryd.prog 92 #[v] w fun e w' => ∃ u G, e = .returned u ∧ intsV w' G u l ∧ newIn w w' G ∧ keepBut [] w w' := by
  obtain ⟨A, c, g, rfl, h2, h3, h4, h5⟩ := h
  obtain ⟨i0, hi0, hz0, hz1, hz2⟩ := info_parts infoIntc
  have H := Lib.hid (And.intro h4 (owns.nil w 3 1))
  clear h4 h5 h3
  go_enter Tryd.func92, Tryd.ntmps92
  go_wp2_with (at_builtin; refine wp_append _ rfl _ _ 33 rfl 3 i0 (.int .i64 0) 1 8 Tryd.underlying33 hi0 hz0 hz1 hz2 rfl (by decide) (.slice none 0 0) 0 [] rfl H.out.2 A g l.length c _ (by simp [Act.eval]) H.out.1 (by intro u hu; simp at hu; obtain ⟨b, _, rfl⟩ := hu; rfl) (by omega) (by unfold maxLen; omega) ?_; intro A2 c2 w2 hown2 hkb2 hloc2)
  go_ret
  simp only [Nat.zero_add, List.nil_append] at hown2 hloc2 ⊢
  obtain ⟨A3, c3, e3, h31, h32, h33, h34⟩ := hown2.form
  injection e3 with e3a e3b e3c
  subst e3a e3c
  obtain ⟨g3, hg3⟩ := homes_one (.slice A2 l.length c2)
  refine ⟨_, homes (.slice A2 l.length c2), rfl, ⟨A2, c2, g3, rfl, h31, h32, h34 g3 hg3, fun hne => ?_⟩, fun y hy => ⟨?_, h33 y hy⟩, hkb2.more (by simp [homes_none])⟩
  · obtain ⟨o, hA, _⟩ := (h34 g3 hg3).2 (List.length_pos_iff.2 hne)
    rw [hA]; simp [homes_some]
  · rcases hloc2 y hy with h | h
    · simp [homes_none] at h
    · exact h
set_option maxHeartbeats 1000000 in
theorem copyConf_any (F : List Nat) (c : CF) (cv : Value) (w : World) (h : intsV w F cv c.chain) (hb : c.chain.length ≤ 1000000) :
    Calls Tryd.prog 59 #[.agg (cfL c cv).toArray] w fun e w' => ∃ u G, e = .returned (.agg (cfL c u).toArray) ∧ intsV w' G u c.chain ∧ newIn w w' G ∧ keepBut [] w w' := by
  have hr0 := rowAt.new w 35 #[.int .i64 c.num, .int .i64 c.full, cv]
  have hr1 := rowAt.new (w.alloc (.cells #[.int .i64 c.num, .int .i64 c.full, cv] 35)) 35 #[.int .i64 0, .int .i64 0, .slice none 0 0]
  have hk0 := (keepBut.refl [] w).alloc (.cells #[.int .i64 c.num, .int .i64 c.full, cv] 35)
  have hk1 := (keepBut.refl [] (w.alloc (.cells #[.int .i64 c.num, .int .i64 c.full, cv] 35))).alloc (.cells #[.int .i64 0, .int .i64 0, .slice none 0 0] 35)
  have hr0' := hk1.row hr0 (by simp)
  have h' := (h.keep hk0 (by simp)).keep hk1 (by simp)
  have hk := hk0.then hk1 (by simp)
  rw [World.size_alloc] at hr1
  obtain ⟨A, cc, g, rfl, h2⟩ := h
  unfold cfL
  generalize hW : (w.alloc (.cells #[.int .i64 c.num, .int .i64 c.full, .slice A c.chain.length cc] 35)).alloc (.cells #[.int .i64 0, .int .i64 0, .slice none 0 0] 35) = w1 at *
  have c2 : w1.cell? ⟨w.heap.size, 2, none⟩ = some (.slice A c.chain.length cc) := hr0'.cell 2
  have H := Lib.hid (And.intro hr0' (And.intro hr1 (And.intro h' hk)))
  have HW := Lib.hid hW
  clear hr0 hr1 hk0 hk1 hr0' h' hk hW h2
  go_enter Tryd.func59, Tryd.ntmps59
  go_upto_region 1 with fail
  rw [HW.out]
  go_wp2_with fail
  refine (copiedI_any F _ _ _ H.out.2.2.1 hb).mono ?_; rintro e w2 ⟨v, G, rfl, ⟨A2, n2, g2, rfl, i2, i3, i5, i6⟩, hG, hk2⟩
  have r0 := hk2.row H.out.1 (by simp)
  have r1 := hk2.row H.out.2.1 (by simp)
  have a0 : w2.cell? ⟨w.heap.size, 0, none⟩ = some (.int .i64 c.num) := r0.cell 0
  have a1 : w2.cell? ⟨w.heap.size, 1, none⟩ = some (.int .i64 c.full) := r0.cell 1
  have a2 : w2.cell? ⟨w.heap.size, 2, none⟩ = some (.slice A c.chain.length cc) := r0.cell 2
  have f2 : w2.frozen? ⟨w.heap.size, 2, none⟩ = false := r0.free 2
  have b0 : w2.cell? ⟨w.heap.size + 1, 0, none⟩ = some (.int .i64 0) := r1.cell 0
  have b1 : w2.cell? ⟨w.heap.size + 1, 1, none⟩ = some (.int .i64 0) := r1.cell 1
  have b2 : w2.cell? ⟨w.heap.size + 1, 2, none⟩ = some (.slice none 0 0) := r1.cell 2
  have e0 : w2.frozen? ⟨w.heap.size + 1, 0, none⟩ = false := r1.free 0
  have e1 : w2.frozen? ⟨w.heap.size + 1, 1, none⟩ = false := r1.free 1
  have e2 : w2.frozen? ⟨w.heap.size + 1, 2, none⟩ = false := r1.free 2
  have hgg := H.out.1.lt
  have H2 := Lib.hid (And.intro hG (And.intro hk2 (And.intro i2 (And.intro i3 (And.intro i5 i6)))))
  clear r0 r1 hG hk2 i2 i3 i5 i6 c2 hgg
  go_wp2
  refine bodyPost_ret (v := .agg #[.int .i64 c.num, .int .i64 c.full, .slice A2 c.chain.length n2]) (by simp [results, Tryd.results59, go_sem, *]) rfl ?_
  obtain ⟨hG, hk2, i2, i3, i5, i6⟩ := H2.out
  have hs1 := H.out.2.1.lt
  have k4 := ((((keepBut.refl [w.heap.size, w.heap.size + 1] w2).setCell ⟨w.heap.size, 2, none⟩ (.slice A2 c.chain.length n2) (by simp)).setCell ⟨w.heap.size + 1, 0, none⟩ (.int .i64 c.num) (by simp)).setCell ⟨w.heap.size + 1, 1, none⟩ (.int .i64 c.full) (by simp)).setCell ⟨w.heap.size + 1, 2, none⟩ (.slice A2 c.chain.length n2) (by simp)
  have hh : intsV w2 G (.slice A2 c.chain.length n2) c.chain := ⟨A2, n2, g2, rfl, i2, i3, i5, i6⟩
  have hkk := (H.out.2.2.2.then hk2 (by simp)).then k4 (by simp)
  refine ⟨_, G, rfl, hh.keep k4 (fun y hy => ?_), fun y hy => ⟨?_, Nat.lt_of_lt_of_le (hG y hy).2 k4.size⟩, hkk⟩
  · have := (hG y hy).1; simp; omega
  · have := (hG y hy).1; omega
theorem flatVT_one : ∀ T : List (VT × Value), (∀ t ∈ T, t.2.oneCell' = true) → ∀ u ∈ flatVT T, u.oneCell' = true
  | [], _, u, hu => by simp [flatVT] at hu
  | t :: r, h, u, hu => by
    simp only [flatVT, List.mem_append, vtL, cfL, List.mem_cons, List.not_mem_nil, or_false] at hu
    rcases hu with (rfl | rfl | rfl | rfl) | hu
    · rfl
    · rfl
    · rfl
    · exact h t (by simp)
    · exact flatVT_one r (fun t ht => h t (by simp [ht])) u hu
theorem infoVTc : (Tryd.prog.info? 69).map (fun i => (i.zero, i.size, i.bytes)) = some (some (.agg #[.int .i64 0, .int .i64 0, .int .i64 0, .slice none 0 0]), 4, 48) := by kernel_rfl
/-- a list of votes in a row of its own: filled up to n, of the parts T -/
def votesRow (w : World) (A : Option Addr) (n c : Nat) (T : List (VT × Value)) : Prop := owns w 69 4 (.slice A n c) n (flatVT T)
set_option maxHeartbeats 1000000 in
theorem copiedV_any (A : Option Addr) (g c : Nat) (l : List VT) (T : List (VT × Value)) (w : World) (h2 : l.length ≤ c) (h5 : reads w A g l.length 4 (flatVT T)) (h6 : ∀ t ∈ T, t.2.oneCell' = true) (hb : l.length ≤ 1000000) :
    Calls Tryd.prog 60 #[.slice A l.length c] w fun e w' => ∃ A c, e = .returned (.slice A l.length c) ∧ votesRow w' A l.length c T ∧ (∀ y ∈ homes (.slice A l.length c), w.heap.size ≤ y) ∧ keepBut [] w w' := by
  obtain ⟨i0, hi0, hz0, hz1, hz2⟩ := info_parts infoVTc
  have H := Lib.hid (And.intro h5 (And.intro (owns.nil w 69 4) (flatVT_one T h6)))
  clear h5 h6
  go_enter Tryd.func60, Tryd.ntmps60
  go_wp2_with (at_builtin; refine wp_append _ rfl _ _ 36 rfl 69 i0 (.agg #[.int .i64 0, .int .i64 0, .int .i64 0, .slice none 0 0]) 4 48 Tryd.underlying36 hi0 hz0 hz1 hz2 rfl (by decide) (.slice none 0 0) 0 [] rfl H.out.2.1 A g l.length c _ (by simp [Act.eval]) H.out.1 H.out.2.2 (by omega) (by unfold maxLen; omega) ?_; intro A2 c2 w2 hown2 hkb2 hloc2)
  go_ret
  simp only [Nat.zero_add, List.nil_append] at hown2 hloc2 ⊢
  refine ⟨A2, c2, rfl, hown2, fun y hy => ?_, hkb2.more (by simp [homes_none])⟩
  rcases hloc2 y hy with h | h
  · simp [homes_none] at h
  · exact h
theorem flatVT_get : ∀ (T : List (VT × Value)) (j : Nat), (flatVT T)[j]? = (T[j / 4]?).bind fun t => (vtL t.1 t.2)[j % 4]?
  | [], j => by simp [flatVT]
  | t :: r, j => by
    rw [flatVT]
    by_cases h : j < 4
    · rw [List.getElem?_append_left (by simp [vtL, cfL]; omega), show j / 4 = 0 by omega, show j % 4 = j by omega]
      rfl
    · have hl : (vtL t.1 t.2).length = 4 := rfl
      rw [List.getElem?_append_right (by omega), hl, flatVT_get r (j - 4), show j / 4 = (j - 4) / 4 + 1 by omega, show j % 4 = (j - 4) % 4 by omega, List.getElem?_cons_succ]
theorem flatVT_set {T : List (VT × Value)} {i : Nat} {a : VT} {old u : Value} (hT : T[i]? = some (a, old)) {cur : Array Value} {n : Nat} (hn : T.length = n) (hc : n * 4 ≤ cur.size) (hr : cur.toList.take (n * 4) = flatVT T) :
    (putL cur (i * 4 + 1) [.int .i64 a.conf.num, .int .i64 a.conf.full, u]).toList.take (n * 4) = flatVT (T.set i (a, u)) := by
  have hi : i < T.length := (List.getElem?_eq_some_iff.1 hT).1
  apply List.ext_getElem?
  intro j
  rw [flatVT_get, List.getElem?_take]
  by_cases hj : j < n * 4
  · rw [if_pos hj, Array.getElem?_toList, putL_get _ _ _ _ (by simp; omega)]
    have ho : cur[j]? = (T[j / 4]?).bind fun t => (vtL t.1 t.2)[j % 4]? := by
      rw [← flatVT_get, ← hr, List.getElem?_take, if_pos hj, Array.getElem?_toList]
    by_cases hq : j / 4 = i
    · subst hq
      rw [List.getElem?_set_self hi]
      by_cases h0 : j % 4 = 0
      · rw [if_neg (by simp only [List.length_cons, List.length_nil]; omega), ho, hT, h0]; rfl
      · rw [if_pos (by simp only [List.length_cons, List.length_nil]; omega)]
        have h3 : j % 4 < 4 := Nat.mod_lt _ (by omega)
        rw [show j - (j / 4 * 4 + 1) = j % 4 - 1 by omega]
        rcases (by omega : j % 4 = 1 ∨ j % 4 = 2 ∨ j % 4 = 3) with e | e | e <;> rw [e] <;> rfl
    · rw [if_neg (by simp only [List.length_cons, List.length_nil]; omega), ho, List.getElem?_set_ne (fun h => hq h.symm)]
  · rw [if_neg hj]
    cases hk : (T.set i (a, u))[j / 4]? with
    | none => rfl
    | some t =>
      have := (List.getElem?_eq_some_iff.1 hk).1
      rw [List.length_set] at this
      omega
end Go.Proofs.YthfdkonhjpdflaaDoor
