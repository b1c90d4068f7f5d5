/-
  LEAD, 2: count.
-/
import Derived.Test.YtbjonlfjfjlelaaLeadCount
namespace Go.Proofs.Ytbjonlfjfjlelaa
open Go.RowKit Go.Shelf
set_option linter.unusedVariables false
set_option maxRecDepth 100000
attribute [local go_sem] Oper.semAt_some

set_option maxHeartbeats 1000000 in
theorem each_in (F : Fence) (n : Nat) (h86 : F.fn 86) (hro : F.round = none) (p0 : Option Addr) (w : World) :
    CallsIn F n Try.prog 86 #[.pointer p0] w fun e w' => e = .returned (.func (.func 87) #[] #[.pointer (some ⟨w.heap.size, 0, none⟩)]) ∧ w' = w.alloc (.cells #[.pointer p0] 113) := by
  refine callsIn_of_wp Try.func86 rfl h86 ?_ hro
  simp only [Try.ntmps86, List.size_toArray, List.length_cons, List.length_nil, Nat.reduceAdd, Nat.reduceSub, Array.replicate_succ, Array.replicate_zero, List.push_toArray, List.append_toArray, List.nil_append, List.cons_append]
  gi_wp2
  go_ret
  exact ⟨rfl, rfl⟩

theorem cellNew (W : World) (v : Value) (t : TypeId) : (W.alloc (.cells #[v] t)).cell? ⟨W.heap.size, 0, none⟩ = some v ∧ (W.alloc (.cells #[v] t)).frozen? ⟨W.heap.size, 0, none⟩ = false :=
  ⟨(rowAt.new W t #[v]).cell 0, (rowAt.new W t #[v]).free 0⟩
theorem cellUp {W : World} {a : Addr} {v : Value} (o : Obj) (h : W.cell? a = some v) : (W.alloc o).cell? a = some v := cell_kept h (World.grownBy_alloc W o none) (fun r e => by cases e)
theorem freeUp {W : World} {a : Addr} {v : Value} (o : Obj) (h : W.cell? a = some v) (hf : W.frozen? a = false) : (W.alloc o).frozen? a = false := (frozen_kept h (World.grownBy_alloc W o none) (fun r e => by cases e)).trans hf
theorem cell_none_of {W : World} {l : Nat} {o : Obj} (h : W.heap[l]? = some o) (hc : o.isCells = false) (j : Nat) : W.cell? ⟨l, j, none⟩ = none := by
  unfold World.cell?
  cases o <;> simp_all [Obj.isCells]
theorem keepTwo_t {p q : Addr} {u v : Value} {A B C : World} (h : keepTwo p q u v A B) (k : keepTwo p q u v B C) : keepTwo p q u v A C := ⟨fun x => k.1 (h.1 x), fun x => k.2 (h.2 x)⟩
theorem keepTwo_b {a b o : Nat} {u v : Value} (W : World) (l : Nat) (x x' : Obj) (h : W.heap[l]? = some x) (hc : x.isCells = false) : keepTwo ⟨a, 0, none⟩ ⟨b, o, none⟩ u v W (W.putObj l x') := by
  constructor
  · intro hu
    by_cases e : a = l
    · subst e; rw [cell_none_of h hc] at hu; cases hu
    · rw [← hu]; exact World.cell?_of_block (by simp only [World.putObj]; rw [Array.getElem?_setIfInBounds, if_neg (fun h => e h.symm)])
  · intro hu
    by_cases e : b = l
    · subst e; rw [cell_none_of h hc] at hu; cases hu
    · rw [← hu]; exact World.cell?_of_block (by simp only [World.putObj]; rw [Array.getElem?_setIfInBounds, if_neg (fun h => e h.symm)])

set_option maxHeartbeats 2000000 in
theorem count_in (F : Fence) (n : Nat) (h78 : F.fn 78) (h86 : F.fn 86) (h87 : F.fn 87) (hro : F.round = none) (hn : 3 ≤ n)
    (S o b : Nat) (hb : b ≤ 7) (w : World) (hS : w.cell? ⟨S, o, none⟩ = some (.int .u8 (b : Int))) :
    CallsIn F n Try.prog 78 #[.pointer (some ⟨S, o, none⟩)] w fun e W' => e = .returned (.int .i64 (countOf b : Int)) ∧ Below w.heap.size w W' := by
  have h1 : 1 ≤ n := by omega
  refine callsIn_of_wp_marks Try.func78 rfl h78 ?_ hro
  simp only [Try.ntmps78, List.size_toArray, List.length_cons, List.length_nil, Nat.reduceAdd, Nat.reduceSub, Array.replicate_succ, Array.replicate_zero, List.push_toArray, List.append_toArray, List.nil_append, List.cons_append]
  gi_wp2_with (gi_at_call 86; refine (each_in F (n - 1) h86 hro _ _).mono ?_; rintro e w' ⟨rfl, rfl⟩)
  have hlt := World.block_lt_of_cell? w _ hS
  have hs := cellNew w (.int .i64 0) 3
  have hb2 := cellNew (w.alloc (.cells #[.int .i64 0] 3)) (.pointer (some ⟨S, o, none⟩)) 113
  rw [World.size_alloc] at hb2
  have hB0 : Below w.heap.size w ((w.alloc (.cells #[.int .i64 0] 3)).alloc (.cells #[.pointer (some ⟨S, o, none⟩)] 113)) := ((Below.refl _ w).alloc (Nat.le_refl _) _).alloc (by simp) _
  have hS2 : ((w.alloc (.cells #[.int .i64 0] 3)).alloc (.cells #[.pointer (some ⟨S, o, none⟩)] 113)).cell? ⟨S, o, none⟩ = some (.int .u8 (b : Int)) := (hB0.cell (p := ⟨S, o, none⟩) hlt).trans hS
  refine wpIn_rangeFunc_ownF hro h1 (gf := 87) (lb := #[.pointer (some ⟨w.heap.size + 1, 0, none⟩)]) rfl h87 (enters_of Try.func87 (by kernel_rfl) rfl)
    (each1_stops F (n - 1) h87 hro (by omega) _ (w.heap.size + 1) S o b hb hb2.1 hS2 (by simp) (by simp at hlt ⊢; omega)) keepTwo_t (fun W l x x' _ h hc _ => keepTwo_b W l x x' h hc) (Below.refl _ _) (fun _ => rfl)
    (fun pre W => (W.cell? ⟨w.heap.size, 0, none⟩ = some (.int .i64 (pre.length : Int)) ∧ W.frozen? ⟨w.heap.size, 0, none⟩ = false) ∧ Below w.heap.size w W)
    (fun _ _ _ => False)
    (OwnFrom.and (Own.from (fun s A B row hs hg hr => ⟨cell_kept hs.1 hg hr, (frozen_kept hs.1 hg hr).trans hs.2⟩) _) (ownFrom_below (Nat.le_refl _) (by simp; omega)))
    (fun _ _ _ _ _ hs _ _ => hs)
    ⟨⟨cellUp _ hs.1, freeUp _ hs.1 hs.2⟩, hB0⟩
    (fun x => { tmps := #[.pointer (some ⟨S, o, none⟩), undef, .int .i64 0, .pointer (some ⟨w.heap.size, 0, none⟩), .pointer (some ⟨S, o, none⟩), .func (.func 87) #[] #[.pointer (some ⟨w.heap.size + 1, 0, none⟩)], .int .i64 (x : Int), undef, undef, undef], defers := [] }) ?assign ?body ?done ?stop
  case assign =>
    intro l x W K hK
    gi_wp2
    exact hK
  case body =>
    rintro l pre x W ⟨⟨hc, hf⟩, hB⟩ hpl
    have hpl' : (pre.length : Int) ≤ 3 := by omega
    have H := Lib.hid hB
    clear hB
    gi_wp2
    have hk := (keepBut.refl [w.heap.size] W).setCell ⟨w.heap.size, 0, none⟩ (.int .i64 ((pre.length : Int) + 1)) (by simp)
    refine ⟨KeepsOthers.setCell _ _ _, ⟨fun h => (hk.cell (p := ⟨w.heap.size + 1, 0, none⟩) (World.block_lt_of_cell? W _ h) (by simp)).trans h, fun h => (hk.cell (p := ⟨S, o, none⟩) (World.block_lt_of_cell? W _ h) (by simp; omega)).trans h⟩,
      ⟨?_, by rw [World.frozen?_setCell]; exact hf⟩, H.out.setCell (p := ⟨w.heap.size, 0, none⟩) (Nat.le_refl _) _⟩
    rw [World.cell?_setCell_same' _ _ _ (by rw [hc]; rfl), List.length_append]
    rfl
  case done =>
    rintro D ys W hD rfl ⟨⟨hc, _⟩, hB⟩ hK
    gi_wp2
    refine ⟨by simp, .inl ⟨_, _, rfl, run_takeDeferred hK, ?_⟩⟩
    exact ⟨_, results_tmp rfl _ _ _, rfl, hB.trans (belowK_b (w := w) (Nat.le_refl _) W D _ _ (by simp at hD; omega) hK rfl rfl)⟩
  case stop =>
    rintro D c pre W _ _ h _
    exact h.elim

theorem keepBut_of_below {a b : World} (h : Below a.heap.size a b) : keepBut [] a b := by
  obtain ⟨h1, h2, h3, h4, h5⟩ := h
  exact ⟨h1, h2, h3, h4, fun k hk _ => h5 k hk⟩
/-- how many masters are in the set -/
theorem count_any (S o b : Nat) (hb : b ≤ 7) (w : World) (hS : w.cell? ⟨S, o, none⟩ = some (.int .u8 (b : Int))) :
    Calls Try.prog 78 #[.pointer (some ⟨S, o, none⟩)] w fun e W' => e = .returned (.int .i64 (countOf b : Int)) ∧ keepBut [] w W' :=
  (callsIn_wide.1 (count_in Fence.wide 10 trivial trivial trivial rfl (by omega) S o b hb w hS)).mono fun _ _ ⟨h, k⟩ => ⟨h, keepBut_of_below k⟩
end Go.Proofs.Ytbjonlfjfjlelaa
