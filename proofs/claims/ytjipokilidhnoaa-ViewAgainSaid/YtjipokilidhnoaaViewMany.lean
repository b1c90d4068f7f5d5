/-
  VIEW: Many.
-/
import Derived.Test.YtjipokilidhnoaaViewNode
namespace Go.Proofs.Ytjipokilidhnoaa
open Go.RowKit Go.Shelf
set_option linter.unusedVariables false
set_option maxRecDepth 100000
attribute [local go_sem] Oper.semAt_some

/-- how many rows of a kind there are -/
def manyC (k : Int) (L : List VR) : Nat := (L.filter (fun r => r.kind == k)).length
def manyA (L : List VR) : Array Value := #[.int .i64 (manyC 1 L : Int), .int .i64 (manyC 2 L : Int), .int .i64 (manyC 3 L : Int)]
def manyPost (l : List VR) (w : World) (e : Ending) (w' : World) : Prop := e = .returned (.agg (manyA l)) ∧ keepBut [] w w'
theorem manyC_add (k : Int) (L : List VR) (r : VR) : manyC k (L ++ [r]) = manyC k L + if r.kind = k then 1 else 0 := by
  unfold manyC
  rw [List.filter_append, List.length_append]
  by_cases h : r.kind = k
  · simp [h]
  · simp [h]
theorem manyC_le (k : Int) (L : List VR) : manyC k L ≤ L.length := List.length_filter_le _ _
theorem manyA_add {L : List VR} {r : VR} {k : Nat} (hk : r.kind = (k : Int) + 1) (h3 : k < 3) : manyA (L ++ [r]) = (manyA L).setIfInBounds k (.int .i64 ((manyC ((k : Int) + 1) L : Int) + 1)) := by
  unfold manyA
  have e : k = 0 ∨ k = 1 ∨ k = 2 := by omega
  rcases e with rfl | rfl | rfl <;> · rw [manyC_add, manyC_add, manyC_add, hk]; rfl
def manyI (w : World) (W : World) (rows : List VR) : Prop := rowAt W (w.heap.size + 1 + 1) 43 (manyA rows) ∧ rowAt W (w.heap.size + 1) 43 #[.int .i64 0, .int .i64 0, .int .i64 0] ∧ w.heap.size + 4 < W.heap.size ∧ Below w.heap.size w W
theorem manyI.grown {w W W' : World} {B : Nat} {rows : List VR} {row : Option Nat} (h : manyI w W rows) (hB : w.heap.size ≤ B) (hg : W.grownBy W' row) (hr : ∀ r, row = some r → B ≤ r ∧ ∃ o : Obj, W.heap[r]? = some o ∧ o.isCells = false) : manyI w W' rows := by
  obtain ⟨h1, h2, h5, h4⟩ := h
  have hr' : ∀ r, row = some r → ∃ o : Obj, W.heap[r]? = some o ∧ o.isCells = false := fun r e => (hr r e).2
  exact ⟨h1.grown hg hr', h2.grown hg hr', Nat.lt_of_lt_of_le h5 hg.size, h4.grown hg h4.size (fun k e => Nat.le_trans hB (hr k e).1)⟩
set_option maxHeartbeats 4000000 in
theorem manyV_any (p : Nat) (F : List Nat) (l : List VR) (m : Int) (w : World) (h : isV w p F l) (hl : l.length ≤ 20000) (hk : ∀ r ∈ l, 1 ≤ r.kind ∧ r.kind ≤ 3) :
    Calls Try.prog 17 #[.pointer (some ⟨p, 0, none⟩), .int .i64 m] w (manyPost (l.filter (fun r => r.node == m)) w) := by
  have ka1 := (keepBut.refl [] w).alloc (.cells #[.int .i64 m] 3)
  have hx1 := rowAt.new w 3 #[.int .i64 m]
  obtain ⟨wa, hwa⟩ : ∃ wa, w.alloc (.cells #[.int .i64 m] 3) = wa := ⟨_, rfl⟩
  rw [hwa] at ka1 hx1
  have ka2 := ka1.alloc (.cells #[.int .i64 0, .int .i64 0, .int .i64 0] 43)
  have hx2 := rowAt.new wa 43 #[.int .i64 0, .int .i64 0, .int .i64 0]
  have hx1b := ((keepBut.refl [] wa).alloc (.cells #[.int .i64 0, .int .i64 0, .int .i64 0] 43)).row hx1 (by simp)
  obtain ⟨wb, hwb⟩ : ∃ wb, wa.alloc (.cells #[.int .i64 0, .int .i64 0, .int .i64 0] 43) = wb := ⟨_, rfl⟩
  rw [hwb] at ka2 hx2 hx1b
  have ka3 := ka2.alloc (.cells #[.int .i64 0, .int .i64 0, .int .i64 0] 43)
  have hx3 := rowAt.new wb 43 #[.int .i64 0, .int .i64 0, .int .i64 0]
  have kb := (keepBut.refl [] wb).alloc (.cells #[.int .i64 0, .int .i64 0, .int .i64 0] 43)
  have hx1c := kb.row hx1b (by simp)
  have hx2c := kb.row hx2 (by simp)
  obtain ⟨wc, hwc⟩ : ∃ wc, wb.alloc (.cells #[.int .i64 0, .int .i64 0, .int .i64 0] 43) = wc := ⟨_, rfl⟩
  rw [hwc] at ka3 hx3 hx1c hx2c
  have sza : wa.heap.size = w.heap.size + 1 := by rw [← hwa]; simp
  have szb : wb.heap.size = w.heap.size + 1 + 1 := by rw [← hwb, World.size_alloc, sza]
  rw [sza] at hx2c
  rw [szb] at hx3
  have hvc := h.over ka3
  have HW := Lib.hid (And.intro hwa (And.intro hwb hwc))
  have HH := Lib.hid (And.intro h (And.intro hvc (And.intro ka3 (And.intro hx1c (And.intro hx2c hx3)))))
  clear h hvc ka1 ka2 ka3 kb hx1 hx2 hx1b hx1c hx2c hx3 hwa hwb hwc
  have hfn : ∀ k, Fence.wide.fn k := fun _ => trivial
  refine (callsIn_wide (n := 10)).1 ?_
  refine callsIn_of_wp_marks Try.func17 rfl trivial ?_ rfl
  simp only [Try.ntmps17, List.size_toArray, List.length_cons, List.length_nil, Nat.reduceAdd, Nat.reduceSub, Array.replicate_succ, Array.replicate_zero, List.push_toArray, List.append_toArray, List.nil_append, List.cons_append]
  gi_wp2_with fail
  rw [HW.out.1, HW.out.2.1, HW.out.2.2]
  refine (callsIn_wide.2 (noneV_any p F l _ HH.out.2.1)).mono ?_
  rintro e w' ⟨rfl, rfl⟩
  gi_wp2_with fail
  refine (eachR_in Fence.wide 9 (hfn _) rfl _ _ _ rfl).mono ?_
  rintro e w3 ⟨rfl, k3, c31, c32⟩
  have szc : wc.heap.size = w.heap.size + 3 := by rw [← HW.out.2.2, World.size_alloc, szb]
  rw [szc] at c31 c32 ⊢
  obtain ⟨hv0, hv, hkc, hx1, hx2, hx3⟩ := HH.out
  clear HH HW
  have k03 := hkc.then k3 (by simp)
  have hB3 : w.heap.size + 4 < w3.heap.size := World.block_lt_of_cell? w3 _ c32
  have hX3 : w3.cell? ⟨w.heap.size, 0, none⟩ = some (.int .i64 m) := (k3.row hx1 (by simp)).cell 0
  have hFl := hv0.lt
  have hI0 : manyI w w3 [] := ⟨k3.row hx3 (by simp), k3.row hx2 (by simp), hB3, k03.below _ (Nat.le_refl _) (by simp)⟩
  obtain ⟨vb, T, C, hvv, rfl⟩ := hv
  have hv3 := hvv.keep k3 (by simp)
  have hTl : T.length ≤ 20000 := by simpa using hl
  clear hl hv0 hkc hx1 hx2 hx3 k3 k03 szc
  gi_wp2_with fail
  refine wpIn_rangeFunc_ownH (w := w3) (w0 := w3) rfl (by omega) (gf := 60) (lb := #[.pointer (some ⟨w.heap.size + 3, 0, none⟩), .pointer (some ⟨w.heap.size + 3 + 1, 0, none⟩)]) rfl (hfn _) (enters_of Try.func60 (by kernel_rfl) rfl)
    (eachR_stops Fence.wide 9 44 (hfn _) (hfn _) (enters_of Try.func44 (by kernel_rfl) rfl) rfl (by omega) w3 (w.heap.size + 3) (w.heap.size + 3 + 1) w.heap.size p (.int .i64 m) F C vb T (fun r => r.node == m) hv3 hTl c31 c32 hX3 (fun W t ht hXW => by
      obtain ⟨⟨s, nd, kd, b⟩, tv⟩ := t
      obtain ⟨A', n', gb, ebv, -⟩ := id (hv3.byt _ ht)
      dsimp only at ebv
      subst ebv
      exact manyF_in Fence.wide 8 trivial rfl _ m s nd kd A' b.length n' W hXW))
    keepCells.trans (fun W l o o' _ h hc _ => keepCells.put _ W l o o' h hc) (Below.refl _ _) (fun _ => rfl)
    (fun (pre : List {t : VR × Value // t ∈ T}) W => manyI w W (pre.map (fun x => x.1.1)))
    (fun _ _ _ => False)
    (fun s A B row hs hg hr => by exact manyI.grown hs (by omega) hg hr)
    (fun _ _ _ _ _ hs _ _ => hs)
    hI0
    (fun (x : {t : VR × Value // t ∈ T}) a' W => ∃ b, rowAt W b 46 #[.int .i64 x.1.1.step, .int .i64 x.1.1.node, .int .i64 x.1.1.kind, x.1.2] ∧ a' = { tmps := #[.pointer (some ⟨p, 0, none⟩), .int .i64 m, undef, .pointer (some ⟨w.heap.size, 0, none⟩), .pointer (some ⟨w.heap.size + 1, 0, none⟩), .pointer (some ⟨w.heap.size + 1 + 1, 0, none⟩), .pointer (some ⟨b, 0, none⟩), .pointer (some ⟨p, 0, none⟩), .bool false, undef, .pointer (some ⟨p, 0, none⟩), .pointer (some ⟨p, 0, none⟩), .pointer (some ⟨p, 1, none⟩), .func (.func 44) #[] #[.pointer (some ⟨w.heap.size, 0, none⟩)], .agg #[.func (.func 44) #[] #[.pointer (some ⟨w.heap.size, 0, none⟩)]], .func (.func 60) #[] #[.pointer (some ⟨w.heap.size + 3, 0, none⟩), .pointer (some ⟨w.heap.size + 3 + 1, 0, none⟩)], rowT x.1, undef, undef, undef, undef, undef, undef, undef, undef], defers := [] })
    ?ax ?assign ?body ?done ?stop
  case ax =>
    rintro x a' s A B row ⟨b, hb, e⟩ hg hr
    exact ⟨b, hb.grown hg (fun r e => (hr r e).2), e⟩
  case assign =>
    rintro lo pre ⟨⟨⟨s, nd, kd, b⟩, tv⟩, ht⟩ W K hi hK
    obtain ⟨A', n', gb, ebv, -⟩ := id (hv3.byt _ ht)
    dsimp only at ebv
    subst ebv
    unfold rowT
    dsimp only
    gi_wp2_with fail
    exact hK _ _ ((KeepsOthers.alloc W _).from _) (keepCells.of_keep ((keepBut.refl [] W).alloc _) (by simp)) (hi.grown (Nat.le_refl _) (World.grownBy_alloc W _ none) (fun r e => by cases e)) ⟨_, rowAt.new W _ _, rfl⟩
  case body =>
    rintro lo pre ⟨⟨⟨s, nd, kd, b⟩, tv⟩, ht⟩ a' W hlo hrec ⟨hm, hz, hBW, hBl⟩ ⟨bx, hbx, rfl⟩ hpl
    have hkd := hk ⟨s, nd, kd, b⟩ (List.mem_map.2 ⟨_, ht, rfl⟩)
    dsimp only at hkd hbx
    have y2 : W.cell? ⟨bx, 2, none⟩ = some (.int .i64 kd) := hbx.cell 2
    have hl1 := manyC_le 1 (pre.map (fun x => x.1.1))
    have hl2 := manyC_le 2 (pre.map (fun x => x.1.1))
    have hl3 := manyC_le 3 (pre.map (fun x => x.1.1))
    rw [List.length_map] at hl1 hl2 hl3
    have z0 : W.cell? ⟨w.heap.size + 1 + 1, 0, none⟩ = some (.int .i64 (manyC 1 (pre.map (fun x => x.1.1)) : Int)) := hm.cell 0
    have z1 : W.cell? ⟨w.heap.size + 1 + 1, 1, none⟩ = some (.int .i64 (manyC 2 (pre.map (fun x => x.1.1)) : Int)) := hm.cell 1
    have z2 : W.cell? ⟨w.heap.size + 1 + 1, 2, none⟩ = some (.int .i64 (manyC 3 (pre.map (fun x => x.1.1)) : Int)) := hm.cell 2
    have f0 := hm.free 0
    have f1 := hm.free 1
    have f2 := hm.free 2
    have c1 := manyA_add (L := pre.map (fun x => x.1.1)) (r := ⟨s, nd, kd, b⟩) (k := 0)
    have c2 := manyA_add (L := pre.map (fun x => x.1.1)) (r := ⟨s, nd, kd, b⟩) (k := 1)
    have c3 := manyA_add (L := pre.map (fun x => x.1.1)) (r := ⟨s, nd, kd, b⟩) (k := 2)
    have HC := Lib.hid (And.intro c1 (And.intro c2 c3))
    have HB := Lib.hid (And.intro hm (And.intro hz (And.intro hBW (And.intro hBl (And.intro hv3 hFl)))))
    clear c1 c2 c3 hm hz hBl hv3 hvv hI0 c31 c32 hX3 hrec hk hbx hFl
    have e3 : kd = 1 ∨ kd = 2 ∨ kd = 3 := by omega
    have hno : ∀ (F : List Nat), (∀ y ∈ F, y < w.heap.size) → ∀ y ∈ (w.heap.size + 3) :: (w.heap.size + 3 + 1) :: w.heap.size :: F, y ∉ [w.heap.size + 1 + 1] := fun F hF y hy hm => by
      rw [List.mem_singleton] at hm
      subst hm
      simp only [List.mem_cons] at hy
      rcases hy with h | h | h | h
      · omega
      · omega
      · omega
      · have := hF _ h; omega
    unfold rowT
    dsimp only
    rcases e3 with rfl | rfl | rfl
    · gi_wp2_with fail
      have kk := (keepBut.refl [w.heap.size + 1 + 1] W).setCell ⟨w.heap.size + 1 + 1, 0, none⟩ (.int .i64 ((manyC 1 (pre.map (fun x => x.1.1)) : Int) + 1)) (by simp)
      refine ⟨(KeepsOthers.setCell _ _ _).from _, keepCells.of_keep kk (hno _ HB.out.2.2.2.2.2), ?_, kk.row HB.out.2.1 (by simp), Nat.lt_of_lt_of_le HB.out.2.2.1 kk.size, HB.out.2.2.2.1.trans (kk.below _ HB.out.2.2.2.1.size (by simp; omega))⟩
      rw [List.map_append]
      have hs := HB.out.1.set 0 (.int .i64 ((manyC 1 (pre.map (fun x => x.1.1)) : Int) + 1))
      rw [show List.map (fun x : {t : VR × Value // t ∈ T} => x.1.1) [⟨(⟨s, nd, 1, b⟩, tv), ht⟩] = [⟨s, nd, 1, b⟩] from rfl, HC.out.1 (by rfl) (by omega)]
      exact hs
    · gi_wp2_with fail
      have kk := (keepBut.refl [w.heap.size + 1 + 1] W).setCell ⟨w.heap.size + 1 + 1, 1, none⟩ (.int .i64 ((manyC 2 (pre.map (fun x => x.1.1)) : Int) + 1)) (by simp)
      refine ⟨(KeepsOthers.setCell _ _ _).from _, keepCells.of_keep kk (hno _ HB.out.2.2.2.2.2), ?_, kk.row HB.out.2.1 (by simp), Nat.lt_of_lt_of_le HB.out.2.2.1 kk.size, HB.out.2.2.2.1.trans (kk.below _ HB.out.2.2.2.1.size (by simp; omega))⟩
      rw [List.map_append]
      have hs := HB.out.1.set 1 (.int .i64 ((manyC 2 (pre.map (fun x => x.1.1)) : Int) + 1))
      rw [show List.map (fun x : {t : VR × Value // t ∈ T} => x.1.1) [⟨(⟨s, nd, 2, b⟩, tv), ht⟩] = [⟨s, nd, 2, b⟩] from rfl, HC.out.2.1 (by rfl) (by omega)]
      exact hs
    · gi_wp2_with fail
      have kk := (keepBut.refl [w.heap.size + 1 + 1] W).setCell ⟨w.heap.size + 1 + 1, 2, none⟩ (.int .i64 ((manyC 3 (pre.map (fun x => x.1.1)) : Int) + 1)) (by simp)
      refine ⟨(KeepsOthers.setCell _ _ _).from _, keepCells.of_keep kk (hno _ HB.out.2.2.2.2.2), ?_, kk.row HB.out.2.1 (by simp), Nat.lt_of_lt_of_le HB.out.2.2.1 kk.size, HB.out.2.2.2.1.trans (kk.below _ HB.out.2.2.2.1.size (by simp; omega))⟩
      rw [List.map_append]
      have hs := HB.out.1.set 2 (.int .i64 ((manyC 3 (pre.map (fun x => x.1.1)) : Int) + 1))
      rw [show List.map (fun x : {t : VR × Value // t ∈ T} => x.1.1) [⟨(⟨s, nd, 3, b⟩, tv), ht⟩] = [⟨s, nd, 3, b⟩] from rfl, HC.out.2.2 (by rfl) (by omega)]
      exact hs
  case done =>
    rintro D ys W hD hS ⟨hm, hz, hBW, hBl⟩ hK
    have z0 : W.cell? ⟨w.heap.size + 1 + 1, 0, none⟩ = some (.int .i64 (manyC 1 (ys.map (fun x => x.1.1)) : Int)) := hm.cell 0
    have z1 : W.cell? ⟨w.heap.size + 1 + 1, 1, none⟩ = some (.int .i64 (manyC 2 (ys.map (fun x => x.1.1)) : Int)) := hm.cell 1
    have z2 : W.cell? ⟨w.heap.size + 1 + 1, 2, none⟩ = some (.int .i64 (manyC 3 (ys.map (fun x => x.1.1)) : Int)) := hm.cell 2
    have q0 : W.cell? ⟨w.heap.size + 1, 0, none⟩ = some (.int .i64 0) := hz.cell 0
    have q1 : W.cell? ⟨w.heap.size + 1, 1, none⟩ = some (.int .i64 0) := hz.cell 1
    have q2 : W.cell? ⟨w.heap.size + 1, 2, none⟩ = some (.int .i64 0) := hz.cell 2
    have f0 := hz.free 0
    have f1 := hz.free 1
    have f2 := hz.free 2
    gi_wp2_with fail
    have k1 := (((keepBut.refl [w.heap.size + 1] W).setCell ⟨w.heap.size + 1, 0, none⟩ (.int .i64 (manyC 1 (ys.map (fun x => x.1.1)) : Int)) (by simp)).setCell ⟨w.heap.size + 1, 1, none⟩ (.int .i64 (manyC 2 (ys.map (fun x => x.1.1)) : Int)) (by simp)).setCell ⟨w.heap.size + 1, 2, none⟩ (.int .i64 (manyC 3 (ys.map (fun x => x.1.1)) : Int)) (by simp)
    have r1 := ((hz.set 0 (.int .i64 (manyC 1 (ys.map (fun x => x.1.1)) : Int))).set 1 (.int .i64 (manyC 2 (ys.map (fun x => x.1.1)) : Int))).set 2 (.int .i64 (manyC 3 (ys.map (fun x => x.1.1)) : Int))
    obtain ⟨W4, hW4⟩ : ∃ W4, (((W.setCell ⟨w.heap.size + 1, 0, none⟩ (.int .i64 (manyC 1 (ys.map (fun x => x.1.1)) : Int))).setCell ⟨w.heap.size + 1, 1, none⟩ (.int .i64 (manyC 2 (ys.map (fun x => x.1.1)) : Int))).setCell ⟨w.heap.size + 1, 2, none⟩ (.int .i64 (manyC 3 (ys.map (fun x => x.1.1)) : Int))) = W4 := ⟨_, rfl⟩
    rw [hW4] at k1 r1 ⊢
    have hK4 : W4.heap[D]? = some (.deferred (some [])) := (k1.block D (Array.getElem?_eq_some_iff.1 hK).1 (by simp; omega)).trans hK
    refine ⟨by simp, .inl ⟨_, _, rfl, run_takeDeferred hK4, ?_⟩⟩
    have hrows : ys.map (fun x => x.1.1) = (T.map (·.1)).filter (fun r => r.node == m) := by
      have h1 := congrArg (List.map (·.1)) hS
      rw [List.map_map] at h1
      rw [List.filter_map]
      exact h1
    have hBD := belowK_b (w := w) (Nat.le_refl _) W4 D _ (.deferred none) (by omega) hK4 rfl rfl
    have r2 := r1.grown (grownBy_putObj' W4 D (.deferred none)) (fun r e => by cases e; exact ⟨_, hK4, rfl⟩)
    refine ⟨_, results_cell_row rfl _ _ (w.heap.size + 1) 43 _ _ _ rfl r2 Try.underlying43 rfl (by kernel_rfl), ?_, keepBut_of_below ((hBl.trans (k1.below _ hBl.size (by simp))).trans hBD)⟩
    rw [← hrows]
    rfl
  case stop =>
    rintro D c pre W _ _ h _
    exact h.elim
end Go.Proofs.Ytjipokilidhnoaa
