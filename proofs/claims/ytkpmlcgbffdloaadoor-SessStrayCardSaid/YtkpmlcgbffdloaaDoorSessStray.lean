/-
  SESSSTRAY: its walk.
-/
import Derived.Test.YtkpmlcgbffdloaaDoorSessStrayKit
import Derived.Test.YtkpmlcgbffdloaaDoorTrios
import Derived.Laws.Cover1
import Derived.Deep.RegionHeld3
import Derived.Deep.CutBlock
import Derived.Deep.DeepCutAuto
namespace Go.Proofs.YtkpmlcgbffdloaaDoor
open Go.RowKit
set_option linter.unusedVariables false
set_option maxRecDepth 100000
set_option linter.unusedSimpArgs false

theorem fld0 (v : Value) (w : World) : (Instr.field 41 (.agg #[.int .i64 0, .int .i64 0, v]) 0).run Tryd.prog w = .ok (.int .i64 0) w := by kernel_rfl
theorem lawQ.apart {w0 : World} {N S : List Nat} {w w' : World} {p q : Nat} {s : SS} (h : lawQ w0 N w p q s) (hk : keepBut S w w') (hS : ∀ y ∈ S, y ∈ N) (hf : ∀ y ∈ S, w0.heap.size ≤ y) : lawQ w0 N w' p q s :=
  ⟨h.on.keep hk hS, h.kept.then hk (fun x hx => .inr (hf x hx)), h.far, h.sz⟩
theorem lawQ.also {w0 w w1 : World} {p q : Nat} {s : SS} (h : lawQ w0 [] w p q s) {M : List Nat} (hk : keepBut [] w w1) (hM : ∀ y ∈ M, w.heap.size ≤ y ∧ y < w1.heap.size) : lawQ w0 M w1 p q s :=
  ⟨by have := h.on.also hk hM; rwa [List.nil_append] at this, h.kept.then hk (by simp), h.far, h.sz⟩
/-- both sessions, beside one another, behind k ticks -/
structure both (w : World) (p q p2 q2 : Nat) (k : Nat) (wx : World) : Prop where
  s : lawQ w [p2, q2] wx p q (agS 4 100000 k false)
  t : lawQ w [p, q] wx p2 q2 (agS 4 100000 k false)
theorem both.over {w : World} {p q p2 q2 k : Nat} {wx wy : World} (h : both w p q p2 q2 k wx) (hk : keepBut [] wx wy) : both w p q p2 q2 k wy := ⟨h.s.over hk, h.t.over hk⟩
set_option maxHeartbeats 16000000 in
theorem sessStray_law (A : Option Addr) (n c : Nat) (w : World) (hr : trios w A n) (hn : n ≤ c) (hc : c ≤ maxLen) (hsz : sizesAt w) :
    Calls Tryd.prog 7 #[.slice A n c] w fun e w' => e = .returned (.bool true) ∧ keepBut [] w w' := by
  have hnm : n ≤ 9223372036854775807 := by unfold maxLen at hc; omega
  have HSZ := Lib.hid hsz
  have HR := Lib.hid hr
  clear hr hn hc hsz
  go_enter Tryd.func7, Tryd.ntmps7
  go_wp2_with (first
    | (go_at_call 14; first
       | ((refine (begun_any [] 4 100000 w w (keepBut.refl _ _) HSZ.out (by simp) (by decide) (by decide)).mono ?_); rintro e w1 ⟨p, q, rfl, h1, k1, hp, hq⟩; rw [ag_start] at h1; have H1 := Lib.hid (And.intro h1 (And.intro k1 (And.intro hp hq))); clear h1 k1 hp hq)
       | ((refine (begun_any [p, q] 4 100000 w w1 H1.out.2.1 HSZ.out (by have := H1.out.1.on.lt; intro y hy; simp only [List.mem_cons, List.not_mem_nil, or_false] at hy; rcases hy with rfl | rfl <;> omega) (by decide) (by decide)).mono ?_); rintro e w2 ⟨p2, q2, rfl, h2, k2, hp2, hq2⟩; rw [ag_start] at h2; have H2 := Lib.hid (show both w p q p2 q2 0 w2 from ⟨H1.out.1.also k2 (fun y hy => by have := h2.on.lt; simp only [List.mem_cons, List.not_mem_nil, or_false] at hy; rcases hy with rfl | rfl <;> omega), h2⟩); clear h2 k2 hp2 hq2)))
  clear H1
  go_loopw [7, 8, 9, 10, 11, 12] (fun v7 v8 v9 v10 v11 v12 wx => ∃ i : Nat, v7 = .int .i64 (i : Int) ∧ Hid (i ≤ 60) ∧ Hid (both w p q p2 q2 i wx)) (fun v7 _ _ _ _ _ _ => 100 - (intOf v7).toNat)
  case atStart => exact ⟨0, rfl, Lib.hid (by omega), H2⟩
  case round =>
    clear H2
    obtain ⟨i, rfl, HI, HQ⟩ := hrel
    by_cases hi : i < 60 ∧ i < n
    · obtain ⟨hi40, hin⟩ := hi
      have h1 : (i : Int) < (n : Int) := by omega
      have h2 : (i : Int) < 60 := by omega
      have d2 : decide ((i : Int) < 60) = true := by simpa using h2
      have hwi : IntKind.i64.wrap ((i : Int) + 1) = (i : Int) + 1 := by rw [IntKind.wrap_i64]; omega
      obtain ⟨g, o, rfl, hg, hall⟩ := HR.out (by omega)
      obtain ⟨x0, x1, x2, cx0, cx1, cx2, wf0, wf1, wf2⟩ := (hall i hin).keep hg HQ.out.s.kept
      simp [Lit.wf, IntKind.min, IntKind.max, IntKind.signed, IntKind.bits] at wf0 wf1 wf2
      have B0 := Lib.hid (fun W => bring_any x0 16 wf0.1 wf0.2 (by decide) (by decide) W)
      have B1 := Lib.hid (fun W => bring_any x1 24 wf1.1 wf1.2 (by decide) (by decide) W)
      generalize x0 % 16 = y0 at *
      generalize x1 % 24 = y1 at *
      have HB := Lib.hid (And.intro hi40 (And.intro hin hg))
      have HX := Lib.hid (fun W (hk : keepBut [] wr W) => And.intro ((hk.cell (p := ⟨g, o + i * 3, none⟩) (Nat.lt_of_lt_of_le hg HQ.out.s.kept.size) (by simp)).trans cx0) (And.intro ((hk.cell (p := ⟨g, o + i * 3 + 1, none⟩) (Nat.lt_of_lt_of_le hg HQ.out.s.kept.size) (by simp)).trans cx1) ((hk.cell (p := ⟨g, o + i * 3 + 2, none⟩) (Nat.lt_of_lt_of_le hg HQ.out.s.kept.size) (by simp)).trans cx2)))
      clear wf0 wf1 wf2 hi40 hin hg hall cx0 cx1 cx2
      go_upto_region 8 with fail
      obtain ⟨Z, hZ⟩ : ∃ Z, pkL pkZero nilV nilV nilV nilV nilV = Z := ⟨_, rfl⟩
      have HZ := Lib.hid (show (Tryd.prog.info? 44).bind (·.zero) = some (.agg Z.toArray) ∧ Z.length = 87 by rw [← hZ]; exact ⟨zv_pk, pkZ_len⟩)
      clear hZ
      go_cut [8] (fun v8 wx => ∃ d cb : Nat, v8 = .pointer (some ⟨d, 0, none⟩) ∧ rowAt wx d 44 (pkL (stP y0 y1 x2) nilV nilV (.slice (some ⟨cb, 0, none⟩) 1 1) nilV nilV).toArray ∧ intsV wx [cb] (.slice (some ⟨cb, 0, none⟩) 1 1) [10] ∧ keepBut [] wr wx ∧ wr.heap.size ≤ cb ∧ wr.heap.size ≤ d ∧ cb ≠ d)
      case first =>
        have kW : keepBut [] wr wr.drew := (keepBut.refl [] wr).drew
        refine wp_region_held_drew (S := keepBut [] wr) (by kernel_rfl) kW (fun _ => ?_)
        generalize wr.drew = W0 at kW ⊢
        refine wpAnyH_take (i := 0) (oi := ⟨_, _, _, _, _, _⟩) (v := ?_) rfl (by kernel_rfl) (by kernel_rfl) (by kernel_rfl) (fun _ _ _ h => h) (Or.inl ⟨by rfl, ?_⟩) kW ?_
        rotate_left
        · intro w' hSw; clear hSw; (go_simp; try with_reducible rfl)
        try simp only [Act.put, List.setIfInBounds_toArray, List.set_cons_zero, List.set_cons_succ]
        refine wpAnyH_take (i := 1) (oi := ⟨_, _, _, _, _, _⟩) (v := ?_) rfl (by kernel_rfl) (by kernel_rfl) (by kernel_rfl) (fun _ _ _ h => h) (Or.inl ⟨by rfl, ?_⟩) kW ?_
        rotate_left
        · intro w' hSw; clear hSw; (go_simp; try with_reducible rfl)
        try simp only [Act.put, List.setIfInBounds_toArray, List.set_cons_zero, List.set_cons_succ]
        refine wpAnyH_take (i := 2) (oi := ⟨_, _, _, _, _, _⟩) (v := ?_) rfl (by kernel_rfl) (by kernel_rfl) (by kernel_rfl) (fun _ _ _ h => h) (Or.inl ⟨by rfl, ?_⟩) kW ?_
        rotate_left
        · intro w' hSw; clear hSw; (go_simp; try with_reducible rfl)
        try simp only [Act.put, List.setIfInBounds_toArray, List.set_cons_zero, List.set_cons_succ]
        refine wpAnyH_take (i := 3) (oi := ⟨_, _, _, _, _, _⟩) (v := ?_) rfl (by kernel_rfl) (by kernel_rfl) (by kernel_rfl) (fun _ _ _ h => h) (Or.inl ⟨by rfl, ?_⟩) kW ?_
        rotate_left
        · intro w' hSw; clear hSw; (go_simp; try with_reducible rfl)
        try simp only [Act.put, List.setIfInBounds_toArray, List.set_cons_zero, List.set_cons_succ]
        refine wpAnyH_take (i := 4) (oi := ⟨_, _, _, _, _, _⟩) (v := ?_) rfl (by kernel_rfl) (by kernel_rfl) (by kernel_rfl) (fun _ _ _ h => h) (Or.inl ⟨by rfl, ?_⟩) kW ?_
        rotate_left
        · intro w' hSw; have xc := (HX.out w' hSw).1; clear hSw; (go_simp; try with_reducible rfl)
        try simp only [Act.put, List.setIfInBounds_toArray, List.set_cons_zero, List.set_cons_succ]
        refine wpAnyH_take (i := 6) (oi := ⟨_, _, _, _, _, _⟩) (v := ?_) rfl (by kernel_rfl) (by kernel_rfl) (by kernel_rfl) (fun _ _ _ h => h) (Or.inl ⟨by rfl, ?_⟩) kW ?_
        rotate_left
        · intro w' hSw; clear hSw; (go_simp; try with_reducible rfl)
        try simp only [Act.put, List.setIfInBounds_toArray, List.set_cons_zero, List.set_cons_succ]
        refine wpAnyH_take (i := 7) (oi := ⟨_, _, _, _, _, _⟩) (v := ?_) rfl (by kernel_rfl) (by kernel_rfl) (by kernel_rfl) (fun _ _ _ h => h) (Or.inl ⟨by rfl, ?_⟩) kW ?_
        rotate_left
        · intro w' hSw; clear hSw; (go_simp; try with_reducible rfl)
        try simp only [Act.put, List.setIfInBounds_toArray, List.set_cons_zero, List.set_cons_succ]
        refine wpAnyH_take (i := 8) (oi := ⟨_, _, _, _, _, _⟩) (v := ?_) rfl (by kernel_rfl) (by kernel_rfl) (by kernel_rfl) (fun _ _ _ h => h) (Or.inl ⟨by rfl, ?_⟩) kW ?_
        rotate_left
        · intro w' hSw; clear hSw; (go_simp; try with_reducible rfl)
        try simp only [Act.put, List.setIfInBounds_toArray, List.set_cons_zero, List.set_cons_succ]
        refine wpAnyH_take (i := 9) (oi := ⟨_, _, _, _, _, _⟩) (v := ?_) rfl (by kernel_rfl) (by kernel_rfl) (by kernel_rfl) (fun _ _ _ h => h) (Or.inl ⟨by rfl, ?_⟩) kW ?_
        rotate_left
        · intro w' hSw; clear hSw; (go_simp; try with_reducible rfl)
        try simp only [Act.put, List.setIfInBounds_toArray, List.set_cons_zero, List.set_cons_succ]
        refine wpAnyH_take (i := 10) (oi := ⟨_, _, _, _, _, _⟩) (v := ?_) rfl (by kernel_rfl) (by kernel_rfl) (by kernel_rfl) (fun _ _ _ h => h) (Or.inl ⟨by rfl, ?_⟩) kW ?_
        rotate_left
        · intro w' hSw; have xc := (HX.out w' hSw).2.1; clear hSw; (go_simp; try with_reducible rfl)
        try simp only [Act.put, List.setIfInBounds_toArray, List.set_cons_zero, List.set_cons_succ]
        refine wpAnyH_take (i := 14) (oi := ⟨_, _, _, _, _, _⟩) (v := .agg (anL stA nilV).toArray) rfl (by kernel_rfl) (by kernel_rfl) (by kernel_rfl) (fun _ _ _ h => h) (yieldsIf_build 39 _ rfl ?_ _ ?_) kW ?_
        · rfl
        · simp only [List.map_toArray, List.map_cons, List.map_nil]
          exact build_stA
        try simp only [Act.put, List.setIfInBounds_toArray, List.set_cons_zero, List.set_cons_succ]
        refine wpAnyH_take (i := 16) (oi := ⟨_, _, _, _, _, _⟩) (v := ?_) rfl (by kernel_rfl) (by kernel_rfl) (by kernel_rfl) (fun _ _ _ h => h) (Or.inl ⟨by rfl, ?_⟩) kW ?_
        rotate_left
        · intro w' hSw; clear hSw; (go_simp; try with_reducible rfl)
        try simp only [Act.put, List.setIfInBounds_toArray, List.set_cons_zero, List.set_cons_succ]
        refine wpAnyH_take (i := 17) (oi := ⟨_, _, _, _, _, _⟩) (v := ?_) rfl (by kernel_rfl) (by kernel_rfl) (by kernel_rfl) (fun _ _ _ h => h) (Or.inl ⟨by rfl, ?_⟩) kW ?_
        rotate_left
        · intro w' hSw; clear hSw; (go_simp; try with_reducible rfl)
        try simp only [Act.put, List.setIfInBounds_toArray, List.set_cons_zero, List.set_cons_succ]
        refine wpAnyH_take (i := 18) (oi := ⟨_, _, _, _, _, _⟩) (v := ?_) rfl (by kernel_rfl) (by kernel_rfl) (by kernel_rfl) (fun _ _ _ h => h) (Or.inl ⟨by rfl, ?_⟩) kW ?_
        rotate_left
        · intro w' hSw; clear hSw; (go_simp; try with_reducible rfl)
        try simp only [Act.put, List.setIfInBounds_toArray, List.set_cons_zero, List.set_cons_succ]
        refine wpAnyH_take (i := 19) (oi := ⟨_, _, _, _, _, _⟩) (v := ?_) rfl (by kernel_rfl) (by kernel_rfl) (by kernel_rfl) (fun _ _ _ h => h) (Or.inl ⟨by rfl, ?_⟩) kW ?_
        rotate_left
        · intro w' hSw; clear hSw; (go_simp; try with_reducible rfl)
        try simp only [Act.put, List.setIfInBounds_toArray, List.set_cons_zero, List.set_cons_succ]
        refine wpAnyH_take (i := 20) (oi := ⟨_, _, _, _, _, _⟩) (v := ?_) rfl (by kernel_rfl) (by kernel_rfl) (by kernel_rfl) (fun _ _ _ h => h) (Or.inl ⟨by rfl, ?_⟩) kW ?_
        rotate_left
        · intro w' hSw; have xc := (HX.out w' hSw).2.2; clear hSw; (go_simp; try with_reducible rfl)
        try simp only [Act.put, List.setIfInBounds_toArray, List.set_cons_zero, List.set_cons_succ]
        refine wpAnyH_ready (rs := [5, 12, 22]) (by kernel_rfl) (by simp) ?_
        refine AllReadyH.cons (o := ⟨_, _, _, _, _, _⟩) rfl (fun KK hKK => ?_) (AllReadyH.cons (o := ⟨_, _, _, _, _, _⟩) rfl (fun KK hKK => ?_) (AllReadyH.cons (o := ⟨_, _, _, _, _, _⟩) rfl (fun KK hKK => ?_) AllReadyH.nil))
        · skip
          go_simp
          (refine (B0.out _).mono ?_)
          rintro e w' ⟨rfl, rfl⟩
          go_wp2_with fail
          refine hKK.out _ _ kW (fun _ => ?_)
          clear hKK KK
          try simp only [Act.put, List.setIfInBounds_toArray, List.set_cons_zero, List.set_cons_succ]
          refine wpAnyH_ready (rs := [11, 12, 22]) (by kernel_rfl) (by simp) ?_
          refine AllReadyH.cons (o := ⟨_, _, _, _, _, _⟩) rfl (fun KK hKK => ?_) (AllReadyH.cons (o := ⟨_, _, _, _, _, _⟩) rfl (fun KK hKK => ?_) (AllReadyH.cons (o := ⟨_, _, _, _, _, _⟩) rfl (fun KK hKK => ?_) AllReadyH.nil))
          · skip
            go_simp
            (refine (B1.out _).mono ?_)
            rintro e w' ⟨rfl, rfl⟩
            go_wp2_with fail
            refine hKK.out _ _ kW (fun _ => ?_)
            clear hKK KK
            try simp only [Act.put, List.setIfInBounds_toArray, List.set_cons_zero, List.set_cons_succ]
            refine wpAnyH_ready (rs := [12, 15, 22]) (by kernel_rfl) (by simp) ?_
            refine AllReadyH.cons (o := ⟨_, _, _, _, _, _⟩) rfl (fun KK hKK => ?_) (AllReadyH.cons (o := ⟨_, _, _, _, _, _⟩) rfl (fun KK hKK => ?_) (AllReadyH.cons (o := ⟨_, _, _, _, _, _⟩) rfl (fun KK hKK => ?_) AllReadyH.nil))
            · skip
              go_simp
              have k3 := (keepBut.refl [] W0).alloc (.cells #[.int .i64 10] 3)
              have hi3 := ints1 W0 10
              have hr3 := rowAt.new W0 3 #[.int .i64 10]
              have hs3 : wr.heap.size ≤ W0.heap.size := kW.size
              generalize W0.alloc (.cells #[.int .i64 10] 3) = W1 at k3 hi3 hr3 ⊢
              generalize W0.heap.size = cb at hi3 hr3 hs3 ⊢
              have HB := Lib.hid (And.intro hi3 (And.intro hr3 hs3))
              clear hi3 hr3 hs3
              replace kW := kW.then k3 (by simp)
              clear k3
              have kB := keepBut.refl [] W1
              refine hKK.out _ _ kW (fun _ => ?_)
              clear hKK KK
              try simp only [Act.put, List.setIfInBounds_toArray, List.set_cons_zero, List.set_cons_succ]
              refine wpAnyH_take (i := 13) (oi := ⟨_, _, _, _, _, _⟩) (v := .agg (cfL ⟨5, 0, [10]⟩ (.slice (some ⟨cb, 0, none⟩) 1 1)).toArray) rfl (by kernel_rfl) (by kernel_rfl) (by kernel_rfl) (fun _ _ _ h => h) (yieldsIf_build 41 _ rfl ?_ _ ?_) kW ?_
              · rfl
              · simp only [List.map_toArray, List.map_cons, List.map_nil]
                exact build_stCf cb
              try simp only [Act.put, List.setIfInBounds_toArray, List.set_cons_zero, List.set_cons_succ]
              refine wpAnyH_ready (rs := [15, 22]) (by kernel_rfl) (by simp) ?_
              refine AllReadyH.cons (o := ⟨_, _, _, _, _, _⟩) rfl (fun KK hKK => ?_) (AllReadyH.cons (o := ⟨_, _, _, _, _, _⟩) rfl (fun KK hKK => ?_) AllReadyH.nil)
              · skip
                go_simp
                (refine (get_any 3 _).mono ?_)
                rintro e W2 ⟨rfl, k3⟩
                replace kW := kW.then k3 (by simp)
                replace kB := kB.then k3 (by simp)
                clear k3
                go_wp2_with fail
                refine hKK.out _ _ kW (fun _ => ?_)
                clear hKK KK
                try simp only [Act.put, List.setIfInBounds_toArray, List.set_cons_zero, List.set_cons_succ]
                have hIn := HB.out.1.keep kB (by simp)
                have hbn := build_stP y0 y1 x2 cb
                obtain ⟨N, hN⟩ : ∃ N, pkL (stP y0 y1 x2) nilV nilV (.slice (some ⟨cb, 0, none⟩) 1 1) nilV nilV = N := ⟨_, rfl⟩
                have hNl : N.length = 87 := by rw [← hN]; exact pkL_len (stP_val y0 y1 x2 hIn).rn (stP_val y0 y1 x2 hIn).an
                have hNo : ∀ u ∈ N, u.oneCell' = true := by rw [← hN]; exact pkL_one rfl rfl rfl rfl rfl
                rw [hN] at hbn
                have HN := Lib.hid (And.intro hN (And.intro hNl hNo))
                clear hN hNl hNo hIn
                refine wpAnyH_take (i := 21) (oi := ⟨_, _, _, _, _, _⟩) (v := .agg N.toArray) rfl (by kernel_rfl) (by kernel_rfl) (by kernel_rfl) (fun _ _ _ h => h) (yieldsIf_build 44 _ rfl ?_ _ ?_) kW ?_
                · rfl
                · simp only [List.map_toArray, List.map_cons, List.map_nil]
                  exact hbn
                try simp only [Act.put, List.setIfInBounds_toArray, List.set_cons_zero, List.set_cons_succ]
                clear hbn
                refine wpAnyH_ready (rs := [22]) (by kernel_rfl) (by simp) ?_
                refine AllReadyH.cons (o := ⟨_, _, _, _, _, _⟩) rfl (fun KK hKK => ?_) AllReadyH.nil
                refine step_alloc_to _ _ rfl 44 rfl _ HZ.out.1 rfl ?_
                have k3 := (keepBut.refl [] W2).alloc (.cells Z.toArray 44)
                have hr4 := rowAt.new W2 44 Z.toArray
                have hs4 : wr.heap.size ≤ W2.heap.size := kW.size
                generalize W2.alloc (.cells Z.toArray 44) = W3 at k3 hr4 ⊢
                generalize W2.heap.size = d at hr4 hs4 ⊢
                have HA := Lib.hid (And.intro hr4 hs4)
                clear hr4 hs4
                replace kW := kW.then k3 (by simp)
                replace kB := kB.then k3 (by simp)
                clear k3
                have kA := keepBut.refl [] W3
                refine hKK.out _ _ kW (fun _ => ?_)
                clear hKK KK
                try simp only [Act.put, List.setIfInBounds_toArray, List.set_cons_zero, List.set_cons_succ]
                have hIn := HB.out.1.keep kB (by simp)
                have hRb := kB.row HB.out.2.1 (by simp)
                have hRd := kA.row HA.out.1 (by simp)
                have hne : cb ≠ d := hRb.apart hRd (by decide)
                have HT := Lib.hid (And.intro (hRd.there (o := 0) (n := 87) (by rw [List.size_toArray, HZ.out.2]; decide)) (And.intro (set0 hRd (show N.length = Z.length by rw [HN.out.2.1, HZ.out.2])) (And.intro hIn hne)))
                clear hRb hRd hIn hne
                refine wpAnyH_ready (rs := [23]) (by kernel_rfl) (by simp) ?_
                refine AllReadyH.cons (o := ⟨_, _, _, _, _, _⟩) rfl (fun KK hKK => ?_) AllReadyH.nil
                have kS := (keepBut.refl [d] W3).setL (vs := N) (g := d) (o := 0) (.inl (by simp))
                have kF : keepBut [] wr (W3.setCells d 0 N) := kW.setL (.inr HA.out.2)
                refine step_store_mid rfl 44 (.tmp 8) (.tmp 58) rfl d 0 N.toArray rfl (by rfl) (by rw [List.size_toArray, HN.out.2.1]; exact HT.out.1) (by rw [List.size_toArray, HN.out.2.1]; exact info_pkS) (by simpa using HN.out.2.2) ?_
                refine hKK.out _ _ kF (fun _ => ?_)
                clear hKK KK
                try simp only [Act.put, List.setIfInBounds_toArray, List.set_cons_zero, List.set_cons_succ]
                refine wpAnyH_done (by kernel_rfl) ?_ _
                go_wp2_with fail
                go_meet
                exact ⟨d, cb, rfl, by rw [HN.out.1]; exact HT.out.2.1, HT.out.2.2.1.keep kS (fun y hy hm => by simp only [List.mem_singleton] at hy hm; exact HT.out.2.2.2 (hy.symm.trans hm)), kF, HB.out.2.2, HA.out.2, HT.out.2.2.2⟩
              · skip
                refine step_alloc_to _ _ rfl 44 rfl _ HZ.out.1 rfl ?_
                have k3 := (keepBut.refl [] W1).alloc (.cells Z.toArray 44)
                have hr4 := rowAt.new W1 44 Z.toArray
                have hs4 : wr.heap.size ≤ W1.heap.size := kW.size
                generalize W1.alloc (.cells Z.toArray 44) = W4 at k3 hr4 ⊢
                generalize W1.heap.size = d at hr4 hs4 ⊢
                have HA := Lib.hid (And.intro hr4 hs4)
                clear hr4 hs4
                replace kW := kW.then k3 (by simp)
                replace kB := kB.then k3 (by simp)
                clear k3
                have kA := keepBut.refl [] W4
                refine hKK.out _ _ kW (fun _ => ?_)
                clear hKK KK
                try simp only [Act.put, List.setIfInBounds_toArray, List.set_cons_zero, List.set_cons_succ]
                refine wpAnyH_ready (rs := [15]) (by kernel_rfl) (by simp) ?_
                refine AllReadyH.cons (o := ⟨_, _, _, _, _, _⟩) rfl (fun KK hKK => ?_) AllReadyH.nil
                go_simp
                (refine (get_any 3 _).mono ?_)
                rintro e W5 ⟨rfl, k3⟩
                replace kW := kW.then k3 (by simp)
                replace kB := kB.then k3 (by simp)
                replace kA := kA.then k3 (by simp)
                clear k3
                go_wp2_with fail
                refine hKK.out _ _ kW (fun _ => ?_)
                clear hKK KK
                try simp only [Act.put, List.setIfInBounds_toArray, List.set_cons_zero, List.set_cons_succ]
                have hIn := HB.out.1.keep kB (by simp)
                have hbn := build_stP y0 y1 x2 cb
                obtain ⟨N, hN⟩ : ∃ N, pkL (stP y0 y1 x2) nilV nilV (.slice (some ⟨cb, 0, none⟩) 1 1) nilV nilV = N := ⟨_, rfl⟩
                have hNl : N.length = 87 := by rw [← hN]; exact pkL_len (stP_val y0 y1 x2 hIn).rn (stP_val y0 y1 x2 hIn).an
                have hNo : ∀ u ∈ N, u.oneCell' = true := by rw [← hN]; exact pkL_one rfl rfl rfl rfl rfl
                rw [hN] at hbn
                have HN := Lib.hid (And.intro hN (And.intro hNl hNo))
                clear hN hNl hNo hIn
                refine wpAnyH_take (i := 21) (oi := ⟨_, _, _, _, _, _⟩) (v := .agg N.toArray) rfl (by kernel_rfl) (by kernel_rfl) (by kernel_rfl) (fun _ _ _ h => h) (yieldsIf_build 44 _ rfl ?_ _ ?_) kW ?_
                · rfl
                · simp only [List.map_toArray, List.map_cons, List.map_nil]
                  exact hbn
                try simp only [Act.put, List.setIfInBounds_toArray, List.set_cons_zero, List.set_cons_succ]
                clear hbn
                have hIn := HB.out.1.keep kB (by simp)
                have hRb := kB.row HB.out.2.1 (by simp)
                have hRd := kA.row HA.out.1 (by simp)
                have hne : cb ≠ d := hRb.apart hRd (by decide)
                have HT := Lib.hid (And.intro (hRd.there (o := 0) (n := 87) (by rw [List.size_toArray, HZ.out.2]; decide)) (And.intro (set0 hRd (show N.length = Z.length by rw [HN.out.2.1, HZ.out.2])) (And.intro hIn hne)))
                clear hRb hRd hIn hne
                refine wpAnyH_ready (rs := [23]) (by kernel_rfl) (by simp) ?_
                refine AllReadyH.cons (o := ⟨_, _, _, _, _, _⟩) rfl (fun KK hKK => ?_) AllReadyH.nil
                have kS := (keepBut.refl [d] W5).setL (vs := N) (g := d) (o := 0) (.inl (by simp))
                have kF : keepBut [] wr (W5.setCells d 0 N) := kW.setL (.inr HA.out.2)
                refine step_store_mid rfl 44 (.tmp 8) (.tmp 58) rfl d 0 N.toArray rfl (by rfl) (by rw [List.size_toArray, HN.out.2.1]; exact HT.out.1) (by rw [List.size_toArray, HN.out.2.1]; exact info_pkS) (by simpa using HN.out.2.2) ?_
                refine hKK.out _ _ kF (fun _ => ?_)
                clear hKK KK
                try simp only [Act.put, List.setIfInBounds_toArray, List.set_cons_zero, List.set_cons_succ]
                refine wpAnyH_done (by kernel_rfl) ?_ _
                go_wp2_with fail
                go_meet
                exact ⟨d, cb, rfl, by rw [HN.out.1]; exact HT.out.2.1, HT.out.2.2.1.keep kS (fun y hy hm => by simp only [List.mem_singleton] at hy hm; exact HT.out.2.2.2 (hy.symm.trans hm)), kF, HB.out.2.2, HA.out.2, HT.out.2.2.2⟩
            · skip
              go_simp
              (refine (get_any 3 _).mono ?_)
              rintro e W6 ⟨rfl, k3⟩
              replace kW := kW.then k3 (by simp)
              clear k3
              go_wp2_with fail
              refine hKK.out _ _ kW (fun _ => ?_)
              clear hKK KK
              try simp only [Act.put, List.setIfInBounds_toArray, List.set_cons_zero, List.set_cons_succ]
              refine wpAnyH_ready (rs := [12, 22]) (by kernel_rfl) (by simp) ?_
              refine AllReadyH.cons (o := ⟨_, _, _, _, _, _⟩) rfl (fun KK hKK => ?_) (AllReadyH.cons (o := ⟨_, _, _, _, _, _⟩) rfl (fun KK hKK => ?_) AllReadyH.nil)
              · skip
                go_simp
                have k3 := (keepBut.refl [] W6).alloc (.cells #[.int .i64 10] 3)
                have hi3 := ints1 W6 10
                have hr3 := rowAt.new W6 3 #[.int .i64 10]
                have hs3 : wr.heap.size ≤ W6.heap.size := kW.size
                generalize W6.alloc (.cells #[.int .i64 10] 3) = W7 at k3 hi3 hr3 ⊢
                generalize W6.heap.size = cb at hi3 hr3 hs3 ⊢
                have HB := Lib.hid (And.intro hi3 (And.intro hr3 hs3))
                clear hi3 hr3 hs3
                replace kW := kW.then k3 (by simp)
                clear k3
                have kB := keepBut.refl [] W7
                refine hKK.out _ _ kW (fun _ => ?_)
                clear hKK KK
                try simp only [Act.put, List.setIfInBounds_toArray, List.set_cons_zero, List.set_cons_succ]
                refine wpAnyH_take (i := 13) (oi := ⟨_, _, _, _, _, _⟩) (v := .agg (cfL ⟨5, 0, [10]⟩ (.slice (some ⟨cb, 0, none⟩) 1 1)).toArray) rfl (by kernel_rfl) (by kernel_rfl) (by kernel_rfl) (fun _ _ _ h => h) (yieldsIf_build 41 _ rfl ?_ _ ?_) kW ?_
                · rfl
                · simp only [List.map_toArray, List.map_cons, List.map_nil]
                  exact build_stCf cb
                try simp only [Act.put, List.setIfInBounds_toArray, List.set_cons_zero, List.set_cons_succ]
                have hIn := HB.out.1.keep kB (by simp)
                have hbn := build_stP y0 y1 x2 cb
                obtain ⟨N, hN⟩ : ∃ N, pkL (stP y0 y1 x2) nilV nilV (.slice (some ⟨cb, 0, none⟩) 1 1) nilV nilV = N := ⟨_, rfl⟩
                have hNl : N.length = 87 := by rw [← hN]; exact pkL_len (stP_val y0 y1 x2 hIn).rn (stP_val y0 y1 x2 hIn).an
                have hNo : ∀ u ∈ N, u.oneCell' = true := by rw [← hN]; exact pkL_one rfl rfl rfl rfl rfl
                rw [hN] at hbn
                have HN := Lib.hid (And.intro hN (And.intro hNl hNo))
                clear hN hNl hNo hIn
                refine wpAnyH_take (i := 21) (oi := ⟨_, _, _, _, _, _⟩) (v := .agg N.toArray) rfl (by kernel_rfl) (by kernel_rfl) (by kernel_rfl) (fun _ _ _ h => h) (yieldsIf_build 44 _ rfl ?_ _ ?_) kW ?_
                · rfl
                · simp only [List.map_toArray, List.map_cons, List.map_nil]
                  exact hbn
                try simp only [Act.put, List.setIfInBounds_toArray, List.set_cons_zero, List.set_cons_succ]
                clear hbn
                refine wpAnyH_ready (rs := [22]) (by kernel_rfl) (by simp) ?_
                refine AllReadyH.cons (o := ⟨_, _, _, _, _, _⟩) rfl (fun KK hKK => ?_) AllReadyH.nil
                refine step_alloc_to _ _ rfl 44 rfl _ HZ.out.1 rfl ?_
                have k3 := (keepBut.refl [] W7).alloc (.cells Z.toArray 44)
                have hr4 := rowAt.new W7 44 Z.toArray
                have hs4 : wr.heap.size ≤ W7.heap.size := kW.size
                generalize W7.alloc (.cells Z.toArray 44) = W8 at k3 hr4 ⊢
                generalize W7.heap.size = d at hr4 hs4 ⊢
                have HA := Lib.hid (And.intro hr4 hs4)
                clear hr4 hs4
                replace kW := kW.then k3 (by simp)
                replace kB := kB.then k3 (by simp)
                clear k3
                have kA := keepBut.refl [] W8
                refine hKK.out _ _ kW (fun _ => ?_)
                clear hKK KK
                try simp only [Act.put, List.setIfInBounds_toArray, List.set_cons_zero, List.set_cons_succ]
                have hIn := HB.out.1.keep kB (by simp)
                have hRb := kB.row HB.out.2.1 (by simp)
                have hRd := kA.row HA.out.1 (by simp)
                have hne : cb ≠ d := hRb.apart hRd (by decide)
                have HT := Lib.hid (And.intro (hRd.there (o := 0) (n := 87) (by rw [List.size_toArray, HZ.out.2]; decide)) (And.intro (set0 hRd (show N.length = Z.length by rw [HN.out.2.1, HZ.out.2])) (And.intro hIn hne)))
                clear hRb hRd hIn hne
                refine wpAnyH_ready (rs := [23]) (by kernel_rfl) (by simp) ?_
                refine AllReadyH.cons (o := ⟨_, _, _, _, _, _⟩) rfl (fun KK hKK => ?_) AllReadyH.nil
                have kS := (keepBut.refl [d] W8).setL (vs := N) (g := d) (o := 0) (.inl (by simp))
                have kF : keepBut [] wr (W8.setCells d 0 N) := kW.setL (.inr HA.out.2)
                refine step_store_mid rfl 44 (.tmp 8) (.tmp 58) rfl d 0 N.toArray rfl (by rfl) (by rw [List.size_toArray, HN.out.2.1]; exact HT.out.1) (by rw [List.size_toArray, HN.out.2.1]; exact info_pkS) (by simpa using HN.out.2.2) ?_
                refine hKK.out _ _ kF (fun _ => ?_)
                clear hKK KK
                try simp only [Act.put, List.setIfInBounds_toArray, List.set_cons_zero, List.set_cons_succ]
                refine wpAnyH_done (by kernel_rfl) ?_ _
                go_wp2_with fail
                go_meet
                exact ⟨d, cb, rfl, by rw [HN.out.1]; exact HT.out.2.1, HT.out.2.2.1.keep kS (fun y hy hm => by simp only [List.mem_singleton] at hy hm; exact HT.out.2.2.2 (hy.symm.trans hm)), kF, HB.out.2.2, HA.out.2, HT.out.2.2.2⟩
              · skip
                refine step_alloc_to _ _ rfl 44 rfl _ HZ.out.1 rfl ?_
                have k3 := (keepBut.refl [] W6).alloc (.cells Z.toArray 44)
                have hr4 := rowAt.new W6 44 Z.toArray
                have hs4 : wr.heap.size ≤ W6.heap.size := kW.size
                generalize W6.alloc (.cells Z.toArray 44) = W9 at k3 hr4 ⊢
                generalize W6.heap.size = d at hr4 hs4 ⊢
                have HA := Lib.hid (And.intro hr4 hs4)
                clear hr4 hs4
                replace kW := kW.then k3 (by simp)
                clear k3
                have kA := keepBut.refl [] W9
                refine hKK.out _ _ kW (fun _ => ?_)
                clear hKK KK
                try simp only [Act.put, List.setIfInBounds_toArray, List.set_cons_zero, List.set_cons_succ]
                refine wpAnyH_ready (rs := [12]) (by kernel_rfl) (by simp) ?_
                refine AllReadyH.cons (o := ⟨_, _, _, _, _, _⟩) rfl (fun KK hKK => ?_) AllReadyH.nil
                go_simp
                have k3 := (keepBut.refl [] W9).alloc (.cells #[.int .i64 10] 3)
                have hi3 := ints1 W9 10
                have hr3 := rowAt.new W9 3 #[.int .i64 10]
                have hs3 : wr.heap.size ≤ W9.heap.size := kW.size
                generalize W9.alloc (.cells #[.int .i64 10] 3) = W10 at k3 hi3 hr3 ⊢
                generalize W9.heap.size = cb at hi3 hr3 hs3 ⊢
                have HB := Lib.hid (And.intro hi3 (And.intro hr3 hs3))
                clear hi3 hr3 hs3
                replace kW := kW.then k3 (by simp)
                replace kA := kA.then k3 (by simp)
                clear k3
                have kB := keepBut.refl [] W10
                refine hKK.out _ _ kW (fun _ => ?_)
                clear hKK KK
                try simp only [Act.put, List.setIfInBounds_toArray, List.set_cons_zero, List.set_cons_succ]
                refine wpAnyH_take (i := 13) (oi := ⟨_, _, _, _, _, _⟩) (v := .agg (cfL ⟨5, 0, [10]⟩ (.slice (some ⟨cb, 0, none⟩) 1 1)).toArray) rfl (by kernel_rfl) (by kernel_rfl) (by kernel_rfl) (fun _ _ _ h => h) (yieldsIf_build 41 _ rfl ?_ _ ?_) kW ?_
                · rfl
                · simp only [List.map_toArray, List.map_cons, List.map_nil]
                  exact build_stCf cb
                try simp only [Act.put, List.setIfInBounds_toArray, List.set_cons_zero, List.set_cons_succ]
                have hIn := HB.out.1.keep kB (by simp)
                have hbn := build_stP y0 y1 x2 cb
                obtain ⟨N, hN⟩ : ∃ N, pkL (stP y0 y1 x2) nilV nilV (.slice (some ⟨cb, 0, none⟩) 1 1) nilV nilV = N := ⟨_, rfl⟩
                have hNl : N.length = 87 := by rw [← hN]; exact pkL_len (stP_val y0 y1 x2 hIn).rn (stP_val y0 y1 x2 hIn).an
                have hNo : ∀ u ∈ N, u.oneCell' = true := by rw [← hN]; exact pkL_one rfl rfl rfl rfl rfl
                rw [hN] at hbn
                have HN := Lib.hid (And.intro hN (And.intro hNl hNo))
                clear hN hNl hNo hIn
                refine wpAnyH_take (i := 21) (oi := ⟨_, _, _, _, _, _⟩) (v := .agg N.toArray) rfl (by kernel_rfl) (by kernel_rfl) (by kernel_rfl) (fun _ _ _ h => h) (yieldsIf_build 44 _ rfl ?_ _ ?_) kW ?_
                · rfl
                · simp only [List.map_toArray, List.map_cons, List.map_nil]
                  exact hbn
                try simp only [Act.put, List.setIfInBounds_toArray, List.set_cons_zero, List.set_cons_succ]
                clear hbn
                have hIn := HB.out.1.keep kB (by simp)
                have hRb := kB.row HB.out.2.1 (by simp)
                have hRd := kA.row HA.out.1 (by simp)
                have hne : cb ≠ d := hRb.apart hRd (by decide)
                have HT := Lib.hid (And.intro (hRd.there (o := 0) (n := 87) (by rw [List.size_toArray, HZ.out.2]; decide)) (And.intro (set0 hRd (show N.length = Z.length by rw [HN.out.2.1, HZ.out.2])) (And.intro hIn hne)))
                clear hRb hRd hIn hne
                refine wpAnyH_ready (rs := [23]) (by kernel_rfl) (by simp) ?_
                refine AllReadyH.cons (o := ⟨_, _, _, _, _, _⟩) rfl (fun KK hKK => ?_) AllReadyH.nil
                have kS := (keepBut.refl [d] W10).setL (vs := N) (g := d) (o := 0) (.inl (by simp))
                have kF : keepBut [] wr (W10.setCells d 0 N) := kW.setL (.inr HA.out.2)
                refine step_store_mid rfl 44 (.tmp 8) (.tmp 58) rfl d 0 N.toArray rfl (by rfl) (by rw [List.size_toArray, HN.out.2.1]; exact HT.out.1) (by rw [List.size_toArray, HN.out.2.1]; exact info_pkS) (by simpa using HN.out.2.2) ?_
                refine hKK.out _ _ kF (fun _ => ?_)
                clear hKK KK
                try simp only [Act.put, List.setIfInBounds_toArray, List.set_cons_zero, List.set_cons_succ]
                refine wpAnyH_done (by kernel_rfl) ?_ _
                go_wp2_with fail
                go_meet
                exact ⟨d, cb, rfl, by rw [HN.out.1]; exact HT.out.2.1, HT.out.2.2.1.keep kS (fun y hy hm => by simp only [List.mem_singleton] at hy hm; exact HT.out.2.2.2 (hy.symm.trans hm)), kF, HB.out.2.2, HA.out.2, HT.out.2.2.2⟩
            · skip
              refine step_alloc_to _ _ rfl 44 rfl _ HZ.out.1 rfl ?_
              have k3 := (keepBut.refl [] W0).alloc (.cells Z.toArray 44)
              have hr4 := rowAt.new W0 44 Z.toArray
              have hs4 : wr.heap.size ≤ W0.heap.size := kW.size
              generalize W0.alloc (.cells Z.toArray 44) = W11 at k3 hr4 ⊢
              generalize W0.heap.size = d at hr4 hs4 ⊢
              have HA := Lib.hid (And.intro hr4 hs4)
              clear hr4 hs4
              replace kW := kW.then k3 (by simp)
              clear k3
              have kA := keepBut.refl [] W11
              refine hKK.out _ _ kW (fun _ => ?_)
              clear hKK KK
              try simp only [Act.put, List.setIfInBounds_toArray, List.set_cons_zero, List.set_cons_succ]
              refine wpAnyH_ready (rs := [12, 15]) (by kernel_rfl) (by simp) ?_
              refine AllReadyH.cons (o := ⟨_, _, _, _, _, _⟩) rfl (fun KK hKK => ?_) (AllReadyH.cons (o := ⟨_, _, _, _, _, _⟩) rfl (fun KK hKK => ?_) AllReadyH.nil)
              · skip
                go_simp
                have k3 := (keepBut.refl [] W11).alloc (.cells #[.int .i64 10] 3)
                have hi3 := ints1 W11 10
                have hr3 := rowAt.new W11 3 #[.int .i64 10]
                have hs3 : wr.heap.size ≤ W11.heap.size := kW.size
                generalize W11.alloc (.cells #[.int .i64 10] 3) = W12 at k3 hi3 hr3 ⊢
                generalize W11.heap.size = cb at hi3 hr3 hs3 ⊢
                have HB := Lib.hid (And.intro hi3 (And.intro hr3 hs3))
                clear hi3 hr3 hs3
                replace kW := kW.then k3 (by simp)
                replace kA := kA.then k3 (by simp)
                clear k3
                have kB := keepBut.refl [] W12
                refine hKK.out _ _ kW (fun _ => ?_)
                clear hKK KK
                try simp only [Act.put, List.setIfInBounds_toArray, List.set_cons_zero, List.set_cons_succ]
                refine wpAnyH_take (i := 13) (oi := ⟨_, _, _, _, _, _⟩) (v := .agg (cfL ⟨5, 0, [10]⟩ (.slice (some ⟨cb, 0, none⟩) 1 1)).toArray) rfl (by kernel_rfl) (by kernel_rfl) (by kernel_rfl) (fun _ _ _ h => h) (yieldsIf_build 41 _ rfl ?_ _ ?_) kW ?_
                · rfl
                · simp only [List.map_toArray, List.map_cons, List.map_nil]
                  exact build_stCf cb
                try simp only [Act.put, List.setIfInBounds_toArray, List.set_cons_zero, List.set_cons_succ]
                refine wpAnyH_ready (rs := [15]) (by kernel_rfl) (by simp) ?_
                refine AllReadyH.cons (o := ⟨_, _, _, _, _, _⟩) rfl (fun KK hKK => ?_) AllReadyH.nil
                go_simp
                (refine (get_any 3 _).mono ?_)
                rintro e W13 ⟨rfl, k3⟩
                replace kW := kW.then k3 (by simp)
                replace kB := kB.then k3 (by simp)
                replace kA := kA.then k3 (by simp)
                clear k3
                go_wp2_with fail
                refine hKK.out _ _ kW (fun _ => ?_)
                clear hKK KK
                try simp only [Act.put, List.setIfInBounds_toArray, List.set_cons_zero, List.set_cons_succ]
                have hIn := HB.out.1.keep kB (by simp)
                have hbn := build_stP y0 y1 x2 cb
                obtain ⟨N, hN⟩ : ∃ N, pkL (stP y0 y1 x2) nilV nilV (.slice (some ⟨cb, 0, none⟩) 1 1) nilV nilV = N := ⟨_, rfl⟩
                have hNl : N.length = 87 := by rw [← hN]; exact pkL_len (stP_val y0 y1 x2 hIn).rn (stP_val y0 y1 x2 hIn).an
                have hNo : ∀ u ∈ N, u.oneCell' = true := by rw [← hN]; exact pkL_one rfl rfl rfl rfl rfl
                rw [hN] at hbn
                have HN := Lib.hid (And.intro hN (And.intro hNl hNo))
                clear hN hNl hNo hIn
                refine wpAnyH_take (i := 21) (oi := ⟨_, _, _, _, _, _⟩) (v := .agg N.toArray) rfl (by kernel_rfl) (by kernel_rfl) (by kernel_rfl) (fun _ _ _ h => h) (yieldsIf_build 44 _ rfl ?_ _ ?_) kW ?_
                · rfl
                · simp only [List.map_toArray, List.map_cons, List.map_nil]
                  exact hbn
                try simp only [Act.put, List.setIfInBounds_toArray, List.set_cons_zero, List.set_cons_succ]
                clear hbn
                have hIn := HB.out.1.keep kB (by simp)
                have hRb := kB.row HB.out.2.1 (by simp)
                have hRd := kA.row HA.out.1 (by simp)
                have hne : cb ≠ d := hRb.apart hRd (by decide)
                have HT := Lib.hid (And.intro (hRd.there (o := 0) (n := 87) (by rw [List.size_toArray, HZ.out.2]; decide)) (And.intro (set0 hRd (show N.length = Z.length by rw [HN.out.2.1, HZ.out.2])) (And.intro hIn hne)))
                clear hRb hRd hIn hne
                refine wpAnyH_ready (rs := [23]) (by kernel_rfl) (by simp) ?_
                refine AllReadyH.cons (o := ⟨_, _, _, _, _, _⟩) rfl (fun KK hKK => ?_) AllReadyH.nil
                have kS := (keepBut.refl [d] W13).setL (vs := N) (g := d) (o := 0) (.inl (by simp))
                have kF : keepBut [] wr (W13.setCells d 0 N) := kW.setL (.inr HA.out.2)
                refine step_store_mid rfl 44 (.tmp 8) (.tmp 58) rfl d 0 N.toArray rfl (by rfl) (by rw [List.size_toArray, HN.out.2.1]; exact HT.out.1) (by rw [List.size_toArray, HN.out.2.1]; exact info_pkS) (by simpa using HN.out.2.2) ?_
                refine hKK.out _ _ kF (fun _ => ?_)
                clear hKK KK
                try simp only [Act.put, List.setIfInBounds_toArray, List.set_cons_zero, List.set_cons_succ]
                refine wpAnyH_done (by kernel_rfl) ?_ _
                go_wp2_with fail
                go_meet
                exact ⟨d, cb, rfl, by rw [HN.out.1]; exact HT.out.2.1, HT.out.2.2.1.keep kS (fun y hy hm => by simp only [List.mem_singleton] at hy hm; exact HT.out.2.2.2 (hy.symm.trans hm)), kF, HB.out.2.2, HA.out.2, HT.out.2.2.2⟩
              · skip
                go_simp
                (refine (get_any 3 _).mono ?_)
                rintro e W14 ⟨rfl, k3⟩
                replace kW := kW.then k3 (by simp)
                replace kA := kA.then k3 (by simp)
                clear k3
                go_wp2_with fail
                refine hKK.out _ _ kW (fun _ => ?_)
                clear hKK KK
                try simp only [Act.put, List.setIfInBounds_toArray, List.set_cons_zero, List.set_cons_succ]
                refine wpAnyH_ready (rs := [12]) (by kernel_rfl) (by simp) ?_
                refine AllReadyH.cons (o := ⟨_, _, _, _, _, _⟩) rfl (fun KK hKK => ?_) AllReadyH.nil
                go_simp
                have k3 := (keepBut.refl [] W14).alloc (.cells #[.int .i64 10] 3)
                have hi3 := ints1 W14 10
                have hr3 := rowAt.new W14 3 #[.int .i64 10]
                have hs3 : wr.heap.size ≤ W14.heap.size := kW.size
                generalize W14.alloc (.cells #[.int .i64 10] 3) = W15 at k3 hi3 hr3 ⊢
                generalize W14.heap.size = cb at hi3 hr3 hs3 ⊢
                have HB := Lib.hid (And.intro hi3 (And.intro hr3 hs3))
                clear hi3 hr3 hs3
                replace kW := kW.then k3 (by simp)
                replace kA := kA.then k3 (by simp)
                clear k3
                have kB := keepBut.refl [] W15
                refine hKK.out _ _ kW (fun _ => ?_)
                clear hKK KK
                try simp only [Act.put, List.setIfInBounds_toArray, List.set_cons_zero, List.set_cons_succ]
                refine wpAnyH_take (i := 13) (oi := ⟨_, _, _, _, _, _⟩) (v := .agg (cfL ⟨5, 0, [10]⟩ (.slice (some ⟨cb, 0, none⟩) 1 1)).toArray) rfl (by kernel_rfl) (by kernel_rfl) (by kernel_rfl) (fun _ _ _ h => h) (yieldsIf_build 41 _ rfl ?_ _ ?_) kW ?_
                · rfl
                · simp only [List.map_toArray, List.map_cons, List.map_nil]
                  exact build_stCf cb
                try simp only [Act.put, List.setIfInBounds_toArray, List.set_cons_zero, List.set_cons_succ]
                have hIn := HB.out.1.keep kB (by simp)
                have hbn := build_stP y0 y1 x2 cb
                obtain ⟨N, hN⟩ : ∃ N, pkL (stP y0 y1 x2) nilV nilV (.slice (some ⟨cb, 0, none⟩) 1 1) nilV nilV = N := ⟨_, rfl⟩
                have hNl : N.length = 87 := by rw [← hN]; exact pkL_len (stP_val y0 y1 x2 hIn).rn (stP_val y0 y1 x2 hIn).an
                have hNo : ∀ u ∈ N, u.oneCell' = true := by rw [← hN]; exact pkL_one rfl rfl rfl rfl rfl
                rw [hN] at hbn
                have HN := Lib.hid (And.intro hN (And.intro hNl hNo))
                clear hN hNl hNo hIn
                refine wpAnyH_take (i := 21) (oi := ⟨_, _, _, _, _, _⟩) (v := .agg N.toArray) rfl (by kernel_rfl) (by kernel_rfl) (by kernel_rfl) (fun _ _ _ h => h) (yieldsIf_build 44 _ rfl ?_ _ ?_) kW ?_
                · rfl
                · simp only [List.map_toArray, List.map_cons, List.map_nil]
                  exact hbn
                try simp only [Act.put, List.setIfInBounds_toArray, List.set_cons_zero, List.set_cons_succ]
                clear hbn
                have hIn := HB.out.1.keep kB (by simp)
                have hRb := kB.row HB.out.2.1 (by simp)
                have hRd := kA.row HA.out.1 (by simp)
                have hne : cb ≠ d := hRb.apart hRd (by decide)
                have HT := Lib.hid (And.intro (hRd.there (o := 0) (n := 87) (by rw [List.size_toArray, HZ.out.2]; decide)) (And.intro (set0 hRd (show N.length = Z.length by rw [HN.out.2.1, HZ.out.2])) (And.intro hIn hne)))
                clear hRb hRd hIn hne
                refine wpAnyH_ready (rs := [23]) (by kernel_rfl) (by simp) ?_
                refine AllReadyH.cons (o := ⟨_, _, _, _, _, _⟩) rfl (fun KK hKK => ?_) AllReadyH.nil
                have kS := (keepBut.refl [d] W15).setL (vs := N) (g := d) (o := 0) (.inl (by simp))
                have kF : keepBut [] wr (W15.setCells d 0 N) := kW.setL (.inr HA.out.2)
                refine step_store_mid rfl 44 (.tmp 8) (.tmp 58) rfl d 0 N.toArray rfl (by rfl) (by rw [List.size_toArray, HN.out.2.1]; exact HT.out.1) (by rw [List.size_toArray, HN.out.2.1]; exact info_pkS) (by simpa using HN.out.2.2) ?_
                refine hKK.out _ _ kF (fun _ => ?_)
                clear hKK KK
                try simp only [Act.put, List.setIfInBounds_toArray, List.set_cons_zero, List.set_cons_succ]
                refine wpAnyH_done (by kernel_rfl) ?_ _
                go_wp2_with fail
                go_meet
                exact ⟨d, cb, rfl, by rw [HN.out.1]; exact HT.out.2.1, HT.out.2.2.1.keep kS (fun y hy hm => by simp only [List.mem_singleton] at hy hm; exact HT.out.2.2.2 (hy.symm.trans hm)), kF, HB.out.2.2, HA.out.2, HT.out.2.2.2⟩
          · skip
            go_simp
            have k3 := (keepBut.refl [] W0).alloc (.cells #[.int .i64 10] 3)
            have hi3 := ints1 W0 10
            have hr3 := rowAt.new W0 3 #[.int .i64 10]
            have hs3 : wr.heap.size ≤ W0.heap.size := kW.size
            generalize W0.alloc (.cells #[.int .i64 10] 3) = W16 at k3 hi3 hr3 ⊢
            generalize W0.heap.size = cb at hi3 hr3 hs3 ⊢
            have HB := Lib.hid (And.intro hi3 (And.intro hr3 hs3))
            clear hi3 hr3 hs3
            replace kW := kW.then k3 (by simp)
            clear k3
            have kB := keepBut.refl [] W16
            refine hKK.out _ _ kW (fun _ => ?_)
            clear hKK KK
            try simp only [Act.put, List.setIfInBounds_toArray, List.set_cons_zero, List.set_cons_succ]
            refine wpAnyH_take (i := 13) (oi := ⟨_, _, _, _, _, _⟩) (v := .agg (cfL ⟨5, 0, [10]⟩ (.slice (some ⟨cb, 0, none⟩) 1 1)).toArray) rfl (by kernel_rfl) (by kernel_rfl) (by kernel_rfl) (fun _ _ _ h => h) (yieldsIf_build 41 _ rfl ?_ _ ?_) kW ?_
            · rfl
            · simp only [List.map_toArray, List.map_cons, List.map_nil]
              exact build_stCf cb
            try simp only [Act.put, List.setIfInBounds_toArray, List.set_cons_zero, List.set_cons_succ]
            refine wpAnyH_ready (rs := [11, 22]) (by kernel_rfl) (by simp) ?_
            refine AllReadyH.cons (o := ⟨_, _, _, _, _, _⟩) rfl (fun KK hKK => ?_) (AllReadyH.cons (o := ⟨_, _, _, _, _, _⟩) rfl (fun KK hKK => ?_) AllReadyH.nil)
            · skip
              go_simp
              (refine (B1.out _).mono ?_)
              rintro e w' ⟨rfl, rfl⟩
              go_wp2_with fail
              refine hKK.out _ _ kW (fun _ => ?_)
              clear hKK KK
              try simp only [Act.put, List.setIfInBounds_toArray, List.set_cons_zero, List.set_cons_succ]
              refine wpAnyH_ready (rs := [15, 22]) (by kernel_rfl) (by simp) ?_
              refine AllReadyH.cons (o := ⟨_, _, _, _, _, _⟩) rfl (fun KK hKK => ?_) (AllReadyH.cons (o := ⟨_, _, _, _, _, _⟩) rfl (fun KK hKK => ?_) AllReadyH.nil)
              · skip
                go_simp
                (refine (get_any 3 _).mono ?_)
                rintro e W17 ⟨rfl, k3⟩
                replace kW := kW.then k3 (by simp)
                replace kB := kB.then k3 (by simp)
                clear k3
                go_wp2_with fail
                refine hKK.out _ _ kW (fun _ => ?_)
                clear hKK KK
                try simp only [Act.put, List.setIfInBounds_toArray, List.set_cons_zero, List.set_cons_succ]
                have hIn := HB.out.1.keep kB (by simp)
                have hbn := build_stP y0 y1 x2 cb
                obtain ⟨N, hN⟩ : ∃ N, pkL (stP y0 y1 x2) nilV nilV (.slice (some ⟨cb, 0, none⟩) 1 1) nilV nilV = N := ⟨_, rfl⟩
                have hNl : N.length = 87 := by rw [← hN]; exact pkL_len (stP_val y0 y1 x2 hIn).rn (stP_val y0 y1 x2 hIn).an
                have hNo : ∀ u ∈ N, u.oneCell' = true := by rw [← hN]; exact pkL_one rfl rfl rfl rfl rfl
                rw [hN] at hbn
                have HN := Lib.hid (And.intro hN (And.intro hNl hNo))
                clear hN hNl hNo hIn
                refine wpAnyH_take (i := 21) (oi := ⟨_, _, _, _, _, _⟩) (v := .agg N.toArray) rfl (by kernel_rfl) (by kernel_rfl) (by kernel_rfl) (fun _ _ _ h => h) (yieldsIf_build 44 _ rfl ?_ _ ?_) kW ?_
                · rfl
                · simp only [List.map_toArray, List.map_cons, List.map_nil]
                  exact hbn
                try simp only [Act.put, List.setIfInBounds_toArray, List.set_cons_zero, List.set_cons_succ]
                clear hbn
                refine wpAnyH_ready (rs := [22]) (by kernel_rfl) (by simp) ?_
                refine AllReadyH.cons (o := ⟨_, _, _, _, _, _⟩) rfl (fun KK hKK => ?_) AllReadyH.nil
                refine step_alloc_to _ _ rfl 44 rfl _ HZ.out.1 rfl ?_
                have k3 := (keepBut.refl [] W17).alloc (.cells Z.toArray 44)
                have hr4 := rowAt.new W17 44 Z.toArray
                have hs4 : wr.heap.size ≤ W17.heap.size := kW.size
                generalize W17.alloc (.cells Z.toArray 44) = W18 at k3 hr4 ⊢
                generalize W17.heap.size = d at hr4 hs4 ⊢
                have HA := Lib.hid (And.intro hr4 hs4)
                clear hr4 hs4
                replace kW := kW.then k3 (by simp)
                replace kB := kB.then k3 (by simp)
                clear k3
                have kA := keepBut.refl [] W18
                refine hKK.out _ _ kW (fun _ => ?_)
                clear hKK KK
                try simp only [Act.put, List.setIfInBounds_toArray, List.set_cons_zero, List.set_cons_succ]
                have hIn := HB.out.1.keep kB (by simp)
                have hRb := kB.row HB.out.2.1 (by simp)
                have hRd := kA.row HA.out.1 (by simp)
                have hne : cb ≠ d := hRb.apart hRd (by decide)
                have HT := Lib.hid (And.intro (hRd.there (o := 0) (n := 87) (by rw [List.size_toArray, HZ.out.2]; decide)) (And.intro (set0 hRd (show N.length = Z.length by rw [HN.out.2.1, HZ.out.2])) (And.intro hIn hne)))
                clear hRb hRd hIn hne
                refine wpAnyH_ready (rs := [23]) (by kernel_rfl) (by simp) ?_
                refine AllReadyH.cons (o := ⟨_, _, _, _, _, _⟩) rfl (fun KK hKK => ?_) AllReadyH.nil
                have kS := (keepBut.refl [d] W18).setL (vs := N) (g := d) (o := 0) (.inl (by simp))
                have kF : keepBut [] wr (W18.setCells d 0 N) := kW.setL (.inr HA.out.2)
                refine step_store_mid rfl 44 (.tmp 8) (.tmp 58) rfl d 0 N.toArray rfl (by rfl) (by rw [List.size_toArray, HN.out.2.1]; exact HT.out.1) (by rw [List.size_toArray, HN.out.2.1]; exact info_pkS) (by simpa using HN.out.2.2) ?_
                refine hKK.out _ _ kF (fun _ => ?_)
                clear hKK KK
                try simp only [Act.put, List.setIfInBounds_toArray, List.set_cons_zero, List.set_cons_succ]
                refine wpAnyH_done (by kernel_rfl) ?_ _
                go_wp2_with fail
                go_meet
                exact ⟨d, cb, rfl, by rw [HN.out.1]; exact HT.out.2.1, HT.out.2.2.1.keep kS (fun y hy hm => by simp only [List.mem_singleton] at hy hm; exact HT.out.2.2.2 (hy.symm.trans hm)), kF, HB.out.2.2, HA.out.2, HT.out.2.2.2⟩
              · skip
                refine step_alloc_to _ _ rfl 44 rfl _ HZ.out.1 rfl ?_
                have k3 := (keepBut.refl [] W16).alloc (.cells Z.toArray 44)
                have hr4 := rowAt.new W16 44 Z.toArray
                have hs4 : wr.heap.size ≤ W16.heap.size := kW.size
                generalize W16.alloc (.cells Z.toArray 44) = W19 at k3 hr4 ⊢
                generalize W16.heap.size = d at hr4 hs4 ⊢
                have HA := Lib.hid (And.intro hr4 hs4)
                clear hr4 hs4
                replace kW := kW.then k3 (by simp)
                replace kB := kB.then k3 (by simp)
                clear k3
                have kA := keepBut.refl [] W19
                refine hKK.out _ _ kW (fun _ => ?_)
                clear hKK KK
                try simp only [Act.put, List.setIfInBounds_toArray, List.set_cons_zero, List.set_cons_succ]
                refine wpAnyH_ready (rs := [15]) (by kernel_rfl) (by simp) ?_
                refine AllReadyH.cons (o := ⟨_, _, _, _, _, _⟩) rfl (fun KK hKK => ?_) AllReadyH.nil
                go_simp
                (refine (get_any 3 _).mono ?_)
                rintro e W20 ⟨rfl, k3⟩
                replace kW := kW.then k3 (by simp)
                replace kB := kB.then k3 (by simp)
                replace kA := kA.then k3 (by simp)
                clear k3
                go_wp2_with fail
                refine hKK.out _ _ kW (fun _ => ?_)
                clear hKK KK
                try simp only [Act.put, List.setIfInBounds_toArray, List.set_cons_zero, List.set_cons_succ]
                have hIn := HB.out.1.keep kB (by simp)
                have hbn := build_stP y0 y1 x2 cb
                obtain ⟨N, hN⟩ : ∃ N, pkL (stP y0 y1 x2) nilV nilV (.slice (some ⟨cb, 0, none⟩) 1 1) nilV nilV = N := ⟨_, rfl⟩
                have hNl : N.length = 87 := by rw [← hN]; exact pkL_len (stP_val y0 y1 x2 hIn).rn (stP_val y0 y1 x2 hIn).an
                have hNo : ∀ u ∈ N, u.oneCell' = true := by rw [← hN]; exact pkL_one rfl rfl rfl rfl rfl
                rw [hN] at hbn
                have HN := Lib.hid (And.intro hN (And.intro hNl hNo))
                clear hN hNl hNo hIn
                refine wpAnyH_take (i := 21) (oi := ⟨_, _, _, _, _, _⟩) (v := .agg N.toArray) rfl (by kernel_rfl) (by kernel_rfl) (by kernel_rfl) (fun _ _ _ h => h) (yieldsIf_build 44 _ rfl ?_ _ ?_) kW ?_
                · rfl
                · simp only [List.map_toArray, List.map_cons, List.map_nil]
                  exact hbn
                try simp only [Act.put, List.setIfInBounds_toArray, List.set_cons_zero, List.set_cons_succ]
                clear hbn
                have hIn := HB.out.1.keep kB (by simp)
                have hRb := kB.row HB.out.2.1 (by simp)
                have hRd := kA.row HA.out.1 (by simp)
                have hne : cb ≠ d := hRb.apart hRd (by decide)
                have HT := Lib.hid (And.intro (hRd.there (o := 0) (n := 87) (by rw [List.size_toArray, HZ.out.2]; decide)) (And.intro (set0 hRd (show N.length = Z.length by rw [HN.out.2.1, HZ.out.2])) (And.intro hIn hne)))
                clear hRb hRd hIn hne
                refine wpAnyH_ready (rs := [23]) (by kernel_rfl) (by simp) ?_
                refine AllReadyH.cons (o := ⟨_, _, _, _, _, _⟩) rfl (fun KK hKK => ?_) AllReadyH.nil
                have kS := (keepBut.refl [d] W20).setL (vs := N) (g := d) (o := 0) (.inl (by simp))
                have kF : keepBut [] wr (W20.setCells d 0 N) := kW.setL (.inr HA.out.2)
                refine step_store_mid rfl 44 (.tmp 8) (.tmp 58) rfl d 0 N.toArray rfl (by rfl) (by rw [List.size_toArray, HN.out.2.1]; exact HT.out.1) (by rw [List.size_toArray, HN.out.2.1]; exact info_pkS) (by simpa using HN.out.2.2) ?_
                refine hKK.out _ _ kF (fun _ => ?_)
                clear hKK KK
                try simp only [Act.put, List.setIfInBounds_toArray, List.set_cons_zero, List.set_cons_succ]
                refine wpAnyH_done (by kernel_rfl) ?_ _
                go_wp2_with fail
                go_meet
                exact ⟨d, cb, rfl, by rw [HN.out.1]; exact HT.out.2.1, HT.out.2.2.1.keep kS (fun y hy hm => by simp only [List.mem_singleton] at hy hm; exact HT.out.2.2.2 (hy.symm.trans hm)), kF, HB.out.2.2, HA.out.2, HT.out.2.2.2⟩
            · skip
              refine step_alloc_to _ _ rfl 44 rfl _ HZ.out.1 rfl ?_
              have k3 := (keepBut.refl [] W16).alloc (.cells Z.toArray 44)
              have hr4 := rowAt.new W16 44 Z.toArray
              have hs4 : wr.heap.size ≤ W16.heap.size := kW.size
              generalize W16.alloc (.cells Z.toArray 44) = W21 at k3 hr4 ⊢
              generalize W16.heap.size = d at hr4 hs4 ⊢
              have HA := Lib.hid (And.intro hr4 hs4)
              clear hr4 hs4
              replace kW := kW.then k3 (by simp)
              replace kB := kB.then k3 (by simp)
              clear k3
              have kA := keepBut.refl [] W21
              refine hKK.out _ _ kW (fun _ => ?_)
              clear hKK KK
              try simp only [Act.put, List.setIfInBounds_toArray, List.set_cons_zero, List.set_cons_succ]
              refine wpAnyH_ready (rs := [11]) (by kernel_rfl) (by simp) ?_
              refine AllReadyH.cons (o := ⟨_, _, _, _, _, _⟩) rfl (fun KK hKK => ?_) AllReadyH.nil
              go_simp
              (refine (B1.out _).mono ?_)
              rintro e w' ⟨rfl, rfl⟩
              go_wp2_with fail
              refine hKK.out _ _ kW (fun _ => ?_)
              clear hKK KK
              try simp only [Act.put, List.setIfInBounds_toArray, List.set_cons_zero, List.set_cons_succ]
              refine wpAnyH_ready (rs := [15]) (by kernel_rfl) (by simp) ?_
              refine AllReadyH.cons (o := ⟨_, _, _, _, _, _⟩) rfl (fun KK hKK => ?_) AllReadyH.nil
              go_simp
              (refine (get_any 3 _).mono ?_)
              rintro e W22 ⟨rfl, k3⟩
              replace kW := kW.then k3 (by simp)
              replace kB := kB.then k3 (by simp)
              replace kA := kA.then k3 (by simp)
              clear k3
              go_wp2_with fail
              refine hKK.out _ _ kW (fun _ => ?_)
              clear hKK KK
              try simp only [Act.put, List.setIfInBounds_toArray, List.set_cons_zero, List.set_cons_succ]
              have hIn := HB.out.1.keep kB (by simp)
              have hbn := build_stP y0 y1 x2 cb
              obtain ⟨N, hN⟩ : ∃ N, pkL (stP y0 y1 x2) nilV nilV (.slice (some ⟨cb, 0, none⟩) 1 1) nilV nilV = N := ⟨_, rfl⟩
              have hNl : N.length = 87 := by rw [← hN]; exact pkL_len (stP_val y0 y1 x2 hIn).rn (stP_val y0 y1 x2 hIn).an
              have hNo : ∀ u ∈ N, u.oneCell' = true := by rw [← hN]; exact pkL_one rfl rfl rfl rfl rfl
              rw [hN] at hbn
              have HN := Lib.hid (And.intro hN (And.intro hNl hNo))
              clear hN hNl hNo hIn
              refine wpAnyH_take (i := 21) (oi := ⟨_, _, _, _, _, _⟩) (v := .agg N.toArray) rfl (by kernel_rfl) (by kernel_rfl) (by kernel_rfl) (fun _ _ _ h => h) (yieldsIf_build 44 _ rfl ?_ _ ?_) kW ?_
              · rfl
              · simp only [List.map_toArray, List.map_cons, List.map_nil]
                exact hbn
              try simp only [Act.put, List.setIfInBounds_toArray, List.set_cons_zero, List.set_cons_succ]
              clear hbn
              have hIn := HB.out.1.keep kB (by simp)
              have hRb := kB.row HB.out.2.1 (by simp)
              have hRd := kA.row HA.out.1 (by simp)
              have hne : cb ≠ d := hRb.apart hRd (by decide)
              have HT := Lib.hid (And.intro (hRd.there (o := 0) (n := 87) (by rw [List.size_toArray, HZ.out.2]; decide)) (And.intro (set0 hRd (show N.length = Z.length by rw [HN.out.2.1, HZ.out.2])) (And.intro hIn hne)))
              clear hRb hRd hIn hne
              refine wpAnyH_ready (rs := [23]) (by kernel_rfl) (by simp) ?_
              refine AllReadyH.cons (o := ⟨_, _, _, _, _, _⟩) rfl (fun KK hKK => ?_) AllReadyH.nil
              have kS := (keepBut.refl [d] W22).setL (vs := N) (g := d) (o := 0) (.inl (by simp))
              have kF : keepBut [] wr (W22.setCells d 0 N) := kW.setL (.inr HA.out.2)
              refine step_store_mid rfl 44 (.tmp 8) (.tmp 58) rfl d 0 N.toArray rfl (by rfl) (by rw [List.size_toArray, HN.out.2.1]; exact HT.out.1) (by rw [List.size_toArray, HN.out.2.1]; exact info_pkS) (by simpa using HN.out.2.2) ?_
              refine hKK.out _ _ kF (fun _ => ?_)
              clear hKK KK
              try simp only [Act.put, List.setIfInBounds_toArray, List.set_cons_zero, List.set_cons_succ]
              refine wpAnyH_done (by kernel_rfl) ?_ _
              go_wp2_with fail
              go_meet
              exact ⟨d, cb, rfl, by rw [HN.out.1]; exact HT.out.2.1, HT.out.2.2.1.keep kS (fun y hy hm => by simp only [List.mem_singleton] at hy hm; exact HT.out.2.2.2 (hy.symm.trans hm)), kF, HB.out.2.2, HA.out.2, HT.out.2.2.2⟩
          · skip
            refine step_alloc_to _ _ rfl 44 rfl _ HZ.out.1 rfl ?_
            have k3 := (keepBut.refl [] W0).alloc (.cells Z.toArray 44)
            have hr4 := rowAt.new W0 44 Z.toArray
            have hs4 : wr.heap.size ≤ W0.heap.size := kW.size
            generalize W0.alloc (.cells Z.toArray 44) = W23 at k3 hr4 ⊢
            generalize W0.heap.size = d at hr4 hs4 ⊢
            have HA := Lib.hid (And.intro hr4 hs4)
            clear hr4 hs4
            replace kW := kW.then k3 (by simp)
            clear k3
            have kA := keepBut.refl [] W23
            refine hKK.out _ _ kW (fun _ => ?_)
            clear hKK KK
            try simp only [Act.put, List.setIfInBounds_toArray, List.set_cons_zero, List.set_cons_succ]
            refine wpAnyH_ready (rs := [11, 12]) (by kernel_rfl) (by simp) ?_
            refine AllReadyH.cons (o := ⟨_, _, _, _, _, _⟩) rfl (fun KK hKK => ?_) (AllReadyH.cons (o := ⟨_, _, _, _, _, _⟩) rfl (fun KK hKK => ?_) AllReadyH.nil)
            · skip
              go_simp
              (refine (B1.out _).mono ?_)
              rintro e w' ⟨rfl, rfl⟩
              go_wp2_with fail
              refine hKK.out _ _ kW (fun _ => ?_)
              clear hKK KK
              try simp only [Act.put, List.setIfInBounds_toArray, List.set_cons_zero, List.set_cons_succ]
              refine wpAnyH_ready (rs := [12, 15]) (by kernel_rfl) (by simp) ?_
              refine AllReadyH.cons (o := ⟨_, _, _, _, _, _⟩) rfl (fun KK hKK => ?_) (AllReadyH.cons (o := ⟨_, _, _, _, _, _⟩) rfl (fun KK hKK => ?_) AllReadyH.nil)
              · skip
                go_simp
                have k3 := (keepBut.refl [] W23).alloc (.cells #[.int .i64 10] 3)
                have hi3 := ints1 W23 10
                have hr3 := rowAt.new W23 3 #[.int .i64 10]
                have hs3 : wr.heap.size ≤ W23.heap.size := kW.size
                generalize W23.alloc (.cells #[.int .i64 10] 3) = W24 at k3 hi3 hr3 ⊢
                generalize W23.heap.size = cb at hi3 hr3 hs3 ⊢
                have HB := Lib.hid (And.intro hi3 (And.intro hr3 hs3))
                clear hi3 hr3 hs3
                replace kW := kW.then k3 (by simp)
                replace kA := kA.then k3 (by simp)
                clear k3
                have kB := keepBut.refl [] W24
                refine hKK.out _ _ kW (fun _ => ?_)
                clear hKK KK
                try simp only [Act.put, List.setIfInBounds_toArray, List.set_cons_zero, List.set_cons_succ]
                refine wpAnyH_take (i := 13) (oi := ⟨_, _, _, _, _, _⟩) (v := .agg (cfL ⟨5, 0, [10]⟩ (.slice (some ⟨cb, 0, none⟩) 1 1)).toArray) rfl (by kernel_rfl) (by kernel_rfl) (by kernel_rfl) (fun _ _ _ h => h) (yieldsIf_build 41 _ rfl ?_ _ ?_) kW ?_
                · rfl
                · simp only [List.map_toArray, List.map_cons, List.map_nil]
                  exact build_stCf cb
                try simp only [Act.put, List.setIfInBounds_toArray, List.set_cons_zero, List.set_cons_succ]
                refine wpAnyH_ready (rs := [15]) (by kernel_rfl) (by simp) ?_
                refine AllReadyH.cons (o := ⟨_, _, _, _, _, _⟩) rfl (fun KK hKK => ?_) AllReadyH.nil
                go_simp
                (refine (get_any 3 _).mono ?_)
                rintro e W25 ⟨rfl, k3⟩
                replace kW := kW.then k3 (by simp)
                replace kB := kB.then k3 (by simp)
                replace kA := kA.then k3 (by simp)
                clear k3
                go_wp2_with fail
                refine hKK.out _ _ kW (fun _ => ?_)
                clear hKK KK
                try simp only [Act.put, List.setIfInBounds_toArray, List.set_cons_zero, List.set_cons_succ]
                have hIn := HB.out.1.keep kB (by simp)
                have hbn := build_stP y0 y1 x2 cb
                obtain ⟨N, hN⟩ : ∃ N, pkL (stP y0 y1 x2) nilV nilV (.slice (some ⟨cb, 0, none⟩) 1 1) nilV nilV = N := ⟨_, rfl⟩
                have hNl : N.length = 87 := by rw [← hN]; exact pkL_len (stP_val y0 y1 x2 hIn).rn (stP_val y0 y1 x2 hIn).an
                have hNo : ∀ u ∈ N, u.oneCell' = true := by rw [← hN]; exact pkL_one rfl rfl rfl rfl rfl
                rw [hN] at hbn
                have HN := Lib.hid (And.intro hN (And.intro hNl hNo))
                clear hN hNl hNo hIn
                refine wpAnyH_take (i := 21) (oi := ⟨_, _, _, _, _, _⟩) (v := .agg N.toArray) rfl (by kernel_rfl) (by kernel_rfl) (by kernel_rfl) (fun _ _ _ h => h) (yieldsIf_build 44 _ rfl ?_ _ ?_) kW ?_
                · rfl
                · simp only [List.map_toArray, List.map_cons, List.map_nil]
                  exact hbn
                try simp only [Act.put, List.setIfInBounds_toArray, List.set_cons_zero, List.set_cons_succ]
                clear hbn
                have hIn := HB.out.1.keep kB (by simp)
                have hRb := kB.row HB.out.2.1 (by simp)
                have hRd := kA.row HA.out.1 (by simp)
                have hne : cb ≠ d := hRb.apart hRd (by decide)
                have HT := Lib.hid (And.intro (hRd.there (o := 0) (n := 87) (by rw [List.size_toArray, HZ.out.2]; decide)) (And.intro (set0 hRd (show N.length = Z.length by rw [HN.out.2.1, HZ.out.2])) (And.intro hIn hne)))
                clear hRb hRd hIn hne
                refine wpAnyH_ready (rs := [23]) (by kernel_rfl) (by simp) ?_
                refine AllReadyH.cons (o := ⟨_, _, _, _, _, _⟩) rfl (fun KK hKK => ?_) AllReadyH.nil
                have kS := (keepBut.refl [d] W25).setL (vs := N) (g := d) (o := 0) (.inl (by simp))
                have kF : keepBut [] wr (W25.setCells d 0 N) := kW.setL (.inr HA.out.2)
                refine step_store_mid rfl 44 (.tmp 8) (.tmp 58) rfl d 0 N.toArray rfl (by rfl) (by rw [List.size_toArray, HN.out.2.1]; exact HT.out.1) (by rw [List.size_toArray, HN.out.2.1]; exact info_pkS) (by simpa using HN.out.2.2) ?_
                refine hKK.out _ _ kF (fun _ => ?_)
                clear hKK KK
                try simp only [Act.put, List.setIfInBounds_toArray, List.set_cons_zero, List.set_cons_succ]
                refine wpAnyH_done (by kernel_rfl) ?_ _
                go_wp2_with fail
                go_meet
                exact ⟨d, cb, rfl, by rw [HN.out.1]; exact HT.out.2.1, HT.out.2.2.1.keep kS (fun y hy hm => by simp only [List.mem_singleton] at hy hm; exact HT.out.2.2.2 (hy.symm.trans hm)), kF, HB.out.2.2, HA.out.2, HT.out.2.2.2⟩
              · skip
                go_simp
                (refine (get_any 3 _).mono ?_)
                rintro e W26 ⟨rfl, k3⟩
                replace kW := kW.then k3 (by simp)
                replace kA := kA.then k3 (by simp)
                clear k3
                go_wp2_with fail
                refine hKK.out _ _ kW (fun _ => ?_)
                clear hKK KK
                try simp only [Act.put, List.setIfInBounds_toArray, List.set_cons_zero, List.set_cons_succ]
                refine wpAnyH_ready (rs := [12]) (by kernel_rfl) (by simp) ?_
                refine AllReadyH.cons (o := ⟨_, _, _, _, _, _⟩) rfl (fun KK hKK => ?_) AllReadyH.nil
                go_simp
                have k3 := (keepBut.refl [] W26).alloc (.cells #[.int .i64 10] 3)
                have hi3 := ints1 W26 10
                have hr3 := rowAt.new W26 3 #[.int .i64 10]
                have hs3 : wr.heap.size ≤ W26.heap.size := kW.size
                generalize W26.alloc (.cells #[.int .i64 10] 3) = W27 at k3 hi3 hr3 ⊢
                generalize W26.heap.size = cb at hi3 hr3 hs3 ⊢
                have HB := Lib.hid (And.intro hi3 (And.intro hr3 hs3))
                clear hi3 hr3 hs3
                replace kW := kW.then k3 (by simp)
                replace kA := kA.then k3 (by simp)
                clear k3
                have kB := keepBut.refl [] W27
                refine hKK.out _ _ kW (fun _ => ?_)
                clear hKK KK
                try simp only [Act.put, List.setIfInBounds_toArray, List.set_cons_zero, List.set_cons_succ]
                refine wpAnyH_take (i := 13) (oi := ⟨_, _, _, _, _, _⟩) (v := .agg (cfL ⟨5, 0, [10]⟩ (.slice (some ⟨cb, 0, none⟩) 1 1)).toArray) rfl (by kernel_rfl) (by kernel_rfl) (by kernel_rfl) (fun _ _ _ h => h) (yieldsIf_build 41 _ rfl ?_ _ ?_) kW ?_
                · rfl
                · simp only [List.map_toArray, List.map_cons, List.map_nil]
                  exact build_stCf cb
                try simp only [Act.put, List.setIfInBounds_toArray, List.set_cons_zero, List.set_cons_succ]
                have hIn := HB.out.1.keep kB (by simp)
                have hbn := build_stP y0 y1 x2 cb
                obtain ⟨N, hN⟩ : ∃ N, pkL (stP y0 y1 x2) nilV nilV (.slice (some ⟨cb, 0, none⟩) 1 1) nilV nilV = N := ⟨_, rfl⟩
                have hNl : N.length = 87 := by rw [← hN]; exact pkL_len (stP_val y0 y1 x2 hIn).rn (stP_val y0 y1 x2 hIn).an
                have hNo : ∀ u ∈ N, u.oneCell' = true := by rw [← hN]; exact pkL_one rfl rfl rfl rfl rfl
                rw [hN] at hbn
                have HN := Lib.hid (And.intro hN (And.intro hNl hNo))
                clear hN hNl hNo hIn
                refine wpAnyH_take (i := 21) (oi := ⟨_, _, _, _, _, _⟩) (v := .agg N.toArray) rfl (by kernel_rfl) (by kernel_rfl) (by kernel_rfl) (fun _ _ _ h => h) (yieldsIf_build 44 _ rfl ?_ _ ?_) kW ?_
                · rfl
                · simp only [List.map_toArray, List.map_cons, List.map_nil]
                  exact hbn
                try simp only [Act.put, List.setIfInBounds_toArray, List.set_cons_zero, List.set_cons_succ]
                clear hbn
                have hIn := HB.out.1.keep kB (by simp)
                have hRb := kB.row HB.out.2.1 (by simp)
                have hRd := kA.row HA.out.1 (by simp)
                have hne : cb ≠ d := hRb.apart hRd (by decide)
                have HT := Lib.hid (And.intro (hRd.there (o := 0) (n := 87) (by rw [List.size_toArray, HZ.out.2]; decide)) (And.intro (set0 hRd (show N.length = Z.length by rw [HN.out.2.1, HZ.out.2])) (And.intro hIn hne)))
                clear hRb hRd hIn hne
                refine wpAnyH_ready (rs := [23]) (by kernel_rfl) (by simp) ?_
                refine AllReadyH.cons (o := ⟨_, _, _, _, _, _⟩) rfl (fun KK hKK => ?_) AllReadyH.nil
                have kS := (keepBut.refl [d] W27).setL (vs := N) (g := d) (o := 0) (.inl (by simp))
                have kF : keepBut [] wr (W27.setCells d 0 N) := kW.setL (.inr HA.out.2)
                refine step_store_mid rfl 44 (.tmp 8) (.tmp 58) rfl d 0 N.toArray rfl (by rfl) (by rw [List.size_toArray, HN.out.2.1]; exact HT.out.1) (by rw [List.size_toArray, HN.out.2.1]; exact info_pkS) (by simpa using HN.out.2.2) ?_
                refine hKK.out _ _ kF (fun _ => ?_)
                clear hKK KK
                try simp only [Act.put, List.setIfInBounds_toArray, List.set_cons_zero, List.set_cons_succ]
                refine wpAnyH_done (by kernel_rfl) ?_ _
                go_wp2_with fail
                go_meet
                exact ⟨d, cb, rfl, by rw [HN.out.1]; exact HT.out.2.1, HT.out.2.2.1.keep kS (fun y hy hm => by simp only [List.mem_singleton] at hy hm; exact HT.out.2.2.2 (hy.symm.trans hm)), kF, HB.out.2.2, HA.out.2, HT.out.2.2.2⟩
            · skip
              go_simp
              have k3 := (keepBut.refl [] W23).alloc (.cells #[.int .i64 10] 3)
              have hi3 := ints1 W23 10
              have hr3 := rowAt.new W23 3 #[.int .i64 10]
              have hs3 : wr.heap.size ≤ W23.heap.size := kW.size
              generalize W23.alloc (.cells #[.int .i64 10] 3) = W28 at k3 hi3 hr3 ⊢
              generalize W23.heap.size = cb at hi3 hr3 hs3 ⊢
              have HB := Lib.hid (And.intro hi3 (And.intro hr3 hs3))
              clear hi3 hr3 hs3
              replace kW := kW.then k3 (by simp)
              replace kA := kA.then k3 (by simp)
              clear k3
              have kB := keepBut.refl [] W28
              refine hKK.out _ _ kW (fun _ => ?_)
              clear hKK KK
              try simp only [Act.put, List.setIfInBounds_toArray, List.set_cons_zero, List.set_cons_succ]
              refine wpAnyH_take (i := 13) (oi := ⟨_, _, _, _, _, _⟩) (v := .agg (cfL ⟨5, 0, [10]⟩ (.slice (some ⟨cb, 0, none⟩) 1 1)).toArray) rfl (by kernel_rfl) (by kernel_rfl) (by kernel_rfl) (fun _ _ _ h => h) (yieldsIf_build 41 _ rfl ?_ _ ?_) kW ?_
              · rfl
              · simp only [List.map_toArray, List.map_cons, List.map_nil]
                exact build_stCf cb
              try simp only [Act.put, List.setIfInBounds_toArray, List.set_cons_zero, List.set_cons_succ]
              refine wpAnyH_ready (rs := [11]) (by kernel_rfl) (by simp) ?_
              refine AllReadyH.cons (o := ⟨_, _, _, _, _, _⟩) rfl (fun KK hKK => ?_) AllReadyH.nil
              go_simp
              (refine (B1.out _).mono ?_)
              rintro e w' ⟨rfl, rfl⟩
              go_wp2_with fail
              refine hKK.out _ _ kW (fun _ => ?_)
              clear hKK KK
              try simp only [Act.put, List.setIfInBounds_toArray, List.set_cons_zero, List.set_cons_succ]
              refine wpAnyH_ready (rs := [15]) (by kernel_rfl) (by simp) ?_
              refine AllReadyH.cons (o := ⟨_, _, _, _, _, _⟩) rfl (fun KK hKK => ?_) AllReadyH.nil
              go_simp
              (refine (get_any 3 _).mono ?_)
              rintro e W29 ⟨rfl, k3⟩
              replace kW := kW.then k3 (by simp)
              replace kB := kB.then k3 (by simp)
              replace kA := kA.then k3 (by simp)
              clear k3
              go_wp2_with fail
              refine hKK.out _ _ kW (fun _ => ?_)
              clear hKK KK
              try simp only [Act.put, List.setIfInBounds_toArray, List.set_cons_zero, List.set_cons_succ]
              have hIn := HB.out.1.keep kB (by simp)
              have hbn := build_stP y0 y1 x2 cb
              obtain ⟨N, hN⟩ : ∃ N, pkL (stP y0 y1 x2) nilV nilV (.slice (some ⟨cb, 0, none⟩) 1 1) nilV nilV = N := ⟨_, rfl⟩
              have hNl : N.length = 87 := by rw [← hN]; exact pkL_len (stP_val y0 y1 x2 hIn).rn (stP_val y0 y1 x2 hIn).an
              have hNo : ∀ u ∈ N, u.oneCell' = true := by rw [← hN]; exact pkL_one rfl rfl rfl rfl rfl
              rw [hN] at hbn
              have HN := Lib.hid (And.intro hN (And.intro hNl hNo))
              clear hN hNl hNo hIn
              refine wpAnyH_take (i := 21) (oi := ⟨_, _, _, _, _, _⟩) (v := .agg N.toArray) rfl (by kernel_rfl) (by kernel_rfl) (by kernel_rfl) (fun _ _ _ h => h) (yieldsIf_build 44 _ rfl ?_ _ ?_) kW ?_
              · rfl
              · simp only [List.map_toArray, List.map_cons, List.map_nil]
                exact hbn
              try simp only [Act.put, List.setIfInBounds_toArray, List.set_cons_zero, List.set_cons_succ]
              clear hbn
              have hIn := HB.out.1.keep kB (by simp)
              have hRb := kB.row HB.out.2.1 (by simp)
              have hRd := kA.row HA.out.1 (by simp)
              have hne : cb ≠ d := hRb.apart hRd (by decide)
              have HT := Lib.hid (And.intro (hRd.there (o := 0) (n := 87) (by rw [List.size_toArray, HZ.out.2]; decide)) (And.intro (set0 hRd (show N.length = Z.length by rw [HN.out.2.1, HZ.out.2])) (And.intro hIn hne)))
              clear hRb hRd hIn hne
              refine wpAnyH_ready (rs := [23]) (by kernel_rfl) (by simp) ?_
              refine AllReadyH.cons (o := ⟨_, _, _, _, _, _⟩) rfl (fun KK hKK => ?_) AllReadyH.nil
              have kS := (keepBut.refl [d] W29).setL (vs := N) (g := d) (o := 0) (.inl (by simp))
              have kF : keepBut [] wr (W29.setCells d 0 N) := kW.setL (.inr HA.out.2)
              refine step_store_mid rfl 44 (.tmp 8) (.tmp 58) rfl d 0 N.toArray rfl (by rfl) (by rw [List.size_toArray, HN.out.2.1]; exact HT.out.1) (by rw [List.size_toArray, HN.out.2.1]; exact info_pkS) (by simpa using HN.out.2.2) ?_
              refine hKK.out _ _ kF (fun _ => ?_)
              clear hKK KK
              try simp only [Act.put, List.setIfInBounds_toArray, List.set_cons_zero, List.set_cons_succ]
              refine wpAnyH_done (by kernel_rfl) ?_ _
              go_wp2_with fail
              go_meet
              exact ⟨d, cb, rfl, by rw [HN.out.1]; exact HT.out.2.1, HT.out.2.2.1.keep kS (fun y hy hm => by simp only [List.mem_singleton] at hy hm; exact HT.out.2.2.2 (hy.symm.trans hm)), kF, HB.out.2.2, HA.out.2, HT.out.2.2.2⟩
        · skip
          go_simp
          have k3 := (keepBut.refl [] W0).alloc (.cells #[.int .i64 10] 3)
          have hi3 := ints1 W0 10
          have hr3 := rowAt.new W0 3 #[.int .i64 10]
          have hs3 : wr.heap.size ≤ W0.heap.size := kW.size
          generalize W0.alloc (.cells #[.int .i64 10] 3) = W30 at k3 hi3 hr3 ⊢
          generalize W0.heap.size = cb at hi3 hr3 hs3 ⊢
          have HB := Lib.hid (And.intro hi3 (And.intro hr3 hs3))
          clear hi3 hr3 hs3
          replace kW := kW.then k3 (by simp)
          clear k3
          have kB := keepBut.refl [] W30
          refine hKK.out _ _ kW (fun _ => ?_)
          clear hKK KK
          try simp only [Act.put, List.setIfInBounds_toArray, List.set_cons_zero, List.set_cons_succ]
          refine wpAnyH_take (i := 13) (oi := ⟨_, _, _, _, _, _⟩) (v := .agg (cfL ⟨5, 0, [10]⟩ (.slice (some ⟨cb, 0, none⟩) 1 1)).toArray) rfl (by kernel_rfl) (by kernel_rfl) (by kernel_rfl) (fun _ _ _ h => h) (yieldsIf_build 41 _ rfl ?_ _ ?_) kW ?_
          · rfl
          · simp only [List.map_toArray, List.map_cons, List.map_nil]
            exact build_stCf cb
          try simp only [Act.put, List.setIfInBounds_toArray, List.set_cons_zero, List.set_cons_succ]
          refine wpAnyH_ready (rs := [5, 22]) (by kernel_rfl) (by simp) ?_
          refine AllReadyH.cons (o := ⟨_, _, _, _, _, _⟩) rfl (fun KK hKK => ?_) (AllReadyH.cons (o := ⟨_, _, _, _, _, _⟩) rfl (fun KK hKK => ?_) AllReadyH.nil)
          · skip
            go_simp
            (refine (B0.out _).mono ?_)
            rintro e w' ⟨rfl, rfl⟩
            go_wp2_with fail
            refine hKK.out _ _ kW (fun _ => ?_)
            clear hKK KK
            try simp only [Act.put, List.setIfInBounds_toArray, List.set_cons_zero, List.set_cons_succ]
            refine wpAnyH_ready (rs := [11, 22]) (by kernel_rfl) (by simp) ?_
            refine AllReadyH.cons (o := ⟨_, _, _, _, _, _⟩) rfl (fun KK hKK => ?_) (AllReadyH.cons (o := ⟨_, _, _, _, _, _⟩) rfl (fun KK hKK => ?_) AllReadyH.nil)
            · skip
              go_simp
              (refine (B1.out _).mono ?_)
              rintro e w' ⟨rfl, rfl⟩
              go_wp2_with fail
              refine hKK.out _ _ kW (fun _ => ?_)
              clear hKK KK
              try simp only [Act.put, List.setIfInBounds_toArray, List.set_cons_zero, List.set_cons_succ]
              refine wpAnyH_ready (rs := [15, 22]) (by kernel_rfl) (by simp) ?_
              refine AllReadyH.cons (o := ⟨_, _, _, _, _, _⟩) rfl (fun KK hKK => ?_) (AllReadyH.cons (o := ⟨_, _, _, _, _, _⟩) rfl (fun KK hKK => ?_) AllReadyH.nil)
              · skip
                go_simp
                (refine (get_any 3 _).mono ?_)
                rintro e W31 ⟨rfl, k3⟩
                replace kW := kW.then k3 (by simp)
                replace kB := kB.then k3 (by simp)
                clear k3
                go_wp2_with fail
                refine hKK.out _ _ kW (fun _ => ?_)
                clear hKK KK
                try simp only [Act.put, List.setIfInBounds_toArray, List.set_cons_zero, List.set_cons_succ]
                have hIn := HB.out.1.keep kB (by simp)
                have hbn := build_stP y0 y1 x2 cb
                obtain ⟨N, hN⟩ : ∃ N, pkL (stP y0 y1 x2) nilV nilV (.slice (some ⟨cb, 0, none⟩) 1 1) nilV nilV = N := ⟨_, rfl⟩
                have hNl : N.length = 87 := by rw [← hN]; exact pkL_len (stP_val y0 y1 x2 hIn).rn (stP_val y0 y1 x2 hIn).an
                have hNo : ∀ u ∈ N, u.oneCell' = true := by rw [← hN]; exact pkL_one rfl rfl rfl rfl rfl
                rw [hN] at hbn
                have HN := Lib.hid (And.intro hN (And.intro hNl hNo))
                clear hN hNl hNo hIn
                refine wpAnyH_take (i := 21) (oi := ⟨_, _, _, _, _, _⟩) (v := .agg N.toArray) rfl (by kernel_rfl) (by kernel_rfl) (by kernel_rfl) (fun _ _ _ h => h) (yieldsIf_build 44 _ rfl ?_ _ ?_) kW ?_
                · rfl
                · simp only [List.map_toArray, List.map_cons, List.map_nil]
                  exact hbn
                try simp only [Act.put, List.setIfInBounds_toArray, List.set_cons_zero, List.set_cons_succ]
                clear hbn
                refine wpAnyH_ready (rs := [22]) (by kernel_rfl) (by simp) ?_
                refine AllReadyH.cons (o := ⟨_, _, _, _, _, _⟩) rfl (fun KK hKK => ?_) AllReadyH.nil
                refine step_alloc_to _ _ rfl 44 rfl _ HZ.out.1 rfl ?_
                have k3 := (keepBut.refl [] W31).alloc (.cells Z.toArray 44)
                have hr4 := rowAt.new W31 44 Z.toArray
                have hs4 : wr.heap.size ≤ W31.heap.size := kW.size
                generalize W31.alloc (.cells Z.toArray 44) = W32 at k3 hr4 ⊢
                generalize W31.heap.size = d at hr4 hs4 ⊢
                have HA := Lib.hid (And.intro hr4 hs4)
                clear hr4 hs4
                replace kW := kW.then k3 (by simp)
                replace kB := kB.then k3 (by simp)
                clear k3
                have kA := keepBut.refl [] W32
                refine hKK.out _ _ kW (fun _ => ?_)
                clear hKK KK
                try simp only [Act.put, List.setIfInBounds_toArray, List.set_cons_zero, List.set_cons_succ]
                have hIn := HB.out.1.keep kB (by simp)
                have hRb := kB.row HB.out.2.1 (by simp)
                have hRd := kA.row HA.out.1 (by simp)
                have hne : cb ≠ d := hRb.apart hRd (by decide)
                have HT := Lib.hid (And.intro (hRd.there (o := 0) (n := 87) (by rw [List.size_toArray, HZ.out.2]; decide)) (And.intro (set0 hRd (show N.length = Z.length by rw [HN.out.2.1, HZ.out.2])) (And.intro hIn hne)))
                clear hRb hRd hIn hne
                refine wpAnyH_ready (rs := [23]) (by kernel_rfl) (by simp) ?_
                refine AllReadyH.cons (o := ⟨_, _, _, _, _, _⟩) rfl (fun KK hKK => ?_) AllReadyH.nil
                have kS := (keepBut.refl [d] W32).setL (vs := N) (g := d) (o := 0) (.inl (by simp))
                have kF : keepBut [] wr (W32.setCells d 0 N) := kW.setL (.inr HA.out.2)
                refine step_store_mid rfl 44 (.tmp 8) (.tmp 58) rfl d 0 N.toArray rfl (by rfl) (by rw [List.size_toArray, HN.out.2.1]; exact HT.out.1) (by rw [List.size_toArray, HN.out.2.1]; exact info_pkS) (by simpa using HN.out.2.2) ?_
                refine hKK.out _ _ kF (fun _ => ?_)
                clear hKK KK
                try simp only [Act.put, List.setIfInBounds_toArray, List.set_cons_zero, List.set_cons_succ]
                refine wpAnyH_done (by kernel_rfl) ?_ _
                go_wp2_with fail
                go_meet
                exact ⟨d, cb, rfl, by rw [HN.out.1]; exact HT.out.2.1, HT.out.2.2.1.keep kS (fun y hy hm => by simp only [List.mem_singleton] at hy hm; exact HT.out.2.2.2 (hy.symm.trans hm)), kF, HB.out.2.2, HA.out.2, HT.out.2.2.2⟩
              · skip
                refine step_alloc_to _ _ rfl 44 rfl _ HZ.out.1 rfl ?_
                have k3 := (keepBut.refl [] W30).alloc (.cells Z.toArray 44)
                have hr4 := rowAt.new W30 44 Z.toArray
                have hs4 : wr.heap.size ≤ W30.heap.size := kW.size
                generalize W30.alloc (.cells Z.toArray 44) = W33 at k3 hr4 ⊢
                generalize W30.heap.size = d at hr4 hs4 ⊢
                have HA := Lib.hid (And.intro hr4 hs4)
                clear hr4 hs4
                replace kW := kW.then k3 (by simp)
                replace kB := kB.then k3 (by simp)
                clear k3
                have kA := keepBut.refl [] W33
                refine hKK.out _ _ kW (fun _ => ?_)
                clear hKK KK
                try simp only [Act.put, List.setIfInBounds_toArray, List.set_cons_zero, List.set_cons_succ]
                refine wpAnyH_ready (rs := [15]) (by kernel_rfl) (by simp) ?_
                refine AllReadyH.cons (o := ⟨_, _, _, _, _, _⟩) rfl (fun KK hKK => ?_) AllReadyH.nil
                go_simp
                (refine (get_any 3 _).mono ?_)
                rintro e W34 ⟨rfl, k3⟩
                replace kW := kW.then k3 (by simp)
                replace kB := kB.then k3 (by simp)
                replace kA := kA.then k3 (by simp)
                clear k3
                go_wp2_with fail
                refine hKK.out _ _ kW (fun _ => ?_)
                clear hKK KK
                try simp only [Act.put, List.setIfInBounds_toArray, List.set_cons_zero, List.set_cons_succ]
                have hIn := HB.out.1.keep kB (by simp)
                have hbn := build_stP y0 y1 x2 cb
                obtain ⟨N, hN⟩ : ∃ N, pkL (stP y0 y1 x2) nilV nilV (.slice (some ⟨cb, 0, none⟩) 1 1) nilV nilV = N := ⟨_, rfl⟩
                have hNl : N.length = 87 := by rw [← hN]; exact pkL_len (stP_val y0 y1 x2 hIn).rn (stP_val y0 y1 x2 hIn).an
                have hNo : ∀ u ∈ N, u.oneCell' = true := by rw [← hN]; exact pkL_one rfl rfl rfl rfl rfl
                rw [hN] at hbn
                have HN := Lib.hid (And.intro hN (And.intro hNl hNo))
                clear hN hNl hNo hIn
                refine wpAnyH_take (i := 21) (oi := ⟨_, _, _, _, _, _⟩) (v := .agg N.toArray) rfl (by kernel_rfl) (by kernel_rfl) (by kernel_rfl) (fun _ _ _ h => h) (yieldsIf_build 44 _ rfl ?_ _ ?_) kW ?_
                · rfl
                · simp only [List.map_toArray, List.map_cons, List.map_nil]
                  exact hbn
                try simp only [Act.put, List.setIfInBounds_toArray, List.set_cons_zero, List.set_cons_succ]
                clear hbn
                have hIn := HB.out.1.keep kB (by simp)
                have hRb := kB.row HB.out.2.1 (by simp)
                have hRd := kA.row HA.out.1 (by simp)
                have hne : cb ≠ d := hRb.apart hRd (by decide)
                have HT := Lib.hid (And.intro (hRd.there (o := 0) (n := 87) (by rw [List.size_toArray, HZ.out.2]; decide)) (And.intro (set0 hRd (show N.length = Z.length by rw [HN.out.2.1, HZ.out.2])) (And.intro hIn hne)))
                clear hRb hRd hIn hne
                refine wpAnyH_ready (rs := [23]) (by kernel_rfl) (by simp) ?_
                refine AllReadyH.cons (o := ⟨_, _, _, _, _, _⟩) rfl (fun KK hKK => ?_) AllReadyH.nil
                have kS := (keepBut.refl [d] W34).setL (vs := N) (g := d) (o := 0) (.inl (by simp))
                have kF : keepBut [] wr (W34.setCells d 0 N) := kW.setL (.inr HA.out.2)
                refine step_store_mid rfl 44 (.tmp 8) (.tmp 58) rfl d 0 N.toArray rfl (by rfl) (by rw [List.size_toArray, HN.out.2.1]; exact HT.out.1) (by rw [List.size_toArray, HN.out.2.1]; exact info_pkS) (by simpa using HN.out.2.2) ?_
                refine hKK.out _ _ kF (fun _ => ?_)
                clear hKK KK
                try simp only [Act.put, List.setIfInBounds_toArray, List.set_cons_zero, List.set_cons_succ]
                refine wpAnyH_done (by kernel_rfl) ?_ _
                go_wp2_with fail
                go_meet
                exact ⟨d, cb, rfl, by rw [HN.out.1]; exact HT.out.2.1, HT.out.2.2.1.keep kS (fun y hy hm => by simp only [List.mem_singleton] at hy hm; exact HT.out.2.2.2 (hy.symm.trans hm)), kF, HB.out.2.2, HA.out.2, HT.out.2.2.2⟩
            · skip
              refine step_alloc_to _ _ rfl 44 rfl _ HZ.out.1 rfl ?_
              have k3 := (keepBut.refl [] W30).alloc (.cells Z.toArray 44)
              have hr4 := rowAt.new W30 44 Z.toArray
              have hs4 : wr.heap.size ≤ W30.heap.size := kW.size
              generalize W30.alloc (.cells Z.toArray 44) = W35 at k3 hr4 ⊢
              generalize W30.heap.size = d at hr4 hs4 ⊢
              have HA := Lib.hid (And.intro hr4 hs4)
              clear hr4 hs4
              replace kW := kW.then k3 (by simp)
              replace kB := kB.then k3 (by simp)
              clear k3
              have kA := keepBut.refl [] W35
              refine hKK.out _ _ kW (fun _ => ?_)
              clear hKK KK
              try simp only [Act.put, List.setIfInBounds_toArray, List.set_cons_zero, List.set_cons_succ]
              refine wpAnyH_ready (rs := [11]) (by kernel_rfl) (by simp) ?_
              refine AllReadyH.cons (o := ⟨_, _, _, _, _, _⟩) rfl (fun KK hKK => ?_) AllReadyH.nil
              go_simp
              (refine (B1.out _).mono ?_)
              rintro e w' ⟨rfl, rfl⟩
              go_wp2_with fail
              refine hKK.out _ _ kW (fun _ => ?_)
              clear hKK KK
              try simp only [Act.put, List.setIfInBounds_toArray, List.set_cons_zero, List.set_cons_succ]
              refine wpAnyH_ready (rs := [15]) (by kernel_rfl) (by simp) ?_
              refine AllReadyH.cons (o := ⟨_, _, _, _, _, _⟩) rfl (fun KK hKK => ?_) AllReadyH.nil
              go_simp
              (refine (get_any 3 _).mono ?_)
              rintro e W36 ⟨rfl, k3⟩
              replace kW := kW.then k3 (by simp)
              replace kB := kB.then k3 (by simp)
              replace kA := kA.then k3 (by simp)
              clear k3
              go_wp2_with fail
              refine hKK.out _ _ kW (fun _ => ?_)
              clear hKK KK
              try simp only [Act.put, List.setIfInBounds_toArray, List.set_cons_zero, List.set_cons_succ]
              have hIn := HB.out.1.keep kB (by simp)
              have hbn := build_stP y0 y1 x2 cb
              obtain ⟨N, hN⟩ : ∃ N, pkL (stP y0 y1 x2) nilV nilV (.slice (some ⟨cb, 0, none⟩) 1 1) nilV nilV = N := ⟨_, rfl⟩
              have hNl : N.length = 87 := by rw [← hN]; exact pkL_len (stP_val y0 y1 x2 hIn).rn (stP_val y0 y1 x2 hIn).an
              have hNo : ∀ u ∈ N, u.oneCell' = true := by rw [← hN]; exact pkL_one rfl rfl rfl rfl rfl
              rw [hN] at hbn
              have HN := Lib.hid (And.intro hN (And.intro hNl hNo))
              clear hN hNl hNo hIn
              refine wpAnyH_take (i := 21) (oi := ⟨_, _, _, _, _, _⟩) (v := .agg N.toArray) rfl (by kernel_rfl) (by kernel_rfl) (by kernel_rfl) (fun _ _ _ h => h) (yieldsIf_build 44 _ rfl ?_ _ ?_) kW ?_
              · rfl
              · simp only [List.map_toArray, List.map_cons, List.map_nil]
                exact hbn
              try simp only [Act.put, List.setIfInBounds_toArray, List.set_cons_zero, List.set_cons_succ]
              clear hbn
              have hIn := HB.out.1.keep kB (by simp)
              have hRb := kB.row HB.out.2.1 (by simp)
              have hRd := kA.row HA.out.1 (by simp)
              have hne : cb ≠ d := hRb.apart hRd (by decide)
              have HT := Lib.hid (And.intro (hRd.there (o := 0) (n := 87) (by rw [List.size_toArray, HZ.out.2]; decide)) (And.intro (set0 hRd (show N.length = Z.length by rw [HN.out.2.1, HZ.out.2])) (And.intro hIn hne)))
              clear hRb hRd hIn hne
              refine wpAnyH_ready (rs := [23]) (by kernel_rfl) (by simp) ?_
              refine AllReadyH.cons (o := ⟨_, _, _, _, _, _⟩) rfl (fun KK hKK => ?_) AllReadyH.nil
              have kS := (keepBut.refl [d] W36).setL (vs := N) (g := d) (o := 0) (.inl (by simp))
              have kF : keepBut [] wr (W36.setCells d 0 N) := kW.setL (.inr HA.out.2)
              refine step_store_mid rfl 44 (.tmp 8) (.tmp 58) rfl d 0 N.toArray rfl (by rfl) (by rw [List.size_toArray, HN.out.2.1]; exact HT.out.1) (by rw [List.size_toArray, HN.out.2.1]; exact info_pkS) (by simpa using HN.out.2.2) ?_
              refine hKK.out _ _ kF (fun _ => ?_)
              clear hKK KK
              try simp only [Act.put, List.setIfInBounds_toArray, List.set_cons_zero, List.set_cons_succ]
              refine wpAnyH_done (by kernel_rfl) ?_ _
              go_wp2_with fail
              go_meet
              exact ⟨d, cb, rfl, by rw [HN.out.1]; exact HT.out.2.1, HT.out.2.2.1.keep kS (fun y hy hm => by simp only [List.mem_singleton] at hy hm; exact HT.out.2.2.2 (hy.symm.trans hm)), kF, HB.out.2.2, HA.out.2, HT.out.2.2.2⟩
          · skip
            refine step_alloc_to _ _ rfl 44 rfl _ HZ.out.1 rfl ?_
            have k3 := (keepBut.refl [] W30).alloc (.cells Z.toArray 44)
            have hr4 := rowAt.new W30 44 Z.toArray
            have hs4 : wr.heap.size ≤ W30.heap.size := kW.size
            generalize W30.alloc (.cells Z.toArray 44) = W37 at k3 hr4 ⊢
            generalize W30.heap.size = d at hr4 hs4 ⊢
            have HA := Lib.hid (And.intro hr4 hs4)
            clear hr4 hs4
            replace kW := kW.then k3 (by simp)
            replace kB := kB.then k3 (by simp)
            clear k3
            have kA := keepBut.refl [] W37
            refine hKK.out _ _ kW (fun _ => ?_)
            clear hKK KK
            try simp only [Act.put, List.setIfInBounds_toArray, List.set_cons_zero, List.set_cons_succ]
            refine wpAnyH_ready (rs := [5]) (by kernel_rfl) (by simp) ?_
            refine AllReadyH.cons (o := ⟨_, _, _, _, _, _⟩) rfl (fun KK hKK => ?_) AllReadyH.nil
            go_simp
            (refine (B0.out _).mono ?_)
            rintro e w' ⟨rfl, rfl⟩
            go_wp2_with fail
            refine hKK.out _ _ kW (fun _ => ?_)
            clear hKK KK
            try simp only [Act.put, List.setIfInBounds_toArray, List.set_cons_zero, List.set_cons_succ]
            refine wpAnyH_ready (rs := [11]) (by kernel_rfl) (by simp) ?_
            refine AllReadyH.cons (o := ⟨_, _, _, _, _, _⟩) rfl (fun KK hKK => ?_) AllReadyH.nil
            go_simp
            (refine (B1.out _).mono ?_)
            rintro e w' ⟨rfl, rfl⟩
            go_wp2_with fail
            refine hKK.out _ _ kW (fun _ => ?_)
            clear hKK KK
            try simp only [Act.put, List.setIfInBounds_toArray, List.set_cons_zero, List.set_cons_succ]
            refine wpAnyH_ready (rs := [15]) (by kernel_rfl) (by simp) ?_
            refine AllReadyH.cons (o := ⟨_, _, _, _, _, _⟩) rfl (fun KK hKK => ?_) AllReadyH.nil
            go_simp
            (refine (get_any 3 _).mono ?_)
            rintro e W38 ⟨rfl, k3⟩
            replace kW := kW.then k3 (by simp)
            replace kB := kB.then k3 (by simp)
            replace kA := kA.then k3 (by simp)
            clear k3
            go_wp2_with fail
            refine hKK.out _ _ kW (fun _ => ?_)
            clear hKK KK
            try simp only [Act.put, List.setIfInBounds_toArray, List.set_cons_zero, List.set_cons_succ]
            have hIn := HB.out.1.keep kB (by simp)
            have hbn := build_stP y0 y1 x2 cb
            obtain ⟨N, hN⟩ : ∃ N, pkL (stP y0 y1 x2) nilV nilV (.slice (some ⟨cb, 0, none⟩) 1 1) nilV nilV = N := ⟨_, rfl⟩
            have hNl : N.length = 87 := by rw [← hN]; exact pkL_len (stP_val y0 y1 x2 hIn).rn (stP_val y0 y1 x2 hIn).an
            have hNo : ∀ u ∈ N, u.oneCell' = true := by rw [← hN]; exact pkL_one rfl rfl rfl rfl rfl
            rw [hN] at hbn
            have HN := Lib.hid (And.intro hN (And.intro hNl hNo))
            clear hN hNl hNo hIn
            refine wpAnyH_take (i := 21) (oi := ⟨_, _, _, _, _, _⟩) (v := .agg N.toArray) rfl (by kernel_rfl) (by kernel_rfl) (by kernel_rfl) (fun _ _ _ h => h) (yieldsIf_build 44 _ rfl ?_ _ ?_) kW ?_
            · rfl
            · simp only [List.map_toArray, List.map_cons, List.map_nil]
              exact hbn
            try simp only [Act.put, List.setIfInBounds_toArray, List.set_cons_zero, List.set_cons_succ]
            clear hbn
            have hIn := HB.out.1.keep kB (by simp)
            have hRb := kB.row HB.out.2.1 (by simp)
            have hRd := kA.row HA.out.1 (by simp)
            have hne : cb ≠ d := hRb.apart hRd (by decide)
            have HT := Lib.hid (And.intro (hRd.there (o := 0) (n := 87) (by rw [List.size_toArray, HZ.out.2]; decide)) (And.intro (set0 hRd (show N.length = Z.length by rw [HN.out.2.1, HZ.out.2])) (And.intro hIn hne)))
            clear hRb hRd hIn hne
            refine wpAnyH_ready (rs := [23]) (by kernel_rfl) (by simp) ?_
            refine AllReadyH.cons (o := ⟨_, _, _, _, _, _⟩) rfl (fun KK hKK => ?_) AllReadyH.nil
            have kS := (keepBut.refl [d] W38).setL (vs := N) (g := d) (o := 0) (.inl (by simp))
            have kF : keepBut [] wr (W38.setCells d 0 N) := kW.setL (.inr HA.out.2)
            refine step_store_mid rfl 44 (.tmp 8) (.tmp 58) rfl d 0 N.toArray rfl (by rfl) (by rw [List.size_toArray, HN.out.2.1]; exact HT.out.1) (by rw [List.size_toArray, HN.out.2.1]; exact info_pkS) (by simpa using HN.out.2.2) ?_
            refine hKK.out _ _ kF (fun _ => ?_)
            clear hKK KK
            try simp only [Act.put, List.setIfInBounds_toArray, List.set_cons_zero, List.set_cons_succ]
            refine wpAnyH_done (by kernel_rfl) ?_ _
            go_wp2_with fail
            go_meet
            exact ⟨d, cb, rfl, by rw [HN.out.1]; exact HT.out.2.1, HT.out.2.2.1.keep kS (fun y hy hm => by simp only [List.mem_singleton] at hy hm; exact HT.out.2.2.2 (hy.symm.trans hm)), kF, HB.out.2.2, HA.out.2, HT.out.2.2.2⟩
        · skip
          refine step_alloc_to _ _ rfl 44 rfl _ HZ.out.1 rfl ?_
          have k3 := (keepBut.refl [] W0).alloc (.cells Z.toArray 44)
          have hr4 := rowAt.new W0 44 Z.toArray
          have hs4 : wr.heap.size ≤ W0.heap.size := kW.size
          generalize W0.alloc (.cells Z.toArray 44) = W39 at k3 hr4 ⊢
          generalize W0.heap.size = d at hr4 hs4 ⊢
          have HA := Lib.hid (And.intro hr4 hs4)
          clear hr4 hs4
          replace kW := kW.then k3 (by simp)
          clear k3
          have kA := keepBut.refl [] W39
          refine hKK.out _ _ kW (fun _ => ?_)
          clear hKK KK
          try simp only [Act.put, List.setIfInBounds_toArray, List.set_cons_zero, List.set_cons_succ]
          refine wpAnyH_ready (rs := [5, 12]) (by kernel_rfl) (by simp) ?_
          refine AllReadyH.cons (o := ⟨_, _, _, _, _, _⟩) rfl (fun KK hKK => ?_) (AllReadyH.cons (o := ⟨_, _, _, _, _, _⟩) rfl (fun KK hKK => ?_) AllReadyH.nil)
          · skip
            go_simp
            (refine (B0.out _).mono ?_)
            rintro e w' ⟨rfl, rfl⟩
            go_wp2_with fail
            refine hKK.out _ _ kW (fun _ => ?_)
            clear hKK KK
            try simp only [Act.put, List.setIfInBounds_toArray, List.set_cons_zero, List.set_cons_succ]
            refine wpAnyH_ready (rs := [11, 12]) (by kernel_rfl) (by simp) ?_
            refine AllReadyH.cons (o := ⟨_, _, _, _, _, _⟩) rfl (fun KK hKK => ?_) (AllReadyH.cons (o := ⟨_, _, _, _, _, _⟩) rfl (fun KK hKK => ?_) AllReadyH.nil)
            · skip
              go_simp
              (refine (B1.out _).mono ?_)
              rintro e w' ⟨rfl, rfl⟩
              go_wp2_with fail
              refine hKK.out _ _ kW (fun _ => ?_)
              clear hKK KK
              try simp only [Act.put, List.setIfInBounds_toArray, List.set_cons_zero, List.set_cons_succ]
              refine wpAnyH_ready (rs := [12, 15]) (by kernel_rfl) (by simp) ?_
              refine AllReadyH.cons (o := ⟨_, _, _, _, _, _⟩) rfl (fun KK hKK => ?_) (AllReadyH.cons (o := ⟨_, _, _, _, _, _⟩) rfl (fun KK hKK => ?_) AllReadyH.nil)
              · skip
                go_simp
                have k3 := (keepBut.refl [] W39).alloc (.cells #[.int .i64 10] 3)
                have hi3 := ints1 W39 10
                have hr3 := rowAt.new W39 3 #[.int .i64 10]
                have hs3 : wr.heap.size ≤ W39.heap.size := kW.size
                generalize W39.alloc (.cells #[.int .i64 10] 3) = W40 at k3 hi3 hr3 ⊢
                generalize W39.heap.size = cb at hi3 hr3 hs3 ⊢
                have HB := Lib.hid (And.intro hi3 (And.intro hr3 hs3))
                clear hi3 hr3 hs3
                replace kW := kW.then k3 (by simp)
                replace kA := kA.then k3 (by simp)
                clear k3
                have kB := keepBut.refl [] W40
                refine hKK.out _ _ kW (fun _ => ?_)
                clear hKK KK
                try simp only [Act.put, List.setIfInBounds_toArray, List.set_cons_zero, List.set_cons_succ]
                refine wpAnyH_take (i := 13) (oi := ⟨_, _, _, _, _, _⟩) (v := .agg (cfL ⟨5, 0, [10]⟩ (.slice (some ⟨cb, 0, none⟩) 1 1)).toArray) rfl (by kernel_rfl) (by kernel_rfl) (by kernel_rfl) (fun _ _ _ h => h) (yieldsIf_build 41 _ rfl ?_ _ ?_) kW ?_
                · rfl
                · simp only [List.map_toArray, List.map_cons, List.map_nil]
                  exact build_stCf cb
                try simp only [Act.put, List.setIfInBounds_toArray, List.set_cons_zero, List.set_cons_succ]
                refine wpAnyH_ready (rs := [15]) (by kernel_rfl) (by simp) ?_
                refine AllReadyH.cons (o := ⟨_, _, _, _, _, _⟩) rfl (fun KK hKK => ?_) AllReadyH.nil
                go_simp
                (refine (get_any 3 _).mono ?_)
                rintro e W41 ⟨rfl, k3⟩
                replace kW := kW.then k3 (by simp)
                replace kB := kB.then k3 (by simp)
                replace kA := kA.then k3 (by simp)
                clear k3
                go_wp2_with fail
                refine hKK.out _ _ kW (fun _ => ?_)
                clear hKK KK
                try simp only [Act.put, List.setIfInBounds_toArray, List.set_cons_zero, List.set_cons_succ]
                have hIn := HB.out.1.keep kB (by simp)
                have hbn := build_stP y0 y1 x2 cb
                obtain ⟨N, hN⟩ : ∃ N, pkL (stP y0 y1 x2) nilV nilV (.slice (some ⟨cb, 0, none⟩) 1 1) nilV nilV = N := ⟨_, rfl⟩
                have hNl : N.length = 87 := by rw [← hN]; exact pkL_len (stP_val y0 y1 x2 hIn).rn (stP_val y0 y1 x2 hIn).an
                have hNo : ∀ u ∈ N, u.oneCell' = true := by rw [← hN]; exact pkL_one rfl rfl rfl rfl rfl
                rw [hN] at hbn
                have HN := Lib.hid (And.intro hN (And.intro hNl hNo))
                clear hN hNl hNo hIn
                refine wpAnyH_take (i := 21) (oi := ⟨_, _, _, _, _, _⟩) (v := .agg N.toArray) rfl (by kernel_rfl) (by kernel_rfl) (by kernel_rfl) (fun _ _ _ h => h) (yieldsIf_build 44 _ rfl ?_ _ ?_) kW ?_
                · rfl
                · simp only [List.map_toArray, List.map_cons, List.map_nil]
                  exact hbn
                try simp only [Act.put, List.setIfInBounds_toArray, List.set_cons_zero, List.set_cons_succ]
                clear hbn
                have hIn := HB.out.1.keep kB (by simp)
                have hRb := kB.row HB.out.2.1 (by simp)
                have hRd := kA.row HA.out.1 (by simp)
                have hne : cb ≠ d := hRb.apart hRd (by decide)
                have HT := Lib.hid (And.intro (hRd.there (o := 0) (n := 87) (by rw [List.size_toArray, HZ.out.2]; decide)) (And.intro (set0 hRd (show N.length = Z.length by rw [HN.out.2.1, HZ.out.2])) (And.intro hIn hne)))
                clear hRb hRd hIn hne
                refine wpAnyH_ready (rs := [23]) (by kernel_rfl) (by simp) ?_
                refine AllReadyH.cons (o := ⟨_, _, _, _, _, _⟩) rfl (fun KK hKK => ?_) AllReadyH.nil
                have kS := (keepBut.refl [d] W41).setL (vs := N) (g := d) (o := 0) (.inl (by simp))
                have kF : keepBut [] wr (W41.setCells d 0 N) := kW.setL (.inr HA.out.2)
                refine step_store_mid rfl 44 (.tmp 8) (.tmp 58) rfl d 0 N.toArray rfl (by rfl) (by rw [List.size_toArray, HN.out.2.1]; exact HT.out.1) (by rw [List.size_toArray, HN.out.2.1]; exact info_pkS) (by simpa using HN.out.2.2) ?_
                refine hKK.out _ _ kF (fun _ => ?_)
                clear hKK KK
                try simp only [Act.put, List.setIfInBounds_toArray, List.set_cons_zero, List.set_cons_succ]
                refine wpAnyH_done (by kernel_rfl) ?_ _
                go_wp2_with fail
                go_meet
                exact ⟨d, cb, rfl, by rw [HN.out.1]; exact HT.out.2.1, HT.out.2.2.1.keep kS (fun y hy hm => by simp only [List.mem_singleton] at hy hm; exact HT.out.2.2.2 (hy.symm.trans hm)), kF, HB.out.2.2, HA.out.2, HT.out.2.2.2⟩
              · skip
                go_simp
                (refine (get_any 3 _).mono ?_)
                rintro e W42 ⟨rfl, k3⟩
                replace kW := kW.then k3 (by simp)
                replace kA := kA.then k3 (by simp)
                clear k3
                go_wp2_with fail
                refine hKK.out _ _ kW (fun _ => ?_)
                clear hKK KK
                try simp only [Act.put, List.setIfInBounds_toArray, List.set_cons_zero, List.set_cons_succ]
                refine wpAnyH_ready (rs := [12]) (by kernel_rfl) (by simp) ?_
                refine AllReadyH.cons (o := ⟨_, _, _, _, _, _⟩) rfl (fun KK hKK => ?_) AllReadyH.nil
                go_simp
                have k3 := (keepBut.refl [] W42).alloc (.cells #[.int .i64 10] 3)
                have hi3 := ints1 W42 10
                have hr3 := rowAt.new W42 3 #[.int .i64 10]
                have hs3 : wr.heap.size ≤ W42.heap.size := kW.size
                generalize W42.alloc (.cells #[.int .i64 10] 3) = W43 at k3 hi3 hr3 ⊢
                generalize W42.heap.size = cb at hi3 hr3 hs3 ⊢
                have HB := Lib.hid (And.intro hi3 (And.intro hr3 hs3))
                clear hi3 hr3 hs3
                replace kW := kW.then k3 (by simp)
                replace kA := kA.then k3 (by simp)
                clear k3
                have kB := keepBut.refl [] W43
                refine hKK.out _ _ kW (fun _ => ?_)
                clear hKK KK
                try simp only [Act.put, List.setIfInBounds_toArray, List.set_cons_zero, List.set_cons_succ]
                refine wpAnyH_take (i := 13) (oi := ⟨_, _, _, _, _, _⟩) (v := .agg (cfL ⟨5, 0, [10]⟩ (.slice (some ⟨cb, 0, none⟩) 1 1)).toArray) rfl (by kernel_rfl) (by kernel_rfl) (by kernel_rfl) (fun _ _ _ h => h) (yieldsIf_build 41 _ rfl ?_ _ ?_) kW ?_
                · rfl
                · simp only [List.map_toArray, List.map_cons, List.map_nil]
                  exact build_stCf cb
                try simp only [Act.put, List.setIfInBounds_toArray, List.set_cons_zero, List.set_cons_succ]
                have hIn := HB.out.1.keep kB (by simp)
                have hbn := build_stP y0 y1 x2 cb
                obtain ⟨N, hN⟩ : ∃ N, pkL (stP y0 y1 x2) nilV nilV (.slice (some ⟨cb, 0, none⟩) 1 1) nilV nilV = N := ⟨_, rfl⟩
                have hNl : N.length = 87 := by rw [← hN]; exact pkL_len (stP_val y0 y1 x2 hIn).rn (stP_val y0 y1 x2 hIn).an
                have hNo : ∀ u ∈ N, u.oneCell' = true := by rw [← hN]; exact pkL_one rfl rfl rfl rfl rfl
                rw [hN] at hbn
                have HN := Lib.hid (And.intro hN (And.intro hNl hNo))
                clear hN hNl hNo hIn
                refine wpAnyH_take (i := 21) (oi := ⟨_, _, _, _, _, _⟩) (v := .agg N.toArray) rfl (by kernel_rfl) (by kernel_rfl) (by kernel_rfl) (fun _ _ _ h => h) (yieldsIf_build 44 _ rfl ?_ _ ?_) kW ?_
                · rfl
                · simp only [List.map_toArray, List.map_cons, List.map_nil]
                  exact hbn
                try simp only [Act.put, List.setIfInBounds_toArray, List.set_cons_zero, List.set_cons_succ]
                clear hbn
                have hIn := HB.out.1.keep kB (by simp)
                have hRb := kB.row HB.out.2.1 (by simp)
                have hRd := kA.row HA.out.1 (by simp)
                have hne : cb ≠ d := hRb.apart hRd (by decide)
                have HT := Lib.hid (And.intro (hRd.there (o := 0) (n := 87) (by rw [List.size_toArray, HZ.out.2]; decide)) (And.intro (set0 hRd (show N.length = Z.length by rw [HN.out.2.1, HZ.out.2])) (And.intro hIn hne)))
                clear hRb hRd hIn hne
                refine wpAnyH_ready (rs := [23]) (by kernel_rfl) (by simp) ?_
                refine AllReadyH.cons (o := ⟨_, _, _, _, _, _⟩) rfl (fun KK hKK => ?_) AllReadyH.nil
                have kS := (keepBut.refl [d] W43).setL (vs := N) (g := d) (o := 0) (.inl (by simp))
                have kF : keepBut [] wr (W43.setCells d 0 N) := kW.setL (.inr HA.out.2)
                refine step_store_mid rfl 44 (.tmp 8) (.tmp 58) rfl d 0 N.toArray rfl (by rfl) (by rw [List.size_toArray, HN.out.2.1]; exact HT.out.1) (by rw [List.size_toArray, HN.out.2.1]; exact info_pkS) (by simpa using HN.out.2.2) ?_
                refine hKK.out _ _ kF (fun _ => ?_)
                clear hKK KK
                try simp only [Act.put, List.setIfInBounds_toArray, List.set_cons_zero, List.set_cons_succ]
                refine wpAnyH_done (by kernel_rfl) ?_ _
                go_wp2_with fail
                go_meet
                exact ⟨d, cb, rfl, by rw [HN.out.1]; exact HT.out.2.1, HT.out.2.2.1.keep kS (fun y hy hm => by simp only [List.mem_singleton] at hy hm; exact HT.out.2.2.2 (hy.symm.trans hm)), kF, HB.out.2.2, HA.out.2, HT.out.2.2.2⟩
            · skip
              go_simp
              have k3 := (keepBut.refl [] W39).alloc (.cells #[.int .i64 10] 3)
              have hi3 := ints1 W39 10
              have hr3 := rowAt.new W39 3 #[.int .i64 10]
              have hs3 : wr.heap.size ≤ W39.heap.size := kW.size
              generalize W39.alloc (.cells #[.int .i64 10] 3) = W44 at k3 hi3 hr3 ⊢
              generalize W39.heap.size = cb at hi3 hr3 hs3 ⊢
              have HB := Lib.hid (And.intro hi3 (And.intro hr3 hs3))
              clear hi3 hr3 hs3
              replace kW := kW.then k3 (by simp)
              replace kA := kA.then k3 (by simp)
              clear k3
              have kB := keepBut.refl [] W44
              refine hKK.out _ _ kW (fun _ => ?_)
              clear hKK KK
              try simp only [Act.put, List.setIfInBounds_toArray, List.set_cons_zero, List.set_cons_succ]
              refine wpAnyH_take (i := 13) (oi := ⟨_, _, _, _, _, _⟩) (v := .agg (cfL ⟨5, 0, [10]⟩ (.slice (some ⟨cb, 0, none⟩) 1 1)).toArray) rfl (by kernel_rfl) (by kernel_rfl) (by kernel_rfl) (fun _ _ _ h => h) (yieldsIf_build 41 _ rfl ?_ _ ?_) kW ?_
              · rfl
              · simp only [List.map_toArray, List.map_cons, List.map_nil]
                exact build_stCf cb
              try simp only [Act.put, List.setIfInBounds_toArray, List.set_cons_zero, List.set_cons_succ]
              refine wpAnyH_ready (rs := [11]) (by kernel_rfl) (by simp) ?_
              refine AllReadyH.cons (o := ⟨_, _, _, _, _, _⟩) rfl (fun KK hKK => ?_) AllReadyH.nil
              go_simp
              (refine (B1.out _).mono ?_)
              rintro e w' ⟨rfl, rfl⟩
              go_wp2_with fail
              refine hKK.out _ _ kW (fun _ => ?_)
              clear hKK KK
              try simp only [Act.put, List.setIfInBounds_toArray, List.set_cons_zero, List.set_cons_succ]
              refine wpAnyH_ready (rs := [15]) (by kernel_rfl) (by simp) ?_
              refine AllReadyH.cons (o := ⟨_, _, _, _, _, _⟩) rfl (fun KK hKK => ?_) AllReadyH.nil
              go_simp
              (refine (get_any 3 _).mono ?_)
              rintro e W45 ⟨rfl, k3⟩
              replace kW := kW.then k3 (by simp)
              replace kB := kB.then k3 (by simp)
              replace kA := kA.then k3 (by simp)
              clear k3
              go_wp2_with fail
              refine hKK.out _ _ kW (fun _ => ?_)
              clear hKK KK
              try simp only [Act.put, List.setIfInBounds_toArray, List.set_cons_zero, List.set_cons_succ]
              have hIn := HB.out.1.keep kB (by simp)
              have hbn := build_stP y0 y1 x2 cb
              obtain ⟨N, hN⟩ : ∃ N, pkL (stP y0 y1 x2) nilV nilV (.slice (some ⟨cb, 0, none⟩) 1 1) nilV nilV = N := ⟨_, rfl⟩
              have hNl : N.length = 87 := by rw [← hN]; exact pkL_len (stP_val y0 y1 x2 hIn).rn (stP_val y0 y1 x2 hIn).an
              have hNo : ∀ u ∈ N, u.oneCell' = true := by rw [← hN]; exact pkL_one rfl rfl rfl rfl rfl
              rw [hN] at hbn
              have HN := Lib.hid (And.intro hN (And.intro hNl hNo))
              clear hN hNl hNo hIn
              refine wpAnyH_take (i := 21) (oi := ⟨_, _, _, _, _, _⟩) (v := .agg N.toArray) rfl (by kernel_rfl) (by kernel_rfl) (by kernel_rfl) (fun _ _ _ h => h) (yieldsIf_build 44 _ rfl ?_ _ ?_) kW ?_
              · rfl
              · simp only [List.map_toArray, List.map_cons, List.map_nil]
                exact hbn
              try simp only [Act.put, List.setIfInBounds_toArray, List.set_cons_zero, List.set_cons_succ]
              clear hbn
              have hIn := HB.out.1.keep kB (by simp)
              have hRb := kB.row HB.out.2.1 (by simp)
              have hRd := kA.row HA.out.1 (by simp)
              have hne : cb ≠ d := hRb.apart hRd (by decide)
              have HT := Lib.hid (And.intro (hRd.there (o := 0) (n := 87) (by rw [List.size_toArray, HZ.out.2]; decide)) (And.intro (set0 hRd (show N.length = Z.length by rw [HN.out.2.1, HZ.out.2])) (And.intro hIn hne)))
              clear hRb hRd hIn hne
              refine wpAnyH_ready (rs := [23]) (by kernel_rfl) (by simp) ?_
              refine AllReadyH.cons (o := ⟨_, _, _, _, _, _⟩) rfl (fun KK hKK => ?_) AllReadyH.nil
              have kS := (keepBut.refl [d] W45).setL (vs := N) (g := d) (o := 0) (.inl (by simp))
              have kF : keepBut [] wr (W45.setCells d 0 N) := kW.setL (.inr HA.out.2)
              refine step_store_mid rfl 44 (.tmp 8) (.tmp 58) rfl d 0 N.toArray rfl (by rfl) (by rw [List.size_toArray, HN.out.2.1]; exact HT.out.1) (by rw [List.size_toArray, HN.out.2.1]; exact info_pkS) (by simpa using HN.out.2.2) ?_
              refine hKK.out _ _ kF (fun _ => ?_)
              clear hKK KK
              try simp only [Act.put, List.setIfInBounds_toArray, List.set_cons_zero, List.set_cons_succ]
              refine wpAnyH_done (by kernel_rfl) ?_ _
              go_wp2_with fail
              go_meet
              exact ⟨d, cb, rfl, by rw [HN.out.1]; exact HT.out.2.1, HT.out.2.2.1.keep kS (fun y hy hm => by simp only [List.mem_singleton] at hy hm; exact HT.out.2.2.2 (hy.symm.trans hm)), kF, HB.out.2.2, HA.out.2, HT.out.2.2.2⟩
          · skip
            go_simp
            have k3 := (keepBut.refl [] W39).alloc (.cells #[.int .i64 10] 3)
            have hi3 := ints1 W39 10
            have hr3 := rowAt.new W39 3 #[.int .i64 10]
            have hs3 : wr.heap.size ≤ W39.heap.size := kW.size
            generalize W39.alloc (.cells #[.int .i64 10] 3) = W46 at k3 hi3 hr3 ⊢
            generalize W39.heap.size = cb at hi3 hr3 hs3 ⊢
            have HB := Lib.hid (And.intro hi3 (And.intro hr3 hs3))
            clear hi3 hr3 hs3
            replace kW := kW.then k3 (by simp)
            replace kA := kA.then k3 (by simp)
            clear k3
            have kB := keepBut.refl [] W46
            refine hKK.out _ _ kW (fun _ => ?_)
            clear hKK KK
            try simp only [Act.put, List.setIfInBounds_toArray, List.set_cons_zero, List.set_cons_succ]
            refine wpAnyH_take (i := 13) (oi := ⟨_, _, _, _, _, _⟩) (v := .agg (cfL ⟨5, 0, [10]⟩ (.slice (some ⟨cb, 0, none⟩) 1 1)).toArray) rfl (by kernel_rfl) (by kernel_rfl) (by kernel_rfl) (fun _ _ _ h => h) (yieldsIf_build 41 _ rfl ?_ _ ?_) kW ?_
            · rfl
            · simp only [List.map_toArray, List.map_cons, List.map_nil]
              exact build_stCf cb
            try simp only [Act.put, List.setIfInBounds_toArray, List.set_cons_zero, List.set_cons_succ]
            refine wpAnyH_ready (rs := [5]) (by kernel_rfl) (by simp) ?_
            refine AllReadyH.cons (o := ⟨_, _, _, _, _, _⟩) rfl (fun KK hKK => ?_) AllReadyH.nil
            go_simp
            (refine (B0.out _).mono ?_)
            rintro e w' ⟨rfl, rfl⟩
            go_wp2_with fail
            refine hKK.out _ _ kW (fun _ => ?_)
            clear hKK KK
            try simp only [Act.put, List.setIfInBounds_toArray, List.set_cons_zero, List.set_cons_succ]
            refine wpAnyH_ready (rs := [11]) (by kernel_rfl) (by simp) ?_
            refine AllReadyH.cons (o := ⟨_, _, _, _, _, _⟩) rfl (fun KK hKK => ?_) AllReadyH.nil
            go_simp
            (refine (B1.out _).mono ?_)
            rintro e w' ⟨rfl, rfl⟩
            go_wp2_with fail
            refine hKK.out _ _ kW (fun _ => ?_)
            clear hKK KK
            try simp only [Act.put, List.setIfInBounds_toArray, List.set_cons_zero, List.set_cons_succ]
            refine wpAnyH_ready (rs := [15]) (by kernel_rfl) (by simp) ?_
            refine AllReadyH.cons (o := ⟨_, _, _, _, _, _⟩) rfl (fun KK hKK => ?_) AllReadyH.nil
            go_simp
            (refine (get_any 3 _).mono ?_)
            rintro e W47 ⟨rfl, k3⟩
            replace kW := kW.then k3 (by simp)
            replace kB := kB.then k3 (by simp)
            replace kA := kA.then k3 (by simp)
            clear k3
            go_wp2_with fail
            refine hKK.out _ _ kW (fun _ => ?_)
            clear hKK KK
            try simp only [Act.put, List.setIfInBounds_toArray, List.set_cons_zero, List.set_cons_succ]
            have hIn := HB.out.1.keep kB (by simp)
            have hbn := build_stP y0 y1 x2 cb
            obtain ⟨N, hN⟩ : ∃ N, pkL (stP y0 y1 x2) nilV nilV (.slice (some ⟨cb, 0, none⟩) 1 1) nilV nilV = N := ⟨_, rfl⟩
            have hNl : N.length = 87 := by rw [← hN]; exact pkL_len (stP_val y0 y1 x2 hIn).rn (stP_val y0 y1 x2 hIn).an
            have hNo : ∀ u ∈ N, u.oneCell' = true := by rw [← hN]; exact pkL_one rfl rfl rfl rfl rfl
            rw [hN] at hbn
            have HN := Lib.hid (And.intro hN (And.intro hNl hNo))
            clear hN hNl hNo hIn
            refine wpAnyH_take (i := 21) (oi := ⟨_, _, _, _, _, _⟩) (v := .agg N.toArray) rfl (by kernel_rfl) (by kernel_rfl) (by kernel_rfl) (fun _ _ _ h => h) (yieldsIf_build 44 _ rfl ?_ _ ?_) kW ?_
            · rfl
            · simp only [List.map_toArray, List.map_cons, List.map_nil]
              exact hbn
            try simp only [Act.put, List.setIfInBounds_toArray, List.set_cons_zero, List.set_cons_succ]
            clear hbn
            have hIn := HB.out.1.keep kB (by simp)
            have hRb := kB.row HB.out.2.1 (by simp)
            have hRd := kA.row HA.out.1 (by simp)
            have hne : cb ≠ d := hRb.apart hRd (by decide)
            have HT := Lib.hid (And.intro (hRd.there (o := 0) (n := 87) (by rw [List.size_toArray, HZ.out.2]; decide)) (And.intro (set0 hRd (show N.length = Z.length by rw [HN.out.2.1, HZ.out.2])) (And.intro hIn hne)))
            clear hRb hRd hIn hne
            refine wpAnyH_ready (rs := [23]) (by kernel_rfl) (by simp) ?_
            refine AllReadyH.cons (o := ⟨_, _, _, _, _, _⟩) rfl (fun KK hKK => ?_) AllReadyH.nil
            have kS := (keepBut.refl [d] W47).setL (vs := N) (g := d) (o := 0) (.inl (by simp))
            have kF : keepBut [] wr (W47.setCells d 0 N) := kW.setL (.inr HA.out.2)
            refine step_store_mid rfl 44 (.tmp 8) (.tmp 58) rfl d 0 N.toArray rfl (by rfl) (by rw [List.size_toArray, HN.out.2.1]; exact HT.out.1) (by rw [List.size_toArray, HN.out.2.1]; exact info_pkS) (by simpa using HN.out.2.2) ?_
            refine hKK.out _ _ kF (fun _ => ?_)
            clear hKK KK
            try simp only [Act.put, List.setIfInBounds_toArray, List.set_cons_zero, List.set_cons_succ]
            refine wpAnyH_done (by kernel_rfl) ?_ _
            go_wp2_with fail
            go_meet
            exact ⟨d, cb, rfl, by rw [HN.out.1]; exact HT.out.2.1, HT.out.2.2.1.keep kS (fun y hy hm => by simp only [List.mem_singleton] at hy hm; exact HT.out.2.2.2 (hy.symm.trans hm)), kF, HB.out.2.2, HA.out.2, HT.out.2.2.2⟩
      case rest =>
        obtain ⟨d, cb, rfl, hrN, hI, hk, hcb, hd, hne⟩ := hcut
        have HC := Lib.hid (show wr.heap.size ≤ cb ∧ wr.heap.size ≤ d from ⟨hcb, hd⟩)
        have c2 : wc.cell? ⟨d, 2, none⟩ = some (.int .i64 y1) := by rw [hrN.cell]; rfl
        have c0 : wc.cell? ⟨d, 0, none⟩ = some (.int .i64 y0) := by rw [hrN.cell]; rfl
        clear hcb hd HX B0 B1 HZ
        by_cases h22 : y1 = 22
        · subst h22
          by_cases h7 : y0 = 7
          · subst h7
            have hrT : rowAt (wc.setCell ⟨d, 2, none⟩ (.int .i64 21)) d 44 (pkL (stP (7 : Int) 21 x2) nilV nilV (.slice (some ⟨cb, 0, none⟩) 1 1) nilV nilV).toArray := by
              have h := hrN.set 2 (.int .i64 21)
              have e : (pkL (stP (7 : Int) 22 x2) nilV nilV (.slice (some ⟨cb, 0, none⟩) 1 1) nilV nilV).toArray.setIfInBounds 2 (.int .i64 21) = (pkL (stP (7 : Int) 21 x2) nilV nilV (.slice (some ⟨cb, 0, none⟩) 1 1) nilV nilV).toArray := by simp only [List.setIfInBounds_toArray]; rfl
              rw [e] at h
              exact h
            have hIT := hI.keep ((keepBut.refl [d] wc).setCell ⟨d, 2, none⟩ (.int .i64 21) (.inl (by simp))) (fun y hy hm => by simp only [List.mem_singleton] at hy hm; exact hne (hy.symm.trans hm))
            have HST := Lib.hid (show ¬ ((21 : Int) = 22 ∧ ((7 : Int) = 7 ∨ (7 : Int) = 2)) from fun h => absurd h.1 (by decide))
            have HQD := Lib.hid (HQ.out.over (hk.setCell ⟨d, 2, none⟩ (.int .i64 21) (.inr HC.out.2)))
            have f2 := hrN.free 2
            have HP := Lib.hid (And.intro hrT (And.intro hIT hne))
            clear hrT hIT hk hrN hI hne
            go_upto_region 11 with fail
            generalize wc.setCell ⟨d, 2, none⟩ (.int .i64 21) = wd at HQD HP ⊢
            clear f2 c2 c0
            have hlt := HQ.out.s.on.lt
            obtain ⟨N, hN⟩ : ∃ N, pkL (stP (7 : Int) 21 x2) nilV nilV (.slice (some ⟨cb, 0, none⟩) 1 1) nilV nilV = N := ⟨_, rfl⟩
            have HN := Lib.hid (And.intro hN (show N.length = 87 by rw [← hN]; exact pkL_len (stP_val (7 : Int) 21 x2 HP.out.2.1).rn (stP_val (7 : Int) 21 x2 HP.out.2.1).an))
            have HRW := Lib.hid (show rowAt wd d 44 N.toArray by rw [← hN]; exact HP.out.1)
            have HTk := Lib.hid (HQD.out.s.take (stP_val (7 : Int) 21 x2 HP.out.2.1) (fun y hy => by simp only [List.mem_singleton] at hy; have := HC.out; omega) (by show (0 : Nat) ≤ 1000000; omega) (by show (1 : Nat) ≤ 1000000; omega) (st_take 4 100000 i (7 : Int) 21 x2 HST.out))
            rw [hN] at HTk
            obtain ⟨Za, hZa⟩ : ∃ Z, anL anZero nilV = Z := ⟨_, rfl⟩
            have HZa := Lib.hid (show (Tryd.prog.info? 39).bind (·.zero) = some (.agg Za.toArray) ∧ Za.length = 38 by rw [← hZa]; exact ⟨zv_an, anZ_len⟩)
            clear hZa hN
            go_upto_region 12 with (first
              | (refine wpList_load_mid rfl 44 (.tmp 8) rfl d 0 rfl N _ HRW.out.rangeAll Tryd.underlying44 rfl (by rw [HN.out.2]; exact info_pkS) ?_)
              | (go_at_call 17; (refine HTk.out.mono ?_); rintro e w4 ⟨av, G', rfl, h9, _, h8, k8⟩; have HQ2 := Lib.hid (show both w p q p2 q2 i w4 from ⟨h8, HQD.out.t.apart k8 (by simp) (fun y hy => by simp only [List.mem_singleton] at hy; subst hy; exact HQD.out.s.far.1)⟩); obtain ⟨N8, hN8⟩ : ∃ X, anL anZero av = X := ⟨_, rfl⟩; have HN8 := Lib.hid (And.intro (show N8.length = 38 by rw [← hN8]; exact anL_len anZero_name) (show ∀ u ∈ N8, u.oneCell' = true by rw [← hN8]; exact anL_one anZero h9.2.one)); rw [hN8]; clear h8 h9 k8 hN8)
              | (with_reducible refine wpList_alloc_to _ _ rfl 39 rfl _ HZa.out.1 rfl ?_)
              | (refine wpList_store_mid rfl 39 (.tmp 9) (.tmp 77) rfl w4.heap.size 0 N8.toArray rfl rfl (there_newP (by rw [HN8.out.1, HZa.out.2])) (by rw [List.size_toArray, HN8.out.1]; exact info_anS) (by simpa using HN8.out.2) ?_))
            have hs := storedP (w := w4) (t := 39) (Z := Za) (X := N8) (by rw [HN8.out.1, HZa.out.2])
            have HQ3 := Lib.hid (HQ2.out.over hs.2)
            generalize (w4.alloc (.cells Za.toArray 39)).setCells w4.heap.size 0 N8 = w5 at HQ3 ⊢
            clear hs HQ2 HQD
            have hf0 := fld0
            have HI2 := Lib.hid (show (i : Int) + 1 ≤ 100000 by have := HI.out; omega)
            go_wp2_with (first
              | (go_at_call 24; first
                 | ((refine (HQ3.out.s.tick (ag_tick0 4 100000 i HI2.out)).mono ?_); rintro e w6 ⟨v6, D6, K6, rfl, hs6, h6, k6⟩; obtain ⟨A6, c6, rfl⟩ := hs6.form (n := 3) rfl; have HS6 := Lib.hid h6; have HT6 := Lib.hid (HQ3.out.t.apart k6 (by simp) (fun y hy => by have := HQ3.out.s.far; simp only [List.mem_cons, List.not_mem_nil, or_false] at hy; rcases hy with rfl | rfl <;> omega)); clear hs6 h6 k6 HQ3)
                 | ((refine (HT6.out.tick (ag_tick0 4 100000 i HI2.out)).mono ?_); rintro e w7 ⟨v7, D7, K7, rfl, hs7, h7, k7⟩; obtain ⟨A7, c7, rfl⟩ := hs7.form (n := 3) rfl; have HQ4 := Lib.hid (show both w p q p2 q2 (i + 1) w7 from ⟨HS6.out.apart k7 (by simp) (fun y hy => by have := HT6.out.far; simp only [List.mem_cons, List.not_mem_nil, or_false] at hy; rcases hy with rfl | rfl <;> omega), h7⟩); clear hs7 h7 k7 HS6 HT6))
              | (go_at_call 22; (refine HQ4.out.s.on.conf.mono ?_); rintro e w8 ⟨cv', G8, rfl, _, _, k8⟩; rw [show (cfL (agS 4 100000 (i + 1) false).conf cv').toArray = #[.int .i64 0, .int .i64 0, cv'] from rfl]; have HQ5 := Lib.hid (HQ4.out.over k8); clear k8 HQ4)
              | (go_at_call 18; (refine (HQ5.out.s.waits (b := true) rfl).mono ?_); rintro e w9 ⟨rfl, rfl⟩)
              | (go_at_call 15; (refine (HQ5.out.s.num (b := 1) rfl).mono ?_); rintro e w9 ⟨rfl, rfl⟩))
            go_roundw
            case rel => exact ⟨i + 1, by go_num, Lib.hid (by have := HI.out; have := HB.out; omega), HQ5⟩
            case measure => simp only [intOf]; have := HB.out; omega
          · by_cases hk2 : y0 = 2
            · subst hk2
              have hrT : rowAt (wc.setCell ⟨d, 2, none⟩ (.int .i64 21)) d 44 (pkL (stP (2 : Int) 21 x2) nilV nilV (.slice (some ⟨cb, 0, none⟩) 1 1) nilV nilV).toArray := by
                have h := hrN.set 2 (.int .i64 21)
                have e : (pkL (stP (2 : Int) 22 x2) nilV nilV (.slice (some ⟨cb, 0, none⟩) 1 1) nilV nilV).toArray.setIfInBounds 2 (.int .i64 21) = (pkL (stP (2 : Int) 21 x2) nilV nilV (.slice (some ⟨cb, 0, none⟩) 1 1) nilV nilV).toArray := by simp only [List.setIfInBounds_toArray]; rfl
                rw [e] at h
                exact h
              have hIT := hI.keep ((keepBut.refl [d] wc).setCell ⟨d, 2, none⟩ (.int .i64 21) (.inl (by simp))) (fun y hy hm => by simp only [List.mem_singleton] at hy hm; exact hne (hy.symm.trans hm))
              have HST := Lib.hid (show ¬ ((21 : Int) = 22 ∧ ((2 : Int) = 7 ∨ (2 : Int) = 2)) from fun h => absurd h.1 (by decide))
              have HQD := Lib.hid (HQ.out.over (hk.setCell ⟨d, 2, none⟩ (.int .i64 21) (.inr HC.out.2)))
              have f2 := hrN.free 2
              have HP := Lib.hid (And.intro hrT (And.intro hIT hne))
              clear hrT hIT hk hrN hI hne
              go_upto_region 11 with fail
              generalize wc.setCell ⟨d, 2, none⟩ (.int .i64 21) = wd at HQD HP ⊢
              clear f2 c2 c0
              have hlt := HQ.out.s.on.lt
              obtain ⟨N, hN⟩ : ∃ N, pkL (stP (2 : Int) 21 x2) nilV nilV (.slice (some ⟨cb, 0, none⟩) 1 1) nilV nilV = N := ⟨_, rfl⟩
              have HN := Lib.hid (And.intro hN (show N.length = 87 by rw [← hN]; exact pkL_len (stP_val (2 : Int) 21 x2 HP.out.2.1).rn (stP_val (2 : Int) 21 x2 HP.out.2.1).an))
              have HRW := Lib.hid (show rowAt wd d 44 N.toArray by rw [← hN]; exact HP.out.1)
              have HTk := Lib.hid (HQD.out.s.take (stP_val (2 : Int) 21 x2 HP.out.2.1) (fun y hy => by simp only [List.mem_singleton] at hy; have := HC.out; omega) (by show (0 : Nat) ≤ 1000000; omega) (by show (1 : Nat) ≤ 1000000; omega) (st_take 4 100000 i (2 : Int) 21 x2 HST.out))
              rw [hN] at HTk
              obtain ⟨Za, hZa⟩ : ∃ Z, anL anZero nilV = Z := ⟨_, rfl⟩
              have HZa := Lib.hid (show (Tryd.prog.info? 39).bind (·.zero) = some (.agg Za.toArray) ∧ Za.length = 38 by rw [← hZa]; exact ⟨zv_an, anZ_len⟩)
              clear hZa hN
              go_upto_region 12 with (first
                | (refine wpList_load_mid rfl 44 (.tmp 8) rfl d 0 rfl N _ HRW.out.rangeAll Tryd.underlying44 rfl (by rw [HN.out.2]; exact info_pkS) ?_)
                | (go_at_call 17; (refine HTk.out.mono ?_); rintro e w4 ⟨av, G', rfl, h9, _, h8, k8⟩; have HQ2 := Lib.hid (show both w p q p2 q2 i w4 from ⟨h8, HQD.out.t.apart k8 (by simp) (fun y hy => by simp only [List.mem_singleton] at hy; subst hy; exact HQD.out.s.far.1)⟩); obtain ⟨N8, hN8⟩ : ∃ X, anL anZero av = X := ⟨_, rfl⟩; have HN8 := Lib.hid (And.intro (show N8.length = 38 by rw [← hN8]; exact anL_len anZero_name) (show ∀ u ∈ N8, u.oneCell' = true by rw [← hN8]; exact anL_one anZero h9.2.one)); rw [hN8]; clear h8 h9 k8 hN8)
                | (with_reducible refine wpList_alloc_to _ _ rfl 39 rfl _ HZa.out.1 rfl ?_)
                | (refine wpList_store_mid rfl 39 (.tmp 9) (.tmp 77) rfl w4.heap.size 0 N8.toArray rfl rfl (there_newP (by rw [HN8.out.1, HZa.out.2])) (by rw [List.size_toArray, HN8.out.1]; exact info_anS) (by simpa using HN8.out.2) ?_))
              have hs := storedP (w := w4) (t := 39) (Z := Za) (X := N8) (by rw [HN8.out.1, HZa.out.2])
              have HQ3 := Lib.hid (HQ2.out.over hs.2)
              generalize (w4.alloc (.cells Za.toArray 39)).setCells w4.heap.size 0 N8 = w5 at HQ3 ⊢
              clear hs HQ2 HQD
              have hf0 := fld0
              have HI2 := Lib.hid (show (i : Int) + 1 ≤ 100000 by have := HI.out; omega)
              go_wp2_with (first
                | (go_at_call 24; first
                   | ((refine (HQ3.out.s.tick (ag_tick0 4 100000 i HI2.out)).mono ?_); rintro e w6 ⟨v6, D6, K6, rfl, hs6, h6, k6⟩; obtain ⟨A6, c6, rfl⟩ := hs6.form (n := 3) rfl; have HS6 := Lib.hid h6; have HT6 := Lib.hid (HQ3.out.t.apart k6 (by simp) (fun y hy => by have := HQ3.out.s.far; simp only [List.mem_cons, List.not_mem_nil, or_false] at hy; rcases hy with rfl | rfl <;> omega)); clear hs6 h6 k6 HQ3)
                   | ((refine (HT6.out.tick (ag_tick0 4 100000 i HI2.out)).mono ?_); rintro e w7 ⟨v7, D7, K7, rfl, hs7, h7, k7⟩; obtain ⟨A7, c7, rfl⟩ := hs7.form (n := 3) rfl; have HQ4 := Lib.hid (show both w p q p2 q2 (i + 1) w7 from ⟨HS6.out.apart k7 (by simp) (fun y hy => by have := HT6.out.far; simp only [List.mem_cons, List.not_mem_nil, or_false] at hy; rcases hy with rfl | rfl <;> omega), h7⟩); clear hs7 h7 k7 HS6 HT6))
                | (go_at_call 22; (refine HQ4.out.s.on.conf.mono ?_); rintro e w8 ⟨cv', G8, rfl, _, _, k8⟩; rw [show (cfL (agS 4 100000 (i + 1) false).conf cv').toArray = #[.int .i64 0, .int .i64 0, cv'] from rfl]; have HQ5 := Lib.hid (HQ4.out.over k8); clear k8 HQ4)
                | (go_at_call 18; (refine (HQ5.out.s.waits (b := true) rfl).mono ?_); rintro e w9 ⟨rfl, rfl⟩)
                | (go_at_call 15; (refine (HQ5.out.s.num (b := 1) rfl).mono ?_); rintro e w9 ⟨rfl, rfl⟩))
              go_roundw
              case rel => exact ⟨i + 1, by go_num, Lib.hid (by have := HI.out; have := HB.out; omega), HQ5⟩
              case measure => simp only [intOf]; have := HB.out; omega
            · have e7 : (y0 == 7) = false := by simp [h7]
              have e2 : (y0 == 2) = false := by simp [hk2]
              have hst : ¬ ((22 : Int) = 22 ∧ (y0 = 7 ∨ y0 = 2)) := fun h => by rcases h.2 with h | h; exact h7 h; exact hk2 h
              clear h7 hk2
              have HST := Lib.hid hst
              have HQD := Lib.hid (HQ.out.over hk)
              have HP := Lib.hid (And.intro hrN (And.intro hI hne))
              clear hst hk hrN hI hne
              go_upto_region 11 with fail
              clear c2 c0
              have hlt := HQ.out.s.on.lt
              obtain ⟨N, hN⟩ : ∃ N, pkL (stP y0 22 x2) nilV nilV (.slice (some ⟨cb, 0, none⟩) 1 1) nilV nilV = N := ⟨_, rfl⟩
              have HN := Lib.hid (And.intro hN (show N.length = 87 by rw [← hN]; exact pkL_len (stP_val y0 22 x2 HP.out.2.1).rn (stP_val y0 22 x2 HP.out.2.1).an))
              have HRW := Lib.hid (show rowAt wc d 44 N.toArray by rw [← hN]; exact HP.out.1)
              have HTk := Lib.hid (HQD.out.s.take (stP_val y0 22 x2 HP.out.2.1) (fun y hy => by simp only [List.mem_singleton] at hy; have := HC.out; omega) (by show (0 : Nat) ≤ 1000000; omega) (by show (1 : Nat) ≤ 1000000; omega) (st_take 4 100000 i y0 22 x2 HST.out))
              rw [hN] at HTk
              obtain ⟨Za, hZa⟩ : ∃ Z, anL anZero nilV = Z := ⟨_, rfl⟩
              have HZa := Lib.hid (show (Tryd.prog.info? 39).bind (·.zero) = some (.agg Za.toArray) ∧ Za.length = 38 by rw [← hZa]; exact ⟨zv_an, anZ_len⟩)
              clear hZa hN
              go_upto_region 12 with (first
                | (refine wpList_load_mid rfl 44 (.tmp 8) rfl d 0 rfl N _ HRW.out.rangeAll Tryd.underlying44 rfl (by rw [HN.out.2]; exact info_pkS) ?_)
                | (go_at_call 17; (refine HTk.out.mono ?_); rintro e w4 ⟨av, G', rfl, h9, _, h8, k8⟩; have HQ2 := Lib.hid (show both w p q p2 q2 i w4 from ⟨h8, HQD.out.t.apart k8 (by simp) (fun y hy => by simp only [List.mem_singleton] at hy; subst hy; exact HQD.out.s.far.1)⟩); obtain ⟨N8, hN8⟩ : ∃ X, anL anZero av = X := ⟨_, rfl⟩; have HN8 := Lib.hid (And.intro (show N8.length = 38 by rw [← hN8]; exact anL_len anZero_name) (show ∀ u ∈ N8, u.oneCell' = true by rw [← hN8]; exact anL_one anZero h9.2.one)); rw [hN8]; clear h8 h9 k8 hN8)
                | (with_reducible refine wpList_alloc_to _ _ rfl 39 rfl _ HZa.out.1 rfl ?_)
                | (refine wpList_store_mid rfl 39 (.tmp 9) (.tmp 77) rfl w4.heap.size 0 N8.toArray rfl rfl (there_newP (by rw [HN8.out.1, HZa.out.2])) (by rw [List.size_toArray, HN8.out.1]; exact info_anS) (by simpa using HN8.out.2) ?_))
              have hs := storedP (w := w4) (t := 39) (Z := Za) (X := N8) (by rw [HN8.out.1, HZa.out.2])
              have HQ3 := Lib.hid (HQ2.out.over hs.2)
              generalize (w4.alloc (.cells Za.toArray 39)).setCells w4.heap.size 0 N8 = w5 at HQ3 ⊢
              clear hs HQ2 HQD
              have hf0 := fld0
              have HI2 := Lib.hid (show (i : Int) + 1 ≤ 100000 by have := HI.out; omega)
              go_wp2_with (first
                | (go_at_call 24; first
                   | ((refine (HQ3.out.s.tick (ag_tick0 4 100000 i HI2.out)).mono ?_); rintro e w6 ⟨v6, D6, K6, rfl, hs6, h6, k6⟩; obtain ⟨A6, c6, rfl⟩ := hs6.form (n := 3) rfl; have HS6 := Lib.hid h6; have HT6 := Lib.hid (HQ3.out.t.apart k6 (by simp) (fun y hy => by have := HQ3.out.s.far; simp only [List.mem_cons, List.not_mem_nil, or_false] at hy; rcases hy with rfl | rfl <;> omega)); clear hs6 h6 k6 HQ3)
                   | ((refine (HT6.out.tick (ag_tick0 4 100000 i HI2.out)).mono ?_); rintro e w7 ⟨v7, D7, K7, rfl, hs7, h7, k7⟩; obtain ⟨A7, c7, rfl⟩ := hs7.form (n := 3) rfl; have HQ4 := Lib.hid (show both w p q p2 q2 (i + 1) w7 from ⟨HS6.out.apart k7 (by simp) (fun y hy => by have := HT6.out.far; simp only [List.mem_cons, List.not_mem_nil, or_false] at hy; rcases hy with rfl | rfl <;> omega), h7⟩); clear hs7 h7 k7 HS6 HT6))
                | (go_at_call 22; (refine HQ4.out.s.on.conf.mono ?_); rintro e w8 ⟨cv', G8, rfl, _, _, k8⟩; rw [show (cfL (agS 4 100000 (i + 1) false).conf cv').toArray = #[.int .i64 0, .int .i64 0, cv'] from rfl]; have HQ5 := Lib.hid (HQ4.out.over k8); clear k8 HQ4)
                | (go_at_call 18; (refine (HQ5.out.s.waits (b := true) rfl).mono ?_); rintro e w9 ⟨rfl, rfl⟩)
                | (go_at_call 15; (refine (HQ5.out.s.num (b := 1) rfl).mono ?_); rintro e w9 ⟨rfl, rfl⟩))
              go_roundw
              case rel => exact ⟨i + 1, by go_num, Lib.hid (by have := HI.out; have := HB.out; omega), HQ5⟩
              case measure => simp only [intOf]; have := HB.out; omega
        · have q22 : (y1 == 22) = false := by simp [h22]
          have hst : ¬ (y1 = 22 ∧ (y0 = 7 ∨ y0 = 2)) := fun h => h22 h.1
          clear h22
          have HST := Lib.hid hst
          have HQD := Lib.hid (HQ.out.over hk)
          have HP := Lib.hid (And.intro hrN (And.intro hI hne))
          clear hst hk hrN hI hne
          go_upto_region 11 with fail
          clear c2 c0
          have hlt := HQ.out.s.on.lt
          obtain ⟨N, hN⟩ : ∃ N, pkL (stP y0 y1 x2) nilV nilV (.slice (some ⟨cb, 0, none⟩) 1 1) nilV nilV = N := ⟨_, rfl⟩
          have HN := Lib.hid (And.intro hN (show N.length = 87 by rw [← hN]; exact pkL_len (stP_val y0 y1 x2 HP.out.2.1).rn (stP_val y0 y1 x2 HP.out.2.1).an))
          have HRW := Lib.hid (show rowAt wc d 44 N.toArray by rw [← hN]; exact HP.out.1)
          have HTk := Lib.hid (HQD.out.s.take (stP_val y0 y1 x2 HP.out.2.1) (fun y hy => by simp only [List.mem_singleton] at hy; have := HC.out; omega) (by show (0 : Nat) ≤ 1000000; omega) (by show (1 : Nat) ≤ 1000000; omega) (st_take 4 100000 i y0 y1 x2 HST.out))
          rw [hN] at HTk
          obtain ⟨Za, hZa⟩ : ∃ Z, anL anZero nilV = Z := ⟨_, rfl⟩
          have HZa := Lib.hid (show (Tryd.prog.info? 39).bind (·.zero) = some (.agg Za.toArray) ∧ Za.length = 38 by rw [← hZa]; exact ⟨zv_an, anZ_len⟩)
          clear hZa hN
          go_upto_region 12 with (first
            | (refine wpList_load_mid rfl 44 (.tmp 8) rfl d 0 rfl N _ HRW.out.rangeAll Tryd.underlying44 rfl (by rw [HN.out.2]; exact info_pkS) ?_)
            | (go_at_call 17; (refine HTk.out.mono ?_); rintro e w4 ⟨av, G', rfl, h9, _, h8, k8⟩; have HQ2 := Lib.hid (show both w p q p2 q2 i w4 from ⟨h8, HQD.out.t.apart k8 (by simp) (fun y hy => by simp only [List.mem_singleton] at hy; subst hy; exact HQD.out.s.far.1)⟩); obtain ⟨N8, hN8⟩ : ∃ X, anL anZero av = X := ⟨_, rfl⟩; have HN8 := Lib.hid (And.intro (show N8.length = 38 by rw [← hN8]; exact anL_len anZero_name) (show ∀ u ∈ N8, u.oneCell' = true by rw [← hN8]; exact anL_one anZero h9.2.one)); rw [hN8]; clear h8 h9 k8 hN8)
            | (with_reducible refine wpList_alloc_to _ _ rfl 39 rfl _ HZa.out.1 rfl ?_)
            | (refine wpList_store_mid rfl 39 (.tmp 9) (.tmp 77) rfl w4.heap.size 0 N8.toArray rfl rfl (there_newP (by rw [HN8.out.1, HZa.out.2])) (by rw [List.size_toArray, HN8.out.1]; exact info_anS) (by simpa using HN8.out.2) ?_))
          have hs := storedP (w := w4) (t := 39) (Z := Za) (X := N8) (by rw [HN8.out.1, HZa.out.2])
          have HQ3 := Lib.hid (HQ2.out.over hs.2)
          generalize (w4.alloc (.cells Za.toArray 39)).setCells w4.heap.size 0 N8 = w5 at HQ3 ⊢
          clear hs HQ2 HQD
          have hf0 := fld0
          have HI2 := Lib.hid (show (i : Int) + 1 ≤ 100000 by have := HI.out; omega)
          go_wp2_with (first
            | (go_at_call 24; first
               | ((refine (HQ3.out.s.tick (ag_tick0 4 100000 i HI2.out)).mono ?_); rintro e w6 ⟨v6, D6, K6, rfl, hs6, h6, k6⟩; obtain ⟨A6, c6, rfl⟩ := hs6.form (n := 3) rfl; have HS6 := Lib.hid h6; have HT6 := Lib.hid (HQ3.out.t.apart k6 (by simp) (fun y hy => by have := HQ3.out.s.far; simp only [List.mem_cons, List.not_mem_nil, or_false] at hy; rcases hy with rfl | rfl <;> omega)); clear hs6 h6 k6 HQ3)
               | ((refine (HT6.out.tick (ag_tick0 4 100000 i HI2.out)).mono ?_); rintro e w7 ⟨v7, D7, K7, rfl, hs7, h7, k7⟩; obtain ⟨A7, c7, rfl⟩ := hs7.form (n := 3) rfl; have HQ4 := Lib.hid (show both w p q p2 q2 (i + 1) w7 from ⟨HS6.out.apart k7 (by simp) (fun y hy => by have := HT6.out.far; simp only [List.mem_cons, List.not_mem_nil, or_false] at hy; rcases hy with rfl | rfl <;> omega), h7⟩); clear hs7 h7 k7 HS6 HT6))
            | (go_at_call 22; (refine HQ4.out.s.on.conf.mono ?_); rintro e w8 ⟨cv', G8, rfl, _, _, k8⟩; rw [show (cfL (agS 4 100000 (i + 1) false).conf cv').toArray = #[.int .i64 0, .int .i64 0, cv'] from rfl]; have HQ5 := Lib.hid (HQ4.out.over k8); clear k8 HQ4)
            | (go_at_call 18; (refine (HQ5.out.s.waits (b := true) rfl).mono ?_); rintro e w9 ⟨rfl, rfl⟩)
            | (go_at_call 15; (refine (HQ5.out.s.num (b := 1) rfl).mono ?_); rintro e w9 ⟨rfl, rfl⟩))
          go_roundw
          case rel => exact ⟨i + 1, by go_num, Lib.hid (by have := HI.out; have := HB.out; omega), HQ5⟩
          case measure => simp only [intOf]; have := HB.out; omega
    · have hor : ¬ (i : Int) < (n : Int) ∨ ((i : Int) < (n : Int) ∧ ¬ (i : Int) < 60) := by omega
      have HW := Lib.hid (worksQ_any wr HQ.out.s.sizes)
      have HK := Lib.hid HQ.out.s.kept
      clear hi HQ
      rcases hor with hor | ⟨hor, hor2⟩
      · go_wp2_with (first
          | (go_at_call 13; (with_reducible refine HW.out.mono ?_); rintro e w4 ⟨rfl, k4⟩))
        go_ret
        exact ⟨rfl, HK.out.then k4 (by simp)⟩
      · have d2 : decide ((i : Int) < 60) = false := by simpa using hor2
        go_wp2_with (first
          | (go_at_call 13; (with_reducible refine HW.out.mono ?_); rintro e w4 ⟨rfl, k4⟩))
        go_ret
        exact ⟨rfl, HK.out.then k4 (by simp)⟩
end Go.Proofs.YtkpmlcgbffdloaaDoor
