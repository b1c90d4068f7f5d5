/-
  VIEW: the range function over the rows that a filter takes.
-/
import Derived.Test.YtjipokilidhnoaaView10
import Derived.RangeFuncNested
import Derived.RangeFuncBound
import Derived.RangeFuncCalls
import Derived.RangeFuncLeaves
import Derived.RangeFuncFrom
import Derived.Shelf.Abstract
import Derived.Shelf.RegionOpen
import Derived.OwnWalkIn
import Derived.TacticsInMore
import Derived.LoopNIn
import Derived.LoopIn
namespace Go.Proofs.Ytjipokilidhnoaa
open Go.RowKit Go.Shelf
set_option linter.unusedVariables false
set_option maxRecDepth 100000
attribute [local go_sem] Oper.semAt_some

/-- the cells of these blocks stay -/
def keepCells (Bs : List Nat) (A B : World) : Prop := ∀ b ∈ Bs, ∀ (o : Nat) (v : Value), A.cell? ⟨b, o, none⟩ = some v → B.cell? ⟨b, o, none⟩ = some v
theorem keepCells.trans {Bs : List Nat} {A B C : World} (h : keepCells Bs A B) (k : keepCells Bs B C) : keepCells Bs A C := fun b hb o v hv => k b hb o v (h b hb o v hv)
theorem keepCells.of_keep {S Bs : List Nat} {A B : World} (h : keepBut S A B) (hS : ∀ b ∈ Bs, b ∉ S) : keepCells Bs A B := fun b hb o v hv => (h.cell (p := ⟨b, o, none⟩) (World.block_lt_of_cell? A _ hv) (hS b hb)).trans hv
theorem keepBut.grownN {A B : World} (h : keepBut [] A B) : A.grownBy B none := ⟨h.os, h.tape, h.output, h.size, fun k hk _ => h.block k hk (by simp)⟩
def rowT (t : VR × Value) : Value := .agg #[.int .i64 t.1.step, .int .i64 t.1.node, .int .i64 t.1.kind, t.2]

set_option maxHeartbeats 4000000 in
theorem eachR_stops (Fn : Fence) (n : Nat) (gf : Nat) (h60 : Fn.fn 60) (hgf : Fn.fn gf) (eg : ∀ args w, (callFunc gf args).run Try.prog w = .ok (.enter gf args) w) (hro : Fn.round = none) (hn : 1 ≤ n) (w : World) (B1 B2 X p : Nat) (u : Value) (F C : List Nat) (vb : Value) (T : List (VR × Value)) (f : VR → Bool)
    (hv : isVv w p F vb T C) (hTl : T.length ≤ 20000)
    (hB1 : w.cell? ⟨B1, 0, none⟩ = some (.pointer (some ⟨p, 1, none⟩))) (hB2 : w.cell? ⟨B2, 0, none⟩ = some (.func (.func gf) #[] #[.pointer (some ⟨X, 0, none⟩)])) (hX : w.cell? ⟨X, 0, none⟩ = some u)
    (hft : ∀ (W : World) (t : VR × Value), t ∈ T → W.cell? ⟨X, 0, none⟩ = some u → CallsIn Fn (n - 1) Try.prog gf #[rowT t, .pointer (some ⟨X, 0, none⟩)] W fun e W' => e = .returned (.bool (f t.1)) ∧ keepBut [] W W') :
    SeqStopsK Fn n Try.prog 60 #[.pointer (some ⟨B1, 0, none⟩), .pointer (some ⟨B2, 0, none⟩)] (fun t : {t : VR × Value // t ∈ T} => #[rowT t.1]) (keepCells (B1 :: B2 :: X :: F)) (fun xs => xs.map (·.1) = T.filter (fun t => f t.1)) (fun _ => True) T.length w := fun l J Jx W hW hJ hJx hY h0 => by
  have hK0 : keepCells (B1 :: B2 :: X :: F) w W := fun b hb o v hv' => (hW.cell (p := ⟨b, o, none⟩) (by simpa using World.block_lt_of_cell? w _ hv')).trans hv'
  have c1 := hK0 B1 (by simp) _ _ hB1
  have cp : W.cell? ⟨p, 1, none⟩ = some vb := hK0 p (by simp [hv.pF]) _ _ (hv.row.cell 1)
  obtain ⟨A, c, rfl, hc1, hc2, -, -⟩ := hv.own.form
  have hYY := Lib.hid hY
  have HK := Lib.hid (And.intro hK0 (And.intro hJ (And.intro hv (And.intro hB2 hX))))
  clear hY hK0 hJ hB1 hB2 hX
  refine callsIn_of_wp Try.func60 rfl h60 ?_ hro
  simp only [Try.ntmps60, List.size_toArray, List.length_cons, List.length_nil, Nat.reduceAdd, Nat.reduceSub, Array.replicate_succ, Array.replicate_zero, List.push_toArray, List.append_toArray, List.nil_append, List.cons_append]
  gi_wp2
  gi_loopw [11, 5] (fun v11 _ wr => ∃ (k : Nat) (pre : List {t : VR × Value // t ∈ T}), k ≤ T.length ∧ v11 = .int .i64 (k : Int) ∧ J pre wr ∧ pre.map (·.1) = (T.take k).filter (fun t => f t.1) ∧ keepCells (B1 :: B2 :: X :: F) w wr)
    (fun v11 _ _ => T.length - (intOf v11).toNat)
  case atStart => exact ⟨0, [], by omega, rfl, h0, by simp, HK.out.1⟩
  case round =>
    obtain ⟨k, pre, hk, rfl, hJw, hpre, hkc⟩ := hrel
    have HR := Lib.hid (And.intro hJw (And.intro hpre hkc))
    clear hJw hpre hkc h0 c1 cp
    by_cases hlt : k < T.length
    · have hlt' : (k : Int) < (T.length : Int) := by omega
      obtain ⟨t, ht⟩ : ∃ t, T[k]? = some t := ⟨_, List.getElem?_eq_getElem hlt⟩
      have htm : t ∈ T := List.mem_of_getElem? ht
      obtain ⟨y0, y1, y2, y3⟩ := flatR_at T k t ht
      rcases hv.own.2 with ⟨_, hz⟩ | ⟨g, cap, cur, e, hg, g1, g2, g3, g4⟩
      · omega
      injection e with e1 _ e3
      subst e1 e3
      have hcell : ∀ (j : Nat) (x : Value), (flatR T)[j]? = some x → wr.cell? ⟨g, j, none⟩ = some x := fun j x hx => by
        refine HR.out.2.2 g (by simp [hv.vF g (by simp [homes_some])]) _ _ ?_
        rw [hg.cell]
        rw [← g4, List.getElem?_take] at hx
        split at hx
        · simpa using hx
        · cases hx
      replace y0 := hcell _ _ y0
      replace y1 := hcell _ _ y1
      replace y2 := hcell _ _ y2
      replace y3 := hcell _ _ y3
      have hw2 := HR.out.2.2 B2 (by simp) _ _ HK.out.2.2.2.1
      have hwX := HR.out.2.2 X (by simp) _ _ HK.out.2.2.2.2
      have hfl : (T.take (k + 1)).filter (fun t => f t.1) = (T.take k).filter (fun t => f t.1) ++ (if f t.1 then [t] else []) := by
        rw [List.take_add_one, ht]; simp [List.filter_append, List.filter_cons]
      have hpl : pre.length < T.length := by
        have h := congrArg List.length HR.out.2.1
        rw [List.length_map] at h
        have h2 := List.length_filter_le (fun t : VR × Value => f t.1) (T.take k)
        rw [List.length_take] at h2
        omega
      obtain ⟨⟨s, nd, kd, b⟩, tv⟩ := t
      dsimp only at y0 y1 y2 y3 hfl
      obtain ⟨A', n', gb, ebv, -⟩ := id (hv.byt _ htm)
      dsimp only at ebv
      subst ebv
      have ka := (keepBut.refl [] wr).alloc (.cells #[.int .i64 s, .int .i64 nd, .int .i64 kd, .slice A' b.length n'] 46)
      have ra := rowAt.new wr 46 #[.int .i64 s, .int .i64 nd, .int .i64 kd, .slice A' b.length n']
      have hb2 := (ka.cell (p := ⟨B2, 0, none⟩) (World.block_lt_of_cell? wr _ hw2) (by simp)).trans hw2
      have hbX := (ka.cell (p := ⟨X, 0, none⟩) (World.block_lt_of_cell? wr _ hwX) (by simp)).trans hwX
      have HF := Lib.hid (hft _ _ htm hbX)
      unfold rowT at HF
      dsimp only at HF
      have HA := Lib.hid (And.intro ka (And.intro ra hfl))
      clear hcell ka hfl hw2 hwX hft hg g1 g2 g3 g4
      have x0 : (wr.alloc (.cells #[.int .i64 s, .int .i64 nd, .int .i64 kd, .slice A' b.length n'] 46)).cell? ⟨wr.heap.size, 0, none⟩ = some (.int .i64 s) := ra.cell 0
      have x1 : (wr.alloc (.cells #[.int .i64 s, .int .i64 nd, .int .i64 kd, .slice A' b.length n'] 46)).cell? ⟨wr.heap.size, 1, none⟩ = some (.int .i64 nd) := ra.cell 1
      have x2 : (wr.alloc (.cells #[.int .i64 s, .int .i64 nd, .int .i64 kd, .slice A' b.length n'] 46)).cell? ⟨wr.heap.size, 2, none⟩ = some (.int .i64 kd) := ra.cell 2
      have x3 : (wr.alloc (.cells #[.int .i64 s, .int .i64 nd, .int .i64 kd, .slice A' b.length n'] 46)).cell? ⟨wr.heap.size, 3, none⟩ = some (.slice A' b.length n') := ra.cell 3
      clear ra
      gi_wp2_with fail
      refine HF.out.mono ?_
      rintro e W5 ⟨rfl, k5⟩
      have hJ5 : J pre W5 := HK.out.2.1 _ wr W5 none HR.out.1 (HA.out.1.then k5 (by simp)).grownN (fun r e => by cases e)
      have kk := HA.out.1.then k5 (by simp)
      have r5 := k5.row HA.out.2.1 (by simp)
      have z0 : W5.cell? ⟨wr.heap.size, 0, none⟩ = some (.int .i64 s) := r5.cell 0
      have z1 : W5.cell? ⟨wr.heap.size, 1, none⟩ = some (.int .i64 nd) := r5.cell 1
      have z2 : W5.cell? ⟨wr.heap.size, 2, none⟩ = some (.int .i64 kd) := r5.cell 2
      have z3 : W5.cell? ⟨wr.heap.size, 3, none⟩ = some (.slice A' b.length n') := r5.cell 3
      have H5 := Lib.hid (And.intro hJ5 (HR.out.2.2.trans (keepCells.of_keep kk (by simp))))
      have hfv := HA.out.2.2
      clear x0 x1 x2 x3 y0 y1 y2 y3 hb2 hbX r5 kk k5 hJ5
      generalize f ⟨s, nd, kd, b⟩ = fv at *
      cases fv with
      | true =>
        obtain ⟨f1, t1, a1, b1, hy, hR⟩ := hYY.out pre ⟨_, htm⟩ W5 H5.out.1 hpl
        unfold rowT at hy
        dsimp only at hy
        have HFV := Lib.hid hfv
        clear hfv
        gi_wp2
        refine hR.mono ?_
        rintro e W6 (⟨rfl, hJ6, hk6⟩ | ⟨rfl, hJx6⟩)
        · have H6 := Lib.hid (And.intro hJ6 (H5.out.2.trans hk6))
          clear hJ6 hk6
          gi_wp2
          go_roundw
          case rel => exact ⟨k + 1, pre ++ [⟨_, htm⟩], by omega, by go_num, H6.out.1, by rw [List.map_append, HR.out.2.1, HFV.out]; rfl, H6.out.2⟩
          case measure => simp [intOf]; omega
        · gi_wp2
          refine bodyPost_ret (results_none rfl _ _ _) rfl ?_
          exact ⟨⟨_, rfl⟩, .inr ⟨_, trivial, hJx6⟩⟩
      | false =>
        have HFV := Lib.hid hfv
        clear hfv
        gi_wp2
        refine ⟨fun _ h => (by cases h), ?_⟩
        gi_wp2
        go_roundw
        case rel => exact ⟨k + 1, pre, by omega, by go_num, H5.out.1, by rw [HR.out.2.1, HFV.out]; simp, H5.out.2⟩
        case measure => simp [intOf]; omega
    · obtain rfl : k = T.length := by omega
      gi_wp2
      go_end0
      refine ⟨⟨_, rfl⟩, .inl ⟨pre, ?_, HR.out.1⟩⟩
      have h := HR.out.2.1
      rw [List.take_length] at h
      exact h
end Go.Proofs.Ytjipokilidhnoaa
