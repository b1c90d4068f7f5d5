/-
  SESS, 2: a packet that waits till the tick ends.
-/
import Derived.Test.YtkpmlcgbffdloaaDoorSess1
import Derived.Deep.RegionHeld3
import Derived.Deep.CutBlock
import Derived.Deep.MidRow
import Derived.Outline
import Derived.Lib.Hide
namespace Go.Proofs.YtkpmlcgbffdloaaDoor
open Go.Conc Go.RowKit
set_option linter.unusedVariables false
set_option maxRecDepth 100000

theorem info_pkS : (Tryd.prog.info? 44).map (·.size) = some 87 := by kernel_rfl
/-- whom it is from -/
def PK.from (p : PK) (n : Int) : PK := ⟨p.kind, n, p.dst, p.num, p.seq, p.ballot, p.ready, p.req, p.ans, p.conf, p.votes, p.bytes⟩
theorem itemV.from {F : List Nat} {w : World} {p : PK} {X : List Value} (h : itemV w F (p, X)) (n : Int) : itemV w F (p.from n, X.set 1 (.int .i64 n)) := by
  obtain ⟨ev, av, cv, vv, bw, h1, h2⟩ := h
  dsimp only at h1 h2
  subst h1
  exact ⟨ev, av, cv, vv, bw, rfl, ⟨h2.rn, h2.an, h2.re, h2.ae, h2.cc, h2.vs, h2.bs⟩⟩
theorem isQ.put {w w' : World} {p q : Nat} {s : SS} {cv ev : Value} {F K F0 : List Nat} {T : List (PK × List Value)} {t : PK × List Value} (h : isQ w p q s cv ev F K T) (hk : keepBut [q] w w') (hc : chanAt w' q 4 ((T.map fun t => Value.agg t.2.toArray) ++ [.agg t.2.toArray])) (ht : itemV w F0 t) (hF : ∀ y ∈ F0, y < w.heap.size ∧ y ≠ p ∧ y ≠ q) : isQ w' p q s cv ev F (K ++ F0) (T ++ [t]) := by
  have hF1 : ∀ y ∈ F, y ∉ [q] := fun y hy => by simpa using (h.far y (by simp [hy])).2.2
  have hK1 : ∀ y ∈ K, y ∉ [q] := fun y hy => by simpa using (h.far y (by simp [hy])).2.2
  refine ⟨hk.row h.row (by simpa using h.apart), by rw [List.map_append]; exact hc, fun u hu => ?_, h.nm, h.env.keep hk hF1, h.chain.keep hk hF1, fun y hy => ?_⟩
  · rcases List.mem_append.1 hu with hu | hu
    · exact ((h.its u hu).keep hk hK1).more (by simp +contextual)
    · simp only [List.mem_singleton] at hu
      subst hu
      exact (ht.keep hk (fun y hy => by simpa using (hF y hy).2.2)).more (by simp +contextual)
  · rw [← List.append_assoc] at hy
    rcases List.mem_append.1 hy with hy | hy
    · exact ⟨Nat.lt_of_lt_of_le (h.far y hy).1 hk.size, (h.far y hy).2⟩
    · exact ⟨Nat.lt_of_lt_of_le (hF y hy).1 hk.size, (hF y hy).2⟩
theorem zeroV_pk : ∃ z : Value, ∀ w, (zeroValue 44).run Tryd.prog w = .ok z w := by
  have hi : ((Tryd.prog.info? 44).bind (·.zero)).isSome = true := by kernel_rfl
  obtain ⟨z, hz⟩ := Option.isSome_iff_exists.1 hi
  obtain ⟨i, hi, hz⟩ := Option.bind_eq_some_iff.1 hz
  exact ⟨z, fun w => by simp [zeroValue, typeInfo, hi, hz, go_sem]⟩
def putPost (p q : Nat) (s : SS) (cv ev : Value) (F K F0 : List Nat) (T : List (PK × List Value)) (pk : PK) (X : List Value) (w : World) (e : Ending) (w' : World) : Prop :=
  e = .returned (.tuple #[]) ∧ isQ w' p q s cv ev F (K ++ F0) (T ++ [(pk.from (20 + s.client), X.set 1 (.int .i64 (20 + s.client)))]) ∧ keepBut [q] w w'
theorem putQ_any (p q : Nat) (s : SS) (cv ev : Value) (F K F0 : List Nat) (T : List (PK × List Value)) (pk : PK) (X : List Value) (w : World) (h : isQ w p q s cv ev F K T) (hb : 0 ≤ s.client ∧ s.client ≤ 2) (ht : itemV w F0 (pk, X)) (hF : ∀ y ∈ F0, y < w.heap.size ∧ y ≠ p ∧ y ≠ q) (hr : T.length < 4) :
    Calls Tryd.prog 60 #[.pointer (some ⟨p, 0, none⟩), .agg X.toArray] w (putPost p q s cv ev F K F0 T pk X w) := by
  obtain ⟨z, hz⟩ := zeroV_pk
  have hXl : X.length = 87 := ht.len
  have k1 := (keepBut.refl [] w).alloc (.cells X.toArray 44)
  have r1 := rowAt.new w 44 X.toArray
  have hs1 : (w.alloc (.cells X.toArray 44)).heap.size = w.heap.size + 1 := World.size_alloc ..
  obtain ⟨w1, hw1⟩ : ∃ w1, w.alloc (.cells X.toArray 44) = w1 := ⟨_, rfl⟩
  rw [hw1] at k1 r1 hs1
  obtain ⟨b, hbs⟩ : ∃ b, w.heap.size = b := ⟨_, rfl⟩
  have h1 := h.over k1
  have hq := h.ch.lt
  have hp := h.row.lt
  obtain ⟨x1, hx1⟩ : ∃ x1, X.toArray[1]? = some x1 := ⟨_, Array.getElem?_eq_getElem (by simp [hXl])⟩
  have y1 : w1.cell? ⟨b, 1, none⟩ = some x1 := by rw [← hbs, r1.cell]; exact hx1
  have f1 : w1.frozen? ⟨b, 1, none⟩ = false := by rw [← hbs]; exact r1.free 1
  have HW := Lib.hid hw1
  have HB := Lib.hid hbs
  have H1 := Lib.hid h1
  have HH := Lib.hid (And.intro hq (And.intro hp (And.intro hs1 (And.intro hXl hr))))
  have R1 := Lib.hid r1
  have K1 := Lib.hid k1
  have H0 := Lib.hid h
  have HT := Lib.hid ht
  have HF := Lib.hid hF
  clear hx1 hq hp hs1 hXl hr hw1 h1 r1 k1 h ht hF
  refine calls_of_wpN Tryd.func60 rfl ?_
  simp only [Tryd.ntmps60, List.size_toArray, List.length_cons, List.length_nil, Nat.reduceAdd, Nat.reduceSub, Array.replicate_succ, Array.replicate_zero, List.push_toArray, List.append_toArray, List.nil_append, List.cons_append]
  refine wpN.seq (wpN.of ?_)
  go_wp2_with (first | (with_reducible refine wpList_box_to _ _ rfl 44 (.tmp 1) rfl _ rfl HW.out ?_))
  refine wpN.seq (wpN.of ?_)
  go_wp2_with (first | (go_at_call 43; refine (nodeQ_any _ _ _ _ _ _ _ _ _ H1.out hb).mono ?_; rintro e w2 ⟨rfl, rfl⟩))
  have r2 : rowAt (w1.setCell ⟨b, 1, none⟩ (.int .i64 (20 + s.client))) b 44 (X.set 1 (.int .i64 (20 + s.client))).toArray := by
    have r := R1.out.set 1 (.int .i64 (20 + s.client))
    rw [HB.out] at r
    simpa using r
  have k2 : keepBut [] w (w1.setCell ⟨b, 1, none⟩ (.int .i64 (20 + s.client))) := K1.out.setCell _ _ (.inr (Nat.le_of_eq HB.out))
  generalize hw2 : w1.setCell ⟨b, 1, none⟩ (.int .i64 (20 + s.client)) = w2 at r2 k2 ⊢
  have h2 := H0.out.over k2
  obtain ⟨_, _, _, hc, _⟩ := h2.cells
  have hX2 : (X.set 1 (.int .i64 (20 + s.client))).length = 87 := by rw [List.length_set]; exact HH.out.2.2.2.1
  have HX := Lib.hid (And.intro r2.rangeAll (show (Tryd.prog.info? 44).map (·.size) = some (X.set 1 (.int .i64 (20 + s.client))).length by rw [hX2]; exact info_pkS))
  have H2 := Lib.hid (And.intro h2 k2)
  generalize hY : X.set 1 (.int .i64 (20 + s.client)) = Y at *
  have HY := Lib.hid (And.intro hY hw2)
  clear hX2 h2 k2 r2 y1 f1 hw2 hY hbs
  refine wpN.seq (wpN.of ?_)
  go_wp2_with (first | (refine wpList_load_mid rfl 44 (.tmp 3) rfl b 0 rfl Y _ HX.out.1 Tryd.underlying44 rfl HX.out.2 ?_))
  refine wpN.seq ?_
  refine wpN.send_room (u := .agg Y.toArray) (z := z) rfl rfl rfl rfl hz rfl rfl H2.out.1.ch (by simpa using HH.out.2.2.2.2) (fun w3 hc3 hk3 => ?_)
  have H3 := Lib.hid (And.intro hc3 hk3)
  clear hc3 hk3
  simp only [wpOps]
  go_simp
  refine .inl (.inl (wpN.of ?_))
  go_wp2
  refine bodyPost_end (results_none rfl _ _ _) rfl ?_
  obtain ⟨hY, hw⟩ := HY.out
  subst hY
  obtain ⟨hq, hp, hs1, hXl, hr⟩ := HH.out
  refine ⟨rfl, H0.out.put ((H2.out.2.more (by simp)).then H3.out.2 (fun x hx => .inl hx)) H3.out.1 (HT.out.from _) HF.out, (H2.out.2.more (by simp)).then H3.out.2 (fun x hx => .inl hx)⟩
end Go.Proofs.YtkpmlcgbffdloaaDoor
