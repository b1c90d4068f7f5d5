/-
  DISK: the document's own disk, over the same pure disk.
-/
import Derived.Test.YtbjonlfjfjlelaaDisk8
import Derived.BigQuiet
import Derived.Laws.Cover1
import Derived.Deep.RegionHeld3
namespace Go.Proofs.Ytbjonlfjfjlelaa
open Go.RowKit
set_option linter.unusedVariables false
set_option maxRecDepth 100000

def armI : Option Nat → Int
  | none => -1
  | some k => (k : Int)
structure isRv (w : World) (q : Nat) (F : List Nat) (d : DS) (vb vt : Value) (T : List (Value × List UInt8)) : Prop where
  row : rowAt w q 101 #[vb, .int .i64 (d.n : Int), .bool d.dead, .int .i64 (armI d.arm), vt]
  own : owns w 5 1 vb d.b.length (d.b.map bv)
  nb : d.n ≤ d.b.length
  len : d.b.length ≤ 1048576
  ownT : owns w 28 1 vt T.length (T.map (·.1))
  tr : T.map (·.2) = d.t
  rows : ∀ y ∈ T, owns w 5 1 y.1 y.2.length (y.2.map bv) ∧ ∀ x ∈ homes y.1, x ∈ F
  qF : q ∈ F
  bF : ∀ x ∈ homes vb, x ∈ F
  tF : ∀ x ∈ homes vt, x ∈ F
  lt : ∀ x ∈ F, x < w.heap.size
  arm : ∀ k, d.arm = some k → k ≤ 9223372036854775807
def isR (w : World) (q : Nat) (F : List Nat) (d : DS) : Prop := ∃ vb vt T, isRv w q F d vb vt T
theorem isRv.keep {S : List Nat} {w w' : World} {q : Nat} {F : List Nat} {d : DS} {vb vt : Value} {T : List (Value × List UInt8)} (h : isRv w q F d vb vt T) (hk : keepBut S w w') (hS : ∀ y ∈ F, y ∉ S) : isRv w' q F d vb vt T :=
  ⟨hk.row h.row (hS _ h.qF), h.own.keep hk (fun y hy => hS y (h.bF y hy)), h.nb, h.len, h.ownT.keep hk (fun y hy => hS y (h.tF y hy)), h.tr, fun y hy => ⟨(h.rows y hy).1.keep hk (fun x hx => hS x ((h.rows y hy).2 x hx)), (h.rows y hy).2⟩, h.qF, h.bF, h.tF, fun x hx => Nat.lt_of_lt_of_le (h.lt x hx) hk.size, h.arm⟩
theorem isR.keep {S : List Nat} {w w' : World} {q : Nat} {F : List Nat} {d : DS} (h : isR w q F d) (hk : keepBut S w w') (hS : ∀ y ∈ F, y ∉ S) : isR w' q F d := by
  obtain ⟨vb, vt, T, h⟩ := h; exact ⟨vb, vt, T, h.keep hk hS⟩
theorem isR.lt {w : World} {q : Nat} {F : List Nat} {d : DS} (h : isR w q F d) : ∀ x ∈ F, x < w.heap.size := by obtain ⟨vb, vt, T, h⟩ := h; exact h.lt
/-- its numbers are turned -/
theorem isRv.poke {w w' : World} {q : Nat} {F : List Nat} {d d' : DS} {vb vt : Value} {T : List (Value × List UInt8)} (h : isRv w q F d vb vt T) (hk : keepBut [q] w w')
    (hr : rowAt w' q 101 #[vb, .int .i64 (d'.n : Int), .bool d'.dead, .int .i64 (armI d'.arm), vt]) (hb : d'.b = d.b) (ht : d'.t = d.t) (hn : d'.n ≤ d'.b.length) (ha : ∀ k, d'.arm = some k → k ≤ 9223372036854775807) : isRv w' q F d' vb vt T := by
  have hq : ∀ {e : TypeId} {sz n : Nat} {v : Value} {xs : List Value}, owns w e sz v n xs → 101 ≠ e → ∀ x ∈ homes v, x ∉ [q] := fun ho hne x hx hm => ho.apart h.row hne (List.mem_singleton.1 hm ▸ hx)
  exact ⟨hr, by rw [hb]; exact h.own.keep hk (hq h.own (by decide)), hn, by rw [hb]; exact h.len, h.ownT.keep hk (hq h.ownT (by decide)), by rw [ht]; exact h.tr, fun y hy => ⟨(h.rows y hy).1.keep hk (hq (h.rows y hy).1 (by decide)), (h.rows y hy).2⟩, h.qF, h.bF, h.tF, fun x hx => Nat.lt_of_lt_of_le (h.lt x hx) hk.size, ha⟩
/-- it has other bytes, in a block of their own -/
theorem isRv.newB {w w1 w2 : World} {q : Nat} {F : List Nat} {d d' : DS} {vb vt v : Value} {T : List (Value × List UInt8)} {l : List UInt8} (h : isRv w q F d vb vt T) (hk : keepBut [] w w1) (ho : owns w1 5 1 v l.length (l.map bv)) (hf : ∀ x ∈ homes v, w.heap.size ≤ x)
    (hk2 : keepBut [q] w1 w2) (hr : rowAt w2 q 101 #[v, .int .i64 (d'.n : Int), .bool d'.dead, .int .i64 (armI d'.arm), vt]) (hb : d'.b = l) (ht : d'.t = d.t) (hn : d'.n ≤ l.length) (hl : l.length ≤ 1048576) (ha : ∀ k, d'.arm = some k → k ≤ 9223372036854775807) :
    isRv w2 q (homes v ++ F) d' v vt T ∧ keepBut F w w2 := by
  have h1 := h.keep hk (by simp)
  have hq : ∀ {e : TypeId} {sz n : Nat} {v : Value} {xs : List Value}, owns w1 e sz v n xs → 101 ≠ e → ∀ x ∈ homes v, x ∉ [q] := fun ho hne x hx hm => ho.apart h1.row hne (List.mem_singleton.1 hm ▸ hx)
  refine ⟨⟨hr, by rw [hb]; exact ho.keep hk2 (hq ho (by decide)), by rw [hb]; exact hn, by rw [hb]; exact hl, h1.ownT.keep hk2 (hq h1.ownT (by decide)), by rw [ht]; exact h.tr, fun y hy => ⟨(h1.rows y hy).1.keep hk2 (hq (h1.rows y hy).1 (by decide)), fun x hx => List.mem_append.2 (.inr ((h1.rows y hy).2 x hx))⟩, List.mem_append.2 (.inr h.qF), fun x hx => List.mem_append.2 (.inl hx), fun x hx => List.mem_append.2 (.inr (h.tF x hx)), fun x hx => ?_, ha⟩, (hk.more (T := F) (by simp)).then hk2 (fun x hx => .inl (by rw [List.mem_singleton.1 hx]; exact h.qF))⟩
  have := hk2.size
  rcases List.mem_append.1 hx with q1 | q1
  · have := ho.lt x q1; omega
  · have := h1.lt x q1; omega
def rPost (q : Nat) (F : List Nat) (d' : DS) (v : Value) (w : World) (e : Ending) (w' : World) : Prop :=
  e = .returned v ∧ ∃ F', isR w' q F' d' ∧ keepBut F w w' ∧ ∀ y ∈ F', y ∈ F ∨ w.heap.size ≤ y
theorem rPost.same {q : Nat} {F : List Nat} {d : DS} {v : Value} {w w' : World} (h : isR w q F d) (hk : keepBut [] w w') : rPost q F d v w (.returned v) w' :=
  ⟨rfl, F, h.keep hk (by simp), hk.more (by simp), fun y hy => .inl hy⟩
def newRPost (w : World) (e : Ending) (w' : World) : Prop :=
  ∃ q F, e = .returned (.pointer (some ⟨q, 0, none⟩)) ∧ isR w' q F DS.new ∧ keepBut [] w w' ∧ ∀ y ∈ F, w.heap.size ≤ y
set_option maxHeartbeats 400000 in
theorem newR_any (w : World) : Calls Try.prog 12 #[] w (newRPost w) := by
  have hr := rowAt.new w 101 #[.slice none 0 0, .int .i64 0, .bool false, .int .i64 (-1), .slice none 0 0]
  have hk := (keepBut.refl [] w).alloc (.cells #[.slice none 0 0, .int .i64 0, .bool false, .int .i64 (-1), .slice none 0 0] 101)
  have H := Lib.hid (And.intro hr hk)
  clear hr hk
  go_enter Try.func12, Try.ntmps12
  go_wp2
  go_ret
  exact ⟨_, [w.heap.size], rfl, ⟨_, _, [], H.out.1, owns.nil _ _ _, Nat.le_refl _, by simp [DS.new], owns.nil _ _ _, rfl, by simp, by simp, by simp [homes_none], by simp [homes_none], fun x hx => by simp at hx; subst hx; exact H.out.1.lt, by simp [DS.new]⟩, H.out.2, by simp⟩

/-- the tail is cut -/
def DS.tail (d : DS) (k : Nat) : DS := { d with b := d.b.take (d.n + min k (d.b.length - d.n)), n := d.n + min k (d.b.length - d.n) }
theorem DS.tail_die (d : DS) (k : Nat) : { d.tail k with dead := true } = d.die k := rfl

set_option maxHeartbeats 4000000 in
theorem tailR_any (q : Nat) (F : List Nat) (d : DS) (k : Nat) (w : World) (h : isR w q F d) (hk0 : k ≤ 9223372036854775807) :
    Calls Try.prog 80 #[.pointer (some ⟨q, 0, none⟩), .int .i64 (k : Int)] w (rPost q F (d.tail k) (.tuple #[]) w) := by
  obtain ⟨vb, vt, T, h⟩ := h
  obtain ⟨A, c, g, rfl, hc1, hc2, hsn, hgm⟩ := h.own.seen
  have c0 : w.cell? ⟨q, 0, none⟩ = some (.slice A d.b.length c) := h.row.cell 0
  have c1 : w.cell? ⟨q, 1, none⟩ = some (.int .i64 (d.n : Int)) := h.row.cell 1
  have hnb := h.nb
  have hlen := h.len
  obtain ⟨L, hL⟩ : ∃ L, d.b.length = L := ⟨_, rfl⟩
  obtain ⟨N, hN⟩ : ∃ N, d.n = N := ⟨_, rfl⟩
  obtain ⟨m, hm⟩ : ∃ m, min k (L - N) = m := ⟨_, rfl⟩
  rw [hL] at c0 hnb hlen
  rw [hN] at c1 hnb
  have hcase : ((L : Int) - (N : Int) < (k : Int) ∧ ((L : Int) - (N : Int)) = (m : Int)) ∨ (¬ ((L : Int) - (N : Int) < (k : Int)) ∧ (k : Int) = (m : Int)) := by omega
  have hmL : N + m ≤ L := by omega
  have HH := Lib.hid (And.intro h (And.intro hsn (And.intro hL (And.intro hN hm))))
  clear h hsn hgm hL hN hm
  rcases hcase with ⟨hlt, hme⟩ | ⟨hlt, hme⟩
  all_goals
    go_enter Try.func80, Try.ntmps80
    go_upto_region 0 with fail
    go_quiet (fail)
    try rw [hme]
    have hw1 : isRv (w.drewN nq) q F d (.slice A d.b.length c) vt T := HH.out.1.keep ((keepBut.refl [] w).drewN nq) (by simp)
    have hs1 := HH.out.2.1.keep ((keepBut.refl [] w).drewN nq) (by simp)
    have hk1 := (keepBut.refl [] w).drewN nq
    have d0 : (w.drewN nq).cell? ⟨q, 0, none⟩ = some (.slice A L c) := c0
    have d1 : (w.drewN nq).cell? ⟨q, 1, none⟩ = some (.int .i64 (N : Int)) := c1
    have hr1 := hw1.row
    rw [HH.out.2.2.1, HH.out.2.2.2.1] at hr1
    generalize w.drewN nq = w1 at *
    have HW := Lib.hid (And.intro hw1 (And.intro hs1 (And.intro hk1 hr1)))
    clear hw1 hs1 hk1 c0 c1 hlt hr1
    have hsum : IntKind.i64.wrap ((N : Int) + (m : Int)) = ((N + m : Nat) : Int) := by rw [IntKind.wrap_i64]; omega
    have hb1 : (0 : Int) ≤ ((N + m : Nat) : Int) := by omega
    have hb2 : ((N + m : Nat) : Int) ≤ (c : Int) := by have := HH.out.2.2.1; omega
    have hb3 : ((N + m : Nat) : Int) ≤ (L : Int) := by omega
    have hNM : (d.b.take (N + m)).length = N + m := by rw [List.length_take, HH.out.2.2.1]; omega
    have HN := Lib.hid hNM
    clear hNM
    generalize hNM : N + m = NM at *
    have HNM := Lib.hid hNM
    clear hNM
    go_upto_region 1 with fail
    go_region_law (first
        | (go_simp; go_at_call 49; (with_reducible refine (copyBytes_n A g c NM (d.b.take NM) _ HN.out ((HW.out.2.1.take NM).keep ((keepBut.refl [] w1).drew) (by simp)) (by omega)).mono ?_); rintro e w5 ⟨v, rfl, ho5, hf5, hk5⟩; rw [HN.out] at ho5; obtain ⟨A5, c5, rfl, -⟩ := ho5.form; have hr5 := hk5.row (((keepBut.refl [] w1).drew).row HW.out.2.2.2 (by simp)) (by simp); have d05 : w5.cell? ⟨q, 0, none⟩ = some (.slice A L c) := hr5.cell 0; have f05 := hr5.free 0; have H5 := Lib.hid (And.intro ho5 (And.intro hf5 (And.intro (((keepBut.refl [] w1).drew).then hk5 (by simp)) hr5))); clear ho5 hf5 hk5 hr5))
    all_goals
      have hr6 := H5.out.2.2.2.set 0 (.slice A5 NM c5)
      have e0 : (w5.setCell ⟨q, 0, none⟩ (.slice A5 NM c5)).cell? ⟨q, 0, none⟩ = some (.slice A5 NM c5) := hr6.cell 0
      have e1 : (w5.setCell ⟨q, 0, none⟩ (.slice A5 NM c5)).cell? ⟨q, 1, none⟩ = some (.int .i64 (N : Int)) := hr6.cell 1
      have f1 := hr6.free 1
      have kk := ((keepBut.refl [q] w5).setCell ⟨q, 0, none⟩ (.slice A5 NM c5) (by simp)).setCell ⟨q, 1, none⟩ (.int .i64 (NM : Int)) (by simp)
      have hr7 := hr6.set 1 (.int .i64 (NM : Int))
      have hend := HW.out.1.newB (d' := d.tail k) (l := d.b.take NM) H5.out.2.2.1 (by rw [HN.out]; exact H5.out.1) (fun x hx => H5.out.2.1 x hx) kk (by
          have e : (d.tail k).n = NM := by simp only [DS.tail, HH.out.2.2.1, HH.out.2.2.2.1, HH.out.2.2.2.2]; exact HNM.out
          rw [e]
          simpa [DS.tail] using hr7) (by simp only [DS.tail, HH.out.2.2.1, HH.out.2.2.2.1, HH.out.2.2.2.2]; rw [HNM.out]) rfl (by rw [HN.out]; simp only [DS.tail, HH.out.2.2.1, HH.out.2.2.2.1, HH.out.2.2.2.2]; rw [HNM.out]; exact Nat.le_refl _) (by rw [HN.out]; have := HNM.out; omega) HW.out.1.arm
      have HE := Lib.hid hend
      clear hend kk hr7 hr6
      go_wp2_with fail
      go_end0
      refine ⟨rfl, _, ⟨_, _, _, HE.out.1⟩, (HW.out.2.2.1.more (by simp)).then HE.out.2 (fun x hx => .inl hx), fun y hy => ?_⟩
      rcases List.mem_append.1 hy with h1 | h1
      · exact .inr (Nat.le_trans HW.out.2.2.1.size (H5.out.2.1 y h1))
      · exact .inl h1
end Go.Proofs.Ytbjonlfjfjlelaa
