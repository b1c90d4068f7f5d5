/-
  SESS, 1: a session; New, and what its simple methods do.
-/
import Derived.Test.YtkpmlcgbffdloaaDoorItem
import Derived.Test.YtkpmlcgbffdloaaDoorSelLoop
namespace Go.Proofs.YtkpmlcgbffdloaaDoor
open Go.Conc Go.RowKit
set_option linter.unusedVariables false
set_option maxRecDepth 100000

/-- a session, as a value -/
structure SS where
  client : Int
  limit : Int
  most : Int
  next : Int
  last : Int
  ticks : Int
  waits : Bool
  late : Bool
  sent : Bool
  req : RQ
  conf : CF
def SS.start (client first limit most : Int) : SS := ⟨client, limit, most, first, 0, 0, false, false, false, rqZero, cfZero⟩
/-- its cells -/
def ssHead (s : SS) (q : Nat) (cv : Value) : List Value := [.int .i64 s.client, .int .i64 s.limit, .int .i64 s.most, .chan (some q), .int .i64 s.conf.num, .int .i64 s.conf.full, cv, .int .i64 s.next, .int .i64 s.last, .bool s.waits, .bool s.late]
def ssL (s : SS) (q : Nat) (cv ev : Value) : List Value := ssHead s q cv ++ (rqL s.req ev ++ [.int .i64 s.ticks, .bool s.sent])

/-- block p is a session, its channel in block q, with T in it; what it holds lies in F -/
structure isQ (w : World) (p q : Nat) (s : SS) (cv ev : Value) (F K : List Nat) (T : List (PK × List Value)) : Prop where
  row : rowAt w p 70 (ssL s q cv ev).toArray
  ch : chanAt w q 4 (T.map fun t => .agg t.2.toArray)
  its : ∀ t ∈ T, itemV w K t
  nm : s.req.name.length = 32
  env : bytesV w F ev s.req.env
  chain : intsV w F cv s.conf.chain
  far : ∀ y ∈ F ++ K, y < w.heap.size ∧ y ≠ p ∧ y ≠ q
section
variable {w w' : World} {p q : Nat} {s : SS} {cv ev : Value} {F K : List Nat} {T : List (PK × List Value)}
theorem isQ.apart (h : isQ w p q s cv ev F K T) : p ≠ q := h.ch.row h.row
theorem isQ.keep {S : List Nat} (h : isQ w p q s cv ev F K T) (hk : keepBut S w w') (hp : p ∉ S) (hq : q ∉ S) (hF : ∀ y ∈ F, y ∉ S) (hK : ∀ y ∈ K, y ∉ S) : isQ w' p q s cv ev F K T :=
  ⟨hk.row h.row hp, h.ch.keep hk hq, fun t ht => (h.its t ht).keep hk hK, h.nm, h.env.keep hk hF, h.chain.keep hk hF, fun y hy => ⟨Nat.lt_of_lt_of_le (h.far y hy).1 hk.size, (h.far y hy).2⟩⟩
theorem isQ.over (h : isQ w p q s cv ev F K T) (hk : keepBut [] w w') : isQ w' p q s cv ev F K T := h.keep hk (by simp) (by simp) (by simp) (by simp)
theorem ssL_ticks_at (h : s.req.name.length = 32) : (ssL s q cv ev)[48]? = some (.int .i64 s.ticks) ∧ (ssL s q cv ev)[49]? = some (.bool s.sent) := by
  have e1 : (rqL s.req ev).length = 37 := rqL_len h
  have e2 : (ssHead s q cv).length = 11 := rfl
  unfold ssL
  constructor
  · rw [List.getElem?_append_right (by omega), e2, List.getElem?_append_right (by omega), e1]; rfl
  · rw [List.getElem?_append_right (by omega), e2, List.getElem?_append_right (by omega), e1]; rfl
theorem isQ.cells (h : isQ w p q s cv ev F K T) : w.cell? ⟨p, 0, none⟩ = some (.int .i64 s.client) ∧ w.cell? ⟨p, 1, none⟩ = some (.int .i64 s.limit) ∧ w.cell? ⟨p, 2, none⟩ = some (.int .i64 s.most) ∧ w.cell? ⟨p, 3, none⟩ = some (.chan (some q)) ∧ w.cell? ⟨p, 4, none⟩ = some (.int .i64 s.conf.num)
    ∧ w.cell? ⟨p, 5, none⟩ = some (.int .i64 s.conf.full) ∧ w.cell? ⟨p, 6, none⟩ = some cv ∧ w.cell? ⟨p, 7, none⟩ = some (.int .i64 s.next) ∧ w.cell? ⟨p, 8, none⟩ = some (.int .i64 s.last) ∧ w.cell? ⟨p, 9, none⟩ = some (.bool s.waits) ∧ w.cell? ⟨p, 10, none⟩ = some (.bool s.late)
    ∧ w.cell? ⟨p, 48, none⟩ = some (.int .i64 s.ticks) ∧ w.cell? ⟨p, 49, none⟩ = some (.bool s.sent) := by
  have hc := h.row.cell
  simp only [List.getElem?_toArray] at hc
  obtain ⟨t1, t2⟩ := ssL_ticks_at (q := q) (cv := cv) (ev := ev) h.nm
  exact ⟨hc 0, hc 1, hc 2, hc 3, hc 4, hc 5, hc 6, hc 7, hc 8, hc 9, hc 10, (hc 48).trans t1, (hc 49).trans t2⟩
end
theorem run_equalIn_chan {P : Program} (w : World) (d : Nat) (t e : TypeId) (dir : ChanDir) (x : Option Nat) (h : P.underlying t = some (.chan dir e)) : (Op.equalIn (d + 1) t (.chan x) (.chan none)).run P w = .ok (x == none) w := by
  cases x <;> simp [Op.equalIn, run_underlying h]
theorem run_eql_chan (w : World) (x : Option Nat) : (binOp .eql 68 (.chan x) (.chan none)).run Tryd.prog w = .ok (.bool (x == none)) w := by
  simp only [binOp]
  simp [show Op.equal 68 (.chan x) (.chan none) = Op.equalIn (9999 + 1) 68 (.chan x) (.chan none) from rfl, run_equalIn_chan w 9999 _ _ _ x Tryd.underlying68]
section
variable (p q : Nat) (s : SS) (cv ev : Value) (F K : List Nat) (T : List (PK × List Value)) (w : World) (h : isQ w p q s cv ev F K T)
include h
theorem noneQ_any : Calls Tryd.prog 42 #[.pointer (some ⟨p, 0, none⟩)] w fun e w' => e = .returned (.bool false) ∧ w = w' := by
  obtain ⟨_, _, _, hc, _⟩ := h.cells
  have he := run_eql_chan w (some q)
  go_enter Tryd.func42, Tryd.ntmps42
  go_wp2
  go_ret
  exact ⟨rfl, rfl⟩
theorem nodeQ_any (hb : 0 ≤ s.client ∧ s.client ≤ 2) : Calls Tryd.prog 43 #[.pointer (some ⟨p, 0, none⟩)] w fun e w' => e = .returned (.int .i64 (20 + s.client)) ∧ w = w' := by
  obtain ⟨hc, _⟩ := h.cells
  have hw : IntKind.i64.wrap (20 + s.client) = 20 + s.client := by rw [IntKind.wrap_i64]; omega
  go_enter Tryd.func43, Tryd.ntmps43
  go_wp2
  go_ret
  exact ⟨rfl, rfl⟩
theorem waitsQ_any : Calls Tryd.prog 18 #[.pointer (some ⟨p, 0, none⟩)] w fun e w' => e = .returned (.bool s.waits) ∧ w = w' := by
  obtain ⟨_, _, _, _, _, _, _, _, _, hc, _⟩ := h.cells
  go_enter Tryd.func18, Tryd.ntmps18
  go_wp2_with (go_at_call 42; refine (noneQ_any _ _ _ _ _ _ _ _ _ h).mono ?_; rintro e w' ⟨rfl, rfl⟩)
  go_ret
  exact ⟨rfl, rfl⟩
theorem lateQ_any : Calls Tryd.prog 25 #[.pointer (some ⟨p, 0, none⟩)] w fun e w' => e = .returned (.bool s.late) ∧ w = w' := by
  obtain ⟨_, _, _, _, _, _, _, _, _, _, hc, _⟩ := h.cells
  go_enter Tryd.func25, Tryd.ntmps25
  go_wp2_with (go_at_call 42; refine (noneQ_any _ _ _ _ _ _ _ _ _ h).mono ?_; rintro e w' ⟨rfl, rfl⟩)
  go_ret
  exact ⟨rfl, rfl⟩
theorem numQ_any : Calls Tryd.prog 15 #[.pointer (some ⟨p, 0, none⟩)] w fun e w' => e = .returned (.int .i64 s.last) ∧ w = w' := by
  obtain ⟨_, _, _, _, _, _, _, _, hc, _⟩ := h.cells
  go_enter Tryd.func15, Tryd.ntmps15
  go_wp2_with (go_at_call 42; refine (noneQ_any _ _ _ _ _ _ _ _ _ h).mono ?_; rintro e w' ⟨rfl, rfl⟩)
  go_ret
  exact ⟨rfl, rfl⟩
end
theorem newQ_any (c f l m : Int) (w : World) (hc : 0 ≤ c ∧ c ≤ 2) (hf : 1 ≤ f ∧ f ≤ 9007199254740991) (hl : 1 ≤ l ∧ l ≤ 1000) (hm : 1 ≤ m ∧ m ≤ 100000) :
    Calls Tryd.prog 9 #[.int .i64 c, .int .i64 f, .int .i64 l, .int .i64 m] w fun e w' => ∃ p q, e = .returned (.tuple #[.pointer (some ⟨p, 0, none⟩), .int .i64 0]) ∧ isQ w' p q (SS.start c f l m) (.slice none 0 0) (.slice none 0 0) [] [] [] ∧ keepBut [] w w' ∧ w.heap.size ≤ p ∧ w.heap.size ≤ q := by
  have hch : ∀ W : World, (Instr.makeChan 68 (.int .i64 4)).run Tryd.prog W = .ok (.chan (some W.heap.size)) (W.alloc (.chan 4 #[] false 0 0 false)) := fun W => by
    have hi : ((Tryd.prog.info? 44).map (·.bytes)).all (fun b => decide (4 * b ≤ 1000000)) = true := by kernel_rfl
    have hi2 : ((Tryd.prog.info? 44).map (·.bytes)).isSome = true := by kernel_rfl
    obtain ⟨b, hb⟩ := Option.isSome_iff_exists.1 hi2
    rw [hb] at hi
    obtain ⟨i, hi', hb'⟩ := Option.map_eq_some_iff.1 hb
    have hle : 4 * b ≤ 1000000 := by simpa using hi
    exact run_makeChan (P := Tryd.prog) (w := W) Tryd.underlying68 hi' .i64 4 (by omega) (by rw [hb']; omega)
  obtain ⟨c0, c1⟩ := hc
  obtain ⟨f0, f1⟩ := hf
  obtain ⟨l0, l1⟩ := hl
  obtain ⟨m0, m1⟩ := hm
  go_enter Tryd.func9, Tryd.ntmps9
  go_wp2
  go_ret2
  have r1 := rowAt.new (w.alloc (.chan 4 #[] false 0 0 false)) 70 (ssL (SS.start c f l m) w.heap.size (.slice none 0 0) (.slice none 0 0)).toArray
  have k1 := (keepBut.refl [] (w.alloc (.chan 4 #[] false 0 0 false))).alloc (.cells (ssL (SS.start c f l m) w.heap.size (.slice none 0 0) (.slice none 0 0)).toArray 70)
  rw [World.size_alloc] at r1
  exact ⟨_, _, rfl, ⟨r1, (chanAt.new w 4).keep k1 (by simp), by simp, rqZero_name, bytesV.nil _ _, intsV.nil _ _, by simp⟩, ((keepBut.refl [] w).alloc _).alloc _, by omega, Nat.le_refl _⟩
end Go.Proofs.YtkpmlcgbffdloaaDoor
