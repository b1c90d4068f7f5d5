/-
  SEL: a select of one case with a default, in one goroutine, as a piece of a walk: wp, but of frames that are not early.
-/
import Derived.Test.YtcnlnkkdcofphaaDoorLone
namespace Go.Proofs.YtcnlnkkdcofphaaDoor
open Go.Conc Go.RowKit
set_option linter.unusedVariables false

/-- as Code.wp, but of frames that are not early: a communication may come -/
structure wpN (P : Program) (c : Code) (Q : Exit → Act → World → Prop) (a : Act) (w : World) : Prop where
  run : ∀ (b : Frame) (k : List Item) (cs : List Frame), b.kind ≠ .early → ∃ e a' w', Q e a' w' ∧ Arrives P (lone (b.at a (.code c :: k)) cs w) b k cs e a' w'

section
variable {P : Program} {Q : Exit → Act → World → Prop} {a : Act} {w : World}
theorem wpN.of {c : Code} (h : c.wp P Q a w) : wpN P c Q a w := ⟨fun b k cs _ => h b k cs⟩
theorem wpN.mono {c : Code} {Q' : Exit → Act → World → Prop} (h : wpN P c Q a w) (hq : ∀ e a w, Q e a w → Q' e a w) : wpN P c Q' a w :=
  ⟨fun b k cs hb => let ⟨e, a', w', q, r⟩ := h.run b k cs hb; ⟨e, a', w', hq _ _ _ q, r⟩⟩
theorem wpN.seq {x y : Code} (h : wpN P x (fun e a1 w1 => e = .normal ∧ wpN P y Q a1 w1) a w) : wpN P (.seq x y) Q a w := by
  refine ⟨fun b k cs hb => ?_⟩
  obtain ⟨e, a1, w1, ⟨rfl, h2⟩, har⟩ := h.run b (.code y :: k) cs hb
  obtain ⟨e2, a2, w2, hq, har2⟩ := h2.run b k cs hb
  exact ⟨e2, a2, w2, hq, .of_steps (.one step_seq) (.of_steps har har2)⟩
/-- the machine's step at a communication, the region's first operation -/
def commStep (P : Program) (ops : Array Oper) (a : Act) (w : World) (v : Value) (w' : World) : Prop :=
  ∀ (b : Frame) (k : List Item) (cs : List Frame) (is : List Nat), b.kind ≠ .early → Go.step P (lone (b.at a (.inRegion ops (0 :: is) :: k)) cs w) = .next (lone ((b.at a (.inRegion ops (0 :: is) :: k)).finish v) cs w')
theorem wpN.region {id : Nat} {ops : Array Oper} {is : List Nat} {o : Oper} {v : Value} {w' : World} (hn : List.range ops.size = 0 :: is) (ho : ops[0]? = some o) (hs : commStep P ops a w v w') (h : wpOps P ops Q is (a.put o.dst v) w') : wpN P (.region id ops false) Q a w := by
  refine ⟨fun b k cs hb => ?_⟩
  have h1 := step_region (P := P) (b := b) (a := a) (k := k) (cs := cs) (w := w) (id := id) (ops := ops)
  rw [hn] at h1
  have h2 := hs b k cs is hb
  rw [Frame.finish_at, ho] at h2
  obtain ⟨e, a', w2, hq, har⟩ := wp_ops _ _ _ h b k cs
  exact ⟨e, a', w2, hq, .of_steps (.one h1) (.of_steps (.one h2) har)⟩
theorem calls_of_wpN {f : FuncId} {fn : Func} {c : Code} {args : Array Value} {R : Ending → World → Prop}
    (hf : P.funcs[f]? = some fn) (hb : fn.body = some c)
    (h : wpN P c (bodyPost P fn R) { tmps := args ++ Array.replicate (fn.ntmps - args.size) undef, defers := [] } w) :
    Calls P f args w R := by
  intro cs
  let b : Frame := { (default : Frame) with fn := f, kind := .normal }
  have henter : Frame.enter P f args .normal =
      b.at { tmps := args ++ Array.replicate (fn.ntmps - args.size) undef, defers := [] } [.code c] := by
    simp [Frame.enter, Frame.at, hf, hb, b]
  obtain ⟨e, a', w', hq, harr⟩ := h.run b [] cs (by simp [b])
  rw [← henter] at harr
  cases e with
  | normal =>
    obtain ⟨hd, v, hr, hR⟩ := hq
    exact ⟨.returned v, w', _, hR, Steps.trans harr (.one step_end), rfl, rfl, hd, rfl, fn, hf, hr⟩
  | ret =>
    obtain ⟨hd, v, hr, hR⟩ := hq
    obtain ⟨todo, hs⟩ := harr
    exact ⟨.returned v, w', _, hR, hs, rfl, rfl, hd, rfl, fn, hf, hr⟩
  | panic chain =>
    obtain ⟨hd, hR⟩ := hq
    obtain ⟨todo, hs⟩ := harr
    exact ⟨.panicked chain, w', _, hR, hs, rfl, rfl, hd, fn, hf⟩
  | exit id => exact hq.elim
  | goto l => exact hq.elim
  | outgrown => exact ⟨.outgrown, w', b, hq, harr.resolve_left (by simp [b]), rfl, trivial⟩

theorem chanAt.setChan {q cap : Nat} {buf : List Value} (h : chanAt w q cap buf) (buf' : List Value) (s r : Nat) : chanAt (w.setChan q cap buf'.toArray false s r false) q cap buf' ∧ keepBut [q] w (w.setChan q cap buf'.toArray false s r false) :=
  ⟨⟨s, r, heap_setChan w q cap _ _ _ _ _ h.lt⟩, (keepBut.refl [q] w).chan (.inl (by simp)) ..⟩

variable {ops : Array Oper} {o : Oper} {x y : Operand} {t : TypeId} {z u : Value} {q cap : Nat} {buf : List Value}
theorem exec_recv (hop : o.op = .select #[{ chan := x, send := none, elem := t }] false) (hz : ∀ w, (zeroValue t).run P w = .ok z w) (ch : Value) (hx : a.eval x = ch) :
    (execOp a.eval o).run P w = .ok (.comm #[{ chan := ch, send := none, zero := z }] false .select) w := by
  simp [execOp, hop, hx, hz]
theorem exec_send (hop : o.op = .select #[{ chan := x, send := some y, elem := t }] false) (hz : ∀ w, (zeroValue t).run P w = .ok z w) (ch : Value) (hx : a.eval x = ch) (hy : a.eval y = u) :
    (execOp a.eval o).run P w = .ok (.comm #[{ chan := ch, send := some u, zero := z }] false .select) w := by
  simp [execOp, hop, hx, hy, hz]
theorem comm_recv_buf (ho : ops[0]? = some o) (hop : o.op = .select #[{ chan := x, send := none, elem := t }] false) (hg : o.guard = none) (hz : ∀ w, (zeroValue t).run P w = .ok z w) (hx : a.eval x = .chan (some q)) (hc : chanAt w q cap (u :: buf)) :
    ∃ w', commStep P ops a w (.tuple #[goInt 0, .bool true, u]) w' ∧ chanAt w' q cap buf ∧ keepBut [q] w w' := by
  have hc0 := hc
  obtain ⟨s, r, h1⟩ := hc
  refine ⟨w.setChan q cap buf.toArray false s (r + 1) false, fun b k cs is hb => ?_, hc0.setChan buf s (r + 1)⟩
  have h := step_lone_select_recv_buf (c := q) (z := z) (cap := cap) (buf := (u :: buf).toArray) (s := s) (r := r) (tm := false) (closed := false) (cs := cs)
    (stepG_comm (P := P) (main := true) (a := a) (b := b) (k := k) (cs := cs) (w := w) (cases := #[rcase q z]) (blocking := false) (shape := .select) (w' := w) (rest := is) ho (by simp [Region.wanted, hg]) hb (exec_recv hop hz _ hx)) h1 (by simp)
  simp only [lone_eq_solo]
  simpa using h
theorem comm_recv_none (ho : ops[0]? = some o) (hop : o.op = .select #[{ chan := x, send := none, elem := t }] false) (hg : o.guard = none) (hz : ∀ w, (zeroValue t).run P w = .ok z w) (hx : a.eval x = .chan (some q)) (hc : chanAt w q cap []) :
    commStep P ops a w (.tuple #[goInt (-1), .bool false, z]) w := by
  obtain ⟨s, r, h1⟩ := hc
  intro b k cs is hb
  exact step_lone_select_default (c := q) (z := z) (cap := cap) (s := s) (r := r) (tm := false) (cs := cs)
    (stepG_comm (P := P) (main := true) (a := a) (b := b) (k := k) (cs := cs) (w := w) (cases := #[rcase q z]) (blocking := false) (shape := .select) (w' := w) (rest := is) ho (by simp [Region.wanted, hg]) hb (exec_recv hop hz _ hx)) h1
theorem comm_send_room (ho : ops[0]? = some o) (hop : o.op = .select #[{ chan := x, send := some y, elem := t }] false) (hg : o.guard = none) (hz : ∀ w, (zeroValue t).run P w = .ok z w) (hx : a.eval x = .chan (some q)) (hy : a.eval y = u) (hc : chanAt w q cap buf) (hr : buf.length < cap) :
    ∃ w', commStep P ops a w (.tuple #[goInt 0, .bool false]) w' ∧ chanAt w' q cap (buf ++ [u]) ∧ keepBut [q] w w' := by
  have hc0 := hc
  obtain ⟨s, r, h1⟩ := hc
  refine ⟨w.setChan q cap (buf ++ [u]).toArray false (s + 1) r false, fun b k cs is hb => ?_, hc0.setChan _ (s + 1) r⟩
  have h := step_lone_select_send_room (c := q) (v := u) (z' := z) (cap := cap) (buf := buf.toArray) (s := s) (r := r) (tm := false) (cs := cs)
    (stepG_comm (P := P) (main := true) (a := a) (b := b) (k := k) (cs := cs) (w := w) (cases := #[scase q u z]) (blocking := false) (shape := .select) (w' := w) (rest := is) ho (by simp [Region.wanted, hg]) hb (exec_send hop hz _ hx hy)) h1 (by simpa using hr)
  simp only [lone_eq_solo]
  simpa using h
theorem comm_send_full (ho : ops[0]? = some o) (hop : o.op = .select #[{ chan := x, send := some y, elem := t }] false) (hg : o.guard = none) (hz : ∀ w, (zeroValue t).run P w = .ok z w) (hx : a.eval x = .chan (some q)) (hy : a.eval y = u) (hc : chanAt w q cap buf) (hr : cap ≤ buf.length) :
    commStep P ops a w (.tuple #[goInt (-1), .bool false]) w := by
  obtain ⟨s, r, h1⟩ := hc
  intro b k cs is hb
  exact step_lone_select_send_full (c := q) (v := u) (z' := z) (cap := cap) (buf := buf.toArray) (s := s) (r := r) (tm := false) (cs := cs)
    (stepG_comm (P := P) (main := true) (a := a) (b := b) (k := k) (cs := cs) (w := w) (cases := #[scase q u z]) (blocking := false) (shape := .select) (w' := w) (rest := is) ho (by simp [Region.wanted, hg]) hb (exec_send hop hz _ hx hy)) h1 (by simpa using hr)
section
variable {id : Nat} {is : List Nat}
theorem wpN.send_room (hn : List.range ops.size = 0 :: is) (ho : ops[0]? = some o) (hop : o.op = .select #[{ chan := x, send := some y, elem := t }] false) (hg : o.guard = none) (hz : ∀ w, (zeroValue t).run P w = .ok z w) (hx : a.eval x = .chan (some q)) (hy : a.eval y = u) (hc : chanAt w q cap buf) (hr : buf.length < cap)
    (h : ∀ w', chanAt w' q cap (buf ++ [u]) → keepBut [q] w w' → wpOps P ops Q is (a.put o.dst (.tuple #[.int .i64 0, .bool false])) w') : wpN P (.region id ops false) Q a w := by
  obtain ⟨w', hs, h1, h2⟩ := comm_send_room (P := P) ho hop hg hz hx hy hc hr
  exact wpN.region hn ho hs (h w' h1 h2)
theorem wpN.send_full (hn : List.range ops.size = 0 :: is) (ho : ops[0]? = some o) (hop : o.op = .select #[{ chan := x, send := some y, elem := t }] false) (hg : o.guard = none) (hz : ∀ w, (zeroValue t).run P w = .ok z w) (hx : a.eval x = .chan (some q)) (hy : a.eval y = u) (hc : chanAt w q cap buf) (hr : cap ≤ buf.length)
    (h : wpOps P ops Q is (a.put o.dst (.tuple #[.int .i64 (-1), .bool false])) w) : wpN P (.region id ops false) Q a w :=
  wpN.region hn ho (comm_send_full (P := P) ho hop hg hz hx hy hc hr) h
theorem wpN.recv_buf (hn : List.range ops.size = 0 :: is) (ho : ops[0]? = some o) (hop : o.op = .select #[{ chan := x, send := none, elem := t }] false) (hg : o.guard = none) (hz : ∀ w, (zeroValue t).run P w = .ok z w) (hx : a.eval x = .chan (some q)) (hc : chanAt w q cap (u :: buf))
    (h : ∀ w', chanAt w' q cap buf → keepBut [q] w w' → wpOps P ops Q is (a.put o.dst (.tuple #[.int .i64 0, .bool true, u])) w') : wpN P (.region id ops false) Q a w := by
  obtain ⟨w', hs, h1, h2⟩ := comm_recv_buf (P := P) ho hop hg hz hx hc
  exact wpN.region hn ho hs (h w' h1 h2)
theorem wpN.recv_none (hn : List.range ops.size = 0 :: is) (ho : ops[0]? = some o) (hop : o.op = .select #[{ chan := x, send := none, elem := t }] false) (hg : o.guard = none) (hz : ∀ w, (zeroValue t).run P w = .ok z w) (hx : a.eval x = .chan (some q)) (hc : chanAt w q cap [])
    (h : wpOps P ops Q is (a.put o.dst (.tuple #[.int .i64 (-1), .bool false, z])) w) : wpN P (.region id ops false) Q a w :=
  wpN.region hn ho (comm_recv_none (P := P) ho hop hg hz hx hc) h
end
theorem run_len_chan {dir : ChanDir} {e i ty : TypeId} (ht : P.underlying i = some (.chan dir e)) (hc : chanAt w q cap buf) : (Builtin.len_ #[i] ty #[.chan (some q)]).run P w = .ok (.int .i64 buf.length) w := by
  obtain ⟨s, r, h1⟩ := hc
  have hg : (getObj q).run P w = .ok (.chan cap buf.toArray false s r false) w := by simp [getObj, Sem.run, h1]
  simp [Builtin.len_, run_underlying ht, hg, goInt]
end
end Go.Proofs.YtcnlnkkdcofphaaDoor
