/-
  NETORDER: what is taken out of boxes is what was put, in that order; the law's walk.
-/
import Derived.Test.YtcnlnkkdcofphaaDoorNetBoxes
namespace Go.Proofs.YtcnlnkkdcofphaaDoor
open Go.RowKit
set_option linter.unusedVariables false
set_option maxRecDepth 100000
set_option linter.unusedSimpArgs false

/-- two boxes with La and Lb -/
structure ordS (w wx : World) (b q o r R : Nat) (La Lb : List Int) : Prop where
  one : isB wx b q R La
  two : isB wx o r R Lb
  kept : keepBut [] w wx
  new : w.heap.size ≤ q ∧ w.heap.size ≤ r ∧ b ≠ r ∧ o ≠ q ∧ q ≠ r
/-- a list of numbers made since w -/
structure listS (w wx : World) (v : Value) (l : List Int) : Prop where
  own : owns wx 3 1 v l.length (l.map (Value.int .i64))
  new : ∀ x ∈ homes v, w.heap.size ≤ x
theorem listS.nil (w wx : World) : listS w wx (.slice none 0 0) [] := ⟨owns.nil _ _ _, by simp [homes_none]⟩
theorem listS.form {w wx : World} {v : Value} {l : List Int} (h : listS w wx v l) : ∃ A c, v = .slice A l.length c := by
  obtain ⟨A, c, h, _⟩ := h.own.form
  exact ⟨A, c, h⟩
theorem owns.chan {w : World} {q cap n : Nat} {buf xs : List Value} {v : Value} (h : owns w 3 1 v n xs) (hc : chanAt w q cap buf) : q ∉ homes v := h.toO.chan hc
theorem ordS.fst {w wx wy : World} {b q o r R : Nat} {La La' Lb : List Int} (h : ordS w wx b q o r R La Lb) (k : keepBut [q] wx wy) (h' : isB wy b q R La') : ordS w wy b q o r R La' Lb :=
  ⟨h', h.two.keep k (by simp [h.new.2.2.2.1]) (by simp [h.new.2.2.2.2.symm]), h.kept.up k (by simp [h.new.1]), h.new⟩
theorem ordS.snd {w wx wy : World} {b q o r R : Nat} {La Lb Lb' : List Int} (h : ordS w wx b q o r R La Lb) (k : keepBut [r] wx wy) (h' : isB wy o r R Lb') : ordS w wy b q o r R La Lb' :=
  ⟨h.one.keep k (by simp [h.new.2.2.1]) (by simp [h.new.2.2.2.2]), h', h.kept.up k (by simp [h.new.2.1]), h.new⟩
theorem ordS.over {w wx wy : World} {b q o r R : Nat} {La Lb : List Int} (h : ordS w wx b q o r R La Lb) (k : keepBut [] wx wy) : ordS w wy b q o r R La Lb :=
  ⟨h.one.over k, h.two.over k, h.kept.then k (by simp), h.new⟩
theorem listS.chan1 {w wx wy : World} {b q o r R : Nat} {La Lb : List Int} {v : Value} {l : List Int} (h : listS w wx v l) (s : ordS w wx b q o r R La Lb) (k : keepBut [q] wx wy) : listS w wy v l :=
  ⟨h.own.keep k (fun x hx hm => h.own.chan s.one.2 ((List.mem_singleton.1 hm) ▸ hx)), h.new⟩
theorem listS.chan2 {w wx wy : World} {b q o r R : Nat} {La Lb : List Int} {v : Value} {l : List Int} (h : listS w wx v l) (s : ordS w wx b q o r R La Lb) (k : keepBut [r] wx wy) : listS w wy v l :=
  ⟨h.own.keep k (fun x hx hm => h.own.chan s.two.2 ((List.mem_singleton.1 hm) ▸ hx)), h.new⟩
theorem listS.over {w wx wy : World} {v : Value} {l : List Int} (h : listS w wx v l) (k : keepBut [] wx wy) : listS w wy v l := ⟨h.own.keep k (by simp), h.new⟩
/-- one more number at a list's end -/
theorem listS.more {w wy w5 : World} {b q o r R : Nat} {La Lb : List Int} {v u : Value} {l m : List Int} {ob : Obj} (s : ordS w wy b q o r R La Lb) (h : listS w wy v l)
    (o5 : owns w5 3 1 u (l.length + m.length) (l.map (Value.int .i64) ++ m.map (Value.int .i64))) (k5 : keepBut (homes v) (wy.alloc ob) w5) (h5 : ∀ z ∈ homes u, z ∈ homes v ∨ (wy.alloc ob).heap.size ≤ z) :
    ordS w w5 b q o r R La Lb ∧ listS w w5 u (l ++ m) ∧ ∀ (v2 : Value) (l2 : List Int), listS w wy v2 l2 → (∀ z ∈ homes v, z ∉ homes v2) → listS w w5 v2 l2 ∧ ∀ z ∈ homes u, z ∉ homes v2 := by
  have ka := (keepBut.refl [] wy).alloc ob
  have s1 := s.over ka
  have h1 := h.over ka
  refine ⟨⟨s1.one.keep k5 (fun hm => h1.own.toO.apart s1.one.1 (by decide) hm) (fun hm => h1.own.chan s1.one.2 hm), s1.two.keep k5 (fun hm => h1.own.toO.apart s1.two.1 (by decide) hm) (fun hm => h1.own.chan s1.two.2 hm), s1.kept.up k5 h.new, s.new⟩, ⟨by simpa using o5, fun z hz => ?_⟩, fun v2 l2 h2 hd => ⟨⟨(h2.own.keep ka (by simp)).keep k5 (fun z hz hm => hd z hm hz), h2.new⟩, fun z hz hm => ?_⟩⟩
  · rcases h5 z hz with h6 | h6
    · exact h.new z h6
    · exact Nat.le_trans s1.kept.size h6
  · rcases h5 z hz with h6 | h6
    · exact hd z h6 hm
    · have := h2.own.lt z hm
      rw [World.size_alloc] at h6
      omega
/-- a row of numbers that came in -/
structure rowIn (w : World) (u : Value) (l : List Int) : Prop where
  got : ∃ (A : Option Addr) (c g : Nat), u = .slice A l.length c ∧ l.length ≤ c ∧ c ≤ maxLen ∧ reads w A g l.length 1 (l.map (Value.int .i64))
  ok : ∀ n ∈ l, i64P n
theorem rowIn.at {w : World} {A : Option Addr} {n c : Nat} {l : List Int} (h : rowIn w (.slice A n c) l) {i : Nat} {x : Int} (hx : l[i]? = some x) : ∃ g o, A = some ⟨g, o, none⟩ ∧ g < w.heap.size ∧ w.cell? ⟨g, o + i, none⟩ = some (.int .i64 x) := by
  obtain ⟨A', c', g, e, h1, h2, h3⟩ := h.got
  injection e with e1 e2 e3
  have hi := (List.getElem?_eq_some_iff.1 hx).1
  obtain ⟨o, h4, h5, h6⟩ := h3.2 (by omega)
  exact ⟨g, o, by rw [e1, h4], h5, h6 i _ (by simp [hx])⟩
theorem ordS.box {w wx : World} {b q o r R gx : Nat} {La Lb : List Int} {cs : Array Value} (h : ordS w wx b q o r R La Lb) (hg : rowAt wx gx 64 cs) : gx ∉ [q] := by
  simp only [List.mem_singleton]
  exact fun e => h.one.2.row hg e
theorem ordS.box2 {w wx : World} {b q o r R gx : Nat} {La Lb : List Int} {cs : Array Value} (h : ordS w wx b q o r R La Lb) (hg : rowAt wx gx 64 cs) : gx ∉ [r] := by
  simp only [List.mem_singleton]
  exact fun e => h.two.2.row hg e
theorem listFar {w wx : World} {gx : Nat} {v : Value} {l : List Int} {cs : Array Value} (h : listS w wx v l) (hg : rowAt wx gx 64 cs) : gx ∉ homes v := h.own.apart hg (by decide)
def ordE1 (w : World) (b q o r R gx : Nat) (u0 u1 : Value) (l : List Int) (v11 : Value) (wx : World) : Prop :=
  ∃ one, one = l.take (min (min l.length 64) R) ∧ ordS w wx b q o r R one [] ∧ listS w wx v11 one ∧ rowAt wx gx 64 #[u0, u1] ∧ w.heap.size ≤ gx
def ordE2 (w : World) (b q o r R gx : Nat) (u0 u1 : Value) (one l : List Int) (v11 v12 : Value) (wx : World) : Prop :=
  ∃ two, two = l.take (min (min l.length 64) R) ∧ ordS w wx b q o r R one two ∧ listS w wx v12 two ∧ listS w wx v11 one ∧ (∀ z ∈ homes v12, z ∉ homes v11) ∧ rowAt wx gx 64 #[u0, u1] ∧ w.heap.size ≤ gx
def ordR2 (w : World) (b q o r R gx : Nat) (u0 u1 : Value) (one l : List Int) (v11 v12 v15 : Value) (wx : World) : Prop :=
  ∃ i : Nat, v15 = .int .i64 (i : Int) ∧ i ≤ l.length ∧ i ≤ 64 ∧ ordS w wx b q o r R one (l.take (min i R)) ∧ listS w wx v12 (l.take (min i R)) ∧ listS w wx v11 one ∧ (∀ z ∈ homes v12, z ∉ homes v11) ∧ rowAt wx gx 64 #[u0, u1] ∧ w.heap.size ≤ gx
theorem wp_min3 {P : Program} (w : World) {ops : Array Oper} {rest : List Oper} {o : Oper} {a : Act} {Q : Exit → Act → World → Prop} (x y z : Operand) (ts : Array TypeId) (ho : o.op = .call { callee := .builtin .min, args := #[x, y, z], argTypes := ts })
    (p q r n : Int) (hx : a.eval x = .int .i64 p) (hy : a.eval y = .int .i64 q) (hz : a.eval z = .int .i64 r) (hn : (if r < (if q < p then q else p) then r else (if q < p then q else p)) = n) (hw : Region.wanted o (yielded ops a.tmps) = true)
    (h : wpList P ops Q rest (a.put o.dst (.int .i64 n)) w) : wpList P ops Q (o :: rest) a w := by
  refine wpList_wantedP hw fun K hK => ?_
  have hK' := hK _ _ h
  unfold Oper.wp execOp
  simp only [ho, resolve, invoke, builtin, Sem.run_bind, Sem.run_pure, Result.andThen_ok, List.map_toArray, List.map_cons, List.map_nil, hx, hy, hz, run_min_int3, hn]
  exact hK'
/-- i things are taken out, and stand in got -/
structure ordE3 (w : World) (b q o r R : Nat) (one two : List Int) (v11 v12 : Value) (i : Nat) (v13 : Value) (wx : World) : Prop where
  box : ordS w wx b q o r R (one.drop i) (two.drop (i - one.length))
  got : ∃ gl, gl = (one ++ two).take i ∧ listS w wx v13 gl
  fst : listS w wx v11 one
  snd : listS w wx v12 two
  d12 : ∀ z ∈ homes v12, z ∉ homes v11
  d31 : ∀ z ∈ homes v13, z ∉ homes v11
  d32 : ∀ z ∈ homes v13, z ∉ homes v12
theorem ordE3.next {w wy w5 : World} {b q o r R i : Nat} {one two La Lb gl : List Int} {v11 v12 v13 u : Value} {x : Int} {ob : Obj} (s : ordS w wy b q o r R La Lb) (hg : listS w wy v13 gl) (h1 : listS w wy v11 one) (h2 : listS w wy v12 two)
    (d12 : ∀ z ∈ homes v12, z ∉ homes v11) (d31 : ∀ z ∈ homes v13, z ∉ homes v11) (d32 : ∀ z ∈ homes v13, z ∉ homes v12) (ea : one.drop (i + 1) = La) (eb : two.drop (i + 1 - one.length) = Lb) (eg : (one ++ two).take (i + 1) = gl ++ [x])
    (o5 : owns w5 3 1 u (gl.length + 1) (gl.map (Value.int .i64) ++ [.int .i64 x])) (k5 : keepBut (homes v13) (wy.alloc ob) w5) (h5 : ∀ z ∈ homes u, z ∈ homes v13 ∨ (wy.alloc ob).heap.size ≤ z) : ordE3 w b q o r R one two v11 v12 (i + 1) u w5 := by
  obtain ⟨s1, s2, s3⟩ := listS.more (m := [x]) s hg o5 k5 h5
  have f1 := s3 _ _ h1 d31
  have f2 := s3 _ _ h2 d32
  exact ⟨by rw [ea, eb]; exact s1, ⟨_, eg.symm, s2⟩, f1.1, f2.1, d12, f1.2, f2.2⟩
theorem drop_cons {l r : List Int} {i : Nat} {x : Int} (h : l.drop i = x :: r) : l.drop (i + 1) = r ∧ l[i]? = some x := by
  refine ⟨by rw [← List.drop_drop, h]; rfl, ?_⟩
  have := congrArg (fun m => m[0]?) h
  simpa using this
theorem drop_some {l : List Int} {i : Nat} (h : i < l.length) : ∃ x r, l.drop i = x :: r := by
  rcases e : l.drop i with _ | ⟨x, r⟩
  · have := congrArg List.length e; simp at this; omega
  · exact ⟨x, r, rfl⟩
theorem ordEnd {w wx w5 : World} {b q o r R : Nat} {one two gl : List Int} {v11 v13 u : Value} (s : ordS w wx b q o r R [] []) (h1 : listS w wx v11 one) (hg : listS w wx v13 gl) (d31 : ∀ z ∈ homes v13, z ∉ homes v11)
    (o5 : owns w5 3 1 u (one.length + two.length) (one.map (Value.int .i64) ++ two.map (Value.int .i64))) (k5 : keepBut (homes v11) wx w5) :
    ordS w w5 b q o r R [] [] ∧ owns w5 3 1 v13 gl.length (gl.map (Value.int .i64)) ∧ owns w5 3 1 u (one ++ two).length ((one ++ two).map (Value.int .i64)) :=
  ⟨⟨s.one.keep k5 (fun hm => h1.own.toO.apart s.one.1 (by decide) hm) (fun hm => h1.own.chan s.one.2 hm), s.two.keep k5 (fun hm => h1.own.toO.apart s.two.1 (by decide) hm) (fun hm => h1.own.chan s.two.2 hm), s.kept.up k5 h1.new, s.new⟩, hg.own.keep k5 d31, by simpa using o5⟩
theorem wp_append_gd {P : Program} (w : World) {ops : Array Oper} {rest : List Oper} {o : Oper} {a : Act} {Q : Exit → Act → World → Prop} (s x : Operand) (t : TypeId)
    (ho : o.op = .call { callee := .builtin .append, args := #[s, x], argTypes := #[t, t] })
    (e : TypeId) (i : TypeInfo) (z : Value) (sz bytes : Nat) (ht : P.underlying t = some (.slice e)) (hi : P.info? e = some i) (hz : i.zero = some z)
    (hsize : i.size = sz) (hby : i.bytes = bytes) (hzs : z.cells.size = sz) (hsz : 0 < sz)
    (v : Value) (n : Nat) (xs : List Value) (hs : a.eval s = v) (hown : owns w e sz v n xs)
    (A : Option Addr) (g m c : Nat) (news : List Value) (hx : a.eval x = .slice A m c) (hr : reads w A g m sz news) (h1 : ∀ u ∈ news, u.oneCell' = true)
    (hbytes : (n + m) * bytes ≤ 140737488355328) (hlen : n + m ≤ maxLen) (hw : Region.wanted o (yielded ops a.tmps) = true)
    (h : ∀ A' c' w', owns w' e sz (.slice A' (n + m) c') (n + m) (xs ++ news) → keepBut (homes v) w w' → (∀ x ∈ homes (.slice A' (n + m) c'), x ∈ homes v ∨ w.heap.size ≤ x) → wpList P ops Q rest (a.put o.dst (.slice A' (n + m) c')) w') : wpList P ops Q (o :: rest) a w :=
  wpList_wantedP hw fun K hK => by
    obtain ⟨v', w', hr2, h2, h3, h4⟩ := run_append (P := P) w t o.type e i z sz bytes ht hi hz hsize hby hzs hsz v n xs hown A g m c news hr h1 hbytes hlen
    unfold Oper.wp execOp
    simp only [ho, resolve, invoke, builtin, Sem.run_bind, Sem.run_pure, Result.andThen_ok, List.map_toArray, List.map_cons, List.map_nil, hs, hx, hr2]
    obtain ⟨A', c', rfl, _⟩ := h2.form
    exact hK _ _ (h A' c' w' h2 h3 (fun x hx => (homes_after h4 hx).imp id (by omega)))
def ordR1 (w : World) (b q o r R gx : Nat) (u0 u1 : Value) (l : List Int) (v11 v14 : Value) (wx : World) : Prop :=
  ∃ i : Nat, v14 = .int .i64 (i : Int) ∧ i ≤ l.length ∧ i ≤ 64 ∧ ordS w wx b q o r R (l.take (min i R)) [] ∧ listS w wx v11 (l.take (min i R)) ∧ rowAt wx gx 64 #[u0, u1] ∧ w.heap.size ≤ gx
set_option maxHeartbeats 16000000 in
theorem netOrder_law (room many : Int) (u0 u1 : Value) (l0 l1 : List Int) (w : World) (hroom : i64P room) (hmany : i64P many) (hu0 : rowIn w u0 l0) (hu1 : rowIn w u1 l1) (hfl : fieldsAt w) :
    Calls Tryd.prog 5 #[.int .i64 room, .agg #[u0, u1], .int .i64 many] w fun e w' => e = .returned (.bool true) ∧ keepBut [] w w' := by
  obtain ⟨A0, c0, g0, rfl, hc0, hm0, _⟩ := id hu0.got
  obtain ⟨A1, c1, g1, rfl, hc1, hm1, _⟩ := id hu1.got
  unfold maxLen at hm0 hm1
  obtain ⟨hr1, hr2⟩ := hroom
  obtain ⟨hy1, hy2⟩ := hmany
  have HX := Lib.hid (And.intro hu0 hu1)
  have HFL := Lib.hid hfl
  obtain ⟨R, hR⟩ : ∃ R : Nat, 1 + room % 64 = (R : Int) := ⟨(1 + room % 64).toNat, by have := Int.emod_nonneg room (show (64 : Int) ≠ 0 by omega); omega⟩
  have hR1 : 1 ≤ R := by have := Int.emod_nonneg room (show (64 : Int) ≠ 0 by omega); omega
  have hR2 : R ≤ 64 := by have := Int.emod_lt_of_pos room (show (0 : Int) < 64 by omega); omega
  have hwR : IntKind.i64.wrap (1 + room % 64) = (R : Int) := by rw [hR, IntKind.wrap_i64]; omega
  clear hu0 hu1 hfl hR
  go_enter Tryd.func5, Tryd.ntmps5
  go_upto_region 2 with (first
    | (with_reducible refine wpList_box_agg _ rfl 64 (.tmp 1) rfl _ rfl ?_)
    | (go_at_call 13; refine (bring_any room 64 hr1 hr2 (by omega) (by omega) _).mono ?_; rintro e w' ⟨rfl, rfl⟩))
  have r1 := rowAt.new w 64 #[.slice A0 l0.length c0, .slice A1 l1.length c1]
  have k1 := (keepBut.refl [] w).alloc (.cells #[.slice A0 l0.length c0, .slice A1 l1.length c1] 64)
  generalize w.alloc (.cells #[.slice A0 l0.length c0, .slice A1 l1.length c1] 64) = w1 at r1 k1 ⊢
  obtain ⟨gx, hgx⟩ : ∃ gx, w.heap.size = gx := ⟨_, rfl⟩
  rw [hgx] at r1 ⊢
  have G1 := Lib.hid (And.intro r1 (And.intro k1 (show w.heap.size ≤ gx by omega)))
  have HR := Lib.hid (show (1 : Int) ≤ (R : Int) ∧ (R : Int) ≤ 64 by omega)
  clear r1 k1 hgx
  go_upto_region 3 with (go_at_call 20; refine (newBox (R : Int) _ HR.out).mono ?_; rintro e w2 ⟨b, q, rfl, h2, k2, l2, l2'⟩; have B1 := Lib.hid (show isB w2 b q R [] ∧ keepBut [] w w2 ∧ w.heap.size ≤ q ∧ rowAt w2 gx 64 #[.slice A0 l0.length c0, .slice A1 l1.length c1] from ⟨h2, G1.out.2.1.then k2 (by simp), Nat.le_trans G1.out.2.1.size l2', k2.row G1.out.1 (by simp)⟩); clear h2 k2 l2 l2')
  go_upto_region 4 with (go_at_call 20; refine (newBox (R : Int) _ HR.out).mono ?_; rintro e w3 ⟨o, r, rfl, h3, k3, l3, l3'⟩; have B2 := Lib.hid (show ordS w w3 b q o r R [] [] ∧ rowAt w3 gx 64 #[.slice A0 l0.length c0, .slice A1 l1.length c1] from (have hb := B1.out.1.lt; ⟨⟨B1.out.1.over k3, h3, B1.out.2.1.then k3 (by simp), ⟨B1.out.2.2.1, by have := B1.out.2.1.size; omega, by omega, by omega, by omega⟩⟩, k3.row B1.out.2.2.2 (by simp)⟩)); clear h3 k3 l3 l3')
  clear B1
  go_upto_block 0 with fail
  go_cut [11, 14] from 44 to 69 (fun v11 _ wx => ordE1 w b q o r R gx (.slice A0 l0.length c0) (.slice A1 l1.length c1) l0 v11 wx)
  case first =>
    go_upto_region 8 with fail
    go_loopw [11, 14] (fun v11 v14 wx => ordR1 w b q o r R gx (.slice A0 l0.length c0) (.slice A1 l1.length c1) l0 v11 v14 wx) (fun _ v14 _ => l0.length - (intOf v14).toNat)
    case atStart => exact ⟨0, rfl, Nat.zero_le _, by omega, by simpa using B2.out.1, by simpa using listS.nil w w3, B2.out.2, G1.out.2.2⟩
    case round =>
      clear B2 hwR
      obtain ⟨i, rfl, hil, hi64, hS, hL, hG, hgx⟩ := hrel
      have y0 : wr.cell? ⟨gx, 0, none⟩ = some (.slice A0 l0.length c0) := hG.cell 0
      have y1 : wr.cell? ⟨gx, 1, none⟩ = some (.slice A1 l1.length c1) := hG.cell 1
      by_cases hlt : i < l0.length ∧ i < 64
      · obtain ⟨hi1, hi2⟩ := hlt
        obtain ⟨x, hx⟩ : ∃ x, l0[i]? = some x := ⟨_, List.getElem?_eq_getElem hi1⟩
        obtain ⟨g, og, hA, hgl, hcell⟩ := HX.out.1.at hx
        have cx := (hS.kept.cell (p := ⟨g, og + i, none⟩) hgl (by simp)).trans hcell
        have hi1' : (i : Int) < (l0.length : Int) := by omega
        have hi2' : (i : Int) < 64 := by omega
        have hi0 : (0 : Int) ≤ (i : Int) := by omega
        have hwi : IntKind.i64.wrap ((i : Int) + 1) = (i : Int) + 1 := by rw [IntKind.wrap_i64]; omega
        have HGL := Lib.hid hgl
        subst hA
        obtain ⟨Li, hLi⟩ : ∃ Li, l0.take (min i R) = Li := ⟨_, rfl⟩
        have hLl : Li.length = min i R := by rw [← hLi, List.length_take]; omega
        rw [hLi] at hS hL
        obtain ⟨A9, c9, rfl⟩ := hL.form
        by_cases hiR : i < R
        · have ht2 : l0.take (min (i + 1) R) = Li ++ [x] := by
            have e1 : min (i + 1) R = i + 1 := Nat.min_eq_left (by omega)
            have e2 : min i R = i := Nat.min_eq_left (by omega)
            rw [e2] at hLi
            rw [e1, List.take_add_one, hLi, hx]; rfl
          have htl : Li.length = i := by rw [hLl]; exact Nat.min_eq_left (by omega)
          clear hLi hLl
          have PB := Lib.hid (putB_room b q R Li x wr hS.one (by omega))
          have HLN := Lib.hid (show Li.length ≤ 64 by omega)
          have HS := Lib.hid (And.intro hS (And.intro hL (And.intro hG (And.intro hgx (And.intro ht2 htl)))))
          obtain ⟨i0, hi0', hz0, hz1, hz2⟩ := info_parts infoIntc
          have HZ0 := Lib.hid (And.intro hi0' (And.intro hz0 (And.intro hz1 hz2)))
          clear hi0' hz0 hz1 hz2 hS hL hG hgx ht2 hx hgl hcell htl 
          go_upto_region 11 with (go_at_call 21; (with_reducible refine PB.out.mono ?_); rintro e wy ⟨rfl, h1, k1⟩; have Y := Lib.hid (And.intro (HS.out.1.fst k1 h1) (And.intro (HS.out.2.1.chan1 HS.out.1 k1) (k1.row HS.out.2.2.1 (ordS.box HS.out.1 HS.out.2.2.1)))); have cy := (k1.cell (p := ⟨g, og + i, none⟩) (World.block_lt_of_cell? _ _ cx) (fun hm => by have h2 := HS.out.1.new.1; have h3 := List.mem_singleton.1 hm; have h4 := HGL.out; dsimp only at h3; omega)).trans cx; clear h1 k1)
          have z0 : wy.cell? ⟨gx, 0, none⟩ = some _ := Y.out.2.2.cell 0
          clear cx y0 y1
          go_wp2_with (at_builtin; refine wp_append _ rfl _ _ 35 rfl 3 i0 (.int .i64 0) 1 8 Tryd.underlying35 HZ0.out.1 HZ0.out.2.1 HZ0.out.2.2.1 HZ0.out.2.2.2 rfl (by decide) (.slice A9 Li.length c9) Li.length _ rfl (Y.out.2.1.own.alloc _) (some ⟨wy.heap.size, 0, none⟩) wy.heap.size 1 1 [.int .i64 x] (by simp [Act.eval]) (reads_one wy 3 (.int .i64 x)) (by intro u hu; simp at hu; subst hu; rfl) (by have := HLN.out; omega) (by have := HLN.out; unfold maxLen; omega) ?_; intro A5 c5 w5 o5 k5 h5; have O5 := Lib.hid (And.intro o5 (And.intro k5 h5)); clear o5 k5 h5)
          go_roundw
          case rel =>
            obtain ⟨s1, s2, s3⟩ := listS.more (m := [x]) Y.out.1 Y.out.2.1 O5.out.1 O5.out.2.1 O5.out.2.2
            refine ⟨i + 1, by go_num, by omega, by omega, by rw [HS.out.2.2.2.2.1]; exact s1, by rw [HS.out.2.2.2.2.1]; exact s2, ?_, HS.out.2.2.2.1⟩
            exact O5.out.2.1.row (((keepBut.refl [] wy).alloc _).row Y.out.2.2 (by simp)) (fun hm => (listFar Y.out.2.1 Y.out.2.2) hm)
          case measure => simp [intOf]; omega
        · have ht2 : l0.take (min (i + 1) R) = Li := by rw [← hLi]; congr 1; omega
          have htl : R ≤ Li.length := by rw [hLl]; omega
          clear hLi hLl
          have PB := Lib.hid (putB_full b q R Li x wr hS.one htl)
          have HS := Lib.hid (And.intro hS (And.intro hL (And.intro hG (And.intro hgx ht2))))
          clear hS hL hG hgx ht2 hx hgl hcell htl 
          go_wp2_with (go_at_call 21; (with_reducible refine PB.out.mono ?_); rintro e wy ⟨rfl, rfl⟩)
          go_roundw
          case rel => exact ⟨i + 1, by go_num, by omega, by omega, by rw [HS.out.2.2.2.2]; exact HS.out.1, by rw [HS.out.2.2.2.2]; exact HS.out.2.1, HS.out.2.2.1, HS.out.2.2.2.1⟩
          case measure => simp [intOf]; omega
      · have hx : (¬ (i : Int) < (l0.length : Int) ∧ i = min l0.length 64) ∨ ((i : Int) < (l0.length : Int) ∧ ¬ (i : Int) < 64 ∧ i = min l0.length 64) := by omega
        obtain ⟨Li, hLi⟩ : ∃ Li, l0.take (min i R) = Li := ⟨_, rfl⟩
        rw [hLi] at hS hL
        obtain ⟨A9, c9, rfl⟩ := hL.form
        have HS := Lib.hid (And.intro hS (And.intro hL (And.intro hG hgx)))
        have HL := Lib.hid hLi
        skip
        clear hS hL hG hgx hLi hlt
        rcases hx with ⟨hx1, hx3⟩ | ⟨hx1, hx2, hx3⟩
        all_goals
          have HXI := Lib.hid hx3
          clear hx3
          go_wp2_with fail
          go_meet
          exact ⟨Li, by rw [← HXI.out]; exact HL.out.symm, HS.out.1, HS.out.2.1, HS.out.2.2.1, HS.out.2.2.2⟩
  case rest =>
    clear B2 hwR
    obtain ⟨one, hone, hS1, hL1, hG1, hgx1⟩ := hcut
    obtain ⟨A9, c9, rfl⟩ := hL1.form
    have HO := Lib.hid (And.intro hS1 (And.intro hL1 (And.intro hG1 (And.intro hgx1 hone))))
    clear hS1 hL1 hG1 hgx1 hone
    go_upto_block 2 with fail
    go_cut [12, 15] from 70 to 95 (fun v12 _ wx => ordE2 w b q o r R gx (.slice A0 l0.length c0) (.slice A1 l1.length c1) one l1 (.slice A9 one.length c9) v12 wx)
    case first =>
      go_upto_region 13 with fail
      go_loopw [12, 15] (fun v12 v15 wx => ordR2 w b q o r R gx (.slice A0 l0.length c0) (.slice A1 l1.length c1) one l1 (.slice A9 one.length c9) v12 v15 wx) (fun _ v15 _ => l1.length - (intOf v15).toNat)
      case atStart => exact ⟨0, rfl, Nat.zero_le _, by omega, by simpa using HO.out.1, by simpa using listS.nil w wc, HO.out.2.1, by simp [homes_none], HO.out.2.2.1, HO.out.2.2.2.1⟩
      case round =>
        obtain ⟨i, rfl, hil, hi64, hS, hL, h1L, hdj, hG, hgx⟩ := hrel
        have y0 : wr.cell? ⟨gx, 0, none⟩ = some (.slice A0 l0.length c0) := hG.cell 0
        have y1 : wr.cell? ⟨gx, 1, none⟩ = some (.slice A1 l1.length c1) := hG.cell 1
        by_cases hlt : i < l1.length ∧ i < 64
        · obtain ⟨hi1, hi2⟩ := hlt
          obtain ⟨x, hx⟩ : ∃ x, l1[i]? = some x := ⟨_, List.getElem?_eq_getElem hi1⟩
          obtain ⟨g, og, hA, hgl, hcell⟩ := HX.out.2.at hx
          have cx := (hS.kept.cell (p := ⟨g, og + i, none⟩) hgl (by simp)).trans hcell
          have hi1' : (i : Int) < (l1.length : Int) := by omega
          have hi2' : (i : Int) < 64 := by omega
          have hi0 : (0 : Int) ≤ (i : Int) := by omega
          have hwi : IntKind.i64.wrap ((i : Int) + 1) = (i : Int) + 1 := by rw [IntKind.wrap_i64]; omega
          have HGL := Lib.hid hgl
          subst hA
          obtain ⟨Li, hLi⟩ : ∃ Li, l1.take (min i R) = Li := ⟨_, rfl⟩
          have hLl : Li.length = min i R := by rw [← hLi, List.length_take]; omega
          rw [hLi] at hS hL
          obtain ⟨A8, c8, rfl⟩ := hL.form
          by_cases hiR : i < R
          · have ht2 : l1.take (min (i + 1) R) = Li ++ [x] := by
              have e1 : min (i + 1) R = i + 1 := Nat.min_eq_left (by omega)
              have e2 : min i R = i := Nat.min_eq_left (by omega)
              rw [e2] at hLi
              rw [e1, List.take_add_one, hLi, hx]; rfl
            have htl : Li.length = i := by rw [hLl]; exact Nat.min_eq_left (by omega)
            clear hLi hLl
            have PB := Lib.hid (putB_room o r R Li x wr hS.two (by omega))
            have HLN := Lib.hid (show Li.length ≤ 64 by omega)
            have HS := Lib.hid (And.intro hS (And.intro hL (And.intro hG (And.intro hgx (And.intro h1L (And.intro hdj (And.intro ht2 htl)))))))
            obtain ⟨i0, hi0', hz0, hz1, hz2⟩ := info_parts infoIntc
            have HZ0 := Lib.hid (And.intro hi0' (And.intro hz0 (And.intro hz1 hz2)))
            clear hi0' hz0 hz1 hz2 hS hL hG hgx ht2 hx hgl hcell htl h1L hdj
            go_upto_region 16 with (go_at_call 21; (with_reducible refine PB.out.mono ?_); rintro e wy ⟨rfl, h1, k1⟩; have Y := Lib.hid (And.intro (HS.out.1.snd k1 h1) (And.intro (HS.out.2.1.chan2 HS.out.1 k1) (And.intro (HS.out.2.2.2.2.1.chan2 HS.out.1 k1) (k1.row HS.out.2.2.1 (ordS.box2 HS.out.1 HS.out.2.2.1))))); have cy := (k1.cell (p := ⟨g, og + i, none⟩) (World.block_lt_of_cell? _ _ cx) (fun hm => by have h2 := HS.out.1.new.2.1; have h3 := List.mem_singleton.1 hm; have h4 := HGL.out; dsimp only at h3; omega)).trans cx; clear h1 k1)
            have z0 : wy.cell? ⟨gx, 1, none⟩ = some _ := Y.out.2.2.2.cell 1
            clear cx y0 y1
            go_wp2_with (at_builtin; refine wp_append _ rfl _ _ 35 rfl 3 i0 (.int .i64 0) 1 8 Tryd.underlying35 HZ0.out.1 HZ0.out.2.1 HZ0.out.2.2.1 HZ0.out.2.2.2 rfl (by decide) (.slice A8 Li.length c8) Li.length _ rfl (Y.out.2.1.own.alloc _) (some ⟨wy.heap.size, 0, none⟩) wy.heap.size 1 1 [.int .i64 x] (by simp [Act.eval]) (reads_one wy 3 (.int .i64 x)) (by intro u hu; simp at hu; subst hu; rfl) (by have := HLN.out; omega) (by have := HLN.out; unfold maxLen; omega) ?_; intro A5 c5 w5 o5 k5 h5; have O5 := Lib.hid (And.intro o5 (And.intro k5 h5)); clear o5 k5 h5)
            go_roundw
            case rel =>
              obtain ⟨s1, s2, s3⟩ := listS.more (m := [x]) Y.out.1 Y.out.2.1 O5.out.1 O5.out.2.1 O5.out.2.2
              have s4 := s3 _ _ Y.out.2.2.1 HS.out.2.2.2.2.2.1
              refine ⟨i + 1, by go_num, by omega, by omega, by rw [HS.out.2.2.2.2.2.2.1]; exact s1, by rw [HS.out.2.2.2.2.2.2.1]; exact s2, s4.1, s4.2, ?_, HS.out.2.2.2.1⟩
              exact O5.out.2.1.row (((keepBut.refl [] wy).alloc _).row Y.out.2.2.2 (by simp)) (fun hm => (listFar Y.out.2.1 Y.out.2.2.2) hm)
            case measure => simp [intOf]; omega
          · have ht2 : l1.take (min (i + 1) R) = Li := by rw [← hLi]; congr 1; omega
            have htl : R ≤ Li.length := by rw [hLl]; omega
            clear hLi hLl
            have PB := Lib.hid (putB_full o r R Li x wr hS.two htl)
            have HS := Lib.hid (And.intro hS (And.intro hL (And.intro hG (And.intro hgx (And.intro h1L (And.intro hdj ht2))))))
            clear hS hL hG hgx ht2 hx hgl hcell htl h1L hdj
            go_wp2_with (go_at_call 21; (with_reducible refine PB.out.mono ?_); rintro e wy ⟨rfl, rfl⟩)
            go_roundw
            case rel => exact ⟨i + 1, by go_num, by omega, by omega, by rw [HS.out.2.2.2.2.2.2]; exact HS.out.1, by rw [HS.out.2.2.2.2.2.2]; exact HS.out.2.1, HS.out.2.2.2.2.1, HS.out.2.2.2.2.2.1, HS.out.2.2.1, HS.out.2.2.2.1⟩
            case measure => simp [intOf]; omega
        · have hx : (¬ (i : Int) < (l1.length : Int) ∧ i = min l1.length 64) ∨ ((i : Int) < (l1.length : Int) ∧ ¬ (i : Int) < 64 ∧ i = min l1.length 64) := by omega
          obtain ⟨Li, hLi⟩ : ∃ Li, l1.take (min i R) = Li := ⟨_, rfl⟩
          rw [hLi] at hS hL
          obtain ⟨A8, c8, rfl⟩ := hL.form
          have HS := Lib.hid (And.intro hS (And.intro hL (And.intro hG hgx)))
          have HL := Lib.hid hLi
          have HJ := Lib.hid (And.intro h1L hdj)
          clear h1L hdj
          clear hS hL hG hgx hLi hlt
          rcases hx with ⟨hx1, hx3⟩ | ⟨hx1, hx2, hx3⟩
          all_goals
            have HXI := Lib.hid hx3
            clear hx3
            go_wp2_with fail
            go_meet
            exact ⟨Li, by rw [← HXI.out]; exact HL.out.symm, HS.out.1, HS.out.2.1, HJ.out.1, HJ.out.2, HS.out.2.2.1, HS.out.2.2.2⟩
    case rest =>
      obtain ⟨two, htwo, hS2, hL2, hL1, hdj, hG2, hgx2⟩ := hcut
      obtain ⟨A8, c8, rfl⟩ := hL2.form
      have y0 : wc.cell? ⟨gx, 0, none⟩ = some (.slice A0 l0.length c0) := hG2.cell 0
      have y1 : wc.cell? ⟨gx, 1, none⟩ = some (.slice A1 l1.length c1) := hG2.cell 1
      have ho1 : one.length = min (min l0.length 64) R := by rw [HO.out.2.2.2.2, List.length_take]; omega
      have ho2 : two.length = min (min l1.length 64) R := by rw [htwo, List.length_take]; omega
      have HT := Lib.hid (And.intro hS2 (And.intro hL1 (And.intro hL2 (And.intro hdj (And.intro ho1 ho2)))))
      clear hS2 hL1 hL2 hdj ho1 ho2 htwo hG2 hgx2 HO
      have hm3 : (if (64 : Int) < (if (l0.length : Int) < (R : Int) then (l0.length : Int) else (R : Int)) then (64 : Int) else (if (l0.length : Int) < (R : Int) then (l0.length : Int) else (R : Int))) = (one.length : Int) := by have := HT.out.2.2.2.2.1; split <;> split <;> omega
      have hm4 : (if (64 : Int) < (if (l1.length : Int) < (R : Int) then (l1.length : Int) else (R : Int)) then (64 : Int) else (if (l1.length : Int) < (R : Int) then (l1.length : Int) else (R : Int))) = (two.length : Int) := by have := HT.out.2.2.2.2.2; split <;> split <;> omega
      go_upto_region 17 with fail
      go_cut [113] from 96 to 112 (fun v113 wx => v113 = .bool false ∧ wx = wc)
      case first =>
        have h64 : ¬ (64 : Int) < (R : Int) := by omega
        have e1 : ((l0.length : Int) < (R : Int) ∧ one.length = l0.length) ∨ (¬ (l0.length : Int) < (R : Int) ∧ one.length = R) := by have := HT.out.2.2.2.2.1; omega
        have e2 : ((l1.length : Int) < (R : Int) ∧ two.length = l1.length) ∨ (¬ (l1.length : Int) < (R : Int) ∧ two.length = R) := by have := HT.out.2.2.2.2.2; omega
        clear hm3 hm4
        rcases e1 with ⟨e1, f1⟩ | ⟨e1, f1⟩
        all_goals
          have HF1 := Lib.hid f1
          clear f1
          rcases e2 with ⟨e2, f2⟩ | ⟨e2, f2⟩
          all_goals
            have HF2 := Lib.hid f2
            clear f2
            have d1 : ¬ (64 : Int) < (l0.length : Int) ∨ ¬ (l0.length : Int) < (R : Int) := by omega
            first
              | have n1 : ((one.length : Int) != (l0.length : Int)) = false := by simp [HF1.out]
              | have n1 : ((one.length : Int) != (R : Int)) = false := by simp [HF1.out]
            first
              | have n2 : ((two.length : Int) != (l1.length : Int)) = false := by simp [HF2.out]
              | have n2 : ((two.length : Int) != (R : Int)) = false := by simp [HF2.out]
            clear d1
            go_wp2_with fail
            go_meet
            exact ⟨rfl, rfl⟩
      case rest =>
       obtain ⟨rfl, rfl⟩ := hcut
       go_upto_region 19 with fail
       clear hm3 hm4
       clear y0 y1
       have hb1 : one.length ≤ 64 := by have := HT.out.2.2.2.2.1; omega
       have hb2 : two.length ≤ 64 := by have := HT.out.2.2.2.2.2; omega
       have hwo : IntKind.i64.wrap ((one.length : Int) + 1) = (one.length : Int) + 1 := by rw [IntKind.wrap_i64]; omega
       obtain ⟨nn, hnn⟩ : ∃ nn : Nat, many % ((one.length : Int) + 1) = (nn : Int) := ⟨(many % ((one.length : Int) + 1)).toNat, by have := Int.emod_nonneg many (show (one.length : Int) + 1 ≠ 0 by omega); omega⟩
       have hnl : nn ≤ one.length := by have := Int.emod_lt_of_pos many (show (0 : Int) < (one.length : Int) + 1 by omega); omega
       have PB := Lib.hid (show ∀ w', Calls Tryd.prog 13 #[.int .i64 many, .int .i64 ((one.length : Int) + 1)] w' (fun e w'' => e = .returned (.int .i64 (nn : Int)) ∧ w' = w'') from fun w' => by have h := bring_any many ((one.length : Int) + 1) hy1 hy2 (by omega) (by omega) w'; rw [hnn] at h; exact h)
       clear hnn
       go_upto_region 20 with (go_at_call 13; (with_reducible refine (PB.out _).mono ?_); rintro e w' ⟨rfl, rfl⟩)
       clear hwo PB
       have HB := Lib.hid (And.intro hb1 (And.intro hb2 hnl))
       clear hb1 hb2
       have hws : IntKind.i64.wrap ((one.length : Int) + (two.length : Int)) = (one.length : Int) + (two.length : Int) := by rw [IntKind.wrap_i64]; have := HB.out.1; have := HB.out.2.1; omega
       go_upto_block 4 with fail
       go_cut [13, 17, 18, 19] from 119 to 134 (fun v13 _ _ _ wx => ordE3 w b q o r R one two (.slice A9 one.length c9) (.slice A8 two.length c8) nn v13 wx)
       case first =>
         go_upto_region 21 with fail
         go_loopw [13, 17, 18, 19] (fun v13 v17 _ _ wx => ∃ i : Nat, v17 = .int .i64 (i : Int) ∧ i ≤ nn ∧ ordE3 w b q o r R one two (.slice A9 one.length c9) (.slice A8 two.length c8) i v13 wx) (fun _ v17 _ _ _ => nn - (intOf v17).toNat)
         case atStart => exact ⟨0, rfl, Nat.zero_le _, by simpa using HT.out.1, ⟨[], by simp, listS.nil w wc⟩, HT.out.2.1, HT.out.2.2.1, HT.out.2.2.2.1, by simp [homes_none], by simp [homes_none]⟩
         case round =>
           obtain ⟨i, rfl, hin, hE⟩ := hrel
           obtain ⟨gl, hgl, hg⟩ := hE.got
           obtain ⟨A7, c7, rfl⟩ := hg.form
           by_cases hlt : i < nn
           · obtain ⟨x, La, hx⟩ := drop_some (l := one) (i := i) (by omega)
             obtain ⟨hx1, hx2⟩ := drop_cons hx
             have hgt : (one ++ two).take (i + 1) = gl ++ [x] := by rw [List.take_add_one, ← hgl, List.getElem?_append_left (by omega), hx2]; rfl
             have hgn : gl.length ≤ 200 := by rw [hgl]; simp; have := HB.out.1; omega
             have hbx := hE.box
             rw [hx] at hbx
             have PT := Lib.hid (takeB_some b q R La x wr hbx.one)
             have HE := Lib.hid (And.intro hbx (And.intro hg (And.intro hE.fst (And.intro hE.snd (And.intro hE.d12 (And.intro hE.d31 hE.d32))))))
             have hil : i < one.length := by omega
             have HG := Lib.hid (And.intro hgt hgn)
             have HD := Lib.hid (show one.drop (i + 1) = La ∧ two.drop (i + 1 - one.length) = two.drop (i - one.length) from ⟨hx1, by rw [show i + 1 - one.length = 0 by omega, show i - one.length = 0 by omega]⟩)
             have hi1 : (i : Int) < (nn : Int) := by omega
             have hwi : IntKind.i64.wrap ((i : Int) + 1) = (i : Int) + 1 := by rw [IntKind.wrap_i64]; have := HB.out.1; omega
             obtain ⟨i0, hi0', hz0, hz1, hz2⟩ := info_parts infoIntc
             have HZ0 := Lib.hid (And.intro hi0' (And.intro hz0 (And.intro hz1 hz2)))
             clear hi0' hz0 hz1 hz2 hE hg hgl hx hx1 hx2 hgt hgn hbx
             go_wp2_with (first
               | (go_at_call 22; (with_reducible refine PT.out.mono ?_); rintro e wy ⟨rfl, h1, k1⟩; have Y := Lib.hid (And.intro (HE.out.1.fst k1 h1) (And.intro (HE.out.2.1.chan1 HE.out.1 k1) (And.intro (HE.out.2.2.1.chan1 HE.out.1 k1) (HE.out.2.2.2.1.chan1 HE.out.1 k1)))); clear h1 k1)
               | (at_builtin; refine wp_append _ rfl _ _ 35 rfl 3 i0 (.int .i64 0) 1 8 Tryd.underlying35 HZ0.out.1 HZ0.out.2.1 HZ0.out.2.2.1 HZ0.out.2.2.2 rfl (by decide) (.slice A7 gl.length c7) gl.length _ rfl (Y.out.2.1.own.alloc _) (some ⟨wy.heap.size, 0, none⟩) wy.heap.size 1 1 [.int .i64 x] (by simp [Act.eval]) (reads_one wy 3 (.int .i64 x)) (by intro u hu; simp at hu; subst hu; rfl) (by have := HG.out.2; omega) (by have := HG.out.2; unfold maxLen; omega) ?_; intro A5 c5 w5 o5 k5 h5; have O5 := Lib.hid (And.intro o5 (And.intro k5 h5)); clear o5 k5 h5))
             go_roundw
             case rel => exact ⟨i + 1, by go_num, by omega, ordE3.next Y.out.1 Y.out.2.1 Y.out.2.2.1 Y.out.2.2.2 HE.out.2.2.2.2.1 HE.out.2.2.2.2.2.1 HE.out.2.2.2.2.2.2 HD.out.1 HD.out.2 HG.out.1 O5.out.1 O5.out.2.1 O5.out.2.2⟩
             case measure => simp [intOf]; omega
           · obtain rfl : i = nn := by omega
             have hi1 : ¬ (i : Int) < (i : Int) := by omega
             have HE := Lib.hid hE
             clear hE hlt hg hgl
             go_wp2_with fail
             go_meet
             exact HE.out
       case rest =>
         obtain ⟨gl0, hgl0, hg0⟩ := hcut.got
         obtain ⟨A7, c7, rfl⟩ := hg0.form
         have HE0 := Lib.hid hcut
         clear hcut hg0 hgl0 HT
         go_upto_region 28 with fail
         go_loopw [13, 20, 21, 22] (fun v13 v20 _ _ wx => ∃ i : Nat, v20 = .int .i64 (i : Int) ∧ nn ≤ i ∧ i ≤ one.length + two.length ∧ ordE3 w b q o r R one two (.slice A9 one.length c9) (.slice A8 two.length c8) i v13 wx) (fun _ v20 _ _ _ => one.length + two.length - (intOf v20).toNat)
         case atStart => exact ⟨nn, rfl, Nat.le_refl _, by omega, HE0.out⟩
         case round =>
           clear HE0
           obtain ⟨i, rfl, hin, hil, hE⟩ := hrel
           obtain ⟨gl, hgl, hg⟩ := hE.got
           obtain ⟨A7, c7, rfl⟩ := hg.form
           obtain ⟨i0, hi0', hz0, hz1, hz2⟩ := info_parts infoIntc
           have HZ0 := Lib.hid (And.intro hi0' (And.intro hz0 (And.intro hz1 hz2)))
           clear hi0' hz0 hz1 hz2
           by_cases hlt : i < one.length + two.length
           · have hi1 : (i : Int) < (one.length : Int) + (two.length : Int) := by omega
             have hwi : IntKind.i64.wrap ((i : Int) + 1) = (i : Int) + 1 := by rw [IntKind.wrap_i64]; have := HB.out.1; have := HB.out.2.1; omega
             have hgn : gl.length ≤ 200 := by rw [hgl]; simp; have := HB.out.1; have := HB.out.2.1; omega
             by_cases hio : i < one.length
             · obtain ⟨x, La, hx⟩ := drop_some (l := one) (i := i) hio
               obtain ⟨hx1, hx2⟩ := drop_cons hx
               have hgt : (one ++ two).take (i + 1) = gl ++ [x] := by rw [List.take_add_one, ← hgl, List.getElem?_append_left hio, hx2]; rfl
               have hbx := hE.box
               rw [hx] at hbx
               have PT := Lib.hid (firstB_some b q R (.pointer (some ⟨o, 0, none⟩)) La x wr hbx.one)
               have HE := Lib.hid (And.intro hbx (And.intro hg (And.intro hE.fst (And.intro hE.snd (And.intro hE.d12 (And.intro hE.d31 hE.d32))))))
               have HG := Lib.hid (And.intro hgt hgn)
               have HD := Lib.hid (show one.drop (i + 1) = La ∧ two.drop (i + 1 - one.length) = two.drop (i - one.length) from ⟨hx1, by rw [show i + 1 - one.length = 0 by omega, show i - one.length = 0 by omega]⟩)
               clear hE hg hgl hx hx1 hx2 hgt hgn hbx
               go_wp2_with (first
                 | (go_at_call 23; (with_reducible refine PT.out.mono ?_); rintro e wy ⟨rfl, h1, k1⟩; have Y := Lib.hid (And.intro (HE.out.1.fst k1 h1) (And.intro (HE.out.2.1.chan1 HE.out.1 k1) (And.intro (HE.out.2.2.1.chan1 HE.out.1 k1) (HE.out.2.2.2.1.chan1 HE.out.1 k1)))); clear h1 k1)
                 | (at_builtin; refine wp_append _ rfl _ _ 35 rfl 3 i0 (.int .i64 0) 1 8 Tryd.underlying35 HZ0.out.1 HZ0.out.2.1 HZ0.out.2.2.1 HZ0.out.2.2.2 rfl (by decide) (.slice A7 gl.length c7) gl.length _ rfl (Y.out.2.1.own.alloc _) (some ⟨wy.heap.size, 0, none⟩) wy.heap.size 1 1 [.int .i64 x] (by simp [Act.eval]) (reads_one wy 3 (.int .i64 x)) (by intro u hu; simp at hu; subst hu; rfl) (by have := HG.out.2; omega) (by have := HG.out.2; unfold maxLen; omega) ?_; intro A5 c5 w5 o5 k5 h5; have O5 := Lib.hid (And.intro o5 (And.intro k5 h5)); clear o5 k5 h5))
               go_roundw
               case rel => exact ⟨i + 1, by go_num, by omega, by omega, ordE3.next Y.out.1 Y.out.2.1 Y.out.2.2.1 Y.out.2.2.2 HE.out.2.2.2.2.1 HE.out.2.2.2.2.2.1 HE.out.2.2.2.2.2.2 HD.out.1 HD.out.2 HG.out.1 O5.out.1 O5.out.2.1 O5.out.2.2⟩
               case measure => simp [intOf]; omega
             · obtain ⟨x, Lb, hx⟩ := drop_some (l := two) (i := i - one.length) (by omega)
               obtain ⟨hx1, hx2⟩ := drop_cons hx
               have hgt : (one ++ two).take (i + 1) = gl ++ [x] := by rw [List.take_add_one, ← hgl, List.getElem?_append_right (by omega), hx2]; rfl
               have hd1 : one.drop i = [] := List.drop_of_length_le (by omega)
               have hd2 : one.drop (i + 1) = [] := List.drop_of_length_le (by omega)
               have hbx := hE.box
               rw [hx, hd1] at hbx
               have PT := Lib.hid (firstB_none b q R (.pointer (some ⟨o, 0, none⟩)) wr (.int .i64 x) true (fun w' => isB w' o r R Lb ∧ keepBut [r] wr w') hbx.one (takeB_some o r R Lb x wr hbx.two))
               have HE := Lib.hid (And.intro hbx (And.intro hg (And.intro hE.fst (And.intro hE.snd (And.intro hE.d12 (And.intro hE.d31 hE.d32))))))
               have HG := Lib.hid (And.intro hgt hgn)
               have HD := Lib.hid (show one.drop (i + 1) = [] ∧ two.drop (i + 1 - one.length) = Lb from ⟨hd2, by rw [show i + 1 - one.length = i - one.length + 1 by omega]; exact hx1⟩)
               clear hE hg hgl hx hx1 hx2 hgt hgn hbx hd1 hd2
               go_wp2_with (first
                 | (go_at_call 23; (with_reducible refine PT.out.mono ?_); rintro e wy ⟨rfl, h1, k1⟩; have Y := Lib.hid (And.intro (HE.out.1.snd k1 h1) (And.intro (HE.out.2.1.chan2 HE.out.1 k1) (And.intro (HE.out.2.2.1.chan2 HE.out.1 k1) (HE.out.2.2.2.1.chan2 HE.out.1 k1)))); clear h1 k1)
                 | (at_builtin; refine wp_append _ rfl _ _ 35 rfl 3 i0 (.int .i64 0) 1 8 Tryd.underlying35 HZ0.out.1 HZ0.out.2.1 HZ0.out.2.2.1 HZ0.out.2.2.2 rfl (by decide) (.slice A7 gl.length c7) gl.length _ rfl (Y.out.2.1.own.alloc _) (some ⟨wy.heap.size, 0, none⟩) wy.heap.size 1 1 [.int .i64 x] (by simp [Act.eval]) (reads_one wy 3 (.int .i64 x)) (by intro u hu; simp at hu; subst hu; rfl) (by have := HG.out.2; omega) (by have := HG.out.2; unfold maxLen; omega) ?_; intro A5 c5 w5 o5 k5 h5; have O5 := Lib.hid (And.intro o5 (And.intro k5 h5)); clear o5 k5 h5))
               go_roundw
               case rel => exact ⟨i + 1, by go_num, by omega, by omega, ordE3.next Y.out.1 Y.out.2.1 Y.out.2.2.1 Y.out.2.2.2 HE.out.2.2.2.2.1 HE.out.2.2.2.2.2.1 HE.out.2.2.2.2.2.2 HD.out.1 HD.out.2 HG.out.1 O5.out.1 O5.out.2.1 O5.out.2.2⟩
               case measure => simp [intOf]; omega
           · obtain rfl : i = one.length + two.length := by omega
             have hi1 : ¬ ((one.length + two.length : Nat) : Int) < (one.length : Int) + (two.length : Int) := by omega
             have hga : gl = one ++ two := by rw [hgl]; exact List.take_of_length_le (by simp)
             have hbx := hE.box
             rw [List.drop_of_length_le (by omega), List.drop_of_length_le (by omega)] at hbx
             have PT := Lib.hid (firstB_none b q R (.pointer (some ⟨o, 0, none⟩)) wr (.int .i64 0) false (fun w' => wr = w') hbx.one (takeB_none o r R wr hbx.two))
             have HE := Lib.hid (And.intro hbx (And.intro hg (And.intro hE.fst (And.intro hE.snd (And.intro hE.d12 (And.intro hE.d31 (And.intro hE.d32 hga)))))))
             clear hE hg hgl hbx hlt hga
             go_upto_region 35 with (go_at_call 23; (with_reducible refine PT.out.mono ?_); rintro e w' ⟨rfl, rfl⟩)
             obtain ⟨Ah, ch, gs, eh, _, _, _, hrd, _⟩ := HE.out.2.2.2.1.own.held (by have := HB.out.2.1; omega)
             injection eh with eh1 eh2 eh3
             subst eh1 eh3
             have HRD := Lib.hid hrd
             clear hrd
             go_wp2_with (first
               | (at_builtin; refine wp_append_gd _ (.tmp 167) (.tmp 168) 35 rfl 3 i0 (.int .i64 0) 1 8 Tryd.underlying35 HZ0.out.1 HZ0.out.2.1 HZ0.out.2.2.1 HZ0.out.2.2.2 rfl (by decide) (.slice A9 one.length c9) one.length _ rfl HE.out.2.2.1.own A8 gs two.length c8 _ rfl HRD.out (by intro u hu; simp at hu; obtain ⟨z, _, rfl⟩ := hu; rfl) (by have := HB.out.1; have := HB.out.2.1; omega) (by have := HB.out.1; have := HB.out.2.1; unfold maxLen; omega) rfl ?_; intro A5 c5 w5 o5 k5 h5; have Z5 := Lib.hid (ordEnd HE.out.1 HE.out.2.2.1 HE.out.2.1 HE.out.2.2.2.2.2.1 o5 k5); clear o5 k5 h5)
               | (go_at_call 14; refine (eqInts_any _ _ _ _ gl (one ++ two) _ (Z5.out.2.1.held (by rw [HE.out.2.2.2.2.2.2.2]; have := HB.out.1; have := HB.out.2.1; simp; omega)) (Z5.out.2.2.held (by have := HB.out.1; have := HB.out.2.1; simp; omega))).mono ?_; rintro e w6 ⟨rfl, k6⟩; rw [show decide (gl = one ++ two) = true by simp [HE.out.2.2.2.2.2.2.2]]; have Z6 := Lib.hid (And.intro (Z5.out.1.over k6) k6); have PL := Lib.hid (lenB b q R [] w6 (Z5.out.1.over k6).one); have PM := Lib.hid (lenB o r R [] w6 (Z5.out.1.over k6).two); have PW := Lib.hid (works_any w6 (HFL.out.keep (Z5.out.1.over k6).kept (by simp))); clear k6)
               | (go_at_call 24; (with_reducible refine PL.out.mono ?_); rintro e w' ⟨rfl, rfl⟩)
               | (go_at_call 24; (with_reducible refine PM.out.mono ?_); rintro e w' ⟨rfl, rfl⟩)
               | (go_at_call 19; (with_reducible refine PW.out.mono ?_); rintro e wz ⟨rfl, kz⟩; have KZ := Lib.hid kz; clear kz))
             go_ret
             exact ⟨rfl, Z6.out.1.kept.then KZ.out (by simp)⟩
end Go.Proofs.YtcnlnkkdcofphaaDoor
