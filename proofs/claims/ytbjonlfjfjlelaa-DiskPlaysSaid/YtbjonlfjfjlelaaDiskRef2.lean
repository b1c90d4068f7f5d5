/-
  DISK: the document's own disk: what fails, Sync, Cut, Arm, Crash, Revive.
-/
import Derived.Test.YtbjonlfjfjlelaaDiskRef
namespace Go.Proofs.Ytbjonlfjfjlelaa
open Go.RowKit
set_option linter.unusedVariables false
set_option maxRecDepth 100000

theorem isR.set {w : World} {q : Nat} {F : List Nat} {d d' : DS} (h : isR w q F d) (i : Nat) (u : Value)
    (hrow : ∀ vb vt : Value, (#[vb, .int .i64 (d.n : Int), .bool d.dead, .int .i64 (armI d.arm), vt] : Array Value).setIfInBounds i u = #[vb, .int .i64 (d'.n : Int), .bool d'.dead, .int .i64 (armI d'.arm), vt])
    (hb : d'.b = d.b) (ht : d'.t = d.t) (hn : d'.n ≤ d'.b.length) (ha : ∀ k, d'.arm = some k → k ≤ 9223372036854775807) : isR (w.setCell ⟨q, i, none⟩ u) q F d' ∧ keepBut F w (w.setCell ⟨q, i, none⟩ u) := by
  obtain ⟨vb, vt, T, h⟩ := h
  have hr := h.row.set i u
  rw [hrow] at hr
  exact ⟨⟨vb, vt, T, h.poke ((keepBut.refl [q] w).setCell _ _ (by simp)) hr hb ht hn ha⟩, (keepBut.refl F w).setCell _ _ (.inl h.qF)⟩
theorem isR.cells {w : World} {q : Nat} {F : List Nat} {d : DS} (h : isR w q F d) : w.cell? ⟨q, 1, none⟩ = some (.int .i64 (d.n : Int)) ∧ w.cell? ⟨q, 2, none⟩ = some (.bool d.dead) ∧ w.cell? ⟨q, 3, none⟩ = some (.int .i64 (armI d.arm)) ∧ ∀ o, w.frozen? ⟨q, o, none⟩ = false := by
  obtain ⟨vb, vt, T, h⟩ := h
  exact ⟨h.row.cell 1, h.row.cell 2, h.row.cell 3, fun o => h.row.free o⟩
theorem isR.bytes {w : World} {q : Nat} {F : List Nat} {d : DS} (h : isR w q F d) : ∃ A c g, w.cell? ⟨q, 0, none⟩ = some (.slice A d.b.length c) ∧ d.b.length ≤ c ∧ c ≤ maxLen ∧ seen w A g d.b ∧ (d.b ≠ [] → g ∈ F) ∧ d.n ≤ d.b.length ∧ d.b.length ≤ 1048576 := by
  obtain ⟨vb, vt, T, h⟩ := h
  obtain ⟨A, c, g, rfl, h1, h2, h3, h4⟩ := h.own.seen
  exact ⟨A, c, g, h.row.cell 0, h1, h2, h3, fun hne => h.bF g (h4 hne), h.nb, h.len⟩
theorem isR.armk {w : World} {q : Nat} {F : List Nat} {d : DS} (h : isR w q F d) : ∀ k, d.arm = some k → k ≤ 9223372036854775807 := by
  obtain ⟨vb, vt, T, h⟩ := h
  exact h.arm
theorem rPost.after {q : Nat} {F F1 : List Nat} {d2 : DS} {v : Value} {w w1 w2 : World} {e : Ending} (hk : keepBut F w w1) (hF : ∀ y ∈ F1, y ∈ F ∨ w.heap.size ≤ y) (h : rPost q F1 d2 v w1 e w2) : rPost q F d2 v w e w2 := by
  obtain ⟨he, F2, a, b, c⟩ := h
  refine ⟨he, F2, a, hk.then b hF, fun y hy => ?_⟩
  rcases c y hy with q1 | q1
  · exact hF y q1
  · exact .inr (Nat.le_trans hk.size q1)

set_option maxHeartbeats 1000000 in
theorem failsR_no (q : Nat) (F : List Nat) (d : DS) (w : World) (h : isR w q F d) (ha : d.arm = none) :
    Calls Try.prog 79 #[.pointer (some ⟨q, 0, none⟩)] w fun e w' => e = .returned (.bool false) ∧ w = w' := by
  have c3 := h.cells.2.2.1
  rw [ha] at c3
  unfold armI at c3
  clear h
  go_enter Try.func79, Try.ntmps79
  go_wp2_with fail
  go_ret
  exact ⟨rfl, rfl⟩
set_option maxHeartbeats 1000000 in
theorem failsR_yes (q : Nat) (F : List Nat) (d : DS) (k : Nat) (w : World) (h : isR w q F d) (ha : d.arm = some k) :
    Calls Try.prog 79 #[.pointer (some ⟨q, 0, none⟩)] w (rPost q F (d.die k) (.bool true) w) := by
  have c3 := h.cells.2.2.1
  rw [ha] at c3
  have c3' : w.cell? ⟨q, 3, none⟩ = some (.int .i64 (k : Int)) := c3
  have hk := h.armk k ha
  have H := Lib.hid h
  clear h c3 ha
  go_enter Try.func79, Try.ntmps79
  go_wp2_with fail
  refine (tailR_any q F d k _ H.out hk).mono ?_; rintro e w1 ⟨rfl, F1, h1, k1, f1⟩
  have c2 := h1.cells.2.1
  have f2 := h1.cells.2.2.2 2
  have h2 := h1.set (d' := d.die k) 2 (.bool true) (fun _ _ => rfl) rfl rfl (by obtain ⟨_, _, _, h⟩ := h1; exact h.nb) (fun j hj => h1.armk j hj)
  have H2 := Lib.hid (And.intro h2.1 (And.intro h2.2 (And.intro k1 f1)))
  clear h1 h2 k1 f1
  go_wp2_with fail
  go_ret
  exact ⟨rfl, F1, H2.out.1, H2.out.2.2.1.then H2.out.2.1 (fun y hy => H2.out.2.2.2 y hy), H2.out.2.2.2⟩

set_option maxHeartbeats 1000000 in
theorem syncR_any (q : Nat) (F : List Nat) (d : DS) (w : World) (h : isR w q F d) :
    Calls Try.prog 50 #[.pointer (some ⟨q, 0, none⟩)] w (rPost q F d.sync.2 (.int .i64 d.sync.1) w) := by
  have c2 := h.cells.2.1
  cases hd : d.dead with
  | true =>
    rw [hd] at c2
    have HE := Lib.hid (show d.sync = (130, d) by simp [DS.sync, hd])
    have H := Lib.hid h
    clear h hd
    go_enter Try.func50, Try.ntmps50
    go_wp2_with fail
    go_ret
    rw [HE.out]
    exact rPost.same H.out (keepBut.refl _ _)
  | false =>
    rw [hd] at c2
    cases ha : d.arm with
    | none =>
      have HE := Lib.hid (show d.sync = (0, d.last) by simp [DS.sync, hd, ha])
      obtain ⟨A, c, g, c0, _, _, _, _, hnb, hlen⟩ := h.bytes
      have c1 := h.cells.1
      have f1 := h.cells.2.2.2 1
      have h2 := h.set (d' := d.last) 1 (.int .i64 (d.b.length : Int)) (fun _ _ => rfl) rfl rfl (Nat.le_refl _) (fun j hj => h.armk j hj)
      have H2 := Lib.hid h2
      have HA := Lib.hid ha
      have H := Lib.hid h
      clear h h2 hd ha
      go_enter Try.func50, Try.ntmps50
      go_wp2_with (go_at_call 79; refine (failsR_no q F d _ H.out HA.out).mono ?_; rintro e w' ⟨rfl, rfl⟩)
      go_ret
      rw [HE.out]
      exact ⟨rfl, F, H2.out.1, H2.out.2, fun y hy => .inl hy⟩
    | some k =>
      have HE := Lib.hid (show d.sync = (130, d.die k) by simp [DS.sync, hd, ha])
      have HA := Lib.hid ha
      have H := Lib.hid h
      clear h hd ha
      go_enter Try.func50, Try.ntmps50
      go_wp2_with (go_at_call 79; refine (failsR_yes q F d k _ H.out HA.out).mono ?_; rintro e w' ⟨rfl, hq⟩)
      go_ret
      rw [HE.out]
      exact ⟨rfl, hq⟩

set_option maxHeartbeats 1000000 in
theorem armR_any (q : Nat) (F : List Nat) (d : DS) (k : Int) (w : World) (h : isR w q F d) (hk0 : k ≤ 9223372036854775807) :
    Calls Try.prog 53 #[.pointer (some ⟨q, 0, none⟩), .int .i64 k] w (rPost q F (d.armed k).2 (.int .i64 (d.armed k).1) w) := by
  have c2 := h.cells.2.1
  cases hd : d.dead with
  | true =>
    rw [hd] at c2
    have HE := Lib.hid (show d.armed k = (130, d) by simp [DS.armed, hd])
    have H := Lib.hid h
    clear h hd
    go_enter Try.func53, Try.ntmps53
    go_wp2_with fail
    go_ret
    rw [HE.out]
    exact rPost.same H.out (keepBut.refl _ _)
  | false =>
    rw [hd] at c2
    by_cases hneg : k < 0
    · have HE := Lib.hid (show d.armed k = (2, d) by simp [DS.armed, hd, hneg])
      have H := Lib.hid h
      clear h hd
      go_enter Try.func53, Try.ntmps53
      go_wp2_with fail
      go_ret
      rw [HE.out]
      exact rPost.same H.out (keepBut.refl _ _)
    · have HE := Lib.hid (show d.armed k = (0, { d with arm := some k.toNat }) by simp [DS.armed, hd, hneg])
      have c3 := h.cells.2.2.1
      have f3 := h.cells.2.2.2 3
      have h2 := h.set (d' := { d with arm := some k.toNat }) 3 (.int .i64 k) (fun _ _ => by show #[_, _, _, Value.int .i64 k, _] = _; rw [show k = ((k.toNat : Nat) : Int) by omega]; rfl) rfl rfl (by obtain ⟨_, _, _, h⟩ := h; exact h.nb) (fun j hj => by injection hj with hj; omega)
      have H2 := Lib.hid h2
      clear h h2 hd
      go_enter Try.func53, Try.ntmps53
      go_wp2_with fail
      go_ret
      rw [HE.out]
      exact ⟨rfl, F, H2.out.1, H2.out.2, fun y hy => .inl hy⟩
set_option maxHeartbeats 1000000 in
theorem reviveR_any (q : Nat) (F : List Nat) (d : DS) (w : World) (h : isR w q F d) :
    Calls Try.prog 55 #[.pointer (some ⟨q, 0, none⟩)] w (rPost q F d.revive (.int .i64 0) w) := by
  have c2 := h.cells.2.1
  have c3 := h.cells.2.2.1
  have f2 := h.cells.2.2.2 2
  have f3 := h.cells.2.2.2 3
  have h1 := h.set (d' := { d with dead := false }) 2 (.bool false) (fun _ _ => rfl) rfl rfl (by obtain ⟨_, _, _, h⟩ := h; exact h.nb) (fun j hj => h.armk j hj)
  have h2 := h1.1.set (d' := d.revive) 3 (.int .i64 (-1)) (fun _ _ => rfl) rfl rfl (by obtain ⟨_, _, _, h⟩ := h; exact h.nb) (fun j hj => by cases hj)
  have H2 := Lib.hid (And.intro h2.1 (h1.2.then h2.2 (fun y hy => .inl hy)))
  clear h h1 h2
  go_enter Try.func55, Try.ntmps55
  go_wp2_with fail
  go_ret
  exact ⟨rfl, F, H2.out.1, H2.out.2, fun y hy => .inl hy⟩

/-- a dead disk has lost its tail -/
def DS.flat (d : DS) : Prop := d.dead = true → d.n = d.b.length
theorem DS.die_flat {d : DS} (h : d.flat) (hd : d.dead = true) (k : Nat) : d.die k = d := by
  have hn := h hd
  unfold DS.die
  rw [hn]
  simp
  rw [← hd, ← hn]
set_option maxHeartbeats 1000000 in
theorem crashR_any (q : Nat) (F : List Nat) (d : DS) (k : Int) (w : World) (h : isR w q F d) (hk0 : k ≤ 9223372036854775807) (hfl : d.flat) :
    Calls Try.prog 54 #[.pointer (some ⟨q, 0, none⟩), .int .i64 k] w (rPost q F (d.crash k).2 (.int .i64 (d.crash k).1) w) := by
  have c2 := h.cells.2.1
  by_cases hneg : k < 0
  · have HE := Lib.hid (show d.crash k = (2, d) by simp [DS.crash, hneg])
    have H := Lib.hid h
    clear h
    go_enter Try.func54, Try.ntmps54
    go_wp2_with fail
    go_ret
    rw [HE.out]
    exact rPost.same H.out (keepBut.refl _ _)
  · obtain ⟨m, hm⟩ : ∃ m : Nat, k = (m : Int) := ⟨k.toNat, by omega⟩
    subst hm
    cases hd : d.dead with
    | true =>
      rw [hd] at c2
      have HE := Lib.hid (show d.crash (m : Int) = (0, d) by unfold DS.crash; rw [if_neg hneg, DS.die_flat hfl hd])
      have f2 := h.cells.2.2.2 2
      have h2 := h.set (d' := d) 2 (.bool true) (fun _ _ => by rw [hd]; rfl) rfl rfl (by obtain ⟨_, _, _, h⟩ := h; exact h.nb) (fun j hj => h.armk j hj)
      have H2 := Lib.hid h2
      clear h h2 hd hfl
      go_enter Try.func54, Try.ntmps54
      go_wp2_with fail
      go_ret
      rw [HE.out]
      exact ⟨rfl, F, H2.out.1, H2.out.2, fun y hy => .inl hy⟩
    | false =>
      rw [hd] at c2
      have HE := Lib.hid (show d.crash (m : Int) = (0, d.die m) by unfold DS.crash; rw [if_neg hneg]; rfl)
      have H := Lib.hid h
      have hmb : m ≤ 9223372036854775807 := by omega
      clear h hd hfl
      go_enter Try.func54, Try.ntmps54
      go_wp2_with fail
      refine (tailR_any q F d m _ H.out hmb).mono ?_; rintro e w1 ⟨rfl, F1, h1, k1, f1⟩
      have c2' := h1.cells.2.1
      have f2 := h1.cells.2.2.2 2
      have h2 := h1.set (d' := d.die m) 2 (.bool true) (fun _ _ => rfl) rfl rfl (by obtain ⟨_, _, _, h⟩ := h1; exact h.nb) (fun j hj => h1.armk j hj)
      have H2 := Lib.hid (And.intro h2.1 (And.intro h2.2 (And.intro k1 f1)))
      clear h1 h2 k1 f1
      go_wp2_with fail
      go_ret
      rw [HE.out]
      exact ⟨rfl, F1, H2.out.1, H2.out.2.2.1.then H2.out.2.1 (fun y hy => H2.out.2.2.2 y hy), H2.out.2.2.2⟩
end Go.Proofs.Ytbjonlfjfjlelaa
