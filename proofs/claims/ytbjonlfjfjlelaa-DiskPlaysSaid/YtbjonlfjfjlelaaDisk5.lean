/-
  DISK, 5: die, failing, Sync, Cut, Crash.
-/
import Derived.Test.YtbjonlfjfjlelaaDisk4
import Derived.StillTailTactics
import Derived.BigRegion
namespace Go.Proofs.Ytbjonlfjfjlelaa
open Go.RowKit
set_option linter.unusedVariables false

def DS.die (d : DS) (k : Nat) : DS := { d with b := d.b.take (d.n + min k (d.b.length - d.n)), n := d.n + min k (d.b.length - d.n), dead := true }

theorem owns.cut {w : World} {A : Option Addr} {n c m : Nat} {l : List UInt8} (h : owns w 5 1 (.slice A n c) n (l.map bv)) (hl : l.length = n) (hm : m ≤ n) :
    owns w 5 1 (.slice A m c) m ((l.take m).map bv) := by
  subst hl
  refine ⟨by simp; omega, ?_⟩
  rcases h.2 with ⟨hv, h0⟩ | ⟨g, cap, cur, hv, hr, h1, h2, h3, h4⟩
  · injection hv with e1 e2 e3
    subst e1 e3
    obtain rfl : m = 0 := by omega
    exact .inl ⟨rfl, rfl⟩
  · injection hv with e1 e2 e3
    subst e1 e3
    refine .inr ⟨g, c, cur, rfl, hr, by omega, h2, h3, ?_⟩
    rw [List.map_take, ← h4, List.take_take]
    congr 1
    omega
theorem homes_cut (A : Option Addr) (n c m d : Nat) : homes (.slice A n c) = homes (.slice A m d) := by
  cases A with
  | none => rfl
  | some a => unfold homes Value.ownBlock; rfl

theorem isD.drew {w : World} {p : Nat} {F : List Nat} {d : DS} (h : isD w p F d) : isD w.drew p F d := h.keep ((keepBut.refl [] w).drew) (by simp)
theorem DS.die_len (d : DS) (k : Nat) (h : d.n ≤ d.b.length) : (d.die k).b.length = d.n + min k (d.b.length - d.n) := by
  simp [DS.die]; omega
theorem die_end (p : Nat) (F : List Nat) (d : DS) (k : Nat) (w : World) (A : Option Addr) (c : Nat) (vs vt : Value) (x : Nat) (T : List (Nat × List UInt8))
    (h1 : rowAt w p 44 #[Value.slice A d.b.length c, Value.int IntKind.i64 ↑d.n, Value.bool d.dead, vs, vt]) (h2 : owns w 5 1 (Value.slice A d.b.length c) d.b.length (List.map bv d.b))
    (h3 : d.n ≤ d.b.length) (h4 : d.b.length ≤ 1048576) (h5 : syncAt w vs x d.arm) (h6 : owns w 28 1 vt T.length (T.map tv)) (h7 : T.map (·.2) = d.t)
    (h8 : ∀ y ∈ T, rowAt w y.1 5 (y.2.map bv).toArray ∧ y.1 ∈ F ∧ y.1 ∉ homes (.slice A d.b.length c)) (h9 : p ∈ F) (h10 : x ∈ F) (h11 : ∀ y ∈ homes (.slice A d.b.length c), y ∈ F) (h12 : ∀ y ∈ homes vt, y ∈ F) (h13 : ∀ y ∈ F, y < w.heap.size)
    (m : Nat) (I : Int) (hI : I = (m : Int)) (hm : m = d.n + min k (d.b.length - d.n)) :
    isD (((w.setCell ⟨p, 0, none⟩ (.slice A m c)).setCell ⟨p, 1, none⟩ (.int .i64 I)).setCell ⟨p, 2, none⟩ (.bool true)).drew p F (d.die k) ∧
    keepBut F w (((w.setCell ⟨p, 0, none⟩ (.slice A m c)).setCell ⟨p, 1, none⟩ (.int .i64 I)).setCell ⟨p, 2, none⟩ (.bool true)).drew ∧ ∀ y ∈ F, y ∈ F ∨ w.heap.size ≤ y := by
  subst hI
  have hk := (((keepBut.refl [p] w).setCell ⟨p, 0, none⟩ (.slice A m c) (by simp)).setCell ⟨p, 1, none⟩ (.int .i64 (m : Int)) (by simp)).setCell ⟨p, 2, none⟩ (.bool true) (by simp)
  have hL := d.die_len k h3
  refine ⟨isD.drew ?_, (hk.more (by simpa using h9)).drew, fun y hy => .inl hy⟩
  have e1 : m = (d.die k).b.length := by rw [hL, hm]
  have e2 : (d.die k).n = m := hm.symm
  refine isD.poke (x' := x) (vs' := vs) (vb' := .slice A m c) h1 h6 h7 h8 h9 h11 h12 h13 hk ?_ ?_ (fun y hy => by rw [homes_cut A m c d.b.length c] at hy; exact hy) (by omega) (by omega) (h5.poke hk h1) h10
  · have := ((h1.set 0 (.slice A m c)).set 1 (.int .i64 (m : Int))).set 2 (.bool true)
    rw [e2]
    show rowAt _ p _ #[_, _, .bool true, _, _]
    simpa using this
  · have := (owns.cut h2 rfl (show m ≤ d.b.length by omega)).poke hk h1 (by decide)
    rw [← e1]
    have e3 : (d.die k).b = d.b.take m := by rw [hm]; rfl
    rw [e3]
    exact this

set_option maxHeartbeats 1000000 in
theorem die_any (p : Nat) (F : List Nat) (d : DS) (k : Nat) (w : World) (h : isD w p F d) (hk0 : k ≤ 9223372036854775807) :
    Calls Try.prog 62 #[.pointer (some ⟨p, 0, none⟩), .int .i64 (k : Int)] w fun e w' => e = .returned (.tuple #[]) ∧ ∃ F', isD w' p F' (d.die k) ∧ keepBut F w w' ∧ ∀ y ∈ F', y ∈ F ∨ w.heap.size ≤ y := by
  obtain ⟨vb, vs, vt, x, T, h1, h2, h3, h4, h5, h6, h7, h8, h9, h10, h11, h12, h13⟩ := id h
  obtain ⟨A, c, g, rfl, hcc, hcm, _, _⟩ := h2.seen
  have hc0 : w.cell? ⟨p, 0, none⟩ = some (.slice A d.b.length c) := h1.cell 0
  have hc1 : w.cell? ⟨p, 1, none⟩ = some (.int .i64 (d.n : Int)) := h1.cell 1
  have hc2 : w.cell? ⟨p, 2, none⟩ = some (.bool d.dead) := h1.cell 2
  have hf0 := h1.free 0
  have hf1 := h1.free 1
  have hf2 := h1.free 2
  have E := fun m I e1 e2 => die_end p F d k w A c vs vt x T h1 h2 h3 h4 h5 h6 h7 h8 h9 h10 h11 h12 h13 m I e1 e2
  have HE := Lib.hid E
  clear E h1 h2 h5 h6 h7 h8 h9 h10 h11 h12 h13 h
  unfold maxLen at hcm
  go_enter Try.func62, Try.ntmps62
  go_wp2
  go_region
  go_wp2
  all_goals
    go_end0
    refine ⟨rfl, F, ?_⟩
    exact HE.out _ _ (by omega) (by omega)

set_option maxHeartbeats 400000 in
theorem failing1_any (p : Nat) (F : List Nat) (d : DS) (k x : Nat) (w : World) (h : isD w p F d) (hr : rowAt w x 3 #[.int .i64 (k : Int)]) (hk0 : k ≤ 9223372036854775807) :
    Calls Try.prog 81 #[.pointer (some ⟨p, 0, none⟩), .pointer (some ⟨x, 0, none⟩)] w (dPost p F (d.die k) 130 w) := by
  have hx : w.cell? ⟨x, 0, none⟩ = some (.int .i64 (k : Int)) := hr.cell 0
  clear hr
  go_enter Try.func81, Try.ntmps81
  go_wp2_with (go_at_call 62; refine (die_any _ _ _ _ _ h hk0).mono ?_; rintro e w1 ⟨rfl, F', h1, h2, h3⟩)
  go_ret
  exact ⟨rfl, F', h1, h2, h3⟩

def DS.sync (d : DS) : Int × DS :=
  if d.dead then (130, d) else match d.arm with
    | none => (0, d.last)
    | some k => (130, d.die k)

set_option maxHeartbeats 400000 in
theorem sync_any (p : Nat) (F : List Nat) (d : DS) (w : World) (h : isD w p F d) :
    Calls Try.prog 25 #[.pointer (some ⟨p, 0, none⟩)] w (dPost p F d.sync.2 d.sync.1 w) := by
  cases hd : d.dead with
  | true =>
    have HR := Lib.hid (show d.ready = 130 by simp [DS.ready, hd])
    have HA := Lib.hid (show d.sync = (130, d) by simp [DS.sync, hd])
    clear hd
    go_enter Try.func25, Try.ntmps25
    go_wp2_with (go_at_call 58; refine (ready_any _ _ _ _ h).mono ?_; rintro e w' ⟨rfl, rfl⟩; rw [HR.out])
    go_ret
    rw [HA.out]; exact dPost.same h
  | false =>
    have HR := Lib.hid (show d.ready = 0 by simp [DS.ready, hd])
    obtain ⟨vb, vs, vt, x, T, h1, h2, h3, h4, h5, h6, h7, h8, h9, h10, h11, h12, h13⟩ := id h
    have hc3 : w.cell? ⟨p, 3, none⟩ = some vs := h1.cell 3
    cases ha : d.arm with
    | none =>
      have HA := Lib.hid (show d.sync = (0, d.last) by simp [DS.sync, hd, ha])
      rw [ha] at h5
      obtain rfl := h5
      clear h1 h2 h3 h4 h6 h7 h8 h9 h10 h11 h12 h13 hd ha
      go_enter Try.func25, Try.ntmps25
      go_wp2_with (first | (go_at_call 58; refine (ready_any _ _ _ _ h).mono ?_; rintro e w' ⟨rfl, rfl⟩; rw [HR.out]) | (go_at_call 48; refine (lasting_any _ _ _ _ h).mono ?_; rintro e w1 ⟨rfl, hq⟩))
      go_ret
      rw [HA.out]
      exact ⟨rfl, hq⟩
    | some k =>
      have HA := Lib.hid (show d.sync = (130, d.die k) by simp [DS.sync, hd, ha])
      rw [ha] at h5
      obtain ⟨rfl, hr, hk⟩ := h5
      have HR5 := Lib.hid hr
      clear h1 h2 h3 h4 h6 h7 h8 h9 h10 h11 h12 h13 hd ha hr
      go_enter Try.func25, Try.ntmps25
      go_wp2_with (first | (go_at_call 58; refine (ready_any _ _ _ _ h).mono ?_; rintro e w' ⟨rfl, rfl⟩; rw [HR.out]) | (go_at_call 81; refine (failing1_any _ _ _ _ _ _ h HR5.out hk).mono ?_; rintro e w1 ⟨rfl, hq⟩))
      go_ret
      rw [HA.out]
      exact ⟨rfl, hq⟩

def DS.crash (d : DS) (k : Int) : Int × DS := if k < 0 then (2, d) else (0, d.die k.toNat)
set_option maxHeartbeats 400000 in
theorem crash_any (p : Nat) (F : List Nat) (d : DS) (k : Int) (w : World) (h : isD w p F d) (hk0 : k ≤ 9223372036854775807) :
    Calls Try.prog 22 #[.pointer (some ⟨p, 0, none⟩), .int .i64 k] w (dPost p F (d.crash k).2 (d.crash k).1 w) := by
  by_cases hneg : k < 0
  · have HA := Lib.hid (show d.crash k = (2, d) by simp [DS.crash, hneg])
    go_enter Try.func22, Try.ntmps22
    go_wp2_with (go_at_call 60; refine (none_any _ _ _ _ h).mono ?_; rintro e w' ⟨rfl, rfl⟩)
    go_ret
    rw [HA.out]; exact dPost.same h
  · obtain ⟨m, rfl⟩ := Int.eq_ofNat_of_zero_le (by omega : 0 ≤ k)
    have HA := Lib.hid (show d.crash (m : Int) = (0, d.die m) by simp [DS.crash])
    go_enter Try.func22, Try.ntmps22
    go_wp2_with (first | (go_at_call 60; refine (none_any _ _ _ _ h).mono ?_; rintro e w' ⟨rfl, rfl⟩) | (go_at_call 62; refine (die_any _ _ _ _ _ h (by omega)).mono ?_; rintro e w1 ⟨rfl, hq⟩))
    go_ret
    rw [HA.out]
    exact ⟨rfl, hq⟩
end Go.Proofs.Ytbjonlfjfjlelaa
