/-
  DISK, 4: lasting, Revive, Arm.
-/
import Derived.Test.YtbjonlfjfjlelaaDisk3
namespace Go.Proofs.Ytbjonlfjfjlelaa
open Go.RowKit
set_option linter.unusedVariables false

/-- the disk's own block is written; the rest stays -/
theorem isD.poke {w w' : World} {p x' : Nat} {F : List Nat} {d' : DS} {vb vb' vs vs' vt : Value} {n : Int} {q : Bool} {T : List (Nat × List UInt8)}
    (h1 : rowAt w p 44 #[vb, .int .i64 n, .bool q, vs, vt]) (h6 : owns w 28 1 vt T.length (T.map tv)) (h7 : T.map (·.2) = d'.t)
    (h8 : ∀ y ∈ T, rowAt w y.1 5 (y.2.map bv).toArray ∧ y.1 ∈ F ∧ y.1 ∉ homes vb) (h9 : p ∈ F) (h11 : ∀ y ∈ homes vb, y ∈ F) (h12 : ∀ y ∈ homes vt, y ∈ F) (h13 : ∀ y ∈ F, y < w.heap.size)
    (hk : keepBut [p] w w') (hr : rowAt w' p 44 #[vb', .int .i64 (d'.n : Int), .bool d'.dead, vs', vt]) (hb : owns w' 5 1 vb' d'.b.length (d'.b.map bv)) (hh : ∀ y ∈ homes vb', y ∈ homes vb)
    (hn : d'.n ≤ d'.b.length) (hl : d'.b.length ≤ 1048576) (hs : syncAt w' vs' x' d'.arm) (hx : x' ∈ F) : isD w' p F d' := by
  refine ⟨vb', vs', vt, x', T, hr, hb, hn, hl, hs, h6.keep hk (fun y hy hm => ?_), h7, fun y hy => ⟨hk.row (h8 y hy).1 (fun hm => ?_), (h8 y hy).2.1, fun hm => (h8 y hy).2.2 (hh _ hm)⟩, h9, hx, fun y hy => h11 y (hh y hy), h12, fun y hy => Nat.lt_of_lt_of_le (h13 y hy) hk.size⟩
  · exact h6.apart h1 (by decide) (by simpa using (List.mem_singleton.1 hm) ▸ hy)
  · exact ((h8 y hy).1.apart h1 (by decide)) (List.mem_singleton.1 hm)
theorem owns.poke {w w' : World} {p sz n : Nat} {e : TypeId} {v : Value} {xs : List Value} {cs : Array Value} (h : owns w e sz v n xs) (hk : keepBut [p] w w') (h1 : rowAt w p 44 cs) (hne : 44 ≠ e) : owns w' e sz v n xs :=
  h.keep hk (fun y hy hm => h.apart h1 hne (List.mem_singleton.1 hm ▸ hy))
theorem syncAt.poke {w w' : World} {p x : Nat} {v : Value} {k : Option Nat} {cs : Array Value} (h : syncAt w v x k) (hk : keepBut [p] w w') (h1 : rowAt w p 44 cs) : syncAt w' v x k := by
  cases k with
  | none => exact h
  | some k => exact ⟨h.1, hk.row h.2.1 (fun hm => (h.2.1.apart h1 (by decide)) (List.mem_singleton.1 hm)), h.2.2⟩

def DS.last (d : DS) : DS := { d with n := d.b.length }
def DS.revive (d : DS) : DS := { d with dead := false, arm := none }

set_option maxHeartbeats 400000 in
theorem lasting_any (p : Nat) (F : List Nat) (d : DS) (w : World) (h : isD w p F d) :
    Calls Try.prog 48 #[.pointer (some ⟨p, 0, none⟩)] w (dPost p F d.last 0 w) := by
  obtain ⟨vb, vs, vt, x, T, h1, h2, h3, h4, h5, h6, h7, h8, h9, h10, h11, h12, h13⟩ := id h
  obtain ⟨A, c, g, rfl, _, _, _, _⟩ := h2.seen
  have hc0 : w.cell? ⟨p, 0, none⟩ = some (.slice A d.b.length c) := h1.cell 0
  have hc1 : w.cell? ⟨p, 1, none⟩ = some (.int .i64 (d.n : Int)) := h1.cell 1
  have hf1 := h1.free 1
  have hk := (keepBut.refl [p] w).setCell ⟨p, 1, none⟩ (.int .i64 (d.b.length : Int)) (by simp)
  have H : Hid (isD (w.setCell ⟨p, 1, none⟩ (.int .i64 (d.b.length : Int))) p F d.last) :=
    isD.poke h1 h6 h7 h8 h9 h11 h12 h13 hk (h1.set 1 _) (h2.poke hk h1 (by decide)) (fun _ h => h) (Nat.le_refl _) h4 (h5.poke hk h1) h10
  have HK := Lib.hid hk
  clear h h1 h2 h3 h4 h5 h6 h7 h8 h10 h11 h12 h13 hk
  go_enter Try.func48, Try.ntmps48
  go_wp2
  go_ret
  exact ⟨rfl, F, H.out, HK.out.more (by simpa using h9), fun y hy => .inl hy⟩

theorem dPost.same {p : Nat} {F : List Nat} {d : DS} {r : Int} {w : World} (h : isD w p F d) : dPost p F d r w (.returned (.int .i64 r)) w :=
  ⟨rfl, F, h, keepBut.refl _ _, fun y hy => .inl hy⟩

set_option maxHeartbeats 400000 in
theorem revive_any (p : Nat) (F : List Nat) (d : DS) (w : World) (h : isD w p F d) :
    Calls Try.prog 26 #[.pointer (some ⟨p, 0, none⟩)] w (dPost p F d.revive 0 w) := by
  obtain ⟨vb, vs, vt, x, T, h1, h2, h3, h4, h5, h6, h7, h8, h9, h10, h11, h12, h13⟩ := id h
  have hc2 : w.cell? ⟨p, 2, none⟩ = some (.bool d.dead) := h1.cell 2
  have hc3 : w.cell? ⟨p, 3, none⟩ = some vs := h1.cell 3
  have hf2 := h1.free 2
  have hf3 := h1.free 3
  have hk := ((keepBut.refl [p] w).setCell ⟨p, 2, none⟩ (.bool false) (by simp)).setCell ⟨p, 3, none⟩ (.func (.func 48) #[] #[]) (by simp)
  have H : Hid (isD ((w.setCell ⟨p, 2, none⟩ (.bool false)).setCell ⟨p, 3, none⟩ (.func (.func 48) #[] #[])) p F d.revive) :=
    isD.poke h1 h6 h7 h8 h9 h11 h12 h13 hk ((h1.set 2 _).set 3 _) (h2.poke hk h1 (by decide)) (fun _ h => h) h3 h4 rfl h10
  have HK := Lib.hid hk
  obtain ⟨f, cs, rfl⟩ := h5.func
  clear h1 h2 h3 h4 h5 h6 h7 h8 h10 h11 h12 h13 hk
  go_enter Try.func26, Try.ntmps26
  go_wp2_with (go_at_call 60; refine (none_any _ _ _ _ h).mono ?_; rintro e w' ⟨rfl, rfl⟩)
  go_ret
  exact ⟨rfl, F, H.out, HK.out.more (by simpa using h9), fun y hy => .inl hy⟩

theorem run_makeFunc_any {P : Program} (fn : Fn) (first cap : Array Value) (w : World) : (Instr.makeFunc fn first cap).run P w = .ok (.func fn first cap) w := rfl
set_option maxHeartbeats 400000 in
theorem failing_any (k : Int) (w : World) :
    Calls Try.prog 61 #[.int .i64 k] w fun e w' => ∃ x, e = .returned (.func (.func 81) #[] #[.pointer (some ⟨x, 0, none⟩)]) ∧ w.heap.size ≤ x ∧ rowAt w' x 3 #[.int .i64 k] ∧ keepBut [] w w' := by
  have hm := @run_makeFunc_any Try.prog
  go_enter Try.func61, Try.ntmps61
  go_wp2
  go_ret
  exact ⟨_, rfl, Nat.le_refl _, rowAt.new w _ _, (keepBut.refl _ _).alloc _⟩

def DS.armed (d : DS) (k : Int) : Int × DS := if d.dead then (130, d) else if k < 0 then (2, d) else (0, { d with arm := some k.toNat })
set_option maxHeartbeats 400000 in
theorem arm_any (p : Nat) (F : List Nat) (d : DS) (k : Int) (w : World) (h : isD w p F d) (hk0 : k ≤ 9223372036854775807) :
    Calls Try.prog 21 #[.pointer (some ⟨p, 0, none⟩), .int .i64 k] w (dPost p F (d.armed k).2 (d.armed k).1 w) := by
  cases hd : d.dead with
  | true =>
    have HR := Lib.hid (show d.ready = 130 by simp [DS.ready, hd])
    have HA := Lib.hid (show d.armed k = (130, d) by simp [DS.armed, hd])
    clear hd
    go_enter Try.func21, Try.ntmps21
    go_wp2_with (go_at_call 58; refine (ready_any _ _ _ _ h).mono ?_; rintro e w' ⟨rfl, rfl⟩; rw [HR.out])
    go_ret
    rw [HA.out]; exact dPost.same h
  | false =>
    have HR := Lib.hid (show d.ready = 0 by simp [DS.ready, hd])
    by_cases hneg : k < 0
    · have HA := Lib.hid (show d.armed k = (2, d) by simp [DS.armed, hd, hneg])
      clear hd
      go_enter Try.func21, Try.ntmps21
      go_wp2_with (go_at_call 58; refine (ready_any _ _ _ _ h).mono ?_; rintro e w' ⟨rfl, rfl⟩; rw [HR.out])
      go_ret
      rw [HA.out]; exact dPost.same h
    · have HA := Lib.hid (show d.armed k = (0, { d with arm := some k.toNat }) by simp [DS.armed, hd, hneg])
      obtain ⟨m, rfl⟩ := Int.eq_ofNat_of_zero_le (by omega : 0 ≤ k)
      obtain ⟨vb, vs, vt, x, T, h1, h2, h3, h4, h5, h6, h7, h8, h9, h10, h11, h12, h13⟩ := id h
      have hc3 : w.cell? ⟨p, 3, none⟩ = some vs := h1.cell 3
      have hf3 := h1.free 3
      have hplt := h1.lt
      obtain ⟨f, cs, rfl⟩ := h5.func
      have H := Lib.hid (And.intro h1 (And.intro h2 (And.intro h6 (And.intro h7 h8))))
      have H2 := Lib.hid (And.intro h3 (And.intro h4 (And.intro h10 (And.intro h11 (And.intro h12 h13)))))
      clear h1 h2 h3 h4 h5 h6 h7 h8 h10 h11 h12 h13 hd hf3 hc3
      go_enter Try.func21, Try.ntmps21
      go_wp2_with (go_at_call 58; refine (ready_any _ _ _ _ h).mono ?_; rintro e w' ⟨rfl, rfl⟩; rw [HR.out])
      refine (failing_any _ _).mono ?_; rintro e w1 ⟨x1, rfl, hx1, hr1, ha⟩
      have h1' := ha.row H.out.1 (by simp)
      have hc3' : w1.cell? ⟨p, 3, none⟩ = some (.func f #[] cs) := h1'.cell 3
      have hf3' := h1'.free 3
      have HA1 := Lib.hid (And.intro hr1 (And.intro ha h1'))
      clear hr1 ha h1'
      go_wp2
      go_ret
      rw [HA.out]
      obtain ⟨h1, h2, h6, h7, h8⟩ := H.out
      obtain ⟨h3, h4, h10, h11, h12, h13⟩ := H2.out
      obtain ⟨hr1, ha, h1'⟩ := HA1.out
      have hp := h13 p h9
      have hk2 := (keepBut.refl [p] w1).setCell ⟨p, 3, none⟩ (.func (.func 81) #[] #[.pointer (some ⟨x1, 0, none⟩)]) (by simp)
      refine ⟨rfl, x1 :: F, ?_, (ha.more (T := F) (by simp)).then hk2 (fun y hy => .inl (by rw [List.mem_singleton.1 hy]; exact h9)), fun y hy => by rcases List.mem_cons.1 hy with rfl | hy; exact .inr hx1; exact .inl hy⟩
      refine isD.poke (w := w1) (x' := x1) h1' (h6.keep ha (by simp)) h7 (fun y hy => ⟨ha.row (h8 y hy).1 (by simp), List.mem_cons_of_mem _ (h8 y hy).2.1, (h8 y hy).2.2⟩) (List.mem_cons_of_mem _ h9) (fun y hy => List.mem_cons_of_mem _ (h11 y hy)) (fun y hy => List.mem_cons_of_mem _ (h12 y hy)) (fun y hy => ?_) hk2 (h1'.set 3 _) ((h2.keep ha (by simp)).poke hk2 h1' (by decide)) (fun _ h => h) h3 h4 ⟨rfl, by simpa using hk2.row hr1 (by simp; omega), by simp; omega⟩ (by simp)
      rcases List.mem_cons.1 hy with rfl | hy
      · exact hr1.lt
      · have := h13 y hy; have := ha.size; omega
end Go.Proofs.Ytbjonlfjfjlelaa
