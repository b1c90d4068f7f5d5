/-
  BOX: net's mailbox of numbers: what its methods do.
-/
import Derived.Test.YtcnlnkkdcofphaaDoorSel
import Derived.Laws.Cover1
import Derived.Deep.CutBlock
import Derived.Outline
namespace Go.Proofs.YtcnlnkkdcofphaaDoor
open Go.Conc Go.RowKit
set_option linter.unusedVariables false
set_option maxRecDepth 100000

/-- block b is a box, its channel in block q, with room, that holds l -/
def isB (w : World) (b q room : Nat) (l : List Int) : Prop := rowAt w b 81 #[.chan (some q)] ∧ chanAt w q room (l.map (Value.int .i64))
theorem isB.lt {w : World} {b q room : Nat} {l : List Int} (h : isB w b q room l) : b < w.heap.size ∧ q < w.heap.size := ⟨h.1.lt, h.2.lt⟩
theorem isB.keep {S : List Nat} {w w' : World} {b q room : Nat} {l : List Int} (h : isB w b q room l) (hk : keepBut S w w') (hb : b ∉ S) (hq : q ∉ S) : isB w' b q room l :=
  ⟨hk.row h.1 hb, h.2.keep hk hq⟩
theorem isB.over {w w' : World} {b q room : Nat} {l : List Int} (h : isB w b q room l) (hk : keepBut [] w w') : isB w' b q room l := h.keep hk (by simp) (by simp)

theorem lane_any (b q room : Nat) (l : List Int) (w : World) (h : isB w b q room l) :
    Calls Tryd.prog 43 #[.pointer (some ⟨b, 0, none⟩)] w fun e w' => e = .returned (.chan (some q)) ∧ w = w' := by
  have hc := h.1.cell 0
  simp only [List.getElem?_toArray, List.getElem?_cons_zero] at hc
  go_enter Tryd.func43, Tryd.ntmps43
  go_wp2
  go_ret
  exact ⟨rfl, rfl⟩
theorem lenB (b q room : Nat) (l : List Int) (w : World) (h : isB w b q room l) :
    Calls Tryd.prog 24 #[.pointer (some ⟨b, 0, none⟩)] w fun e w' => e = .returned (.int .i64 l.length) ∧ w = w' := by
  have hl := run_len_chan (P := Tryd.prog) (ty := 3) Tryd.underlying79 h.2
  rw [List.length_map] at hl
  go_enter Tryd.func24, Tryd.ntmps24
  go_wp2_with (go_at_call 43; refine (lane_any _ _ _ _ _ h).mono ?_; rintro e w' ⟨rfl, rfl⟩)
  go_ret
  exact ⟨rfl, rfl⟩
theorem putB_room (b q room : Nat) (l : List Int) (x : Int) (w : World) (h : isB w b q room l) (hr : l.length < room) :
    Calls Tryd.prog 21 #[.pointer (some ⟨b, 0, none⟩), .int .i64 x] w fun e w' => e = .returned (.bool true) ∧ isB w' b q room (l ++ [x]) ∧ keepBut [q] w w' := by
  have hbq : b ≠ q := h.2.row h.1
  refine calls_of_wpN Tryd.func21 rfl ?_
  simp only [Tryd.ntmps21, List.size_toArray, List.length_cons, List.length_nil, Nat.reduceAdd, Nat.reduceSub, Array.replicate_succ, Array.replicate_zero, List.push_toArray, List.append_toArray, List.nil_append, List.cons_append]
  refine wpN.seq (wpN.of ?_)
  go_wp2
  refine wpN.seq (wpN.of ?_)
  go_wp2_with (go_at_call 43; refine (lane_any _ _ _ _ _ h).mono ?_; rintro e w' ⟨rfl, rfl⟩)
  refine wpN.seq ?_
  refine wpN.send_room (u := .int .i64 x) (z := .int .i64 0) rfl rfl rfl rfl (fun w => Tryd.zeroValue3 w) rfl rfl h.2 (by simpa using hr) (fun w2 hc2 hk2 => ?_)
  simp only [wpOps]
  go_simp
  refine .inl (.inl (wpN.of ?_))
  go_wp2
  go_ret
  exact ⟨rfl, ⟨hk2.row h.1 (by simpa using hbq), by simpa using hc2⟩, hk2⟩
theorem putB_full (b q room : Nat) (l : List Int) (x : Int) (w : World) (h : isB w b q room l) (hr : room ≤ l.length) :
    Calls Tryd.prog 21 #[.pointer (some ⟨b, 0, none⟩), .int .i64 x] w fun e w' => e = .returned (.bool false) ∧ w = w' := by
  refine calls_of_wpN Tryd.func21 rfl ?_
  simp only [Tryd.ntmps21, List.size_toArray, List.length_cons, List.length_nil, Nat.reduceAdd, Nat.reduceSub, Array.replicate_succ, Array.replicate_zero, List.push_toArray, List.append_toArray, List.nil_append, List.cons_append]
  refine wpN.seq (wpN.of ?_)
  go_wp2
  refine wpN.seq (wpN.of ?_)
  go_wp2_with (go_at_call 43; refine (lane_any _ _ _ _ _ h).mono ?_; rintro e w' ⟨rfl, rfl⟩)
  refine wpN.seq ?_
  refine wpN.send_full (u := .int .i64 x) (z := .int .i64 0) rfl rfl rfl rfl (fun w => Tryd.zeroValue3 w) rfl rfl h.2 (by simpa using hr) ?_
  simp only [wpOps]
  go_simp
  refine .inl (.inl (wpN.of ?_))
  go_wp2
  go_ret
  exact ⟨rfl, rfl⟩
theorem takeB_some (b q room : Nat) (l : List Int) (x : Int) (w : World) (h : isB w b q room (x :: l)) :
    Calls Tryd.prog 22 #[.pointer (some ⟨b, 0, none⟩)] w fun e w' => e = .returned (.tuple #[.int .i64 x, .bool true]) ∧ isB w' b q room l ∧ keepBut [q] w w' := by
  have hbq : b ≠ q := h.2.row h.1
  refine calls_of_wpN Tryd.func22 rfl ?_
  simp only [Tryd.ntmps22, List.size_toArray, List.length_cons, List.length_nil, Nat.reduceAdd, Nat.reduceSub, Array.replicate_succ, Array.replicate_zero, List.push_toArray, List.append_toArray, List.nil_append, List.cons_append]
  refine wpN.seq (wpN.of ?_)
  go_wp2
  refine wpN.seq (wpN.of ?_)
  go_wp2_with (go_at_call 43; refine (lane_any _ _ _ _ _ h).mono ?_; rintro e w' ⟨rfl, rfl⟩)
  refine wpN.seq ?_
  refine wpN.recv_buf (u := .int .i64 x) (buf := l.map (Value.int .i64)) (z := .int .i64 0) rfl rfl rfl rfl (fun w => Tryd.zeroValue3 w) rfl h.2 (fun w2 hc2 hk2 => ?_)
  simp only [wpOps]
  go_simp
  refine .inl (.inl (wpN.of ?_))
  go_wp2
  go_ret2
  exact ⟨rfl, ⟨hk2.row h.1 (by simpa using hbq), hc2⟩, hk2⟩
theorem takeB_none (b q room : Nat) (w : World) (h : isB w b q room []) :
    Calls Tryd.prog 22 #[.pointer (some ⟨b, 0, none⟩)] w fun e w' => e = .returned (.tuple #[.int .i64 0, .bool false]) ∧ w = w' := by
  refine calls_of_wpN Tryd.func22 rfl ?_
  simp only [Tryd.ntmps22, List.size_toArray, List.length_cons, List.length_nil, Nat.reduceAdd, Nat.reduceSub, Array.replicate_succ, Array.replicate_zero, List.push_toArray, List.append_toArray, List.nil_append, List.cons_append]
  refine wpN.seq (wpN.of ?_)
  go_wp2
  refine wpN.seq (wpN.of ?_)
  go_wp2_with (go_at_call 43; refine (lane_any _ _ _ _ _ h).mono ?_; rintro e w' ⟨rfl, rfl⟩)
  refine wpN.seq ?_
  refine wpN.recv_none (z := .int .i64 0) rfl rfl rfl rfl (fun w => Tryd.zeroValue3 w) rfl h.2 ?_
  simp only [wpOps]
  go_simp
  refine .inl (.inl (wpN.of ?_))
  go_wp2
  go_ret2
  exact ⟨rfl, rfl⟩
theorem firstB_some (b q room : Nat) (o : Value) (l : List Int) (x : Int) (w : World) (h : isB w b q room (x :: l)) :
    Calls Tryd.prog 23 #[.pointer (some ⟨b, 0, none⟩), o] w fun e w' => e = .returned (.tuple #[.int .i64 x, .bool true]) ∧ isB w' b q room l ∧ keepBut [q] w w' := by
  have hbq : b ≠ q := h.2.row h.1
  refine calls_of_wpN Tryd.func23 rfl ?_
  simp only [Tryd.ntmps23, List.size_toArray, List.length_cons, List.length_nil, Nat.reduceAdd, Nat.reduceSub, Array.replicate_succ, Array.replicate_zero, List.push_toArray, List.append_toArray, List.nil_append, List.cons_append]
  refine wpN.seq (wpN.of ?_)
  go_wp2
  refine wpN.seq (wpN.of ?_)
  go_wp2_with (go_at_call 43; refine (lane_any _ _ _ _ _ h).mono ?_; rintro e w' ⟨rfl, rfl⟩)
  refine wpN.seq ?_
  refine wpN.recv_buf (u := .int .i64 x) (buf := l.map (Value.int .i64)) (z := .int .i64 0) rfl rfl rfl rfl (fun w => Tryd.zeroValue3 w) rfl h.2 (fun w2 hc2 hk2 => ?_)
  simp only [wpOps]
  go_simp
  refine .inl (.inl (wpN.of ?_))
  go_wp2
  go_ret2
  exact ⟨rfl, ⟨hk2.row h.1 (by simpa using hbq), hc2⟩, hk2⟩
theorem firstB_none (b q room : Nat) (o : Value) (w : World) (y : Value) (is : Bool) (R : World → Prop) (h : isB w b q room [])
    (ho : Calls Tryd.prog 22 #[o] w fun e w' => e = .returned (.tuple #[y, .bool is]) ∧ R w') :
    Calls Tryd.prog 23 #[.pointer (some ⟨b, 0, none⟩), o] w fun e w' => e = .returned (.tuple #[y, .bool is]) ∧ R w' := by
  refine calls_of_wpN Tryd.func23 rfl ?_
  simp only [Tryd.ntmps23, List.size_toArray, List.length_cons, List.length_nil, Nat.reduceAdd, Nat.reduceSub, Array.replicate_succ, Array.replicate_zero, List.push_toArray, List.append_toArray, List.nil_append, List.cons_append]
  refine wpN.seq (wpN.of ?_)
  go_wp2
  refine wpN.seq (wpN.of ?_)
  go_wp2_with (go_at_call 43; refine (lane_any _ _ _ _ _ h).mono ?_; rintro e w' ⟨rfl, rfl⟩)
  refine wpN.seq ?_
  refine wpN.recv_none (z := .int .i64 0) rfl rfl rfl rfl (fun w => Tryd.zeroValue3 w) rfl h.2 ?_
  simp only [wpOps]
  go_simp
  refine .inl (.inl (wpN.of ?_))
  go_wp2_with (go_at_call 22; refine ho.mono ?_; rintro e w' ⟨rfl, hR⟩)
  go_ret2
  exact ⟨rfl, hR⟩
theorem newBox (room : Int) (w : World) (h : 1 ≤ room ∧ room ≤ 64) :
    Calls Tryd.prog 20 #[.int .i64 room] w fun e w' => ∃ b q, e = .returned (.tuple #[.pointer (some ⟨b, 0, none⟩), .int .i64 0]) ∧ isB w' b q room.toNat [] ∧ keepBut [] w w' ∧ w.heap.size ≤ b ∧ w.heap.size ≤ q := by
  obtain ⟨n, rfl⟩ : ∃ n : Nat, room = n := ⟨room.toNat, by omega⟩
  have hm : ∀ W : World, (Instr.makeChan 79 (.int .i64 (n : Int))).run Tryd.prog W = .ok (.chan (some W.heap.size)) (W.alloc (.chan n #[] false 0 0 false)) := fun W => by
    have hi : (Tryd.prog.info? 3).map (·.bytes) = some 8 := by kernel_rfl
    obtain ⟨i, hi, hb⟩ := Option.map_eq_some_iff.1 hi
    exact run_makeChan (P := Tryd.prog) (w := W) Tryd.underlying79 hi .i64 n (by omega) (by rw [hb]; omega)
  go_enter Tryd.func20, Tryd.ntmps20
  go_wp2
  go_ret2
  have r1 := rowAt.new (w.alloc (.chan n #[] false 0 0 false)) 81 #[.chan (some w.heap.size)]
  have k1 := (keepBut.refl [] (w.alloc (.chan n #[] false 0 0 false))).alloc (.cells #[.chan (some w.heap.size)] 81)
  rw [World.size_alloc] at r1
  exact ⟨_, _, rfl, ⟨r1, (chanAt.new w n).keep k1 (by simp)⟩, ((keepBut.refl [] w).alloc _).alloc _, by omega, Nat.le_refl _⟩
theorem newBox_no (room : Int) (w : World) (h : ¬ (1 ≤ room ∧ room ≤ 64)) :
    Calls Tryd.prog 20 #[.int .i64 room] w fun e w' => e = .returned (.tuple #[.pointer none, .int .i64 2]) ∧ w = w' := by
  go_enter Tryd.func20, Tryd.ntmps20
  go_wp2
  all_goals
    go_ret2
    exact ⟨rfl, rfl⟩
end Go.Proofs.YtcnlnkkdcofphaaDoor
