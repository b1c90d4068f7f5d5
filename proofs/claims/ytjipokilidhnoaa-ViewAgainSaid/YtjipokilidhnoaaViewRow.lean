/-
  VIEW: the statements' own 'row'; the chapter's bytes of two rows.
-/
import Derived.Test.YtjipokilidhnoaaViewMade
namespace Go.Proofs.Ytjipokilidhnoaa
open Go.RowKit
set_option linter.unusedVariables false
set_option maxRecDepth 100000

set_option maxHeartbeats 400000 in
theorem row_any (s nd kd : Int) (A : Option Addr) (l c : Nat) (w : World) : Calls Try.prog 39 #[.int .i64 s, .int .i64 nd, .int .i64 kd, .slice A l c] w fun e w' => e = .returned (.agg #[.int .i64 s, .int .i64 nd, .int .i64 kd, .slice A l c]) ∧ keepBut [] w w' := by
  have r1 := rowAt.new w 46 #[.int .i64 s, .int .i64 nd, .int .i64 kd, .slice A l c]
  have k1 := (keepBut.refl [] w).alloc (.cells #[.int .i64 s, .int .i64 nd, .int .i64 kd, .slice A l c] 46)
  have H := Lib.hid (And.intro r1 k1)
  clear r1 k1
  go_enter Try.func39, Try.ntmps39
  go_wp2
  refine bodyPost_ret (results_cell_row rfl _ _ w.heap.size 46 #[.int .i64 s, .int .i64 nd, .int .i64 kd, .slice A l c] (0, 0) _ rfl H.out.1 Try.underlying46 rfl (by kernel_rfl)) rfl ?_
  exact ⟨rfl, H.out.2⟩
theorem cb_small (n : Nat) (h : n < 128) : cb n = [UInt8.ofNat n] := by
  unfold cb
  rw [show n / 128 = 0 by omega, cbHi_zero, show n % 128 = n by omega]
  rfl
theorem WS.count_small (b : List UInt8) (n : Nat) (h : n < 128) : (WS.mk b 0).count (n : Int) = ⟨b ++ [UInt8.ofNat n], 0⟩ := by
  unfold WS.count
  rw [if_pos rfl, if_neg (by unfold mxN; omega), Int.toNat_natCast, cb_small n h]
def rowEa : VR := ⟨1, 10, 1, [7]⟩
def rowEb : VR := ⟨3, 0, 2, [8, 9]⟩
theorem enc_none : encTo [] 0 = ⟨[0], 0⟩ := WS.count_small [] 0 (by omega)
theorem enc_both : encTo [rowEa, rowEb] 2 = ⟨[2, 1, 10, 1, 1, 7, 2, 0, 2, 2, 8, 9], 0⟩ := by
  have h0 : encTo [rowEa, rowEb] 0 = ⟨[2], 0⟩ := WS.count_small [] 2 (by omega)
  have h1 : encTo [rowEa, rowEb] 1 = ⟨[2, 1, 10, 1, 1, 7], 0⟩ := by
    rw [encTo_at (l := [rowEa, rowEb]) (k := 0) (r := rowEa) rfl, h0]
    show ((((WS.mk [2] 0).count ((1 : Nat) : Int)).num 1 10).num 1 1).text [7] = _
    rw [WS.count_small [2] 1 (by omega)]
    show ((WS.mk [2, 1, 10, 1] 0).count ((1 : Nat) : Int)).raw [7] = _
    rw [WS.count_small _ 1 (by omega)]
    rfl
  rw [encTo_at (l := [rowEa, rowEb]) (k := 1) (r := rowEb) rfl, h1]
  show ((((WS.mk [2, 1, 10, 1, 1, 7] 0).count ((2 : Nat) : Int)).num 1 0).num 1 2).text [8, 9] = _
  rw [WS.count_small _ 2 (by omega)]
  show ((WS.mk [2, 1, 10, 1, 1, 7, 2, 0, 2] 0).count ((2 : Nat) : Int)).raw [8, 9] = _
  rw [WS.count_small _ 2 (by omega)]
  rfl
theorem first_ex1 : firstAt [rowEa, rowEb] [rowEa] 0 = 1 := by decide
theorem first_ex2 : firstAt [rowEa, rowEb] [rowEb] 0 = 0 := by decide
theorem first_ex3 : firstAt [rowEa] [rowEa] 0 = -1 := by decide
theorem many_ex : manyA (([rowEa, rowEb] : List VR).filter (fun r => r.node == 10)) = #[.int .i64 1, .int .i64 0, .int .i64 0] := rfl
theorem good_a : goodV [rowEa] := ⟨by simp, fun i r h => by
  match i, h with
  | 0, h => injection h with h; subst h; decide⟩
theorem good_b : goodV [rowEb] := ⟨by simp, fun i r h => by
  match i, h with
  | 0, h => injection h with h; subst h; decide⟩
theorem good_ab : goodV [rowEa, rowEb] := ⟨by simp, fun i r h => by
  match i, h with
  | 0, h => injection h with h; subst h; decide
  | 1, h => injection h with h; subst h; decide⟩
/-- rows laid in a new block -/
theorem rowsV_one {w : World} {G : List Nat} {s nd kd : Int} {b : List UInt8} {A' : Option Addr} {n : Nat} (hb : heldB w G (.slice A' b.length n) b) :
    rowsV (w.alloc (.cells #[.int .i64 s, .int .i64 nd, .int .i64 kd, .slice A' b.length n] 46)) (w.heap.size :: G) (some ⟨w.heap.size, 0, none⟩) [⟨s, nd, kd, b⟩] := fun _ => by
  have hr := rowAt.new w 46 #[.int .i64 s, .int .i64 nd, .int .i64 kd, .slice A' b.length n]
  refine ⟨w.heap.size, 0, rfl, hr.lt, by simp, fun i r hi => ?_⟩
  match i, hi with
  | 0, hi =>
    injection hi with hi
    subst hi
    exact ⟨A', n, (hb.keep ((keepBut.refl [] w).alloc _) (by simp)).more (fun y hy => List.mem_cons_of_mem _ hy), hr.cell 0, hr.cell 1, hr.cell 2, hr.cell 3⟩
theorem rowsV_two {w : World} {G H : List Nat} {s nd kd s' nd' kd' : Int} {b b' : List UInt8} {A' B' : Option Addr} {n n' : Nat} (hb : heldB w G (.slice A' b.length n) b) (hb' : heldB w H (.slice B' b'.length n') b') :
    rowsV (w.alloc (.cells #[.int .i64 s, .int .i64 nd, .int .i64 kd, .slice A' b.length n, .int .i64 s', .int .i64 nd', .int .i64 kd', .slice B' b'.length n'] 46)) (w.heap.size :: (G ++ H)) (some ⟨w.heap.size, 0, none⟩) [⟨s, nd, kd, b⟩, ⟨s', nd', kd', b'⟩] := fun _ => by
  have hr := rowAt.new w 46 #[.int .i64 s, .int .i64 nd, .int .i64 kd, .slice A' b.length n, .int .i64 s', .int .i64 nd', .int .i64 kd', .slice B' b'.length n']
  refine ⟨w.heap.size, 0, rfl, hr.lt, by simp, fun i r hi => ?_⟩
  match i, hi with
  | 0, hi =>
    injection hi with hi
    subst hi
    exact ⟨A', n, (hb.keep ((keepBut.refl [] w).alloc _) (by simp)).more (fun y hy => List.mem_cons_of_mem _ (List.mem_append.2 (.inl hy))), hr.cell 0, hr.cell 1, hr.cell 2, hr.cell 3⟩
  | 1, hi =>
    injection hi with hi
    subst hi
    exact ⟨B', n', (hb'.keep ((keepBut.refl [] w).alloc _) (by simp)).more (fun y hy => List.mem_cons_of_mem _ (List.mem_append.2 (.inr hy))), hr.cell 4, hr.cell 5, hr.cell 6, hr.cell 7⟩
end Go.Proofs.Ytjipokilidhnoaa
