/-
  TABLE, 1: the orders of names and of numbers.
-/
import Derived.Test.YtmlmhnhilemjhaaDoorTApi
import Derived.Test.YtmlmhnhilemjhaaDoorEqB
import Derived.Lib.BytesEntry
namespace Go.Proofs.YtmlmhnhilemjhaaDoor
open Go.RowKit
set_option linter.unusedVariables false
set_option maxRecDepth 100000

theorem bytesOf_self (l : List UInt8) : Lib.bytesOf (l.map fun b => (b.toNat : Int)) = l := by
  unfold Lib.bytesOf
  rw [List.map_map]
  conv => rhs; rw [← List.map_id l]
  apply List.map_congr_left
  intro b _
  simp
theorem run_bytesOf {P : Program} (w : World) (A : Option Addr) (g c : Nat) (l : List UInt8) (h : seen w A g l) :
    (Extern.Bytes.bytesOf (.slice A l.length c)).run P w = .ok ⟨l.toArray⟩ w := by
  rcases A with _ | a
  · have hl : l = [] := by
      cases l with
      | nil => rfl
      | cons b t => obtain ⟨o, hA, _⟩ := h (by simp); cases hA
    subst hl
    rfl
  · have hld : (Extern.Bytes.loadBytes a l.length .empty).run P w = .ok ⟨l.toArray⟩ w := by
      have := Lib.run_loadBytesX (P := P) w (l.map fun b => (b.toNat : Int)) a .empty (fun j x hx => by
        rw [List.getElem?_map] at hx
        cases hb : l[j]? with
        | none => rw [hb] at hx; cases hx
        | some b =>
          rw [hb] at hx; simp at hx; subst hx
          obtain ⟨o, hA, _, hc⟩ := h (by rintro rfl; simp at hb)
          obtain rfl : a = ⟨g, o, none⟩ := by simpa using hA
          rw [add_plain]
          exact hc j b hb)
      rw [bytesOf_self, List.length_map] at this
      rw [this]
      congr 1
      apply ByteArray.ext
      simp
    change Sem.run P (Extern.Bytes.loadBytes a l.length .empty) w = _
    exact hld
theorem run_compareB {P : Program} (w : World) (A B : Option Addr) (g h c d : Nat) (l m : List UInt8) (hl : seen w A g l) (hm : seen w B h m) :
    (Extern.BytealgCompare.compare #[.slice A l.length c, .slice B m.length d]).run P w = .ok (.int .i64 (Lib.compareBytes l m)) w := by
  change Sem.run P (do pure (goInt (Extern.BytealgCompare.cmp (← Extern.Bytes.bytesOf (.slice A l.length c)) (← Extern.Bytes.bytesOf (.slice B m.length d))))) w = _
  simp only [Sem.run_bind, run_bytesOf w A g c l hl, run_bytesOf w B h d m hm, Result.andThen, Sem.run_pure]
  rw [Lib.cmp_eq]
  rfl

theorem bytesCompare_any (A B : Option Addr) (g h c d : Nat) (l m : List UInt8) (w : World) (hl : seen w A g l) (hm : seen w B h m) :
    Calls Tryd.prog 45 #[.slice A l.length c, .slice B m.length d] w fun e w' => e = .returned (.int .i64 (Lib.compareBytes l m)) ∧ w = w' := by
  have HC := Lib.hid (run_compareB (P := Tryd.prog) w A B g h c d l m hl hm)
  go_enter Tryd.func45, Tryd.ntmps45
  go_wp2
  rw [run_callFunc_extern Tryd.func71 (by kernel_rfl) (by kernel_rfl) (by kernel_rfl) (e := Extern.BytealgCompare.compare) (by kernel_rfl), HC.out]
  simp only [Result.andThen]
  rw [Oper.upon_value]
  go_wp2
  go_ret
  exact ⟨rfl, rfl⟩

/-- the order of numbers -/
theorem upward_any (a b : Int) (w : World) :
    Calls Tryd.prog 21 #[.agg #[], .int .i64 a, .int .i64 b] w fun e w' => e = .returned (.int .i64 (IntKind.i64.wrap (a - b))) ∧ keepBut [] w w' := by
  generalize hW : IntKind.i64.wrap (a - b) = W
  go_enter Tryd.func21, Tryd.ntmps21
  go_wp2
  go_ret
  exact ⟨rfl, (keepBut.refl [] w).alloc _⟩

theorem rowAt.seenN {w : World} {g : Nat} {t : TypeId} {n : List UInt8} (h : rowAt w g t (nameL n).toArray) : seen w (some ⟨g, 0, none⟩) g n := fun hne =>
  ⟨0, rfl, h.lt, fun j b hb => by
    rw [h.cell]
    unfold nameL
    rw [List.getElem?_toArray, Nat.zero_add, List.getElem?_map, hb]
    rfl⟩
set_option maxHeartbeats 1000000 in
/-- the order of names -/
theorem bytewise_any (n m : List UInt8) (hn : n.length = 32) (hm : m.length = 32) (w : World) :
    Calls Tryd.prog 20 #[.agg #[], .agg (nameL n).toArray, .agg (nameL m).toArray] w fun e w' => e = .returned (.int .i64 (Lib.compareBytes n m)) ∧ keepBut [] w w' := by
  obtain ⟨w1, hw1⟩ : ∃ w1, w.alloc (.cells #[] 69) = w1 := ⟨_, rfl⟩
  have k1 : keepBut [] w w1 := hw1 ▸ (keepBut.refl [] w).alloc _
  obtain ⟨w2, hw2⟩ : ∃ w2, w1.alloc (.cells (nameL n).toArray 28) = w2 := ⟨_, rfl⟩
  have r2 : rowAt w2 w1.heap.size 28 (nameL n).toArray := hw2 ▸ rowAt.new _ _ _
  have k2 : keepBut [] w1 w2 := hw2 ▸ (keepBut.refl [] w1).alloc _
  obtain ⟨w3, hw3⟩ : ∃ w3, w2.alloc (.cells (nameL m).toArray 28) = w3 := ⟨_, rfl⟩
  have r3 : rowAt w3 w2.heap.size 28 (nameL m).toArray := hw3 ▸ rowAt.new _ _ _
  have k3 : keepBut [] w2 w3 := hw3 ▸ (keepBut.refl [] w2).alloc _
  have HK := Lib.hid ((k1.then k2 (by simp)).then k3 (by simp))
  have HS1 := Lib.hid ((k3.row r2 (by simp)).seenN)
  have HS2 := Lib.hid r3.seenN
  have HW1 := Lib.hid hw1
  have HW2 := Lib.hid hw2
  have HW3 := Lib.hid hw3
  have HN := Lib.hid (And.intro hn hm)
  clear hw1 hw2 hw3 k1 k2 k3 r2 r3 hn hm
  go_enter Tryd.func20, Tryd.ntmps20
  go_upto_region 1 with (first
    | (with_reducible refine wpList_box_to _ _ rfl 69 (.tmp 0) rfl _ rfl HW1.out ?_)
    | (with_reducible refine wpList_box_to _ _ rfl 28 (.tmp 1) rfl _ rfl HW2.out ?_)
    | (with_reducible refine wpList_box_to _ _ rfl 28 (.tmp 2) rfl _ rfl HW3.out ?_))
  have hc : ∀ k, Calls Tryd.prog 45 #[.slice (some ⟨w1.heap.size, 0, none⟩) 32 32, .slice (some ⟨w2.heap.size, 0, none⟩) 32 32] (w3.drewN k) fun e w' => e = .returned (.int .i64 (Lib.compareBytes n m)) ∧ w' = w3.drewN k := fun k => by
    have h := bytesCompare_any (some ⟨w1.heap.size, 0, none⟩) (some ⟨w2.heap.size, 0, none⟩) w1.heap.size w2.heap.size 32 32 n m (w3.drewN k) (HS1.out.keep ((keepBut.refl [] w3).drewN k) (by simp)) (HS2.out.keep ((keepBut.refl [] w3).drewN k) (by simp))
    rw [HN.out.1, HN.out.2] at h
    exact h.mono (fun _ _ ⟨a, b⟩ => ⟨a, b.symm⟩)
  have HC := Lib.hid hc
  clear hc
  go_quiet ((go_at_call 45; exact Calls.quiet_of_same (HC.out _)))
  go_wp2
  go_ret
  exact ⟨rfl, HK.out.drewN _⟩
end Go.Proofs.YtmlmhnhilemjhaaDoor
