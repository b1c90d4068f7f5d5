/-
  LEAD, 1: how many elements a set of masters has: a range over a function.
-/
import Derived.Test.YtbjonlfjfjlelaaBring
import Derived.RangeFuncNested
import Derived.RangeFuncBound
import Derived.RangeFuncCalls
import Derived.RangeFuncLeaves
import Derived.RangeFuncFrom
import Derived.Shelf.Abstract
import Derived.Shelf.RegionOpen
import Derived.OwnWalkIn
import Derived.TacticsInMore
import Derived.LoopNIn
import Derived.LoopIn
namespace Go.Proofs.Ytbjonlfjfjlelaa
open Go.RowKit Go.Shelf
set_option linter.unusedVariables false
set_option maxRecDepth 100000
attribute [local go_sem] Oper.semAt_some

/-- the elements below k of a set of three -/
def elems (b k : Nat) : List Nat := (List.range k).filter fun i => b / 2 ^ i % 2 == 1
/-- two cells stay -/
def keepTwo (p q : Addr) (u v : Value) (A B : World) : Prop := (A.cell? p = some u → B.cell? p = some u) ∧ (A.cell? q = some v → B.cell? q = some v)
def countOf (b : Nat) : Nat := (elems b 3).length

set_option maxHeartbeats 4000000 in
theorem each1_stops (F : Fence) (n : Nat) (h87 : F.fn 87) (hro : F.round = none) (hn : 1 ≤ n) (w : World) (Bx S o : Nat) (b : Nat) (hb : b ≤ 7)
    (hB : w.cell? ⟨Bx, 0, none⟩ = some (.pointer (some ⟨S, o, none⟩))) (hS : w.cell? ⟨S, o, none⟩ = some (.int .u8 (b : Int))) (hn0 : Bx < w.heap.size) (hn1 : S < w.heap.size) :
    SeqStopsK F n Try.prog 87 #[.pointer (some ⟨Bx, 0, none⟩)] (fun v : Nat => #[Value.int .i64 (v : Int)]) (keepTwo ⟨Bx, 0, none⟩ ⟨S, o, none⟩ (.pointer (some ⟨S, o, none⟩)) (.int .u8 (b : Int))) (fun xs => xs = elems b 3) (fun _ => True) 3 w := fun l J Jx W hW hJ hJx hY h0 => by
  have hBW : W.cell? ⟨Bx, 0, none⟩ = some (.pointer (some ⟨S, o, none⟩)) := (hW.cell (p := ⟨Bx, 0, none⟩) (by simp; omega)).trans hB
  have hSW : W.cell? ⟨S, o, none⟩ = some (.int .u8 (b : Int)) := (hW.cell (p := ⟨S, o, none⟩) (by simp; omega)).trans hS
  have hYY := Lib.hid hY
  clear hY
  refine callsIn_of_wp Try.func87 rfl h87 ?_ hro
  simp only [Try.ntmps87, List.size_toArray, List.length_cons, List.length_nil, Nat.reduceAdd, Nat.reduceSub, Array.replicate_succ, Array.replicate_zero, List.push_toArray, List.append_toArray, List.nil_append, List.cons_append]
  gi_wp2
  gi_loopw [3] (fun v3 wr => ∃ k : Nat, k ≤ 3 ∧ v3 = .int .i64 (k : Int) ∧ J (elems b k) wr ∧ wr.cell? ⟨Bx, 0, none⟩ = some (.pointer (some ⟨S, o, none⟩)) ∧ wr.cell? ⟨S, o, none⟩ = some (.int .u8 (b : Int)))
    (fun v3 _ => 4 - (intOf v3).toNat)
  case atStart => exact ⟨0, by omega, rfl, h0, hBW, hSW⟩
  case round =>
    obtain ⟨k, hk, rfl, hJw, c1, c2⟩ := hrel
    have hb' : b = 0 ∨ b = 1 ∨ b = 2 ∨ b = 3 ∨ b = 4 ∨ b = 5 ∨ b = 6 ∨ b = 7 := by omega
    have hk' : k = 0 ∨ k = 1 ∨ k = 2 ∨ k = 3 := by omega
    clear hB hS hBW hSW h0
    rcases hb' with rfl | rfl | rfl | rfl | rfl | rfl | rfl | rfl
    · rcases hk' with rfl | rfl | rfl | rfl
      · gi_wp2
        go_end0
        exact ⟨⟨_, rfl⟩, .inl ⟨elems 0 0, rfl, hJw⟩⟩
      · gi_wp2
        go_end0
        exact ⟨⟨_, rfl⟩, .inl ⟨elems 0 1, rfl, hJw⟩⟩
      · gi_wp2
        go_end0
        exact ⟨⟨_, rfl⟩, .inl ⟨elems 0 2, rfl, hJw⟩⟩
      · gi_wp2
        go_end0
        exact ⟨⟨_, rfl⟩, .inl ⟨elems 0 3, rfl, hJw⟩⟩
    · rcases hk' with rfl | rfl | rfl | rfl
      · have hbt : bits BinOp.and IntKind.u8 1 1 = 1 := by decide
        obtain ⟨f1, t1, a1, b1, hy, hR⟩ := hYY.out (elems 1 0) 0 wr hJw (by decide)
        rw [show ((0 : Nat) : Int) = 0 from rfl] at hy
        have HC := Lib.hid (And.intro c1 c2)
        gi_wp2
        refine hR.mono ?_
        rintro e W3 (⟨rfl, hJ3, hk3⟩ | ⟨rfl, hJx3⟩)
        · have HJ := Lib.hid (And.intro hJ3 (And.intro (hk3.1 HC.out.1) (hk3.2 HC.out.2)))
          clear hJ3 hk3
          gi_wp2
          go_roundw
          case rel => exact ⟨1, by omega, rfl, HJ.out⟩
          case measure => simp [intOf]
        · gi_wp2
          refine bodyPost_ret (results_none rfl _ _ _) rfl ?_
          exact ⟨⟨_, rfl⟩, .inr ⟨_, trivial, hJx3⟩⟩
      · gi_wp2
        go_end0
        exact ⟨⟨_, rfl⟩, .inl ⟨elems 1 1, rfl, hJw⟩⟩
      · gi_wp2
        go_end0
        exact ⟨⟨_, rfl⟩, .inl ⟨elems 1 2, rfl, hJw⟩⟩
      · gi_wp2
        go_end0
        exact ⟨⟨_, rfl⟩, .inl ⟨elems 1 3, rfl, hJw⟩⟩
    · rcases hk' with rfl | rfl | rfl | rfl
      · have hbt : bits BinOp.and IntKind.u8 2 1 = 0 := by decide
        have HJ := Lib.hid (And.intro hJw (And.intro c1 c2))
        gi_wp2
        refine ⟨fun _ h => (by cases h), ?_⟩
        gi_wp2
        go_roundw
        case rel => exact ⟨1, by omega, rfl, HJ.out⟩
        case measure => simp [intOf]
      · have hbt : bits BinOp.and IntKind.u8 1 1 = 1 := by decide
        obtain ⟨f1, t1, a1, b1, hy, hR⟩ := hYY.out (elems 2 1) 1 wr hJw (by decide)
        rw [show ((1 : Nat) : Int) = 1 from rfl] at hy
        have HC := Lib.hid (And.intro c1 c2)
        gi_wp2
        refine hR.mono ?_
        rintro e W3 (⟨rfl, hJ3, hk3⟩ | ⟨rfl, hJx3⟩)
        · have HJ := Lib.hid (And.intro hJ3 (And.intro (hk3.1 HC.out.1) (hk3.2 HC.out.2)))
          clear hJ3 hk3
          gi_wp2
          go_roundw
          case rel => exact ⟨2, by omega, rfl, HJ.out⟩
          case measure => simp [intOf]
        · gi_wp2
          refine bodyPost_ret (results_none rfl _ _ _) rfl ?_
          exact ⟨⟨_, rfl⟩, .inr ⟨_, trivial, hJx3⟩⟩
      · gi_wp2
        go_end0
        exact ⟨⟨_, rfl⟩, .inl ⟨elems 2 2, rfl, hJw⟩⟩
      · gi_wp2
        go_end0
        exact ⟨⟨_, rfl⟩, .inl ⟨elems 2 3, rfl, hJw⟩⟩
    · rcases hk' with rfl | rfl | rfl | rfl
      · have hbt : bits BinOp.and IntKind.u8 3 1 = 1 := by decide
        obtain ⟨f1, t1, a1, b1, hy, hR⟩ := hYY.out (elems 3 0) 0 wr hJw (by decide)
        rw [show ((0 : Nat) : Int) = 0 from rfl] at hy
        have HC := Lib.hid (And.intro c1 c2)
        gi_wp2
        refine hR.mono ?_
        rintro e W3 (⟨rfl, hJ3, hk3⟩ | ⟨rfl, hJx3⟩)
        · have HJ := Lib.hid (And.intro hJ3 (And.intro (hk3.1 HC.out.1) (hk3.2 HC.out.2)))
          clear hJ3 hk3
          gi_wp2
          go_roundw
          case rel => exact ⟨1, by omega, rfl, HJ.out⟩
          case measure => simp [intOf]
        · gi_wp2
          refine bodyPost_ret (results_none rfl _ _ _) rfl ?_
          exact ⟨⟨_, rfl⟩, .inr ⟨_, trivial, hJx3⟩⟩
      · have hbt : bits BinOp.and IntKind.u8 1 1 = 1 := by decide
        obtain ⟨f1, t1, a1, b1, hy, hR⟩ := hYY.out (elems 3 1) 1 wr hJw (by decide)
        rw [show ((1 : Nat) : Int) = 1 from rfl] at hy
        have HC := Lib.hid (And.intro c1 c2)
        gi_wp2
        refine hR.mono ?_
        rintro e W3 (⟨rfl, hJ3, hk3⟩ | ⟨rfl, hJx3⟩)
        · have HJ := Lib.hid (And.intro hJ3 (And.intro (hk3.1 HC.out.1) (hk3.2 HC.out.2)))
          clear hJ3 hk3
          gi_wp2
          go_roundw
          case rel => exact ⟨2, by omega, rfl, HJ.out⟩
          case measure => simp [intOf]
        · gi_wp2
          refine bodyPost_ret (results_none rfl _ _ _) rfl ?_
          exact ⟨⟨_, rfl⟩, .inr ⟨_, trivial, hJx3⟩⟩
      · gi_wp2
        go_end0
        exact ⟨⟨_, rfl⟩, .inl ⟨elems 3 2, rfl, hJw⟩⟩
      · gi_wp2
        go_end0
        exact ⟨⟨_, rfl⟩, .inl ⟨elems 3 3, rfl, hJw⟩⟩
    · rcases hk' with rfl | rfl | rfl | rfl
      · have hbt : bits BinOp.and IntKind.u8 4 1 = 0 := by decide
        have HJ := Lib.hid (And.intro hJw (And.intro c1 c2))
        gi_wp2
        refine ⟨fun _ h => (by cases h), ?_⟩
        gi_wp2
        go_roundw
        case rel => exact ⟨1, by omega, rfl, HJ.out⟩
        case measure => simp [intOf]
      · have hbt : bits BinOp.and IntKind.u8 2 1 = 0 := by decide
        have HJ := Lib.hid (And.intro hJw (And.intro c1 c2))
        gi_wp2
        refine ⟨fun _ h => (by cases h), ?_⟩
        gi_wp2
        go_roundw
        case rel => exact ⟨2, by omega, rfl, HJ.out⟩
        case measure => simp [intOf]
      · have hbt : bits BinOp.and IntKind.u8 1 1 = 1 := by decide
        obtain ⟨f1, t1, a1, b1, hy, hR⟩ := hYY.out (elems 4 2) 2 wr hJw (by decide)
        rw [show ((2 : Nat) : Int) = 2 from rfl] at hy
        have HC := Lib.hid (And.intro c1 c2)
        gi_wp2
        refine hR.mono ?_
        rintro e W3 (⟨rfl, hJ3, hk3⟩ | ⟨rfl, hJx3⟩)
        · have HJ := Lib.hid (And.intro hJ3 (And.intro (hk3.1 HC.out.1) (hk3.2 HC.out.2)))
          clear hJ3 hk3
          gi_wp2
          go_roundw
          case rel => exact ⟨3, by omega, rfl, HJ.out⟩
          case measure => simp [intOf]
        · gi_wp2
          refine bodyPost_ret (results_none rfl _ _ _) rfl ?_
          exact ⟨⟨_, rfl⟩, .inr ⟨_, trivial, hJx3⟩⟩
      · gi_wp2
        go_end0
        exact ⟨⟨_, rfl⟩, .inl ⟨elems 4 3, rfl, hJw⟩⟩
    · rcases hk' with rfl | rfl | rfl | rfl
      · have hbt : bits BinOp.and IntKind.u8 5 1 = 1 := by decide
        obtain ⟨f1, t1, a1, b1, hy, hR⟩ := hYY.out (elems 5 0) 0 wr hJw (by decide)
        rw [show ((0 : Nat) : Int) = 0 from rfl] at hy
        have HC := Lib.hid (And.intro c1 c2)
        gi_wp2
        refine hR.mono ?_
        rintro e W3 (⟨rfl, hJ3, hk3⟩ | ⟨rfl, hJx3⟩)
        · have HJ := Lib.hid (And.intro hJ3 (And.intro (hk3.1 HC.out.1) (hk3.2 HC.out.2)))
          clear hJ3 hk3
          gi_wp2
          go_roundw
          case rel => exact ⟨1, by omega, rfl, HJ.out⟩
          case measure => simp [intOf]
        · gi_wp2
          refine bodyPost_ret (results_none rfl _ _ _) rfl ?_
          exact ⟨⟨_, rfl⟩, .inr ⟨_, trivial, hJx3⟩⟩
      · have hbt : bits BinOp.and IntKind.u8 2 1 = 0 := by decide
        have HJ := Lib.hid (And.intro hJw (And.intro c1 c2))
        gi_wp2
        refine ⟨fun _ h => (by cases h), ?_⟩
        gi_wp2
        go_roundw
        case rel => exact ⟨2, by omega, rfl, HJ.out⟩
        case measure => simp [intOf]
      · have hbt : bits BinOp.and IntKind.u8 1 1 = 1 := by decide
        obtain ⟨f1, t1, a1, b1, hy, hR⟩ := hYY.out (elems 5 2) 2 wr hJw (by decide)
        rw [show ((2 : Nat) : Int) = 2 from rfl] at hy
        have HC := Lib.hid (And.intro c1 c2)
        gi_wp2
        refine hR.mono ?_
        rintro e W3 (⟨rfl, hJ3, hk3⟩ | ⟨rfl, hJx3⟩)
        · have HJ := Lib.hid (And.intro hJ3 (And.intro (hk3.1 HC.out.1) (hk3.2 HC.out.2)))
          clear hJ3 hk3
          gi_wp2
          go_roundw
          case rel => exact ⟨3, by omega, rfl, HJ.out⟩
          case measure => simp [intOf]
        · gi_wp2
          refine bodyPost_ret (results_none rfl _ _ _) rfl ?_
          exact ⟨⟨_, rfl⟩, .inr ⟨_, trivial, hJx3⟩⟩
      · gi_wp2
        go_end0
        exact ⟨⟨_, rfl⟩, .inl ⟨elems 5 3, rfl, hJw⟩⟩
    · rcases hk' with rfl | rfl | rfl | rfl
      · have hbt : bits BinOp.and IntKind.u8 6 1 = 0 := by decide
        have HJ := Lib.hid (And.intro hJw (And.intro c1 c2))
        gi_wp2
        refine ⟨fun _ h => (by cases h), ?_⟩
        gi_wp2
        go_roundw
        case rel => exact ⟨1, by omega, rfl, HJ.out⟩
        case measure => simp [intOf]
      · have hbt : bits BinOp.and IntKind.u8 3 1 = 1 := by decide
        obtain ⟨f1, t1, a1, b1, hy, hR⟩ := hYY.out (elems 6 1) 1 wr hJw (by decide)
        rw [show ((1 : Nat) : Int) = 1 from rfl] at hy
        have HC := Lib.hid (And.intro c1 c2)
        gi_wp2
        refine hR.mono ?_
        rintro e W3 (⟨rfl, hJ3, hk3⟩ | ⟨rfl, hJx3⟩)
        · have HJ := Lib.hid (And.intro hJ3 (And.intro (hk3.1 HC.out.1) (hk3.2 HC.out.2)))
          clear hJ3 hk3
          gi_wp2
          go_roundw
          case rel => exact ⟨2, by omega, rfl, HJ.out⟩
          case measure => simp [intOf]
        · gi_wp2
          refine bodyPost_ret (results_none rfl _ _ _) rfl ?_
          exact ⟨⟨_, rfl⟩, .inr ⟨_, trivial, hJx3⟩⟩
      · have hbt : bits BinOp.and IntKind.u8 1 1 = 1 := by decide
        obtain ⟨f1, t1, a1, b1, hy, hR⟩ := hYY.out (elems 6 2) 2 wr hJw (by decide)
        rw [show ((2 : Nat) : Int) = 2 from rfl] at hy
        have HC := Lib.hid (And.intro c1 c2)
        gi_wp2
        refine hR.mono ?_
        rintro e W3 (⟨rfl, hJ3, hk3⟩ | ⟨rfl, hJx3⟩)
        · have HJ := Lib.hid (And.intro hJ3 (And.intro (hk3.1 HC.out.1) (hk3.2 HC.out.2)))
          clear hJ3 hk3
          gi_wp2
          go_roundw
          case rel => exact ⟨3, by omega, rfl, HJ.out⟩
          case measure => simp [intOf]
        · gi_wp2
          refine bodyPost_ret (results_none rfl _ _ _) rfl ?_
          exact ⟨⟨_, rfl⟩, .inr ⟨_, trivial, hJx3⟩⟩
      · gi_wp2
        go_end0
        exact ⟨⟨_, rfl⟩, .inl ⟨elems 6 3, rfl, hJw⟩⟩
    · rcases hk' with rfl | rfl | rfl | rfl
      · have hbt : bits BinOp.and IntKind.u8 7 1 = 1 := by decide
        obtain ⟨f1, t1, a1, b1, hy, hR⟩ := hYY.out (elems 7 0) 0 wr hJw (by decide)
        rw [show ((0 : Nat) : Int) = 0 from rfl] at hy
        have HC := Lib.hid (And.intro c1 c2)
        gi_wp2
        refine hR.mono ?_
        rintro e W3 (⟨rfl, hJ3, hk3⟩ | ⟨rfl, hJx3⟩)
        · have HJ := Lib.hid (And.intro hJ3 (And.intro (hk3.1 HC.out.1) (hk3.2 HC.out.2)))
          clear hJ3 hk3
          gi_wp2
          go_roundw
          case rel => exact ⟨1, by omega, rfl, HJ.out⟩
          case measure => simp [intOf]
        · gi_wp2
          refine bodyPost_ret (results_none rfl _ _ _) rfl ?_
          exact ⟨⟨_, rfl⟩, .inr ⟨_, trivial, hJx3⟩⟩
      · have hbt : bits BinOp.and IntKind.u8 3 1 = 1 := by decide
        obtain ⟨f1, t1, a1, b1, hy, hR⟩ := hYY.out (elems 7 1) 1 wr hJw (by decide)
        rw [show ((1 : Nat) : Int) = 1 from rfl] at hy
        have HC := Lib.hid (And.intro c1 c2)
        gi_wp2
        refine hR.mono ?_
        rintro e W3 (⟨rfl, hJ3, hk3⟩ | ⟨rfl, hJx3⟩)
        · have HJ := Lib.hid (And.intro hJ3 (And.intro (hk3.1 HC.out.1) (hk3.2 HC.out.2)))
          clear hJ3 hk3
          gi_wp2
          go_roundw
          case rel => exact ⟨2, by omega, rfl, HJ.out⟩
          case measure => simp [intOf]
        · gi_wp2
          refine bodyPost_ret (results_none rfl _ _ _) rfl ?_
          exact ⟨⟨_, rfl⟩, .inr ⟨_, trivial, hJx3⟩⟩
      · have hbt : bits BinOp.and IntKind.u8 1 1 = 1 := by decide
        obtain ⟨f1, t1, a1, b1, hy, hR⟩ := hYY.out (elems 7 2) 2 wr hJw (by decide)
        rw [show ((2 : Nat) : Int) = 2 from rfl] at hy
        have HC := Lib.hid (And.intro c1 c2)
        gi_wp2
        refine hR.mono ?_
        rintro e W3 (⟨rfl, hJ3, hk3⟩ | ⟨rfl, hJx3⟩)
        · have HJ := Lib.hid (And.intro hJ3 (And.intro (hk3.1 HC.out.1) (hk3.2 HC.out.2)))
          clear hJ3 hk3
          gi_wp2
          go_roundw
          case rel => exact ⟨3, by omega, rfl, HJ.out⟩
          case measure => simp [intOf]
        · gi_wp2
          refine bodyPost_ret (results_none rfl _ _ _) rfl ?_
          exact ⟨⟨_, rfl⟩, .inr ⟨_, trivial, hJx3⟩⟩
      · gi_wp2
        go_end0
        exact ⟨⟨_, rfl⟩, .inl ⟨elems 7 3, rfl, hJw⟩⟩
end Go.Proofs.Ytbjonlfjfjlelaa
