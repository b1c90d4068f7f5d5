/-
  LEAD, 10: Bound, Pending.
-/
import Derived.Test.YtbjonlfjfjlelaaLead7
namespace Go.Proofs.Ytbjonlfjfjlelaa
open Go.RowKit
set_option linter.unusedVariables false
set_option maxRecDepth 100000

def LS.boundOf (s : LS) (n : Int) : CS × Bool := match findV s.bound n with | none => (CS.zero, false) | some d => (d.c, true)
def boundPost (c : CS) (b : Bool) (w : World) (e : Ending) (w' : World) : Prop := ∃ cv, e = .returned (.tuple #[confV c cv, .bool b]) ∧ heldNew c.chain w cv w'

/-- a config is stored into the result's cell -/
theorem conf_store {w w1 w2 : World} {A : Option Addr} {n g : Nat} {G : List Nat} {c : CS} (hk : keepBut [] w w1) (hlt : w.heap.size < w1.heap.size) (hh : held w2 G (.slice A c.chain.length n) c.chain)
    (hG : ∀ y ∈ G, w1.heap.size ≤ y ∧ y < w2.heap.size) (hk2 : keepBut [] w1 w2) :
    heldNew c.chain w (.slice A c.chain.length n) (((w2.setCell ⟨w.heap.size, 0, none⟩ (.int .i64 c.num)).setCell ⟨w.heap.size, 1, none⟩ (.int .i64 c.full)).setCell ⟨w.heap.size, 2, none⟩ (.slice A c.chain.length n)) := by
  have k3 := (((keepBut.refl [w.heap.size] w2).setCell ⟨w.heap.size, 0, none⟩ (.int .i64 c.num) (by simp)).setCell ⟨w.heap.size, 1, none⟩ (.int .i64 c.full) (by simp)).setCell ⟨w.heap.size, 2, none⟩ (.slice A c.chain.length n) (by simp)
  refine ⟨G, hh.keep k3 (fun y hy hm => ?_), fun y hy => ⟨?_, Nat.lt_of_lt_of_le (hG y hy).2 k3.size⟩, (hk.then hk2 (by simp)).then k3 (by simp)⟩
  · have := (hG y hy).1; have := List.mem_singleton.1 hm; omega
  · have := (hG y hy).1; omega

set_option maxHeartbeats 2000000 in
theorem boundL_any (p : Nat) (F : List Nat) (s : LS) (num : Int) (w : World) (h : isL w p F s) :
    Calls Try.prog 35 #[.pointer (some ⟨p, 0, none⟩), .int .i64 num] w (boundPost (s.boundOf num).1 (s.boundOf num).2 w) := by
  have k1 := (keepBut.refl [] w).alloc (.cells #[.int .i64 0, .int .i64 0, .slice none 0 0] 55)
  have r1 := rowAt.new w 55 #[.int .i64 0, .int .i64 0, .slice none 0 0]
  have h1 := h.over k1
  have hlt : w.heap.size < (w.alloc (.cells #[.int .i64 0, .int .i64 0, .slice none 0 0] 55)).heap.size := r1.lt
  generalize hw1 : w.alloc (.cells #[.int .i64 0, .int .i64 0, .slice none 0 0] 55) = w1 at *
  have HW1 := Lib.hid hw1
  clear hw1
  obtain ⟨g, lcv, ents, C, l1, l2, l3, l4, l5, l6, l7, l8, l9, l10⟩ := id h1
  have c6 : w1.cell? ⟨p, 6, none⟩ = some (.map (some g)) := l1.cell 6
  obtain ⟨V, vcv, hV, hlk, hVc⟩ := look_vote w1 g C ents s.bound l2 l3 num
  have hV2 := hV
  obtain ⟨A2, c2, g2, rfl, q2⟩ := hV2
  unfold voteA at hlk
  have hE : s.boundOf num = (V.c, (findV s.bound num).isSome) := by
    unfold LS.boundOf
    rcases hVc with ⟨e, e1, _⟩ | e
    · rw [e, e1]; rfl
    · rw [e]; rfl
  have k2 := (keepBut.refl [] w1).alloc (.cells #[.int .i64 V.bal, .int .i64 V.c.num, .int .i64 V.c.full, .slice A2 V.c.chain.length c2] 78)
  have hV3 := hV.keep k2 (by simp)
  have HCP := Lib.hid (copiedL_any C V.c (.slice A2 V.c.chain.length c2) _ hV3)
  unfold confV at HCP
  have r2 := k2.row r1 (by simp)
  have HH := Lib.hid (And.intro h1 (And.intro k1 (And.intro k2 (And.intro r2 (And.intro hlt hE)))))
  clear l1 l2 l3 l4 l5 l6 l7 l8 l9 l10 q2 hV hV3 h h1 k1 k2 r1 r2 hVc hE hlt
  go_enter Try.func35, Try.ntmps35
  go_upto_region 1 with fail
  rw [HW1.out]
  go_wp2_with (first | (go_at_call 72; refine (noneL_any _ _ _ _ HH.out.1).mono ?_; rintro e w' ⟨rfl, rfl⟩) | fail)
  refine HCP.out.mono ?_; rintro e w3 ⟨ccv, rfl, G5, ⟨A5, c5, g5, rfl, i52, i53, i54, i55, i56⟩, hG5, hk5⟩
  have r3 := hk5.row HH.out.2.2.2.1 (by simp)
  have z0 : w3.cell? ⟨w.heap.size, 0, none⟩ = some (.int .i64 0) := r3.cell 0
  have z1 : w3.cell? ⟨w.heap.size, 1, none⟩ = some (.int .i64 0) := r3.cell 1
  have z2 : w3.cell? ⟨w.heap.size, 2, none⟩ = some (.slice none 0 0) := r3.cell 2
  have zf0 := r3.free 0
  have zf1 := r3.free 1
  have zf2 := r3.free 2
  have HX := Lib.hid (And.intro (show held w3 G5 (.slice A5 V.c.chain.length c5) V.c.chain from ⟨A5, c5, g5, rfl, i52, i53, i54, i55, i56⟩) (And.intro hG5 hk5))
  clear r3 i52 i53 i54 i55 i56 hG5 hk5 hlk c6
  unfold confV
  go_wp2
  refine bodyPost_ret (v := .tuple #[.agg #[.int .i64 V.c.num, .int .i64 V.c.full, .slice A5 V.c.chain.length c5], .bool (findV s.bound num).isSome]) (by simp [results, Try.results35, go_sem, *]) rfl ?_
  rw [HH.out.2.2.2.2.2]
  refine ⟨_, rfl, conf_store (g := g5) (HH.out.2.1.then HH.out.2.2.1 (by simp)) ?_ HX.out.1 HX.out.2.1 HX.out.2.2⟩
  exact HH.out.2.2.2.1.lt
end Go.Proofs.Ytbjonlfjfjlelaa
