/-
  DiskSwaps: a swap of a disk's bytes is there whole, and synced, or not at all: the call returns true for every input, and each argument reads behind it as before.
  CONDITIONS: none.
-/
import Derived.Test.YtaclpogcedgojaaDiskSwaps
import Derived.Test.YtaclpogcedgojaaArr2
namespace Go.Proofs.Ytaclpogcedgojaa.diskSwapsDone
open Go.ChangeShapes Go.WideShapes Go.ChangeAt Go.RowKit
open Go.ChangeMaps (open_string shut_string)
set_option linter.unusedVariables false

theorem own : ownKnob Try.prog.godebug = none := by kernel_rfl
theorem laidOut : laidOutB Try.prog = true := by kernel_rfl

set_option maxRecDepth 100000 in
theorem lifted (os : Os) (started : os.Started) (H : Type) (enc : TypeId × Value → H) :
    ReturnsInHanded {} Try.checked os 6 .any (Rows.diskSwapsSpec.pre6 enc Try.prog Try.f6 Rows.diskSwapsRow.domain false) (Rows.diskSwapsSpec.post enc Try.prog Try.f6 false true false false) := by
  refine returnsInHanded_of_change (C := Try.checked) own started (by kernel_rfl) Try.func6
    (ChangeSpec.witness6 (enc := enc) (C := Try.checked) false ⟨#[], #[.slice none 0 0, .slice none 0 0, .agg #[.int .i64 0, .int .i64 0]], []⟩ 8 (by kernel_rfl) (by kernel_rfl) (by kernel_rfl) (by kernel_rfl)) ?_
  intro W base args ds gs before hval0 hW hcnd _
  have hval : ∀ (j : Nat) t v, Try.f6.params[j]? = some t → args[j]? = some v → Value.okWide Try.prog W .any base t v := hval0
  have hW' := hW
  obtain ⟨p, q, hA0, hV, rfl, hfz, hnd⟩ := hW
  have hA : DataW.TrodAll enc Try.prog W 0 (fun _ => true) true Try.f6.params.toList args.toList ds p := hA0
  rw [Try.params6] at hA hval
  obtain ⟨v0, vs0, d0, ds0, p0, q0, hargs, rfl, rfl, h0, r0⟩ := trodAll_cons hA
  obtain ⟨v1, vs1, d1, ds1, p1, q1, rfl, rfl, rfl, h1, r1⟩ := trodAll_cons r0
  obtain ⟨v2, vs2, d2, ds2, p2, q2, rfl, rfl, rfl, h2, r2⟩ := trodAll_cons r1
  obtain ⟨rfl, rfl, rfl⟩ := trodAll_nil r2
  obtain rfl : args = #[v0, v1, v2] := by cases args; simp_all
  obtain ⟨rfl, rfl⟩ := trodVars_none hV
  obtain ⟨A0, n0, c0, rfl⟩ := okWide_slice Try.underlying28 (hval 0 28 v0 rfl rfl)
  have k0 := h0
  have lt0 : ∀ x ∈ p0, x.block < W.heap.size := by obtain ⟨m, hm⟩ := k0; exact DataW.trod_lt m _ _ _ hm
  obtain ⟨g0, xs0, hb0, hn0, hc0, rd0, wf0⟩ : ∃ g xs, (0 < n0 → g < W.heap.size) ∧ n0 ≤ c0 ∧ c0 ≤ maxLen ∧ reads W A0 g n0 1 (cellsK .u8 xs) ∧ ∀ n ∈ xs, (Lit.int .u8 n).wf = true := by
    obtain ⟨fuel, hf⟩ := h0
    rcases open_ints Try.underlying28 Try.underlying5 (by kernel_rfl) hf with ⟨hcs, _⟩ | ⟨x, l, c, zs, hcs, _, hl, hm, hz, _, hcell, hwz⟩
    · simp [Value.cells] at hcs
      obtain ⟨rfl, rfl, rfl⟩ := hcs
      exact ⟨0, [], fun h => absurd h (by omega), by omega, by simp [maxLen], ⟨rfl, fun h => absurd h (by omega)⟩, by simp⟩
    · simp [Value.cells] at hcs
      obtain ⟨rfl, rfl, rfl⟩ := hcs
      obtain ⟨g, hg, hr⟩ := reads_of_ints (k := .u8) hl (by simpa using hz) hcell
      exact ⟨g, _, hg, hl, hm, hr, fun n hn => hwz n (List.mem_of_mem_take hn)⟩
  have hl0 : (bytesOf xs0).length = n0 := by have := rd0.1; simp [cellsK] at this; rw [bytesOf_length]; omega
  have s0 : seen W A0 g0 (bytesOf xs0) := seen_of_reads hl0 (by rw [bv_bytesOf xs0 (fun n hn => by have := wf0 n hn; simpa [Lit.wf, IntKind.min, IntKind.max, IntKind.signed, IntKind.bits] using this)]; exact rd0)
  subst hl0
  obtain ⟨A1, n1, c1, rfl⟩ := okWide_slice Try.underlying28 (hval 1 28 v1 rfl rfl)
  have k1 := h1
  have lt1 : ∀ x ∈ p1, x.block < W.heap.size := by obtain ⟨m, hm⟩ := k1; exact DataW.trod_lt m _ _ _ hm
  obtain ⟨g1, xs1, hb1, hn1, hc1, rd1, wf1⟩ : ∃ g xs, (0 < n1 → g < W.heap.size) ∧ n1 ≤ c1 ∧ c1 ≤ maxLen ∧ reads W A1 g n1 1 (cellsK .u8 xs) ∧ ∀ n ∈ xs, (Lit.int .u8 n).wf = true := by
    obtain ⟨fuel, hf⟩ := h1
    rcases open_ints Try.underlying28 Try.underlying5 (by kernel_rfl) hf with ⟨hcs, _⟩ | ⟨x, l, c, zs, hcs, _, hl, hm, hz, _, hcell, hwz⟩
    · simp [Value.cells] at hcs
      obtain ⟨rfl, rfl, rfl⟩ := hcs
      exact ⟨0, [], fun h => absurd h (by omega), by omega, by simp [maxLen], ⟨rfl, fun h => absurd h (by omega)⟩, by simp⟩
    · simp [Value.cells] at hcs
      obtain ⟨rfl, rfl, rfl⟩ := hcs
      obtain ⟨g, hg, hr⟩ := reads_of_ints (k := .u8) hl (by simpa using hz) hcell
      exact ⟨g, _, hg, hl, hm, hr, fun n hn => hwz n (List.mem_of_mem_take hn)⟩
  have hl1 : (bytesOf xs1).length = n1 := by have := rd1.1; simp [cellsK] at this; rw [bytesOf_length]; omega
  have s1 : seen W A1 g1 (bytesOf xs1) := seen_of_reads hl1 (by rw [bv_bytesOf xs1 (fun n hn => by have := wf1 n hn; simpa [Lit.wf, IntKind.min, IntKind.max, IntKind.signed, IntKind.bits] using this)]; exact rd1)
  subst hl1
  obtain ⟨x2, y2, rfl, wx2, wy2⟩ := open_arr2 (hval 2 43 v2 rfl rfl) h2
  have k2 := h2
  have lt2 : ∀ x ∈ p2, x.block < W.heap.size := by obtain ⟨m, hm⟩ := k2; exact DataW.trod_lt m _ _ _ hm
  clear hA0 hval0
  refine (diskSwaps_law A0 g0 c0 (bytesOf xs0) A1 g1 c1 (bytesOf xs1) x2 y2 W s0 hn0 hc0 s1 hn1 hc1 wx2 wy2).mono fun e W' ⟨he, hkb⟩ => ?_
  subst he
  have bel : Below W.heap.size W W' := hkb.below _ (Nat.le_refl _) (by simp)
  exact ⟨_, rfl, _, _, _, [], _, [], hW', trodAll_mk1 (shut_bool Try.underlying4 _), (trodAll_cons_mk (Below.trod laidOut (by kernel_rfl) (of_decide_eq_true (by kernel_rfl)) k0 bel lt0) (trodAll_cons_mk (Below.trod laidOut (by kernel_rfl) (of_decide_eq_true (by kernel_rfl)) k1 bel lt1) (trodAll_cons_mk (Below.trod laidOut (by kernel_rfl) (of_decide_eq_true (by kernel_rfl)) k2 bel lt2) trodAll_mk0))), rfl, bel.frame _, fun h => by cases h⟩

theorem over : Rows.diskSwapsRow.holds Try.pinned (OpenSpec.ofChange Rows.diskSwapsSpec) :=
  OpenClaim.holds_of_wide 6 Try.f6 rfl rfl rfl rfl rfl rfl rfl ⟨rfl, rfl, rfl, rfl, rfl⟩ rfl rfl rfl rfl rfl (by kernel_rfl) Try.func6 (by kernel_rfl)
    (of_decide_eq_true (by kernel_rfl)) (by unfold Func.isWrapper; first | (rw [if_pos (by decide +kernel)]; kernel_rfl) | (rw [if_neg (by decide +kernel)]; exact ⟨rfl, rfl⟩))
    (fun os started H enc _ => lifted os started H enc)

theorem proved : Rows.DiskSwapsSaid := over
end Go.Proofs.Ytaclpogcedgojaa.diskSwapsDone
