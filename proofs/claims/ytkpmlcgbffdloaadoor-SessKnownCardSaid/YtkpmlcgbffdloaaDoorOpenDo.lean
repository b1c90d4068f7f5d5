/-
  OPENDO: requests, answers, configs, votes, packets, and calls of a session's law that came in as an argument.
-/
import Derived.Test.YtkpmlcgbffdloaaDoorOpen
import Derived.Test.YtkpmlcgbffdloaaDoorSPlay15
import Derived.Deep.Slices
import Derived.ChangeSame
namespace Go.Proofs.YtkpmlcgbffdloaaDoor
open Go.ChangeShapes Go.WideShapes Go.ChangeAt Go.RowKit
set_option linter.unusedVariables false
set_option maxRecDepth 100000

theorem i64P_wf {n : Int} (h : (Lit.int .i64 n).wf = true) : i64P n := by simpa [i64P, Lit.wf, IntKind.min, IntKind.max, IntKind.signed, IntKind.bits] using h
theorem u8_wf {n : Int} (h : (Lit.int .u8 n).wf = true) : 0 ≤ n ∧ n ≤ 255 := by simpa [Lit.wf, IntKind.min, IntKind.max, IntKind.signed, IntKind.bits] using h
theorem oc_int : Tryd.prog.cellsOf 3 = 1 := by kernel_rfl
theorem oc_u8 : Tryd.prog.cellsOf 5 = 1 := by kernel_rfl
theorem oc_bytes : Tryd.prog.cellsOf 35 = 1 := by kernel_rfl
section
variable {H : Type} {enc : TypeId × Value → H} {W : World} {sp : Nat → Bool} {hd : Bool} {fuel : Nat} {cs : List Value} {x : DataW H × List MemPlace}
theorem op_int (h : DataW.trod enc Tryd.prog W 0 sp hd fuel 3 cs = some x) : ∃ n, cs = [.int .i64 n] ∧ i64P n := by
  obtain ⟨n, h1, _, h2⟩ := DataW.trod_int Tryd.underlying3 h
  exact ⟨n, h1, i64P_wf h2⟩
theorem op_bytes (h : DataW.trod enc Tryd.prog W 0 sp hd fuel 35 cs = some x) : ∃ v l F, cs = [v] ∧ bytesV W F v l ∧ ∀ y ∈ F, y < W.heap.size := by
  rcases open_ints Tryd.underlying35 Tryd.underlying5 (by kernel_rfl) h with ⟨rfl, _⟩ | ⟨x, l, c, zs, rfl, _, hl', hm', hz, _, hcl, hwz⟩
  · exact ⟨_, [], [], rfl, bytesV.nil _ _, by simp⟩
  · have hzl : l ≤ zs.length := by rw [hz]; split <;> omega
    have hcl' : ∀ i, i < (zs.take l).length → W.cell? (x.add i) = some (.int .u8 ((zs.take l).getD i 0)) := by
      intro i hi
      rw [List.length_take] at hi
      rw [hcl i (by omega)]
      simp only [List.getD_eq_getElem?_getD, List.getElem?_take]
      rw [if_pos (by omega)]
    obtain ⟨g, hg, hr⟩ := reads_of_ints (k := .u8) (Nat.le_refl l) (by rw [List.length_take]; omega) hcl'
    rw [List.take_of_length_le (by rw [List.length_take]; omega)] at hr
    have hw8 : ∀ n ∈ zs.take l, 0 ≤ n ∧ n ≤ 255 := fun n hn => u8_wf (hwz n (List.mem_of_mem_take hn))
    have hbl : (bytesOf (zs.take l)).length = l := by rw [bytesOf_length, List.length_take]; omega
    rw [← bv_bytesOf _ hw8] at hr
    refine ⟨_, bytesOf (zs.take l), if 0 < l then [g] else [], rfl, ⟨some x, c, g, by rw [hbl], by rw [hbl]; exact hl', hm', seen_of_reads hbl hr, fun hne => ?_⟩, fun y hy => ?_⟩
    · have := List.length_pos_iff.2 hne
      rw [if_pos (by omega)]; simp
    · split at hy
      · simp at hy; subst hy; exact hg (by omega)
      · simp at hy
theorem op_ints (h : DataW.trod enc Tryd.prog W 0 sp hd fuel 32 cs = some x) : ∃ v l F, cs = [v] ∧ intsV W F v l ∧ (∀ n ∈ l, i64P n) ∧ ∀ y ∈ F, y < W.heap.size := by
  rcases open_ints Tryd.underlying32 Tryd.underlying3 (by kernel_rfl) h with ⟨rfl, _⟩ | ⟨x, l, c, zs, rfl, _, hl', hm', hz, _, hcl, hwz⟩
  · exact ⟨_, [], [], rfl, intsV.nil _ _, by simp, by simp⟩
  · have hzl : l ≤ zs.length := by rw [hz]; split <;> omega
    have hcl' : ∀ i, i < (zs.take l).length → W.cell? (x.add i) = some (.int .i64 ((zs.take l).getD i 0)) := by
      intro i hi
      rw [List.length_take] at hi
      rw [hcl i (by omega)]
      simp only [List.getD_eq_getElem?_getD, List.getElem?_take]
      rw [if_pos (by omega)]
    obtain ⟨g, hg, hr⟩ := reads_of_ints (k := .i64) (Nat.le_refl l) (by rw [List.length_take]; omega) hcl'
    rw [List.take_of_length_le (by rw [List.length_take]; omega)] at hr
    have hbl : (zs.take l).length = l := by rw [List.length_take]; omega
    refine ⟨_, zs.take l, if 0 < l then [g] else [], rfl, ⟨some x, c, g, by rw [hbl], by rw [hbl]; exact hl', hm', by rw [hbl]; exact hr, fun hne => ?_⟩, fun n hn => i64P_wf (hwz n (List.mem_of_mem_take hn)), fun y hy => ?_⟩
    · have := List.length_pos_iff.2 hne
      rw [if_pos (by omega)]; simp
    · split at hy
      · simp at hy; subst hy; exact hg (by omega)
      · simp at hy
theorem op_row {k : IntKind} {e t : TypeId} {n : Nat} (ht : Tryd.prog.underlying t = some (.array n e)) (he : Tryd.prog.underlying e = some (.int k)) (hc : Tryd.prog.cellsOf e = 1) (hn : Tryd.prog.cellsOf t = n) (h : DataW.trod enc Tryd.prog W 0 sp hd fuel t cs = some x) : ∃ zs : List Int, zs.length = n ∧ cs = zs.map (Value.int k) ∧ ∀ z ∈ zs, (Lit.int k z).wf = true := by
  obtain ⟨xs, m, _, _, hl, hxl, hx⟩ := DataW.trod_array ht h
  rw [hn] at hl
  have each : ∀ i (hi : i < n), ∃ z, cs[i]? = some (.int k z) ∧ (Lit.int k z).wf = true := fun i hi => by
    have h0 := hx i hi
    rw [hc, Nat.mul_one, List.getElem?_eq_getElem (by omega)] at h0
    obtain ⟨z, h1, _, h2⟩ := DataW.trod_int he h0
    refine ⟨z, ?_, h2⟩
    have := congrArg (fun l => l[0]?) h1
    simpa [List.getElem?_take, List.getElem?_drop] using this
  clear hx hxl
  induction cs generalizing n with
  | nil => exact ⟨[], by simpa using hl, rfl, by simp⟩
  | cons c r ih =>
    cases n with
    | zero => simp at hl
    | succ n =>
      obtain ⟨z, hz, hw⟩ := each 0 (by omega)
      obtain ⟨zs, h1, h2, h3⟩ : ∃ zs : List Int, zs.length = n ∧ r = zs.map (Value.int k) ∧ ∀ z ∈ zs, (Lit.int k z).wf = true := by
        have hr : r.length = n := by simpa using hl
        have er : ∀ i (hi : i < n), ∃ z, r[i]? = some (.int k z) ∧ (Lit.int k z).wf = true := fun i hi => by
          obtain ⟨z, h1, h2⟩ := each (i + 1) (by omega)
          exact ⟨z, by simpa using h1, h2⟩
        clear ih each hl hz hw ht hn h
        induction r generalizing n with
        | nil => exact ⟨[], by simpa using hr, rfl, by simp⟩
        | cons c r ih =>
          cases n with
          | zero => simp at hr
          | succ n =>
            obtain ⟨z, hz, hw⟩ := er 0 (by omega)
            obtain ⟨zs, h1, h2, h3⟩ := ih (n := n) (by simpa using hr) (fun i hi => by obtain ⟨z, h1, h2⟩ := er (i + 1) (by omega); exact ⟨z, by simpa using h1, h2⟩)
            simp at hz
            subst hz h2
            exact ⟨z :: zs, by simp [h1], rfl, fun y hy => by rcases List.mem_cons.1 hy with rfl | hy; exact hw; exact h3 y hy⟩
      simp at hz
      subst hz h2
      exact ⟨z :: zs, by simp [h1], rfl, fun y hy => by rcases List.mem_cons.1 hy with rfl | hy; exact hw; exact h3 y hy⟩
end
theorem oc_name : Tryd.prog.cellsOf 34 = 32 := by kernel_rfl
theorem oc_ints : Tryd.prog.cellsOf 32 = 1 := by kernel_rfl
theorem oc_bool : Tryd.prog.cellsOf 4 = 1 := by kernel_rfl
theorem oc_req : Tryd.prog.cellsOf 37 = 37 := by kernel_rfl
theorem oc_ans : Tryd.prog.cellsOf 39 = 38 := by kernel_rfl
theorem oc_conf : Tryd.prog.cellsOf 41 = 3 := by kernel_rfl
theorem oc_vote : Tryd.prog.cellsOf 110 = 4 := by kernel_rfl
theorem oc_votes : Tryd.prog.cellsOf 42 = 1 := by kernel_rfl
theorem oc_pk : Tryd.prog.cellsOf 44 = 87 := by kernel_rfl
theorem oc_do : Tryd.prog.cellsOf 46 = 127 := by kernel_rfl
theorem fldO {β : Type} {xs : List β} {n i : Nat} (hx : xs.length = n) (hi : i < n) {o : Option β} (h : o = xs[i]?) : ∃ y, o = some y := ⟨xs[i], by rw [h, List.getElem?_eq_getElem]⟩
theorem segO {l s rest : List Value} {o n k : Nat} (h : (l.drop o).take n = s) (hk : o + n = k) (r : l.drop k = rest) : l.drop o = s ++ rest := by
  rw [← List.take_append_drop n (l.drop o), h, List.drop_drop, hk, r]
section
variable {H : Type} {enc : TypeId × Value → H} {W : World} {sp : Nat → Bool} {hd : Bool} {fuel : Nat} {cs : List Value} {x : DataW H × List MemPlace}
theorem op_name (h : DataW.trod enc Tryd.prog W 0 sp hd fuel 34 cs = some x) : ∃ nm : List UInt8, nm.length = 32 ∧ cs = nameL nm := by
  obtain ⟨zs, h1, rfl, h3⟩ := op_row Tryd.underlying34 Tryd.underlying5 (by kernel_rfl) oc_name h
  exact ⟨bytesOf zs, by rw [bytesOf_length, h1], (bv_bytesOf zs (fun n hn => u8_wf (h3 n hn))).symm⟩
theorem op_req (h : DataW.trod enc Tryd.prog W 0 sp hd fuel 37 cs = some x) : ∃ r ev F, cs = rqL r ev ∧ rqV W F r ev ∧ ∀ y ∈ F, y < W.heap.size := by
  obtain ⟨xs, k, _, _, hcl, hxl, hf⟩ := DataW.trod_struct Tryd.underlying37 h
  rw [oc_req] at hcl
  obtain ⟨_, g0⟩ : ∃ y, DataW.trod enc Tryd.prog W 0 sp hd k 3 ((cs.drop 0).take (Tryd.prog.cellsOf 3)) = some y := fldO hxl (by decide) (hf 0 _ rfl)
  obtain ⟨_, g1⟩ : ∃ y, DataW.trod enc Tryd.prog W 0 sp hd k 3 ((cs.drop 1).take (Tryd.prog.cellsOf 3)) = some y := fldO hxl (by decide) (hf 1 _ rfl)
  obtain ⟨_, g2⟩ : ∃ y, DataW.trod enc Tryd.prog W 0 sp hd k 3 ((cs.drop 2).take (Tryd.prog.cellsOf 3)) = some y := fldO hxl (by decide) (hf 2 _ rfl)
  obtain ⟨_, g3⟩ : ∃ y, DataW.trod enc Tryd.prog W 0 sp hd k 3 ((cs.drop 3).take (Tryd.prog.cellsOf 3)) = some y := fldO hxl (by decide) (hf 3 _ rfl)
  obtain ⟨_, g4⟩ : ∃ y, DataW.trod enc Tryd.prog W 0 sp hd k 34 ((cs.drop 4).take (Tryd.prog.cellsOf 34)) = some y := fldO hxl (by decide) (hf 4 _ rfl)
  obtain ⟨_, g5⟩ : ∃ y, DataW.trod enc Tryd.prog W 0 sp hd k 35 ((cs.drop 36).take (Tryd.prog.cellsOf 35)) = some y := fldO hxl (by decide) (hf 5 _ rfl)
  rw [oc_int] at g0 g1 g2 g3
  rw [oc_name] at g4
  rw [oc_bytes] at g5
  obtain ⟨n0, e0, _⟩ := op_int g0
  obtain ⟨n1, e1, _⟩ := op_int g1
  obtain ⟨n2, e2, _⟩ := op_int g2
  obtain ⟨n3, e3, _⟩ := op_int g3
  obtain ⟨nm, hn, e4⟩ := op_name g4
  obtain ⟨ev, l, F, e5, hb, hF⟩ := op_bytes g5
  have z : cs.drop 37 = [] := List.drop_eq_nil_of_le (by omega)
  have q := segO e0 rfl (segO e1 rfl (segO e2 rfl (segO e3 rfl (segO e4 rfl (segO e5 rfl z)))))
  exact ⟨⟨n0, n1, n2, n3, nm, l⟩, ev, F, by simpa [rqL] using q, ⟨hn, hb⟩, hF⟩
theorem op_ans (h : DataW.trod enc Tryd.prog W 0 sp hd fuel 39 cs = some x) : ∃ r ev F, cs = anL r ev ∧ anV W F r ev ∧ ∀ y ∈ F, y < W.heap.size := by
  obtain ⟨xs, k, _, _, hcl, hxl, hf⟩ := DataW.trod_struct Tryd.underlying39 h
  rw [oc_ans] at hcl
  obtain ⟨_, g0⟩ : ∃ y, DataW.trod enc Tryd.prog W 0 sp hd k 3 ((cs.drop 0).take (Tryd.prog.cellsOf 3)) = some y := fldO hxl (by decide) (hf 0 _ rfl)
  obtain ⟨_, g1⟩ : ∃ y, DataW.trod enc Tryd.prog W 0 sp hd k 3 ((cs.drop 1).take (Tryd.prog.cellsOf 3)) = some y := fldO hxl (by decide) (hf 1 _ rfl)
  obtain ⟨_, g2⟩ : ∃ y, DataW.trod enc Tryd.prog W 0 sp hd k 3 ((cs.drop 2).take (Tryd.prog.cellsOf 3)) = some y := fldO hxl (by decide) (hf 2 _ rfl)
  obtain ⟨_, g3⟩ : ∃ y, DataW.trod enc Tryd.prog W 0 sp hd k 3 ((cs.drop 3).take (Tryd.prog.cellsOf 3)) = some y := fldO hxl (by decide) (hf 3 _ rfl)
  obtain ⟨_, g4⟩ : ∃ y, DataW.trod enc Tryd.prog W 0 sp hd k 3 ((cs.drop 4).take (Tryd.prog.cellsOf 3)) = some y := fldO hxl (by decide) (hf 4 _ rfl)
  obtain ⟨_, g5⟩ : ∃ y, DataW.trod enc Tryd.prog W 0 sp hd k 34 ((cs.drop 5).take (Tryd.prog.cellsOf 34)) = some y := fldO hxl (by decide) (hf 5 _ rfl)
  obtain ⟨_, g6⟩ : ∃ y, DataW.trod enc Tryd.prog W 0 sp hd k 35 ((cs.drop 37).take (Tryd.prog.cellsOf 35)) = some y := fldO hxl (by decide) (hf 6 _ rfl)
  rw [oc_int] at g0 g1 g2 g3 g4
  rw [oc_name] at g5
  rw [oc_bytes] at g6
  obtain ⟨n0, e0, _⟩ := op_int g0
  obtain ⟨n1, e1, _⟩ := op_int g1
  obtain ⟨n2, e2, _⟩ := op_int g2
  obtain ⟨n3, e3, _⟩ := op_int g3
  obtain ⟨n4, e4, _⟩ := op_int g4
  obtain ⟨nm, hn, e5⟩ := op_name g5
  obtain ⟨ev, l, F, e6, hb, hF⟩ := op_bytes g6
  have z : cs.drop 38 = [] := List.drop_eq_nil_of_le (by omega)
  have q := segO e0 rfl (segO e1 rfl (segO e2 rfl (segO e3 rfl (segO e4 rfl (segO e5 rfl (segO e6 rfl z))))))
  exact ⟨⟨n0, n1, n2, n3, n4, nm, l⟩, ev, F, by simpa [anL] using q, ⟨hn, hb⟩, hF⟩
theorem op_conf (h : DataW.trod enc Tryd.prog W 0 sp hd fuel 41 cs = some x) : ∃ c cv F, cs = cfL c cv ∧ intsV W F cv c.chain ∧ ∀ y ∈ F, y < W.heap.size := by
  obtain ⟨xs, k, _, _, hcl, hxl, hf⟩ := DataW.trod_struct Tryd.underlying41 h
  rw [oc_conf] at hcl
  obtain ⟨_, g0⟩ : ∃ y, DataW.trod enc Tryd.prog W 0 sp hd k 3 ((cs.drop 0).take (Tryd.prog.cellsOf 3)) = some y := fldO hxl (by decide) (hf 0 _ rfl)
  obtain ⟨_, g1⟩ : ∃ y, DataW.trod enc Tryd.prog W 0 sp hd k 3 ((cs.drop 1).take (Tryd.prog.cellsOf 3)) = some y := fldO hxl (by decide) (hf 1 _ rfl)
  obtain ⟨_, g2⟩ : ∃ y, DataW.trod enc Tryd.prog W 0 sp hd k 32 ((cs.drop 2).take (Tryd.prog.cellsOf 32)) = some y := fldO hxl (by decide) (hf 2 _ rfl)
  rw [oc_int] at g0 g1
  rw [oc_ints] at g2
  obtain ⟨n0, e0, _⟩ := op_int g0
  obtain ⟨n1, e1, _⟩ := op_int g1
  obtain ⟨cv, l, F, e2, hb, _, hF⟩ := op_ints g2
  have z : cs.drop 3 = [] := List.drop_eq_nil_of_le (by omega)
  have q := segO e0 rfl (segO e1 rfl (segO e2 rfl z))
  exact ⟨⟨n0, n1, l⟩, cv, F, by simpa [cfL] using q, hb, hF⟩
theorem op_vote (h : DataW.trod enc Tryd.prog W 0 sp hd fuel 110 cs = some x) : ∃ v cv F, cs = vtL v cv ∧ intsV W F cv v.conf.chain ∧ ∀ y ∈ F, y < W.heap.size := by
  obtain ⟨xs, k, _, _, hcl, hxl, hf⟩ := DataW.trod_struct Tryd.underlying110 h
  rw [oc_vote] at hcl
  obtain ⟨_, g0⟩ : ∃ y, DataW.trod enc Tryd.prog W 0 sp hd k 3 ((cs.drop 0).take (Tryd.prog.cellsOf 3)) = some y := fldO hxl (by decide) (hf 0 _ rfl)
  obtain ⟨_, g1⟩ : ∃ y, DataW.trod enc Tryd.prog W 0 sp hd k 41 ((cs.drop 1).take (Tryd.prog.cellsOf 41)) = some y := fldO hxl (by decide) (hf 1 _ rfl)
  rw [oc_int] at g0
  rw [oc_conf] at g1
  obtain ⟨n0, e0, _⟩ := op_int g0
  obtain ⟨c, cv, F, e1, hb, hF⟩ := op_conf g1
  have z : cs.drop 4 = [] := List.drop_eq_nil_of_le (by omega)
  have q := segO e0 rfl (segO e1 rfl z)
  exact ⟨⟨n0, c⟩, cv, F, by simpa [vtL, cfL] using q, hb, hF⟩
theorem flatVT_getO {T : List (VT × Value)} {j : Nat} {u : Value} (h : (flatVT T)[j]? = some u) : ∃ t, T[j / 4]? = some t ∧ (vtL t.1 t.2)[j % 4]? = some u := by
  have hj : j < (flatVT T).length := (List.getElem?_eq_some_iff.1 h).1
  rw [flatVT_len] at hj
  have hi : j / 4 < T.length := by omega
  refine ⟨T[j / 4], List.getElem?_eq_getElem hi, ?_⟩
  have hr : j % 4 < (vtL T[j / 4].1 T[j / 4].2).length := by show j % 4 < 4; omega
  have := flatVT_at T (j / 4) T[j / 4] (List.getElem?_eq_getElem hi) (j % 4) _ (List.getElem?_eq_getElem hr)
  rw [show j / 4 * 4 + j % 4 = j by omega, h] at this
  rw [List.getElem?_eq_getElem hr]
  exact this.symm ▸ rfl
theorem op_votes (h : DataW.trod enc Tryd.prog W 0 sp hd fuel 42 cs = some x) : ∃ v l F, cs = [v] ∧ votesV W F v l ∧ ∀ y ∈ F, y < W.heap.size := by
  rcases Deep.open_slice Tryd.underlying42 h with ⟨rfl, _⟩ | ⟨a, len, cap, m, n, D, Pl, rfl, hb, hl, hm, hmm, rfl, hx⟩
  · exact ⟨_, [], [], rfl, votesV.nil _ _, by simp⟩
  · have hlm : len ≤ m := by rw [hmm]; split <;> omega
    by_cases h0 : len = 0
    · subst h0
      exact ⟨_, [], [], rfl, ⟨some a, cap, 0, [], rfl, by simp, hm, rfl, ⟨rfl, fun h => absurd h (by simp)⟩, by simp, fun h => absurd rfl h⟩, by simp⟩
    · obtain ⟨g, o, s⟩ := a
      have each : ∀ i, i < len → ∃ z : VT × Value × List Nat, (∀ r u, (vtL z.1 z.2.1)[r]? = some u → W.cell? ((⟨g, o, s⟩ : Addr).add (i * 4 + r)) = some u) ∧ intsV W z.2.2 z.2.1 z.1.conf.chain ∧ ∀ y ∈ z.2.2, y < W.heap.size := fun i hi => by
        obtain ⟨cs', h1, h2⟩ := hx i (by omega)
        rw [oc_vote] at h1
        obtain ⟨_, hlen, hcell⟩ := World.cells?_some h1
        obtain ⟨v, cv, F, e, hv, hF⟩ := op_vote h2
        refine ⟨(v, cv, F), fun r u hu => ?_, hv, hF⟩
        dsimp only at hu
        rw [← e] at hu
        have hr : r < cs'.length := (List.getElem?_eq_some_iff.1 hu).1
        have := hcell r (by omega)
        rw [Deep.add_add, hu] at this
        exact this
      have hs : s = none := by
        obtain ⟨z, h1, _⟩ := each 0 (by omega)
        have c0 := h1 0 _ rfl
        have := World.cell?_spot c0
        simpa [Addr.add] using this
      subst hs
      have : Inhabited (VT × Value × List Nat) := ⟨(⟨0, ⟨0, 0, []⟩⟩, .slice none 0 0, [])⟩
      obtain ⟨f, hf⟩ := Deep.choose_lt each
      have hg : g < W.heap.size := by
        have c0 := (hf 0 (by omega)).1 0 _ rfl
        rw [add_plain] at c0
        simpa using World.block_lt_of_cell? W _ c0
      obtain ⟨T, hT⟩ : ∃ T, (List.range len).map (fun i => ((f i).1, (f i).2.1)) = T := ⟨_, rfl⟩
      have hTl : T.length = len := by rw [← hT]; simp
      have hTi : ∀ i t, T[i]? = some t → i < len ∧ t = ((f i).1, (f i).2.1) := fun i t ht => by
        have hi : i < T.length := (List.getElem?_eq_some_iff.1 ht).1
        rw [← hT, List.getElem?_map, List.getElem?_range (by omega)] at ht
        exact ⟨by omega, (Option.some.inj ht).symm⟩
      refine ⟨_, T.map (·.1), g :: (List.range len).flatMap (fun i => (f i).2.2), rfl, ⟨some ⟨g, o, none⟩, cap, g, T, by rw [List.length_map, hTl], by rw [List.length_map, hTl]; exact hl, hm, rfl, ⟨by rw [flatVT_len, List.length_map], fun _ => ⟨o, rfl, hg, fun j u hu => ?_⟩⟩, fun t ht => ?_, fun _ => by simp⟩, fun y hy => ?_⟩
      · obtain ⟨t, h1, h2⟩ := flatVT_getO hu
        obtain ⟨hi, rfl⟩ := hTi _ _ h1
        have := (hf (j / 4) hi).1 (j % 4) u h2
        rw [add_plain, show j / 4 * 4 + j % 4 = j by omega] at this
        exact this
      · obtain ⟨i, hi⟩ := List.getElem?_of_mem ht
        obtain ⟨hil, rfl⟩ := hTi _ _ hi
        exact (hf i hil).2.1.more (fun y hy => List.mem_cons.2 (.inr (List.mem_flatMap.2 ⟨i, List.mem_range.2 hil, hy⟩)))
      · rcases List.mem_cons.1 hy with rfl | hy
        · exact hg
        · obtain ⟨i, hi, hy⟩ := List.mem_flatMap.1 hy
          exact (hf i (List.mem_range.1 hi)).2.2 y hy
theorem op_boolc (h : DataW.trod enc Tryd.prog W 0 sp hd fuel 4 cs = some x) : ∃ b, cs = [.bool b] := by
  obtain ⟨b, e, _⟩ := DataW.trod_bool Tryd.underlying4 h
  exact ⟨b, e⟩
theorem op_pk (h : DataW.trod enc Tryd.prog W 0 sp hd fuel 44 cs = some x) : ∃ p ev av cv vv bw F, cs = pkL p ev av cv vv bw ∧ pkV W F p ev av cv vv bw ∧ ∀ y ∈ F, y < W.heap.size := by
  obtain ⟨xs, k, _, _, hcl, hxl, hf⟩ := DataW.trod_struct Tryd.underlying44 h
  rw [oc_pk] at hcl
  obtain ⟨_, g0⟩ : ∃ y, DataW.trod enc Tryd.prog W 0 sp hd k 3 ((cs.drop 0).take (Tryd.prog.cellsOf 3)) = some y := fldO hxl (by decide) (hf 0 _ rfl)
  obtain ⟨_, g1⟩ : ∃ y, DataW.trod enc Tryd.prog W 0 sp hd k 3 ((cs.drop 1).take (Tryd.prog.cellsOf 3)) = some y := fldO hxl (by decide) (hf 1 _ rfl)
  obtain ⟨_, g2⟩ : ∃ y, DataW.trod enc Tryd.prog W 0 sp hd k 3 ((cs.drop 2).take (Tryd.prog.cellsOf 3)) = some y := fldO hxl (by decide) (hf 2 _ rfl)
  obtain ⟨_, g3⟩ : ∃ y, DataW.trod enc Tryd.prog W 0 sp hd k 3 ((cs.drop 3).take (Tryd.prog.cellsOf 3)) = some y := fldO hxl (by decide) (hf 3 _ rfl)
  obtain ⟨_, g4⟩ : ∃ y, DataW.trod enc Tryd.prog W 0 sp hd k 3 ((cs.drop 4).take (Tryd.prog.cellsOf 3)) = some y := fldO hxl (by decide) (hf 4 _ rfl)
  obtain ⟨_, g5⟩ : ∃ y, DataW.trod enc Tryd.prog W 0 sp hd k 3 ((cs.drop 5).take (Tryd.prog.cellsOf 3)) = some y := fldO hxl (by decide) (hf 5 _ rfl)
  obtain ⟨_, g6⟩ : ∃ y, DataW.trod enc Tryd.prog W 0 sp hd k 4 ((cs.drop 6).take (Tryd.prog.cellsOf 4)) = some y := fldO hxl (by decide) (hf 6 _ rfl)
  obtain ⟨_, g7⟩ : ∃ y, DataW.trod enc Tryd.prog W 0 sp hd k 37 ((cs.drop 7).take (Tryd.prog.cellsOf 37)) = some y := fldO hxl (by decide) (hf 7 _ rfl)
  obtain ⟨_, g8⟩ : ∃ y, DataW.trod enc Tryd.prog W 0 sp hd k 39 ((cs.drop 44).take (Tryd.prog.cellsOf 39)) = some y := fldO hxl (by decide) (hf 8 _ rfl)
  obtain ⟨_, g9⟩ : ∃ y, DataW.trod enc Tryd.prog W 0 sp hd k 41 ((cs.drop 82).take (Tryd.prog.cellsOf 41)) = some y := fldO hxl (by decide) (hf 9 _ rfl)
  obtain ⟨_, g10⟩ : ∃ y, DataW.trod enc Tryd.prog W 0 sp hd k 42 ((cs.drop 85).take (Tryd.prog.cellsOf 42)) = some y := fldO hxl (by decide) (hf 10 _ rfl)
  obtain ⟨_, g11⟩ : ∃ y, DataW.trod enc Tryd.prog W 0 sp hd k 35 ((cs.drop 86).take (Tryd.prog.cellsOf 35)) = some y := fldO hxl (by decide) (hf 11 _ rfl)
  rw [oc_int] at g0 g1 g2 g3 g4 g5
  rw [oc_bool] at g6
  rw [oc_req] at g7
  rw [oc_ans] at g8
  rw [oc_conf] at g9
  rw [oc_votes] at g10
  rw [oc_bytes] at g11
  obtain ⟨n0, e0, _⟩ := op_int g0
  obtain ⟨n1, e1, _⟩ := op_int g1
  obtain ⟨n2, e2, _⟩ := op_int g2
  obtain ⟨n3, e3, _⟩ := op_int g3
  obtain ⟨n4, e4, _⟩ := op_int g4
  obtain ⟨n5, e5, _⟩ := op_int g5
  obtain ⟨b6, e6⟩ := op_boolc g6
  obtain ⟨r, ev, F7, e7, hr, hF7⟩ := op_req g7
  obtain ⟨a, av, F8, e8, ha, hF8⟩ := op_ans g8
  obtain ⟨c, cv, F9, e9, hc, hF9⟩ := op_conf g9
  obtain ⟨vv, vs, F10, e10, hv, hF10⟩ := op_votes g10
  obtain ⟨bw, bs, F11, e11, hb, hF11⟩ := op_bytes g11
  have z : cs.drop 87 = [] := List.drop_eq_nil_of_le (by omega)
  have q := segO e0 rfl (segO e1 rfl (segO e2 rfl (segO e3 rfl (segO e4 rfl (segO e5 rfl (segO e6 rfl (segO e7 rfl (segO e8 rfl (segO e9 rfl (segO e10 rfl (segO e11 rfl z)))))))))))
  refine ⟨⟨n0, n1, n2, n3, n4, n5, b6, r, a, c, vs, bs⟩, ev, av, cv, vv, bw, F7 ++ (F8 ++ (F9 ++ (F10 ++ F11))), by simpa [pkL] using q, ⟨hr.1, ha.1, hr.2.more (by simp +contextual), ha.2.more (by simp +contextual), hc.more (by simp +contextual), hv.more (by simp +contextual), hb.more (by simp +contextual)⟩, fun y hy => ?_⟩
  simp only [List.mem_append] at hy
  rcases hy with hy | hy | hy | hy | hy
  · exact hF7 y hy
  · exact hF8 y hy
  · exact hF9 y hy
  · exact hF10 y hy
  · exact hF11 y hy
theorem op_do (h : DataW.trod enc Tryd.prog W 0 sp hd fuel 46 cs = some x) : ∃ d cv ev xe xa xc xv xb F, cs = doL d cv ev xe xa xc xv xb ∧ doV W F d cv ev xe xa xc xv xb ∧ ∀ y ∈ F, y < W.heap.size := by
  obtain ⟨xs, k, _, _, hcl, hxl, hf⟩ := DataW.trod_struct Tryd.underlying46 h
  rw [oc_do] at hcl
  obtain ⟨_, g0⟩ : ∃ y, DataW.trod enc Tryd.prog W 0 sp hd k 3 ((cs.drop 0).take (Tryd.prog.cellsOf 3)) = some y := fldO hxl (by decide) (hf 0 _ rfl)
  obtain ⟨_, g1⟩ : ∃ y, DataW.trod enc Tryd.prog W 0 sp hd k 3 ((cs.drop 1).take (Tryd.prog.cellsOf 3)) = some y := fldO hxl (by decide) (hf 1 _ rfl)
  obtain ⟨_, g2⟩ : ∃ y, DataW.trod enc Tryd.prog W 0 sp hd k 32 ((cs.drop 2).take (Tryd.prog.cellsOf 32)) = some y := fldO hxl (by decide) (hf 2 _ rfl)
  obtain ⟨_, g3⟩ : ∃ y, DataW.trod enc Tryd.prog W 0 sp hd k 37 ((cs.drop 3).take (Tryd.prog.cellsOf 37)) = some y := fldO hxl (by decide) (hf 3 _ rfl)
  obtain ⟨_, g4⟩ : ∃ y, DataW.trod enc Tryd.prog W 0 sp hd k 44 ((cs.drop 40).take (Tryd.prog.cellsOf 44)) = some y := fldO hxl (by decide) (hf 4 _ rfl)
  rw [oc_int] at g0 g1
  rw [oc_ints] at g2
  rw [oc_req] at g3
  rw [oc_pk] at g4
  obtain ⟨n0, e0, i0⟩ := op_int g0
  obtain ⟨n1, e1, i1⟩ := op_int g1
  obtain ⟨cv, l, F2, e2, h2, _, hF2⟩ := op_ints g2
  obtain ⟨r, ev, F3, e3, h3, hF3⟩ := op_req g3
  obtain ⟨p, xe, xa, xc, xv, xb, F4, e4, h4, hF4⟩ := op_pk g4
  have z : cs.drop 127 = [] := List.drop_eq_nil_of_le (by omega)
  have q := segO e0 rfl (segO e1 rfl (segO e2 rfl (segO e3 rfl (segO e4 rfl z))))
  refine ⟨⟨n0, n1, l, r, p⟩, cv, ev, xe, xa, xc, xv, xb, F2 ++ (F3 ++ F4), by simpa [doL] using q, ⟨i0, i1, h2.more (by simp +contextual), ⟨h3.1, h3.2.more (by simp +contextual)⟩, ⟨h4.rn, h4.an, h4.re.more (by simp +contextual), h4.ae.more (by simp +contextual), h4.cc.more (by simp +contextual), h4.vs.more (by simp +contextual), h4.bs.more (by simp +contextual)⟩⟩, fun y hy => ?_⟩
  simp only [List.mem_append] at hy
  rcases hy with hy | hy | hy
  · exact hF2 y hy
  · exact hF3 y hy
  · exact hF4 y hy
/-- n calls of a law's lie at A -/
def dos (w : World) (A : Option Addr) (n : Nat) : Prop := 0 < n → ∃ g o, A = some ⟨g, o, none⟩ ∧ g < w.heap.size ∧ ∀ j, j < n → ∃ d cv ev xe xa xc xv xb F, w.rangeAt g (o + j * 127) (doL d cv ev xe xa xc xv xb) ∧ doV w F d cv ev xe xa xc xv xb ∧ ∀ y ∈ F, y < w.heap.size
theorem open_dos (h : DataW.trod enc Tryd.prog W 0 sp hd fuel 23 cs = some x) : ∃ A n c, cs = [.slice A n c] ∧ n ≤ c ∧ c ≤ maxLen ∧ dos W A n := by
  rcases Deep.open_slice Tryd.underlying23 h with ⟨rfl, _⟩ | ⟨a, len, cap, m, n, D, Pl, rfl, hb, hl, hm, hmm, rfl, hx⟩
  · exact ⟨none, 0, 0, rfl, Nat.le_refl _, by simp [maxLen], fun h => absurd h (by omega)⟩
  · refine ⟨some a, len, cap, rfl, hl, hm, fun hn => ?_⟩
    have hlm : len ≤ m := by rw [hmm]; split <;> omega
    obtain ⟨b, o, s⟩ := a
    have hs : s = none := by
      obtain ⟨cs', h1, h2⟩ := hx 0 (by omega)
      rw [oc_do] at h1
      obtain ⟨_, hlen, hcell⟩ := World.cells?_some h1
      have c0 := hcell 0 (by omega)
      rw [List.getElem?_eq_getElem (by omega)] at c0
      have := World.cell?_spot c0
      simpa [Addr.add] using this
    subst hs
    have each : ∀ j, j < len → b < W.heap.size ∧ ∃ d cv ev xe xa xc xv xb F, W.rangeAt b (o + j * 127) (doL d cv ev xe xa xc xv xb) ∧ doV W F d cv ev xe xa xc xv xb ∧ ∀ y ∈ F, y < W.heap.size := by
      intro j hj
      obtain ⟨cs', h1, h2⟩ := hx j (by omega)
      rw [oc_do] at h1
      obtain ⟨_, hlen, hcell⟩ := World.cells?_some h1
      obtain ⟨d, cv, ev, xe, xa, xc, xv, xb, F, rfl, hv, hF⟩ := op_do h2
      have hr : W.rangeAt b (o + j * 127) (doL d cv ev xe xa xc xv xb) := fun r u hu => by
        have hr : r < (doL d cv ev xe xa xc xv xb).length := (List.getElem?_eq_some_iff.1 hu).1
        have := hcell r (by omega)
        rw [Deep.add_add, add_plain, hu, ← Nat.add_assoc] at this
        exact this
      have hc := hr 0 _ rfl
      exact ⟨by simpa using World.block_lt_of_cell? W _ hc, d, cv, ev, xe, xa, xc, xv, xb, F, hr, hv, hF⟩
    exact ⟨b, o, rfl, (each 0 hn).1, fun j hj => (each j hj).2⟩
theorem cells4 : Tryd.prog.cellsOf 22 = 4 := by kernel_rfl
theorem open_arr4 {r : Reach} {b0 : Nat} {v : Value} {d : DataW H} {p : List MemPlace} (hv : Value.okWide Tryd.prog W r b0 22 v) (h : DataW.Trod enc Tryd.prog W 0 sp hd 22 v d p) :
    ∃ a b c e, v = .agg #[.int .i64 a, .int .i64 b, .int .i64 c, .int .i64 e] ∧ i64P a ∧ i64P b ∧ i64P c ∧ i64P e := by
  obtain ⟨cs, rfl, hsz, _⟩ : ∃ cs, v = .agg cs ∧ cs.size = Tryd.prog.cellsOf 22 ∧ Row.okWide Tryd.prog W r b0 22 cs := by
    simpa [Value.okWide, Tryd.underlying22] using hv
  rw [cells4] at hsz
  obtain ⟨c0, c1, c2, c3, rfl⟩ : ∃ a b c e, cs = #[a, b, c, e] := by
    obtain ⟨l⟩ := cs
    match l, hsz with
    | [a, b, c, e], _ => exact ⟨a, b, c, e, rfl⟩
  obtain ⟨fuel, hf⟩ := h
  obtain ⟨xs, m, _, _, _, hl, hx⟩ := DataW.trod_array Tryd.underlying22 hf
  have h0 := hx 0 (by omega)
  have h1 := hx 1 (by omega)
  have h2 := hx 2 (by omega)
  have h3 := hx 3 (by omega)
  rw [oc_int] at h0 h1 h2 h3
  match xs, hl with
  | [y0, y1, y2, y3], _ =>
    simp [Value.cells] at h0 h1 h2 h3
    obtain ⟨a, e0, i0⟩ := op_int h0
    obtain ⟨b, e1, i1⟩ := op_int h1
    obtain ⟨c, e2, i2⟩ := op_int h2
    obtain ⟨e, e3, i3⟩ := op_int h3
    simp at e0 e1 e2 e3
    subst e0 e1 e2 e3
    exact ⟨a, b, c, e, rfl, i0, i1, i2, i3⟩
end
end Go.Proofs.YtkpmlcgbffdloaaDoor
