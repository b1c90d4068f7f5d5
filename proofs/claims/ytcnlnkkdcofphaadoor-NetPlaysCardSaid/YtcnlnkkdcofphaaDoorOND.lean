/-
  OND: OpenND, NetPlays, joined.
-/
import Derived.Test.YtcnlnkkdcofphaaDoorOpen
import Derived.Test.YtcnlnkkdcofphaaDoorRCH
import Derived.Deep.Slices
import Derived.ChangeSame
import Derived.Test.YtcnlnkkdcofphaaDoorRCJ
section
namespace Go.Proofs.YtcnlnkkdcofphaaDoor
open Go.ChangeShapes Go.WideShapes Go.ChangeAt Go.RowKit
set_option linter.unusedVariables false
set_option maxRecDepth 100000
set_option linter.unusedSimpArgs false

/-- what is reached from d is as small as memory -/
def light {H : Type} (t : TypeId) (d : DataW H) : Prop := ∀ n ∈ d.weights Tryd.prog t, n ≤ reachBytes
theorem weightsAll_mem {H : Type} {e : TypeId} : ∀ {l : List (DataW H)} {d : DataW H} {n : Nat}, d ∈ l → n ∈ d.weights Tryd.prog e → n ∈ DataW.weightsAll Tryd.prog e l
  | [], d, n, h, _ => by simp at h
  | a :: r, d, n, h, hn => by
    simp only [DataW.weightsAll]
    rcases List.mem_cons.1 h with rfl | h
    · exact List.mem_append_left _ hn
    · exact List.mem_append_right _ (weightsAll_mem h hn)
theorem weightsEach_mem {H : Type} : ∀ {ts : List TypeId} {ds : List (DataW H)} {i : Nat} {t : TypeId} {d : DataW H} {n : Nat}, ts[i]? = some t → ds[i]? = some d → n ∈ d.weights Tryd.prog t → n ∈ DataW.weightsEach Tryd.prog ts ds
  | [], _, i, _, _, _, h, _, _ => by simp at h
  | _ :: _, [], i, _, _, _, _, h, _ => by simp at h
  | a :: ts, b :: ds, 0, t, d, n, h1, h2, hn => by
    simp at h1 h2
    subst h1 h2
    simp only [DataW.weightsEach]
    exact List.mem_append_left _ hn
  | a :: ts, b :: ds, i + 1, t, d, n, h1, h2, hn => by
    simp only [DataW.weightsEach]
    exact List.mem_append_right _ (weightsEach_mem (by simpa using h1) (by simpa using h2) hn)
theorem light_slice {H : Type} {t e : TypeId} (ht : Tryd.prog.underlying t = some (.slice e)) {es sp : List (DataW H)} (h : light t (.slice es sp)) : (es.length + sp.length) * Tryd.prog.bytesOf e ≤ reachBytes ∧ ∀ d ∈ es, light e d := by
  unfold light at h
  simp only [DataW.weights, ht, List.mem_cons, List.mem_append] at h
  exact ⟨h _ (.inl rfl), fun d hd n hn => h n (.inr (.inl (weightsAll_mem hd hn)))⟩
theorem light_struct {H : Type} {t : TypeId} {fs : Array Field} (ht : Tryd.prog.underlying t = some (.struct fs)) {ds : List (DataW H)} (h : light t (.agg ds)) {i : Nat} {f : Field} {d : DataW H} (hf : fs[i]? = some f) (hd : ds[i]? = some d) : light f.type d := by
  unfold light at h
  simp only [DataW.weights, ht] at h
  exact fun n hn => h n (weightsEach_mem (i := i) (by rw [List.getElem?_map, Array.getElem?_toList, hf]; rfl) hd hn)
theorem fldL {H : Type} {t : TypeId} {fs : Array Field} (ht : Tryd.prog.underlying t = some (.struct fs)) {xs : List (DataW H × List MemPlace)} {pl : List MemPlace} {x : DataW H × List MemPlace} (hx : x = (.agg (xs.map (·.1)), pl)) (hl : light t x.1) (hn : xs.length = fs.size) {i : Nat} {f : Field} (hf : fs[i]? = some f) {o : Option (DataW H × List MemPlace)} (h : o = xs[i]?) : ∃ y, o = some y ∧ light f.type y.1 := by
  have hi : i < xs.length := by rw [hn]; exact (Array.getElem?_eq_some_iff.1 hf).1
  have hy : xs[i]? = some xs[i] := List.getElem?_eq_getElem hi
  rw [hx] at hl
  exact ⟨xs[i], by rw [h, hy], light_struct ht hl hf (by rw [List.getElem?_map, hy]; rfl)⟩
theorem lits_len {H : Type} (k : IntKind) (zs : List Int) : (lits (H := H) k zs).length = zs.length := by simp [lits]
theorem bo_u8 : Tryd.prog.bytesOf 5 = 1 := by kernel_rfl
theorem bo_int : Tryd.prog.bytesOf 3 = 8 := by kernel_rfl
theorem bo_vote : Tryd.prog.bytesOf 75 = 48 := by kernel_rfl
theorem i64P_wf {n : Int} (h : (Lit.int .i64 n).wf = true) : i64P n := by simpa [i64P, Lit.wf, IntKind.min, IntKind.max, IntKind.signed, IntKind.bits] using h
theorem u8_wf {n : Int} (h : (Lit.int .u8 n).wf = true) : 0 ≤ n ∧ n ≤ 255 := by simpa [Lit.wf, IntKind.min, IntKind.max, IntKind.signed, IntKind.bits] using h
theorem oc_int : Tryd.prog.cellsOf 3 = 1 := by kernel_rfl
theorem oc_u8 : Tryd.prog.cellsOf 5 = 1 := by kernel_rfl
theorem oc_bytes : Tryd.prog.cellsOf 30 = 1 := by kernel_rfl
section
variable {H : Type} {enc : TypeId × Value → H} {W : World} {sp : Nat → Bool} {hd : Bool} {fuel : Nat} {cs : List Value} {x : DataW H × List MemPlace}
theorem op_int (h : DataW.trod enc Tryd.prog W 0 sp hd fuel 3 cs = some x) : ∃ n, cs = [.int .i64 n] ∧ i64P n := by
  obtain ⟨n, h1, _, h2⟩ := DataW.trod_int Tryd.underlying3 h
  exact ⟨n, h1, i64P_wf h2⟩
theorem op_bytes (h : DataW.trod enc Tryd.prog W 0 sp hd fuel 30 cs = some x) (hsz : light 30 x.1) : ∃ v l F, cs = [v] ∧ bytesV W F v l ∧ (∀ y ∈ F, y < W.heap.size) ∧ l.length ≤ 140737488355328 := by
  rcases open_ints Tryd.underlying30 Tryd.underlying5 (by kernel_rfl) h with ⟨rfl, _⟩ | ⟨xa, l, c, zs, rfl, _, hl', hm', hz, hxx, hcl, hwz⟩
  · exact ⟨_, [], [], rfl, bytesV.nil _ _, by simp, by simp⟩
  · have hzl : l ≤ zs.length := by rw [hz]; split <;> omega
    have hcl' : ∀ i, i < (zs.take l).length → W.cell? (xa.add i) = some (.int .u8 ((zs.take l).getD i 0)) := by
      intro i hi
      rw [List.length_take] at hi
      rw [hcl i (by omega)]
      simp only [List.getD_eq_getElem?_getD, List.getElem?_take]
      rw [if_pos (by omega)]
    obtain ⟨g, hg, hr⟩ := reads_of_ints (k := .u8) (Nat.le_refl l) (by rw [List.length_take]; omega) hcl'
    rw [List.take_of_length_le (by rw [List.length_take]; omega)] at hr
    have hw8 : ∀ n ∈ zs.take l, 0 ≤ n ∧ n ≤ 255 := fun n hn => u8_wf (hwz n (List.mem_of_mem_take hn))
    have hbl : (bytesOf (zs.take l)).length = l := by rw [bytesOf_length, List.length_take]; omega
    have hbz : l ≤ 140737488355328 := by
      rw [hxx] at hsz
      have h1 := (light_slice Tryd.underlying30 hsz).1
      rw [bo_u8, lits_len, lits_len, List.length_take] at h1
      unfold reachBytes at h1
      omega
    rw [← bv_bytesOf _ hw8] at hr
    refine ⟨_, bytesOf (zs.take l), if 0 < l then [g] else [], rfl, ⟨some xa, c, g, by rw [hbl], by rw [hbl]; exact hl', hm', seen_of_reads hbl hr, fun hne => ?_⟩, fun y hy => ?_, by rw [hbl]; exact hbz⟩
    · have := List.length_pos_iff.2 hne
      rw [if_pos (by omega)]; simp
    · split at hy
      · simp at hy; subst hy; exact hg (by omega)
      · simp at hy
theorem op_ints (h : DataW.trod enc Tryd.prog W 0 sp hd fuel 35 cs = some x) (hsz : light 35 x.1) : ∃ v l F, cs = [v] ∧ intsV W F v l ∧ (∀ n ∈ l, i64P n) ∧ (∀ y ∈ F, y < W.heap.size) ∧ l.length ≤ 17592186044416 := by
  rcases open_ints Tryd.underlying35 Tryd.underlying3 (by kernel_rfl) h with ⟨rfl, _⟩ | ⟨xa, l, c, zs, rfl, _, hl', hm', hz, hxx, hcl, hwz⟩
  · exact ⟨_, [], [], rfl, intsV.nil _ _, by simp, by simp, by simp⟩
  · have hzl : l ≤ zs.length := by rw [hz]; split <;> omega
    have hcl' : ∀ i, i < (zs.take l).length → W.cell? (xa.add i) = some (.int .i64 ((zs.take l).getD i 0)) := by
      intro i hi
      rw [List.length_take] at hi
      rw [hcl i (by omega)]
      simp only [List.getD_eq_getElem?_getD, List.getElem?_take]
      rw [if_pos (by omega)]
    obtain ⟨g, hg, hr⟩ := reads_of_ints (k := .i64) (Nat.le_refl l) (by rw [List.length_take]; omega) hcl'
    rw [List.take_of_length_le (by rw [List.length_take]; omega)] at hr
    have hbl : (zs.take l).length = l := by rw [List.length_take]; omega
    have hbz : l ≤ 17592186044416 := by
      rw [hxx] at hsz
      have h1 := (light_slice Tryd.underlying35 hsz).1
      rw [bo_int, lits_len, lits_len, List.length_take] at h1
      unfold reachBytes at h1
      omega
    refine ⟨_, zs.take l, if 0 < l then [g] else [], rfl, ⟨some xa, c, g, by rw [hbl], by rw [hbl]; exact hl', hm', by rw [hbl]; exact hr, fun hne => ?_⟩, fun n hn => i64P_wf (hwz n (List.mem_of_mem_take hn)), fun y hy => ?_, by rw [hbl]; exact hbz⟩
    · have := List.length_pos_iff.2 hne
      rw [if_pos (by omega)]; simp
    · split at hy
      · simp at hy; subst hy; exact hg (by omega)
      · simp at hy
theorem op_row {k : IntKind} {e t : TypeId} {n : Nat} (ht : Tryd.prog.underlying t = some (.array n e)) (he : Tryd.prog.underlying e = some (.int k)) (hc : Tryd.prog.cellsOf e = 1) (hn : Tryd.prog.cellsOf t = n) (h : DataW.trod enc Tryd.prog W 0 sp hd fuel t cs = some x) : ∃ zs : List Int, zs.length = n ∧ cs = zs.map (Value.int k) ∧ ∀ z ∈ zs, (Lit.int k z).wf = true := by
  obtain ⟨xs, m, _, _, hl, hxl, hx⟩ := DataW.trod_array ht h
  rw [hn] at hl
  have each : ∀ i (hi : i < n), ∃ z, cs[i]? = some (.int k z) ∧ (Lit.int k z).wf = true := fun i hi => by
    have h0 := hx i hi
    rw [hc, Nat.mul_one, List.getElem?_eq_getElem (by omega)] at h0
    obtain ⟨z, h1, _, h2⟩ := DataW.trod_int he h0
    refine ⟨z, ?_, h2⟩
    have := congrArg (fun l => l[0]?) h1
    simpa [List.getElem?_take, List.getElem?_drop] using this
  clear hx hxl
  induction cs generalizing n with
  | nil => exact ⟨[], by simpa using hl, rfl, by simp⟩
  | cons c r ih =>
    cases n with
    | zero => simp at hl
    | succ n =>
      obtain ⟨z, hz, hw⟩ := each 0 (by omega)
      obtain ⟨zs, h1, h2, h3⟩ : ∃ zs : List Int, zs.length = n ∧ r = zs.map (Value.int k) ∧ ∀ z ∈ zs, (Lit.int k z).wf = true := by
        have hr : r.length = n := by simpa using hl
        have er : ∀ i (hi : i < n), ∃ z, r[i]? = some (.int k z) ∧ (Lit.int k z).wf = true := fun i hi => by
          obtain ⟨z, h1, h2⟩ := each (i + 1) (by omega)
          exact ⟨z, by simpa using h1, h2⟩
        clear ih each hl hz hw ht hn h
        induction r generalizing n with
        | nil => exact ⟨[], by simpa using hr, rfl, by simp⟩
        | cons c r ih =>
          cases n with
          | zero => simp at hr
          | succ n =>
            obtain ⟨z, hz, hw⟩ := er 0 (by omega)
            obtain ⟨zs, h1, h2, h3⟩ := ih (n := n) (by simpa using hr) (fun i hi => by obtain ⟨z, h1, h2⟩ := er (i + 1) (by omega); exact ⟨z, by simpa using h1, h2⟩)
            simp at hz
            subst hz h2
            exact ⟨z :: zs, by simp [h1], rfl, fun y hy => by rcases List.mem_cons.1 hy with rfl | hy; exact hw; exact h3 y hy⟩
      simp at hz
      subst hz h2
      exact ⟨z :: zs, by simp [h1], rfl, fun y hy => by rcases List.mem_cons.1 hy with rfl | hy; exact hw; exact h3 y hy⟩
end
theorem oc_name : Tryd.prog.cellsOf 29 = 32 := by kernel_rfl
theorem oc_ints : Tryd.prog.cellsOf 35 = 1 := by kernel_rfl
theorem oc_bool : Tryd.prog.cellsOf 4 = 1 := by kernel_rfl
theorem oc_req : Tryd.prog.cellsOf 32 = 37 := by kernel_rfl
theorem oc_ans : Tryd.prog.cellsOf 34 = 38 := by kernel_rfl
theorem oc_conf : Tryd.prog.cellsOf 37 = 3 := by kernel_rfl
theorem oc_vote : Tryd.prog.cellsOf 75 = 4 := by kernel_rfl
theorem oc_votes : Tryd.prog.cellsOf 38 = 1 := by kernel_rfl
theorem oc_pk : Tryd.prog.cellsOf 40 = 87 := by kernel_rfl
theorem oc_nd : Tryd.prog.cellsOf 42 = 90 := by kernel_rfl
theorem fldO {β : Type} {xs : List β} {n i : Nat} (hx : xs.length = n) (hi : i < n) {o : Option β} (h : o = xs[i]?) : ∃ y, o = some y := ⟨xs[i], by rw [h, List.getElem?_eq_getElem]⟩
theorem segO {l s rest : List Value} {o n k : Nat} (h : (l.drop o).take n = s) (hk : o + n = k) (r : l.drop k = rest) : l.drop o = s ++ rest := by
  rw [← List.take_append_drop n (l.drop o), h, List.drop_drop, hk, r]
section
variable {H : Type} {enc : TypeId × Value → H} {W : World} {sp : Nat → Bool} {hd : Bool} {fuel : Nat} {cs : List Value} {x : DataW H × List MemPlace}
theorem op_name (h : DataW.trod enc Tryd.prog W 0 sp hd fuel 29 cs = some x) : ∃ nm : List UInt8, nm.length = 32 ∧ cs = nameL nm := by
  obtain ⟨zs, h1, rfl, h3⟩ := op_row Tryd.underlying29 Tryd.underlying5 (by kernel_rfl) oc_name h
  exact ⟨bytesOf zs, by rw [bytesOf_length, h1], (bv_bytesOf zs (fun n hn => u8_wf (h3 n hn))).symm⟩
theorem op_req (h : DataW.trod enc Tryd.prog W 0 sp hd fuel 32 cs = some x) (hsz : light 32 x.1) : ∃ r ev F, cs = rqL r ev ∧ rqV W F r ev ∧ (∀ y ∈ F, y < W.heap.size) ∧ r.env.length ≤ 140737488355328 := by
  obtain ⟨xs, k, _, hxx, hcl, hxl, hf⟩ := DataW.trod_struct Tryd.underlying32 h
  rw [oc_req] at hcl
  obtain ⟨_, g0⟩ : ∃ y, DataW.trod enc Tryd.prog W 0 sp hd k 3 ((cs.drop 0).take (Tryd.prog.cellsOf 3)) = some y := fldO hxl (by decide) (hf 0 _ rfl)
  obtain ⟨_, g1⟩ : ∃ y, DataW.trod enc Tryd.prog W 0 sp hd k 3 ((cs.drop 1).take (Tryd.prog.cellsOf 3)) = some y := fldO hxl (by decide) (hf 1 _ rfl)
  obtain ⟨_, g2⟩ : ∃ y, DataW.trod enc Tryd.prog W 0 sp hd k 3 ((cs.drop 2).take (Tryd.prog.cellsOf 3)) = some y := fldO hxl (by decide) (hf 2 _ rfl)
  obtain ⟨_, g3⟩ : ∃ y, DataW.trod enc Tryd.prog W 0 sp hd k 3 ((cs.drop 3).take (Tryd.prog.cellsOf 3)) = some y := fldO hxl (by decide) (hf 3 _ rfl)
  obtain ⟨_, g4⟩ : ∃ y, DataW.trod enc Tryd.prog W 0 sp hd k 29 ((cs.drop 4).take (Tryd.prog.cellsOf 29)) = some y := fldO hxl (by decide) (hf 4 _ rfl)
  obtain ⟨_, g5, l5⟩ : ∃ y, DataW.trod enc Tryd.prog W 0 sp hd k 30 ((cs.drop 36).take (Tryd.prog.cellsOf 30)) = some y ∧ light 30 y.1 := fldL Tryd.underlying32 hxx hsz hxl (i := 5) rfl (hf 5 _ rfl)
  rw [oc_int] at g0 g1 g2 g3
  rw [oc_name] at g4
  rw [oc_bytes] at g5
  obtain ⟨n0, e0, _⟩ := op_int g0
  obtain ⟨n1, e1, _⟩ := op_int g1
  obtain ⟨n2, e2, _⟩ := op_int g2
  obtain ⟨n3, e3, _⟩ := op_int g3
  obtain ⟨nm, hn, e4⟩ := op_name g4
  obtain ⟨ev, l, F, e5, hb, hF, hz⟩ := op_bytes g5 l5
  have z : cs.drop 37 = [] := List.drop_eq_nil_of_le (by omega)
  have q := segO e0 rfl (segO e1 rfl (segO e2 rfl (segO e3 rfl (segO e4 rfl (segO e5 rfl z)))))
  exact ⟨⟨n0, n1, n2, n3, nm, l⟩, ev, F, by simpa [rqL] using q, ⟨hn, hb⟩, hF, hz⟩
theorem op_ans (h : DataW.trod enc Tryd.prog W 0 sp hd fuel 34 cs = some x) (hsz : light 34 x.1) : ∃ r ev F, cs = anL r ev ∧ anV W F r ev ∧ (∀ y ∈ F, y < W.heap.size) ∧ r.env.length ≤ 140737488355328 := by
  obtain ⟨xs, k, _, hxx, hcl, hxl, hf⟩ := DataW.trod_struct Tryd.underlying34 h
  rw [oc_ans] at hcl
  obtain ⟨_, g0⟩ : ∃ y, DataW.trod enc Tryd.prog W 0 sp hd k 3 ((cs.drop 0).take (Tryd.prog.cellsOf 3)) = some y := fldO hxl (by decide) (hf 0 _ rfl)
  obtain ⟨_, g1⟩ : ∃ y, DataW.trod enc Tryd.prog W 0 sp hd k 3 ((cs.drop 1).take (Tryd.prog.cellsOf 3)) = some y := fldO hxl (by decide) (hf 1 _ rfl)
  obtain ⟨_, g2⟩ : ∃ y, DataW.trod enc Tryd.prog W 0 sp hd k 3 ((cs.drop 2).take (Tryd.prog.cellsOf 3)) = some y := fldO hxl (by decide) (hf 2 _ rfl)
  obtain ⟨_, g3⟩ : ∃ y, DataW.trod enc Tryd.prog W 0 sp hd k 3 ((cs.drop 3).take (Tryd.prog.cellsOf 3)) = some y := fldO hxl (by decide) (hf 3 _ rfl)
  obtain ⟨_, g4⟩ : ∃ y, DataW.trod enc Tryd.prog W 0 sp hd k 3 ((cs.drop 4).take (Tryd.prog.cellsOf 3)) = some y := fldO hxl (by decide) (hf 4 _ rfl)
  obtain ⟨_, g5⟩ : ∃ y, DataW.trod enc Tryd.prog W 0 sp hd k 29 ((cs.drop 5).take (Tryd.prog.cellsOf 29)) = some y := fldO hxl (by decide) (hf 5 _ rfl)
  obtain ⟨_, g6, l6⟩ : ∃ y, DataW.trod enc Tryd.prog W 0 sp hd k 30 ((cs.drop 37).take (Tryd.prog.cellsOf 30)) = some y ∧ light 30 y.1 := fldL Tryd.underlying34 hxx hsz hxl (i := 6) rfl (hf 6 _ rfl)
  rw [oc_int] at g0 g1 g2 g3 g4
  rw [oc_name] at g5
  rw [oc_bytes] at g6
  obtain ⟨n0, e0, _⟩ := op_int g0
  obtain ⟨n1, e1, _⟩ := op_int g1
  obtain ⟨n2, e2, _⟩ := op_int g2
  obtain ⟨n3, e3, _⟩ := op_int g3
  obtain ⟨n4, e4, _⟩ := op_int g4
  obtain ⟨nm, hn, e5⟩ := op_name g5
  obtain ⟨ev, l, F, e6, hb, hF, hz⟩ := op_bytes g6 l6
  have z : cs.drop 38 = [] := List.drop_eq_nil_of_le (by omega)
  have q := segO e0 rfl (segO e1 rfl (segO e2 rfl (segO e3 rfl (segO e4 rfl (segO e5 rfl (segO e6 rfl z))))))
  exact ⟨⟨n0, n1, n2, n3, n4, nm, l⟩, ev, F, by simpa [anL] using q, ⟨hn, hb⟩, hF, hz⟩
theorem op_conf (h : DataW.trod enc Tryd.prog W 0 sp hd fuel 37 cs = some x) (hsz : light 37 x.1) : ∃ c cv F, cs = cfL c cv ∧ intsV W F cv c.chain ∧ (∀ y ∈ F, y < W.heap.size) ∧ c.chain.length ≤ 17592186044416 := by
  obtain ⟨xs, k, _, hxx, hcl, hxl, hf⟩ := DataW.trod_struct Tryd.underlying37 h
  rw [oc_conf] at hcl
  obtain ⟨_, g0⟩ : ∃ y, DataW.trod enc Tryd.prog W 0 sp hd k 3 ((cs.drop 0).take (Tryd.prog.cellsOf 3)) = some y := fldO hxl (by decide) (hf 0 _ rfl)
  obtain ⟨_, g1⟩ : ∃ y, DataW.trod enc Tryd.prog W 0 sp hd k 3 ((cs.drop 1).take (Tryd.prog.cellsOf 3)) = some y := fldO hxl (by decide) (hf 1 _ rfl)
  obtain ⟨_, g2, l2⟩ : ∃ y, DataW.trod enc Tryd.prog W 0 sp hd k 35 ((cs.drop 2).take (Tryd.prog.cellsOf 35)) = some y ∧ light 35 y.1 := fldL Tryd.underlying37 hxx hsz hxl (i := 2) rfl (hf 2 _ rfl)
  rw [oc_int] at g0 g1
  rw [oc_ints] at g2
  obtain ⟨n0, e0, _⟩ := op_int g0
  obtain ⟨n1, e1, _⟩ := op_int g1
  obtain ⟨cv, l, F, e2, hb, _, hF, hz⟩ := op_ints g2 l2
  have z : cs.drop 3 = [] := List.drop_eq_nil_of_le (by omega)
  have q := segO e0 rfl (segO e1 rfl (segO e2 rfl z))
  exact ⟨⟨n0, n1, l⟩, cv, F, by simpa [cfL] using q, hb, hF, hz⟩
theorem op_vote (h : DataW.trod enc Tryd.prog W 0 sp hd fuel 75 cs = some x) (hsz : light 75 x.1) : ∃ v cv F, cs = vtL v cv ∧ intsV W F cv v.conf.chain ∧ (∀ y ∈ F, y < W.heap.size) ∧ v.conf.chain.length ≤ 17592186044416 := by
  obtain ⟨xs, k, _, hxx, hcl, hxl, hf⟩ := DataW.trod_struct Tryd.underlying75 h
  rw [oc_vote] at hcl
  obtain ⟨_, g0⟩ : ∃ y, DataW.trod enc Tryd.prog W 0 sp hd k 3 ((cs.drop 0).take (Tryd.prog.cellsOf 3)) = some y := fldO hxl (by decide) (hf 0 _ rfl)
  obtain ⟨_, g1, l1⟩ : ∃ y, DataW.trod enc Tryd.prog W 0 sp hd k 37 ((cs.drop 1).take (Tryd.prog.cellsOf 37)) = some y ∧ light 37 y.1 := fldL Tryd.underlying75 hxx hsz hxl (i := 1) rfl (hf 1 _ rfl)
  rw [oc_int] at g0
  rw [oc_conf] at g1
  obtain ⟨n0, e0, _⟩ := op_int g0
  obtain ⟨c, cv, F, e1, hb, hF, hz⟩ := op_conf g1 l1
  have z : cs.drop 4 = [] := List.drop_eq_nil_of_le (by omega)
  have q := segO e0 rfl (segO e1 rfl z)
  exact ⟨⟨n0, c⟩, cv, F, by simpa [vtL, cfL] using q, hb, hF, hz⟩
theorem flatVT_getO {T : List (VT × Value)} {j : Nat} {u : Value} (h : (flatVT T)[j]? = some u) : ∃ t, T[j / 4]? = some t ∧ (vtL t.1 t.2)[j % 4]? = some u := by
  have hj : j < (flatVT T).length := (List.getElem?_eq_some_iff.1 h).1
  rw [flatVT_len] at hj
  have hi : j / 4 < T.length := by omega
  refine ⟨T[j / 4], List.getElem?_eq_getElem hi, ?_⟩
  have hr : j % 4 < (vtL T[j / 4].1 T[j / 4].2).length := by show j % 4 < 4; omega
  have := flatVT_at T (j / 4) T[j / 4] (List.getElem?_eq_getElem hi) (j % 4) _ (List.getElem?_eq_getElem hr)
  rw [show j / 4 * 4 + j % 4 = j by omega, h] at this
  rw [List.getElem?_eq_getElem hr]
  exact this.symm ▸ rfl
theorem op_votes (h : DataW.trod enc Tryd.prog W 0 sp hd fuel 38 cs = some x) (hsz : light 38 x.1) : ∃ v l F, cs = [v] ∧ votesV W F v l ∧ (∀ y ∈ F, y < W.heap.size) ∧ l.length ≤ 2932031007402 ∧ ∀ v ∈ l, v.conf.chain.length ≤ 17592186044416 := by
  rcases Deep.open_slice Tryd.underlying38 h with ⟨rfl, _⟩ | ⟨a, len, cap, m, n, D, Pl, rfl, hb, hl, hm, hmm, rfl, hx⟩
  · exact ⟨_, [], [], rfl, votesV.nil _ _, by simp, by simp, by simp⟩
  · have hlm : len ≤ m := by rw [hmm]; split <;> omega
    obtain ⟨hs1, hs2⟩ := light_slice Tryd.underlying38 hsz
    have hbz : len ≤ 2932031007402 := by
      rw [bo_vote, List.length_map, List.length_range] at hs1
      unfold reachBytes at hs1
      omega
    by_cases h0 : len = 0
    · subst h0
      exact ⟨_, [], [], rfl, ⟨some a, cap, 0, [], rfl, by simp, hm, rfl, ⟨rfl, fun h => absurd h (by simp)⟩, by simp, fun h => absurd rfl h⟩, by simp, by simp, by simp⟩
    · obtain ⟨g, o, s⟩ := a
      have each : ∀ i, i < len → ∃ z : VT × Value × List Nat, (∀ r u, (vtL z.1 z.2.1)[r]? = some u → W.cell? ((⟨g, o, s⟩ : Addr).add (i * 4 + r)) = some u) ∧ intsV W z.2.2 z.2.1 z.1.conf.chain ∧ (∀ y ∈ z.2.2, y < W.heap.size) ∧ z.1.conf.chain.length ≤ 17592186044416 := fun i hi => by
        obtain ⟨cs', h1, h2⟩ := hx i (by omega)
        rw [oc_vote] at h1
        obtain ⟨_, hlen, hcell⟩ := World.cells?_some h1
        obtain ⟨v, cv, F, e, hv, hF, hz⟩ := op_vote h2 (hs2 _ (List.mem_map.2 ⟨i, List.mem_range.2 hi, rfl⟩))
        refine ⟨(v, cv, F), fun r u hu => ?_, hv, hF, hz⟩
        dsimp only at hu
        rw [← e] at hu
        have hr : r < cs'.length := (List.getElem?_eq_some_iff.1 hu).1
        have := hcell r (by omega)
        rw [Deep.add_add, hu] at this
        exact this
      have hs : s = none := by
        obtain ⟨z, h1, _⟩ := each 0 (by omega)
        have c0 := h1 0 _ rfl
        have := World.cell?_spot c0
        simpa [Addr.add] using this
      subst hs
      have : Inhabited (VT × Value × List Nat) := ⟨(⟨0, ⟨0, 0, []⟩⟩, .slice none 0 0, [])⟩
      obtain ⟨f, hf⟩ := Deep.choose_lt each
      have hg : g < W.heap.size := by
        have c0 := (hf 0 (by omega)).1 0 _ rfl
        rw [add_plain] at c0
        simpa using World.block_lt_of_cell? W _ c0
      obtain ⟨T, hT⟩ : ∃ T, (List.range len).map (fun i => ((f i).1, (f i).2.1)) = T := ⟨_, rfl⟩
      have hTl : T.length = len := by rw [← hT]; simp
      have hTi : ∀ i t, T[i]? = some t → i < len ∧ t = ((f i).1, (f i).2.1) := fun i t ht => by
        have hi : i < T.length := (List.getElem?_eq_some_iff.1 ht).1
        rw [← hT, List.getElem?_map, List.getElem?_range (by omega)] at ht
        exact ⟨by omega, (Option.some.inj ht).symm⟩
      refine ⟨_, T.map (·.1), g :: (List.range len).flatMap (fun i => (f i).2.2), rfl, ⟨some ⟨g, o, none⟩, cap, g, T, by rw [List.length_map, hTl], by rw [List.length_map, hTl]; exact hl, hm, rfl, ⟨by rw [flatVT_len, List.length_map], fun _ => ⟨o, rfl, hg, fun j u hu => ?_⟩⟩, fun t ht => ?_, fun _ => by simp⟩, fun y hy => ?_, by rw [List.length_map, hTl]; exact hbz, fun v hv => ?_⟩
      · obtain ⟨t, h1, h2⟩ := flatVT_getO hu
        obtain ⟨hi, rfl⟩ := hTi _ _ h1
        have := (hf (j / 4) hi).1 (j % 4) u h2
        rw [add_plain, show j / 4 * 4 + j % 4 = j by omega] at this
        exact this
      · obtain ⟨i, hi⟩ := List.getElem?_of_mem ht
        obtain ⟨hil, rfl⟩ := hTi _ _ hi
        exact (hf i hil).2.1.more (fun y hy => List.mem_cons.2 (.inr (List.mem_flatMap.2 ⟨i, List.mem_range.2 hil, hy⟩)))
      · rcases List.mem_cons.1 hy with rfl | hy
        · exact hg
        · obtain ⟨i, hi, hy⟩ := List.mem_flatMap.1 hy
          exact (hf i (List.mem_range.1 hi)).2.2.1 y hy
      · obtain ⟨t, ht, rfl⟩ := List.mem_map.1 hv
        obtain ⟨i, hi⟩ := List.getElem?_of_mem ht
        obtain ⟨hil, rfl⟩ := hTi _ _ hi
        exact (hf i hil).2.2.2
theorem op_boolc (h : DataW.trod enc Tryd.prog W 0 sp hd fuel 4 cs = some x) : ∃ b, cs = [.bool b] := by
  obtain ⟨b, e, _⟩ := DataW.trod_bool Tryd.underlying4 h
  exact ⟨b, e⟩
theorem op_pk (h : DataW.trod enc Tryd.prog W 0 sp hd fuel 40 cs = some x) (hsz : light 40 x.1) : ∃ p ev av cv vv bw F, cs = pkL p ev av cv vv bw ∧ pkV W F p ev av cv vv bw ∧ (∀ y ∈ F, y < W.heap.size) ∧ p.fits ∧ i64P p.frm ∧ i64P p.dst := by
  obtain ⟨xs, k, _, hxx, hcl, hxl, hf⟩ := DataW.trod_struct Tryd.underlying40 h
  rw [oc_pk] at hcl
  obtain ⟨_, g0⟩ : ∃ y, DataW.trod enc Tryd.prog W 0 sp hd k 3 ((cs.drop 0).take (Tryd.prog.cellsOf 3)) = some y := fldO hxl (by decide) (hf 0 _ rfl)
  obtain ⟨_, g1⟩ : ∃ y, DataW.trod enc Tryd.prog W 0 sp hd k 3 ((cs.drop 1).take (Tryd.prog.cellsOf 3)) = some y := fldO hxl (by decide) (hf 1 _ rfl)
  obtain ⟨_, g2⟩ : ∃ y, DataW.trod enc Tryd.prog W 0 sp hd k 3 ((cs.drop 2).take (Tryd.prog.cellsOf 3)) = some y := fldO hxl (by decide) (hf 2 _ rfl)
  obtain ⟨_, g3⟩ : ∃ y, DataW.trod enc Tryd.prog W 0 sp hd k 3 ((cs.drop 3).take (Tryd.prog.cellsOf 3)) = some y := fldO hxl (by decide) (hf 3 _ rfl)
  obtain ⟨_, g4⟩ : ∃ y, DataW.trod enc Tryd.prog W 0 sp hd k 3 ((cs.drop 4).take (Tryd.prog.cellsOf 3)) = some y := fldO hxl (by decide) (hf 4 _ rfl)
  obtain ⟨_, g5⟩ : ∃ y, DataW.trod enc Tryd.prog W 0 sp hd k 3 ((cs.drop 5).take (Tryd.prog.cellsOf 3)) = some y := fldO hxl (by decide) (hf 5 _ rfl)
  obtain ⟨_, g6⟩ : ∃ y, DataW.trod enc Tryd.prog W 0 sp hd k 4 ((cs.drop 6).take (Tryd.prog.cellsOf 4)) = some y := fldO hxl (by decide) (hf 6 _ rfl)
  obtain ⟨_, g7, l7⟩ : ∃ y, DataW.trod enc Tryd.prog W 0 sp hd k 32 ((cs.drop 7).take (Tryd.prog.cellsOf 32)) = some y ∧ light 32 y.1 := fldL Tryd.underlying40 hxx hsz hxl (i := 7) rfl (hf 7 _ rfl)
  obtain ⟨_, g8, l8⟩ : ∃ y, DataW.trod enc Tryd.prog W 0 sp hd k 34 ((cs.drop 44).take (Tryd.prog.cellsOf 34)) = some y ∧ light 34 y.1 := fldL Tryd.underlying40 hxx hsz hxl (i := 8) rfl (hf 8 _ rfl)
  obtain ⟨_, g9, l9⟩ : ∃ y, DataW.trod enc Tryd.prog W 0 sp hd k 37 ((cs.drop 82).take (Tryd.prog.cellsOf 37)) = some y ∧ light 37 y.1 := fldL Tryd.underlying40 hxx hsz hxl (i := 9) rfl (hf 9 _ rfl)
  obtain ⟨_, g10, l10⟩ : ∃ y, DataW.trod enc Tryd.prog W 0 sp hd k 38 ((cs.drop 85).take (Tryd.prog.cellsOf 38)) = some y ∧ light 38 y.1 := fldL Tryd.underlying40 hxx hsz hxl (i := 10) rfl (hf 10 _ rfl)
  obtain ⟨_, g11, l11⟩ : ∃ y, DataW.trod enc Tryd.prog W 0 sp hd k 30 ((cs.drop 86).take (Tryd.prog.cellsOf 30)) = some y ∧ light 30 y.1 := fldL Tryd.underlying40 hxx hsz hxl (i := 11) rfl (hf 11 _ rfl)
  rw [oc_int] at g0 g1 g2 g3 g4 g5
  rw [oc_bool] at g6
  rw [oc_req] at g7
  rw [oc_ans] at g8
  rw [oc_conf] at g9
  rw [oc_votes] at g10
  rw [oc_bytes] at g11
  obtain ⟨n0, e0, _⟩ := op_int g0
  obtain ⟨n1, e1, i1⟩ := op_int g1
  obtain ⟨n2, e2, i2⟩ := op_int g2
  obtain ⟨n3, e3, _⟩ := op_int g3
  obtain ⟨n4, e4, _⟩ := op_int g4
  obtain ⟨n5, e5, _⟩ := op_int g5
  obtain ⟨b6, e6⟩ := op_boolc g6
  obtain ⟨r, ev, F7, e7, hr, hF7, z7⟩ := op_req g7 l7
  obtain ⟨a, av, F8, e8, ha, hF8, z8⟩ := op_ans g8 l8
  obtain ⟨c, cv, F9, e9, hc, hF9, z9⟩ := op_conf g9 l9
  obtain ⟨vv, vs, F10, e10, hv, hF10, z10, zc⟩ := op_votes g10 l10
  obtain ⟨bw, bs, F11, e11, hb, hF11, z11⟩ := op_bytes g11 l11
  have z : cs.drop 87 = [] := List.drop_eq_nil_of_le (by omega)
  have q := segO e0 rfl (segO e1 rfl (segO e2 rfl (segO e3 rfl (segO e4 rfl (segO e5 rfl (segO e6 rfl (segO e7 rfl (segO e8 rfl (segO e9 rfl (segO e10 rfl (segO e11 rfl z)))))))))))
  refine ⟨⟨n0, n1, n2, n3, n4, n5, b6, r, a, c, vs, bs⟩, ev, av, cv, vv, bw, F7 ++ (F8 ++ (F9 ++ (F10 ++ F11))), by simpa [pkL] using q, ⟨hr.1, ha.1, hr.2.more (by simp +contextual), ha.2.more (by simp +contextual), hc.more (by simp +contextual), hv.more (by simp +contextual), hb.more (by simp +contextual)⟩, fun y hy => ?_, ⟨z7, z8, z9, z10, zc, z11⟩, i1, i2⟩
  simp only [List.mem_append] at hy
  rcases hy with hy | hy | hy | hy | hy
  · exact hF7 y hy
  · exact hF8 y hy
  · exact hF9 y hy
  · exact hF10 y hy
  · exact hF11 y hy
theorem op_nd (h : DataW.trod enc Tryd.prog W 0 sp hd fuel 42 cs = some x) (hsz : light 42 x.1) : ∃ d X F, cs = ndL d X ∧ ndV W F d X ∧ ∀ y ∈ F, y < W.heap.size := by
  obtain ⟨xs, k, _, hxx, hcl, hxl, hf⟩ := DataW.trod_struct Tryd.underlying42 h
  rw [oc_nd] at hcl
  obtain ⟨_, g0⟩ : ∃ y, DataW.trod enc Tryd.prog W 0 sp hd k 3 ((cs.drop 0).take (Tryd.prog.cellsOf 3)) = some y := fldO hxl (by decide) (hf 0 _ rfl)
  obtain ⟨_, g1⟩ : ∃ y, DataW.trod enc Tryd.prog W 0 sp hd k 3 ((cs.drop 1).take (Tryd.prog.cellsOf 3)) = some y := fldO hxl (by decide) (hf 1 _ rfl)
  obtain ⟨_, g2⟩ : ∃ y, DataW.trod enc Tryd.prog W 0 sp hd k 4 ((cs.drop 2).take (Tryd.prog.cellsOf 4)) = some y := fldO hxl (by decide) (hf 2 _ rfl)
  obtain ⟨_, g3, l3⟩ : ∃ y, DataW.trod enc Tryd.prog W 0 sp hd k 40 ((cs.drop 3).take (Tryd.prog.cellsOf 40)) = some y ∧ light 40 y.1 := fldL Tryd.underlying42 hxx hsz hxl (i := 3) rfl (hf 3 _ rfl)
  rw [oc_int] at g0 g1
  rw [oc_bool] at g2
  rw [oc_pk] at g3
  obtain ⟨n0, e0, i0⟩ := op_int g0
  obtain ⟨n1, e1, i1⟩ := op_int g1
  obtain ⟨b2, e2⟩ := op_boolc g2
  obtain ⟨p, ev, av, cv, vv, bw, F, e3, hv, hF, hfit, j1, j2⟩ := op_pk g3 l3
  have z : cs.drop 90 = [] := List.drop_eq_nil_of_le (by omega)
  have q := segO e0 rfl (segO e1 rfl (segO e2 rfl (segO e3 rfl z)))
  exact ⟨⟨n0, n1, b2, p⟩, pkL p ev av cv vv bw, F, by simpa [ndL] using q, ⟨i0, i1, ⟨_, _, _, _, _, rfl, hv⟩, hfit, j1, j2⟩, hF⟩
/-- n calls of the law lie at A -/
def nds (w : World) (A : Option Addr) (n : Nat) : Prop := 0 < n → ∃ g o, A = some ⟨g, o, none⟩ ∧ g < w.heap.size ∧ ∀ j, j < n → ∃ d X F, w.rangeAt g (o + j * 90) (ndL d X) ∧ ndV w F d X ∧ ∀ y ∈ F, y < w.heap.size
theorem open_nds (h : DataW.trod enc Tryd.prog W 0 sp hd fuel 22 cs = some x) (hsz : light 22 x.1) : ∃ A n c, cs = [.slice A n c] ∧ n ≤ c ∧ c ≤ maxLen ∧ nds W A n := by
  rcases Deep.open_slice Tryd.underlying22 h with ⟨rfl, _⟩ | ⟨a, len, cap, m, n, D, Pl, rfl, hb, hl, hm, hmm, rfl, hx⟩
  · exact ⟨none, 0, 0, rfl, Nat.le_refl _, by simp [maxLen], fun h => absurd h (by omega)⟩
  · refine ⟨some a, len, cap, rfl, hl, hm, fun hn => ?_⟩
    have hlm : len ≤ m := by rw [hmm]; split <;> omega
    obtain ⟨_, hs2⟩ := light_slice Tryd.underlying22 hsz
    obtain ⟨b, o, s⟩ := a
    have hs : s = none := by
      obtain ⟨cs', h1, h2⟩ := hx 0 (by omega)
      rw [oc_nd] at h1
      obtain ⟨_, hlen, hcell⟩ := World.cells?_some h1
      have c0 := hcell 0 (by omega)
      rw [List.getElem?_eq_getElem (by omega)] at c0
      have := World.cell?_spot c0
      simpa [Addr.add] using this
    subst hs
    have each : ∀ j, j < len → b < W.heap.size ∧ ∃ d X F, W.rangeAt b (o + j * 90) (ndL d X) ∧ ndV W F d X ∧ ∀ y ∈ F, y < W.heap.size := by
      intro j hj
      obtain ⟨cs', h1, h2⟩ := hx j (by omega)
      rw [oc_nd] at h1
      obtain ⟨_, hlen, hcell⟩ := World.cells?_some h1
      obtain ⟨d, X, F, rfl, hv, hF⟩ := op_nd h2 (hs2 _ (List.mem_map.2 ⟨j, List.mem_range.2 hj, rfl⟩))
      have hr : W.rangeAt b (o + j * 90) (ndL d X) := fun r u hu => by
        have hr : r < (ndL d X).length := (List.getElem?_eq_some_iff.1 hu).1
        have := hcell r (by omega)
        rw [Deep.add_add, add_plain, hu, ← Nat.add_assoc] at this
        exact this
      have hc := hr 0 _ rfl
      exact ⟨by simpa using World.block_lt_of_cell? W _ hc, d, X, F, hr, hv, hF⟩
    exact ⟨b, o, rfl, (each 0 hn).1, fun j hj => (each j hj).2⟩
end
end Go.Proofs.YtcnlnkkdcofphaaDoor
end

section
namespace Go.Proofs.YtcnlnkkdcofphaaDoor
open Go.RowKit
set_option linter.unusedVariables false
set_option maxRecDepth 100000
set_option linter.unusedSimpArgs false

theorem wpAnyH_turn {P : Program} {md : Region.Mode} {ops : Array Oper} {Q : Exit → Act → World → Prop} {S S' : World → Prop} (hS : ∀ w, S' w → S w) : ∀ (fuel : Nat) (listed : Array Bool) (a : Act) (w : World), wpAnyH P md ops Q S' fuel listed a w → wpAnyH P md ops Q S fuel listed a w
  | 0, _, _, _, h => h
  | fuel + 1, _, _, _, h => ⟨h.1, fun i hi => wpOp_mono (fun a' w' h' => ⟨hS _ h'.1, wpAnyH_turn hS fuel _ a' w' h'.2⟩) (h.2 i hi)⟩
theorem step_any {w0 w : World} {p m : Nat} {L : List PK} {c : Nat} (h : nets [] w0 w p m L c) (hL : L.length ≤ 200) (hc : c ≤ 200) (hfl : fieldsAt w0) {F : List Nat} {d : ND} {X : List Value} (hd : ndV w0 F d X) (hF : ∀ y ∈ F, y < w0.heap.size) :
    Calls Tryd.prog 10 #[.pointer (some ⟨p, 0, none⟩), .pointer (some ⟨m, 0, none⟩), .agg (ndL d X).toArray] w (netsPost w0 p m L c) := by
  have h8 := Int.emod_nonneg d.kind (show (8 : Int) ≠ 0 by decide)
  have h9 := Int.emod_lt_of_pos d.kind (show (0 : Int) < 8 by decide)
  by_cases hr : 0 ≤ d.at L.length ∧ d.at L.length < L.length
  · by_cases k4 : d.kind % 8 = 4
    · exact step_take h hL hc hfl hd hF k4 hr
    · by_cases k5 : d.kind % 8 = 5
      · exact step_drop h hL hc hfl hd hF k5 hr
      · by_cases k6 : d.kind % 8 = 6
        · exact step_twice h hL hc hfl hd hF k6 hr
        · by_cases k7 : d.kind % 8 = 7
          · exact step_at h hL hc hfl hd hF k7 hr
          · cases hok : d.p.cutL.ok with
            | true => exact step_put h hL hc hfl hd hF (by omega) rfl hok
            | false => exact step_put_no h hL hc hfl hd hF (by omega) rfl hok
  · by_cases k4 : d.kind % 8 = 4
    · exact step_take_no h hL hc hfl hd hF k4 hr
    · by_cases k5 : d.kind % 8 = 5
      · exact step_drop_no h hL hc hfl hd hF k5 hr
      · by_cases k6 : d.kind % 8 = 6
        · exact step_twice_no h hL hc hfl hd hF k6 hr
        · by_cases k7 : d.kind % 8 = 7
          · exact step_at_no h hL hc hfl hd hF k7 hr
          · cases hok : d.p.cutL.ok with
            | true => exact step_put h hL hc hfl hd hF (by omega) rfl hok
            | false => exact step_put_no h hL hc hfl hd hF (by omega) rfl hok
theorem toK_fst (T U : List (PK × List Value)) (who : Int) (h : T.map (·.1) = U.map (·.1)) : ∀ k, toK T who k = toK U who k
  | 0 => rfl
  | k + 1 => by
    have h1 : (T[k]?).map (·.1) = (U[k]?).map (·.1) := by rw [← List.getElem?_map, h, List.getElem?_map]
    simp only [toK, toK_fst T U who h k]
    cases hT : T[k]? <;> cases hU : U[k]? <;> rw [hT, hU] at h1 <;> simp at h1 ⊢
    simp only [h1]
def playsR (w : World) (p m n : Nat) (v5 : Value) (wx : World) : Prop := ∃ (i : Nat) (L : List PK) (c : Nat), i ≤ n ∧ i ≤ 100 ∧ v5 = .int .i64 (i : Int) ∧ L.length ≤ i ∧ c ≤ i ∧ Hid (nets [] w wx p m L c)
set_option maxHeartbeats 32000000 in
theorem netPlays_law (A : Option Addr) (n c : Nat) (w : World) (hr : nds w A n) (hn : n ≤ c) (hc : c ≤ maxLen) (hfl : fieldsAt w) :
    Calls Tryd.prog 3 #[.slice A n c] w fun e w' => e = .returned (.bool true) ∧ keepBut [] w w' := by
  have hnm : n ≤ 9223372036854775807 := by unfold maxLen at hc; omega
  have HR := Lib.hid hr
  have HFL := Lib.hid hfl
  have HC := Lib.hid (And.intro hn hc)
  clear hr hn hc hfl
  go_enter Tryd.func3, Tryd.ntmps3
  go_wp2_with (first
    | (go_at_call 8; (with_reducible refine (newN_any _).mono ?_); rintro e w1 ⟨p, rfl, n1, k1, l1⟩; have H1 := Lib.hid (And.intro n1 (And.intro k1 l1)); clear n1 k1 l1)
    | (go_at_call 9; (with_reducible refine (newM_any _).mono ?_); rintro e w2 ⟨m, rfl, n2, k2, l2⟩; have H2 := Lib.hid (And.intro n2 (And.intro k2 l2)); clear n2 k2 l2))
  have HL : Hid (nets [] w w2 p m [] 0) := Lib.hid (by
    have hp := H1.out.1.row.lt
    have s1 := H1.out.2.1.size
    have e1 := H1.out.2.2
    have e2 := H2.out.2.2
    refine ⟨⟨_, [], [], _, [], [], ⟨H1.out.1.over H2.out.2.1, H2.out.1, ?_, by simp, by simp, H1.out.2.1.then H2.out.2.1 (by simp), ?_, by simp⟩, rfl, rfl⟩, by simp⟩
    · intro x hx hm
      simp only [homes_none, List.mem_singleton] at hx hm
      omega
    · intro x hx
      simp only [allB, homes_none, List.mem_singleton, List.not_mem_nil, or_false] at hx
      omega)
  clear H1 H2
  go_loopw [5, 6] (fun v5 _ wx => playsR w p m n v5 wx) (fun v5 _ _ => 100 - (intOf v5).toNat)
  case atStart => exact ⟨0, [], 0, Nat.zero_le _, by omega, rfl, by simp, by omega, HL⟩
  case round =>
    obtain ⟨i, L, cc, hil, hi100, rfl, hLi, hci, HB⟩ := hrel
    by_cases hrun : i < n ∧ i < 100
    · have hi2 : (i : Int) < (n : Int) := by omega
      have hi3 : (i : Int) < 100 := by omega
      have hi0 : (0 : Int) ≤ (i : Int) := by omega
      have hwr : IntKind.i64.wrap ((i : Int) + 1) = (i : Int) + 1 := by rw [IntKind.wrap_i64]; omega
      obtain ⟨g, o, rfl, hg, hat⟩ := HR.out (by omega)
      obtain ⟨d, X, F, hrg, hdv, hF⟩ := hat i hrun.1
      have x1 := hrg 1 _ (show (ndL d X)[1]? = some (.int .i64 d.n) from rfl)
      have hYl : (ndL d X).length = 90 := ndL_len hdv.v.len
      have HST := Lib.hid (step_any (w := wr.drew) (HB.out.over (keepBut.refl [] wr).drew) (by omega) (by omega) HFL.out hdv hF)
      have hdi := hdv.i
      obtain ⟨Y, hY⟩ : ∃ Y, ndL d X = Y := ⟨_, rfl⟩
      rw [hY] at hrg HST hYl
      have HY := Lib.hid (show (∀ W, keepBut [] w W → W.rangeAt g (o + i * 90) Y) ∧ (∀ W, keepBut [] w W → W.cell? ⟨g, o + i * 90 + 1, none⟩ = some (.int .i64 d.n)) ∧ (Tryd.prog.info? 42).map (·.size) = some Y.length from ⟨fun W hk => rangeAt.keep hrg hk (by simp), fun W hk => (hk.cell (p := ⟨g, o + i * 90 + 1, none⟩) hg (by simp)).trans x1, by rw [hYl]; exact info_nd⟩)
      have HLN := Lib.hid (And.intro hLi (And.intro hci hrun))
      unfold i64P at hdi
      clear hat hrg x1 hYl hY hrun hLi hci hg
      go_upto_region 5 with fail
      refine wp_region_held_drew (S := keepBut [] w) (by kernel_rfl) (HB.out.kept.drew) (fun kW => ?_)
      have KW := Lib.hid kW
      clear kW
      have HST := HST
      generalize wr.drew = W0 at HST KW ⊢
      refine wpAnyH_take (i := 0) (oi := ⟨_, _, _, _, _, _⟩) (v := ?_) rfl (by kernel_rfl) (by kernel_rfl) (by kernel_rfl) (fun _ _ _ h => h) (Or.inl ⟨by rfl, ?_⟩) KW.out ?_
      rotate_left
      · intro w' hSw; clear hSw; (go_simp; try with_reducible rfl)
      try simp only [Act.put, List.setIfInBounds_toArray, List.set_cons_zero, List.set_cons_succ]
      refine wpAnyH_take (i := 1) (oi := ⟨_, _, _, _, _, _⟩) (v := ?_) rfl (by kernel_rfl) (by kernel_rfl) (by kernel_rfl) (fun _ _ _ h => h) (Or.inl ⟨by rfl, ?_⟩) KW.out ?_
      rotate_left
      · intro w' hSw; clear hSw; (go_simp; try with_reducible rfl)
      try simp only [Act.put, List.setIfInBounds_toArray, List.set_cons_zero, List.set_cons_succ]
      refine wpAnyH_take (i := 2) (oi := ⟨_, _, _, _, _, _⟩) (v := ?_) rfl (by kernel_rfl) (by kernel_rfl) (by kernel_rfl) (fun _ _ _ h => h) (Or.inl ⟨by rfl, ?_⟩) KW.out ?_
      rotate_left
      · intro w' hSw; clear hSw; (go_simp; try with_reducible rfl)
      try simp only [Act.put, List.setIfInBounds_toArray, List.set_cons_zero, List.set_cons_succ]
      refine wpAnyH_take (i := 3) (oi := ⟨_, _, _, _, _, _⟩) (v := ?_) rfl (by kernel_rfl) (by kernel_rfl) (by kernel_rfl) (fun _ _ _ h => h) (Or.inl ⟨by rfl, ?_⟩) KW.out ?_
      rotate_left
      · intro w' hSw; clear hSw; (go_simp; try with_reducible rfl)
      try simp only [Act.put, List.setIfInBounds_toArray, List.set_cons_zero, List.set_cons_succ]
      refine wpAnyH_take (i := 4) (oi := ⟨_, _, _, _, _, _⟩) (v := ?_) rfl (by kernel_rfl) (by kernel_rfl) (by kernel_rfl) (fun _ _ _ h => h) (Or.inl ⟨by rfl, ?_⟩) KW.out ?_
      rotate_left
      · intro w' hSw; clear hSw; (go_simp; try with_reducible rfl)
      try simp only [Act.put, List.setIfInBounds_toArray, List.set_cons_zero, List.set_cons_succ]
      refine wpAnyH_take (i := 5) (oi := ⟨_, _, _, _, _, _⟩) (v := .agg Y.toArray) rfl (by kernel_rfl) (by kernel_rfl) (by kernel_rfl) (fun _ _ _ h => h) (yieldsIf_mid 42 (.tmp 26) rfl g (o + i * 90) rfl Y _ (fun w' hSw => HY.out.1 _ hSw) Tryd.underlying42 rfl HY.out.2.2 ?_) KW.out ?_
      · rfl
      try simp only [Act.put, List.setIfInBounds_toArray, List.set_cons_zero, List.set_cons_succ]
      refine wpAnyH_ready (rs := [6]) (by kernel_rfl) (by simp) ?_
      refine AllReadyH.cons (o := ⟨_, _, _, _, _, _⟩) rfl (fun KK hKK => ?_) AllReadyH.nil
      go_simp
      (with_reducible refine HST.out.mono ?_)
      rintro e w5 ⟨L5, c5, rfl, n5, hL5, hc5⟩
      have H5 := Lib.hid (And.intro n5 (And.intro hL5 hc5))
      clear n5 hL5 hc5
      go_wp2_with fail
      refine hKK.out _ _ H5.out.1.kept (fun _ => ?_)
      clear hKK KK
      try simp only [Act.put, List.setIfInBounds_toArray, List.set_cons_zero, List.set_cons_succ]
      obtain ⟨vN, TN, FN, vM, TM, FM, b5, eN, eM⟩ := H5.out.1.is
      obtain ⟨AM, kM, rfl, _⟩ := b5.r.form
      have z0 : w5.cell? ⟨m, 0, none⟩ = some (.slice AM TM.length kM) := b5.r.row.cell 0
      have z1 : w5.cell? ⟨m, 1, none⟩ = some (.int .i64 c5) := b5.r.row.cell 1
      have HLEN := Lib.hid (lenN_any p vN TN FN c5 w5 b5.n)
      have HCNT := Lib.hid (countN_any p vN TN FN c5 w5 b5.n)
      rw [map_len eN] at HLEN
      rw [map_len eM] at z0
      obtain ⟨l5, hl5⟩ : ∃ l, L5.length = l := ⟨_, rfl⟩
      rw [hl5] at HLEN z0
      have HB5 := Lib.hid (And.intro b5 (And.intro eN (And.intro eM hl5)))
      clear b5 eN eM hl5
      refine wpAnyH_turn (S := keepBut [] w) (S' := fun W => W = w5) (fun W h => by rw [h]; exact H5.out.1.kept) _ _ _ _ ?_
      refine wpAnyH_take (i := 7) (oi := ⟨_, _, _, _, _, _⟩) (v := ?_) rfl (by kernel_rfl) (by kernel_rfl) (by kernel_rfl) (fun _ _ _ h => h) (Or.inl ⟨by rfl, ?_⟩) rfl ?_
      rotate_left
      · intro w' hSw; have e5 : w' = w5 := hSw; rw [e5]; clear hSw; (go_simp; try with_reducible rfl)
      try simp only [Act.put, List.setIfInBounds_toArray, List.set_cons_zero, List.set_cons_succ]
      refine wpAnyH_take (i := 8) (oi := ⟨_, _, _, _, _, _⟩) (v := ?_) rfl (by kernel_rfl) (by kernel_rfl) (by kernel_rfl) (fun _ _ _ h => h) (Or.inl ⟨by rfl, ?_⟩) rfl ?_
      rotate_left
      · intro w' hSw; have e5 : w' = w5 := hSw; rw [e5]; clear hSw; (go_simp; try with_reducible rfl)
      try simp only [Act.put, List.setIfInBounds_toArray, List.set_cons_zero, List.set_cons_succ]
      refine wpAnyH_take (i := 9) (oi := ⟨_, _, _, _, _, _⟩) (v := ?_) rfl (by kernel_rfl) (by kernel_rfl) (by kernel_rfl) (fun _ _ _ h => h) (Or.inl ⟨by rfl, ?_⟩) rfl ?_
      rotate_left
      · intro w' hSw; have e5 : w' = w5 := hSw; rw [e5]; clear hSw; (go_simp; try with_reducible rfl)
      try simp only [Act.put, List.setIfInBounds_toArray, List.set_cons_zero, List.set_cons_succ]
      refine wpAnyH_take (i := 11) (oi := ⟨_, _, _, _, _, _⟩) (v := ?_) rfl (by kernel_rfl) (by kernel_rfl) (by kernel_rfl) (fun _ _ _ h => h) (Or.inl ⟨by rfl, ?_⟩) rfl ?_
      rotate_left
      · intro w' hSw; have e5 : w' = w5 := hSw; rw [e5]; clear hSw; (go_simp; try with_reducible rfl)
      try simp only [Act.put, List.setIfInBounds_toArray, List.set_cons_zero, List.set_cons_succ]
      refine wpAnyH_take (i := 12) (oi := ⟨_, _, _, _, _, _⟩) (v := ?_) rfl (by kernel_rfl) (by kernel_rfl) (by kernel_rfl) (fun _ _ _ h => h) (Or.inl ⟨by rfl, ?_⟩) rfl ?_
      rotate_left
      · intro w' hSw; have e5 : w' = w5 := hSw; rw [e5]; clear hSw; (go_simp; try with_reducible rfl)
      try simp only [Act.put, List.setIfInBounds_toArray, List.set_cons_zero, List.set_cons_succ]
      refine wpAnyH_take (i := 13) (oi := ⟨_, _, _, _, _, _⟩) (v := ?_) rfl (by kernel_rfl) (by kernel_rfl) (by kernel_rfl) (fun _ _ _ h => h) (Or.inl ⟨by rfl, ?_⟩) rfl ?_
      rotate_left
      · intro w' hSw; have e5 : w' = w5 := hSw; rw [e5]; clear hSw; (go_simp; try with_reducible rfl)
      try simp only [Act.put, List.setIfInBounds_toArray, List.set_cons_zero, List.set_cons_succ]
      refine wpAnyH_take (i := 14) (oi := ⟨_, _, _, _, _, _⟩) (v := ?_) rfl (by kernel_rfl) (by kernel_rfl) (by kernel_rfl) (fun _ _ _ h => h) (Or.inl ⟨by rfl, ?_⟩) rfl ?_
      rotate_left
      · intro w' hSw; have e5 : w' = w5 := hSw; rw [e5]; clear hSw; (go_simp; try with_reducible rfl)
      try simp only [Act.put, List.setIfInBounds_toArray, List.set_cons_zero, List.set_cons_succ]
      refine wpAnyH_take (i := 15) (oi := ⟨_, _, _, _, _, _⟩) (v := ?_) rfl (by kernel_rfl) (by kernel_rfl) (by kernel_rfl) (fun _ _ _ h => h) (Or.inl ⟨by rfl, ?_⟩) rfl ?_
      rotate_left
      · intro w' hSw; have e5 : w' = w5 := hSw; rw [e5]; clear hSw; (go_simp; try with_reducible rfl)
      try simp only [Act.put, List.setIfInBounds_toArray, List.set_cons_zero, List.set_cons_succ]
      refine wpAnyH_ready (rs := [10]) (by kernel_rfl) (by simp) ?_
      refine AllReadyH.cons (o := ⟨_, _, _, _, _, _⟩) rfl (fun KK hKK => ?_) AllReadyH.nil
      go_simp
      (with_reducible refine HLEN.out.mono ?_)
      rintro e w6 ⟨rfl, rfl⟩
      go_wp2_with fail
      refine hKK.out _ _ rfl (fun _ => ?_)
      clear hKK KK
      try simp only [Act.put, List.setIfInBounds_toArray, List.set_cons_zero, List.set_cons_succ]
      refine wpAnyH_take (i := 16) (oi := ⟨_, _, _, _, _, _⟩) (v := ?_) rfl (by kernel_rfl) (by kernel_rfl) (by kernel_rfl) (fun _ _ _ h => h) (Or.inl ⟨by rfl, ?_⟩) rfl ?_
      rotate_left
      · intro w' hSw; have e5 : w' = w5 := hSw; rw [e5]; clear hSw; (go_simp; try with_reducible rfl)
      try simp only [Act.put, List.setIfInBounds_toArray, List.set_cons_zero, List.set_cons_succ]
      refine wpAnyH_take (i := 17) (oi := ⟨_, _, _, _, _, _⟩) (v := ?_) rfl (by kernel_rfl) (by kernel_rfl) (by kernel_rfl) (fun _ _ _ h => h) (Or.inl ⟨by rfl, ?_⟩) rfl ?_
      rotate_left
      · intro w' hSw; have e5 : w' = w5 := hSw; rw [e5]; clear hSw; (go_simp; try with_reducible rfl)
      try simp only [Act.put, List.setIfInBounds_toArray, List.set_cons_zero, List.set_cons_succ]
      refine wpAnyH_take (i := 18) (oi := ⟨_, _, _, _, _, _⟩) (v := ?_) rfl (by kernel_rfl) (by kernel_rfl) (by kernel_rfl) (fun _ _ _ h => h) (Or.inl ⟨by rfl, ?_⟩) rfl ?_
      rotate_left
      · intro w' hSw; have e5 : w' = w5 := hSw; rw [e5]; clear hSw; (go_simp; try with_reducible rfl)
      try simp only [Act.put, List.setIfInBounds_toArray, List.set_cons_zero, List.set_cons_succ]
      refine wpAnyH_take (i := 19) (oi := ⟨_, _, _, _, _, _⟩) (v := ?_) rfl (by kernel_rfl) (by kernel_rfl) (by kernel_rfl) (fun _ _ _ h => h) (Or.inl ⟨by rfl, ?_⟩) rfl ?_
      rotate_left
      · intro w' hSw; have e5 : w' = w5 := hSw; rw [e5]; clear hSw; (go_simp; try with_reducible rfl)
      try simp only [Act.put, List.setIfInBounds_toArray, List.set_cons_zero, List.set_cons_succ]
      refine wpAnyH_take (i := 21) (oi := ⟨_, _, _, _, _, _⟩) (v := ?_) rfl (by kernel_rfl) (by kernel_rfl) (by kernel_rfl) (fun _ _ _ h => h) (Or.inl ⟨by rfl, ?_⟩) rfl ?_
      rotate_left
      · intro w' hSw; have e5 : w' = w5 := hSw; rw [e5]; clear hSw; (go_simp; try with_reducible rfl)
      try simp only [Act.put, List.setIfInBounds_toArray, List.set_cons_zero, List.set_cons_succ]
      refine wpAnyH_take (i := 22) (oi := ⟨_, _, _, _, _, _⟩) (v := ?_) rfl (by kernel_rfl) (by kernel_rfl) (by kernel_rfl) (fun _ _ _ h => h) (Or.inl ⟨by rfl, ?_⟩) rfl ?_
      rotate_left
      · intro w' hSw; have e5 : w' = w5 := hSw; rw [e5]; clear hSw; (go_simp; try with_reducible rfl)
      try simp only [Act.put, List.setIfInBounds_toArray, List.set_cons_zero, List.set_cons_succ]
      refine wpAnyH_take (i := 23) (oi := ⟨_, _, _, _, _, _⟩) (v := ?_) rfl (by kernel_rfl) (by kernel_rfl) (by kernel_rfl) (fun _ _ _ h => h) (Or.inl ⟨by rfl, ?_⟩) rfl ?_
      rotate_left
      · intro w' hSw; have e5 : w' = w5 := hSw; rw [e5]; clear hSw; (go_simp; try with_reducible rfl)
      try simp only [Act.put, List.setIfInBounds_toArray, List.set_cons_zero, List.set_cons_succ]
      refine wpAnyH_take (i := 24) (oi := ⟨_, _, _, _, _, _⟩) (v := ?_) rfl (by kernel_rfl) (by kernel_rfl) (by kernel_rfl) (fun _ _ _ h => h) (Or.inl ⟨by rfl, ?_⟩) rfl ?_
      rotate_left
      · intro w' hSw; have e5 : w' = w5 := hSw; rw [e5]; clear hSw; (go_simp; try with_reducible rfl)
      try simp only [Act.put, List.setIfInBounds_toArray, List.set_cons_zero, List.set_cons_succ]
      refine wpAnyH_ready (rs := [20]) (by kernel_rfl) (by simp) ?_
      refine AllReadyH.cons (o := ⟨_, _, _, _, _, _⟩) rfl (fun KK hKK => ?_) AllReadyH.nil
      go_simp
      (with_reducible refine HCNT.out.mono ?_)
      rintro e w6 ⟨rfl, rfl⟩
      go_wp2_with fail
      refine hKK.out _ _ rfl (fun _ => ?_)
      clear hKK KK
      try simp only [Act.put, List.setIfInBounds_toArray, List.set_cons_zero, List.set_cons_succ]
      refine wpAnyH_take (i := 25) (oi := ⟨_, _, _, _, _, _⟩) (v := ?_) rfl (by kernel_rfl) (by kernel_rfl) (by kernel_rfl) (fun _ _ _ h => h) (Or.inl ⟨by rfl, ?_⟩) rfl ?_
      rotate_left
      · intro w' hSw; have e5 : w' = w5 := hSw; rw [e5]; clear hSw; (go_simp; try with_reducible rfl)
      try simp only [Act.put, List.setIfInBounds_toArray, List.set_cons_zero, List.set_cons_succ]
      refine wpAnyH_take (i := 26) (oi := ⟨_, _, _, _, _, _⟩) (v := ?_) rfl (by kernel_rfl) (by kernel_rfl) (by kernel_rfl) (fun _ _ _ h => h) (Or.inl ⟨by rfl, ?_⟩) rfl ?_
      rotate_left
      · intro w' hSw; have e5 : w' = w5 := hSw; rw [e5]; clear hSw; (go_simp; try with_reducible rfl)
      try simp only [Act.put, List.setIfInBounds_toArray, List.set_cons_zero, List.set_cons_succ]
      refine wpAnyH_done (by kernel_rfl) ?_ _
      clear z0 z1 HLEN HCNT
      have x1 := HY.out.2.1 _ H5.out.1.kept
      have HQ5 := Lib.hid (show TN.length ≤ 100000 ∧ TM.length ≤ 100000 ∧ toK TN (d.n % 24) TN.length = toK TM (d.n % 24) TM.length ∧ (toK TN (d.n % 24) TN.length).length ≤ 17592186044416 from (by
          have a := map_len HB5.out.2.1
          have b := map_len HB5.out.2.2.1
          have e1 := H5.out.2.1
          have e2 := HLN.out.1
          have e3 := toK_len TN (d.n % 24) TN.length
          have e4 := HLN.out.2.2.2
          exact ⟨by omega, by omega, by rw [a, b]; exact toK_fst _ _ _ (by rw [HB5.out.2.1, HB5.out.2.2.1]) _, by omega⟩))
      go_wp2_with (first
        | (go_at_call 13; (with_reducible refine (bring_any d.n 24 hdi.1 hdi.2 (by decide) (by decide) _).mono ?_); rintro e w' ⟨rfl, rfl⟩)
        | (go_at_call 15; (with_reducible refine (toN_any p vN TN FN c5 (d.n % 24) w5 HB5.out.1.n HQ5.out.1).mono ?_); rintro e w6 ⟨u6, rfl, o6, h6, k6⟩; have H6 := Lib.hid (And.intro o6 (And.intro h6 k6)); clear o6 h6 k6 x1)
        | (go_at_call 16; (with_reducible refine (toM_any m _ TM FM c5 (d.n % 24) w6 (HB5.out.1.over H6.out.2.2).r HQ5.out.2.1).mono ?_); rintro e w7 ⟨u7, rfl, o7, h7, k7⟩; have H7 := Lib.hid (And.intro o7 (And.intro h7 k7)); have HEQ := Lib.hid (eqInts_any (homes u6) (homes u7) u6 u7 _ _ w7 (((H6.out.1.keep k7 (by simp))).held HQ5.out.2.2.2) (o7.held (by rw [← HQ5.out.2.2.1]; exact HQ5.out.2.2.2))); rw [show decide (toK TN (d.n % 24) TN.length = toK TM (d.n % 24) TM.length) = true by rw [HQ5.out.2.2.1]; simp] at HEQ; clear o7 h7 k7)
        | (go_at_call 14; (with_reducible refine HEQ.out.mono ?_); rintro e w8 ⟨rfl, k8⟩; have H8 := Lib.hid k8; clear k8))
      go_roundw
      case rel => exact ⟨i + 1, L5, c5, by have := HLN.out.2.2.1; omega, by have := HLN.out.2.2.2; omega, by go_num, by have a := H5.out.2.1; have b := HLN.out.1; omega, by have a := H5.out.2.2; have b := HLN.out.2.1; omega, Lib.hid (((H5.out.1.over H6.out.2.2).over H7.out.2.2).over H8.out)⟩
      case measure => simp only [intOf]; omega
    · have hgd : ¬ (i : Int) < (n : Int) ∨ ¬ (i : Int) < 100 := by omega
      have HEND := Lib.hid hgd
      clear hrun hgd
      obtain ⟨vN, TN, FN, vM, TM, FM, b0, eN, eM⟩ := HB.out.is
      have hok := HB.out.ok
      obtain ⟨AM, kM, rfl, _⟩ := b0.r.form
      obtain ⟨l5, hl5⟩ : ∃ l, L.length = l := ⟨_, rfl⟩
      have HN0 := Lib.hid (And.intro b0 (And.intro eN (And.intro eM (And.intro hok hl5))))
      have HZ0 := Lib.hid (show ∀ W, keepBut [] wr W → W.cell? ⟨m, 0, none⟩ = some (.slice AM l5 kM) from fun W hk => by have h := (b0.over hk).r.row.cell 0; rw [map_len eM, hl5] at h; exact h)
      have HKR := Lib.hid b0.kept
      have hl200 : l5 ≤ 200 := by omega
      clear b0 eN eM hok hl5
      by_cases hin : (i : Int) < (n : Int)
      · have hlim : ¬ (i : Int) < 100 := by have := HEND.out; omega
        go_upto_region 11 with fail
        go_loopw [7, 8, 9] (fun v7 _ _ wx => ∃ k : Nat, k ≤ l5 ∧ v7 = .int .i64 (k : Int) ∧ Hid (keepBut [] wr wx)) (fun v7 _ _ _ => l5 - (intOf v7).toNat)
        case atStart => exact ⟨0, Nat.zero_le _, rfl, Lib.hid (keepBut.refl _ _)⟩
        case round =>
          rename_i wo _
          obtain ⟨k, hk5, rfl, HK⟩ := hrel
          have z0 := HZ0.out _ HK.out
          by_cases hlt : k < l5
          · have hk2 : (k : Int) < (l5 : Int) := by omega
            have hk0 : (0 : Int) ≤ (k : Int) := by omega
            have hwk : IntKind.i64.wrap ((k : Int) + 1) = (k : Int) + 1 := by rw [IntKind.wrap_i64]; omega
            obtain ⟨q, hLq⟩ : ∃ q, L[k]? = some q := ⟨_, List.getElem?_eq_getElem (by rw [HN0.out.2.2.2.2]; exact hlt)⟩
            obtain ⟨tN, htN, htNk⟩ := map_at HN0.out.2.1 hLq
            obtain ⟨tM, htM, htMk⟩ := map_at HN0.out.2.2.1 hLq
            have hqok := HN0.out.2.2.2.1 q (List.mem_of_getElem? hLq)
            have hbx := HN0.out.1.over HK.out
            obtain ⟨gM, oM, rfl, hgM, _, hrM⟩ := hbx.r.item htM
            obtain ⟨Z, hZl, hZ, hZb, hZi⟩ := zeroP
            have HZ := Lib.hid (And.intro hZ hZl)
            have HF := Lib.hid (show tN.1.fits ∧ tM.1.fits ∧ tN.1.same tM.1 = true by rw [htNk, htMk]; exact ⟨PK.ok_fits hqok, PK.ok_fits hqok, PK.same_self q⟩)
            have HAT := Lib.hid (atN_any p vN TN FN cc k tN _ hbx.n htN HF.out.1)
            have HM := Lib.hid (show ∀ W, keepBut [] _ W → W.rangeAt gM (oM + k * 87) tM.2 ∧ itemV W FM (tM.1, tM.2) from fun W hk => ⟨rangeAt.keep hrM hk (by simp), (hbx.r.its tM (List.mem_of_getElem? htM)).keep hk (by simp)⟩)
            have HIM := Lib.hid (show (Tryd.prog.info? 40).map (·.size) = some tM.2.length by rw [hbx.r.lens tM (List.mem_of_getElem? htM)]; exact info_pk)
            clear hLq htN htNk htM htMk hqok hbx hgM hrM hZl hZ hZb hZi
            go_upto_region 14 with (first
              | (go_at_call 17; (with_reducible refine HAT.out.mono ?_); rintro e w3 ⟨X3, G3, rfl, i3, g3, k3⟩; have I3 := Lib.hid i3; have K3 := Lib.hid k3; have HT3 := Lib.hid (there_newP (w := w3) (t := 40) (Z := Z) (X := X3) (by rw [I3.out.len]; exact HZ.out.2.symm)); have ST3 := Lib.hid (storedP (w := w3) (t := 40) (Z := Z) (X := X3) (by rw [I3.out.len]; exact HZ.out.2.symm)); obtain ⟨q3, hq3⟩ : ∃ q, w3.heap.size = q := ⟨_, rfl⟩; rw [hq3] at HT3 ST3; clear i3 g3 k3 z0)
              | (with_reducible refine wpList_alloc_to _ _ rfl 40 rfl _ HZ.out.1 rfl ?_)
              | (simp only [hq3]; refine wpList_store_mid rfl 40 (.tmp 8) (.tmp 76) rfl q3 0 X3.toArray rfl rfl HT3.out (by rw [List.size_toArray, I3.out.len]; exact info_pk) (all_oneCell_toArray I3.out.one) ?_))
            try simp only [hq3]
            obtain ⟨w4, hw4⟩ : ∃ W, (w3.alloc (.cells Z.toArray 40)).setCells q3 0 X3 = W := ⟨_, rfl⟩
            rw [hw4] at ST3 ⊢
            have K4 := Lib.hid (K3.out.then ST3.out.2 (by simp))
            have HIA := Lib.hid (show (Tryd.prog.info? 40).map (·.size) = some X3.length by rw [I3.out.len]; exact info_pk)
            have HP4 := Lib.hid (show ∀ W, keepBut [] w4 W → rowAt W q3 40 X3.toArray ∧ W.cell? ⟨m, 0, none⟩ = some (.slice (some ⟨gM, oM, none⟩) l5 kM) ∧ W.rangeAt gM (oM + k * 87) tM.2 from fun W hk => ⟨hk.row ST3.out.1 (by simp), HZ0.out _ ((HK.out.then K4.out (by simp)).then hk (by simp)), (HM.out _ (K4.out.then hk (by simp))).1⟩)
            clear hw4 hq3
            refine wp_region_held_drew (S := keepBut [] w4) (by kernel_rfl) ((keepBut.refl [] w4).drew) (fun _ => ?_)
            have kW := (keepBut.refl [] w4).drew
            generalize w4.drew = W4 at kW ⊢
            refine wpAnyH_take (i := 0) (oi := ⟨_, _, _, _, _, _⟩) (v := ?_) rfl (by kernel_rfl) (by kernel_rfl) (by kernel_rfl) (fun _ _ _ h => h) (Or.inl ⟨by rfl, ?_⟩) kW ?_
            rotate_left
            · intro w' hSw; clear hSw; (go_simp; try with_reducible rfl)
            try simp only [Act.put, List.setIfInBounds_toArray, List.set_cons_zero, List.set_cons_succ]
            refine wpAnyH_take (i := 1) (oi := ⟨_, _, _, _, _, _⟩) (v := ?_) rfl (by kernel_rfl) (by kernel_rfl) (by kernel_rfl) (fun _ _ _ h => h) (Or.inl ⟨by rfl, ?_⟩) kW ?_
            rotate_left
            · intro w' hSw; clear hSw; (go_simp; try with_reducible rfl)
            try simp only [Act.put, List.setIfInBounds_toArray, List.set_cons_zero, List.set_cons_succ]
            refine wpAnyH_take (i := 2) (oi := ⟨_, _, _, _, _, _⟩) (v := ?_) rfl (by kernel_rfl) (by kernel_rfl) (by kernel_rfl) (fun _ _ _ h => h) (Or.inl ⟨by rfl, ?_⟩) kW ?_
            rotate_left
            · intro w' hSw; clear hSw; (go_simp; try with_reducible rfl)
            try simp only [Act.put, List.setIfInBounds_toArray, List.set_cons_zero, List.set_cons_succ]
            refine wpAnyH_take (i := 3) (oi := ⟨_, _, _, _, _, _⟩) (v := .agg X3.toArray) rfl (by kernel_rfl) (by kernel_rfl) (by kernel_rfl) (fun _ _ _ h => h) (yieldsIf_mid 40 (.tmp 8) rfl q3 0 rfl X3 _ (fun w' hSw => (HP4.out w' hSw).1.rangeAll) Tryd.underlying40 rfl HIA.out ?_) kW ?_
            · rfl
            try simp only [Act.put, List.setIfInBounds_toArray, List.set_cons_zero, List.set_cons_succ]
            refine wpAnyH_take (i := 4) (oi := ⟨_, _, _, _, _, _⟩) (v := ?_) rfl (by kernel_rfl) (by kernel_rfl) (by kernel_rfl) (fun _ _ _ h => h) (Or.inl ⟨by rfl, ?_⟩) kW ?_
            rotate_left
            · intro w' hSw; clear hSw; (go_simp; try with_reducible rfl)
            try simp only [Act.put, List.setIfInBounds_toArray, List.set_cons_zero, List.set_cons_succ]
            refine wpAnyH_take (i := 5) (oi := ⟨_, _, _, _, _, _⟩) (v := ?_) rfl (by kernel_rfl) (by kernel_rfl) (by kernel_rfl) (fun _ _ _ h => h) (Or.inl ⟨by rfl, ?_⟩) kW ?_
            rotate_left
            · intro w' hSw; clear hSw; (go_simp; try with_reducible rfl)
            try simp only [Act.put, List.setIfInBounds_toArray, List.set_cons_zero, List.set_cons_succ]
            refine wpAnyH_take (i := 6) (oi := ⟨_, _, _, _, _, _⟩) (v := ?_) rfl (by kernel_rfl) (by kernel_rfl) (by kernel_rfl) (fun _ _ _ h => h) (Or.inl ⟨by rfl, ?_⟩) kW ?_
            rotate_left
            · intro w' hSw; clear hSw; (go_simp; try with_reducible rfl)
            try simp only [Act.put, List.setIfInBounds_toArray, List.set_cons_zero, List.set_cons_succ]
            refine wpAnyH_take (i := 7) (oi := ⟨_, _, _, _, _, _⟩) (v := ?_) rfl (by kernel_rfl) (by kernel_rfl) (by kernel_rfl) (fun _ _ _ h => h) (Or.inl ⟨by rfl, ?_⟩) kW ?_
            rotate_left
            · intro w' hSw; have xc := (HP4.out w' hSw).2.1; clear hSw; (go_simp; try with_reducible rfl)
            try simp only [Act.put, List.setIfInBounds_toArray, List.set_cons_zero, List.set_cons_succ]
            refine wpAnyH_take (i := 8) (oi := ⟨_, _, _, _, _, _⟩) (v := ?_) rfl (by kernel_rfl) (by kernel_rfl) (by kernel_rfl) (fun _ _ _ h => h) (Or.inl ⟨by rfl, ?_⟩) kW ?_
            rotate_left
            · intro w' hSw; clear hSw; (go_simp; try with_reducible rfl)
            try simp only [Act.put, List.setIfInBounds_toArray, List.set_cons_zero, List.set_cons_succ]
            refine wpAnyH_take (i := 9) (oi := ⟨_, _, _, _, _, _⟩) (v := ?_) rfl (by kernel_rfl) (by kernel_rfl) (by kernel_rfl) (fun _ _ _ h => h) (Or.inl ⟨by rfl, ?_⟩) kW ?_
            rotate_left
            · intro w' hSw; clear hSw; (go_simp; try with_reducible rfl)
            try simp only [Act.put, List.setIfInBounds_toArray, List.set_cons_zero, List.set_cons_succ]
            refine wpAnyH_take (i := 10) (oi := ⟨_, _, _, _, _, _⟩) (v := .agg tM.2.toArray) rfl (by kernel_rfl) (by kernel_rfl) (by kernel_rfl) (fun _ _ _ h => h) (yieldsIf_mid 40 (.tmp 87) rfl gM (oM + k * 87) rfl tM.2 _ (fun w' hSw => (HP4.out w' hSw).2.2) Tryd.underlying40 rfl HIM.out ?_) kW ?_
            · rfl
            try simp only [Act.put, List.setIfInBounds_toArray, List.set_cons_zero, List.set_cons_succ]
            have HS := Lib.hid (sameDX G3 FM tN.1 tM.1 X3 tM.2 W4 ((I3.out.keep ST3.out.2 (by simp)).keep kW (by simp)) (HM.out _ (K4.out.then kW (by simp))).2 HF.out.1 HF.out.2.1)
            rw [HF.out.2.2] at HS
            refine wpAnyH_ready (rs := [11]) (by kernel_rfl) (by simp) ?_
            refine AllReadyH.cons (o := ⟨_, _, _, _, _, _⟩) rfl (fun KK hKK => ?_) AllReadyH.nil
            go_simp
            (with_reducible refine HS.out.mono ?_)
            rintro e w6 ⟨rfl, k6⟩
            replace kW := kW.then k6 (by simp)
            clear k6
            go_wp2_with fail
            refine hKK.out _ _ kW (fun _ => ?_)
            clear hKK KK
            try simp only [Act.put, List.setIfInBounds_toArray, List.set_cons_zero, List.set_cons_succ]
            refine wpAnyH_take (i := 12) (oi := ⟨_, _, _, _, _, _⟩) (v := ?_) rfl (by kernel_rfl) (by kernel_rfl) (by kernel_rfl) (fun _ _ _ h => h) (Or.inl ⟨by rfl, ?_⟩) kW ?_
            rotate_left
            · intro w' hSw; clear hSw; (go_simp; try with_reducible rfl)
            try simp only [Act.put, List.setIfInBounds_toArray, List.set_cons_zero, List.set_cons_succ]
            refine wpAnyH_take (i := 13) (oi := ⟨_, _, _, _, _, _⟩) (v := ?_) rfl (by kernel_rfl) (by kernel_rfl) (by kernel_rfl) (fun _ _ _ h => h) (Or.inl ⟨by rfl, ?_⟩) kW ?_
            rotate_left
            · intro w' hSw; clear hSw; (go_simp; try with_reducible rfl)
            try simp only [Act.put, List.setIfInBounds_toArray, List.set_cons_zero, List.set_cons_succ]
            refine wpAnyH_done (by kernel_rfl) ?_ _
            have HKN := Lib.hid ((HK.out.then K4.out (by simp)).then kW (by simp))
            clear kW
            go_wp2_with fail
            go_roundw
            case rel => exact ⟨k + 1, by omega, by go_num, HKN⟩
            case measure => simp only [intOf]; omega
          · have hke : ¬ (k : Int) < (l5 : Int) := by omega
            have HWK := Lib.hid (works_any _ (HFL.out.keep (HKR.out.then HK.out (by simp)) (by simp)))
            go_wp2_with (go_at_call 19; (with_reducible refine HWK.out.mono ?_); rintro e w7 ⟨rfl, k7⟩; have H7 := Lib.hid k7; clear k7)
            go_ret
            exact ⟨rfl, (HKR.out.then HK.out (by simp)).then H7.out (by simp)⟩
      · go_upto_region 11 with fail
        go_loopw [7, 8, 9] (fun v7 _ _ wx => ∃ k : Nat, k ≤ l5 ∧ v7 = .int .i64 (k : Int) ∧ Hid (keepBut [] wr wx)) (fun v7 _ _ _ => l5 - (intOf v7).toNat)
        case atStart => exact ⟨0, Nat.zero_le _, rfl, Lib.hid (keepBut.refl _ _)⟩
        case round =>
          rename_i wo _
          obtain ⟨k, hk5, rfl, HK⟩ := hrel
          have z0 := HZ0.out _ HK.out
          by_cases hlt : k < l5
          · have hk2 : (k : Int) < (l5 : Int) := by omega
            have hk0 : (0 : Int) ≤ (k : Int) := by omega
            have hwk : IntKind.i64.wrap ((k : Int) + 1) = (k : Int) + 1 := by rw [IntKind.wrap_i64]; omega
            obtain ⟨q, hLq⟩ : ∃ q, L[k]? = some q := ⟨_, List.getElem?_eq_getElem (by rw [HN0.out.2.2.2.2]; exact hlt)⟩
            obtain ⟨tN, htN, htNk⟩ := map_at HN0.out.2.1 hLq
            obtain ⟨tM, htM, htMk⟩ := map_at HN0.out.2.2.1 hLq
            have hqok := HN0.out.2.2.2.1 q (List.mem_of_getElem? hLq)
            have hbx := HN0.out.1.over HK.out
            obtain ⟨gM, oM, rfl, hgM, _, hrM⟩ := hbx.r.item htM
            obtain ⟨Z, hZl, hZ, hZb, hZi⟩ := zeroP
            have HZ := Lib.hid (And.intro hZ hZl)
            have HF := Lib.hid (show tN.1.fits ∧ tM.1.fits ∧ tN.1.same tM.1 = true by rw [htNk, htMk]; exact ⟨PK.ok_fits hqok, PK.ok_fits hqok, PK.same_self q⟩)
            have HAT := Lib.hid (atN_any p vN TN FN cc k tN _ hbx.n htN HF.out.1)
            have HM := Lib.hid (show ∀ W, keepBut [] _ W → W.rangeAt gM (oM + k * 87) tM.2 ∧ itemV W FM (tM.1, tM.2) from fun W hk => ⟨rangeAt.keep hrM hk (by simp), (hbx.r.its tM (List.mem_of_getElem? htM)).keep hk (by simp)⟩)
            have HIM := Lib.hid (show (Tryd.prog.info? 40).map (·.size) = some tM.2.length by rw [hbx.r.lens tM (List.mem_of_getElem? htM)]; exact info_pk)
            clear hLq htN htNk htM htMk hqok hbx hgM hrM hZl hZ hZb hZi
            go_upto_region 14 with (first
              | (go_at_call 17; (with_reducible refine HAT.out.mono ?_); rintro e w3 ⟨X3, G3, rfl, i3, g3, k3⟩; have I3 := Lib.hid i3; have K3 := Lib.hid k3; have HT3 := Lib.hid (there_newP (w := w3) (t := 40) (Z := Z) (X := X3) (by rw [I3.out.len]; exact HZ.out.2.symm)); have ST3 := Lib.hid (storedP (w := w3) (t := 40) (Z := Z) (X := X3) (by rw [I3.out.len]; exact HZ.out.2.symm)); obtain ⟨q3, hq3⟩ : ∃ q, w3.heap.size = q := ⟨_, rfl⟩; rw [hq3] at HT3 ST3; clear i3 g3 k3 z0)
              | (with_reducible refine wpList_alloc_to _ _ rfl 40 rfl _ HZ.out.1 rfl ?_)
              | (simp only [hq3]; refine wpList_store_mid rfl 40 (.tmp 8) (.tmp 76) rfl q3 0 X3.toArray rfl rfl HT3.out (by rw [List.size_toArray, I3.out.len]; exact info_pk) (all_oneCell_toArray I3.out.one) ?_))
            try simp only [hq3]
            obtain ⟨w4, hw4⟩ : ∃ W, (w3.alloc (.cells Z.toArray 40)).setCells q3 0 X3 = W := ⟨_, rfl⟩
            rw [hw4] at ST3 ⊢
            have K4 := Lib.hid (K3.out.then ST3.out.2 (by simp))
            have HIA := Lib.hid (show (Tryd.prog.info? 40).map (·.size) = some X3.length by rw [I3.out.len]; exact info_pk)
            have HP4 := Lib.hid (show ∀ W, keepBut [] w4 W → rowAt W q3 40 X3.toArray ∧ W.cell? ⟨m, 0, none⟩ = some (.slice (some ⟨gM, oM, none⟩) l5 kM) ∧ W.rangeAt gM (oM + k * 87) tM.2 from fun W hk => ⟨hk.row ST3.out.1 (by simp), HZ0.out _ ((HK.out.then K4.out (by simp)).then hk (by simp)), (HM.out _ (K4.out.then hk (by simp))).1⟩)
            clear hw4 hq3
            refine wp_region_held_drew (S := keepBut [] w4) (by kernel_rfl) ((keepBut.refl [] w4).drew) (fun _ => ?_)
            have kW := (keepBut.refl [] w4).drew
            generalize w4.drew = W4 at kW ⊢
            refine wpAnyH_take (i := 0) (oi := ⟨_, _, _, _, _, _⟩) (v := ?_) rfl (by kernel_rfl) (by kernel_rfl) (by kernel_rfl) (fun _ _ _ h => h) (Or.inl ⟨by rfl, ?_⟩) kW ?_
            rotate_left
            · intro w' hSw; clear hSw; (go_simp; try with_reducible rfl)
            try simp only [Act.put, List.setIfInBounds_toArray, List.set_cons_zero, List.set_cons_succ]
            refine wpAnyH_take (i := 1) (oi := ⟨_, _, _, _, _, _⟩) (v := ?_) rfl (by kernel_rfl) (by kernel_rfl) (by kernel_rfl) (fun _ _ _ h => h) (Or.inl ⟨by rfl, ?_⟩) kW ?_
            rotate_left
            · intro w' hSw; clear hSw; (go_simp; try with_reducible rfl)
            try simp only [Act.put, List.setIfInBounds_toArray, List.set_cons_zero, List.set_cons_succ]
            refine wpAnyH_take (i := 2) (oi := ⟨_, _, _, _, _, _⟩) (v := ?_) rfl (by kernel_rfl) (by kernel_rfl) (by kernel_rfl) (fun _ _ _ h => h) (Or.inl ⟨by rfl, ?_⟩) kW ?_
            rotate_left
            · intro w' hSw; clear hSw; (go_simp; try with_reducible rfl)
            try simp only [Act.put, List.setIfInBounds_toArray, List.set_cons_zero, List.set_cons_succ]
            refine wpAnyH_take (i := 3) (oi := ⟨_, _, _, _, _, _⟩) (v := .agg X3.toArray) rfl (by kernel_rfl) (by kernel_rfl) (by kernel_rfl) (fun _ _ _ h => h) (yieldsIf_mid 40 (.tmp 8) rfl q3 0 rfl X3 _ (fun w' hSw => (HP4.out w' hSw).1.rangeAll) Tryd.underlying40 rfl HIA.out ?_) kW ?_
            · rfl
            try simp only [Act.put, List.setIfInBounds_toArray, List.set_cons_zero, List.set_cons_succ]
            refine wpAnyH_take (i := 4) (oi := ⟨_, _, _, _, _, _⟩) (v := ?_) rfl (by kernel_rfl) (by kernel_rfl) (by kernel_rfl) (fun _ _ _ h => h) (Or.inl ⟨by rfl, ?_⟩) kW ?_
            rotate_left
            · intro w' hSw; clear hSw; (go_simp; try with_reducible rfl)
            try simp only [Act.put, List.setIfInBounds_toArray, List.set_cons_zero, List.set_cons_succ]
            refine wpAnyH_take (i := 5) (oi := ⟨_, _, _, _, _, _⟩) (v := ?_) rfl (by kernel_rfl) (by kernel_rfl) (by kernel_rfl) (fun _ _ _ h => h) (Or.inl ⟨by rfl, ?_⟩) kW ?_
            rotate_left
            · intro w' hSw; clear hSw; (go_simp; try with_reducible rfl)
            try simp only [Act.put, List.setIfInBounds_toArray, List.set_cons_zero, List.set_cons_succ]
            refine wpAnyH_take (i := 6) (oi := ⟨_, _, _, _, _, _⟩) (v := ?_) rfl (by kernel_rfl) (by kernel_rfl) (by kernel_rfl) (fun _ _ _ h => h) (Or.inl ⟨by rfl, ?_⟩) kW ?_
            rotate_left
            · intro w' hSw; clear hSw; (go_simp; try with_reducible rfl)
            try simp only [Act.put, List.setIfInBounds_toArray, List.set_cons_zero, List.set_cons_succ]
            refine wpAnyH_take (i := 7) (oi := ⟨_, _, _, _, _, _⟩) (v := ?_) rfl (by kernel_rfl) (by kernel_rfl) (by kernel_rfl) (fun _ _ _ h => h) (Or.inl ⟨by rfl, ?_⟩) kW ?_
            rotate_left
            · intro w' hSw; have xc := (HP4.out w' hSw).2.1; clear hSw; (go_simp; try with_reducible rfl)
            try simp only [Act.put, List.setIfInBounds_toArray, List.set_cons_zero, List.set_cons_succ]
            refine wpAnyH_take (i := 8) (oi := ⟨_, _, _, _, _, _⟩) (v := ?_) rfl (by kernel_rfl) (by kernel_rfl) (by kernel_rfl) (fun _ _ _ h => h) (Or.inl ⟨by rfl, ?_⟩) kW ?_
            rotate_left
            · intro w' hSw; clear hSw; (go_simp; try with_reducible rfl)
            try simp only [Act.put, List.setIfInBounds_toArray, List.set_cons_zero, List.set_cons_succ]
            refine wpAnyH_take (i := 9) (oi := ⟨_, _, _, _, _, _⟩) (v := ?_) rfl (by kernel_rfl) (by kernel_rfl) (by kernel_rfl) (fun _ _ _ h => h) (Or.inl ⟨by rfl, ?_⟩) kW ?_
            rotate_left
            · intro w' hSw; clear hSw; (go_simp; try with_reducible rfl)
            try simp only [Act.put, List.setIfInBounds_toArray, List.set_cons_zero, List.set_cons_succ]
            refine wpAnyH_take (i := 10) (oi := ⟨_, _, _, _, _, _⟩) (v := .agg tM.2.toArray) rfl (by kernel_rfl) (by kernel_rfl) (by kernel_rfl) (fun _ _ _ h => h) (yieldsIf_mid 40 (.tmp 87) rfl gM (oM + k * 87) rfl tM.2 _ (fun w' hSw => (HP4.out w' hSw).2.2) Tryd.underlying40 rfl HIM.out ?_) kW ?_
            · rfl
            try simp only [Act.put, List.setIfInBounds_toArray, List.set_cons_zero, List.set_cons_succ]
            have HS := Lib.hid (sameDX G3 FM tN.1 tM.1 X3 tM.2 W4 ((I3.out.keep ST3.out.2 (by simp)).keep kW (by simp)) (HM.out _ (K4.out.then kW (by simp))).2 HF.out.1 HF.out.2.1)
            rw [HF.out.2.2] at HS
            refine wpAnyH_ready (rs := [11]) (by kernel_rfl) (by simp) ?_
            refine AllReadyH.cons (o := ⟨_, _, _, _, _, _⟩) rfl (fun KK hKK => ?_) AllReadyH.nil
            go_simp
            (with_reducible refine HS.out.mono ?_)
            rintro e w6 ⟨rfl, k6⟩
            replace kW := kW.then k6 (by simp)
            clear k6
            go_wp2_with fail
            refine hKK.out _ _ kW (fun _ => ?_)
            clear hKK KK
            try simp only [Act.put, List.setIfInBounds_toArray, List.set_cons_zero, List.set_cons_succ]
            refine wpAnyH_take (i := 12) (oi := ⟨_, _, _, _, _, _⟩) (v := ?_) rfl (by kernel_rfl) (by kernel_rfl) (by kernel_rfl) (fun _ _ _ h => h) (Or.inl ⟨by rfl, ?_⟩) kW ?_
            rotate_left
            · intro w' hSw; clear hSw; (go_simp; try with_reducible rfl)
            try simp only [Act.put, List.setIfInBounds_toArray, List.set_cons_zero, List.set_cons_succ]
            refine wpAnyH_take (i := 13) (oi := ⟨_, _, _, _, _, _⟩) (v := ?_) rfl (by kernel_rfl) (by kernel_rfl) (by kernel_rfl) (fun _ _ _ h => h) (Or.inl ⟨by rfl, ?_⟩) kW ?_
            rotate_left
            · intro w' hSw; clear hSw; (go_simp; try with_reducible rfl)
            try simp only [Act.put, List.setIfInBounds_toArray, List.set_cons_zero, List.set_cons_succ]
            refine wpAnyH_done (by kernel_rfl) ?_ _
            have HKN := Lib.hid ((HK.out.then K4.out (by simp)).then kW (by simp))
            clear kW
            go_wp2_with fail
            go_roundw
            case rel => exact ⟨k + 1, by omega, by go_num, HKN⟩
            case measure => simp only [intOf]; omega
          · have hke : ¬ (k : Int) < (l5 : Int) := by omega
            have HWK := Lib.hid (works_any _ (HFL.out.keep (HKR.out.then HK.out (by simp)) (by simp)))
            go_wp2_with (go_at_call 19; (with_reducible refine HWK.out.mono ?_); rintro e w7 ⟨rfl, k7⟩; have H7 := Lib.hid k7; clear k7)
            go_ret
            exact ⟨rfl, (HKR.out.then HK.out (by simp)).then H7.out (by simp)⟩
end Go.Proofs.YtcnlnkkdcofphaaDoor
end
