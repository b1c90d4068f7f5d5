/-
  PKSEED: Opens, SeedOpen, joined.
-/
import Derived.Test.YthfdkonhjpdflaaDoorOpen
import Derived.Test.YthfdkonhjpdflaaDoorPkEnd
import Derived.Deep.Slices
import Derived.ChangeSame
import Derived.Test.YthfdkonhjpdflaaDoorPkReq
section
namespace Go.Proofs.YthfdkonhjpdflaaDoor
open Go.ChangeShapes Go.WideShapes Go.ChangeAt Go.RowKit
set_option linter.unusedVariables false
set_option maxRecDepth 100000

theorem i64P_wf {n : Int} (h : (Lit.int .i64 n).wf = true) : i64P n := by simpa [i64P, Lit.wf, IntKind.min, IntKind.max, IntKind.signed, IntKind.bits] using h
theorem u8_wf {n : Int} (h : (Lit.int .u8 n).wf = true) : 0 ≤ n ∧ n ≤ 255 := by simpa [Lit.wf, IntKind.min, IntKind.max, IntKind.signed, IntKind.bits] using h
theorem oc_int : Tryd.prog.cellsOf 3 = 1 := by kernel_rfl
theorem oc_u8 : Tryd.prog.cellsOf 5 = 1 := by kernel_rfl
theorem oc_bytes : Tryd.prog.cellsOf 23 = 1 := by kernel_rfl
section
variable {H : Type} {enc : TypeId × Value → H} {W : World} {sp : Nat → Bool} {hd : Bool} {fuel : Nat} {cs : List Value} {x : DataW H × List MemPlace}
theorem op_int (h : DataW.trod enc Tryd.prog W 0 sp hd fuel 3 cs = some x) : ∃ n, cs = [.int .i64 n] ∧ i64P n := by
  obtain ⟨n, h1, _, h2⟩ := DataW.trod_int Tryd.underlying3 h
  exact ⟨n, h1, i64P_wf h2⟩
theorem op_bytes (h : DataW.trod enc Tryd.prog W 0 sp hd fuel 23 cs = some x) : ∃ v l F, cs = [v] ∧ bytesV W F v l ∧ ∀ y ∈ F, y < W.heap.size := by
  rcases open_ints Tryd.underlying23 Tryd.underlying5 (by kernel_rfl) h with ⟨rfl, _⟩ | ⟨x, l, c, zs, rfl, _, hl', hm', hz, _, hcl, hwz⟩
  · exact ⟨_, [], [], rfl, bytesV.nil _ _, by simp⟩
  · have hzl : l ≤ zs.length := by rw [hz]; split <;> omega
    have hcl' : ∀ i, i < (zs.take l).length → W.cell? (x.add i) = some (.int .u8 ((zs.take l).getD i 0)) := by
      intro i hi
      rw [List.length_take] at hi
      rw [hcl i (by omega)]
      simp only [List.getD_eq_getElem?_getD, List.getElem?_take]
      rw [if_pos (by omega)]
    obtain ⟨g, hg, hr⟩ := reads_of_ints (k := .u8) (Nat.le_refl l) (by rw [List.length_take]; omega) hcl'
    rw [List.take_of_length_le (by rw [List.length_take]; omega)] at hr
    have hw8 : ∀ n ∈ zs.take l, 0 ≤ n ∧ n ≤ 255 := fun n hn => u8_wf (hwz n (List.mem_of_mem_take hn))
    have hbl : (bytesOf (zs.take l)).length = l := by rw [bytesOf_length, List.length_take]; omega
    rw [← bv_bytesOf _ hw8] at hr
    refine ⟨_, bytesOf (zs.take l), if 0 < l then [g] else [], rfl, ⟨some x, c, g, by rw [hbl], by rw [hbl]; exact hl', hm', seen_of_reads hbl hr, fun hne => ?_⟩, fun y hy => ?_⟩
    · have := List.length_pos_iff.2 hne
      rw [if_pos (by omega)]; simp
    · split at hy
      · simp at hy; subst hy; exact hg (by omega)
      · simp at hy
theorem op_ints (h : DataW.trod enc Tryd.prog W 0 sp hd fuel 33 cs = some x) : ∃ v l F, cs = [v] ∧ intsV W F v l ∧ (∀ n ∈ l, i64P n) ∧ ∀ y ∈ F, y < W.heap.size := by
  rcases open_ints Tryd.underlying33 Tryd.underlying3 (by kernel_rfl) h with ⟨rfl, _⟩ | ⟨x, l, c, zs, rfl, _, hl', hm', hz, _, hcl, hwz⟩
  · exact ⟨_, [], [], rfl, intsV.nil _ _, by simp, by simp⟩
  · have hzl : l ≤ zs.length := by rw [hz]; split <;> omega
    have hcl' : ∀ i, i < (zs.take l).length → W.cell? (x.add i) = some (.int .i64 ((zs.take l).getD i 0)) := by
      intro i hi
      rw [List.length_take] at hi
      rw [hcl i (by omega)]
      simp only [List.getD_eq_getElem?_getD, List.getElem?_take]
      rw [if_pos (by omega)]
    obtain ⟨g, hg, hr⟩ := reads_of_ints (k := .i64) (Nat.le_refl l) (by rw [List.length_take]; omega) hcl'
    rw [List.take_of_length_le (by rw [List.length_take]; omega)] at hr
    have hbl : (zs.take l).length = l := by rw [List.length_take]; omega
    refine ⟨_, zs.take l, if 0 < l then [g] else [], rfl, ⟨some x, c, g, by rw [hbl], by rw [hbl]; exact hl', hm', by rw [hbl]; exact hr, fun hne => ?_⟩, fun n hn => i64P_wf (hwz n (List.mem_of_mem_take hn)), fun y hy => ?_⟩
    · have := List.length_pos_iff.2 hne
      rw [if_pos (by omega)]; simp
    · split at hy
      · simp at hy; subst hy; exact hg (by omega)
      · simp at hy
theorem op_row {k : IntKind} {e t : TypeId} {n : Nat} (ht : Tryd.prog.underlying t = some (.array n e)) (he : Tryd.prog.underlying e = some (.int k)) (hc : Tryd.prog.cellsOf e = 1) (hn : Tryd.prog.cellsOf t = n) (h : DataW.trod enc Tryd.prog W 0 sp hd fuel t cs = some x) : ∃ zs : List Int, zs.length = n ∧ cs = zs.map (Value.int k) ∧ ∀ z ∈ zs, (Lit.int k z).wf = true := by
  obtain ⟨xs, m, _, _, hl, hxl, hx⟩ := DataW.trod_array ht h
  rw [hn] at hl
  have each : ∀ i (hi : i < n), ∃ z, cs[i]? = some (.int k z) ∧ (Lit.int k z).wf = true := fun i hi => by
    have h0 := hx i hi
    rw [hc, Nat.mul_one, List.getElem?_eq_getElem (by omega)] at h0
    obtain ⟨z, h1, _, h2⟩ := DataW.trod_int he h0
    refine ⟨z, ?_, h2⟩
    have := congrArg (fun l => l[0]?) h1
    simpa [List.getElem?_take, List.getElem?_drop] using this
  clear hx hxl
  induction cs generalizing n with
  | nil => exact ⟨[], by simpa using hl, rfl, by simp⟩
  | cons c r ih =>
    cases n with
    | zero => simp at hl
    | succ n =>
      obtain ⟨z, hz, hw⟩ := each 0 (by omega)
      obtain ⟨zs, h1, h2, h3⟩ : ∃ zs : List Int, zs.length = n ∧ r = zs.map (Value.int k) ∧ ∀ z ∈ zs, (Lit.int k z).wf = true := by
        have hr : r.length = n := by simpa using hl
        have er : ∀ i (hi : i < n), ∃ z, r[i]? = some (.int k z) ∧ (Lit.int k z).wf = true := fun i hi => by
          obtain ⟨z, h1, h2⟩ := each (i + 1) (by omega)
          exact ⟨z, by simpa using h1, h2⟩
        clear ih each hl hz hw ht hn h
        induction r generalizing n with
        | nil => exact ⟨[], by simpa using hr, rfl, by simp⟩
        | cons c r ih =>
          cases n with
          | zero => simp at hr
          | succ n =>
            obtain ⟨z, hz, hw⟩ := er 0 (by omega)
            obtain ⟨zs, h1, h2, h3⟩ := ih (n := n) (by simpa using hr) (fun i hi => by obtain ⟨z, h1, h2⟩ := er (i + 1) (by omega); exact ⟨z, by simpa using h1, h2⟩)
            simp at hz
            subst hz h2
            exact ⟨z :: zs, by simp [h1], rfl, fun y hy => by rcases List.mem_cons.1 hy with rfl | hy; exact hw; exact h3 y hy⟩
      simp at hz
      subst hz h2
      exact ⟨z :: zs, by simp [h1], rfl, fun y hy => by rcases List.mem_cons.1 hy with rfl | hy; exact hw; exact h3 y hy⟩
end
end Go.Proofs.YthfdkonhjpdflaaDoor
end

section
namespace Go.Proofs.YthfdkonhjpdflaaDoor
open Go.ChangeShapes Go.WideShapes Go.ChangeAt Go.RowKit
set_option linter.unusedVariables false
set_option maxRecDepth 100000

theorem sdShape : (match Tryd.prog.underlying 25 with | some (.struct fs) => fs.toList.map (fun f => (f.offset, f.type)) | _ => []) = [(0, 3), (1, 3), (2, 3), (3, 22), (8, 23)] := by kernel_rfl
theorem sdFields : ∃ f0 f1 f2 f3 f4 : Field, Tryd.prog.underlying 25 = some (.struct #[f0, f1, f2, f3, f4]) ∧ (f0.offset = 0 ∧ f0.type = 3) ∧ (f1.offset = 1 ∧ f1.type = 3) ∧ (f2.offset = 2 ∧ f2.type = 3) ∧ (f3.offset = 3 ∧ f3.type = 22) ∧ f4.offset = 8 ∧ f4.type = 23 := by
  have h := sdShape
  cases hu : Tryd.prog.underlying 25 with
  | none => rw [hu] at h; simp at h
  | some u =>
    rw [hu] at h
    cases u <;> simp at h
    rename_i fs
    obtain ⟨l⟩ := fs
    match l, h with
    | [f0, f1, f2, f3, f4], h => simp at h; exact ⟨f0, f1, f2, f3, f4, rfl, by simp [h]⟩
theorem oc_seed : Tryd.prog.cellsOf 25 = 9 := by kernel_rfl
theorem oc_arr5 : Tryd.prog.cellsOf 22 = 5 := by kernel_rfl
theorem open_seed {H : Type} {enc : TypeId × Value → H} {W : World} {sp : Nat → Bool} {hd : Bool} {fuel : Nat} {cs : List Value} {x : DataW H × List MemPlace}
    (h : DataW.trod enc Tryd.prog W 0 sp hd fuel 25 cs = some x) : ∃ (s : SD) (v : Value) (F : List Nat), cs = sdL s v ∧ SDok s ∧ bytesV W F v s.b ∧ ∀ y ∈ F, y < W.heap.size := by
  obtain ⟨f0, f1, f2, f3, f4, hu, ⟨o0, t0⟩, ⟨o1, t1⟩, ⟨o2, t2⟩, ⟨o3, t3⟩, o4, t4⟩ := sdFields
  obtain ⟨xs, k, _, _, hl, hxl, hf⟩ := DataW.trod_struct hu h
  have g0 := hf 0 f0 rfl
  have g1 := hf 1 f1 rfl
  have g2 := hf 2 f2 rfl
  have g3 := hf 3 f3 rfl
  have g4 := hf 4 f4 rfl
  rw [o0, t0, oc_int] at g0
  rw [o1, t1, oc_int] at g1
  rw [o2, t2, oc_int] at g2
  rw [o3, t3, oc_arr5] at g3
  rw [o4, t4, oc_bytes] at g4
  rw [oc_seed] at hl
  match xs, hxl, cs, hl with
  | [y0, y1, y2, y3, y4], _, [v0, v1, v2, v3, v4, v5, v6, v7, v8], _ =>
    simp at g0 g1 g2 g3 g4
    obtain ⟨n0, e0, w0⟩ := op_int g0
    obtain ⟨n1, e1, w1⟩ := op_int g1
    obtain ⟨n2, e2, w2⟩ := op_int g2
    obtain ⟨zs, hz, e3, w3⟩ := op_row (k := .i64) Tryd.underlying22 Tryd.underlying3 oc_int oc_arr5 g3
    obtain ⟨v, b, F, e4, hv, hF⟩ := op_bytes g4
    match zs, hz with
    | [z0, z1, z2, z3, z4], _ =>
      simp at e0 e1 e2 e3 e4
      obtain ⟨rfl, rfl, rfl, rfl, rfl⟩ := e3
      subst e0 e1 e2 e4
      exact ⟨⟨n0, n1, n2, z0, z1, z2, z3, z4, b⟩, _, F, rfl, ⟨w0, w1, w2, i64P_wf (w3 _ (by simp)), i64P_wf (w3 _ (by simp)), i64P_wf (w3 _ (by simp)), i64P_wf (w3 _ (by simp)), i64P_wf (w3 _ (by simp))⟩, hv, hF⟩
theorem open_seedV {H : Type} {enc : TypeId × Value → H} {W : World} {r : Reach} {b0 : Nat} {sp : Nat → Bool} {hd : Bool} {v : Value} {d : DataW H} {p : List MemPlace}
    (hv : Value.okWide Tryd.prog W r b0 25 v) (h : DataW.Trod enc Tryd.prog W 0 sp hd 25 v d p) :
    ∃ (s : SD) (u : Value) (F : List Nat), v = .agg (sdL s u).toArray ∧ SDok s ∧ bytesV W F u s.b := by
  obtain ⟨cs, rfl, _⟩ : ∃ cs, v = .agg cs ∧ cs.size = Tryd.prog.cellsOf 25 ∧ Row.okWide Tryd.prog W r b0 25 cs := by
    simpa [Value.okWide, Tryd.underlying25] using hv
  obtain ⟨fuel, hf⟩ := h
  obtain ⟨s, u, F, h1, h2, h3, _⟩ := open_seed hf
  refine ⟨s, u, F, ?_, h2, h3⟩
  rw [← h1]
  simp [Value.cells]
end Go.Proofs.YthfdkonhjpdflaaDoor
end
