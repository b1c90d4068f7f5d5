/-
  GOP: Open, OpenND, PkLaid, joined.
-/
import Derived.Test.YthfdkonhjpdflaaGreatDoorLow1
import Derived.ProofKit
import Derived.OpenShut
import Derived.ShutString
import Derived.ChangeOld
import Derived.Below
import Derived.Test.YthfdkonhjpdflaaGreatDoorNet11
import Derived.Deep.Slices
import Derived.ChangeSame
import Derived.Test.YthfdkonhjpdflaaGreatDoorPkA
import Derived.LaidMore
import Derived.Stop.Joined
section
namespace Go.Proofs.YthfdkonhjpdflaaGreatDoor
open Go.ChangeShapes Go.WideShapes Go.ChangeAt Go.RowKit
set_option linter.unusedVariables false

/-- integers of kind k as cells -/
def cellsK (k : IntKind) (xs : List Int) : List Value := xs.map (Value.int k)

theorem reads_of_ints {w : World} {k : IntKind} {x : Addr} {n c : Nat} {zs : List Int} (hl : n ≤ c) (hz : zs.length = c) (hcell : ∀ i, i < zs.length → w.cell? (x.add i) = some (.int k (zs.getD i 0))) :
    ∃ g, (0 < n → g < w.heap.size) ∧ reads w (some x) g n 1 (cellsK k (zs.take n)) := by
  refine ⟨x.block, fun hn => ?_, by simp [cellsK]; omega, fun hn => ?_⟩
  · have := hcell 0 (by omega)
    have hb := World.block_lt_of_cell? w _ this
    simpa [Addr.add] using hb
  · have h0 := hcell 0 (by omega)
    have hsp : x.spot = none := by simpa [Addr.add] using World.cell?_spot h0
    obtain ⟨b, o, s⟩ := x
    simp only at hsp
    subst hsp
    refine ⟨o, rfl, ?_, fun j u hu => ?_⟩
    · have hb := World.block_lt_of_cell? w _ h0
      simpa [Addr.add] using hb
    · simp only [cellsK, List.getElem?_map] at hu
      rw [List.getElem?_take] at hu
      split at hu
      · rename_i hj
        have := hcell j (by omega)
        rw [add_plain] at this
        rw [this]
        rw [List.getElem?_eq_getElem (by omega)] at hu
        simp only [Option.map_some, Option.some.injEq] at hu
        rw [← hu, List.getD_eq_getElem?_getD, List.getElem?_eq_getElem (by omega)]
        rfl
      · cases hu

/-- the bytes that integers are -/
def bytesOf (xs : List Int) : List UInt8 := xs.map fun n => UInt8.ofNat n.toNat
theorem bytesOf_length (xs : List Int) : (bytesOf xs).length = xs.length := by simp [bytesOf]
theorem bv_bytesOf (xs : List Int) (h : ∀ n ∈ xs, 0 ≤ n ∧ n ≤ 255) : (bytesOf xs).map bv = cellsK .u8 xs := by
  unfold bytesOf cellsK
  rw [List.map_map]
  apply List.map_congr_left
  intro n hn
  have := h n hn
  simp only [Function.comp, bv, UInt8.toNat_ofNat']
  congr 1
  omega
theorem seen_of_reads {w : World} {A : Option Addr} {g n : Nat} {l : List UInt8} (hl : l.length = n) (h : reads w A g n 1 (l.map bv)) : seen w A g l := by
  intro hne
  obtain ⟨o, hA, hlt, hc⟩ := h.2 (by have := List.length_pos_iff.2 hne; omega)
  exact ⟨o, hA, hlt, fun j b hb => hc j _ (by rw [List.getElem?_map, hb]; rfl)⟩
end Go.Proofs.YthfdkonhjpdflaaGreatDoor
end

section
namespace Go.Proofs.YthfdkonhjpdflaaGreatDoor
open Go.ChangeShapes Go.WideShapes Go.ChangeAt Go.RowKit
set_option linter.unusedVariables false
set_option maxRecDepth 100000
set_option linter.unusedSimpArgs false

/-- what is reached from d is as small as memory -/
def light {H : Type} (t : TypeId) (d : DataW H) : Prop := ∀ n ∈ d.weights Tryz.prog t, n ≤ reachBytes
theorem weightsAll_mem {H : Type} {e : TypeId} : ∀ {l : List (DataW H)} {d : DataW H} {n : Nat}, d ∈ l → n ∈ d.weights Tryz.prog e → n ∈ DataW.weightsAll Tryz.prog e l
  | [], d, n, h, _ => by simp at h
  | a :: r, d, n, h, hn => by
    simp only [DataW.weightsAll]
    rcases List.mem_cons.1 h with rfl | h
    · exact List.mem_append_left _ hn
    · exact List.mem_append_right _ (weightsAll_mem h hn)
theorem weightsEach_mem {H : Type} : ∀ {ts : List TypeId} {ds : List (DataW H)} {i : Nat} {t : TypeId} {d : DataW H} {n : Nat}, ts[i]? = some t → ds[i]? = some d → n ∈ d.weights Tryz.prog t → n ∈ DataW.weightsEach Tryz.prog ts ds
  | [], _, i, _, _, _, h, _, _ => by simp at h
  | _ :: _, [], i, _, _, _, _, h, _ => by simp at h
  | a :: ts, b :: ds, 0, t, d, n, h1, h2, hn => by
    simp at h1 h2
    subst h1 h2
    simp only [DataW.weightsEach]
    exact List.mem_append_left _ hn
  | a :: ts, b :: ds, i + 1, t, d, n, h1, h2, hn => by
    simp only [DataW.weightsEach]
    exact List.mem_append_right _ (weightsEach_mem (by simpa using h1) (by simpa using h2) hn)
theorem light_slice {H : Type} {t e : TypeId} (ht : Tryz.prog.underlying t = some (.slice e)) {es sp : List (DataW H)} (h : light t (.slice es sp)) : (es.length + sp.length) * Tryz.prog.bytesOf e ≤ reachBytes ∧ ∀ d ∈ es, light e d := by
  unfold light at h
  simp only [DataW.weights, ht, List.mem_cons, List.mem_append] at h
  exact ⟨h _ (.inl rfl), fun d hd n hn => h n (.inr (.inl (weightsAll_mem hd hn)))⟩
theorem light_struct {H : Type} {t : TypeId} {fs : Array Field} (ht : Tryz.prog.underlying t = some (.struct fs)) {ds : List (DataW H)} (h : light t (.agg ds)) {i : Nat} {f : Field} {d : DataW H} (hf : fs[i]? = some f) (hd : ds[i]? = some d) : light f.type d := by
  unfold light at h
  simp only [DataW.weights, ht] at h
  exact fun n hn => h n (weightsEach_mem (i := i) (by rw [List.getElem?_map, Array.getElem?_toList, hf]; rfl) hd hn)
theorem fldL {H : Type} {t : TypeId} {fs : Array Field} (ht : Tryz.prog.underlying t = some (.struct fs)) {xs : List (DataW H × List MemPlace)} {pl : List MemPlace} {x : DataW H × List MemPlace} (hx : x = (.agg (xs.map (·.1)), pl)) (hl : light t x.1) (hn : xs.length = fs.size) {i : Nat} {f : Field} (hf : fs[i]? = some f) {o : Option (DataW H × List MemPlace)} (h : o = xs[i]?) : ∃ y, o = some y ∧ light f.type y.1 := by
  have hi : i < xs.length := by rw [hn]; exact (Array.getElem?_eq_some_iff.1 hf).1
  have hy : xs[i]? = some xs[i] := List.getElem?_eq_getElem hi
  rw [hx] at hl
  exact ⟨xs[i], by rw [h, hy], light_struct ht hl hf (by rw [List.getElem?_map, hy]; rfl)⟩
theorem lits_len {H : Type} (k : IntKind) (zs : List Int) : (lits (H := H) k zs).length = zs.length := by simp [lits]
theorem bo_u8 : Tryz.prog.bytesOf 5 = 1 := by kernel_rfl
theorem bo_int : Tryz.prog.bytesOf 3 = 8 := by kernel_rfl
theorem bo_vote : Tryz.prog.bytesOf 69 = 48 := by kernel_rfl
theorem i64P_wf {n : Int} (h : (Lit.int .i64 n).wf = true) : i64P n := by simpa [i64P, Lit.wf, IntKind.min, IntKind.max, IntKind.signed, IntKind.bits] using h
theorem u8_wf {n : Int} (h : (Lit.int .u8 n).wf = true) : 0 ≤ n ∧ n ≤ 255 := by simpa [Lit.wf, IntKind.min, IntKind.max, IntKind.signed, IntKind.bits] using h
theorem oc_int : Tryz.prog.cellsOf 3 = 1 := by kernel_rfl
theorem oc_u8 : Tryz.prog.cellsOf 5 = 1 := by kernel_rfl
theorem oc_bytes : Tryz.prog.cellsOf 24 = 1 := by kernel_rfl
section
variable {H : Type} {enc : TypeId × Value → H} {W : World} {sp : Nat → Bool} {hd : Bool} {fuel : Nat} {cs : List Value} {x : DataW H × List MemPlace}
theorem op_int (h : DataW.trod enc Tryz.prog W 0 sp hd fuel 3 cs = some x) : ∃ n, cs = [.int .i64 n] ∧ i64P n := by
  obtain ⟨n, h1, _, h2⟩ := DataW.trod_int Tryz.underlying3 h
  exact ⟨n, h1, i64P_wf h2⟩
theorem op_bytes (h : DataW.trod enc Tryz.prog W 0 sp hd fuel 24 cs = some x) (hsz : light 24 x.1) : ∃ v l F, cs = [v] ∧ bytesV W F v l ∧ (∀ y ∈ F, y < W.heap.size) ∧ l.length ≤ 140737488355328 := by
  rcases open_ints Tryz.underlying24 Tryz.underlying5 (by kernel_rfl) h with ⟨rfl, _⟩ | ⟨xa, l, c, zs, rfl, _, hl', hm', hz, hxx, hcl, hwz⟩
  · exact ⟨_, [], [], rfl, bytesV.nil _ _, by simp, by simp⟩
  · have hzl : l ≤ zs.length := by rw [hz]; split <;> omega
    have hcl' : ∀ i, i < (zs.take l).length → W.cell? (xa.add i) = some (.int .u8 ((zs.take l).getD i 0)) := by
      intro i hi
      rw [List.length_take] at hi
      rw [hcl i (by omega)]
      simp only [List.getD_eq_getElem?_getD, List.getElem?_take]
      rw [if_pos (by omega)]
    obtain ⟨g, hg, hr⟩ := reads_of_ints (k := .u8) (Nat.le_refl l) (by rw [List.length_take]; omega) hcl'
    rw [List.take_of_length_le (by rw [List.length_take]; omega)] at hr
    have hw8 : ∀ n ∈ zs.take l, 0 ≤ n ∧ n ≤ 255 := fun n hn => u8_wf (hwz n (List.mem_of_mem_take hn))
    have hbl : (bytesOf (zs.take l)).length = l := by rw [bytesOf_length, List.length_take]; omega
    have hbz : l ≤ 140737488355328 := by
      rw [hxx] at hsz
      have h1 := (light_slice Tryz.underlying24 hsz).1
      rw [bo_u8, lits_len, lits_len, List.length_take] at h1
      unfold reachBytes at h1
      omega
    rw [← bv_bytesOf _ hw8] at hr
    refine ⟨_, bytesOf (zs.take l), if 0 < l then [g] else [], rfl, ⟨some xa, c, g, by rw [hbl], by rw [hbl]; exact hl', hm', seen_of_reads hbl hr, fun hne => ?_⟩, fun y hy => ?_, by rw [hbl]; exact hbz⟩
    · have := List.length_pos_iff.2 hne
      rw [if_pos (by omega)]; simp
    · split at hy
      · simp at hy; subst hy; exact hg (by omega)
      · simp at hy
theorem op_ints (h : DataW.trod enc Tryz.prog W 0 sp hd fuel 29 cs = some x) (hsz : light 29 x.1) : ∃ v l F, cs = [v] ∧ intsV W F v l ∧ (∀ n ∈ l, i64P n) ∧ (∀ y ∈ F, y < W.heap.size) ∧ l.length ≤ 17592186044416 := by
  rcases open_ints Tryz.underlying29 Tryz.underlying3 (by kernel_rfl) h with ⟨rfl, _⟩ | ⟨xa, l, c, zs, rfl, _, hl', hm', hz, hxx, hcl, hwz⟩
  · exact ⟨_, [], [], rfl, intsV.nil _ _, by simp, by simp, by simp⟩
  · have hzl : l ≤ zs.length := by rw [hz]; split <;> omega
    have hcl' : ∀ i, i < (zs.take l).length → W.cell? (xa.add i) = some (.int .i64 ((zs.take l).getD i 0)) := by
      intro i hi
      rw [List.length_take] at hi
      rw [hcl i (by omega)]
      simp only [List.getD_eq_getElem?_getD, List.getElem?_take]
      rw [if_pos (by omega)]
    obtain ⟨g, hg, hr⟩ := reads_of_ints (k := .i64) (Nat.le_refl l) (by rw [List.length_take]; omega) hcl'
    rw [List.take_of_length_le (by rw [List.length_take]; omega)] at hr
    have hbl : (zs.take l).length = l := by rw [List.length_take]; omega
    have hbz : l ≤ 17592186044416 := by
      rw [hxx] at hsz
      have h1 := (light_slice Tryz.underlying29 hsz).1
      rw [bo_int, lits_len, lits_len, List.length_take] at h1
      unfold reachBytes at h1
      omega
    refine ⟨_, zs.take l, if 0 < l then [g] else [], rfl, ⟨some xa, c, g, by rw [hbl], by rw [hbl]; exact hl', hm', by rw [hbl]; exact hr, fun hne => ?_⟩, fun n hn => i64P_wf (hwz n (List.mem_of_mem_take hn)), fun y hy => ?_, by rw [hbl]; exact hbz⟩
    · have := List.length_pos_iff.2 hne
      rw [if_pos (by omega)]; simp
    · split at hy
      · simp at hy; subst hy; exact hg (by omega)
      · simp at hy
theorem op_row {k : IntKind} {e t : TypeId} {n : Nat} (ht : Tryz.prog.underlying t = some (.array n e)) (he : Tryz.prog.underlying e = some (.int k)) (hc : Tryz.prog.cellsOf e = 1) (hn : Tryz.prog.cellsOf t = n) (h : DataW.trod enc Tryz.prog W 0 sp hd fuel t cs = some x) : ∃ zs : List Int, zs.length = n ∧ cs = zs.map (Value.int k) ∧ ∀ z ∈ zs, (Lit.int k z).wf = true := by
  obtain ⟨xs, m, _, _, hl, hxl, hx⟩ := DataW.trod_array ht h
  rw [hn] at hl
  have each : ∀ i (hi : i < n), ∃ z, cs[i]? = some (.int k z) ∧ (Lit.int k z).wf = true := fun i hi => by
    have h0 := hx i hi
    rw [hc, Nat.mul_one, List.getElem?_eq_getElem (by omega)] at h0
    obtain ⟨z, h1, _, h2⟩ := DataW.trod_int he h0
    refine ⟨z, ?_, h2⟩
    have := congrArg (fun l => l[0]?) h1
    simpa [List.getElem?_take, List.getElem?_drop] using this
  clear hx hxl
  induction cs generalizing n with
  | nil => exact ⟨[], by simpa using hl, rfl, by simp⟩
  | cons c r ih =>
    cases n with
    | zero => simp at hl
    | succ n =>
      obtain ⟨z, hz, hw⟩ := each 0 (by omega)
      obtain ⟨zs, h1, h2, h3⟩ : ∃ zs : List Int, zs.length = n ∧ r = zs.map (Value.int k) ∧ ∀ z ∈ zs, (Lit.int k z).wf = true := by
        have hr : r.length = n := by simpa using hl
        have er : ∀ i (hi : i < n), ∃ z, r[i]? = some (.int k z) ∧ (Lit.int k z).wf = true := fun i hi => by
          obtain ⟨z, h1, h2⟩ := each (i + 1) (by omega)
          exact ⟨z, by simpa using h1, h2⟩
        clear ih each hl hz hw ht hn h
        induction r generalizing n with
        | nil => exact ⟨[], by simpa using hr, rfl, by simp⟩
        | cons c r ih =>
          cases n with
          | zero => simp at hr
          | succ n =>
            obtain ⟨z, hz, hw⟩ := er 0 (by omega)
            obtain ⟨zs, h1, h2, h3⟩ := ih (n := n) (by simpa using hr) (fun i hi => by obtain ⟨z, h1, h2⟩ := er (i + 1) (by omega); exact ⟨z, by simpa using h1, h2⟩)
            simp at hz
            subst hz h2
            exact ⟨z :: zs, by simp [h1], rfl, fun y hy => by rcases List.mem_cons.1 hy with rfl | hy; exact hw; exact h3 y hy⟩
      simp at hz
      subst hz h2
      exact ⟨z :: zs, by simp [h1], rfl, fun y hy => by rcases List.mem_cons.1 hy with rfl | hy; exact hw; exact h3 y hy⟩
end
theorem oc_name : Tryz.prog.cellsOf 23 = 32 := by kernel_rfl
theorem oc_ints : Tryz.prog.cellsOf 29 = 1 := by kernel_rfl
theorem oc_bool : Tryz.prog.cellsOf 4 = 1 := by kernel_rfl
theorem oc_req : Tryz.prog.cellsOf 26 = 37 := by kernel_rfl
theorem oc_ans : Tryz.prog.cellsOf 28 = 38 := by kernel_rfl
theorem oc_conf : Tryz.prog.cellsOf 31 = 3 := by kernel_rfl
theorem oc_vote : Tryz.prog.cellsOf 69 = 4 := by kernel_rfl
theorem oc_votes : Tryz.prog.cellsOf 32 = 1 := by kernel_rfl
theorem oc_pk : Tryz.prog.cellsOf 34 = 87 := by kernel_rfl
theorem fldO {β : Type} {xs : List β} {n i : Nat} (hx : xs.length = n) (hi : i < n) {o : Option β} (h : o = xs[i]?) : ∃ y, o = some y := ⟨xs[i], by rw [h, List.getElem?_eq_getElem]⟩
theorem segO {l s rest : List Value} {o n k : Nat} (h : (l.drop o).take n = s) (hk : o + n = k) (r : l.drop k = rest) : l.drop o = s ++ rest := by
  rw [← List.take_append_drop n (l.drop o), h, List.drop_drop, hk, r]
section
variable {H : Type} {enc : TypeId × Value → H} {W : World} {sp : Nat → Bool} {hd : Bool} {fuel : Nat} {cs : List Value} {x : DataW H × List MemPlace}
theorem op_name (h : DataW.trod enc Tryz.prog W 0 sp hd fuel 23 cs = some x) : ∃ nm : List UInt8, nm.length = 32 ∧ cs = nameL nm := by
  obtain ⟨zs, h1, rfl, h3⟩ := op_row Tryz.underlying23 Tryz.underlying5 (by kernel_rfl) oc_name h
  exact ⟨bytesOf zs, by rw [bytesOf_length, h1], (bv_bytesOf zs (fun n hn => u8_wf (h3 n hn))).symm⟩
theorem op_req (h : DataW.trod enc Tryz.prog W 0 sp hd fuel 26 cs = some x) (hsz : light 26 x.1) : ∃ r ev F, cs = rqL r ev ∧ rqV W F r ev ∧ (∀ y ∈ F, y < W.heap.size) ∧ r.env.length ≤ 140737488355328 := by
  obtain ⟨xs, k, _, hxx, hcl, hxl, hf⟩ := DataW.trod_struct Tryz.underlying26 h
  rw [oc_req] at hcl
  obtain ⟨_, g0⟩ : ∃ y, DataW.trod enc Tryz.prog W 0 sp hd k 3 ((cs.drop 0).take (Tryz.prog.cellsOf 3)) = some y := fldO hxl (by decide) (hf 0 _ rfl)
  obtain ⟨_, g1⟩ : ∃ y, DataW.trod enc Tryz.prog W 0 sp hd k 3 ((cs.drop 1).take (Tryz.prog.cellsOf 3)) = some y := fldO hxl (by decide) (hf 1 _ rfl)
  obtain ⟨_, g2⟩ : ∃ y, DataW.trod enc Tryz.prog W 0 sp hd k 3 ((cs.drop 2).take (Tryz.prog.cellsOf 3)) = some y := fldO hxl (by decide) (hf 2 _ rfl)
  obtain ⟨_, g3⟩ : ∃ y, DataW.trod enc Tryz.prog W 0 sp hd k 3 ((cs.drop 3).take (Tryz.prog.cellsOf 3)) = some y := fldO hxl (by decide) (hf 3 _ rfl)
  obtain ⟨_, g4⟩ : ∃ y, DataW.trod enc Tryz.prog W 0 sp hd k 23 ((cs.drop 4).take (Tryz.prog.cellsOf 23)) = some y := fldO hxl (by decide) (hf 4 _ rfl)
  obtain ⟨_, g5, l5⟩ : ∃ y, DataW.trod enc Tryz.prog W 0 sp hd k 24 ((cs.drop 36).take (Tryz.prog.cellsOf 24)) = some y ∧ light 24 y.1 := fldL Tryz.underlying26 hxx hsz hxl (i := 5) rfl (hf 5 _ rfl)
  rw [oc_int] at g0 g1 g2 g3
  rw [oc_name] at g4
  rw [oc_bytes] at g5
  obtain ⟨n0, e0, _⟩ := op_int g0
  obtain ⟨n1, e1, _⟩ := op_int g1
  obtain ⟨n2, e2, _⟩ := op_int g2
  obtain ⟨n3, e3, _⟩ := op_int g3
  obtain ⟨nm, hn, e4⟩ := op_name g4
  obtain ⟨ev, l, F, e5, hb, hF, hz⟩ := op_bytes g5 l5
  have z : cs.drop 37 = [] := List.drop_eq_nil_of_le (by omega)
  have q := segO e0 rfl (segO e1 rfl (segO e2 rfl (segO e3 rfl (segO e4 rfl (segO e5 rfl z)))))
  exact ⟨⟨n0, n1, n2, n3, nm, l⟩, ev, F, by simpa [rqL] using q, ⟨hn, hb⟩, hF, hz⟩
theorem op_ans (h : DataW.trod enc Tryz.prog W 0 sp hd fuel 28 cs = some x) (hsz : light 28 x.1) : ∃ r ev F, cs = anL r ev ∧ anV W F r ev ∧ (∀ y ∈ F, y < W.heap.size) ∧ r.env.length ≤ 140737488355328 := by
  obtain ⟨xs, k, _, hxx, hcl, hxl, hf⟩ := DataW.trod_struct Tryz.underlying28 h
  rw [oc_ans] at hcl
  obtain ⟨_, g0⟩ : ∃ y, DataW.trod enc Tryz.prog W 0 sp hd k 3 ((cs.drop 0).take (Tryz.prog.cellsOf 3)) = some y := fldO hxl (by decide) (hf 0 _ rfl)
  obtain ⟨_, g1⟩ : ∃ y, DataW.trod enc Tryz.prog W 0 sp hd k 3 ((cs.drop 1).take (Tryz.prog.cellsOf 3)) = some y := fldO hxl (by decide) (hf 1 _ rfl)
  obtain ⟨_, g2⟩ : ∃ y, DataW.trod enc Tryz.prog W 0 sp hd k 3 ((cs.drop 2).take (Tryz.prog.cellsOf 3)) = some y := fldO hxl (by decide) (hf 2 _ rfl)
  obtain ⟨_, g3⟩ : ∃ y, DataW.trod enc Tryz.prog W 0 sp hd k 3 ((cs.drop 3).take (Tryz.prog.cellsOf 3)) = some y := fldO hxl (by decide) (hf 3 _ rfl)
  obtain ⟨_, g4⟩ : ∃ y, DataW.trod enc Tryz.prog W 0 sp hd k 3 ((cs.drop 4).take (Tryz.prog.cellsOf 3)) = some y := fldO hxl (by decide) (hf 4 _ rfl)
  obtain ⟨_, g5⟩ : ∃ y, DataW.trod enc Tryz.prog W 0 sp hd k 23 ((cs.drop 5).take (Tryz.prog.cellsOf 23)) = some y := fldO hxl (by decide) (hf 5 _ rfl)
  obtain ⟨_, g6, l6⟩ : ∃ y, DataW.trod enc Tryz.prog W 0 sp hd k 24 ((cs.drop 37).take (Tryz.prog.cellsOf 24)) = some y ∧ light 24 y.1 := fldL Tryz.underlying28 hxx hsz hxl (i := 6) rfl (hf 6 _ rfl)
  rw [oc_int] at g0 g1 g2 g3 g4
  rw [oc_name] at g5
  rw [oc_bytes] at g6
  obtain ⟨n0, e0, _⟩ := op_int g0
  obtain ⟨n1, e1, _⟩ := op_int g1
  obtain ⟨n2, e2, _⟩ := op_int g2
  obtain ⟨n3, e3, _⟩ := op_int g3
  obtain ⟨n4, e4, _⟩ := op_int g4
  obtain ⟨nm, hn, e5⟩ := op_name g5
  obtain ⟨ev, l, F, e6, hb, hF, hz⟩ := op_bytes g6 l6
  have z : cs.drop 38 = [] := List.drop_eq_nil_of_le (by omega)
  have q := segO e0 rfl (segO e1 rfl (segO e2 rfl (segO e3 rfl (segO e4 rfl (segO e5 rfl (segO e6 rfl z))))))
  exact ⟨⟨n0, n1, n2, n3, n4, nm, l⟩, ev, F, by simpa [anL] using q, ⟨hn, hb⟩, hF, hz⟩
theorem op_conf (h : DataW.trod enc Tryz.prog W 0 sp hd fuel 31 cs = some x) (hsz : light 31 x.1) : ∃ c cv F, cs = cfL c cv ∧ intsV W F cv c.chain ∧ (∀ y ∈ F, y < W.heap.size) ∧ c.chain.length ≤ 17592186044416 := by
  obtain ⟨xs, k, _, hxx, hcl, hxl, hf⟩ := DataW.trod_struct Tryz.underlying31 h
  rw [oc_conf] at hcl
  obtain ⟨_, g0⟩ : ∃ y, DataW.trod enc Tryz.prog W 0 sp hd k 3 ((cs.drop 0).take (Tryz.prog.cellsOf 3)) = some y := fldO hxl (by decide) (hf 0 _ rfl)
  obtain ⟨_, g1⟩ : ∃ y, DataW.trod enc Tryz.prog W 0 sp hd k 3 ((cs.drop 1).take (Tryz.prog.cellsOf 3)) = some y := fldO hxl (by decide) (hf 1 _ rfl)
  obtain ⟨_, g2, l2⟩ : ∃ y, DataW.trod enc Tryz.prog W 0 sp hd k 29 ((cs.drop 2).take (Tryz.prog.cellsOf 29)) = some y ∧ light 29 y.1 := fldL Tryz.underlying31 hxx hsz hxl (i := 2) rfl (hf 2 _ rfl)
  rw [oc_int] at g0 g1
  rw [oc_ints] at g2
  obtain ⟨n0, e0, _⟩ := op_int g0
  obtain ⟨n1, e1, _⟩ := op_int g1
  obtain ⟨cv, l, F, e2, hb, _, hF, hz⟩ := op_ints g2 l2
  have z : cs.drop 3 = [] := List.drop_eq_nil_of_le (by omega)
  have q := segO e0 rfl (segO e1 rfl (segO e2 rfl z))
  exact ⟨⟨n0, n1, l⟩, cv, F, by simpa [cfL] using q, hb, hF, hz⟩
theorem op_vote (h : DataW.trod enc Tryz.prog W 0 sp hd fuel 69 cs = some x) (hsz : light 69 x.1) : ∃ v cv F, cs = vtL v cv ∧ intsV W F cv v.conf.chain ∧ (∀ y ∈ F, y < W.heap.size) ∧ v.conf.chain.length ≤ 17592186044416 := by
  obtain ⟨xs, k, _, hxx, hcl, hxl, hf⟩ := DataW.trod_struct Tryz.underlying69 h
  rw [oc_vote] at hcl
  obtain ⟨_, g0⟩ : ∃ y, DataW.trod enc Tryz.prog W 0 sp hd k 3 ((cs.drop 0).take (Tryz.prog.cellsOf 3)) = some y := fldO hxl (by decide) (hf 0 _ rfl)
  obtain ⟨_, g1, l1⟩ : ∃ y, DataW.trod enc Tryz.prog W 0 sp hd k 31 ((cs.drop 1).take (Tryz.prog.cellsOf 31)) = some y ∧ light 31 y.1 := fldL Tryz.underlying69 hxx hsz hxl (i := 1) rfl (hf 1 _ rfl)
  rw [oc_int] at g0
  rw [oc_conf] at g1
  obtain ⟨n0, e0, _⟩ := op_int g0
  obtain ⟨c, cv, F, e1, hb, hF, hz⟩ := op_conf g1 l1
  have z : cs.drop 4 = [] := List.drop_eq_nil_of_le (by omega)
  have q := segO e0 rfl (segO e1 rfl z)
  exact ⟨⟨n0, c⟩, cv, F, by simpa [vtL, cfL] using q, hb, hF, hz⟩
theorem flatVT_getO {T : List (VT × Value)} {j : Nat} {u : Value} (h : (flatVT T)[j]? = some u) : ∃ t, T[j / 4]? = some t ∧ (vtL t.1 t.2)[j % 4]? = some u := by
  have hj : j < (flatVT T).length := (List.getElem?_eq_some_iff.1 h).1
  rw [flatVT_len] at hj
  have hi : j / 4 < T.length := by omega
  refine ⟨T[j / 4], List.getElem?_eq_getElem hi, ?_⟩
  have hr : j % 4 < (vtL T[j / 4].1 T[j / 4].2).length := by show j % 4 < 4; omega
  have := flatVT_at T (j / 4) T[j / 4] (List.getElem?_eq_getElem hi) (j % 4) _ (List.getElem?_eq_getElem hr)
  rw [show j / 4 * 4 + j % 4 = j by omega, h] at this
  rw [List.getElem?_eq_getElem hr]
  exact this.symm ▸ rfl
theorem op_votes (h : DataW.trod enc Tryz.prog W 0 sp hd fuel 32 cs = some x) (hsz : light 32 x.1) : ∃ v l F, cs = [v] ∧ votesV W F v l ∧ (∀ y ∈ F, y < W.heap.size) ∧ l.length ≤ 2932031007402 ∧ ∀ v ∈ l, v.conf.chain.length ≤ 17592186044416 := by
  rcases Deep.open_slice Tryz.underlying32 h with ⟨rfl, _⟩ | ⟨a, len, cap, m, n, D, Pl, rfl, hb, hl, hm, hmm, rfl, hx⟩
  · exact ⟨_, [], [], rfl, votesV.nil _ _, by simp, by simp, by simp⟩
  · have hlm : len ≤ m := by rw [hmm]; split <;> omega
    obtain ⟨hs1, hs2⟩ := light_slice Tryz.underlying32 hsz
    have hbz : len ≤ 2932031007402 := by
      rw [bo_vote, List.length_map, List.length_range] at hs1
      unfold reachBytes at hs1
      omega
    by_cases h0 : len = 0
    · subst h0
      exact ⟨_, [], [], rfl, ⟨some a, cap, 0, [], rfl, by simp, hm, rfl, ⟨rfl, fun h => absurd h (by simp)⟩, by simp, fun h => absurd rfl h⟩, by simp, by simp, by simp⟩
    · obtain ⟨g, o, s⟩ := a
      have each : ∀ i, i < len → ∃ z : VT × Value × List Nat, (∀ r u, (vtL z.1 z.2.1)[r]? = some u → W.cell? ((⟨g, o, s⟩ : Addr).add (i * 4 + r)) = some u) ∧ intsV W z.2.2 z.2.1 z.1.conf.chain ∧ (∀ y ∈ z.2.2, y < W.heap.size) ∧ z.1.conf.chain.length ≤ 17592186044416 := fun i hi => by
        obtain ⟨cs', h1, h2⟩ := hx i (by omega)
        rw [oc_vote] at h1
        obtain ⟨_, hlen, hcell⟩ := World.cells?_some h1
        obtain ⟨v, cv, F, e, hv, hF, hz⟩ := op_vote h2 (hs2 _ (List.mem_map.2 ⟨i, List.mem_range.2 hi, rfl⟩))
        refine ⟨(v, cv, F), fun r u hu => ?_, hv, hF, hz⟩
        dsimp only at hu
        rw [← e] at hu
        have hr : r < cs'.length := (List.getElem?_eq_some_iff.1 hu).1
        have := hcell r (by omega)
        rw [Deep.add_add, hu] at this
        exact this
      have hs : s = none := by
        obtain ⟨z, h1, _⟩ := each 0 (by omega)
        have c0 := h1 0 _ rfl
        have := World.cell?_spot c0
        simpa [Addr.add] using this
      subst hs
      have : Inhabited (VT × Value × List Nat) := ⟨(⟨0, ⟨0, 0, []⟩⟩, .slice none 0 0, [])⟩
      obtain ⟨f, hf⟩ := Deep.choose_lt each
      have hg : g < W.heap.size := by
        have c0 := (hf 0 (by omega)).1 0 _ rfl
        rw [add_plain] at c0
        simpa using World.block_lt_of_cell? W _ c0
      obtain ⟨T, hT⟩ : ∃ T, (List.range len).map (fun i => ((f i).1, (f i).2.1)) = T := ⟨_, rfl⟩
      have hTl : T.length = len := by rw [← hT]; simp
      have hTi : ∀ i t, T[i]? = some t → i < len ∧ t = ((f i).1, (f i).2.1) := fun i t ht => by
        have hi : i < T.length := (List.getElem?_eq_some_iff.1 ht).1
        rw [← hT, List.getElem?_map, List.getElem?_range (by omega)] at ht
        exact ⟨by omega, (Option.some.inj ht).symm⟩
      refine ⟨_, T.map (·.1), g :: (List.range len).flatMap (fun i => (f i).2.2), rfl, ⟨some ⟨g, o, none⟩, cap, g, T, by rw [List.length_map, hTl], by rw [List.length_map, hTl]; exact hl, hm, rfl, ⟨by rw [flatVT_len, List.length_map], fun _ => ⟨o, rfl, hg, fun j u hu => ?_⟩⟩, fun t ht => ?_, fun _ => by simp⟩, fun y hy => ?_, by rw [List.length_map, hTl]; exact hbz, fun v hv => ?_⟩
      · obtain ⟨t, h1, h2⟩ := flatVT_getO hu
        obtain ⟨hi, rfl⟩ := hTi _ _ h1
        have := (hf (j / 4) hi).1 (j % 4) u h2
        rw [add_plain, show j / 4 * 4 + j % 4 = j by omega] at this
        exact this
      · obtain ⟨i, hi⟩ := List.getElem?_of_mem ht
        obtain ⟨hil, rfl⟩ := hTi _ _ hi
        exact (hf i hil).2.1.more (fun y hy => List.mem_cons.2 (.inr (List.mem_flatMap.2 ⟨i, List.mem_range.2 hil, hy⟩)))
      · rcases List.mem_cons.1 hy with rfl | hy
        · exact hg
        · obtain ⟨i, hi, hy⟩ := List.mem_flatMap.1 hy
          exact (hf i (List.mem_range.1 hi)).2.2.1 y hy
      · obtain ⟨t, ht, rfl⟩ := List.mem_map.1 hv
        obtain ⟨i, hi⟩ := List.getElem?_of_mem ht
        obtain ⟨hil, rfl⟩ := hTi _ _ hi
        exact (hf i hil).2.2.2
theorem op_boolc (h : DataW.trod enc Tryz.prog W 0 sp hd fuel 4 cs = some x) : ∃ b, cs = [.bool b] := by
  obtain ⟨b, e, _⟩ := DataW.trod_bool Tryz.underlying4 h
  exact ⟨b, e⟩
theorem op_pk (h : DataW.trod enc Tryz.prog W 0 sp hd fuel 34 cs = some x) (hsz : light 34 x.1) : ∃ p ev av cv vv bw F, cs = pkL p ev av cv vv bw ∧ pkV W F p ev av cv vv bw ∧ (∀ y ∈ F, y < W.heap.size) ∧ p.fits ∧ i64P p.frm ∧ i64P p.dst := by
  obtain ⟨xs, k, _, hxx, hcl, hxl, hf⟩ := DataW.trod_struct Tryz.underlying34 h
  rw [oc_pk] at hcl
  obtain ⟨_, g0⟩ : ∃ y, DataW.trod enc Tryz.prog W 0 sp hd k 3 ((cs.drop 0).take (Tryz.prog.cellsOf 3)) = some y := fldO hxl (by decide) (hf 0 _ rfl)
  obtain ⟨_, g1⟩ : ∃ y, DataW.trod enc Tryz.prog W 0 sp hd k 3 ((cs.drop 1).take (Tryz.prog.cellsOf 3)) = some y := fldO hxl (by decide) (hf 1 _ rfl)
  obtain ⟨_, g2⟩ : ∃ y, DataW.trod enc Tryz.prog W 0 sp hd k 3 ((cs.drop 2).take (Tryz.prog.cellsOf 3)) = some y := fldO hxl (by decide) (hf 2 _ rfl)
  obtain ⟨_, g3⟩ : ∃ y, DataW.trod enc Tryz.prog W 0 sp hd k 3 ((cs.drop 3).take (Tryz.prog.cellsOf 3)) = some y := fldO hxl (by decide) (hf 3 _ rfl)
  obtain ⟨_, g4⟩ : ∃ y, DataW.trod enc Tryz.prog W 0 sp hd k 3 ((cs.drop 4).take (Tryz.prog.cellsOf 3)) = some y := fldO hxl (by decide) (hf 4 _ rfl)
  obtain ⟨_, g5⟩ : ∃ y, DataW.trod enc Tryz.prog W 0 sp hd k 3 ((cs.drop 5).take (Tryz.prog.cellsOf 3)) = some y := fldO hxl (by decide) (hf 5 _ rfl)
  obtain ⟨_, g6⟩ : ∃ y, DataW.trod enc Tryz.prog W 0 sp hd k 4 ((cs.drop 6).take (Tryz.prog.cellsOf 4)) = some y := fldO hxl (by decide) (hf 6 _ rfl)
  obtain ⟨_, g7, l7⟩ : ∃ y, DataW.trod enc Tryz.prog W 0 sp hd k 26 ((cs.drop 7).take (Tryz.prog.cellsOf 26)) = some y ∧ light 26 y.1 := fldL Tryz.underlying34 hxx hsz hxl (i := 7) rfl (hf 7 _ rfl)
  obtain ⟨_, g8, l8⟩ : ∃ y, DataW.trod enc Tryz.prog W 0 sp hd k 28 ((cs.drop 44).take (Tryz.prog.cellsOf 28)) = some y ∧ light 28 y.1 := fldL Tryz.underlying34 hxx hsz hxl (i := 8) rfl (hf 8 _ rfl)
  obtain ⟨_, g9, l9⟩ : ∃ y, DataW.trod enc Tryz.prog W 0 sp hd k 31 ((cs.drop 82).take (Tryz.prog.cellsOf 31)) = some y ∧ light 31 y.1 := fldL Tryz.underlying34 hxx hsz hxl (i := 9) rfl (hf 9 _ rfl)
  obtain ⟨_, g10, l10⟩ : ∃ y, DataW.trod enc Tryz.prog W 0 sp hd k 32 ((cs.drop 85).take (Tryz.prog.cellsOf 32)) = some y ∧ light 32 y.1 := fldL Tryz.underlying34 hxx hsz hxl (i := 10) rfl (hf 10 _ rfl)
  obtain ⟨_, g11, l11⟩ : ∃ y, DataW.trod enc Tryz.prog W 0 sp hd k 24 ((cs.drop 86).take (Tryz.prog.cellsOf 24)) = some y ∧ light 24 y.1 := fldL Tryz.underlying34 hxx hsz hxl (i := 11) rfl (hf 11 _ rfl)
  rw [oc_int] at g0 g1 g2 g3 g4 g5
  rw [oc_bool] at g6
  rw [oc_req] at g7
  rw [oc_ans] at g8
  rw [oc_conf] at g9
  rw [oc_votes] at g10
  rw [oc_bytes] at g11
  obtain ⟨n0, e0, _⟩ := op_int g0
  obtain ⟨n1, e1, i1⟩ := op_int g1
  obtain ⟨n2, e2, i2⟩ := op_int g2
  obtain ⟨n3, e3, _⟩ := op_int g3
  obtain ⟨n4, e4, _⟩ := op_int g4
  obtain ⟨n5, e5, _⟩ := op_int g5
  obtain ⟨b6, e6⟩ := op_boolc g6
  obtain ⟨r, ev, F7, e7, hr, hF7, z7⟩ := op_req g7 l7
  obtain ⟨a, av, F8, e8, ha, hF8, z8⟩ := op_ans g8 l8
  obtain ⟨c, cv, F9, e9, hc, hF9, z9⟩ := op_conf g9 l9
  obtain ⟨vv, vs, F10, e10, hv, hF10, z10, zc⟩ := op_votes g10 l10
  obtain ⟨bw, bs, F11, e11, hb, hF11, z11⟩ := op_bytes g11 l11
  have z : cs.drop 87 = [] := List.drop_eq_nil_of_le (by omega)
  have q := segO e0 rfl (segO e1 rfl (segO e2 rfl (segO e3 rfl (segO e4 rfl (segO e5 rfl (segO e6 rfl (segO e7 rfl (segO e8 rfl (segO e9 rfl (segO e10 rfl (segO e11 rfl z)))))))))))
  refine ⟨⟨n0, n1, n2, n3, n4, n5, b6, r, a, c, vs, bs⟩, ev, av, cv, vv, bw, F7 ++ (F8 ++ (F9 ++ (F10 ++ F11))), by simpa [pkL] using q, ⟨hr.1, ha.1, hr.2.more (by simp +contextual), ha.2.more (by simp +contextual), hc.more (by simp +contextual), hv.more (by simp +contextual), hb.more (by simp +contextual)⟩, fun y hy => ?_, ⟨z7, z8, z9, z10, zc, z11⟩, i1, i2⟩
  simp only [List.mem_append] at hy
  rcases hy with hy | hy | hy | hy | hy
  · exact hF7 y hy
  · exact hF8 y hy
  · exact hF9 y hy
  · exact hF10 y hy
  · exact hF11 y hy
theorem open_pkV {r : Reach} {b0 : Nat} {v : Value} {d : DataW H} {p : List MemPlace}
    (hv : Value.okWide Tryz.prog W r b0 34 v) (h : DataW.Trod enc Tryz.prog W 0 sp hd 34 v d p) (hsz : light 34 d) :
    ∃ (p : PK) (X : List Value) (F : List Nat), v = .agg X.toArray ∧ itemV W F (p, X) ∧ (∀ y ∈ F, y < W.heap.size) ∧ i64P p.frm ∧ i64P p.dst := by
  obtain ⟨cs, rfl, _⟩ : ∃ cs, v = .agg cs ∧ cs.size = Tryz.prog.cellsOf 34 ∧ Row.okWide Tryz.prog W r b0 34 cs := by
    simpa [Value.okWide, Tryz.underlying34] using hv
  obtain ⟨fuel, hf⟩ := h
  obtain ⟨p, ev, av, cv, vv, bw, F, h1, h2, h3, _, h4, h5⟩ := op_pk hf hsz
  refine ⟨p, pkL p ev av cv vv bw, F, ?_, ⟨ev, av, cv, vv, bw, rfl, h2⟩, h3, h4, h5⟩
  rw [← h1]
  simp [Value.cells]
end
end Go.Proofs.YthfdkonhjpdflaaGreatDoor
end

section
namespace Go.Proofs.YthfdkonhjpdflaaGreatDoor
open Go.ChangeShapes Go.WideShapes Go.ChangeAt Go.WideMaps Go.WideElems Go.RowKit
set_option linter.unusedVariables false

abbrev laidL : List (String × DataW Unit) := [("sealchain/pack.fields", Rows.laid_sealchain_pack_fields)]
theorem gFields : Tryz.prog.globalNamed "sealchain/pack.fields" = some 0 := by kernel_rfl
theorem tFields : (Tryz.prog.globals[0]?).map (·.type) = some 125 := by kernel_rfl
theorem cIntL : Tryz.prog.cellsOf 3 = 1 := by kernel_rfl

theorem door_met (os : Os) (args : Array Value) : laidMetH Tryz.prog laidL ((World.doorLaid Tryz.prog 400 os).forCall (fun _ _ => 0) ⟨#[], args, []⟩).memory :=
  laidMetH_of_parts3 (fuel := 8) (laidMet_of_run' 8 (by kernel_rfl) (by kernel_rfl)) (by kernel_rfl) (by kernel_rfl)

theorem lits_at {H : Type} : ∀ k : Nat, k < 15 → ([.lit (.int .i64 0), .lit (.int .i64 16), .lit (.int .i64 32), .lit (.int .i64 19), .lit (.int .i64 3), .lit (.int .i64 3), .lit (.int .i64 259), .lit (.int .i64 64), .lit (.int .i64 9), .lit (.int .i64 1024), .lit (.int .i64 6), .lit (.int .i64 134), .lit (.int .i64 70), .lit (.int .i64 6), .lit (.int .i64 4)] : List (DataW H))[k]? = some (.lit (.int .i64 (fieldsT k)))
  | 0, _ => rfl
  | 1, _ => rfl
  | 2, _ => rfl
  | 3, _ => rfl
  | 4, _ => rfl
  | 5, _ => rfl
  | 6, _ => rfl
  | 7, _ => rfl
  | 8, _ => rfl
  | 9, _ => rfl
  | 10, _ => rfl
  | 11, _ => rfl
  | 12, _ => rfl
  | 13, _ => rfl
  | 14, _ => rfl
  | k + 15, h => by omega
theorem fields_of_laid {W : World} (h : laidMetH Tryz.prog laidL W) : fieldsAt W := by
  rw [MakeChecks.laidMetH_plain _ _ _ (by kernel_rfl)] at h
  obtain ⟨ps, ⟨g0, t0, cs0, f0, p0, q0, hg0, ht0, hv0, hd0, _⟩, _⟩ := h
  obtain rfl := Option.some.inj (gFields.symm.trans hg0)
  obtain rfl := Option.some.inj (tFields.symm.trans ht0)
  obtain ⟨xs, m1, rfl, hx1, hlen, hn3, hel⟩ := DataW.trod_array Tryz.underlying125 hd0
  simp only [Prod.mk.injEq, Rows.laid_sealchain_pack_fields, DataW.agg.injEq] at hx1
  intro k hk
  have hc := World.var?_cell hg0 hv0 k
  obtain ⟨x, hx⟩ : ∃ x, xs[k]? = some x := ⟨_, List.getElem?_eq_getElem (by omega)⟩
  have h0 := hel k hk
  rw [cIntL, hx, Nat.mul_one] at h0
  obtain ⟨n, hn, hxn, _⟩ := DataW.trod_int Tryz.underlying3 h0
  have hm : (xs.map (·.1))[k]? = some (.lit (.int .i64 n)) := by rw [List.getElem?_map, hx, hxn]; rfl
  rw [← hx1.1, lits_at k hk] at hm
  simp only [Option.some.injEq, DataW.lit.injEq, Lit.int.injEq, true_and] at hm
  have hv : cs0.toList[k]? = some (.int .i64 n) := by
    have := congrArg (fun l => l[0]?) hn
    simpa [List.getElem?_take, List.getElem?_drop] using this
  rw [hc, hm, ← hv]
  simp
end Go.Proofs.YthfdkonhjpdflaaGreatDoor
end
