/-
  VIEW: the statements' own 'made': rows out of seeds.
-/
import Derived.Test.YtjipokilidhnoaaViewMany
import Derived.Test.YtjipokilidhnoaaViewSeeds
import Derived.Test.YtjipokilidhnoaaBring
namespace Go.Proofs.Ytjipokilidhnoaa
open Go.RowKit
set_option linter.unusedVariables false
set_option maxRecDepth 100000

def nodeAt (k : Nat) : Int := if k < 3 then (k : Int) else (k : Int) + 7
def stTo (l : List SD) : Nat → Int
  | 0 => 0
  | k + 1 => match l[k]? with | some d => stTo l k + d.on % 3 | none => stTo l k
def sdRow (st : Int) (d : SD) : VR := ⟨st, nodeAt (d.node % 7).toNat, 1 + d.kind % 3, d.b.take 100⟩
def mdTo (l : List SD) : Nat → List VR
  | 0 => []
  | k + 1 => match l[k]? with | some d => mdTo l k ++ [sdRow (stTo l (k + 1)) d] | none => mdTo l k
theorem stTo_at {l : List SD} {k : Nat} {d : SD} (h : l[k]? = some d) : stTo l (k + 1) = stTo l k + d.on % 3 := by
  show (match l[k]? with | some d => stTo l k + d.on % 3 | none => stTo l k) = _
  rw [h]
theorem mdTo_at {l : List SD} {k : Nat} {d : SD} (h : l[k]? = some d) : mdTo l (k + 1) = mdTo l k ++ [sdRow (stTo l (k + 1)) d] := by
  show (match l[k]? with | some d => mdTo l k ++ [sdRow (stTo l (k + 1)) d] | none => mdTo l k) = _
  rw [h]
theorem sd_at {l : List SD} {k : Nat} (h : k < l.length) : ∃ d, l[k]? = some d := ⟨_, List.getElem?_eq_getElem h⟩
theorem mdTo_len {l : List SD} : ∀ {k : Nat}, k ≤ l.length → (mdTo l k).length = k
  | 0, _ => rfl
  | k + 1, h => by
    obtain ⟨d, hd⟩ := sd_at (l := l) (k := k) (by omega)
    rw [mdTo_at hd, List.length_append, mdTo_len (by omega)]
    rfl
theorem stTo_bounds (l : List SD) : ∀ k : Nat, 0 ≤ stTo l k ∧ stTo l k ≤ 2 * (k : Int)
  | 0 => ⟨Int.le_refl _, Int.le_refl _⟩
  | k + 1 => by
    have h := stTo_bounds l k
    cases hd : l[k]? with
    | none =>
      have e : stTo l (k + 1) = stTo l k := by show (match l[k]? with | some d => stTo l k + d.on % 3 | none => stTo l k) = _; rw [hd]
      rw [e]; omega
    | some d => rw [stTo_at hd]; have := Int.emod_nonneg d.on (show (3 : Int) ≠ 0 by omega); have := Int.emod_lt_of_pos d.on (show (0 : Int) < 3 by omega); omega
theorem mdTo_last {l : List SD} : ∀ {k : Nat}, k ≤ l.length → lastOf (mdTo l k) = stTo l k
  | 0, _ => rfl
  | k + 1, h => by
    obtain ⟨d, hd⟩ := sd_at (l := l) (k := k) (by omega)
    rw [mdTo_at hd]
    unfold lastOf
    rw [List.getLast?_append]
    rfl
theorem mdTo_take {l : List SD} {i : Nat} : ∀ {k : Nat}, i ≤ k → k ≤ l.length → (mdTo l k).take i = mdTo l i
  | 0, h, _ => by obtain rfl : i = 0 := by omega
                  rfl
  | k + 1, h, hk => by
    by_cases e : i = k + 1
    · subst e
      rw [List.take_of_length_le (by rw [mdTo_len hk]; omega)]
    · obtain ⟨d, hd⟩ := sd_at (l := l) (k := k) (by omega)
      rw [mdTo_at hd, List.take_append_of_le_length (by rw [mdTo_len (by omega)]; omega), mdTo_take (by omega) (by omega)]
theorem mdTo_get {l : List SD} {i k : Nat} {d : SD} (hi : i < k) (hk : k ≤ l.length) (hd : l[i]? = some d) : (mdTo l k)[i]? = some (sdRow (stTo l (i + 1)) d) := by
  have h : ((mdTo l k).take (i + 1))[i]? = some (sdRow (stTo l (i + 1)) d) := by
    rw [mdTo_take (by omega) hk, mdTo_at hd]
    have := mdTo_len (l := l) (k := i) (by omega)
    conv => lhs; rw [List.getElem?_append_right (by omega), this]
    simp
  rw [List.getElem?_take] at h
  simpa using h
theorem sdRow_node {st : Int} {d : SD} : ∃ k : Nat, k < 7 ∧ d.node % 7 = (k : Int) ∧ (sdRow st d).node = nodeAt k := by
  have h1 := Int.emod_nonneg d.node (show (7 : Int) ≠ 0 by omega)
  have h2 := Int.emod_lt_of_pos d.node (show (0 : Int) < 7 by omega)
  exact ⟨(d.node % 7).toNat, by omega, by omega, rfl⟩
theorem nodeAt_srv : ∀ k : Nat, k < 7 → isSrv (nodeAt k) = true := by decide
theorem sdRow_kind {st : Int} {d : SD} : 1 ≤ (sdRow st d).kind ∧ (sdRow st d).kind ≤ 3 := by
  have h1 := Int.emod_nonneg d.kind (show (3 : Int) ≠ 0 by omega)
  have h2 := Int.emod_lt_of_pos d.kind (show (0 : Int) < 3 by omega)
  show 1 ≤ 1 + d.kind % 3 ∧ 1 + d.kind % 3 ≤ 3
  omega
theorem sdRow_okay {st : Int} {d : SD} (h0 : 0 ≤ st) (h1 : st ≤ 9007199254740991) : (sdRow st d).okay = true := by
  obtain ⟨k, hk, e1, e2⟩ := sdRow_node (st := st) (d := d)
  have hkd := sdRow_kind (st := st) (d := d)
  have hs : isSrv (sdRow st d).node = true := by rw [e2]; exact nodeAt_srv k hk
  have hl : (sdRow st d).bytes.length ≤ 65536 := by show (d.b.take 100).length ≤ _; rw [List.length_take]; omega
  unfold VR.okay
  rw [hs]
  simp only [Bool.and_eq_true, decide_eq_true_eq]
  exact ⟨⟨⟨⟨⟨h0, h1⟩, trivial⟩, hkd.1⟩, hkd.2⟩, hl⟩
theorem mdTo_good {l : List SD} {k : Nat} (hk : k ≤ l.length) (h60 : k ≤ 60) : goodV (mdTo l k) := by
  refine ⟨by rw [mdTo_len hk]; omega, fun i r hr => ?_⟩
  have hi : i < k := by have := (List.getElem?_eq_some_iff.1 hr).1; rw [mdTo_len hk] at this; exact this
  obtain ⟨d, hd⟩ := sd_at (l := l) (k := i) (by omega)
  rw [mdTo_get hi hk hd] at hr
  injection hr with hr
  subst hr
  have hb := stTo_bounds l (i + 1)
  rw [mdTo_take (by omega) hk, mdTo_last (by omega)]
  refine ⟨sdRow_okay hb.1 (by omega), ?_⟩
  show stTo l i ≤ stTo l (i + 1)
  rw [stTo_at hd]
  have := Int.emod_nonneg d.on (show (3 : Int) ≠ 0 by omega)
  omega
theorem wpAnyH_turn {P : Program} {md : Region.Mode} {ops : Array Oper} {Q : Exit → Act → World → Prop} {S S' : World → Prop} (hS : ∀ w, S' w → S w) : ∀ (fuel : Nat) (listed : Array Bool) (a : Act) (w : World), wpAnyH P md ops Q S' fuel listed a w → wpAnyH P md ops Q S fuel listed a w
  | 0, _, _, _, h => h
  | fuel + 1, _, _, _, h => ⟨h.1, fun i hi => wpOp_mono (fun a' w' h' => ⟨hS _ h'.1, wpAnyH_turn hS fuel _ a' w' h'.2⟩) (h.2 i hi)⟩
theorem bd_sd {a : Int} (h : (Lit.int .i64 a).wf = true) : -9223372036854775808 ≤ a ∧ a ≤ 9223372036854775807 := by simpa [Lit.wf, IntKind.min, IntKind.max, IntKind.signed, IntKind.bits] using h
def nodesA : Array Value := #[.int .i64 0, .int .i64 1, .int .i64 2, .int .i64 10, .int .i64 11, .int .i64 12, .int .i64 13]
theorem nodesA_at : ∀ k : Nat, k < 7 → nodesA[k]? = some (.int .i64 (nodeAt k))
  | 0, _ => rfl
  | 1, _ => rfl
  | 2, _ => rfl
  | 3, _ => rfl
  | 4, _ => rfl
  | 5, _ => rfl
  | 6, _ => rfl
  | k + 7, h => by omega
set_option maxHeartbeats 400000 in
theorem nodes_any (w : World) : Calls Try.prog 14 #[] w fun e w' => e = .returned (.slice (some ⟨w.heap.size, 0, none⟩) 7 7) ∧ w' = w.alloc (.cells nodesA 3) := by
  go_enter Try.func14, Try.ntmps14
  go_wp2
  go_ret
  exact ⟨rfl, rfl⟩
theorem bring_n (i n k : Int) (h : i % n = k) (hi : -9223372036854775808 ≤ i) (hi' : i ≤ 9223372036854775807) (hn : 0 < n) (hn' : n ≤ 9223372036854775807) (w : World) :
    Calls Try.prog 18 #[.int .i64 i, .int .i64 n] w fun e w' => e = .returned (.int .i64 k) ∧ w = w' := by
  subst h
  exact bring_any i n hi hi' hn hn' w

/-- rows that were made since w0; their bytes lie in C, which lay there -/
structure madeOwn (w0 w : World) (v : Value) (T : List (VR × Value)) (C : List Nat) : Prop where
  own : owns w 46 4 v T.length (flatR T)
  byt : ∀ t ∈ T, heldB w C t.2 t.1.bytes
  old : ∀ y ∈ C, y < w0.heap.size
  home : ∀ y ∈ homes v, w0.heap.size ≤ y
  kept : keepBut [] w0 w
theorem madeOwn.nil (w : World) : madeOwn w w (.slice none 0 0) [] [] := ⟨owns.nil _ _ _, by simp, by simp, by simp [homes_none], keepBut.refl _ _⟩
theorem madeOwn.over {w0 w w' : World} {v : Value} {T : List (VR × Value)} {C : List Nat} (h : madeOwn w0 w v T C) (hk : keepBut [] w w') : madeOwn w0 w' v T C :=
  ⟨h.own.keep hk (by simp), fun t ht => (h.byt t ht).keep hk (by simp), h.old, h.home, h.kept.then hk (by simp)⟩
theorem madeOwn.add {w0 w w2 w3 : World} {v v' bvv : Value} {T : List (VR × Value)} {C G : List Nat} {r : VR} (h : madeOwn w0 w v T C)
    (hh : heldB w2 G bvv r.bytes) (hG : ∀ y ∈ G, y < w0.heap.size) (hk : keepBut [] w w2)
    (ho : owns w3 46 4 v' (T.length + 1) (flatR T ++ [.int .i64 r.step, .int .i64 r.node, .int .i64 r.kind, bvv])) (hk3 : keepBut (homes v) w2 w3) (hm : ∀ x ∈ homes v', x ∈ homes v ∨ w2.heap.size ≤ x) :
    madeOwn w0 w3 v' (T ++ [(r, bvv)]) (C ++ G) := by
  have h2 := h.over hk
  have hs2 := h2.kept.size
  refine ⟨by rw [flatR_add, List.length_append]; exact ho, fun t ht => ?_, fun y hy => ?_, fun y hy => ?_, h2.kept.then hk3 (fun y hy => .inr (h.home y hy))⟩
  · rcases List.mem_append.1 ht with q | q
    · exact ((h2.byt t q).keep hk3 (fun y hy hx => by have := h.home y hx; have := h.old y hy; omega)).more (fun y hy => List.mem_append.2 (.inl hy))
    · rw [List.mem_singleton.1 q]; exact (hh.keep hk3 (fun y hy hx => by have := h.home y hx; have := hG y hy; omega)).more (fun y hy => List.mem_append.2 (.inr hy))
  · rcases List.mem_append.1 hy with q | q
    · exact h.old y q
    · exact hG y q
  · rcases hm y hy with q | q
    · exact h.home y q
    · omega
theorem madeOwn.rows {w0 w : World} {A : Option Addr} {n c : Nat} {T : List (VR × Value)} {C : List Nat} (h : madeOwn w0 w (.slice A n c) T C) : rowsV w (homes (.slice A n c) ++ C) A (T.map (·.1)) := by
  intro hne
  rcases h.own.2 with ⟨_, h0⟩ | ⟨g, cap, cur, e, hg, h1, h2, h3, h4⟩
  · exact absurd (by simpa using h0) (by simpa using hne)
  · injection e with e1 e2 e3
    subst e1
    refine ⟨g, 0, rfl, hg.lt, by simp [homes_some], fun i r hi => ?_⟩
    rw [List.getElem?_map] at hi
    cases ht : T[i]? with
    | none => rw [ht] at hi; cases hi
    | some t =>
      rw [ht] at hi
      simp at hi
      subst hi
      obtain ⟨y0, y1, y2, y3⟩ := flatR_at T i t ht
      have hcell : ∀ j u, (flatR T)[j]? = some u → w.cell? ⟨g, j, none⟩ = some u := fun j u hu => by
        rw [hg.cell]
        rw [← h4, List.getElem?_take] at hu
        split at hu
        · simpa using hu
        · cases hu
      have hb := h.byt t (List.mem_of_getElem? ht)
      obtain ⟨A', n', gb, e', r2⟩ := id hb
      rw [e'] at y3 hb
      exact ⟨A', n', hb.more (fun y hy => List.mem_append.2 (.inr hy)), by simpa using hcell _ _ y0, by simpa using hcell _ _ y1, by simpa using hcell _ _ y2, by simpa using hcell _ _ y3⟩
def madeRel (w : World) (l : List SD) (most : Nat) (v7 v5 v6 : Value) (wx : World) : Prop := ∃ (i : Nat) (T : List (VR × Value)) (C : List Nat), i ≤ l.length ∧ i ≤ most ∧ v7 = .int .i64 (i : Int) ∧ v6 = .int .i64 (stTo l i) ∧ madeOwn w wx v5 T C ∧ T.length = i ∧ T.map (·.1) = mdTo l i
def madePost (l : List VR) (w : World) (e : Ending) (w' : World) : Prop := ∃ A c G, e = .returned (.slice A l.length c) ∧ l.length ≤ c ∧ c ≤ maxLen ∧ rowsV w' G A l ∧ (∀ y ∈ G, y < w'.heap.size) ∧ keepBut [] w w'
theorem nodes_cell (w : World) (k : Nat) (h : k < 7) : (w.alloc (.cells nodesA 3)).cell? ⟨w.heap.size, k, none⟩ = some (.int .i64 (nodeAt k)) := ((rowAt.new w _ nodesA).cell k).trans (nodesA_at k h)
theorem heldB_arg {w w' : World} {Ab : Option Addr} {gb n cb : Nat} {b : List UInt8} (hs : seen w Ab gb b) (hg : b ≠ [] → gb < w.heap.size) (h1 : n = (b.take 100).length) (hc : n ≤ cb) (hc2 : cb ≤ maxLen) (k : keepBut [] w w') : ∃ G, heldB w' G (.slice Ab n cb) (b.take 100) ∧ ∀ y ∈ G, y < w.heap.size := by
  subst h1
  have hl : (b.take 100).length ≤ 1000000 := by rw [List.length_take]; omega
  by_cases e : b = []
  · subst e
    exact ⟨[], ⟨Ab, cb, gb, rfl, hc, hc2, hl, seen.nil _ _ _, fun h => absurd rfl h⟩, by simp⟩
  · exact ⟨[gb], ⟨Ab, cb, gb, rfl, hc, hc2, hl, (hs.take 100).keep k (by simp), fun _ => List.mem_singleton.2 rfl⟩, fun y hy => by rw [List.mem_singleton.1 hy]; exact hg e⟩
theorem madePost_of {w wr : World} {l : List SD} {i most c3 : Nat} {A3 : Option Addr} {T : List (VR × Value)} {C : List Nat} (hv : madeOwn w wr (.slice A3 i c3) T C) (hTl : T.length = i) (hTm : T.map (·.1) = mdTo l i) (h31 : i ≤ c3) (h32 : c3 ≤ maxLen) (hi : i = min l.length most) :
    madePost (mdTo l (min l.length most)) w (.returned (.slice A3 i c3)) wr := by
  subst hi
  have hlen : (mdTo l (min l.length most)).length = min l.length most := mdTo_len (by omega)
  have hr := hv.rows
  rw [hTm] at hr
  refine ⟨A3, c3, _, by rw [hlen], by rw [hlen]; exact h31, h32, hr, fun y hy => ?_, hv.kept⟩
  rcases List.mem_append.1 hy with h | h
  · exact hv.own.ltV y h
  · have := hv.old y h; have := hv.kept.size; omega
theorem three_keep {w w' : World} {g : Nat} {o1 o2 o3 : Nat} {v1 v2 v3 : Value} (hk : keepBut [] w w') (hg : g < w.heap.size)
    (h : w.cell? ⟨g, o1, none⟩ = some v1 ∧ w.cell? ⟨g, o2, none⟩ = some v2 ∧ w.cell? ⟨g, o3, none⟩ = some v3) :
    w'.cell? ⟨g, o1, none⟩ = some v1 ∧ w'.cell? ⟨g, o2, none⟩ = some v2 ∧ w'.cell? ⟨g, o3, none⟩ = some v3 := by
  have e := fun o => hk.cell (p := ⟨g, o, none⟩) hg (by simp)
  simp only [e]
  exact h
theorem three_keep_S {S : List Nat} {w w' : World} {g : Nat} {o1 o2 o3 : Nat} {v1 v2 v3 : Value} (hk : keepBut S w w') (hg : g < w.heap.size) (hS : g ∉ S)
    (h : w.cell? ⟨g, o1, none⟩ = some v1 ∧ w.cell? ⟨g, o2, none⟩ = some v2 ∧ w.cell? ⟨g, o3, none⟩ = some v3) :
    w'.cell? ⟨g, o1, none⟩ = some v1 ∧ w'.cell? ⟨g, o2, none⟩ = some v2 ∧ w'.cell? ⟨g, o3, none⟩ = some v3 := by
  have e := fun o => hk.cell (p := ⟨g, o, none⟩) hg hS
  simp only [e]
  exact h
set_option maxHeartbeats 4000000 in
theorem made_any (l : List SD) (A : Option Addr) (c most : Nat) (w : World) (h : seedsV w A l) (hm : most ≤ 60) (hl : l.length ≤ 9223372036854775807) :
    Calls Try.prog 10 #[.slice A l.length c, .int .i64 (most : Int)] w (madePost (mdTo l (min l.length most)) w) := by
  have HH := Lib.hid h
  clear h
  obtain ⟨i0, hi0, hz0, hz1, hz2⟩ := info_parts infoRowV
  go_enter Try.func10, Try.ntmps10
  go_wp2
  go_loopw [5, 6, 7] (fun v5 v6 v7 wx => madeRel w l most v7 v5 v6 wx) (fun _ _ v7 _ => l.length - (intOf v7).toNat)
  case atStart => exact ⟨0, [], [], by omega, by omega, rfl, rfl, madeOwn.nil _, rfl, rfl⟩
  case round =>
    obtain ⟨i, T, C, hi, him, rfl, rfl, hv, hTl, hTm⟩ := hrel
    obtain ⟨A3, c3, rfl, h31, h32, -, -⟩ := hv.own.form
    rw [hTl] at h31 ⊢
    by_cases hlt : i < l.length
    · have hlt' : (i : Int) < (l.length : Int) := by omega
      by_cases hmt : i < most
      · have hmt' : (i : Int) < (most : Int) := by omega
        obtain ⟨d, hd⟩ := sd_at hlt
        obtain ⟨g, o, rfl, hgl, hall⟩ := HH.out (by rintro rfl; simp at hlt)
        obtain ⟨bvv, hb, y0, y1, y2, y3, f0, f1, f2⟩ := hall i d hd
        obtain ⟨Ab, cb, gb, rfl, hb1, hb2, hb3, hb4⟩ := hb
        have e := fun x => hv.kept.cell (p := ⟨g, x, none⟩) hgl (by simp)
        rw [← e] at y0 y1 y2 y3
        have hst := stTo_bounds l i
        have hs1 := stTo_at hd
        have hm1 := mdTo_at hd
        obtain ⟨on, nd, kd, b⟩ := d
        dsimp only at y0 y1 y2 y3 f0 f1 f2 hb1 hb3 hb4 hs1
        have hsb := stTo_bounds l (i + 1)
        rw [hs1] at hsb
        obtain ⟨kn, hkn7, hkn, hknr⟩ := sdRow_node (st := stTo l (i + 1)) (d := ⟨on, nd, kd, b⟩)
        dsimp only at hkn
        have hkn7' : (kn : Int) < 7 := by omega
        have hk0 := Int.emod_nonneg kd (show (3 : Int) ≠ 0 by omega)
        have hk3 := Int.emod_lt_of_pos kd (show (0 : Int) < 3 by omega)
        have hon := bd_sd f0
        have hnd := bd_sd f1
        have hkd := bd_sd f2
        obtain ⟨st, hste⟩ : ∃ st, stTo l i = st := ⟨_, rfl⟩
        rw [hste] at hst hsb hs1 ⊢
        have hw1 : IntKind.i64.wrap (st + on % 3) = st + on % 3 := wraps_i64 _ (by omega) (by omega)
        have hw2 : IntKind.i64.wrap (1 + kd % 3) = 1 + kd % 3 := wraps_i64 _ (by omega) (by omega)
        have HR := Lib.hid (And.intro hv (And.intro hTl (And.intro hTm (And.intro hs1 (And.intro hm1 (And.intro hknr (And.intro hb3 hb4)))))))
        have HM := Lib.hid (And.intro hb1 hb2)
        clear hv hTl hTm hs1 hm1 hall e hb3 hb4 f0 f1 f2 hknr hste hd
        go_upto_region 7 with (go_at_call 18; refine (bring_any on 3 hon.1 hon.2 (by decide) (by decide) _).mono ?_; rintro e w' ⟨rfl, rfl⟩)
        rcases Nat.lt_or_ge 100 b.length with hb100 | hb100
        · have hb100' : (100 : Int) < (b.length : Int) := by omega
          have hcb100 : (100 : Int) ≤ (cb : Int) := by omega
          have s1 : (wr.drew).cell? ⟨g, o + i * 4 + 1, none⟩ = some (.int .i64 nd) ∧ (wr.drew).cell? ⟨g, o + i * 4 + 2, none⟩ = some (.int .i64 kd) ∧ (wr.drew).cell? ⟨g, o + i * 4 + 3, none⟩ = some (.slice Ab b.length cb) := ⟨y1, y2, y3⟩
          clear y0 y1 y2 y3
          refine wp_region_held_drew (S := fun w' => w'.cell? ⟨g, o + i * 4 + 1, none⟩ = some (.int .i64 nd) ∧ w'.cell? ⟨g, o + i * 4 + 2, none⟩ = some (.int .i64 kd) ∧ w'.cell? ⟨g, o + i * 4 + 3, none⟩ = some (.slice Ab b.length cb)) (by kernel_rfl) s1 (fun _ => ?_)
          refine wpAnyH_take (i := 0) (oi := ⟨_, _, _, _, _, _⟩) (v := ?_) rfl (by kernel_rfl) (by kernel_rfl) (by kernel_rfl) (fun _ _ _ h => h) (Or.inl ⟨by rfl, ?_⟩) s1 ?_
          rotate_left
          · intro w' hSw; (try dsimp only at hSw); (go_simp; try with_reducible rfl)
          try simp only [Act.put, List.setIfInBounds_toArray, List.set_cons_zero, List.set_cons_succ]
          refine wpAnyH_take (i := 1) (oi := ⟨_, _, _, _, _, _⟩) (v := ?_) rfl (by kernel_rfl) (by kernel_rfl) (by kernel_rfl) (fun _ _ _ h => h) (Or.inl ⟨by rfl, ?_⟩) s1 ?_
          rotate_left
          · intro w' hSw; (try dsimp only at hSw); (go_simp; try with_reducible rfl)
          try simp only [Act.put, List.setIfInBounds_toArray, List.set_cons_zero, List.set_cons_succ]
          refine wpAnyH_take (i := 3) (oi := ⟨_, _, _, _, _, _⟩) (v := ?_) rfl (by kernel_rfl) (by kernel_rfl) (by kernel_rfl) (fun _ _ _ h => h) (Or.inl ⟨by rfl, ?_⟩) s1 ?_
          rotate_left
          · intro w' hSw; (try dsimp only at hSw); (go_simp; try with_reducible rfl)
          try simp only [Act.put, List.setIfInBounds_toArray, List.set_cons_zero, List.set_cons_succ]
          refine wpAnyH_take (i := 4) (oi := ⟨_, _, _, _, _, _⟩) (v := ?_) rfl (by kernel_rfl) (by kernel_rfl) (by kernel_rfl) (fun _ _ _ h => h) (Or.inl ⟨by rfl, ?_⟩) s1 ?_
          rotate_left
          · intro w' hSw; (try dsimp only at hSw); (go_simp; try with_reducible rfl)
          try simp only [Act.put, List.setIfInBounds_toArray, List.set_cons_zero, List.set_cons_succ]
          refine wpAnyH_take (i := 5) (oi := ⟨_, _, _, _, _, _⟩) (v := ?_) rfl (by kernel_rfl) (by kernel_rfl) (by kernel_rfl) (fun _ _ _ h => h) (Or.inl ⟨by rfl, ?_⟩) s1 ?_
          rotate_left
          · intro w' hSw; (try dsimp only at hSw); (go_simp; try with_reducible rfl)
          try simp only [Act.put, List.setIfInBounds_toArray, List.set_cons_zero, List.set_cons_succ]
          refine wpAnyH_take (i := 6) (oi := ⟨_, _, _, _, _, _⟩) (v := ?_) rfl (by kernel_rfl) (by kernel_rfl) (by kernel_rfl) (fun _ _ _ h => h) (Or.inl ⟨by rfl, ?_⟩) s1 ?_
          rotate_left
          · intro w' hSw; (try dsimp only at hSw); (go_simp; try with_reducible rfl)
          try simp only [Act.put, List.setIfInBounds_toArray, List.set_cons_zero, List.set_cons_succ]
          refine wpAnyH_take (i := 7) (oi := ⟨_, _, _, _, _, _⟩) (v := ?_) rfl (by kernel_rfl) (by kernel_rfl) (by kernel_rfl) (fun _ _ _ h => h) (Or.inl ⟨by rfl, ?_⟩) s1 ?_
          rotate_left
          · intro w' hSw; (try dsimp only at hSw); (go_simp; try with_reducible rfl)
          try simp only [Act.put, List.setIfInBounds_toArray, List.set_cons_zero, List.set_cons_succ]
          refine wpAnyH_take (i := 11) (oi := ⟨_, _, _, _, _, _⟩) (v := ?_) rfl (by kernel_rfl) (by kernel_rfl) (by kernel_rfl) (fun _ _ _ h => h) (Or.inl ⟨by rfl, ?_⟩) s1 ?_
          rotate_left
          · intro w' hSw; (try dsimp only at hSw); (go_simp; try with_reducible rfl)
          try simp only [Act.put, List.setIfInBounds_toArray, List.set_cons_zero, List.set_cons_succ]
          refine wpAnyH_take (i := 12) (oi := ⟨_, _, _, _, _, _⟩) (v := ?_) rfl (by kernel_rfl) (by kernel_rfl) (by kernel_rfl) (fun _ _ _ h => h) (Or.inl ⟨by rfl, ?_⟩) s1 ?_
          rotate_left
          · intro w' hSw; (try dsimp only at hSw); (go_simp; try with_reducible rfl)
          try simp only [Act.put, List.setIfInBounds_toArray, List.set_cons_zero, List.set_cons_succ]
          refine wpAnyH_take (i := 13) (oi := ⟨_, _, _, _, _, _⟩) (v := ?_) rfl (by kernel_rfl) (by kernel_rfl) (by kernel_rfl) (fun _ _ _ h => h) (Or.inl ⟨by rfl, ?_⟩) s1 ?_
          rotate_left
          · intro w' hSw; (try dsimp only at hSw); (go_simp; try with_reducible rfl)
          try simp only [Act.put, List.setIfInBounds_toArray, List.set_cons_zero, List.set_cons_succ]
          refine wpAnyH_take (i := 14) (oi := ⟨_, _, _, _, _, _⟩) (v := ?_) rfl (by kernel_rfl) (by kernel_rfl) (by kernel_rfl) (fun _ _ _ h => h) (Or.inl ⟨by rfl, ?_⟩) s1 ?_
          rotate_left
          · intro w' hSw; (try dsimp only at hSw); (go_simp; try with_reducible rfl)
          try simp only [Act.put, List.setIfInBounds_toArray, List.set_cons_zero, List.set_cons_succ]
          refine wpAnyH_take (i := 15) (oi := ⟨_, _, _, _, _, _⟩) (v := ?_) rfl (by kernel_rfl) (by kernel_rfl) (by kernel_rfl) (fun _ _ _ h => h) (Or.inl ⟨by rfl, ?_⟩) s1 ?_
          rotate_left
          · intro w' hSw; (try dsimp only at hSw); (go_simp; try with_reducible rfl)
          try simp only [Act.put, List.setIfInBounds_toArray, List.set_cons_zero, List.set_cons_succ]
          refine wpAnyH_take (i := 18) (oi := ⟨_, _, _, _, _, _⟩) (v := ?_) rfl (by kernel_rfl) (by kernel_rfl) (by kernel_rfl) (fun _ _ _ h => h) (Or.inl ⟨by rfl, ?_⟩) s1 ?_
          rotate_left
          · intro w' hSw; (try dsimp only at hSw); (go_simp; try with_reducible rfl)
          try simp only [Act.put, List.setIfInBounds_toArray, List.set_cons_zero, List.set_cons_succ]
          refine wpAnyH_take (i := 19) (oi := ⟨_, _, _, _, _, _⟩) (v := ?_) rfl (by kernel_rfl) (by kernel_rfl) (by kernel_rfl) (fun _ _ _ h => h) (Or.inl ⟨by rfl, ?_⟩) s1 ?_
          rotate_left
          · intro w' hSw; (try dsimp only at hSw); (go_simp; try with_reducible rfl)
          try simp only [Act.put, List.setIfInBounds_toArray, List.set_cons_zero, List.set_cons_succ]
          refine wpAnyH_take (i := 20) (oi := ⟨_, _, _, _, _, _⟩) (v := ?_) rfl (by kernel_rfl) (by kernel_rfl) (by kernel_rfl) (fun _ _ _ h => h) (Or.inl ⟨by rfl, ?_⟩) s1 ?_
          rotate_left
          · intro w' hSw; (try dsimp only at hSw); (go_simp; try with_reducible rfl)
          try simp only [Act.put, List.setIfInBounds_toArray, List.set_cons_zero, List.set_cons_succ]
          refine wpAnyH_take (i := 21) (oi := ⟨_, _, _, _, _, _⟩) (v := ?_) rfl (by kernel_rfl) (by kernel_rfl) (by kernel_rfl) (fun _ _ _ h => h) (Or.inl ⟨by rfl, ?_⟩) s1 ?_
          rotate_left
          · intro w' hSw; (try dsimp only at hSw); (go_simp; try with_reducible rfl)
          try simp only [Act.put, List.setIfInBounds_toArray, List.set_cons_zero, List.set_cons_succ]
          refine wpAnyH_take (i := 22) (oi := ⟨_, _, _, _, _, _⟩) (v := ?_) rfl (by kernel_rfl) (by kernel_rfl) (by kernel_rfl) (fun _ _ _ h => h) (Or.inl ⟨by rfl, ?_⟩) s1 ?_
          rotate_left
          · intro w' hSw; (try dsimp only at hSw); (go_simp; try with_reducible rfl)
          try simp only [Act.put, List.setIfInBounds_toArray, List.set_cons_zero, List.set_cons_succ]
          refine wpAnyH_take (i := 23) (oi := ⟨_, _, _, _, _, _⟩) (v := ?_) rfl (by kernel_rfl) (by kernel_rfl) (by kernel_rfl) (fun _ _ _ h => h) (Or.inl ⟨by rfl, ?_⟩) s1 ?_
          rotate_left
          · intro w' hSw; (try dsimp only at hSw); (go_simp; try with_reducible rfl)
          try simp only [Act.put, List.setIfInBounds_toArray, List.set_cons_zero, List.set_cons_succ]
          refine wpAnyH_take (i := 24) (oi := ⟨_, _, _, _, _, _⟩) (v := ?_) rfl (by kernel_rfl) (by kernel_rfl) (by kernel_rfl) (fun _ _ _ h => h) (Or.inl ⟨by rfl, ?_⟩) s1 ?_
          rotate_left
          · intro w' hSw; (try dsimp only at hSw); (go_simp; try with_reducible rfl)
          try simp only [Act.put, List.setIfInBounds_toArray, List.set_cons_zero, List.set_cons_succ]
          refine wpAnyH_take (i := 25) (oi := ⟨_, _, _, _, _, _⟩) (v := ?_) rfl (by kernel_rfl) (by kernel_rfl) (by kernel_rfl) (fun _ _ _ h => h) (Or.inl ⟨by rfl, ?_⟩) s1 ?_
          rotate_left
          · intro w' hSw; (try dsimp only at hSw); (go_simp; try with_reducible rfl)
          try simp only [Act.put, List.setIfInBounds_toArray, List.set_cons_zero, List.set_cons_succ]
          refine wpAnyH_take (i := 26) (oi := ⟨_, _, _, _, _, _⟩) (v := ?_) rfl (by kernel_rfl) (by kernel_rfl) (by kernel_rfl) (fun _ _ _ h => h) (Or.inl ⟨by rfl, ?_⟩) s1 ?_
          rotate_left
          · intro w' hSw; (try dsimp only at hSw); (go_simp; try with_reducible rfl)
          try simp only [Act.put, List.setIfInBounds_toArray, List.set_cons_zero, List.set_cons_succ]
          refine wpAnyH_take (i := 27) (oi := ⟨_, _, _, _, _, _⟩) (v := ?_) rfl (by kernel_rfl) (by kernel_rfl) (by kernel_rfl) (fun _ _ _ h => h) (Or.inl ⟨by rfl, ?_⟩) s1 ?_
          rotate_left
          · intro w' hSw; (try dsimp only at hSw); (go_simp; try with_reducible rfl)
          try simp only [Act.put, List.setIfInBounds_toArray, List.set_cons_zero, List.set_cons_succ]
          refine wpAnyH_take (i := 28) (oi := ⟨_, _, _, _, _, _⟩) (v := ?_) rfl (by kernel_rfl) (by kernel_rfl) (by kernel_rfl) (fun _ _ _ h => h) (Or.inl ⟨by rfl, ?_⟩) s1 ?_
          rotate_left
          · intro w' hSw; (try dsimp only at hSw); (go_simp; try with_reducible rfl)
          try simp only [Act.put, List.setIfInBounds_toArray, List.set_cons_zero, List.set_cons_succ]
          refine wpAnyH_take (i := 29) (oi := ⟨_, _, _, _, _, _⟩) (v := ?_) rfl (by kernel_rfl) (by kernel_rfl) (by kernel_rfl) (fun _ _ _ h => h) (Or.inl ⟨by rfl, ?_⟩) s1 ?_
          rotate_left
          · intro w' hSw; (try dsimp only at hSw); (go_simp; try with_reducible rfl)
          try simp only [Act.put, List.setIfInBounds_toArray, List.set_cons_zero, List.set_cons_succ]
          refine wpAnyH_take (i := 30) (oi := ⟨_, _, _, _, _, _⟩) (v := ?_) rfl (by kernel_rfl) (by kernel_rfl) (by kernel_rfl) (fun _ _ _ h => h) (Or.inl ⟨by rfl, ?_⟩) s1 ?_
          rotate_left
          · intro w' hSw; (try dsimp only at hSw); (go_simp; try with_reducible rfl)
          try simp only [Act.put, List.setIfInBounds_toArray, List.set_cons_zero, List.set_cons_succ]
          refine wpAnyH_ready (rs := [2]) (by kernel_rfl) (by simp) ?_
          refine AllReadyH.cons (o := ⟨_, _, _, _, _, _⟩) rfl (fun K hK => ?_) AllReadyH.nil
          go_simp
          refine (nodes_any _).mono ?_
          rintro e w2 ⟨rfl, hw2e⟩
          have kn2 : keepBut [] wr w2 := by rw [hw2e]; exact ((keepBut.refl [] wr).drew).alloc _
          have zc : w2.cell? ⟨wr.heap.size, kn, none⟩ = some (.int .i64 (nodeAt kn)) := by rw [hw2e]; exact nodes_cell wr.drew kn hkn7
          have s2 := three_keep kn2 (Nat.lt_of_lt_of_le hgl HR.out.1.kept.size) s1
          clear hw2e s1
          go_wp2_with fail
          refine hK.out _ _ s2 (fun _ => ?_)
          clear hK K
          try simp only [Act.put, List.setIfInBounds_toArray, List.set_cons_zero, List.set_cons_succ]
          refine wpAnyH_turn (S' := fun w' => (w'.cell? ⟨g, o + i * 4 + 1, none⟩ = some (.int .i64 nd) ∧ w'.cell? ⟨g, o + i * 4 + 2, none⟩ = some (.int .i64 kd) ∧ w'.cell? ⟨g, o + i * 4 + 3, none⟩ = some (.slice Ab b.length cb)) ∧ w'.cell? ⟨wr.heap.size, kn, none⟩ = some (.int .i64 (nodeAt kn))) (fun _ h => h.1) _ _ _ _ ?_
          refine wpAnyH_ready (rs := [8]) (by kernel_rfl) (by simp) ?_
          refine AllReadyH.cons (o := ⟨_, _, _, _, _, _⟩) rfl (fun K hK => ?_) AllReadyH.nil
          go_simp
          refine (bring_n nd 7 kn hkn hnd.1 hnd.2 (by decide) (by decide) _).mono ?_
          rintro e w' ⟨rfl, rfl⟩
          go_wp2_with fail
          refine hK.out _ _ ⟨s2, zc⟩ (fun _ => ?_)
          clear hK K
          try simp only [Act.put, List.setIfInBounds_toArray, List.set_cons_zero, List.set_cons_succ]
          refine wpAnyH_take (i := 9) (oi := ⟨_, _, _, _, _, _⟩) (v := ?_) rfl (by kernel_rfl) (by kernel_rfl) (by kernel_rfl) (fun _ _ _ h => h) (Or.inl ⟨by rfl, ?_⟩) ⟨s2, zc⟩ ?_
          rotate_left
          · intro w' hSw; (try dsimp only at hSw); (go_simp; try with_reducible rfl)
          try simp only [Act.put, List.setIfInBounds_toArray, List.set_cons_zero, List.set_cons_succ]
          refine wpAnyH_take (i := 10) (oi := ⟨_, _, _, _, _, _⟩) (v := ?_) rfl (by kernel_rfl) (by kernel_rfl) (by kernel_rfl) (fun _ _ _ h => h) (Or.inl ⟨by rfl, ?_⟩) ⟨s2, zc⟩ ?_
          rotate_left
          · intro w' hSw; (try dsimp only at hSw); (go_simp; try with_reducible rfl)
          try simp only [Act.put, List.setIfInBounds_toArray, List.set_cons_zero, List.set_cons_succ]
          refine wpAnyH_ready (rs := [16]) (by kernel_rfl) (by simp) ?_
          refine AllReadyH.cons (o := ⟨_, _, _, _, _, _⟩) rfl (fun K hK => ?_) AllReadyH.nil
          go_simp
          refine (bring_any kd 3 hkd.1 hkd.2 (by decide) (by decide) _).mono ?_
          rintro e w' ⟨rfl, rfl⟩
          go_wp2_with fail
          refine hK.out _ _ ⟨s2, zc⟩ (fun _ => ?_)
          clear hK K
          try simp only [Act.put, List.setIfInBounds_toArray, List.set_cons_zero, List.set_cons_succ]
          refine wpAnyH_take (i := 17) (oi := ⟨_, _, _, _, _, _⟩) (v := ?_) rfl (by kernel_rfl) (by kernel_rfl) (by kernel_rfl) (fun _ _ _ h => h) (Or.inl ⟨by rfl, ?_⟩) ⟨s2, zc⟩ ?_
          rotate_left
          · intro w' hSw; (try dsimp only at hSw); (go_simp; try with_reducible rfl)
          try simp only [Act.put, List.setIfInBounds_toArray, List.set_cons_zero, List.set_cons_succ]
          refine wpAnyH_take (i := 31) (oi := ⟨_, _, _, _, _, _⟩) (v := ?_) rfl (by kernel_rfl) (by kernel_rfl) (by kernel_rfl) (fun _ _ _ h => h) (Or.inl ⟨by rfl, ?_⟩) ⟨s2, zc⟩ ?_
          rotate_left
          · intro w' hSw; (try dsimp only at hSw); (go_simp; try with_reducible rfl)
          try simp only [Act.put, List.setIfInBounds_toArray, List.set_cons_zero, List.set_cons_succ]
          have ka := (keepBut.refl [] w2).alloc (.cells #[.int .i64 (st + on % 3), .int .i64 (nodeAt kn), .int .i64 (1 + kd % 3), .slice Ab 100 cb] 46)
          have rn := reads_rowV (rowAt.new w2 46 #[.int .i64 (st + on % 3), .int .i64 (nodeAt kn), .int .i64 (1 + kd % 3), .slice Ab 100 cb]) 1 4 rfl
          have kwa := kn2.then ka (by simp)
          have hgw2 : g < w2.heap.size := Nat.lt_of_lt_of_le (Nat.lt_of_lt_of_le hgl HR.out.1.kept.size) kn2.size
          have s3 := three_keep ka hgw2 s2
          have zc3 := (ka.cell (p := ⟨wr.heap.size, kn, none⟩) (World.block_lt_of_cell? _ _ zc) (by simp)).trans zc
          have ho := (HR.out.1.over kwa).own
          rw [HR.out.2.1] at ho
          have HA := Lib.hid (And.intro rn (And.intro ho kwa))
          clear ka rn kwa ho
          refine wpAnyH_ready (rs := [32]) (by kernel_rfl) (by simp) ?_
          refine AllReadyH.cons (o := ⟨_, _, _, _, _, _⟩) rfl (fun K hK => ?_) AllReadyH.nil
          go_simp
          refine hK.out _ _ ⟨s3, zc3⟩ (fun _ => ?_)
          clear hK K
          try simp only [Act.put, List.setIfInBounds_toArray, List.set_cons_zero, List.set_cons_succ]
          refine wpAnyH_ready (rs := [33]) (by kernel_rfl) (by simp) ?_
          refine AllReadyH.cons (o := ⟨_, _, _, _, _, _⟩) rfl (fun K hK => ?_) AllReadyH.nil
          refine step_append _ rfl (.tmp 27) (.tmp 59) 31 rfl 46 i0 rowZeroV 4 48 Try.underlying31 hi0 hz0 hz1 hz2 rfl (by decide) (.slice A3 i c3) i (flatR T) rfl HA.out.2.1 (some ⟨w2.heap.size, 0, none⟩) w2.heap.size 1 1 _ rfl HA.out.1 (by intro u hu; simp at hu; rcases hu with rfl | rfl | rfl | rfl <;> rfl) (by omega) (by unfold maxLen; omega) ?_
          intro A8 c8 w8 hown8 hkb8 hloc8
          have H8 := Lib.hid (And.intro hown8 (And.intro hkb8 hloc8))
          clear hown8 hkb8 hloc8
          have hno : ∀ x, x < w.heap.size ∨ x = wr.heap.size → x ∉ homes (.slice A3 i c3) := fun x hx hm => by
            rw [← HR.out.2.1] at hm
            have h1 := HR.out.1.home x hm
            have h2 := HR.out.1.own.ltV x hm
            rcases hx with h | h <;> omega
          have s8 := three_keep_S H8.out.2.1 (Nat.lt_of_lt_of_le hgw2 (by simp)) (hno g (.inl hgl)) s3
          have zc8 := (H8.out.2.1.cell (p := ⟨wr.heap.size, kn, none⟩) (World.block_lt_of_cell? _ _ zc3) (hno _ (.inr rfl))).trans zc3
          refine hK.out _ _ ⟨s8, zc8⟩ (fun _ => ?_)
          clear hK K
          try simp only [Act.put, List.setIfInBounds_toArray, List.set_cons_zero, List.set_cons_succ]
          refine wpAnyH_take (i := 34) (oi := ⟨_, _, _, _, _, _⟩) (v := ?_) rfl (by kernel_rfl) (by kernel_rfl) (by kernel_rfl) (fun _ _ _ h => h) (Or.inl ⟨by rfl, ?_⟩) ⟨s8, zc8⟩ ?_
          rotate_left
          · intro w' hSw; (try dsimp only at hSw); (go_simp; try with_reducible rfl)
          try simp only [Act.put, List.setIfInBounds_toArray, List.set_cons_zero, List.set_cons_succ]
          refine wpAnyH_done (by kernel_rfl) ?_ _
          clear s2 s3 s8 zc zc3 zc8
          go_wp2_with fail
          go_roundw
          case rel =>
            have hT := HR.out.2.1
            subst hT
            obtain ⟨Gb, hhb, hGb⟩ := heldB_arg (n := 100) (cb := cb) HR.out.2.2.2.2.2.2.1 HR.out.2.2.2.2.2.2.2 (by rw [List.length_take]; omega) (by omega) hb2 (HR.out.1.kept.then HA.out.2.2 (by simp))
            refine ⟨T.length + 1, T ++ [(⟨st + on % 3, nodeAt kn, 1 + kd % 3, b.take 100⟩, .slice Ab 100 cb)], C ++ Gb, by omega, by omega, by go_num, by rw [HR.out.2.2.2.1], HR.out.1.add (r := ⟨st + on % 3, nodeAt kn, 1 + kd % 3, b.take 100⟩) (w2 := w2.alloc (.cells #[.int .i64 (st + on % 3), .int .i64 (nodeAt kn), .int .i64 (1 + kd % 3), .slice Ab 100 cb] 46)) hhb hGb HA.out.2.2 H8.out.1 H8.out.2.1 H8.out.2.2, by simp, ?_⟩
            rw [List.map_append, HR.out.2.2.1, HR.out.2.2.2.2.1]
            unfold sdRow
            dsimp only
            rw [HR.out.2.2.2.1, hkn]
            rfl
          case measure => simp [intOf]; omega
        · have hm100 : (if (100 : Int) < (b.length : Int) then (100 : Int) else (b.length : Int)) = (b.length : Int) := if_neg (by omega)
          have hcb100 : (b.length : Int) ≤ (cb : Int) := by omega
          have hb0 : (0 : Int) ≤ (b.length : Int) := by omega
          have s1 : (wr.drew).cell? ⟨g, o + i * 4 + 1, none⟩ = some (.int .i64 nd) ∧ (wr.drew).cell? ⟨g, o + i * 4 + 2, none⟩ = some (.int .i64 kd) ∧ (wr.drew).cell? ⟨g, o + i * 4 + 3, none⟩ = some (.slice Ab b.length cb) := ⟨y1, y2, y3⟩
          clear y0 y1 y2 y3
          refine wp_region_held_drew (S := fun w' => w'.cell? ⟨g, o + i * 4 + 1, none⟩ = some (.int .i64 nd) ∧ w'.cell? ⟨g, o + i * 4 + 2, none⟩ = some (.int .i64 kd) ∧ w'.cell? ⟨g, o + i * 4 + 3, none⟩ = some (.slice Ab b.length cb)) (by kernel_rfl) s1 (fun _ => ?_)
          refine wpAnyH_take (i := 0) (oi := ⟨_, _, _, _, _, _⟩) (v := ?_) rfl (by kernel_rfl) (by kernel_rfl) (by kernel_rfl) (fun _ _ _ h => h) (Or.inl ⟨by rfl, ?_⟩) s1 ?_
          rotate_left
          · intro w' hSw; (try dsimp only at hSw); (go_simp; try with_reducible rfl)
          try simp only [Act.put, List.setIfInBounds_toArray, List.set_cons_zero, List.set_cons_succ]
          refine wpAnyH_take (i := 1) (oi := ⟨_, _, _, _, _, _⟩) (v := ?_) rfl (by kernel_rfl) (by kernel_rfl) (by kernel_rfl) (fun _ _ _ h => h) (Or.inl ⟨by rfl, ?_⟩) s1 ?_
          rotate_left
          · intro w' hSw; (try dsimp only at hSw); (go_simp; try with_reducible rfl)
          try simp only [Act.put, List.setIfInBounds_toArray, List.set_cons_zero, List.set_cons_succ]
          refine wpAnyH_take (i := 3) (oi := ⟨_, _, _, _, _, _⟩) (v := ?_) rfl (by kernel_rfl) (by kernel_rfl) (by kernel_rfl) (fun _ _ _ h => h) (Or.inl ⟨by rfl, ?_⟩) s1 ?_
          rotate_left
          · intro w' hSw; (try dsimp only at hSw); (go_simp; try with_reducible rfl)
          try simp only [Act.put, List.setIfInBounds_toArray, List.set_cons_zero, List.set_cons_succ]
          refine wpAnyH_take (i := 4) (oi := ⟨_, _, _, _, _, _⟩) (v := ?_) rfl (by kernel_rfl) (by kernel_rfl) (by kernel_rfl) (fun _ _ _ h => h) (Or.inl ⟨by rfl, ?_⟩) s1 ?_
          rotate_left
          · intro w' hSw; (try dsimp only at hSw); (go_simp; try with_reducible rfl)
          try simp only [Act.put, List.setIfInBounds_toArray, List.set_cons_zero, List.set_cons_succ]
          refine wpAnyH_take (i := 5) (oi := ⟨_, _, _, _, _, _⟩) (v := ?_) rfl (by kernel_rfl) (by kernel_rfl) (by kernel_rfl) (fun _ _ _ h => h) (Or.inl ⟨by rfl, ?_⟩) s1 ?_
          rotate_left
          · intro w' hSw; (try dsimp only at hSw); (go_simp; try with_reducible rfl)
          try simp only [Act.put, List.setIfInBounds_toArray, List.set_cons_zero, List.set_cons_succ]
          refine wpAnyH_take (i := 6) (oi := ⟨_, _, _, _, _, _⟩) (v := ?_) rfl (by kernel_rfl) (by kernel_rfl) (by kernel_rfl) (fun _ _ _ h => h) (Or.inl ⟨by rfl, ?_⟩) s1 ?_
          rotate_left
          · intro w' hSw; (try dsimp only at hSw); (go_simp; try with_reducible rfl)
          try simp only [Act.put, List.setIfInBounds_toArray, List.set_cons_zero, List.set_cons_succ]
          refine wpAnyH_take (i := 7) (oi := ⟨_, _, _, _, _, _⟩) (v := ?_) rfl (by kernel_rfl) (by kernel_rfl) (by kernel_rfl) (fun _ _ _ h => h) (Or.inl ⟨by rfl, ?_⟩) s1 ?_
          rotate_left
          · intro w' hSw; (try dsimp only at hSw); (go_simp; try with_reducible rfl)
          try simp only [Act.put, List.setIfInBounds_toArray, List.set_cons_zero, List.set_cons_succ]
          refine wpAnyH_take (i := 11) (oi := ⟨_, _, _, _, _, _⟩) (v := ?_) rfl (by kernel_rfl) (by kernel_rfl) (by kernel_rfl) (fun _ _ _ h => h) (Or.inl ⟨by rfl, ?_⟩) s1 ?_
          rotate_left
          · intro w' hSw; (try dsimp only at hSw); (go_simp; try with_reducible rfl)
          try simp only [Act.put, List.setIfInBounds_toArray, List.set_cons_zero, List.set_cons_succ]
          refine wpAnyH_take (i := 12) (oi := ⟨_, _, _, _, _, _⟩) (v := ?_) rfl (by kernel_rfl) (by kernel_rfl) (by kernel_rfl) (fun _ _ _ h => h) (Or.inl ⟨by rfl, ?_⟩) s1 ?_
          rotate_left
          · intro w' hSw; (try dsimp only at hSw); (go_simp; try with_reducible rfl)
          try simp only [Act.put, List.setIfInBounds_toArray, List.set_cons_zero, List.set_cons_succ]
          refine wpAnyH_take (i := 13) (oi := ⟨_, _, _, _, _, _⟩) (v := ?_) rfl (by kernel_rfl) (by kernel_rfl) (by kernel_rfl) (fun _ _ _ h => h) (Or.inl ⟨by rfl, ?_⟩) s1 ?_
          rotate_left
          · intro w' hSw; (try dsimp only at hSw); (go_simp; try with_reducible rfl)
          try simp only [Act.put, List.setIfInBounds_toArray, List.set_cons_zero, List.set_cons_succ]
          refine wpAnyH_take (i := 14) (oi := ⟨_, _, _, _, _, _⟩) (v := ?_) rfl (by kernel_rfl) (by kernel_rfl) (by kernel_rfl) (fun _ _ _ h => h) (Or.inl ⟨by rfl, ?_⟩) s1 ?_
          rotate_left
          · intro w' hSw; (try dsimp only at hSw); (go_simp; try with_reducible rfl)
          try simp only [Act.put, List.setIfInBounds_toArray, List.set_cons_zero, List.set_cons_succ]
          refine wpAnyH_take (i := 15) (oi := ⟨_, _, _, _, _, _⟩) (v := ?_) rfl (by kernel_rfl) (by kernel_rfl) (by kernel_rfl) (fun _ _ _ h => h) (Or.inl ⟨by rfl, ?_⟩) s1 ?_
          rotate_left
          · intro w' hSw; (try dsimp only at hSw); (go_simp; try with_reducible rfl)
          try simp only [Act.put, List.setIfInBounds_toArray, List.set_cons_zero, List.set_cons_succ]
          refine wpAnyH_take (i := 18) (oi := ⟨_, _, _, _, _, _⟩) (v := ?_) rfl (by kernel_rfl) (by kernel_rfl) (by kernel_rfl) (fun _ _ _ h => h) (Or.inl ⟨by rfl, ?_⟩) s1 ?_
          rotate_left
          · intro w' hSw; (try dsimp only at hSw); (go_simp; try with_reducible rfl)
          try simp only [Act.put, List.setIfInBounds_toArray, List.set_cons_zero, List.set_cons_succ]
          refine wpAnyH_take (i := 19) (oi := ⟨_, _, _, _, _, _⟩) (v := ?_) rfl (by kernel_rfl) (by kernel_rfl) (by kernel_rfl) (fun _ _ _ h => h) (Or.inl ⟨by rfl, ?_⟩) s1 ?_
          rotate_left
          · intro w' hSw; (try dsimp only at hSw); (go_simp; try with_reducible rfl)
          try simp only [Act.put, List.setIfInBounds_toArray, List.set_cons_zero, List.set_cons_succ]
          refine wpAnyH_take (i := 20) (oi := ⟨_, _, _, _, _, _⟩) (v := ?_) rfl (by kernel_rfl) (by kernel_rfl) (by kernel_rfl) (fun _ _ _ h => h) (Or.inl ⟨by rfl, ?_⟩) s1 ?_
          rotate_left
          · intro w' hSw; (try dsimp only at hSw); (go_simp; try with_reducible rfl)
          try simp only [Act.put, List.setIfInBounds_toArray, List.set_cons_zero, List.set_cons_succ]
          refine wpAnyH_take (i := 21) (oi := ⟨_, _, _, _, _, _⟩) (v := ?_) rfl (by kernel_rfl) (by kernel_rfl) (by kernel_rfl) (fun _ _ _ h => h) (Or.inl ⟨by rfl, ?_⟩) s1 ?_
          rotate_left
          · intro w' hSw; (try dsimp only at hSw); (go_simp; try with_reducible rfl)
          try simp only [Act.put, List.setIfInBounds_toArray, List.set_cons_zero, List.set_cons_succ]
          refine wpAnyH_take (i := 22) (oi := ⟨_, _, _, _, _, _⟩) (v := ?_) rfl (by kernel_rfl) (by kernel_rfl) (by kernel_rfl) (fun _ _ _ h => h) (Or.inl ⟨by rfl, ?_⟩) s1 ?_
          rotate_left
          · intro w' hSw; (try dsimp only at hSw); (go_simp; try with_reducible rfl)
          try simp only [Act.put, List.setIfInBounds_toArray, List.set_cons_zero, List.set_cons_succ]
          refine wpAnyH_take (i := 23) (oi := ⟨_, _, _, _, _, _⟩) (v := ?_) rfl (by kernel_rfl) (by kernel_rfl) (by kernel_rfl) (fun _ _ _ h => h) (Or.inl ⟨by rfl, ?_⟩) s1 ?_
          rotate_left
          · intro w' hSw; (try dsimp only at hSw); (go_simp; try with_reducible rfl)
          try simp only [Act.put, List.setIfInBounds_toArray, List.set_cons_zero, List.set_cons_succ]
          refine wpAnyH_take (i := 24) (oi := ⟨_, _, _, _, _, _⟩) (v := ?_) rfl (by kernel_rfl) (by kernel_rfl) (by kernel_rfl) (fun _ _ _ h => h) (Or.inl ⟨by rfl, ?_⟩) s1 ?_
          rotate_left
          · intro w' hSw; (try dsimp only at hSw); (go_simp; try with_reducible rfl)
          try simp only [Act.put, List.setIfInBounds_toArray, List.set_cons_zero, List.set_cons_succ]
          refine wpAnyH_take (i := 25) (oi := ⟨_, _, _, _, _, _⟩) (v := ?_) rfl (by kernel_rfl) (by kernel_rfl) (by kernel_rfl) (fun _ _ _ h => h) (Or.inl ⟨by rfl, ?_⟩) s1 ?_
          rotate_left
          · intro w' hSw; (try dsimp only at hSw); (go_simp; try with_reducible rfl)
          try simp only [Act.put, List.setIfInBounds_toArray, List.set_cons_zero, List.set_cons_succ]
          refine wpAnyH_take (i := 26) (oi := ⟨_, _, _, _, _, _⟩) (v := ?_) rfl (by kernel_rfl) (by kernel_rfl) (by kernel_rfl) (fun _ _ _ h => h) (Or.inl ⟨by rfl, ?_⟩) s1 ?_
          rotate_left
          · intro w' hSw; (try dsimp only at hSw); (go_simp; try with_reducible rfl)
          try simp only [Act.put, List.setIfInBounds_toArray, List.set_cons_zero, List.set_cons_succ]
          refine wpAnyH_take (i := 27) (oi := ⟨_, _, _, _, _, _⟩) (v := ?_) rfl (by kernel_rfl) (by kernel_rfl) (by kernel_rfl) (fun _ _ _ h => h) (Or.inl ⟨by rfl, ?_⟩) s1 ?_
          rotate_left
          · intro w' hSw; (try dsimp only at hSw); (go_simp; try with_reducible rfl)
          try simp only [Act.put, List.setIfInBounds_toArray, List.set_cons_zero, List.set_cons_succ]
          refine wpAnyH_take (i := 28) (oi := ⟨_, _, _, _, _, _⟩) (v := ?_) rfl (by kernel_rfl) (by kernel_rfl) (by kernel_rfl) (fun _ _ _ h => h) (Or.inl ⟨by rfl, ?_⟩) s1 ?_
          rotate_left
          · intro w' hSw; (try dsimp only at hSw); (go_simp; try with_reducible rfl)
          try simp only [Act.put, List.setIfInBounds_toArray, List.set_cons_zero, List.set_cons_succ]
          refine wpAnyH_take (i := 29) (oi := ⟨_, _, _, _, _, _⟩) (v := ?_) rfl (by kernel_rfl) (by kernel_rfl) (by kernel_rfl) (fun _ _ _ h => h) (Or.inl ⟨by rfl, ?_⟩) s1 ?_
          rotate_left
          · intro w' hSw; (try dsimp only at hSw); (go_simp; try with_reducible rfl)
          try simp only [Act.put, List.setIfInBounds_toArray, List.set_cons_zero, List.set_cons_succ]
          refine wpAnyH_take (i := 30) (oi := ⟨_, _, _, _, _, _⟩) (v := ?_) rfl (by kernel_rfl) (by kernel_rfl) (by kernel_rfl) (fun _ _ _ h => h) (Or.inl ⟨by rfl, ?_⟩) s1 ?_
          rotate_left
          · intro w' hSw; (try dsimp only at hSw); (go_simp; try with_reducible rfl)
          try simp only [Act.put, List.setIfInBounds_toArray, List.set_cons_zero, List.set_cons_succ]
          refine wpAnyH_ready (rs := [2]) (by kernel_rfl) (by simp) ?_
          refine AllReadyH.cons (o := ⟨_, _, _, _, _, _⟩) rfl (fun K hK => ?_) AllReadyH.nil
          go_simp
          refine (nodes_any _).mono ?_
          rintro e w2 ⟨rfl, hw2e⟩
          have kn2 : keepBut [] wr w2 := by rw [hw2e]; exact ((keepBut.refl [] wr).drew).alloc _
          have zc : w2.cell? ⟨wr.heap.size, kn, none⟩ = some (.int .i64 (nodeAt kn)) := by rw [hw2e]; exact nodes_cell wr.drew kn hkn7
          have s2 := three_keep kn2 (Nat.lt_of_lt_of_le hgl HR.out.1.kept.size) s1
          clear hw2e s1
          go_wp2_with fail
          refine hK.out _ _ s2 (fun _ => ?_)
          clear hK K
          try simp only [Act.put, List.setIfInBounds_toArray, List.set_cons_zero, List.set_cons_succ]
          refine wpAnyH_turn (S' := fun w' => (w'.cell? ⟨g, o + i * 4 + 1, none⟩ = some (.int .i64 nd) ∧ w'.cell? ⟨g, o + i * 4 + 2, none⟩ = some (.int .i64 kd) ∧ w'.cell? ⟨g, o + i * 4 + 3, none⟩ = some (.slice Ab b.length cb)) ∧ w'.cell? ⟨wr.heap.size, kn, none⟩ = some (.int .i64 (nodeAt kn))) (fun _ h => h.1) _ _ _ _ ?_
          refine wpAnyH_ready (rs := [8]) (by kernel_rfl) (by simp) ?_
          refine AllReadyH.cons (o := ⟨_, _, _, _, _, _⟩) rfl (fun K hK => ?_) AllReadyH.nil
          go_simp
          refine (bring_n nd 7 kn hkn hnd.1 hnd.2 (by decide) (by decide) _).mono ?_
          rintro e w' ⟨rfl, rfl⟩
          go_wp2_with fail
          refine hK.out _ _ ⟨s2, zc⟩ (fun _ => ?_)
          clear hK K
          try simp only [Act.put, List.setIfInBounds_toArray, List.set_cons_zero, List.set_cons_succ]
          refine wpAnyH_take (i := 9) (oi := ⟨_, _, _, _, _, _⟩) (v := ?_) rfl (by kernel_rfl) (by kernel_rfl) (by kernel_rfl) (fun _ _ _ h => h) (Or.inl ⟨by rfl, ?_⟩) ⟨s2, zc⟩ ?_
          rotate_left
          · intro w' hSw; (try dsimp only at hSw); (go_simp; try with_reducible rfl)
          try simp only [Act.put, List.setIfInBounds_toArray, List.set_cons_zero, List.set_cons_succ]
          refine wpAnyH_take (i := 10) (oi := ⟨_, _, _, _, _, _⟩) (v := ?_) rfl (by kernel_rfl) (by kernel_rfl) (by kernel_rfl) (fun _ _ _ h => h) (Or.inl ⟨by rfl, ?_⟩) ⟨s2, zc⟩ ?_
          rotate_left
          · intro w' hSw; (try dsimp only at hSw); (go_simp; try with_reducible rfl)
          try simp only [Act.put, List.setIfInBounds_toArray, List.set_cons_zero, List.set_cons_succ]
          refine wpAnyH_ready (rs := [16]) (by kernel_rfl) (by simp) ?_
          refine AllReadyH.cons (o := ⟨_, _, _, _, _, _⟩) rfl (fun K hK => ?_) AllReadyH.nil
          go_simp
          refine (bring_any kd 3 hkd.1 hkd.2 (by decide) (by decide) _).mono ?_
          rintro e w' ⟨rfl, rfl⟩
          go_wp2_with fail
          refine hK.out _ _ ⟨s2, zc⟩ (fun _ => ?_)
          clear hK K
          try simp only [Act.put, List.setIfInBounds_toArray, List.set_cons_zero, List.set_cons_succ]
          refine wpAnyH_take (i := 17) (oi := ⟨_, _, _, _, _, _⟩) (v := ?_) rfl (by kernel_rfl) (by kernel_rfl) (by kernel_rfl) (fun _ _ _ h => h) (Or.inl ⟨by rfl, ?_⟩) ⟨s2, zc⟩ ?_
          rotate_left
          · intro w' hSw; (try dsimp only at hSw); (go_simp; try with_reducible rfl)
          try simp only [Act.put, List.setIfInBounds_toArray, List.set_cons_zero, List.set_cons_succ]
          refine wpAnyH_take (i := 31) (oi := ⟨_, _, _, _, _, _⟩) (v := ?_) rfl (by kernel_rfl) (by kernel_rfl) (by kernel_rfl) (fun _ _ _ h => h) (Or.inl ⟨by rfl, ?_⟩) ⟨s2, zc⟩ ?_
          rotate_left
          · intro w' hSw; (try dsimp only at hSw); (go_simp; try with_reducible rfl)
          try simp only [Act.put, List.setIfInBounds_toArray, List.set_cons_zero, List.set_cons_succ]
          have ka := (keepBut.refl [] w2).alloc (.cells #[.int .i64 (st + on % 3), .int .i64 (nodeAt kn), .int .i64 (1 + kd % 3), .slice Ab b.length cb] 46)
          have rn := reads_rowV (rowAt.new w2 46 #[.int .i64 (st + on % 3), .int .i64 (nodeAt kn), .int .i64 (1 + kd % 3), .slice Ab b.length cb]) 1 4 rfl
          have kwa := kn2.then ka (by simp)
          have hgw2 : g < w2.heap.size := Nat.lt_of_lt_of_le (Nat.lt_of_lt_of_le hgl HR.out.1.kept.size) kn2.size
          have s3 := three_keep ka hgw2 s2
          have zc3 := (ka.cell (p := ⟨wr.heap.size, kn, none⟩) (World.block_lt_of_cell? _ _ zc) (by simp)).trans zc
          have ho := (HR.out.1.over kwa).own
          rw [HR.out.2.1] at ho
          have HA := Lib.hid (And.intro rn (And.intro ho kwa))
          clear ka rn kwa ho
          refine wpAnyH_ready (rs := [32]) (by kernel_rfl) (by simp) ?_
          refine AllReadyH.cons (o := ⟨_, _, _, _, _, _⟩) rfl (fun K hK => ?_) AllReadyH.nil
          go_simp
          refine hK.out _ _ ⟨s3, zc3⟩ (fun _ => ?_)
          clear hK K
          try simp only [Act.put, List.setIfInBounds_toArray, List.set_cons_zero, List.set_cons_succ]
          refine wpAnyH_ready (rs := [33]) (by kernel_rfl) (by simp) ?_
          refine AllReadyH.cons (o := ⟨_, _, _, _, _, _⟩) rfl (fun K hK => ?_) AllReadyH.nil
          refine step_append _ rfl (.tmp 27) (.tmp 59) 31 rfl 46 i0 rowZeroV 4 48 Try.underlying31 hi0 hz0 hz1 hz2 rfl (by decide) (.slice A3 i c3) i (flatR T) rfl HA.out.2.1 (some ⟨w2.heap.size, 0, none⟩) w2.heap.size 1 1 _ rfl HA.out.1 (by intro u hu; simp at hu; rcases hu with rfl | rfl | rfl | rfl <;> rfl) (by omega) (by unfold maxLen; omega) ?_
          intro A8 c8 w8 hown8 hkb8 hloc8
          have H8 := Lib.hid (And.intro hown8 (And.intro hkb8 hloc8))
          clear hown8 hkb8 hloc8
          have hno : ∀ x, x < w.heap.size ∨ x = wr.heap.size → x ∉ homes (.slice A3 i c3) := fun x hx hm => by
            rw [← HR.out.2.1] at hm
            have h1 := HR.out.1.home x hm
            have h2 := HR.out.1.own.ltV x hm
            rcases hx with h | h <;> omega
          have s8 := three_keep_S H8.out.2.1 (Nat.lt_of_lt_of_le hgw2 (by simp)) (hno g (.inl hgl)) s3
          have zc8 := (H8.out.2.1.cell (p := ⟨wr.heap.size, kn, none⟩) (World.block_lt_of_cell? _ _ zc3) (hno _ (.inr rfl))).trans zc3
          refine hK.out _ _ ⟨s8, zc8⟩ (fun _ => ?_)
          clear hK K
          try simp only [Act.put, List.setIfInBounds_toArray, List.set_cons_zero, List.set_cons_succ]
          refine wpAnyH_take (i := 34) (oi := ⟨_, _, _, _, _, _⟩) (v := ?_) rfl (by kernel_rfl) (by kernel_rfl) (by kernel_rfl) (fun _ _ _ h => h) (Or.inl ⟨by rfl, ?_⟩) ⟨s8, zc8⟩ ?_
          rotate_left
          · intro w' hSw; (try dsimp only at hSw); (go_simp; try with_reducible rfl)
          try simp only [Act.put, List.setIfInBounds_toArray, List.set_cons_zero, List.set_cons_succ]
          refine wpAnyH_done (by kernel_rfl) ?_ _
          clear s2 s3 s8 zc zc3 zc8
          go_wp2_with fail
          go_roundw
          case rel =>
            have hT := HR.out.2.1
            subst hT
            obtain ⟨Gb, hhb, hGb⟩ := heldB_arg (n := b.length) (cb := cb) HR.out.2.2.2.2.2.2.1 HR.out.2.2.2.2.2.2.2 (by rw [List.length_take]; omega) (by omega) hb2 (HR.out.1.kept.then HA.out.2.2 (by simp))
            refine ⟨T.length + 1, T ++ [(⟨st + on % 3, nodeAt kn, 1 + kd % 3, b.take 100⟩, .slice Ab b.length cb)], C ++ Gb, by omega, by omega, by go_num, by rw [HR.out.2.2.2.1], HR.out.1.add (r := ⟨st + on % 3, nodeAt kn, 1 + kd % 3, b.take 100⟩) (w2 := w2.alloc (.cells #[.int .i64 (st + on % 3), .int .i64 (nodeAt kn), .int .i64 (1 + kd % 3), .slice Ab b.length cb] 46)) hhb hGb HA.out.2.2 H8.out.1 H8.out.2.1 H8.out.2.2, by simp, ?_⟩
            rw [List.map_append, HR.out.2.2.1, HR.out.2.2.2.2.1]
            unfold sdRow
            dsimp only
            rw [HR.out.2.2.2.1, hkn]
            rfl
          case measure => simp [intOf]; omega
      · have hmt' : ¬ ((i : Int) < (most : Int)) := by omega
        subst hTl
        have HP := Lib.hid (madePost_of (l := l) (most := most) hv rfl hTm h31 h32 (by omega))
        clear hv hTm
        go_wp2
        go_ret
        exact HP.out
    · subst hTl
      have HP := Lib.hid (madePost_of (l := l) (most := most) hv rfl hTm h31 h32 (by omega))
      clear hv hTm
      go_wp2
      go_ret
      exact HP.out
end Go.Proofs.Ytjipokilidhnoaa
