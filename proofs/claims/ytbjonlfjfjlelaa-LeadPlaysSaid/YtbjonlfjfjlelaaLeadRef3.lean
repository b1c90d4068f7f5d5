/-
  LEAD: the document's own leader: bind.
-/
import Derived.Test.YtbjonlfjfjlelaaLeadRef2
import Derived.BigQuiet
import Derived.Deep.QuietTactic
namespace Go.Proofs.Ytbjonlfjfjlelaa
open Go.RowKit
set_option linter.unusedVariables false
set_option maxRecDepth 100000

def voteZeroM : Value := .agg #[.int .i64 0, .int .i64 0, .int .i64 0, .slice none 0 0]
theorem infoVoteM : (Try.prog.info? 78).map (fun i => (i.zero, i.size, i.bytes)) = some (some voteZeroM, 4, 48) := by kernel_rfl
theorem reads_rowM {w : World} {g : Nat} {t : TypeId} {cs : Array Value} (h : rowAt w g t cs) (n sz : Nat) (hn : cs.size = n * sz) : reads w (some ⟨g, 0, none⟩) g n sz cs.toList := by
  refine ⟨by simpa using hn, fun _ => ⟨0, rfl, h.lt, fun j u hu => ?_⟩⟩
  rw [h.cell]
  simpa using hu

/-- a vote stands in the stead of the one of its number -/
theorem bindM_set {w wa : World} {q g c j : Nat} {G C G5 : List Nat} {s : LS} {v : VS} {cv cv5 : Value} {T : List (VS × Value)} {x : Nat} (h : isMv w q G s (.slice (some ⟨g, 0, none⟩) T.length c) cv T C x) (hk : keepBut [] w wa)
    (hv5 : held wa G5 cv5 v.c.chain) (hG5 : ∀ y ∈ G5, w.heap.size ≤ y ∧ y < wa.heap.size) (hp : putV s.bound v.c.num v = (T.set j (v, cv5)).map pairT) :
    isM ((((wa.setCell ⟨g, j * 4, none⟩ (.int .i64 v.bal)).setCell ⟨g, j * 4 + 1, none⟩ (.int .i64 v.c.num)).setCell ⟨g, j * 4 + 2, none⟩ (.int .i64 v.c.full)).setCell ⟨g, j * 4 + 3, none⟩ cv5) q (G ++ G5) { s with bound := putV s.bound v.c.num v } ∧
    keepBut G w ((((wa.setCell ⟨g, j * 4, none⟩ (.int .i64 v.bal)).setCell ⟨g, j * 4 + 1, none⟩ (.int .i64 v.c.num)).setCell ⟨g, j * 4 + 2, none⟩ (.int .i64 v.c.full)).setCell ⟨g, j * 4 + 3, none⟩ cv5) := by
  have k := ((((keepBut.refl [g] wa).setCell ⟨g, j * 4, none⟩ (.int .i64 v.bal) (by simp)).setCell ⟨g, j * 4 + 1, none⟩ (.int .i64 v.c.num) (by simp)).setCell ⟨g, j * 4 + 2, none⟩ (.int .i64 v.c.full) (by simp)).setCell ⟨g, j * 4 + 3, none⟩ cv5 (by simp)
  have ho := h.own.keep hk (by simp)
  have ho4 := owns4_put (j := j * 4 + 3) (u := cv5) (owns4_put (j := j * 4 + 2) (u := .int .i64 v.c.full) (owns4_put (j := j * 4 + 1) (u := .int .i64 v.c.num) (owns4_put (j := j * 4) (u := .int .i64 v.bal) ho)))
  rw [← flatT_set T j (v, cv5)] at ho4
  have hgG : g ∈ G := h.vG g (by simp [homes_some])
  have hqg : q ∉ [g] := h.own.apart h.row (by decide)
  have hCg : ∀ y ∈ C, y ∉ [g] := fun y hy hm => h.vC g (by simp [homes_some]) (List.mem_singleton.1 hm ▸ hy)
  have hGg : ∀ y ∈ G5, y ∉ [g] := fun y hy hm => by
    have := List.mem_singleton.1 hm; have := (hG5 y hy).1; have := h.lt g hgG; omega
  have hsz := k.size
  have hsz2 := hk.size
  have hlen : (T.set j (v, cv5)).length = T.length := by simp
  refine ⟨⟨.slice (some ⟨g, 0, none⟩) T.length c, cv, T.set j (v, cv5), C ++ G5, x, k.row (hk.row h.row (by simp)) hqg, by rw [hlen]; exact ho4, hp, fun t ht => ?_, ((h.pc.keep hk (by simp)).keep k hCg).more (fun y hy => List.mem_append.2 (.inl hy)), h.acc, h.xle, List.mem_append.2 (.inl h.qG), fun y hy => List.mem_append.2 (.inl (h.vG y hy)), fun y hy => ?_, fun hm => ?_, fun y hy hm => ?_, fun y hy => ?_⟩, (hk.more (by simp)).then k (fun y hy => .inl (by rw [List.mem_singleton.1 hy]; exact hgG))⟩
  · rcases List.mem_or_eq_of_mem_set ht with h1 | rfl
    · exact (((h.chs t h1).keep hk (by simp)).keep k hCg).more (fun y hy => List.mem_append.2 (.inl hy))
    · exact (hv5.keep k hGg).more (fun y hy => List.mem_append.2 (.inr hy))
  · rcases List.mem_append.1 hy with h1 | h1
    · exact List.mem_append.2 (.inl (h.cG y h1))
    · exact List.mem_append.2 (.inr h1)
  · rcases List.mem_append.1 hm with h1 | h1
    · exact h.qC h1
    · have := (hG5 _ h1).1; have := h.lt _ h.qG; omega
  · rcases List.mem_append.1 hm with h1 | h1
    · exact h.vC y hy h1
    · have := (hG5 _ h1).1; have := h.lt _ (h.vG y hy); omega
  · rcases List.mem_append.1 hy with h1 | h1
    · have := h.lt y h1; omega
    · have := (hG5 y h1).2; omega
/-- a vote stands behind the others -/
theorem bindM_add {w wa w7 : World} {q : Nat} {G C G5 : List Nat} {s : LS} {v : VS} {vb cv cv5 v7 : Value} {T : List (VS × Value)} {x : Nat} (h : isMv w q G s vb cv T C x) (hk : keepBut [] w wa)
    (hv5 : held wa G5 cv5 v.c.chain) (hG5 : ∀ y ∈ G5, w.heap.size ≤ y ∧ y < wa.heap.size) (hp : putV s.bound v.c.num v = (T ++ [(v, cv5)]).map pairT)
    (ho7 : owns w7 78 4 v7 (T.length + 1) (flatT T ++ [.int .i64 v.bal, .int .i64 v.c.num, .int .i64 v.c.full, cv5])) (hkb7 : keepBut (homes vb) wa w7) (hloc7 : ∀ y ∈ homes v7, y ∈ homes vb ∨ wa.heap.size ≤ y) :
    isM (w7.setCell ⟨q, 7, none⟩ v7) q (G ++ G5 ++ homes v7) { s with bound := putV s.bound v.c.num v } ∧ keepBut G w (w7.setCell ⟨q, 7, none⟩ v7) := by
  have hqv : ∀ y ∈ homes vb, y ≠ q := fun y hy e => h.own.apart h.row (by decide) (e ▸ hy)
  have hsz := hk.size
  have hsz7 := hkb7.size
  have hql := h.lt q h.qG
  have hCv : ∀ y ∈ C, y ∉ homes vb := fun y hy hm => h.vC y hm hy
  have hGv : ∀ y ∈ G5, y ∉ homes vb := fun y hy hm => by have := (hG5 y hy).1; have := h.lt y (h.vG y hm); omega
  have hCq : ∀ y ∈ C, y ∉ [q] := fun y hy hm => h.qC (List.mem_singleton.1 hm ▸ hy)
  have hGq : ∀ y ∈ G5, y ∉ [q] := fun y hy hm => by have := List.mem_singleton.1 hm; have := (hG5 y hy).1; omega
  have k := (keepBut.refl [q] w7).setCell ⟨q, 7, none⟩ v7 (by simp)
  have hr7 : rowAt w7 q 61 (rowM s vb cv x) := hkb7.row (hk.row h.row (by simp)) (fun hm => hqv q hm rfl)
  have hr8 := hr7.set 7 v7
  have h7q : ∀ y ∈ homes v7, y ∉ [q] := fun y hy hm => by
    have e := List.mem_singleton.1 hm
    rcases hloc7 y hy with h1 | h1
    · exact hqv y h1 e
    · omega
  have hlen : (T ++ [(v, cv5)]).length = T.length + 1 := by simp
  rw [show flatT T ++ [.int .i64 v.bal, .int .i64 v.c.num, .int .i64 v.c.full, cv5] = flatT (T ++ [(v, cv5)]) from (flatT_add T (v, cv5)).symm] at ho7
  have hend := ho7.keep k h7q
  have hk8 := k.size
  refine ⟨⟨v7, cv, T ++ [(v, cv5)], C ++ G5, x, by simpa [rowM] using hr8, by rw [hlen]; exact hend, hp, fun t ht => ?_, (((h.pc.keep hk (by simp)).keep hkb7 hCv).keep k hCq).more (fun y hy => List.mem_append.2 (.inl hy)), h.acc, h.xle, List.mem_append.2 (.inl (List.mem_append.2 (.inl h.qG))), fun y hy => List.mem_append.2 (.inr hy), fun y hy => ?_, fun hm => ?_, fun y hy hm => ?_, fun y hy => ?_⟩,
    ((hk.more (T := G) (by simp)).then hkb7 (fun y hy => .inl (h.vG y hy))).then k (fun y hy => .inl (by rw [List.mem_singleton.1 hy]; exact h.qG))⟩
  · rcases List.mem_append.1 ht with h1 | h1
    · exact ((((h.chs t h1).keep hk (by simp)).keep hkb7 hCv).keep k hCq).more (fun y hy => List.mem_append.2 (.inl hy))
    · rw [List.mem_singleton.1 h1]; exact ((hv5.keep hkb7 hGv).keep k hGq).more (fun y hy => List.mem_append.2 (.inr hy))
  · rcases List.mem_append.1 hy with h1 | h1
    · exact List.mem_append.2 (.inl (List.mem_append.2 (.inl (h.cG y h1))))
    · exact List.mem_append.2 (.inl (List.mem_append.2 (.inr h1)))
  · rcases List.mem_append.1 hm with h1 | h1
    · exact h.qC h1
    · have := (hG5 _ h1).1; omega
  · rcases hloc7 y hy with h2 | h2
    · rcases List.mem_append.1 hm with h1 | h1
      · exact h.vC y h2 h1
      · exact hGv y h1 h2
    · rcases List.mem_append.1 hm with h1 | h1
      · have := h.lt y (h.cG y h1); omega
      · have := (hG5 y h1).2; omega
  · rcases List.mem_append.1 hy with h1 | h1
    · rcases List.mem_append.1 h1 with h2 | h2
      · have := h.lt y h2; omega
      · have := (hG5 y h2).2; omega
    · have := ho7.lt y h1; omega

theorem bind_good (s : LS) (v : VS) (h : ¬ (v.c.num < s.frm ∨ v.bal < 1 ∨ s.bal ≤ v.bal)) :
    (findV s.bound v.c.num = none → s.bind v = { s with bound := putV s.bound v.c.num v }) ∧ ∀ k, findV s.bound v.c.num = some k → (v.bal ≤ k.bal → s.bind v = s) ∧ (¬ v.bal ≤ k.bal → s.bind v = { s with bound := putV s.bound v.c.num v }) := by
  unfold LS.bind
  rw [if_neg h]
  refine ⟨fun e => by rw [e], fun k e => ⟨fun hk => by rw [e]; simp [hk], fun hk => by rw [e]; simp [hk]⟩⟩
def bindMRel (T : List (VS × Value)) (num : Int) (w6 : World) (v4 : Value) (wx : World) : Prop := ∃ j : Nat, j ≤ T.length ∧ v4 = .int .i64 (j : Int) ∧ (∀ (i : Nat) (u : VS × Value), i < j → T[i]? = some u → u.1.c.num ≠ num) ∧ keepBut [] w6 wx
def bindMCut (w1 : World) (v26 : Value) (wx : World) : Prop := v26 = .bool false ∧ keepBut [] w1 wx

set_option maxHeartbeats 4000000 in
theorem bindM_any (q : Nat) (G Gc : List Nat) (s : LS) (v : VS) (cv : Value) (w : World) (h : isM w q G s) (hv : held w Gc cv v.c.chain) (hT : s.bound.length ≤ 100000) :
    Calls Try.prog 83 #[.pointer (some ⟨q, 0, none⟩), .agg (voteA v cv)] w (mPost q G (s.bind v) (.tuple #[]) w) := by
  have hk1 := (keepBut.refl [] w).alloc (.cells (voteA v cv) 78)
  have hr1 := rowAt.new w 78 (voteA v cv)
  have h1 := h.over hk1
  have hv1 := hv.keep hk1 (by simp)
  obtain ⟨A, cc, gg, rfl, hv2⟩ := hv
  obtain ⟨vb, lcv, T, C, x, hm0⟩ := id h
  obtain ⟨A7, n7, rfl, hlc, hcm, -, -⟩ := hm0.own.form
  have hm := hm0.keep hk1 (by simp)
  unfold maxLen at hcm
  have hTl : T.length ≤ 100000 := by have := hm.bnd; rw [this] at hT; simpa using hT
  have hql := h.lt q h.mem
  have hne1 : w.heap.size ≠ q := by omega
  unfold voteA at hr1 h1 hv1 hk1 hm ⊢
  have HS := Lib.hid (And.intro h (And.intro hk1 (And.intro hv1 h1)))
  generalize hw1 : w.alloc (.cells #[.int .i64 v.bal, .int .i64 v.c.num, .int .i64 v.c.full, .slice A v.c.chain.length cc] 78) = w1 at *
  have HW1 := Lib.hid hw1
  have b0 : w1.cell? ⟨w.heap.size, 0, none⟩ = some (.int .i64 v.bal) := hr1.cell 0
  have b1 : w1.cell? ⟨w.heap.size, 1, none⟩ = some (.int .i64 v.c.num) := hr1.cell 1
  have b2 : w1.cell? ⟨w.heap.size, 2, none⟩ = some (.int .i64 v.c.full) := hr1.cell 2
  have b3 : w1.cell? ⟨w.heap.size, 3, none⟩ = some (.slice A v.c.chain.length cc) := hr1.cell 3
  have c1 : w1.cell? ⟨q, 1, none⟩ = some (.int .i64 s.bal) := hm.row.cell 1
  have c2 : w1.cell? ⟨q, 2, none⟩ = some (.int .i64 s.frm) := hm.row.cell 2
  have HM := Lib.hid (And.intro hm0 hr1)
  clear hr1 hk1 hv1 h1 hv2 h hw1 hm hm0 hT
  by_cases hbad : v.c.num < s.frm ∨ v.bal < 1 ∨ s.bal ≤ v.bal
  · have HE := Lib.hid (show s.bind v = s by simp [LS.bind, hbad])
    have hcs : v.c.num < s.frm ∨ (¬ v.c.num < s.frm ∧ v.bal < 1) ∨ (¬ v.c.num < s.frm ∧ ¬ v.bal < 1 ∧ s.bal ≤ v.bal) := by omega
    clear hbad
    rcases hcs with t1 | ⟨t1, t2⟩ | ⟨t1, t2, t3⟩
    all_goals
      go_enter Try.func83, Try.ntmps83
      go_upto_region 1 with fail
      rw [HW1.out]
      go_wp2_with fail
      go_quiet (fail)
      go_wp2
      go_end0
      rw [HE.out]
      exact mPost.same HS.out.1 (HS.out.2.1.drewN _)
  · have t1 : ¬ v.c.num < s.frm := by omega
    have t2 : ¬ v.bal < 1 := by omega
    have t3 : ¬ s.bal ≤ v.bal := by omega
    have HB := Lib.hid (bind_good s v hbad)
    have HCP := Lib.hid (fun (W : World) (hh : held W Gc (.slice A v.c.chain.length cc) v.c.chain) => copyConf_any Gc v.c (.slice A v.c.chain.length cc) W hh)
    unfold confV at HCP
    clear hbad
    go_enter Try.func83, Try.ntmps83
    go_upto_region 1 with fail
    rw [HW1.out]
    go_upto_region 2 with fail
    go_cut [26] (fun v26 wx => bindMCut w1 v26 wx)
    case first =>
      go_quiet (fail)
      go_wp2
      go_meet
      exact ⟨by rw [decide_eq_false (show ¬ v.c.num < s.frm by omega), decide_eq_false (show ¬ v.bal < 1 by omega), decide_eq_false (show ¬ s.bal ≤ v.bal by omega)]; rfl, (keepBut.refl [] w1).drewN _⟩
    case rest =>
      obtain ⟨rfl, k3⟩ := hcut
      generalize wc = w3 at *
      have hr3 := k3.row HM.out.2 (by simp)
      have d1 : w3.cell? ⟨w.heap.size, 1, none⟩ = some (.int .i64 v.c.num) := hr3.cell 1
      have d2 : w3.cell? ⟨w.heap.size, 2, none⟩ = some (.int .i64 v.c.full) := hr3.cell 2
      have d3 : w3.cell? ⟨w.heap.size, 3, none⟩ = some (.slice A v.c.chain.length cc) := hr3.cell 3
      have hv3 := HS.out.2.2.1.keep k3 (by simp)
      have H3 := Lib.hid (And.intro k3 (And.intro hr3 hv3))
      clear b0 b1 b2 b3 c1 c2 t1 t2 t3 k3 hr3 hv3
      go_wp2_with fail
      refine (HCP.out _ H3.out.2.2).mono ?_; rintro e w5 ⟨ccv, rfl, G5, ⟨A5, c5, g5, rfl, i52, i53, i54, i55, i56⟩, hG5, hk5⟩
      have hr5 := hk5.row H3.out.2.1 (by simp)
      have k15 := H3.out.1.then hk5 (by simp)
      have e1 : w5.cell? ⟨w.heap.size, 1, none⟩ = some (.int .i64 v.c.num) := hr5.cell 1
      have e2 : w5.cell? ⟨w.heap.size, 2, none⟩ = some (.int .i64 v.c.full) := hr5.cell 2
      have e3 : w5.cell? ⟨w.heap.size, 3, none⟩ = some (.slice A v.c.chain.length cc) := hr5.cell 3
      have ef1 := hr5.free 1
      have ef2 := hr5.free 2
      have ef3 := hr5.free 3
      have k6 := (((keepBut.refl [w.heap.size] w5).setCell ⟨w.heap.size, 1, none⟩ (.int .i64 v.c.num) (by simp)).setCell ⟨w.heap.size, 2, none⟩ (.int .i64 v.c.full) (by simp)).setCell ⟨w.heap.size, 3, none⟩ (.slice A5 v.c.chain.length c5) (by simp)
      have hr6 : rowAt (((w5.setCell ⟨w.heap.size, 1, none⟩ (.int .i64 v.c.num)).setCell ⟨w.heap.size, 2, none⟩ (.int .i64 v.c.full)).setCell ⟨w.heap.size, 3, none⟩ (.slice A5 v.c.chain.length c5)) w.heap.size 78 #[.int .i64 v.bal, .int .i64 v.c.num, .int .i64 v.c.full, .slice A5 v.c.chain.length c5] := by
        simpa using ((hr5.set 1 (.int .i64 v.c.num)).set 2 (.int .i64 v.c.full)).set 3 (.slice A5 v.c.chain.length c5)
      have hh6 : held (((w5.setCell ⟨w.heap.size, 1, none⟩ (.int .i64 v.c.num)).setCell ⟨w.heap.size, 2, none⟩ (.int .i64 v.c.full)).setCell ⟨w.heap.size, 3, none⟩ (.slice A5 v.c.chain.length c5)) G5 (.slice A5 v.c.chain.length c5) v.c.chain :=
        held.keep ⟨A5, c5, g5, rfl, i52, i53, i54, i55, i56⟩ k6 (fun y hy hm => by have := (hG5 y hy).1; have := List.mem_singleton.1 hm; have := H3.out.2.1.lt; omega)
      have hkw : keepBut [] w (((w5.setCell ⟨w.heap.size, 1, none⟩ (.int .i64 v.c.num)).setCell ⟨w.heap.size, 2, none⟩ (.int .i64 v.c.full)).setCell ⟨w.heap.size, 3, none⟩ (.slice A5 v.c.chain.length c5)) := (HS.out.2.1.then k15 (by simp)).then k6 (by simp)
      have hG6 : ∀ y ∈ G5, w.heap.size ≤ y ∧ y < (((w5.setCell ⟨w.heap.size, 1, none⟩ (.int .i64 v.c.num)).setCell ⟨w.heap.size, 2, none⟩ (.int .i64 v.c.full)).setCell ⟨w.heap.size, 3, none⟩ (.slice A5 v.c.chain.length c5)).heap.size := fun y hy => by
        have := (hG5 y hy).1; have := H3.out.2.1.lt; have := (hG5 y hy).2; have := k6.size; exact ⟨by omega, by omega⟩
      have H5 := Lib.hid (And.intro hr6 (And.intro hh6 (And.intro hkw hG6)))
      clear hr5 k15 k6 hr6 hh6 hkw hG6 i52 i53 i54 i55 i56 hG5 hk5 d1 d2 d3 HCP
      unfold confV
      go_upto_region 3 with fail
      clear e1 e2 e3 ef1 ef2 ef3
      generalize ((w5.setCell ⟨w.heap.size, 1, none⟩ (.int .i64 v.c.num)).setCell ⟨w.heap.size, 2, none⟩ (.int .i64 v.c.full)).setCell ⟨w.heap.size, 3, none⟩ (.slice A5 v.c.chain.length c5) = w6 at *
      go_wp2_with fail
      go_loopw [4, 40, 41, 42, 43, 44, 45, 46, 47, 48, 49, 50, 51, 52, 53, 54, 55, 56, 57, 58, 59, 60, 61, 62, 63] (fun v4 _ _ _ _ _ _ _ _ _ _ _ _ _ _ _ _ _ _ _ _ _ _ _ _ wx => bindMRel T v.c.num w6 v4 wx) (fun v4 _ _ _ _ _ _ _ _ _ _ _ _ _ _ _ _ _ _ _ _ _ _ _ _ _ => T.length - (intOf v4).toNat)
      case atStart => exact ⟨0, by omega, rfl, fun i u hi => absurd hi (by omega), keepBut.refl _ _⟩
      case round =>
        obtain ⟨j, hj, rfl, hno, kr⟩ := hrel
        have hmr := HM.out.1.keep (H5.out.2.2.1.then kr (by simp)) (by simp)
        have hrr := kr.row H5.out.1 (by simp)
        have HR := Lib.hid (And.intro kr (And.intro hmr hrr))
        have HNO := Lib.hid hno
        have x7 : wr.cell? ⟨q, 7, none⟩ = some (.slice A7 T.length n7) := hmr.row.cell 7
        have x0 : wr.cell? ⟨w.heap.size, 0, none⟩ = some (.int .i64 v.bal) := hrr.cell 0
        have x1 : wr.cell? ⟨w.heap.size, 1, none⟩ = some (.int .i64 v.c.num) := hrr.cell 1
        have x2 : wr.cell? ⟨w.heap.size, 2, none⟩ = some (.int .i64 v.c.full) := hrr.cell 2
        have x3 : wr.cell? ⟨w.heap.size, 3, none⟩ = some (.slice A5 v.c.chain.length c5) := hrr.cell 3
        clear hno kr hmr hrr
        by_cases hlt : j < T.length
        · have hlt' : (j : Int) < (T.length : Int) := by omega
          obtain ⟨t, ht⟩ : ∃ t, T[j]? = some t := ⟨_, List.getElem?_eq_getElem hlt⟩
          obtain ⟨g, c', e', -, -, hg, -, hcell, hfree⟩ := owns4_at HR.out.2.1.own (by omega)
          injection e' with e1 e2 e3
          subst e1 e3
          obtain ⟨y0, y1, y2, y3⟩ := flatT_at T j t ht
          replace y0 := hcell _ _ y0
          replace y1 := hcell _ _ y1
          replace y2 := hcell _ _ y2
          replace y3 := hcell _ _ y3
          have fr0 := hfree (j * 4)
          have fr1 := hfree (j * 4 + 1)
          have fr2 := hfree (j * 4 + 2)
          have fr3 := hfree (j * 4 + 3)
          have HT := Lib.hid ht
          clear ht hcell hfree
          by_cases hn : t.1.c.num = v.c.num
          · have t1 : (t.1.c.num == v.c.num) = true := by simpa using hn
            have HN := Lib.hid hn
            have HF := Lib.hid (find_at v.c.num T j t HT.out HNO.out hn)
            clear hn
            by_cases hle : t.1.bal < v.bal
            · have HLE := Lib.hid hle
              go_wp2_with fail
              go_quiet (fail)
              go_wp2_with fail
              go_quiet (fail)
              go_wp2_with fail
              go_region
              go_wp2
              go_end0
              rw [(HB.out.2 t.1 (by rw [HM.out.1.bnd]; exact HF.out.1)).2 (by have := HLE.out; omega)]
              have hend := fun (n : Nat) => bindM_set (wa := wr.drewN n) (j := j) HM.out.1 ((H5.out.2.2.1.then HR.out.1 (by simp)).drewN _) (H5.out.2.1.keep (HR.out.1.drewN _) (by simp)) (fun y hy => ⟨(H5.out.2.2.2 y hy).1, Nat.lt_of_lt_of_le (H5.out.2.2.2 y hy).2 HR.out.1.size⟩) (by rw [HM.out.1.bnd]; exact HF.out.2 v (.slice A5 v.c.chain.length c5) rfl)
              refine ⟨rfl, _, (hend _).1, (hend _).2, fun y hy => ?_⟩
              rcases List.mem_append.1 hy with h1 | h1
              · exact .inl h1
              · exact .inr (H5.out.2.2.2 y h1).1
            · have HLE := Lib.hid hle
              go_wp2_with fail
              go_quiet (fail)
              go_wp2_with fail
              go_quiet (fail)
              go_wp2
              go_end0
              rw [(HB.out.2 t.1 (by rw [HM.out.1.bnd]; exact HF.out.1)).1 (by have := HLE.out; omega)]
              exact mPost.same HS.out.1 (((H5.out.2.2.1.then HR.out.1 (by simp)).drewN _).drewN _)
          · have t1 : (t.1.c.num == v.c.num) = false := by simpa using hn
            have HN := Lib.hid hn
            clear hn
            go_wp2_with fail
            go_quiet (fail)
            go_wp2_with fail
            go_roundw
            case rel =>
              refine ⟨j + 1, by omega, by go_num, fun i u hi hu => ?_, HR.out.1.drewN _⟩
              by_cases e : i = j
              · subst e; rw [HT.out] at hu; injection hu with hu; rw [← hu]; exact HN.out
              · exact HNO.out i u (by omega) hu
            case measure => simp [intOf]; omega
        · obtain rfl : j = T.length := by omega
          have HF := Lib.hid (find_none v.c.num T (fun i u hu => HNO.out i u (by have := (List.getElem?_eq_some_iff.1 hu).1; omega) hu))
          obtain ⟨i0, hi0, hz0, hz1, hz2⟩ := info_parts infoVoteM
          have HNV : Hid (w.heap.size ∉ homes (.slice A7 T.length n7)) := Lib.hid (fun hm => Nat.lt_irrefl _ (HM.out.1.lt _ (HM.out.1.vG _ hm)))
          have fr7 := HR.out.2.1.row.free 7
          have ka := ((keepBut.refl [] wr).drew).alloc (.cells #[.int .i64 v.bal, .int .i64 v.c.num, .int .i64 v.c.full, .slice A5 v.c.chain.length c5] 78)
          have rn := reads_rowM (rowAt.new wr.drew 78 #[.int .i64 v.bal, .int .i64 v.c.num, .int .i64 v.c.full, .slice A5 v.c.chain.length c5]) 1 4 rfl
          have ha := HR.out.2.1.own.keep ka (by simp)
          have HA := Lib.hid (And.intro ka (And.intro rn ha))
          clear ka rn ha
          go_wp2_with fail
          have ha := HA.out.1
          have z7 := (ha.cell (p := ⟨q, 7, none⟩) HR.out.2.1.row.lt (by simp)).trans x7
          have z7' : ((wr.alloc (.cells #[.int .i64 v.bal, .int .i64 v.c.num, .int .i64 v.c.full, .slice A5 v.c.chain.length c5] 78)).drew).cell? ⟨q, 7, none⟩ = some (.slice A7 T.length n7) := z7
          have d7 : wr.drew.cell? ⟨q, 7, none⟩ = some (.slice A7 T.length n7) := x7
          have d0 : wr.drew.cell? ⟨w.heap.size, 0, none⟩ = some (.int .i64 v.bal) := x0
          have d1 : wr.drew.cell? ⟨w.heap.size, 1, none⟩ = some (.int .i64 v.c.num) := x1
          have d2 : wr.drew.cell? ⟨w.heap.size, 2, none⟩ = some (.int .i64 v.c.full) := x2
          have d3 : wr.drew.cell? ⟨w.heap.size, 3, none⟩ = some (.slice A5 v.c.chain.length c5) := x3
          clear ha
          go_region_law
           (first
            | (refine step_append _ rfl (.tmp 75) (.tmp 77) 56 rfl 78 i0 voteZeroM 4 48 Try.underlying56 hi0 hz0 hz1 hz2 rfl (by decide) _ T.length (flatT T) rfl HA.out.2.2 (some ⟨wr.drew.heap.size, 0, none⟩) wr.drew.heap.size 1 1 _ rfl HA.out.2.1 (by intro u hu; simp at hu; rcases hu with rfl | rfl | rfl | rfl <;> rfl) (by omega) (by unfold maxLen; omega) ?_; intro A8 c8 w8 hown8 hkb8 hloc8; have hr8 := hkb8.row (HA.out.1.row HR.out.2.1.row (by simp)) (HR.out.2.1.own.apart HR.out.2.1.row (by decide)); have fr8 := hr8.free 7; have x8 : w8.cell? ⟨q, 7, none⟩ = some (.slice A7 T.length n7) := hr8.cell 7;  have H8 := Lib.hid (And.intro hown8 (And.intro hkb8 hloc8)); clear hown8 hkb8 hloc8 hr8))
          all_goals
            go_wp2
            go_end0
            rw [HB.out.1 (by rw [HM.out.1.bnd]; exact HF.out.1)]
            have hend := bindM_add (wa := (wr.drew).alloc (.cells #[.int .i64 v.bal, .int .i64 v.c.num, .int .i64 v.c.full, .slice A5 v.c.chain.length c5] 78)) HM.out.1 ((H5.out.2.2.1.then HR.out.1 (by simp)).then HA.out.1 (by simp)) ((H5.out.2.1.keep HR.out.1 (by simp)).keep HA.out.1 (by simp)) (fun y hy => ⟨(H5.out.2.2.2 y hy).1, Nat.lt_of_lt_of_le (H5.out.2.2.2 y hy).2 (Nat.le_trans HR.out.1.size HA.out.1.size)⟩) (by rw [HM.out.1.bnd]; exact HF.out.2 v (.slice A5 v.c.chain.length c5) rfl) H8.out.1 H8.out.2.1 H8.out.2.2
            refine ⟨rfl, _, hend.1, hend.2, fun y hy => ?_⟩
            rcases List.mem_append.1 hy with h1 | h1
            · rcases List.mem_append.1 h1 with h2 | h2
              · exact .inl h2
              · exact .inr (H5.out.2.2.2 y h2).1
            · rcases H8.out.2.2 y h1 with h2 | h2
              · exact .inl (HM.out.1.vG y h2)
              · exact .inr (Nat.le_trans (Nat.le_trans (H5.out.2.2.1.then HR.out.1 (by simp)).size HA.out.1.size) h2)
end Go.Proofs.Ytbjonlfjfjlelaa
