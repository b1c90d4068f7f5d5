/-
  LEAD, 6: bind.
-/
import Derived.Test.YtbjonlfjfjlelaaLead3
import Derived.Deep.QuietTactic
import Derived.BigQuiet
namespace Go.Proofs.Ytbjonlfjfjlelaa
open Go.RowKit
set_option linter.unusedVariables false
set_option maxRecDepth 100000

def LS.bind (s : LS) (v : VS) : LS :=
  if v.c.num < s.frm ∨ v.bal < 1 ∨ s.bal ≤ v.bal then s else
  match findV s.bound v.c.num with
  | some k => if v.bal ≤ k.bal then s else { s with bound := putV s.bound v.c.num v }
  | none => { s with bound := putV s.bound v.c.num v }
def voteA (v : VS) (cv : Value) : Array Value := #[.int .i64 v.bal, .int .i64 v.c.num, .int .i64 v.c.full, cv]
def bindPost (p : Nat) (F : List Nat) (s' : LS) (w : World) (e : Ending) (w' : World) : Prop := e = .returned (.tuple #[]) ∧ lPost p F s' w w'
theorem zeroVote (w : World) : (zeroValue 78).run Try.prog w = .ok (.agg #[.int .i64 0, .int .i64 0, .int .i64 0, .slice none 0 0]) w := by kernel_rfl

theorem lPost.same {p : Nat} {F : List Nat} {s : LS} {w w' : World} (h : isL w p F s) (hk : keepBut [] w w') : lPost p F s w w' :=
  ⟨F, h.over hk, hk.more (by simp), fun y hy => .inl hy⟩

/-- the lookup of a vote -/
theorem look_vote (w : World) (g : Nat) (C : List Nat) (ents : List (Int × Value)) (b : List (Int × VS)) (hm : mapAt w g ents) (he : entsOk w C ents b) (k : Int) :
    ∃ V : VS, ∃ cv : Value, held w C cv V.c.chain ∧ (Instr.lookup 97 (.map (some g)) (.int .i64 k) true).run Try.prog w = .ok (.tuple #[.agg (voteA V cv), .bool (findV b k).isSome]) w ∧
      ((findV b k = none ∧ V = ⟨0, CS.zero⟩ ∧ cv = .slice none 0 0) ∨ findV b k = some V) := by
  have hr := run_lookup_int (P := Try.prog) w 97 3 78 Try.underlying97 Try.underlying3 g ents hm k _ (zeroVote w)
  rcases he.find k with ⟨e1, e2⟩ | ⟨v, d, e1, e2, cv, rfl, e4⟩
  · refine ⟨⟨0, CS.zero⟩, .slice none 0 0, held.nil _ _, ?_, .inl ⟨e2, rfl, rfl⟩⟩
    rw [hr, e1, e2]; rfl
  · refine ⟨d, cv, e4, ?_, .inr e2⟩
    rw [hr, e1, e2]; rfl

theorem bind_end {p g : Nat} {F C G5 : List Nat} {s : LS} {v : VS} {w w1 w4 w5 w6 : World} {lcv v5 : Value} {ents : List (Int × Value)} (h : isL w p F s) (hgp : g ≠ p) (kk : keepBut [] w w4)
    (hL : p ∈ F ∧ g ∈ F ∧ (∀ y ∈ C, y ∈ F) ∧ p ∉ C ∧ g ∉ C ∧ ∀ y ∈ F, y < w1.heap.size) (l1 : rowAt w4 p 99 (rowL s g lcv)) (l3 : entsOk w4 C ents s.bound) (l4 : held w4 C lcv s.prop.chain)
    (k5 : keepBut [] w4 w5) (k6 : keepBut [g] w5 w6) (m6 : mapAt w6 g (putI ents v.c.num (.agg #[.int .i64 v.bal, .int .i64 v.c.num, .int .i64 v.c.full, v5]))) (hv5 : held w5 G5 v5 v.c.chain) (hG5 : ∀ y ∈ G5, w4.drew.heap.size ≤ y ∧ y < w5.heap.size) :
    lPost p F { s with bound := putV s.bound v.c.num v } w w6 := by
  obtain ⟨hp, hg, hCF, hpC, hgC, _⟩ := hL
  have hF : ∀ y ∈ F, y < w.heap.size := by obtain ⟨_, _, _, _, _, _, _, _, _, _, _, _, _, r⟩ := h; exact r
  have hG : ∀ y ∈ G5, w.heap.size ≤ y := fun y hy => Nat.le_trans kk.size (hG5 y hy).1
  have hgG : g ∉ G5 := fun hm => by have := hG g hm; have := hF g hg; omega
  have hpG : p ∉ G5 := fun hm => by have := hG p hm; have := hF p hp; omega
  have hCC : ∀ y ∈ C, y ∉ [g] := fun y hy hm => hgC (by rw [← List.mem_singleton.1 hm]; exact hy)
  have hGG : ∀ y ∈ G5, y ∉ [g] := fun y hy hm => hgG (by rw [← List.mem_singleton.1 hm]; exact hy)
  have hpg : p ∉ [g] := fun hm => hgp (List.mem_singleton.1 hm).symm
  have e5 : entsOk w6 C ents s.bound := entsOk.keep k6 hCC (entsOk.keep k5 (by simp) l3)
  have e6 : entsOk w6 (C ++ G5) ents s.bound := entsOk.more (fun y hy => List.mem_append.2 (.inl hy)) e5
  have v6 : voteV w6 (C ++ G5) (.agg #[.int .i64 v.bal, .int .i64 v.c.num, .int .i64 v.c.full, v5]) v := ⟨v5, rfl, (hv5.keep k6 hGG).more (fun y hy => List.mem_append.2 (.inr hy))⟩
  refine ⟨F ++ G5, ⟨g, lcv, _, C ++ G5, k6.row (k5.row l1 (by simp)) hpg, m6, entsOk.put _ v6 e6, ((l4.keep k5 (by simp)).keep k6 hCC).more (fun y hy => List.mem_append.2 (.inl hy)), List.mem_append.2 (.inl hp), List.mem_append.2 (.inl hg), fun y hy => ?_, fun hm => ?_, fun hm => ?_, fun y hy => ?_⟩,
    ((kk.then k5 (by simp)).more (T := F) (by simp)).then k6 (fun x hx => .inl (by rw [List.mem_singleton.1 hx]; exact hg)), fun y hy => ?_⟩
  · rcases List.mem_append.1 hy with h1 | h1
    · exact List.mem_append.2 (.inl (hCF y h1))
    · exact List.mem_append.2 (.inr h1)
  · rcases List.mem_append.1 hm with h1 | h1
    · exact hpC h1
    · exact hpG h1
  · rcases List.mem_append.1 hm with h1 | h1
    · exact hgC h1
    · exact hgG h1
  · have s1 := kk.size
    have s2 := k5.size
    have s3 := k6.size
    rcases List.mem_append.1 hy with h1 | h1
    · have := hF y h1; omega
    · have := (hG5 y h1).2; omega
  · rcases List.mem_append.1 hy with h1 | h1
    · exact .inl h1
    · exact .inr (hG y h1)

def bindCut (w1 : World) (v29 : Value) (wx : World) : Prop := v29 = .bool false ∧ keepBut [] w1 wx

set_option maxHeartbeats 4000000 in
theorem bind_any (p : Nat) (F G : List Nat) (s : LS) (v : VS) (cv : Value) (w : World) (h : isL w p F s) (hv : held w G cv v.c.chain) :
    Calls Try.prog 77 #[.pointer (some ⟨p, 0, none⟩), .agg (voteA v cv)] w (bindPost p F (s.bind v) w) := by
  have hk1 := (keepBut.refl [] w).alloc (.cells (voteA v cv) 78)
  have hr1 := rowAt.new w 78 (voteA v cv)
  have h1 := h.over hk1
  have hv1 := hv.keep hk1 (by simp)
  obtain ⟨A, cc, gg, rfl, hv2⟩ := hv
  obtain ⟨g, lcv, ents, C, l1, l2, l3, l4, l5, l6, l7, l8, l9, l10⟩ := id h1
  have hpw : p < w.heap.size := by obtain ⟨_, _, _, _, r, _⟩ := h; exact r.lt
  have hne1 : w.heap.size ≠ p := by omega
  have HS := Lib.hid (And.intro h (And.intro hk1 (And.intro hv1 h1)))
  unfold voteA at hr1 l1 l2 l3 l4 l10 hk1 HS ⊢
  generalize hw1 : w.alloc (.cells #[.int .i64 v.bal, .int .i64 v.c.num, .int .i64 v.c.full, .slice A v.c.chain.length cc] 78) = w1 at *
  have HW1 := Lib.hid hw1
  have b0 : w1.cell? ⟨w.heap.size, 0, none⟩ = some (.int .i64 v.bal) := hr1.cell 0
  have b1 : w1.cell? ⟨w.heap.size, 1, none⟩ = some (.int .i64 v.c.num) := hr1.cell 1
  have b2 : w1.cell? ⟨w.heap.size, 2, none⟩ = some (.int .i64 v.c.full) := hr1.cell 2
  have b3 : w1.cell? ⟨w.heap.size, 3, none⟩ = some (.slice A v.c.chain.length cc) := hr1.cell 3
  have c3 : w1.cell? ⟨p, 3, none⟩ = some (.int .i64 s.bal) := l1.cell 3
  have c4 : w1.cell? ⟨p, 4, none⟩ = some (.int .i64 s.frm) := l1.cell 4
  have c6 : w1.cell? ⟨p, 6, none⟩ = some (.map (some g)) := l1.cell 6
  have HL := Lib.hid (And.intro l1 (And.intro l2 (And.intro l3 (And.intro hr1 (And.intro l5 (And.intro l6 (And.intro l7 (And.intro l8 (And.intro l9 l10)))))))))
  have HL4 := Lib.hid l4
  have HGP := Lib.hid (l2.apart l1)
  clear l1 l2 l3 l4 l5 l6 l7 l8 l9 l10 hr1 hk1 hv1 h1 hv2 h hw1 hpw
  by_cases hbad : v.c.num < s.frm ∨ v.bal < 1 ∨ s.bal ≤ v.bal
  · have HE := Lib.hid (show s.bind v = s by simp [LS.bind, hbad])
    have hcs : v.c.num < s.frm ∨ (¬ v.c.num < s.frm ∧ v.bal < 1) ∨ (¬ v.c.num < s.frm ∧ ¬ v.bal < 1 ∧ s.bal ≤ v.bal) := by omega
    clear hbad
    rcases hcs with t1 | ⟨t1, t2⟩ | ⟨t1, t2, t3⟩
    all_goals
      go_enter Try.func77, Try.ntmps77
      go_upto_region 1 with fail
      rw [HW1.out]
      go_wp2_with fail
      go_quiet (fail)
      go_wp2
      go_end0
      rw [HE.out]
      exact ⟨rfl, lPost.same HS.out.1 (HS.out.2.1.drewN _)⟩
  · have t1 : ¬ v.c.num < s.frm := by omega
    have t2 : ¬ v.bal < 1 := by omega
    have t3 : ¬ s.bal ≤ v.bal := by omega
    have HB := Lib.hid (show s.bind v = match findV s.bound v.c.num with
      | some k => if v.bal ≤ k.bal then s else { s with bound := putV s.bound v.c.num v }
      | none => { s with bound := putV s.bound v.c.num v } by simp only [LS.bind, if_neg hbad])
    have HCP := Lib.hid (fun (W : World) (hh : held W G (.slice A v.c.chain.length cc) v.c.chain) => copiedL_any G v.c (.slice A v.c.chain.length cc) W hh)
    unfold confV at HCP
    clear hbad
    go_enter Try.func77, Try.ntmps77
    go_upto_region 1 with fail
    rw [HW1.out]
    go_upto_region 2 with fail
    go_cut [29] (fun v29 wx => bindCut w1 v29 wx)
    case first =>
      go_quiet (fail)
      go_wp2
      go_meet
      exact ⟨rfl, (keepBut.refl [] w1).drewN _⟩
    case rest =>
      obtain ⟨rfl, k3⟩ := hcut
      generalize wc = w3 at *
      obtain ⟨l1, l2, l3, hr1, l5, l6, l7, l8, l9, l10⟩ := HL.out
      have l1' := k3.row l1 (by simp)
      have l2' := l2.keep k3 (by simp)
      have l3' : entsOk w3 C ents s.bound := entsOk.keep k3 (by simp) l3
      have hr1' := k3.row hr1 (by simp)
      have d6 : w3.cell? ⟨p, 6, none⟩ = some (.map (some g)) := l1'.cell 6
      have e0 : w3.cell? ⟨w.heap.size, 0, none⟩ = some (.int .i64 v.bal) := hr1'.cell 0
      obtain ⟨V, vcv, ⟨A2, c2, g2, rfl, q2⟩, hlk, hVc⟩ := look_vote w3 g C ents s.bound l2' l3' v.c.num
      unfold voteA at hlk
      have k3a := (keepBut.refl [] w3).alloc (.cells #[.int .i64 V.bal, .int .i64 V.c.num, .int .i64 V.c.full, .slice A2 V.c.chain.length c2] 78)
      have e0' : (w3.alloc (.cells #[.int .i64 V.bal, .int .i64 V.c.num, .int .i64 V.c.full, .slice A2 V.c.chain.length c2] 78)).cell? ⟨w.heap.size, 0, none⟩ = some (.int .i64 v.bal) := (k3a.row hr1' (by simp)).cell 0
      have HKA := Lib.hid k3a
      clear k3a e0
      have HK3 := Lib.hid (And.intro k3 (And.intro l1' (And.intro l2' (And.intro l3' hr1'))))
      have HLV := Lib.hid hlk
      clear b0 b1 b2 b3 c3 c4 c6 l1 l2 l3 hr1 l1' l2' l3' hr1' k3 q2 l5 l6 l7 l8 l9 l10 t1 t2 t3 hlk
      have hcase : ((findV s.bound v.c.num).isSome = true ∧ v.bal ≤ V.bal ∧ s.bind v = s) ∨ (((findV s.bound v.c.num).isSome = false ∨ ((findV s.bound v.c.num).isSome = true ∧ ¬ v.bal ≤ V.bal)) ∧ s.bind v = { s with bound := putV s.bound v.c.num v }) := by
        rw [HB.out]
        rcases hVc with ⟨e, _, _⟩ | e
        · exact .inr ⟨.inl (by rw [e]; rfl), by rw [e]⟩
        · by_cases hle : v.bal ≤ V.bal
          · exact .inl ⟨by rw [e]; rfl, hle, by rw [e]; simp [hle]⟩
          · exact .inr ⟨.inr ⟨by rw [e]; rfl, hle⟩, by rw [e]; simp [hle]⟩
      clear hVc HB
      rcases hcase with ⟨u1, u2, u3⟩ | ⟨u1, u3⟩
      · have hl := HLV.out
        rw [u1] at hl
        have HU3 := Lib.hid u3
        clear u1 u3
        go_wp2
        go_end0
        rw [HU3.out]
        exact ⟨rfl, lPost.same HS.out.1 ((HS.out.2.1.then HK3.out.1 (by simp)).alloc _)⟩
      · have HU3 := Lib.hid u3
        clear u3
        rcases u1 with u1 | ⟨u1, u2⟩
        all_goals
          have hl := HLV.out
          rw [u1] at hl
          clear u1
          go_upto_region 5 with fail
          have k4 := HKA.out
          obtain ⟨k3, l1', l2', l3', hr1'⟩ := HK3.out
          have l1 := k4.row l1' (by simp)
          have l2 := l2'.keep k4 (by simp)
          have l3 : entsOk _ C ents s.bound := entsOk.keep k4 (by simp) l3'
          have hr := k4.row hr1' (by simp)
          have kk := (HS.out.2.1.then k3 (by simp)).then k4 (by simp)
          have hv4 := (HS.out.2.2.1.keep k3 (by simp)).keep k4 (by simp)
          have k14 := k3.then k4 (by simp)
          clear d6 e0' hl k4 k3 l1' l2' l3' hr1'
          generalize w3.alloc (.cells #[.int .i64 V.bal, .int .i64 V.c.num, .int .i64 V.c.full, .slice A2 V.c.chain.length c2] 78) = w4 at *
          have x6 : w4.cell? ⟨p, 6, none⟩ = some (.map (some g)) := l1.cell 6
          have x0 : w4.cell? ⟨w.heap.size, 0, none⟩ = some (.int .i64 v.bal) := hr.cell 0
          have x1 : w4.cell? ⟨w.heap.size, 1, none⟩ = some (.int .i64 v.c.num) := hr.cell 1
          have x2 : w4.cell? ⟨w.heap.size, 2, none⟩ = some (.int .i64 v.c.full) := hr.cell 2
          have x3 : w4.cell? ⟨w.heap.size, 3, none⟩ = some (.slice A v.c.chain.length cc) := hr.cell 3
          have HB4 := Lib.hid (And.intro l1 (And.intro l2 (And.intro l3 (And.intro hr (And.intro kk hv4)))))
          have HLT := Lib.hid (And.intro l1.lt hr.lt)
          have HK14 := Lib.hid k14
          clear k14 l1 l2 l3 hr kk hv4 HKA HK3 HLV HW1
          go_region_law (first | (go_simp; go_at_call 73; refine (HCP.out _ (HB4.out.2.2.2.2.2.keep ((keepBut.refl [] w4).drew) (by simp))).mono ?_; rintro e w5 ⟨ccv, rfl, G5, ⟨A5, c5, g5, rfl, i52, i53, i54, i55, i56⟩, hG5, hk5⟩; have HI5 := Lib.hid (And.intro i52 (And.intro i53 (And.intro i54 (And.intro i55 (And.intro i56 hG5))))); clear i52 i53 i54 i55 i56 hG5; have kk5 := (((keepBut.refl [] w4).drew).then hk5 (by simp)); have y6 := (kk5.cell (p := ⟨p, 6, none⟩) HLT.out.1 (by simp)).trans x6; have y0 := (kk5.cell (p := ⟨w.heap.size, 0, none⟩) HLT.out.2 (by simp)).trans x0; have y1 := (kk5.cell (p := ⟨w.heap.size, 1, none⟩) HLT.out.2 (by simp)).trans x1; have y2 := (kk5.cell (p := ⟨w.heap.size, 2, none⟩) HLT.out.2 (by simp)).trans x2; have y3 := (kk5.cell (p := ⟨w.heap.size, 3, none⟩) HLT.out.2 (by simp)).trans x3; obtain ⟨w6, hr6, hm6, hk6⟩ := run_mapUpdate_int (P := Try.prog) w5 97 3 78 Try.underlying97 Try.underlying3 g ents (HB4.out.2.1.keep kk5 (by simp)) v.c.num (.agg #[.int .i64 v.bal, .int .i64 v.c.num, .int .i64 v.c.full, .slice A5 v.c.chain.length c5]); have HM6 := Lib.hid (And.intro hm6 (And.intro hk6 kk5)); clear hm6 hk6 kk5 hk5; unfold confV))
          all_goals
            go_end0
            rw [HU3.out]
            refine ⟨rfl, ?_⟩
            obtain ⟨i52, i53, i54, i55, i56, hG5⟩ := HI5.out
            exact bind_end HS.out.1 HGP.out HB4.out.2.2.2.2.1 HL.out.2.2.2.2 HB4.out.1 HB4.out.2.2.1 (HL4.out.keep HK14.out (by simp)) HM6.out.2.2 HM6.out.2.1 HM6.out.1 ⟨A5, c5, g5, rfl, i52, i53, i54, i55, i56⟩ hG5
end Go.Proofs.Ytbjonlfjfjlelaa
