/-
  TABLE, 14: put of an answer.
-/
import Derived.Test.YtmlmhnhilemjhaaDoorTB13
namespace Go.Proofs.YtmlmhnhilemjhaaDoor
open Go.RowKit
set_option linter.unusedVariables false
set_option maxRecDepth 100000
set_option linter.unusedSimpArgs false

def abL (b : AB) : List Value := anL b.ans b.ev
def putAn (s : TS) (b : AB) : List AB := if hitI s b.ans.client = true then s.answers.set (posI s b.ans.client) b else insAt s.answers (posI s b.ans.client) b
def TS.withA (s : TS) (b : AB) (iv av : Value) (G : List Nat) : TS := { s with answers := putAn s b, iv := iv, av := av, F := s.F ++ G }
def putPostA (p : Nat) (s : TS) (b : AB) (G : List Nat) (w : World) (e : Ending) (w' : World) : Prop :=
  ∃ iv av, e = .returned (.tuple #[]) ∧ isT w' p (s.withA b iv av G) ∧ keepBut (p :: (homes s.iv ++ homes s.av)) w w' ∧ (∀ x ∈ homes iv, x ∈ homes s.iv ∨ w.heap.size ≤ x) ∧ (∀ x ∈ homes av, x ∈ homes s.av ∨ w.heap.size ≤ x)
theorem flatA_one {w : World} {G : List Nat} : ∀ {l : List AB}, (∀ b ∈ l, bytesV w G b.ev b.ans.env) → ∀ u ∈ flatA l, u.oneCell' = true
  | [], _, u, hu => by simp [flatA] at hu
  | b :: r, h, u, hu => by
    rw [flatA] at hu
    rcases List.mem_append.1 hu with hu | hu
    · exact anL_one b.ans (h b (by simp)).one u hu
    · exact flatA_one (fun c hc => h c (by simp [hc])) u hu
theorem ints_one {l : List Int} : ∀ u ∈ l.map (Value.int .i64), u.oneCell' = true := by
  intro u hu
  obtain ⟨n, _, rfl⟩ := List.mem_map.1 hu
  rfl
theorem isT.putEndA {w W : World} {p : Nat} {s : TS} {b : AB} {iv av : Value} {G : List Nat} (h : isT w p s) (hm : hitI s b.ans.client = false) (hb : b.ans.name.length = 32) (hc0 : 0 ≤ b.ans.client ∧ b.ans.client ≤ 1000000) (hn : s.keys.length < 100)
    (hrow : rowAt W p 67 #[.int .i64 s.epoch, ordN, s.kv, s.vv, ordI, iv, av])
    (hk : owns W 3 1 iv (s.keys.length + 1) ((s.keys.map (Value.int .i64)).take (posI s b.ans.client * 1) ++ ([.int .i64 b.ans.client] ++ (s.keys.map (Value.int .i64)).drop (posI s b.ans.client * 1))))
    (hv : owns W 40 38 av (s.answers.length + 1) ((flatA s.answers).take (posI s b.ans.client * 38) ++ (abL b ++ (flatA s.answers).drop (posI s b.ans.client * 38))))
    (keep : keepBut (p :: (homes s.iv ++ homes s.av)) w W) (hel : b.ans.env.length ≤ 1000) (he : bytesV W G b.ev b.ans.env) (hG : u8rows W G) : isT W p (s.withA b iv av G) := by
  have hp : putAn s b = insAt s.answers (posI s b.ans.client) b := by unfold putAn; rw [if_neg (by rw [hm]; simp)]
  have hnm : (s.withA b iv av G).keys = insAt s.keys (posI s b.ans.client) b.ans.client := by
    show (putAn s b).map (·.ans.client) = _
    rw [hp, insAt_map]; rfl
  have hob : (s.withA b iv av G).answers = insAt s.answers (posI s b.ans.client) b := hp
  have hle : posI s b.ans.client ≤ s.keys.length := posOf_le _ _
  have hle2 : posI s b.ans.client ≤ s.answers.length := by have := hle; simpa [TS.keys] using this
  have hF : ∀ y ∈ s.F, y ∉ p :: (homes s.iv ++ homes s.av) := fun y hy => by
    obtain ⟨cs, hc⟩ := h.blocks y hy
    simp only [List.mem_cons, List.mem_append, not_or]
    exact ⟨hc.apart h.row (by decide), h.iown.apart hc (by decide), h.aown.apart hc (by decide)⟩
  have hi : ∀ x ∈ homes s.kv, x ∉ p :: (homes s.iv ++ homes s.av) := fun x hx => by
    simp only [List.mem_cons, List.mem_append, not_or]
    exact ⟨fun e => h.kown.apart h.row (by decide) (e ▸ hx), h.kown.apart2 h.iown (by decide) x hx, h.kown.apart2 h.aown (by decide) x hx⟩
  have ha : ∀ x ∈ homes s.vv, x ∉ p :: (homes s.iv ++ homes s.av) := fun x hx => by
    simp only [List.mem_cons, List.mem_append, not_or]
    exact ⟨fun e => h.vown.apart h.row (by decide) (e ▸ hx), h.vown.apart2 h.iown (by decide) x hx, h.vown.apart2 h.aown (by decide) x hx⟩
  refine ⟨hrow, h.kown.keep keep hi, h.vown.keep keep ha, ?_, ?_, h.names, ?_, h.small, ?_, h.sortN, ?_, ?_, ?_, ?_, ?_, h.lensO, ?_⟩
  · rw [hnm, insAt_len, ints_ins]; exact hk
  · rw [hob, insAt_len, flatA_ins h.ansN hle2]; exact hv
  · rw [hnm]; intro n hn'; rcases insAt_mem hn' with rfl | h1; exact hc0; exact h.clients n h1
  · rw [hnm, insAt_len]; omega
  · rw [hnm]; exact h.insI hm
  · rw [hob]; intro n hn'; rcases insAt_mem hn' with rfl | h1; exact hb; exact h.ansN n h1
  · intro c hc
    exact ((h.envO c hc).keep keep hF).more (fun y hy => List.mem_append.2 (.inl hy))
  · rw [hob]
    intro c hc
    rcases insAt_mem hc with rfl | h1
    · exact he.more (fun y hy => List.mem_append.2 (.inr hy))
    · exact ((h.envA c h1).keep keep hF).more (fun y hy => List.mem_append.2 (.inl hy))
  · intro y hy
    rcases List.mem_append.1 hy with hy | hy
    · obtain ⟨cs, hc⟩ := h.blocks y hy
      exact ⟨cs, keep.row hc (hF y hy)⟩
    · exact hG y hy
  · rw [hob]
    intro c hc
    rcases insAt_mem hc with rfl | h1
    · exact hel
    · exact h.lensA c h1
theorem isT.setEndA {w W : World} {p : Nat} {s : TS} {b : AB} {G : List Nat} (h : isT w p s) (hm : hitI s b.ans.client = true) (hb : b.ans.name.length = 32)
    (hv : owns W 40 38 s.av s.answers.length (flatA (s.answers.set (posI s b.ans.client) b)))
    (keep : keepBut (homes s.av) w W) (hel : b.ans.env.length ≤ 1000) (he : bytesV W G b.ev b.ans.env) (hG : u8rows W G) : isT W p (s.withA b s.iv s.av G) := by
  have hp : putAn s b = s.answers.set (posI s b.ans.client) b := by unfold putAn; rw [if_pos hm]
  obtain ⟨b0, hb0, hb1⟩ := hitI_at hm
  have hnm : (s.withA b s.iv s.av G).keys = s.keys := by
    show (putAn s b).map (·.ans.client) = _
    rw [hp, List.map_set]
    unfold TS.keys
    apply List.ext_getElem? ; intro j
    rw [List.getElem?_set]
    split
    · rename_i hj
      subst hj
      rw [List.getElem?_map, hb0]
      simp [hb1]
      exact (List.getElem?_eq_some_iff.1 hb0).1
    · rfl
  have hob : (s.withA b s.iv s.av G).answers = s.answers.set (posI s b.ans.client) b := hp
  have ap : ∀ {g : Nat} {t : TypeId} {cs : Array Value}, rowAt w g t cs → t ≠ 40 → g ∉ homes s.av := fun hr hne => h.aown.apart hr hne
  have hF : ∀ y ∈ s.F, y ∉ homes s.av := fun y hy => by
    obtain ⟨cs, hc⟩ := h.blocks y hy
    exact ap hc (by decide)
  refine ⟨keep.row h.row (ap h.row (by decide)), h.kown.keep keep (h.kown.apart2 h.aown (by decide)), h.vown.keep keep (h.vown.apart2 h.aown (by decide)), ?_, ?_, h.names, ?_, h.small, ?_, h.sortN, ?_, ?_, ?_, ?_, ?_, h.lensO, ?_⟩
  · rw [hnm]; exact h.iown.keep keep (h.iown.apart2 h.aown (by decide))
  · rw [hob, List.length_set]; exact hv
  · rw [hnm]; exact h.clients
  · rw [hnm]; exact h.few
  · rw [hnm]; exact h.sortI
  · rw [hob]
    intro c hc
    rcases List.mem_or_eq_of_mem_set hc with h1 | h1
    · exact h.ansN c h1
    · rw [h1]; exact hb
  · intro c hc
    exact ((h.envO c hc).keep keep hF).more (fun y hy => List.mem_append.2 (.inl hy))
  · rw [hob]
    intro c hc
    rcases List.mem_or_eq_of_mem_set hc with h1 | h1
    · exact ((h.envA c h1).keep keep hF).more (fun y hy => List.mem_append.2 (.inl hy))
    · rw [h1]; exact he.more (fun y hy => List.mem_append.2 (.inr hy))
  · intro y hy
    rcases List.mem_append.1 hy with hy | hy
    · obtain ⟨cs, hc⟩ := h.blocks y hy
      exact ⟨cs, keep.row hc (hF y hy)⟩
    · exact hG y hy
  · rw [hob]
    intro c hc
    rcases List.mem_or_eq_of_mem_set hc with h1 | h1
    · exact h.lensA c h1
    · rw [h1]; exact hel
set_option maxHeartbeats 8000000 in
theorem putI_yes (p : Nat) (s : TS) (b : AB) (G : List Nat) (hb : b.ans.name.length = 32) (hc0 : 0 ≤ b.ans.client ∧ b.ans.client ≤ 1000000) (w : World) (h : isT w p s) (hm : hitI s b.ans.client = true) (hel : b.ans.env.length ≤ 1000) (he : bytesV w G b.ev b.ans.env) (hG : u8rows w G) :
    Calls Tryd.prog 30 #[.pointer (some ⟨p, 4, none⟩), .int .i64 b.ans.client, .agg (abL b).toArray] w (putPostA p s b G w) := by
  obtain ⟨X, hX⟩ : ∃ X, abL b = X := ⟨_, rfl⟩
  have hXl : X.length = 38 := by rw [← hX]; exact anL_len hb
  have hX1 : ∀ v ∈ X, v.oneCell' = true := by rw [← hX]; exact anL_one b.ans he.one
  rw [hX]
  obtain ⟨w2, hw2⟩ : ∃ w2, w.alloc (.cells X.toArray 40) = w2 := ⟨_, rfl⟩
  have r2 : rowAt w2 w.heap.size 40 X.toArray := hw2 ▸ rowAt.new _ _ _
  have k12 : keepBut [] w w2 := hw2 ▸ (keepBut.refl [] w).alloc _
  have HK := Lib.hid k12
  have HR2 := Lib.hid r2
  have HW2 := Lib.hid hw2
  have HT := Lib.hid (h.over k12)
  have H0 := Lib.hid (And.intro h (And.intro he hG))
  have HN := Lib.hid (And.intro hb hc0)
  have HX := Lib.hid (And.intro hXl (And.intro hX1 hX))
  have HL := Lib.hid (show posI s b.ans.client ≤ s.keys.length ∧ posI s b.ans.client ≤ s.answers.length from ⟨posOf_le _ _, by have := posOf_le (fun n => n - b.ans.client) s.keys; simpa [TS.keys, posI] using this⟩)
  have HM := Lib.hid hm
  obtain ⟨g, c, hgv, _, _⟩ := (h.over k12).aown.setAt abL flatA rfl (fun _ _ => rfl) (by omega) rfl (fun a ha => anL_len (h.ansN a ha)) (b := b) (i := posI s b.ans.client) (anL_len hb) (by obtain ⟨b0, hb0, _⟩ := hitI_at hm; exact (List.getElem?_eq_some_iff.1 hb0).1)
  have HG := Lib.hid hgv
  have HI := Lib.hid (show posI s b.ans.client < s.answers.length by obtain ⟨b0, hb0, _⟩ := hitI_at hm; exact (List.getElem?_eq_some_iff.1 hb0).1)
  have HAN := Lib.hid h.ansN
  clear hgv hw2 r2 k12 h hm hb hc0 he hG hXl hX1 hX
  generalize hcl : b.ans.client = cl at *
  have HCL := Lib.hid hcl
  clear hcl
  go_enter Tryd.func30, Tryd.ntmps30
  go_upto_region 2 with (first
    | (with_reducible refine wpList_box_to _ _ rfl 40 (.tmp 2) rfl _ rfl HW2.out ?_)
    | (go_at_call 51; refine (findI_any p s cl HN.out.2 _ HT.out).mono ?_; rintro e w3 ⟨rfl, kk⟩; rw [HM.out]; have K3 := Lib.hid kk; clear kk))
  have HT3 := Lib.hid (HT.out.over K3.out)
  have R32 := Lib.hid (K3.out.row HR2.out (by simp))
  have HP := Lib.hid (show p ∉ homes s.iv ∧ p ∉ homes s.av from ⟨HT3.out.iown.apart HT3.out.row (by decide), HT3.out.aown.apart HT3.out.row (by decide)⟩)
  have HQ := Lib.hid (show w.heap.size ∉ p :: homes s.iv ∧ w.heap.size ∉ p :: homes s.av ∧ w.heap.size ∉ homes s.av from by
    have l1 := H0.out.1.row.lt
    have l2 := H0.out.1.iown.lt
    have l4 := H0.out.1.aown.lt
    exact ⟨by simp only [List.mem_cons, not_or]; exact ⟨by omega, fun hc => by have := l2 _ hc; omega⟩, by simp only [List.mem_cons, not_or]; exact ⟨by omega, fun hc => by have := l4 _ hc; omega⟩, fun hc => by have := l4 _ hc; omega⟩)
  obtain ⟨g', c', hg', ht', ho'⟩ := (HT3.out.over ((keepBut.refl [] w3).drew)).aown.setAt abL flatA rfl (fun _ _ => rfl) (by omega) rfl (fun a ha => anL_len (HAN.out a ha)) (b := b) (i := posI s cl) (anL_len HN.out.1) HI.out
  have e1 : Value.slice (some ⟨g, 0, none⟩) s.answers.length c = .slice (some ⟨g', 0, none⟩) s.answers.length c' := HG.out.symm.trans hg'
  injection e1 with e1 _ e3
  injection e1 with e1
  injection e1 with e1
  subst e1
  subst e3
  rw [HX.out.2.2] at ho'
  have HO := Lib.hid (And.intro ht' ho')
  have HGM := Lib.hid (show g ∈ homes s.av by rw [HG.out]; simp [homes_some])
  clear hg' ht' ho'
  obtain ⟨i, hi⟩ : ∃ i, posI s cl = i := ⟨_, rfl⟩
  rw [hi] at HL HI HO ⊢
  have HE := Lib.hid hi
  clear hi
  go_upto_region 3 with fail
  have b1 : (i : Int) < (s.answers.length : Int) := by have := HI.out; omega
  have KS : keepBut (homes s.av) w3 w3.drew := (keepBut.refl _ w3).drew
  have HC : Hid (∀ W, keepBut (homes s.av) w3 W → W.cell? ⟨p, 6, none⟩ = some (.slice (some ⟨g, 0, none⟩) s.answers.length c) ∧ W.rangeAt w.heap.size 0 X) := Lib.hid (fun W k =>
    ⟨((k.row HT3.out.row HP.out.2).cell 6).trans (congrArg some HG.out), (k.row R32.out HQ.out.2.2).rangeAll⟩)
  refine wp_region_held_drew (S := fun W => keepBut (homes s.av) w3 W) (by kernel_rfl) KS (fun _ => ?_)
  refine wpAnyH_take (i := 0) (oi := ⟨_, _, _, _, _, _⟩) (v := ?_) rfl (by kernel_rfl) (by kernel_rfl) (by kernel_rfl) (fun _ _ _ h => h) (Or.inl ⟨by rfl, ?_⟩) KS ?_
  rotate_left
  · intro w' hSw; (go_simp; try with_reducible rfl)
  try simp only [Act.put, List.setIfInBounds_toArray, List.set_cons_zero, List.set_cons_succ]
  refine wpAnyH_take (i := 1) (oi := ⟨_, _, _, _, _, _⟩) (v := ?_) rfl (by kernel_rfl) (by kernel_rfl) (by kernel_rfl) (fun _ _ _ h => h) (Or.inl ⟨by rfl, ?_⟩) KS ?_
  rotate_left
  · intro w' hSw; (go_simp; try with_reducible rfl)
  try simp only [Act.put, List.setIfInBounds_toArray, List.set_cons_zero, List.set_cons_succ]
  refine wpAnyH_take (i := 2) (oi := ⟨_, _, _, _, _, _⟩) (v := ?_) rfl (by kernel_rfl) (by kernel_rfl) (by kernel_rfl) (fun _ _ _ h => h) (Or.inl ⟨by rfl, ?_⟩) KS ?_
  rotate_left
  · intro w' hSw; (go_simp; try with_reducible rfl)
  try simp only [Act.put, List.setIfInBounds_toArray, List.set_cons_zero, List.set_cons_succ]
  refine wpAnyH_take (i := 3) (oi := ⟨_, _, _, _, _, _⟩) (v := ?_) rfl (by kernel_rfl) (by kernel_rfl) (by kernel_rfl) (fun _ _ _ h => h) (Or.inl ⟨by rfl, ?_⟩) KS ?_
  rotate_left
  · intro w' hSw; have hy := (HC.out w' hSw).1; (go_simp; try with_reducible rfl)
  try simp only [Act.put, List.setIfInBounds_toArray, List.set_cons_zero, List.set_cons_succ]
  refine wpAnyH_take (i := 4) (oi := ⟨_, _, _, _, _, _⟩) (v := ?_) rfl (by kernel_rfl) (by kernel_rfl) (by kernel_rfl) (fun _ _ _ h => h) (Or.inl ⟨by rfl, ?_⟩) KS ?_
  rotate_left
  · intro w' hSw; (go_simp; try with_reducible rfl)
  try simp only [Act.put, List.setIfInBounds_toArray, List.set_cons_zero, List.set_cons_succ]
  refine wpAnyH_take (i := 5) (oi := ⟨_, _, _, _, _, _⟩) (v := .agg (X).toArray) rfl (by kernel_rfl) (by kernel_rfl) (by kernel_rfl) (fun _ _ _ h => h) (yieldsIf_mid 40 (.tmp 5) rfl w.heap.size 0 rfl (X) _ (fun w' hSw => (HC.out w' hSw).2) Tryd.underlying40 rfl (by rw [HX.out.1]; exact info_an) ?_) KS ?_
  · rfl
  try simp only [Act.put, List.setIfInBounds_toArray, List.set_cons_zero, List.set_cons_succ]
  refine wpAnyH_take (i := 6) (oi := ⟨_, _, _, _, _, _⟩) (v := ?_) rfl (by kernel_rfl) (by kernel_rfl) (by kernel_rfl) (fun _ _ _ h => h) (Or.inl ⟨by rfl, ?_⟩) KS ?_
  rotate_left
  · intro w' hSw; (go_simp; try with_reducible rfl)
  try simp only [Act.put, List.setIfInBounds_toArray, List.set_cons_zero, List.set_cons_succ]
  refine wpAnyH_ready (rs := [7]) (by kernel_rfl) (by simp) ?_
  refine AllReadyH.cons (o := ⟨_, _, _, _, _, _⟩) rfl (fun K hK => ?_) AllReadyH.nil
  refine step_store_mid rfl 40 (.tmp 21) (.tmp 20) rfl g (i * 38) X.toArray rfl rfl (by rw [List.size_toArray, HX.out.1]; exact HO.out.1) (by rw [List.size_toArray, HX.out.1]; exact info_an) (all_oneCell_toArray HX.out.2.1) ?_
  refine hK.out _ _ (KS.setL (.inl HGM.out)) (fun _ => ?_)
  clear hK K
  try simp only [Act.put, List.setIfInBounds_toArray, List.set_cons_zero, List.set_cons_succ]
  refine wpAnyH_done (by kernel_rfl) ?_ _
  go_wp2_with fail
  go_end0
  have k9 : keepBut (homes s.av) w3 (w3.drew.setCells g (i * 38) X) := KS.setL (.inl HGM.out)
  have kA : keepBut (homes s.av) w (w3.drew.setCells g (i * 38) X) := ((HK.out.then K3.out (by simp)).more (by simp)).then k9 (fun x hx => .inl hx)
  have hGn : ∀ y ∈ G, y ∉ homes s.av := fun y hy => by
    obtain ⟨cs, hc⟩ := H0.out.2.2 y hy
    exact H0.out.1.aown.apart hc (by decide)
  exact ⟨s.iv, s.av, rfl, isT.setEndA H0.out.1 (by rw [HCL.out]; exact HM.out) HN.out.1 (by rw [HCL.out, HE.out]; exact HO.out.2) kA hel (H0.out.2.1.keep kA hGn) (fun y hy => by obtain ⟨cs, hc⟩ := H0.out.2.2 y hy; exact ⟨cs, kA.row hc (hGn y hy)⟩), kA.more (fun x hx => List.mem_cons_of_mem _ (List.mem_append.2 (.inr hx))), fun x hx => .inl hx, fun x hx => .inl hx⟩
set_option maxHeartbeats 8000000 in
theorem putI_no (p : Nat) (s : TS) (b : AB) (G : List Nat) (hb : b.ans.name.length = 32) (hc0 : 0 ≤ b.ans.client ∧ b.ans.client ≤ 1000000) (w : World) (h : isT w p s) (hm : hitI s b.ans.client = false) (hn : s.keys.length < 100) (hel : b.ans.env.length ≤ 1000) (he : bytesV w G b.ev b.ans.env) (hG : u8rows w G) :
    Calls Tryd.prog 30 #[.pointer (some ⟨p, 4, none⟩), .int .i64 b.ans.client, .agg (abL b).toArray] w (putPostA p s b G w) := by
  obtain ⟨X, hX⟩ : ∃ X, abL b = X := ⟨_, rfl⟩
  have hXl : X.length = 38 := by rw [← hX]; exact anL_len hb
  have hX1 : ∀ v ∈ X, v.oneCell' = true := by rw [← hX]; exact anL_one b.ans he.one
  rw [hX]
  obtain ⟨w2, hw2⟩ : ∃ w2, w.alloc (.cells X.toArray 40) = w2 := ⟨_, rfl⟩
  have r2 : rowAt w2 w.heap.size 40 X.toArray := hw2 ▸ rowAt.new _ _ _
  have k12 : keepBut [] w w2 := hw2 ▸ (keepBut.refl [] w).alloc _
  have HK := Lib.hid k12
  have HR2 := Lib.hid r2
  have HW2 := Lib.hid hw2
  have HT := Lib.hid (h.over k12)
  have H0 := Lib.hid (And.intro h (And.intro he hG))
  have HN := Lib.hid (And.intro hb hc0)
  have HX := Lib.hid (And.intro hXl (And.intro hX1 hX))
  have HL := Lib.hid (show posI s b.ans.client ≤ s.keys.length ∧ posI s b.ans.client ≤ s.answers.length from ⟨posOf_le _ _, by have := posOf_le (fun n => n - b.ans.client) s.keys; simpa [TS.keys, posI] using this⟩)
  have HM := Lib.hid hm
  have HNN := Lib.hid hn
  obtain ⟨iO, zO, hi, hs, _, hz, hzs⟩ := infoA1
  have HIO := Lib.hid (And.intro hi (And.intro hs hz))
  clear hi hs hz hzs hn hw2 r2 k12 h hm hb hc0 he hG hXl hX1 hX
  generalize hcl : b.ans.client = cl at *
  have HCL := Lib.hid hcl
  clear hcl
  go_enter Tryd.func30, Tryd.ntmps30
  go_upto_region 2 with (first
    | (with_reducible refine wpList_box_to _ _ rfl 40 (.tmp 2) rfl _ rfl HW2.out ?_)
    | (go_at_call 51; refine (findI_any p s cl HN.out.2 _ HT.out).mono ?_; rintro e w3 ⟨rfl, kk⟩; rw [HM.out]; have K3 := Lib.hid kk; clear kk))
  have HT3 := Lib.hid (HT.out.over K3.out)
  have R32 := Lib.hid (K3.out.row HR2.out (by simp))
  have HP := Lib.hid (show p ∉ homes s.iv ∧ p ∉ homes s.av from ⟨HT3.out.iown.apart HT3.out.row (by decide), HT3.out.aown.apart HT3.out.row (by decide)⟩)
  have HQ := Lib.hid (show w.heap.size ∉ p :: homes s.iv ∧ w.heap.size ∉ p :: homes s.av ∧ w.heap.size ∉ homes s.av from by
    have l1 := H0.out.1.row.lt
    have l2 := H0.out.1.iown.lt
    have l4 := H0.out.1.aown.lt
    exact ⟨by simp only [List.mem_cons, not_or]; exact ⟨by omega, fun hc => by have := l2 _ hc; omega⟩, by simp only [List.mem_cons, not_or]; exact ⟨by omega, fun hc => by have := l4 _ hc; omega⟩, fun hc => by have := l4 _ hc; omega⟩)
  obtain ⟨i, hi⟩ : ∃ i, posI s cl = i := ⟨_, rfl⟩
  rw [hi] at HL ⊢
  have HE := Lib.hid hi
  clear hi
  have hy : w3.cell? ⟨p, 5, none⟩ = some s.iv := HT3.out.row.cell 5
  go_upto_region 5 with (go_at_call 56; refine (insI_any s.iv s.keys.length i _ (s.keys.map (Value.int .i64)) [.int .i64 cl] _ (HT3.out.iown.keep ((keepBut.refl [] w3).alloc (.cells #[.int .i64 cl] 3)) (by simp)) HL.out.1 (rowAt.new w3 3 _) (fun hc => Nat.lt_irrefl _ (HT3.out.iown.lt _ hc)) rfl (by intro u hu; simp at hu; subst hu; rfl) ints_one (by have := HNN.out; omega)).mono ?_; rintro e w5 ⟨v5, rfl, o5, k5, n5⟩; obtain ⟨A5, c5, rfl, _⟩ := id o5.form; have R5 := Lib.hid (k5.row (((keepBut.refl [] w3).alloc (.cells #[.int .i64 cl] 3)).row HT3.out.row (by simp)) HP.out.1); have hy3 : w5.cell? ⟨p, 5, none⟩ = some s.iv := R5.out.cell 5; have hf3 := R5.out.free 5; have K5 := Lib.hid ((((keepBut.refl (p :: homes s.iv) w3).alloc (.cells #[.int .i64 cl] 3))).then (k5.more (fun x hx => List.mem_cons_of_mem _ hx)) (fun x hx => .inl hx)); have O5 := Lib.hid (And.intro o5 n5); clear o5 k5 n5)
  have k6 : keepBut (p :: homes s.iv) w3 (w5.setCell ⟨p, 5, none⟩ (.slice A5 (s.keys.length + 1) c5)) := K5.out.setCell _ _ (.inl (by simp))
  have r6 := R5.out.set 5 (.slice A5 (s.keys.length + 1) c5)
  have o6 := O5.out.1.keep ((keepBut.refl [p] w5).setCell ⟨p, 5, none⟩ (.slice A5 (s.keys.length + 1) c5) (.inl (by simp))) (fun x hx => by simp only [List.mem_singleton]; rintro rfl; exact O5.out.1.apart R5.out (by decide) hx)
  generalize w5.setCell ⟨p, 5, none⟩ (.slice A5 (s.keys.length + 1) c5) = w6 at *
  have K6 := Lib.hid k6
  have O6 := Lib.hid o6
  have V6 := Lib.hid (HT3.out.aown.keep k6 (fun x hx => by simp only [List.mem_cons, not_or]; exact ⟨fun e => HP.out.2 (e ▸ hx), HT3.out.aown.apart2 HT3.out.iown (by decide) x hx⟩))
  have R62 := Lib.hid (k6.row R32.out HQ.out.1)
  clear k6 o6 hy hy3 hf3
  have KS : keepBut (p :: homes s.av) w6 w6.drew := (keepBut.refl _ w6).drew
  have HC : Hid (∀ W, keepBut (p :: homes s.av) w6 W → W.rangeAt w.heap.size 0 X) := Lib.hid (fun W k => (k.row R62.out (by exact HQ.out.2.1)).rangeAll)
  have hy : w6.drew.cell? ⟨p, 6, none⟩ = some s.av := r6.cell 6
  refine wp_region_held_drew (S := fun W => keepBut (p :: homes s.av) w6 W) (by kernel_rfl) KS (fun _ => ?_)
  refine wpAnyH_take (i := 0) (oi := ⟨_, _, _, _, _, _⟩) (v := ?_) rfl (by kernel_rfl) (by kernel_rfl) (by kernel_rfl) (fun _ _ _ h => h) (Or.inl ⟨by rfl, ?_⟩) KS ?_
  rotate_left
  · intro w' hSw; (go_simp; try with_reducible rfl)
  try simp only [Act.put, List.setIfInBounds_toArray, List.set_cons_zero, List.set_cons_succ]
  refine wpAnyH_take (i := 1) (oi := ⟨_, _, _, _, _, _⟩) (v := ?_) rfl (by kernel_rfl) (by kernel_rfl) (by kernel_rfl) (fun _ _ _ h => h) (Or.inl ⟨by rfl, ?_⟩) KS ?_
  rotate_left
  · intro w' hSw; (go_simp; try with_reducible rfl)
  try simp only [Act.put, List.setIfInBounds_toArray, List.set_cons_zero, List.set_cons_succ]
  refine wpAnyH_take (i := 2) (oi := ⟨_, _, _, _, _, _⟩) (v := ?_) rfl (by kernel_rfl) (by kernel_rfl) (by kernel_rfl) (fun _ _ _ h => h) (Or.inl ⟨by rfl, ?_⟩) KS ?_
  rotate_left
  · intro w' hSw; (go_simp; try with_reducible rfl)
  try simp only [Act.put, List.setIfInBounds_toArray, List.set_cons_zero, List.set_cons_succ]
  refine wpAnyH_take (i := 3) (oi := ⟨_, _, _, _, _, _⟩) (v := ?_) rfl (by kernel_rfl) (by kernel_rfl) (by kernel_rfl) (fun _ _ _ h => h) (Or.inl ⟨by rfl, ?_⟩) KS ?_
  rotate_left
  · intro w' hSw; (go_simp; try with_reducible rfl)
  try simp only [Act.put, List.setIfInBounds_toArray, List.set_cons_zero, List.set_cons_succ]
  refine wpAnyH_take (i := 5) (oi := ⟨_, _, _, _, _, _⟩) (v := ?_) rfl (by kernel_rfl) (by kernel_rfl) (by kernel_rfl) (fun _ _ _ h => h) (Or.inl ⟨by rfl, ?_⟩) KS ?_
  rotate_left
  · intro w' hSw; (go_simp; try with_reducible rfl)
  try simp only [Act.put, List.setIfInBounds_toArray, List.set_cons_zero, List.set_cons_succ]
  refine wpAnyH_take (i := 6) (oi := ⟨_, _, _, _, _, _⟩) (v := .agg (X).toArray) rfl (by kernel_rfl) (by kernel_rfl) (by kernel_rfl) (fun _ _ _ h => h) (yieldsIf_mid 40 (.tmp 5) rfl w.heap.size 0 rfl (X) _ (fun w' hSw => HC.out w' hSw) Tryd.underlying40 rfl (by rw [HX.out.1]; exact info_an) ?_) KS ?_
  · rfl
  try simp only [Act.put, List.setIfInBounds_toArray, List.set_cons_zero, List.set_cons_succ]
  refine wpAnyH_ready (rs := [4, 7]) (by kernel_rfl) (by simp) ?_
  refine AllReadyH.cons (o := ⟨_, _, _, _, _, _⟩) rfl (fun K hK => ?_) (AllReadyH.cons (o := ⟨_, _, _, _, _, _⟩) rfl (fun K hK => ?_) AllReadyH.nil)
  go_simp
  refine hK.out _ _ KS (fun _ => ?_)
  clear hK K
  try simp only [Act.put, List.setIfInBounds_toArray, List.set_cons_zero, List.set_cons_succ]
  refine wpAnyH_ready (rs := [7]) (by kernel_rfl) (by simp) ?_
  refine AllReadyH.cons (o := ⟨_, _, _, _, _, _⟩) rfl (fun K hK => ?_) AllReadyH.nil
  refine step_build_one _ rfl 63 (.tmp 39) rfl 40 iO zO X rfl underA HIO.out.1 HIO.out.2.2 (by rw [HIO.out.2.1, HX.out.1]) (by rw [HX.out.1]; omega) (by rw [HX.out.1]; omega) ?_
  refine hK.out _ _ (KS.alloc (.cells (X).toArray 40)) (fun _ => ?_)
  clear hK K
  try simp only [Act.put, List.setIfInBounds_toArray, List.set_cons_zero, List.set_cons_succ]
  rotate_left
  refine step_build_one _ rfl 63 (.tmp 39) rfl 40 iO zO X rfl underA HIO.out.1 HIO.out.2.2 (by rw [HIO.out.2.1, HX.out.1]) (by rw [HX.out.1]; omega) (by rw [HX.out.1]; omega) ?_
  refine hK.out _ _ (KS.alloc (.cells (X).toArray 40)) (fun _ => ?_)
  clear hK K
  try simp only [Act.put, List.setIfInBounds_toArray, List.set_cons_zero, List.set_cons_succ]
  have hy2 : (w6.alloc (.cells (X).toArray 40)).cell? ⟨p, 6, none⟩ = some s.av := (((keepBut.refl [] w6).alloc (.cells (X).toArray 40)).row r6 (by simp)).cell 6
  refine wpAnyH_ready (rs := [4]) (by kernel_rfl) (by simp) ?_
  refine AllReadyH.cons (o := ⟨_, _, _, _, _, _⟩) rfl (fun K hK => ?_) AllReadyH.nil
  go_simp
  refine hK.out _ _ (KS.alloc (.cells (X).toArray 40)) (fun _ => ?_)
  clear hK K
  try simp only [Act.put, List.setIfInBounds_toArray, List.set_cons_zero, List.set_cons_succ]
  clear hy2
  all_goals (
    refine wpAnyH_ready (rs := [8]) (by kernel_rfl) (by simp) ?_
    refine AllReadyH.cons (o := ⟨_, _, _, _, _, _⟩) rfl (fun K hK => ?_) AllReadyH.nil
    go_simp
    refine (insA_any s.av s.answers.length i _ (flatA s.answers) X _ (V6.out.keep ((keepBut.refl [] w6).drew.alloc (.cells (X).toArray 40)) (by simp)) HL.out.2 (rowAt.new w6.drew 40 _) (fun hc => Nat.lt_irrefl _ (V6.out.lt _ hc)) HX.out.1 HX.out.2.1 (flatA_one HT.out.envA) (by have := HNN.out; simp only [TS.keys, List.length_map] at this; omega)).mono ?_
    rintro e w8 ⟨v8, rfl, o8, k8, n8⟩
    obtain ⟨A8, c8, rfl, _⟩ := id o8.form
    have K8 := Lib.hid ((KS.alloc (.cells (X).toArray 40)).then (k8.more (fun x hx => List.mem_cons_of_mem _ hx)) (fun x hx => .inl hx))
    have O8 := Lib.hid (And.intro o8 n8)
    have R8 := Lib.hid (k8.row (((keepBut.refl [] w6).drew.alloc (.cells (X).toArray 40)).row r6 (by simp)) HP.out.2)
    clear o8 k8 n8
    go_wp2_with fail
    refine hK.out _ _ K8.out (fun _ => ?_)
    clear hK K
    try simp only [Act.put, List.setIfInBounds_toArray, List.set_cons_zero, List.set_cons_succ]
    refine wpAnyH_take (i := 9) (oi := ⟨_, _, _, _, _, _⟩) (v := ?_) rfl (by kernel_rfl) (by kernel_rfl) (by kernel_rfl) (fun _ _ _ h => h) (Or.inl ⟨by rfl, ?_⟩) K8.out ?_
    rotate_left
    · intro w' hSw; (go_simp; try with_reducible rfl)
    try simp only [Act.put, List.setIfInBounds_toArray, List.set_cons_zero, List.set_cons_succ]
    refine wpAnyH_take (i := 10) (oi := ⟨_, _, _, _, _, _⟩) (v := ?_) rfl (by kernel_rfl) (by kernel_rfl) (by kernel_rfl) (fun _ _ _ h => h) (Or.inl ⟨by rfl, ?_⟩) K8.out ?_
    rotate_left
    · intro w' hSw; (go_simp; try with_reducible rfl)
    try simp only [Act.put, List.setIfInBounds_toArray, List.set_cons_zero, List.set_cons_succ]
    have hy3 : w8.cell? ⟨p, 6, none⟩ = some s.av := R8.out.cell 6
    have hf3 := R8.out.free 6
    refine wpAnyH_ready (rs := [11]) (by kernel_rfl) (by simp) ?_
    refine AllReadyH.cons (o := ⟨_, _, _, _, _, _⟩) rfl (fun K hK => ?_) AllReadyH.nil
    go_simp
    refine hK.out _ _ (K8.out.setCell ⟨p, 6, none⟩ _ (.inl (by simp))) (fun _ => ?_)
    clear hK K
    try simp only [Act.put, List.setIfInBounds_toArray, List.set_cons_zero, List.set_cons_succ]
    refine wpAnyH_done (by kernel_rfl) ?_ _
    clear hy hy3 hf3
    go_wp2_with fail
    go_end0
    have K9 : keepBut (p :: homes s.av) w6 (w8.setCell ⟨p, 6, none⟩ (.slice A8 (s.answers.length + 1) c8)) := K8.out.setCell _ _ (.inl (by simp))
    have r9 := R8.out.set 6 (.slice A8 (s.answers.length + 1) c8)
    have o9 := O8.out.1.keep ((keepBut.refl [p] w8).setCell ⟨p, 6, none⟩ (.slice A8 (s.answers.length + 1) c8) (.inl (by simp))) (fun x hx => by simp only [List.mem_singleton]; rintro rfl; exact O8.out.1.apart R8.out (by decide) hx)
    generalize w8.setCell ⟨p, 6, none⟩ (.slice A8 (s.answers.length + 1) c8) = w9 at *
    have kA : keepBut (p :: (homes s.iv ++ homes s.av)) w w9 := (((HK.out.then K3.out (by simp)).more (by simp)).then K6.out (fun x hx => by left; simp only [List.mem_cons, List.mem_append] at hx ⊢; exact hx.imp id .inl)).then K9 (fun x hx => by left; simp only [List.mem_cons, List.mem_append] at hx ⊢; exact hx.imp id .inr)
    have s13 := (HK.out.then K3.out (by simp)).size
    have s36 := K6.out.size
    have hGn : ∀ y ∈ G, y ∉ p :: (homes s.iv ++ homes s.av) := fun y hy => by
      obtain ⟨cs, hc⟩ := H0.out.2.2 y hy
      simp only [List.mem_cons, List.mem_append, not_or]
      exact ⟨hc.apart H0.out.1.row (by decide), H0.out.1.iown.apart hc (by decide), H0.out.1.aown.apart hc (by decide)⟩
    have o7 := O6.out.keep K9 (fun x hx => by
      simp only [List.mem_cons, not_or]
      exact ⟨fun e => O6.out.apart r6 (by decide) (e ▸ hx), O6.out.apart2 V6.out (by decide) x hx⟩)
    refine ⟨_, _, rfl, isT.putEndA H0.out.1 (by rw [HCL.out]; exact HM.out) HN.out.1 (by rw [HCL.out]; exact HN.out.2) HNN.out r9 (by rw [HCL.out, HE.out]; exact o7) (by rw [HCL.out, HE.out, HX.out.2.2]; exact o9) kA hel (H0.out.2.1.keep kA hGn) (fun y hy => ?_), kA, fun x hx => (O5.out.2 x hx).imp id (fun hh => ?_), fun x hx => (O8.out.2 x hx).imp id (fun hh => ?_)⟩
    · obtain ⟨cs, hc⟩ := H0.out.2.2 y hy
      exact ⟨cs, kA.row hc (hGn y hy)⟩
    · simp only [World.size_alloc] at hh; omega
    · simp only [World.size_alloc] at hh; have : w6.drew.heap.size = w6.heap.size := rfl; omega)
end Go.Proofs.YtmlmhnhilemjhaaDoor
