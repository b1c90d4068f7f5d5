/-
  TABLE, 13: put of an object that is there.
-/
import Derived.Test.YtmlmhnhilemjhaaDoorTB12
namespace Go.Proofs.YtmlmhnhilemjhaaDoor
open Go.RowKit
set_option linter.unusedVariables false
set_option maxRecDepth 100000
set_option linter.unusedSimpArgs false

theorem flat_get {α : Type} (f : α → List Value) (sz : Nat) (F : List α → List Value) (h0 : F [] = []) (h1 : ∀ a r, F (a :: r) = f a ++ F r) (hs : 0 < sz) :
    ∀ l : List α, (∀ a ∈ l, (f a).length = sz) → ∀ j, (F l)[j]? = (l[j / sz]?).bind fun a => (f a)[j % sz]?
  | [], _, j => by rw [h0]; simp
  | a :: r, hl, j => by
    have ha := hl a (by simp)
    rw [h1]
    by_cases hj : j < sz
    · rw [List.getElem?_append_left (by omega), Nat.div_eq_of_lt hj, Nat.mod_eq_of_lt hj]
      rfl
    · have e : j = (j - sz) + sz := by omega
      rw [List.getElem?_append_right (by omega), ha, flat_get f sz F h0 h1 hs r (fun b hb => hl b (by simp [hb])) (j - sz)]
      have e1 : j / sz = (j - sz) / sz + 1 := by
        conv => lhs; rw [e, Nat.add_div_right _ hs]
      have e2 : j % sz = (j - sz) % sz := by
        conv => lhs; rw [e, Nat.add_mod_right]
      rw [e1, e2, List.getElem?_cons_succ]
theorem flat_set {α : Type} (f : α → List Value) (sz : Nat) (F : List α → List Value) (h0 : F [] = []) (h1 : ∀ a r, F (a :: r) = f a ++ F r) (hs : 0 < sz)
    {l : List α} (hl : ∀ a ∈ l, (f a).length = sz) {cur : Array Value} {i : Nat} {b : α} (hb : (f b).length = sz) (hi : i < l.length) (hc : l.length * sz ≤ cur.size) (ht : cur.toList.take (l.length * sz) = F l) :
    (putL cur (i * sz) (f b)).toList.take (l.length * sz) = F (l.set i b) := by
  have hl2 : ∀ a ∈ l.set i b, (f a).length = sz := fun a ha => by
    rcases List.mem_or_eq_of_mem_set ha with h | h
    · exact hl a h
    · rw [h]; exact hb
  have hib : i * sz + sz ≤ l.length * sz := by
    have : (i + 1) * sz ≤ l.length * sz := Nat.mul_le_mul_right _ hi
    rw [Nat.add_mul] at this; omega
  refine List.ext_getElem? fun j => ?_
  rw [flat_get f sz F h0 h1 hs _ hl2 j, List.getElem?_take]
  by_cases hj : j < l.length * sz
  · rw [if_pos hj]
    have hg := putL_get (f b) cur (i * sz) j (by rw [hb]; omega)
    rw [Array.getElem?_toList, hg, hb]
    by_cases hin : i * sz ≤ j ∧ j < i * sz + sz
    · rw [if_pos hin]
      have e1 : j / sz = i := by
        apply Nat.div_eq_of_lt_le
        · exact hin.1
        · rw [Nat.add_mul]; omega
      have e2 : j % sz = j - i * sz := by
        have := Nat.div_add_mod j sz
        rw [e1, Nat.mul_comm] at this
        omega
      rw [e1, e2, List.getElem?_set_self hi]
      rfl
    · rw [if_neg hin]
      have hne : i ≠ j / sz := fun e => hin ⟨by rw [e]; exact Nat.div_mul_le_self j sz, by have h3 := Nat.div_add_mod j sz; have h4 := Nat.mod_lt j hs; rw [← e, Nat.mul_comm] at h3; omega⟩
      rw [List.getElem?_set_ne hne, ← flat_get f sz F h0 h1 hs l hl j, ← ht, List.getElem?_take, if_pos hj, Array.getElem?_toList]
  · rw [if_neg hj]
    have : ¬ j / sz < (l.set i b).length := by
      rw [List.length_set]
      exact Nat.not_lt.2 ((Nat.le_div_iff_mul_le hs).2 (Nat.not_lt.1 hj))
    rw [List.getElem?_eq_none (Nat.not_lt.1 this)]
    rfl

theorem owns.setAt {α : Type} {w : World} {e : TypeId} {sz n : Nat} {v : Value} {l : List α} (f : α → List Value) (F : List α → List Value) (h0 : F [] = []) (h1 : ∀ a r, F (a :: r) = f a ++ F r) (hs : 0 < sz) (hn : l.length = n)
    (hl : ∀ a ∈ l, (f a).length = sz) (h : owns w e sz v n (F l)) {i : Nat} {b : α} (hb : (f b).length = sz) (hi : i < l.length) :
    ∃ g c, v = .slice (some ⟨g, 0, none⟩) n c ∧ w.there g (i * sz) sz ∧ owns (w.setCells g (i * sz) (f b)) e sz v n (F (l.set i b)) := by
  subst hn
  rcases h.2 with ⟨_, h2⟩ | ⟨g, cap, cur, rfl, hr, hc, hm, hcs, ht⟩
  · omega
  · have hle : l.length * sz ≤ cur.size := by rw [hcs]; exact Nat.mul_le_mul_right _ hc
    have hib : i * sz + sz ≤ cur.size := by
      have : (i + 1) * sz ≤ l.length * sz := Nat.mul_le_mul_right _ hi
      rw [Nat.add_mul] at this; omega
    have hset := flat_set f sz F h0 h1 hs hl hb hi hle ht
    refine ⟨g, cap, rfl, hr.there hib, ?_, .inr ⟨g, cap, _, rfl, hr.setL, hc, hm, by rw [putL_size]; exact hcs, hset⟩⟩
    have hz : (putL cur (i * sz) (f b)).toList.length = cur.size := by rw [Array.length_toList, putL_size]
    rw [← hset, List.length_take, hz]
    omega
theorem isT.setEnd {w W : World} {p : Nat} {s : TS} {b : OB} {G : List Nat} (h : isT w p s) (hm : hitN s b.name = true)
    (hv : owns W 72 2 s.vv s.objs.length (flatO (s.objs.set (posN s b.name) b)))
    (keep : keepBut (homes s.vv) w W) (hel : b.env.length ≤ 1000) (he : bytesV W G b.ev b.env) (hG : u8rows W G) : isT W p (s.withO b s.kv s.vv G) := by
  have hp : putOb s b = s.objs.set (posN s b.name) b := by unfold putOb; rw [if_pos hm]
  obtain ⟨b0, hb0, hb1⟩ := hitN_at hm
  have hnm : (s.withO b s.kv s.vv G).names = s.names := by
    show (putOb s b).map (·.name) = _
    rw [hp, List.map_set]
    unfold TS.names
    apply List.ext_getElem? ; intro j
    rw [List.getElem?_set]
    split
    · rename_i hj
      subst hj
      rw [List.getElem?_map, hb0]
      simp [hb1]
      exact (List.getElem?_eq_some_iff.1 hb0).1
    · rfl
  have hob : (s.withO b s.kv s.vv G).objs = s.objs.set (posN s b.name) b := hp
  have ap : ∀ {g : Nat} {t : TypeId} {cs : Array Value}, rowAt w g t cs → t ≠ 72 → g ∉ homes s.vv := fun hr hne => h.vown.apart hr hne
  have hF : ∀ y ∈ s.F, y ∉ homes s.vv := fun y hy => by
    obtain ⟨cs, hc⟩ := h.blocks y hy
    exact ap hc (by decide)
  refine ⟨keep.row h.row (ap h.row (by decide)), ?_, ?_, h.iown.keep keep (h.iown.apart2 h.vown (by decide)), h.aown.keep keep (h.aown.apart2 h.vown (by decide)), ?_, h.clients, ?_, h.few, ?_, h.sortI, h.ansN, ?_, ?_, ?_, ?_, h.lensA⟩
  · rw [hnm]; exact h.kown.keep keep (h.kown.apart2 h.vown (by decide))
  · rw [hob, List.length_set]; exact hv
  · rw [hnm]; exact h.names
  · rw [hnm]; exact h.small
  · rw [hnm]; exact h.sortN
  · rw [hob]
    intro c hc
    rcases List.mem_or_eq_of_mem_set hc with h1 | h1
    · exact ((h.envO c h1).keep keep hF).more (fun y hy => List.mem_append.2 (.inl hy))
    · rw [h1]; exact he.more (fun y hy => List.mem_append.2 (.inr hy))
  · intro c hc
    exact ((h.envA c hc).keep keep hF).more (fun y hy => List.mem_append.2 (.inl hy))
  · intro y hy
    rcases List.mem_append.1 hy with hy | hy
    · obtain ⟨cs, hc⟩ := h.blocks y hy
      exact ⟨cs, keep.row hc (hF y hy)⟩
    · exact hG y hy
  · rw [hob]
    intro c hc
    rcases List.mem_or_eq_of_mem_set hc with h1 | h1
    · exact h.lensO c h1
    · rw [h1]; exact hel
--WALK
set_option maxHeartbeats 8000000 in
theorem putN_yes (p : Nat) (s : TS) (b : OB) (G : List Nat) (hb : b.name.length = 32) (w : World) (h : isT w p s) (hm : hitN s b.name = true) (hel : b.env.length ≤ 1000) (he : bytesV w G b.ev b.env) (hG : u8rows w G) :
    Calls Tryd.prog 67 #[.pointer (some ⟨p, 1, none⟩), .agg (nameL b.name).toArray, .agg (obL b).toArray] w (putPost p s b G w) := by
  obtain ⟨X, hX⟩ : ∃ X, obL b = X := ⟨_, rfl⟩
  have hXl : X.length = 2 := by rw [← hX]; rfl
  have hX1 : ∀ v ∈ X, v.oneCell' = true := by rw [← hX]; exact obL_one he
  rw [hX]
  obtain ⟨w1, hw1⟩ : ∃ w1, w.alloc (.cells (nameL b.name).toArray 28) = w1 := ⟨_, rfl⟩
  have r1 : rowAt w1 w.heap.size 28 (nameL b.name).toArray := hw1 ▸ rowAt.new _ _ _
  have k1 : keepBut [] w w1 := hw1 ▸ (keepBut.refl [] w).alloc _
  obtain ⟨w2, hw2⟩ : ∃ w2, w1.alloc (.cells X.toArray 72) = w2 := ⟨_, rfl⟩
  have r2 : rowAt w2 w1.heap.size 72 X.toArray := hw2 ▸ rowAt.new _ _ _
  have k2 : keepBut [] w1 w2 := hw2 ▸ (keepBut.refl [] w1).alloc _
  have k12 := k1.then k2 (by simp)
  have HK := Lib.hid k12
  have HR1 := Lib.hid (k2.row r1 (by simp))
  have HR2 := Lib.hid r2
  have HW1 := Lib.hid hw1
  have HW2 := Lib.hid hw2
  have HT := Lib.hid (h.over k12)
  have H0 := Lib.hid (And.intro h (And.intro hm (And.intro hb (And.intro he hG))))
  have HX := Lib.hid (And.intro hXl (And.intro hX1 hX))
  have HB := Lib.hid hb
  obtain ⟨g, c, hgv, _, _⟩ := (h.over k12).vown.setAt obL flatO rfl (fun _ _ => rfl) (by omega) rfl (fun _ _ => rfl) (b := b) (i := posN s b.name) rfl (by obtain ⟨b0, hb0, _⟩ := hitN_at hm; exact (List.getElem?_eq_some_iff.1 hb0).1)
  have HG := Lib.hid hgv
  have HI := Lib.hid (show posN s b.name < s.objs.length by obtain ⟨b0, hb0, _⟩ := hitN_at hm; exact (List.getElem?_eq_some_iff.1 hb0).1)
  clear hgv
  have HL := Lib.hid (show posN s b.name ≤ s.names.length ∧ posN s b.name ≤ s.objs.length from ⟨posOf_le _ _, by have := posOf_le (fun n => Lib.compareBytes n b.name) s.names; simpa [TS.names, posN] using this⟩)
  have HM := Lib.hid hm
  clear hw1 hw2 r1 r2 k1 k2 k12 hX h hm hb he hG hXl hX1
  go_enter Tryd.func67, Tryd.ntmps67
  go_upto_region 2 with (first
    | (with_reducible refine wpList_box_to _ _ rfl 28 (.tmp 1) rfl _ rfl HW1.out ?_)
    | (with_reducible refine wpList_box_to _ _ rfl 72 (.tmp 2) rfl _ rfl HW2.out ?_)
    | (refine wpList_load_mid rfl 28 (.tmp 4) rfl w.heap.size 0 rfl (nameL b.name) _ HR1.out.rangeAll Tryd.underlying28 rfl (by rw [nameL_len, HB.out]; exact infoName) ?_)
    | (go_at_call 46; refine (findN_any p s b.name HB.out _ HT.out).mono ?_; rintro e w3 ⟨rfl, kk⟩; rw [HM.out]; have K3 := Lib.hid kk; clear kk))
  have HT3 := Lib.hid (HT.out.over K3.out)
  have R31 := Lib.hid (K3.out.row HR1.out (by simp))
  have R32 := Lib.hid (K3.out.row HR2.out (by simp))
  have HQ := Lib.hid (show w1.heap.size ∉ homes s.vv from by
    have l4 := H0.out.1.vown.lt
    have l3 : w.heap.size ≤ w1.heap.size := by rw [← HW1.out]; simp
    exact fun hc => by have := l4 _ hc; omega)
  have HP := Lib.hid (show p ∉ homes s.vv from HT3.out.vown.apart HT3.out.row (by decide))
  obtain ⟨g', c', hg', ht', ho'⟩ := (HT3.out.over ((keepBut.refl [] w3).drew)).vown.setAt obL flatO rfl (fun _ _ => rfl) (by omega) rfl (fun _ _ => rfl) (b := b) (i := posN s b.name) rfl HI.out
  have e1 : Value.slice (some ⟨g, 0, none⟩) s.objs.length c = .slice (some ⟨g', 0, none⟩) s.objs.length c' := HG.out.symm.trans hg'
  injection e1 with e1 _ e3
  injection e1 with e1
  injection e1 with e1
  subst e1
  subst e3
  rw [HX.out.2.2] at ho'
  have HO := Lib.hid (And.intro ht' ho')
  have HGM := Lib.hid (show g ∈ homes s.vv by rw [HG.out]; simp [homes_some])
  clear hg' ht' ho'
  obtain ⟨i, hi⟩ : ∃ i, posN s b.name = i := ⟨_, rfl⟩
  rw [hi] at HL HI HO ⊢
  have HE := Lib.hid hi
  clear hi
  go_upto_region 3 with fail
  have b1 : (i : Int) < (s.objs.length : Int) := by have := HI.out; omega
  have KS : keepBut (homes s.vv) w3 w3.drew := (keepBut.refl _ w3).drew
  have HC : Hid (∀ W, keepBut (homes s.vv) w3 W → W.cell? ⟨p, 3, none⟩ = some (.slice (some ⟨g, 0, none⟩) s.objs.length c) ∧ W.rangeAt w1.heap.size 0 X) := Lib.hid (fun W k =>
    ⟨((k.row HT3.out.row HP.out).cell 3).trans (congrArg some HG.out), (k.row R32.out HQ.out).rangeAll⟩)
  refine wp_region_held_drew (S := fun W => keepBut (homes s.vv) w3 W) (by kernel_rfl) KS (fun _ => ?_)
  refine wpAnyH_take (i := 0) (oi := ⟨_, _, _, _, _, _⟩) (v := ?_) rfl (by kernel_rfl) (by kernel_rfl) (by kernel_rfl) (fun _ _ _ h => h) (Or.inl ⟨by rfl, ?_⟩) KS ?_
  rotate_left
  · intro w' hSw; (go_simp; try with_reducible rfl)
  try simp only [Act.put, List.setIfInBounds_toArray, List.set_cons_zero, List.set_cons_succ]
  refine wpAnyH_take (i := 1) (oi := ⟨_, _, _, _, _, _⟩) (v := ?_) rfl (by kernel_rfl) (by kernel_rfl) (by kernel_rfl) (fun _ _ _ h => h) (Or.inl ⟨by rfl, ?_⟩) KS ?_
  rotate_left
  · intro w' hSw; (go_simp; try with_reducible rfl)
  try simp only [Act.put, List.setIfInBounds_toArray, List.set_cons_zero, List.set_cons_succ]
  refine wpAnyH_take (i := 2) (oi := ⟨_, _, _, _, _, _⟩) (v := ?_) rfl (by kernel_rfl) (by kernel_rfl) (by kernel_rfl) (fun _ _ _ h => h) (Or.inl ⟨by rfl, ?_⟩) KS ?_
  rotate_left
  · intro w' hSw; (go_simp; try with_reducible rfl)
  try simp only [Act.put, List.setIfInBounds_toArray, List.set_cons_zero, List.set_cons_succ]
  refine wpAnyH_take (i := 3) (oi := ⟨_, _, _, _, _, _⟩) (v := ?_) rfl (by kernel_rfl) (by kernel_rfl) (by kernel_rfl) (fun _ _ _ h => h) (Or.inl ⟨by rfl, ?_⟩) KS ?_
  rotate_left
  · intro w' hSw; have hy := (HC.out w' hSw).1; (go_simp; try with_reducible rfl)
  try simp only [Act.put, List.setIfInBounds_toArray, List.set_cons_zero, List.set_cons_succ]
  refine wpAnyH_take (i := 4) (oi := ⟨_, _, _, _, _, _⟩) (v := ?_) rfl (by kernel_rfl) (by kernel_rfl) (by kernel_rfl) (fun _ _ _ h => h) (Or.inl ⟨by rfl, ?_⟩) KS ?_
  rotate_left
  · intro w' hSw; (go_simp; try with_reducible rfl)
  try simp only [Act.put, List.setIfInBounds_toArray, List.set_cons_zero, List.set_cons_succ]
  refine wpAnyH_take (i := 5) (oi := ⟨_, _, _, _, _, _⟩) (v := .agg (X).toArray) rfl (by kernel_rfl) (by kernel_rfl) (by kernel_rfl) (fun _ _ _ h => h) (yieldsIf_mid 72 (.tmp 5) rfl w1.heap.size 0 rfl (X) _ (fun w' hSw => (HC.out w' hSw).2) Tryd.underlying72 rfl (by rw [HX.out.1]; exact info_ob) ?_) KS ?_
  · rfl
  try simp only [Act.put, List.setIfInBounds_toArray, List.set_cons_zero, List.set_cons_succ]
  refine wpAnyH_take (i := 6) (oi := ⟨_, _, _, _, _, _⟩) (v := ?_) rfl (by kernel_rfl) (by kernel_rfl) (by kernel_rfl) (fun _ _ _ h => h) (Or.inl ⟨by rfl, ?_⟩) KS ?_
  rotate_left
  · intro w' hSw; (go_simp; try with_reducible rfl)
  try simp only [Act.put, List.setIfInBounds_toArray, List.set_cons_zero, List.set_cons_succ]
  refine wpAnyH_ready (rs := [7]) (by kernel_rfl) (by simp) ?_
  refine AllReadyH.cons (o := ⟨_, _, _, _, _, _⟩) rfl (fun K hK => ?_) AllReadyH.nil
  refine step_store_mid rfl 72 (.tmp 21) (.tmp 20) rfl g (i * 2) X.toArray rfl rfl (by rw [List.size_toArray, HX.out.1]; exact HO.out.1) (by rw [List.size_toArray, HX.out.1]; exact info_ob) (all_oneCell_toArray HX.out.2.1) ?_
  refine hK.out _ _ (KS.setL (.inl HGM.out)) (fun _ => ?_)
  clear hK K
  try simp only [Act.put, List.setIfInBounds_toArray, List.set_cons_zero, List.set_cons_succ]
  refine wpAnyH_done (by kernel_rfl) ?_ _
  go_wp2_with fail
  go_end0
  have k9 : keepBut (homes s.vv) w3 (w3.drew.setCells g (i * 2) X) := KS.setL (.inl HGM.out)
  have kA : keepBut (homes s.vv) w (w3.drew.setCells g (i * 2) X) := ((HK.out.then K3.out (by simp)).more (by simp)).then k9 (fun x hx => .inl hx)
  have hGn : ∀ y ∈ G, y ∉ homes s.vv := fun y hy => by
    obtain ⟨cs, hc⟩ := H0.out.2.2.2.2 y hy
    exact H0.out.1.vown.apart hc (by decide)
  exact ⟨s.kv, s.vv, rfl, isT.setEnd H0.out.1 HM.out (by rw [HE.out]; exact HO.out.2) kA hel (H0.out.2.2.2.1.keep kA hGn) (fun y hy => by obtain ⟨cs, hc⟩ := H0.out.2.2.2.2 y hy; exact ⟨cs, kA.row hc (hGn y hy)⟩), kA.more (fun x hx => List.mem_cons_of_mem _ (List.mem_append.2 (.inr hx))), fun x hx => .inl hx, fun x hx => .inl hx⟩
end Go.Proofs.YtmlmhnhilemjhaaDoor
