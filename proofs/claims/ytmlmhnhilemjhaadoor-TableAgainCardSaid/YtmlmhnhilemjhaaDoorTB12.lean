/-
  TABLE, 12: put of an object.
-/
import Derived.Test.YtmlmhnhilemjhaaDoorTB11
namespace Go.Proofs.YtmlmhnhilemjhaaDoor
open Go.RowKit
set_option linter.unusedVariables false
set_option maxRecDepth 100000
set_option linter.unusedSimpArgs false

theorem fold_putL : ∀ (l : List Value) (k off : Nat) (cs : Array Value), (l.zipIdx k).foldl (fun cs (x : Value × Nat) => cs.setIfInBounds (off + x.2) x.1) cs = putL cs (off + k) l
  | [], _, _, _ => rfl
  | v :: r, k, off, cs => by
    rw [List.zipIdx_cons, List.foldl_cons, fold_putL r (k + 1) off, putL]
    rfl
theorem run_build_one {P : Program} (w : World) (t e : TypeId) (i : TypeInfo) (z : Value) (X : List Value) (ht : P.underlying t = some (.slice e)) (hi : P.info? e = some i) (hz : i.zero = some z) (hs : i.size = X.length) (hX : X.length ≤ 16777216) (h0 : 0 < X.length) :
    (Instr.buildSlice t 1 #[(0, .agg X.toArray)]).run P w = .ok (.slice (some ⟨w.heap.size, 0, none⟩) 1 1) (w.alloc (.cells X.toArray e)) := by
  have hf : ∀ Z : Array Value, Z.size = X.length → List.foldl (fun cs (x : Value × Nat) => cs.setIfInBounds x.snd x.fst) Z X.zipIdx = X.toArray := fun Z hZ => by
    have h := fold_putL X 0 0 Z
    rw [putL_all hZ.symm] at h
    simpa using h
  have h1 : ¬ (16777216 < X.length) := by omega
  have h2 : ¬ (X = []) := by rintro rfl; simp at h0
  simp [Instr.buildSlice, run_underlying ht, sizeOf, typeInfo, hi, hs, h1, h2, zeroValue, hz, newRow, go_sem]
  rw [hf _ (by simp)]
theorem step_build_one {P : Program} (w : World) {ops : Array Oper} {o : Oper} {a : Act} {K : Act → World → Prop} {Q : Exit → Act → World → Prop} {E : Prop} (hgd : o.guard = none) (t : TypeId) (x : Operand) (ho : o.op = .buildSlice t 1 #[(0, x)])
    (e : TypeId) (i : TypeInfo) (z : Value) (X : List Value) (hx : a.eval x = .agg X.toArray) (ht : P.underlying t = some (.slice e)) (hi : P.info? e = some i) (hz : i.zero = some z) (hs : i.size = X.length) (hX : X.length ≤ 16777216) (h0 : 0 < X.length)
    (h : K (a.put o.dst (.slice (some ⟨w.heap.size, 0, none⟩) 1 1)) (w.alloc (.cells X.toArray e))) : if Region.wanted o (yielded ops a.tmps) = true then Oper.wp P o a w K Q else E := by
  rw [if_pos (by simp [Region.wanted, hgd])]
  unfold Oper.wp execOp
  simp only [ho]
  simp [hx, run_build_one (P := P) w t e i z X ht hi hz hs hX h0]
  exact h
theorem reads_row (w : World) (e : TypeId) (X : List Value) : reads (w.alloc (.cells X.toArray e)) (some ⟨w.heap.size, 0, none⟩) w.heap.size 1 X.length X := by
  refine ⟨by simp, fun _ => ⟨0, rfl, by simp, fun j x hx => ?_⟩⟩
  rw [(rowAt.new w e X.toArray).cell]
  simpa using hx

def putOb (s : TS) (b : OB) : List OB := if hitN s b.name = true then s.objs.set (posN s b.name) b else insAt s.objs (posN s b.name) b
def TS.withO (s : TS) (b : OB) (kv vv : Value) (G : List Nat) : TS := { s with objs := putOb s b, kv := kv, vv := vv, F := s.F ++ G }
def putPost (p : Nat) (s : TS) (b : OB) (G : List Nat) (w : World) (e : Ending) (w' : World) : Prop :=
  ∃ kv vv, e = .returned (.tuple #[]) ∧ isT w' p (s.withO b kv vv G) ∧ keepBut (p :: (homes s.kv ++ homes s.vv)) w w' ∧ (∀ x ∈ homes kv, x ∈ homes s.kv ∨ w.heap.size ≤ x) ∧ (∀ x ∈ homes vv, x ∈ homes s.vv ∨ w.heap.size ≤ x)
def u8rows (w : World) (G : List Nat) : Prop := ∀ y ∈ G, ∃ cs, rowAt w y 5 cs
theorem names_one {ns : List (List UInt8)} : ∀ u ∈ flatN ns, u.oneCell' = true := by
  induction ns with
  | nil => intro u hu; simp [flatN] at hu
  | cons n r ih =>
    intro u hu
    rw [flatN] at hu
    rcases List.mem_append.1 hu with hu | hu
    · unfold nameL at hu
      obtain ⟨c, _, rfl⟩ := List.mem_map.1 hu
      rfl
    · exact ih u hu
theorem nameL_one {n : List UInt8} : ∀ u ∈ nameL n, u.oneCell' = true := by
  intro u hu
  unfold nameL at hu
  obtain ⟨c, _, rfl⟩ := List.mem_map.1 hu
  rfl
theorem obL_one {w : World} {G : List Nat} {b : OB} (h : bytesV w G b.ev b.env) : ∀ u ∈ obL b, u.oneCell' = true := by
  intro u hu
  unfold obL at hu
  simp only [List.mem_cons, List.not_mem_nil, or_false] at hu
  rcases hu with rfl | rfl
  · rfl
  · exact h.one
theorem flatO_one {w : World} {G : List Nat} : ∀ {l : List OB}, (∀ b ∈ l, bytesV w G b.ev b.env) → ∀ u ∈ flatO l, u.oneCell' = true
  | [], _, u, hu => by simp [flatO] at hu
  | b :: r, h, u, hu => by
    rw [flatO] at hu
    rcases List.mem_cons.1 hu with rfl | hu
    · rfl
    · rcases List.mem_cons.1 hu with rfl | hu
      · exact (h b (by simp)).one
      · exact flatO_one (fun c hc => h c (by simp [hc])) u hu
/-- apart by type -/
theorem owns.apart2 {w : World} {e e' : TypeId} {sz sz' n n' : Nat} {v v' : Value} {xs xs' : List Value} (h : owns w e sz v n xs) (h' : owns w e' sz' v' n' xs') (hne : e ≠ e') : ∀ x ∈ homes v, x ∉ homes v' := fun x hx => by
  rcases h.2 with ⟨rfl, _⟩ | ⟨g, cap, cur, rfl, hr, _⟩
  · simp [homes_none] at hx
  · simp only [homes_some, List.mem_singleton] at hx
    subst hx
    exact h'.apart hr hne
theorem isT.putEnd {w W : World} {p : Nat} {s : TS} {b : OB} {kv vv : Value} {G : List Nat} (h : isT w p s) (hm : hitN s b.name = false) (hb : b.name.length = 32) (hn : s.names.length < 100)
    (hrow : rowAt W p 67 #[.int .i64 s.epoch, ordN, kv, vv, ordI, s.iv, s.av])
    (hk : owns W 28 32 kv (s.names.length + 1) ((flatN s.names).take (posN s b.name * 32) ++ (nameL b.name ++ (flatN s.names).drop (posN s b.name * 32))))
    (hv : owns W 72 2 vv (s.objs.length + 1) ((flatO s.objs).take (posN s b.name * 2) ++ (obL b ++ (flatO s.objs).drop (posN s b.name * 2))))
    (keep : keepBut (p :: (homes s.kv ++ homes s.vv)) w W) (hel : b.env.length ≤ 1000) (he : bytesV W G b.ev b.env) (hG : u8rows W G) : isT W p (s.withO b kv vv G) := by
  have hp : putOb s b = insAt s.objs (posN s b.name) b := by unfold putOb; rw [if_neg (by rw [hm]; simp)]
  have hnm : (s.withO b kv vv G).names = insAt s.names (posN s b.name) b.name := by
    show (putOb s b).map (·.name) = _
    rw [hp, insAt_map]; rfl
  have hob : (s.withO b kv vv G).objs = insAt s.objs (posN s b.name) b := hp
  have hle : posN s b.name ≤ s.names.length := posOf_le _ _
  have hle2 : posN s b.name ≤ s.objs.length := by have := hle; simpa [TS.names] using this
  have hF : ∀ y ∈ s.F, y ∉ p :: (homes s.kv ++ homes s.vv) := fun y hy => by
    obtain ⟨cs, hc⟩ := h.blocks y hy
    simp only [List.mem_cons, List.mem_append, not_or]
    exact ⟨hc.apart h.row (by decide), h.kown.apart hc (by decide), h.vown.apart hc (by decide)⟩
  have hi : ∀ x ∈ homes s.iv, x ∉ p :: (homes s.kv ++ homes s.vv) := fun x hx => by
    simp only [List.mem_cons, List.mem_append, not_or]
    exact ⟨fun e => h.iown.apart h.row (by decide) (e ▸ hx), h.iown.apart2 h.kown (by decide) x hx, h.iown.apart2 h.vown (by decide) x hx⟩
  have ha : ∀ x ∈ homes s.av, x ∉ p :: (homes s.kv ++ homes s.vv) := fun x hx => by
    simp only [List.mem_cons, List.mem_append, not_or]
    exact ⟨fun e => h.aown.apart h.row (by decide) (e ▸ hx), h.aown.apart2 h.kown (by decide) x hx, h.aown.apart2 h.vown (by decide) x hx⟩
  refine ⟨hrow, ?_, ?_, h.iown.keep keep hi, h.aown.keep keep ha, ?_, h.clients, ?_, h.few, ?_, h.sortI, h.ansN, ?_, ?_, ?_, ?_, h.lensA⟩
  · rw [hnm, insAt_len, flatN_ins h.names hle]; exact hk
  · rw [hob, insAt_len, flatO_ins hle2]; exact hv
  · rw [hnm]; intro n hn'; rcases insAt_mem hn' with rfl | h1; exact hb; exact h.names n h1
  · rw [hnm, insAt_len]; omega
  · rw [hnm]; exact h.insN hm
  · rw [hob]
    intro c hc
    rcases insAt_mem hc with rfl | h1
    · exact he.more (fun y hy => List.mem_append.2 (.inr hy))
    · exact ((h.envO c h1).keep keep hF).more (fun y hy => List.mem_append.2 (.inl hy))
  · intro c hc
    exact ((h.envA c hc).keep keep hF).more (fun y hy => List.mem_append.2 (.inl hy))
  · intro y hy
    rcases List.mem_append.1 hy with hy | hy
    · obtain ⟨cs, hc⟩ := h.blocks y hy
      exact ⟨cs, keep.row hc (hF y hy)⟩
    · exact hG y hy
  · rw [hob]
    intro c hc
    rcases insAt_mem hc with rfl | h1
    · exact hel
    · exact h.lensO c h1

set_option maxHeartbeats 8000000 in
theorem putN_no (p : Nat) (s : TS) (b : OB) (G : List Nat) (hb : b.name.length = 32) (w : World) (h : isT w p s) (hm : hitN s b.name = false) (hn : s.names.length < 100) (hel : b.env.length ≤ 1000) (he : bytesV w G b.ev b.env) (hG : u8rows w G) :
    Calls Tryd.prog 67 #[.pointer (some ⟨p, 1, none⟩), .agg (nameL b.name).toArray, .agg (obL b).toArray] w (putPost p s b G w) := by
  obtain ⟨X, hX⟩ : ∃ X, obL b = X := ⟨_, rfl⟩
  have hXl : X.length = 2 := by rw [← hX]; rfl
  have hX1 : ∀ v ∈ X, v.oneCell' = true := by rw [← hX]; exact obL_one he
  rw [hX]
  obtain ⟨w1, hw1⟩ : ∃ w1, w.alloc (.cells (nameL b.name).toArray 28) = w1 := ⟨_, rfl⟩
  have r1 : rowAt w1 w.heap.size 28 (nameL b.name).toArray := hw1 ▸ rowAt.new _ _ _
  have k1 : keepBut [] w w1 := hw1 ▸ (keepBut.refl [] w).alloc _
  obtain ⟨w2, hw2⟩ : ∃ w2, w1.alloc (.cells X.toArray 72) = w2 := ⟨_, rfl⟩
  have r2 : rowAt w2 w1.heap.size 72 X.toArray := hw2 ▸ rowAt.new _ _ _
  have k2 : keepBut [] w1 w2 := hw2 ▸ (keepBut.refl [] w1).alloc _
  have k12 := k1.then k2 (by simp)
  have HK := Lib.hid k12
  have HR1 := Lib.hid (k2.row r1 (by simp))
  have HR2 := Lib.hid r2
  have HW1 := Lib.hid hw1
  have HW2 := Lib.hid hw2
  have HT := Lib.hid (h.over k12)
  have H0 := Lib.hid (And.intro h (And.intro hm (And.intro hb (And.intro hn (And.intro he hG)))))
  have HX := Lib.hid (And.intro hXl (And.intro hX1 hX))
  have HB := Lib.hid hb
  have HL := Lib.hid (show posN s b.name ≤ s.names.length ∧ posN s b.name ≤ s.objs.length from ⟨posOf_le _ _, by have := posOf_le (fun n => Lib.compareBytes n b.name) s.names; simpa [TS.names, posN] using this⟩)
  have HM := Lib.hid hm
  obtain ⟨iN, zN, hi, hs, _, hz, hzs⟩ := infoN1
  have HIN := Lib.hid (And.intro hi (And.intro hs hz))
  clear hi hs hz hzs
  obtain ⟨iO, zO, hi, hs, _, hz, hzs⟩ := infoO1
  have HIO := Lib.hid (And.intro hi (And.intro hs hz))
  clear hi hs hz hzs hw1 hw2 r1 r2 k1 k2 k12 h hm hb hn he hG hXl hX1 hX
  go_enter Tryd.func67, Tryd.ntmps67
  go_upto_region 2 with (first
    | (with_reducible refine wpList_box_to _ _ rfl 28 (.tmp 1) rfl _ rfl HW1.out ?_)
    | (with_reducible refine wpList_box_to _ _ rfl 72 (.tmp 2) rfl _ rfl HW2.out ?_)
    | (refine wpList_load_mid rfl 28 (.tmp 4) rfl w.heap.size 0 rfl (nameL b.name) _ HR1.out.rangeAll Tryd.underlying28 rfl (by rw [nameL_len, HB.out]; exact infoName) ?_)
    | (go_at_call 46; refine (findN_any p s b.name HB.out _ HT.out).mono ?_; rintro e w3 ⟨rfl, kk⟩; rw [HM.out]; have K3 := Lib.hid kk; clear kk))
  have HT3 := Lib.hid (HT.out.over K3.out)
  have R31 := Lib.hid (K3.out.row HR1.out (by simp))
  have R32 := Lib.hid (K3.out.row HR2.out (by simp))
  have HP := Lib.hid (show p ∉ homes s.kv ∧ p ∉ homes s.vv from ⟨HT3.out.kown.apart HT3.out.row (by decide), HT3.out.vown.apart HT3.out.row (by decide)⟩)
  have HQ := Lib.hid (show w.heap.size ∉ p :: homes s.kv ∧ w1.heap.size ∉ p :: homes s.kv ∧ w1.heap.size ∉ p :: homes s.vv from by
    have e1 := HK.out.size
    have l1 := H0.out.1.row.lt
    have l2 := H0.out.1.kown.lt
    have l4 := H0.out.1.vown.lt
    have l3 : w.heap.size ≤ w1.heap.size := by rw [← HW1.out]; simp
    exact ⟨by simp only [List.mem_cons, not_or]; exact ⟨by omega, fun hc => by have := l2 _ hc; omega⟩, by simp only [List.mem_cons, not_or]; exact ⟨by omega, fun hc => by have := l2 _ hc; omega⟩, by simp only [List.mem_cons, not_or]; exact ⟨by omega, fun hc => by have := l4 _ hc; omega⟩⟩)
  obtain ⟨i, hi⟩ : ∃ i, posN s b.name = i := ⟨_, rfl⟩
  rw [hi] at HL ⊢
  have HE := Lib.hid hi
  clear hi
  go_upto_region 4 with fail
  have KS : keepBut (p :: homes s.kv) w3 w3.drew := (keepBut.refl _ w3).drew
  have HC : Hid (∀ W, keepBut (p :: homes s.kv) w3 W → W.rangeAt w.heap.size 0 (nameL b.name)) := Lib.hid (fun W k => (k.row R31.out (by exact HQ.out.1)).rangeAll)
  have hy : w3.drew.cell? ⟨p, 2, none⟩ = some s.kv := HT3.out.row.cell 2
  refine wp_region_held_drew (S := fun W => keepBut (p :: homes s.kv) w3 W) (by kernel_rfl) KS (fun _ => ?_)
  refine wpAnyH_take (i := 0) (oi := ⟨_, _, _, _, _, _⟩) (v := ?_) rfl (by kernel_rfl) (by kernel_rfl) (by kernel_rfl) (fun _ _ _ h => h) (Or.inl ⟨by rfl, ?_⟩) KS ?_
  rotate_left
  · intro w' hSw; (go_simp; try with_reducible rfl)
  try simp only [Act.put, List.setIfInBounds_toArray, List.set_cons_zero, List.set_cons_succ]
  refine wpAnyH_take (i := 1) (oi := ⟨_, _, _, _, _, _⟩) (v := ?_) rfl (by kernel_rfl) (by kernel_rfl) (by kernel_rfl) (fun _ _ _ h => h) (Or.inl ⟨by rfl, ?_⟩) KS ?_
  rotate_left
  · intro w' hSw; (go_simp; try with_reducible rfl)
  try simp only [Act.put, List.setIfInBounds_toArray, List.set_cons_zero, List.set_cons_succ]
  refine wpAnyH_take (i := 2) (oi := ⟨_, _, _, _, _, _⟩) (v := ?_) rfl (by kernel_rfl) (by kernel_rfl) (by kernel_rfl) (fun _ _ _ h => h) (Or.inl ⟨by rfl, ?_⟩) KS ?_
  rotate_left
  · intro w' hSw; (go_simp; try with_reducible rfl)
  try simp only [Act.put, List.setIfInBounds_toArray, List.set_cons_zero, List.set_cons_succ]
  refine wpAnyH_take (i := 3) (oi := ⟨_, _, _, _, _, _⟩) (v := ?_) rfl (by kernel_rfl) (by kernel_rfl) (by kernel_rfl) (fun _ _ _ h => h) (Or.inl ⟨by rfl, ?_⟩) KS ?_
  rotate_left
  · intro w' hSw; (go_simp; try with_reducible rfl)
  try simp only [Act.put, List.setIfInBounds_toArray, List.set_cons_zero, List.set_cons_succ]
  refine wpAnyH_take (i := 5) (oi := ⟨_, _, _, _, _, _⟩) (v := ?_) rfl (by kernel_rfl) (by kernel_rfl) (by kernel_rfl) (fun _ _ _ h => h) (Or.inl ⟨by rfl, ?_⟩) KS ?_
  rotate_left
  · intro w' hSw; (go_simp; try with_reducible rfl)
  try simp only [Act.put, List.setIfInBounds_toArray, List.set_cons_zero, List.set_cons_succ]
  refine wpAnyH_take (i := 6) (oi := ⟨_, _, _, _, _, _⟩) (v := .agg ((nameL b.name)).toArray) rfl (by kernel_rfl) (by kernel_rfl) (by kernel_rfl) (fun _ _ _ h => h) (yieldsIf_mid 28 (.tmp 4) rfl w.heap.size 0 rfl ((nameL b.name)) _ (fun w' hSw => HC.out w' hSw) Tryd.underlying28 rfl (by rw [nameL_len, HB.out]; exact infoName) ?_) KS ?_
  · rfl
  try simp only [Act.put, List.setIfInBounds_toArray, List.set_cons_zero, List.set_cons_succ]
  refine wpAnyH_ready (rs := [4, 7]) (by kernel_rfl) (by simp) ?_
  refine AllReadyH.cons (o := ⟨_, _, _, _, _, _⟩) rfl (fun K hK => ?_) (AllReadyH.cons (o := ⟨_, _, _, _, _, _⟩) rfl (fun K hK => ?_) AllReadyH.nil)
  go_simp
  refine hK.out _ _ KS (fun _ => ?_)
  clear hK K
  try simp only [Act.put, List.setIfInBounds_toArray, List.set_cons_zero, List.set_cons_succ]
  refine wpAnyH_ready (rs := [7]) (by kernel_rfl) (by simp) ?_
  refine AllReadyH.cons (o := ⟨_, _, _, _, _, _⟩) rfl (fun K hK => ?_) AllReadyH.nil
  refine step_build_one _ rfl 47 (.tmp 28) rfl 28 iN zN (nameL b.name) rfl underN HIN.out.1 HIN.out.2.2 (by rw [HIN.out.2.1, nameL_len, HB.out]) (by rw [nameL_len, HB.out]; omega) (by rw [nameL_len, HB.out]; omega) ?_
  refine hK.out _ _ (KS.alloc (.cells ((nameL b.name)).toArray 28)) (fun _ => ?_)
  clear hK K
  try simp only [Act.put, List.setIfInBounds_toArray, List.set_cons_zero, List.set_cons_succ]
  rotate_left
  refine step_build_one _ rfl 47 (.tmp 28) rfl 28 iN zN (nameL b.name) rfl underN HIN.out.1 HIN.out.2.2 (by rw [HIN.out.2.1, nameL_len, HB.out]) (by rw [nameL_len, HB.out]; omega) (by rw [nameL_len, HB.out]; omega) ?_
  refine hK.out _ _ (KS.alloc (.cells ((nameL b.name)).toArray 28)) (fun _ => ?_)
  clear hK K
  try simp only [Act.put, List.setIfInBounds_toArray, List.set_cons_zero, List.set_cons_succ]
  have hy2 : (w3.alloc (.cells ((nameL b.name)).toArray 28)).cell? ⟨p, 2, none⟩ = some s.kv := (HT3.out.over ((keepBut.refl [] w3).alloc (.cells ((nameL b.name)).toArray 28))).row.cell 2
  refine wpAnyH_ready (rs := [4]) (by kernel_rfl) (by simp) ?_
  refine AllReadyH.cons (o := ⟨_, _, _, _, _, _⟩) rfl (fun K hK => ?_) AllReadyH.nil
  go_simp
  refine hK.out _ _ (KS.alloc (.cells ((nameL b.name)).toArray 28)) (fun _ => ?_)
  clear hK K
  try simp only [Act.put, List.setIfInBounds_toArray, List.set_cons_zero, List.set_cons_succ]
  clear hy2
  all_goals (
    refine wpAnyH_ready (rs := [8]) (by kernel_rfl) (by simp) ?_
    refine AllReadyH.cons (o := ⟨_, _, _, _, _, _⟩) rfl (fun K hK => ?_) AllReadyH.nil
    go_simp
    refine (insN_any s.kv s.names.length i _ (flatN s.names) (nameL b.name) _ (HT3.out.over ((keepBut.refl [] w3).drew.alloc (.cells ((nameL b.name)).toArray 28))).kown HL.out.1 (rowAt.new w3.drew 28 _) (fun hc => Nat.lt_irrefl _ (HT3.out.kown.lt _ hc)) (by rw [nameL_len, HB.out]) nameL_one names_one (by have := H0.out.2.2.2.1; omega)).mono ?_
    rintro e w5 ⟨v5, rfl, o5, k5, n5⟩
    obtain ⟨A5, c5, rfl, _⟩ := id o5.form
    have K5 := Lib.hid ((KS.alloc (.cells ((nameL b.name)).toArray 28)).then (k5.more (fun x hx => List.mem_cons_of_mem _ hx)) (fun x hx => .inl hx))
    have O5 := Lib.hid (And.intro o5 n5)
    have R5 := Lib.hid (k5.row (((keepBut.refl [] w3).drew.alloc (.cells ((nameL b.name)).toArray 28)).row HT3.out.row (by simp)) HP.out.1)
    clear o5 k5 n5
    go_wp2_with fail
    refine hK.out _ _ K5.out (fun _ => ?_)
    clear hK K
    try simp only [Act.put, List.setIfInBounds_toArray, List.set_cons_zero, List.set_cons_succ]
    refine wpAnyH_take (i := 9) (oi := ⟨_, _, _, _, _, _⟩) (v := ?_) rfl (by kernel_rfl) (by kernel_rfl) (by kernel_rfl) (fun _ _ _ h => h) (Or.inl ⟨by rfl, ?_⟩) K5.out ?_
    rotate_left
    · intro w' hSw; (go_simp; try with_reducible rfl)
    try simp only [Act.put, List.setIfInBounds_toArray, List.set_cons_zero, List.set_cons_succ]
    refine wpAnyH_take (i := 10) (oi := ⟨_, _, _, _, _, _⟩) (v := ?_) rfl (by kernel_rfl) (by kernel_rfl) (by kernel_rfl) (fun _ _ _ h => h) (Or.inl ⟨by rfl, ?_⟩) K5.out ?_
    rotate_left
    · intro w' hSw; (go_simp; try with_reducible rfl)
    try simp only [Act.put, List.setIfInBounds_toArray, List.set_cons_zero, List.set_cons_succ]
    have hy3 : w5.cell? ⟨p, 2, none⟩ = some s.kv := R5.out.cell 2
    have hf3 := R5.out.free 2
    refine wpAnyH_ready (rs := [11]) (by kernel_rfl) (by simp) ?_
    refine AllReadyH.cons (o := ⟨_, _, _, _, _, _⟩) rfl (fun K hK => ?_) AllReadyH.nil
    go_simp
    refine hK.out _ _ (K5.out.setCell ⟨p, 2, none⟩ _ (.inl (by simp))) (fun _ => ?_)
    clear hK K
    try simp only [Act.put, List.setIfInBounds_toArray, List.set_cons_zero, List.set_cons_succ]
    refine wpAnyH_done (by kernel_rfl) ?_ _
    clear hy hy3 hf3
    go_upto_region 5 with fail
    have k6 : keepBut (p :: homes s.kv) w3 (w5.setCell ⟨p, 2, none⟩ (.slice A5 (s.names.length + 1) c5)) := K5.out.setCell _ _ (.inl (by simp))
    have r6 := R5.out.set 2 (.slice A5 (s.names.length + 1) c5)
    have o6 := O5.out.1.keep ((keepBut.refl [p] w5).setCell ⟨p, 2, none⟩ (.slice A5 (s.names.length + 1) c5) (.inl (by simp))) (fun x hx => by simp only [List.mem_singleton]; rintro rfl; exact O5.out.1.apart R5.out (by decide) hx)
    generalize w5.setCell ⟨p, 2, none⟩ (.slice A5 (s.names.length + 1) c5) = w6 at *
    have K6 := Lib.hid k6
    have O6 := Lib.hid o6
    have V6 := Lib.hid (HT3.out.vown.keep k6 (fun x hx => by simp only [List.mem_cons, not_or]; exact ⟨fun e => HP.out.2 (e ▸ hx), HT3.out.vown.apart2 HT3.out.kown (by decide) x hx⟩))
    have R62 := Lib.hid (k6.row R32.out HQ.out.2.1)
    clear k6 o6 KS HC
    have KS : keepBut (p :: homes s.vv) w6 w6.drew := (keepBut.refl _ w6).drew
    have HC : Hid (∀ W, keepBut (p :: homes s.vv) w6 W → W.rangeAt w1.heap.size 0 X) := Lib.hid (fun W k => (k.row R62.out (by exact HQ.out.2.2)).rangeAll)
    have hy : w6.drew.cell? ⟨p, 3, none⟩ = some s.vv := r6.cell 3
    refine wp_region_held_drew (S := fun W => keepBut (p :: homes s.vv) w6 W) (by kernel_rfl) KS (fun _ => ?_)
    refine wpAnyH_take (i := 0) (oi := ⟨_, _, _, _, _, _⟩) (v := ?_) rfl (by kernel_rfl) (by kernel_rfl) (by kernel_rfl) (fun _ _ _ h => h) (Or.inl ⟨by rfl, ?_⟩) KS ?_
    rotate_left
    · intro w' hSw; (go_simp; try with_reducible rfl)
    try simp only [Act.put, List.setIfInBounds_toArray, List.set_cons_zero, List.set_cons_succ]
    refine wpAnyH_take (i := 1) (oi := ⟨_, _, _, _, _, _⟩) (v := ?_) rfl (by kernel_rfl) (by kernel_rfl) (by kernel_rfl) (fun _ _ _ h => h) (Or.inl ⟨by rfl, ?_⟩) KS ?_
    rotate_left
    · intro w' hSw; (go_simp; try with_reducible rfl)
    try simp only [Act.put, List.setIfInBounds_toArray, List.set_cons_zero, List.set_cons_succ]
    refine wpAnyH_take (i := 2) (oi := ⟨_, _, _, _, _, _⟩) (v := ?_) rfl (by kernel_rfl) (by kernel_rfl) (by kernel_rfl) (fun _ _ _ h => h) (Or.inl ⟨by rfl, ?_⟩) KS ?_
    rotate_left
    · intro w' hSw; (go_simp; try with_reducible rfl)
    try simp only [Act.put, List.setIfInBounds_toArray, List.set_cons_zero, List.set_cons_succ]
    refine wpAnyH_take (i := 3) (oi := ⟨_, _, _, _, _, _⟩) (v := ?_) rfl (by kernel_rfl) (by kernel_rfl) (by kernel_rfl) (fun _ _ _ h => h) (Or.inl ⟨by rfl, ?_⟩) KS ?_
    rotate_left
    · intro w' hSw; (go_simp; try with_reducible rfl)
    try simp only [Act.put, List.setIfInBounds_toArray, List.set_cons_zero, List.set_cons_succ]
    refine wpAnyH_take (i := 5) (oi := ⟨_, _, _, _, _, _⟩) (v := ?_) rfl (by kernel_rfl) (by kernel_rfl) (by kernel_rfl) (fun _ _ _ h => h) (Or.inl ⟨by rfl, ?_⟩) KS ?_
    rotate_left
    · intro w' hSw; (go_simp; try with_reducible rfl)
    try simp only [Act.put, List.setIfInBounds_toArray, List.set_cons_zero, List.set_cons_succ]
    refine wpAnyH_take (i := 6) (oi := ⟨_, _, _, _, _, _⟩) (v := .agg (X).toArray) rfl (by kernel_rfl) (by kernel_rfl) (by kernel_rfl) (fun _ _ _ h => h) (yieldsIf_mid 72 (.tmp 5) rfl w1.heap.size 0 rfl (X) _ (fun w' hSw => HC.out w' hSw) Tryd.underlying72 rfl (by rw [HX.out.1]; exact info_ob) ?_) KS ?_
    · rfl
    try simp only [Act.put, List.setIfInBounds_toArray, List.set_cons_zero, List.set_cons_succ]
    refine wpAnyH_ready (rs := [4, 7]) (by kernel_rfl) (by simp) ?_
    refine AllReadyH.cons (o := ⟨_, _, _, _, _, _⟩) rfl (fun K hK => ?_) (AllReadyH.cons (o := ⟨_, _, _, _, _, _⟩) rfl (fun K hK => ?_) AllReadyH.nil)
    go_simp
    refine hK.out _ _ KS (fun _ => ?_)
    clear hK K
    try simp only [Act.put, List.setIfInBounds_toArray, List.set_cons_zero, List.set_cons_succ]
    refine wpAnyH_ready (rs := [7]) (by kernel_rfl) (by simp) ?_
    refine AllReadyH.cons (o := ⟨_, _, _, _, _, _⟩) rfl (fun K hK => ?_) AllReadyH.nil
    refine step_build_one _ rfl 58 (.tmp 39) rfl 72 iO zO X rfl underO HIO.out.1 HIO.out.2.2 (by rw [HIO.out.2.1, HX.out.1]) (by rw [HX.out.1]; omega) (by rw [HX.out.1]; omega) ?_
    refine hK.out _ _ (KS.alloc (.cells (X).toArray 72)) (fun _ => ?_)
    clear hK K
    try simp only [Act.put, List.setIfInBounds_toArray, List.set_cons_zero, List.set_cons_succ]
    rotate_left
    refine step_build_one _ rfl 58 (.tmp 39) rfl 72 iO zO X rfl underO HIO.out.1 HIO.out.2.2 (by rw [HIO.out.2.1, HX.out.1]) (by rw [HX.out.1]; omega) (by rw [HX.out.1]; omega) ?_
    refine hK.out _ _ (KS.alloc (.cells (X).toArray 72)) (fun _ => ?_)
    clear hK K
    try simp only [Act.put, List.setIfInBounds_toArray, List.set_cons_zero, List.set_cons_succ]
    have hy2 : (w6.alloc (.cells (X).toArray 72)).cell? ⟨p, 3, none⟩ = some s.vv := (((keepBut.refl [] w6).alloc (.cells (X).toArray 72)).row r6 (by simp)).cell 3
    refine wpAnyH_ready (rs := [4]) (by kernel_rfl) (by simp) ?_
    refine AllReadyH.cons (o := ⟨_, _, _, _, _, _⟩) rfl (fun K hK => ?_) AllReadyH.nil
    go_simp
    refine hK.out _ _ (KS.alloc (.cells (X).toArray 72)) (fun _ => ?_)
    clear hK K
    try simp only [Act.put, List.setIfInBounds_toArray, List.set_cons_zero, List.set_cons_succ]
    clear hy2
    all_goals (
      refine wpAnyH_ready (rs := [8]) (by kernel_rfl) (by simp) ?_
      refine AllReadyH.cons (o := ⟨_, _, _, _, _, _⟩) rfl (fun K hK => ?_) AllReadyH.nil
      go_simp
      refine (insO_any s.vv s.objs.length i _ (flatO s.objs) X _ (V6.out.keep ((keepBut.refl [] w6).drew.alloc (.cells (X).toArray 72)) (by simp)) HL.out.2 (rowAt.new w6.drew 72 _) (fun hc => Nat.lt_irrefl _ (V6.out.lt _ hc)) HX.out.1 HX.out.2.1 (flatO_one HT.out.envO) (by have := H0.out.2.2.2.1; simp only [TS.names, List.length_map] at this; omega)).mono ?_
      rintro e w8 ⟨v8, rfl, o8, k8, n8⟩
      obtain ⟨A8, c8, rfl, _⟩ := id o8.form
      have K8 := Lib.hid ((KS.alloc (.cells (X).toArray 72)).then (k8.more (fun x hx => List.mem_cons_of_mem _ hx)) (fun x hx => .inl hx))
      have O8 := Lib.hid (And.intro o8 n8)
      have R8 := Lib.hid (k8.row (((keepBut.refl [] w6).drew.alloc (.cells (X).toArray 72)).row r6 (by simp)) HP.out.2)
      clear o8 k8 n8
      go_wp2_with fail
      refine hK.out _ _ K8.out (fun _ => ?_)
      clear hK K
      try simp only [Act.put, List.setIfInBounds_toArray, List.set_cons_zero, List.set_cons_succ]
      refine wpAnyH_take (i := 9) (oi := ⟨_, _, _, _, _, _⟩) (v := ?_) rfl (by kernel_rfl) (by kernel_rfl) (by kernel_rfl) (fun _ _ _ h => h) (Or.inl ⟨by rfl, ?_⟩) K8.out ?_
      rotate_left
      · intro w' hSw; (go_simp; try with_reducible rfl)
      try simp only [Act.put, List.setIfInBounds_toArray, List.set_cons_zero, List.set_cons_succ]
      refine wpAnyH_take (i := 10) (oi := ⟨_, _, _, _, _, _⟩) (v := ?_) rfl (by kernel_rfl) (by kernel_rfl) (by kernel_rfl) (fun _ _ _ h => h) (Or.inl ⟨by rfl, ?_⟩) K8.out ?_
      rotate_left
      · intro w' hSw; (go_simp; try with_reducible rfl)
      try simp only [Act.put, List.setIfInBounds_toArray, List.set_cons_zero, List.set_cons_succ]
      have hy3 : w8.cell? ⟨p, 3, none⟩ = some s.vv := R8.out.cell 3
      have hf3 := R8.out.free 3
      refine wpAnyH_ready (rs := [11]) (by kernel_rfl) (by simp) ?_
      refine AllReadyH.cons (o := ⟨_, _, _, _, _, _⟩) rfl (fun K hK => ?_) AllReadyH.nil
      go_simp
      refine hK.out _ _ (K8.out.setCell ⟨p, 3, none⟩ _ (.inl (by simp))) (fun _ => ?_)
      clear hK K
      try simp only [Act.put, List.setIfInBounds_toArray, List.set_cons_zero, List.set_cons_succ]
      refine wpAnyH_done (by kernel_rfl) ?_ _
      clear hy hy3 hf3
      go_wp2_with fail
      go_end0
      have K9 : keepBut (p :: homes s.vv) w6 (w8.setCell ⟨p, 3, none⟩ (.slice A8 (s.objs.length + 1) c8)) := K8.out.setCell _ _ (.inl (by simp))
      have r9 := R8.out.set 3 (.slice A8 (s.objs.length + 1) c8)
      have o9 := O8.out.1.keep ((keepBut.refl [p] w8).setCell ⟨p, 3, none⟩ (.slice A8 (s.objs.length + 1) c8) (.inl (by simp))) (fun x hx => by simp only [List.mem_singleton]; rintro rfl; exact O8.out.1.apart R8.out (by decide) hx)
      generalize w8.setCell ⟨p, 3, none⟩ (.slice A8 (s.objs.length + 1) c8) = w9 at *
      have kA : keepBut (p :: (homes s.kv ++ homes s.vv)) w w9 := (((HK.out.then K3.out (by simp)).more (by simp)).then K6.out (fun x hx => by left; simp only [List.mem_cons, List.mem_append] at hx ⊢; exact hx.imp id .inl)).then K9 (fun x hx => by left; simp only [List.mem_cons, List.mem_append] at hx ⊢; exact hx.imp id .inr)
      have s13 := (HK.out.then K3.out (by simp)).size
      have s36 := K6.out.size
      have hGn : ∀ y ∈ G, y ∉ p :: (homes s.kv ++ homes s.vv) := fun y hy => by
        obtain ⟨cs, hc⟩ := H0.out.2.2.2.2.2 y hy
        simp only [List.mem_cons, List.mem_append, not_or]
        exact ⟨hc.apart H0.out.1.row (by decide), H0.out.1.kown.apart hc (by decide), H0.out.1.vown.apart hc (by decide)⟩
      have o7 := O6.out.keep K9 (fun x hx => by
        simp only [List.mem_cons, not_or]
        exact ⟨fun e => O6.out.apart r6 (by decide) (e ▸ hx), O6.out.apart2 V6.out (by decide) x hx⟩)
      refine ⟨_, _, rfl, isT.putEnd H0.out.1 HM.out HB.out H0.out.2.2.2.1 r9 (by rw [HE.out]; exact o7) (by rw [HE.out, HX.out.2.2]; exact o9) kA hel (H0.out.2.2.2.2.1.keep kA hGn) (fun y hy => ?_), kA, fun x hx => (O5.out.2 x hx).imp id (fun hh => ?_), fun x hx => (O8.out.2 x hx).imp id (fun hh => ?_)⟩
      · obtain ⟨cs, hc⟩ := H0.out.2.2.2.2.2 y hy
        exact ⟨cs, kA.row hc (hGn y hy)⟩
      · simp only [World.size_alloc] at hh; have : w3.drew.heap.size = w3.heap.size := rfl; omega
      · simp only [World.size_alloc] at hh; have : w6.drew.heap.size = w6.heap.size := rfl; omega))
end Go.Proofs.YtmlmhnhilemjhaaDoor
