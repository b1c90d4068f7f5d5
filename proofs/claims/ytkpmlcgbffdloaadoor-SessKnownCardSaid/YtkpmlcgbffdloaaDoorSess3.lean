/-
  SESS, 3: all that waits is taken.
-/
import Derived.Test.YtkpmlcgbffdloaaDoorSess2
import Derived.Laws.ResultCell
namespace Go.Proofs.YtkpmlcgbffdloaaDoor
open Go.Conc Go.RowKit
set_option linter.unusedVariables false
set_option maxRecDepth 100000

theorem run_build_one {P : Program} (w : World) (t e : TypeId) (i : TypeInfo) (z : Value) (X : List Value) (ht : P.underlying t = some (.slice e)) (hi : P.info? e = some i) (hz : i.zero = some z) (hs : i.size = X.length) (hX : X.length ≤ 16777216) (h0 : 0 < X.length) :
    (Instr.buildSlice t 1 #[(0, .agg X.toArray)]).run P w = .ok (.slice (some ⟨w.heap.size, 0, none⟩) 1 1) (w.alloc (.cells X.toArray e)) := by
  have hf : ∀ Z : Array Value, Z.size = X.length → List.foldl (fun cs (x : Value × Nat) => cs.setIfInBounds x.snd x.fst) Z X.zipIdx = X.toArray := fun Z hZ => by
    have h := fold_putL X 0 0 Z
    rw [putL_all hZ.symm] at h
    simpa using h
  have h1 : ¬ (16777216 < X.length) := by omega
  have h2 : ¬ (X = []) := by rintro rfl; simp at h0
  simp [Instr.buildSlice, run_underlying ht, sizeOf, typeInfo, hi, hs, h1, h2, zeroValue, hz, newRow, go_sem]
  rw [hf _ (by simp)]
theorem wpList_build_one {P : Program} (w w' : World) {ops : Array Oper} {rest : List Oper} {o : Oper} {a : Act} {Q : Exit → Act → World → Prop} (hgd : o.guard = none) (t : TypeId) (x : Operand) (ho : o.op = .buildSlice t 1 #[(0, x)])
    (e : TypeId) (i : TypeInfo) (z : Value) (X : List Value) (hx : a.eval x = .agg X.toArray) (ht : P.underlying t = some (.slice e)) (hi : P.info? e = some i) (hz : i.zero = some z) (hs : i.size = X.length) (hX : X.length ≤ 16777216) (h0 : 0 < X.length)
    (hw : w.alloc (.cells X.toArray e) = w') (h : wpList P ops Q rest (a.put o.dst (.slice (some ⟨w.heap.size, 0, none⟩) 1 1)) w') : wpList P ops Q (o :: rest) a w := by
  subst hw
  refine wpList_plain hgd fun K hK => ?_
  have hK' := hK _ _ h
  unfold Oper.wp execOp
  simp only [ho]
  simp [hx, run_build_one (P := P) w t e i z X ht hi hz hs hX h0]
  exact hK'
theorem reads_row (w : World) (e : TypeId) (X : List Value) : reads (w.alloc (.cells X.toArray e)) (some ⟨w.heap.size, 0, none⟩) w.heap.size 1 X.length X := by
  refine ⟨by simp, fun _ => ⟨0, rfl, by simp, fun j x hx => ?_⟩⟩
  rw [(rowAt.new w e X.toArray).cell]
  simpa using hx
theorem infoP : (Tryd.prog.info? 44).map (fun i => (i.size, decide (i.bytes ≤ 1000), i.zero.map (·.cells.size))) = some (87, true, some 87) := by kernel_rfl
theorem info_P : ∃ (i : TypeInfo) (z : Value), Tryd.prog.info? 44 = some i ∧ i.size = 87 ∧ i.bytes ≤ 1000 ∧ i.zero = some z ∧ z.cells.size = 87 := by
  obtain ⟨i, hi, he⟩ := Option.map_eq_some_iff.1 infoP
  injection he with h1 h2
  injection h2 with h2 h3
  obtain ⟨z, hz, h4⟩ := Option.map_eq_some_iff.1 h3
  exact ⟨i, z, hi, h1, by simpa using h2, hz, h4⟩
theorem itemV.one {F : List Nat} {w : World} {t : PK × List Value} (h : itemV w F t) : ∀ u ∈ t.2, u.oneCell' = true := by
  obtain ⟨ev, av, cv, vv, bw, h1, h2⟩ := h
  rw [h1]
  exact pkL_one h2.re.one h2.ae.one h2.cc.one h2.vs.one h2.bs.one
theorem storedP {w : World} {t : TypeId} {Z X : List Value} (h : X.length = Z.length) :
    rowAt ((w.alloc (.cells Z.toArray t)).setCells w.heap.size 0 X) w.heap.size t X.toArray ∧ keepBut [] w ((w.alloc (.cells Z.toArray t)).setCells w.heap.size 0 X) := by
  have r := (rowAt.new w t Z.toArray).setL (vs := X) (o := 0)
  rw [putL_all (by rw [List.size_toArray]; exact h)] at r
  exact ⟨r, ((keepBut.refl [] w).alloc _).setL (.inr (Nat.le_refl _))⟩
theorem there_newP {w : World} {t : TypeId} {Z X : List Value} (h : X.length = Z.length) : (w.alloc (.cells Z.toArray t)).there w.heap.size 0 X.toArray.size := (rowAt.new w t Z.toArray).there (by simp only [List.size_toArray]; omega)

/-- what has been taken so far (D) and what is left (T) -/
structure colAt (p q : Nat) (s : SS) (cv ev : Value) (F K : List Nat) (w0 : World) (D T : List (PK × List Value)) (v : Value) (w : World) : Prop where
  is : isQ w p q s cv ev F K T
  own : ownsO w 44 87 v D.length (flatP D)
  its : ∀ t ∈ D, itemV w K t
  new : ∀ x ∈ homes v, w0.heap.size ≤ x
  kept : keepBut [q] w0 w
  old : ∀ y ∈ F ++ K, y < w0.heap.size
def colPost (p q : Nat) (s : SS) (cv ev : Value) (F K : List Nat) (T : List (PK × List Value)) (w : World) (e : Ending) (w' : World) : Prop := ∃ v, e = .returned v ∧ colAt p q s cv ev F K w T [] v w'
theorem ownsO.noch {w : World} {e : TypeId} {sz n q cap : Nat} {v : Value} {xs buf : List Value} (h : ownsO w e sz v n xs) (hc : chanAt w q cap buf) : q ∉ homes v := by
  rcases h.2 with ⟨rfl, _⟩ | ⟨g, off, cap, cur, rfl, hr, _⟩
  · simp [homes_none]
  · simp only [homes_some, List.mem_singleton]
    exact fun e => hc.row hr e.symm
theorem colAt.drop {w0 w w' : World} {p q : Nat} {s : SS} {cv ev v : Value} {F K : List Nat} {D T : List (PK × List Value)} {t : PK × List Value} (h : colAt p q s cv ev F K w0 D (t :: T) v w) (hc : chanAt w' q 4 (T.map fun t => .agg t.2.toArray)) (hk : keepBut [q] w w') : colAt p q s cv ev F K w0 D T v w' ∧ itemV w' K t := by
  have hF1 : ∀ y ∈ F, y ∉ [q] := fun y hy => by simpa using (h.is.far y (by simp [hy])).2.2
  have hK1 : ∀ y ∈ K, y ∉ [q] := fun y hy => by simpa using (h.is.far y (by simp [hy])).2.2
  refine ⟨⟨⟨hk.row h.is.row (by simpa using h.is.apart), hc, fun u hu => (h.is.its u (by simp [hu])).keep hk hK1, h.is.nm, h.is.env.keep hk hF1, h.is.chain.keep hk hF1, fun y hy => ⟨Nat.lt_of_lt_of_le (h.is.far y hy).1 hk.size, (h.is.far y hy).2⟩⟩, h.own.keep hk ?_, fun u hu => (h.its u hu).keep hk hK1, h.new, h.kept.then hk (fun x hx => .inl hx), h.old⟩, (h.is.its t (by simp)).keep hk hK1⟩
  exact fun x hx => by simp only [List.mem_singleton]; rintro rfl; exact h.own.noch h.is.ch hx
theorem colAt.add {w0 w w5 w6 : World} {p q : Nat} {s : SS} {cv ev v v6 : Value} {F K : List Nat} {D T : List (PK × List Value)} {t : PK × List Value} (h : colAt p q s cv ev F K w0 D T v w) (ht : itemV w K t) (k5 : keepBut [] w w5) (o6 : ownsO w6 44 87 v6 (D.length + 1) (flatP D ++ t.2)) (k6 : keepBut (homes v) w5 w6) (n6 : ∀ x ∈ homes v6, x ∈ homes v ∨ w5.heap.size ≤ x) : colAt p q s cv ev F K w0 (D ++ [t]) T v6 w6 := by
  have hF : ∀ y ∈ F, y ∉ homes v := fun y hy hm => by have := h.new y hm; have := h.old y (by simp [hy]); omega
  have hK : ∀ y ∈ K, y ∉ homes v := fun y hy hm => by have := h.new y hm; have := h.old y (by simp [hy]); omega
  have s0 := h.kept.size
  have s5 := k5.size
  have hk : keepBut (homes v) w w6 := (k5.more (by simp)).then k6 (fun x hx => .inl hx)
  refine ⟨h.is.keep hk (h.own.apart h.is.row (by decide)) (h.own.noch h.is.ch) hF hK, by rw [List.length_append, List.length_singleton, flatP_append]; simpa [flatP] using o6, fun u hu => ?_, fun x hx => ?_, h.kept.then hk (fun x hx => .inr (h.new x hx)), h.old⟩
  · rcases List.mem_append.1 hu with hu | hu
    · exact (h.its u hu).keep hk hK
    · simp only [List.mem_singleton] at hu
      subst hu
      exact ht.keep hk hK
  · rcases n6 x hx with hx | hx
    · exact h.new x hx
    · omega
theorem collectQ_any (p q : Nat) (s : SS) (cv ev : Value) (F K : List Nat) (T : List (PK × List Value)) (w : World) (h : isQ w p q s cv ev F K T) (hr : T.length ≤ 4) :
    Calls Tryd.prog 50 #[.pointer (some ⟨p, 0, none⟩)] w (colPost p q s cv ev F K T w) := by
  obtain ⟨z, hz⟩ := zeroV_pk
  have H0 := Lib.hid h
  have HR := Lib.hid hr
  clear h hr
  refine calls_of_wpN Tryd.func50 rfl ?_
  simp only [Tryd.ntmps50, List.size_toArray, List.length_cons, List.length_nil, Nat.reduceAdd, Nat.reduceSub, Array.replicate_succ, Array.replicate_zero, List.push_toArray, List.append_toArray, List.nil_append, List.cons_append]
  refine wpN.seq (wpN.of ?_)
  go_wp2
  refine wpN.seq (wpN.of ?_)
  go_wp2
  refine wpN.block ?_
  refine wpN.loop (fun (x : List (PK × List Value) × List (PK × List Value)) a w' => ∃ (v u1 u2 u4 u5 u6 u7 u8 u9 u10 u11 u12 u13 u14 u15 u16 u17 : Value), a = { tmps := #[.pointer (some ⟨p, 0, none⟩), u1, u2, v, u4, u5, u6, u7, u8, u9, u10, u11, u12, u13, u14, u15, u16, u17], defers := [] } ∧ colAt p q s cv ev F K w x.1 x.2 v w' ∧ x.1 ++ x.2 = T) (fun x => x.2.length) ([], T) ⟨.slice none 0 0, _, _, _, _, _, _, _, _, _, _, _, _, _, _, _, _, rfl, ⟨H0.out, ownsO.nil _ _ _, by simp, by simp [homes_none], keepBut.refl _ _, fun y hy => (H0.out.far y hy).1⟩, rfl⟩ ?_
  rintro ⟨D, R⟩ a w1 ⟨v, u1, u2, u4, u5, u6, u7, u8, u9, u10, u11, u12, u13, u14, u15, u16, u17, rfl, hc, hDT⟩
  dsimp only at hc hDT
  obtain ⟨_, _, _, hch, _⟩ := hc.is.cells
  have HC := Lib.hid (And.intro hc hDT)
  clear hDT
  refine wpN.block ?_
  refine wpN.seq (wpN.of ?_)
  go_wp2
  refine wpN.seq ?_
  cases R with
  | nil =>
    refine wpN.recv_none (z := z) rfl rfl rfl rfl hz rfl hc.is.ch ?_
    clear hc
    simp only [wpOps]
    go_simp
    refine .inl (.inl (wpN.of ?_))
    go_wp2
    go_ret
    obtain ⟨hc, hD⟩ := HC.out
    rw [List.append_nil] at hD
    subst hD
    exact ⟨_, rfl, hc⟩
  | cons t R =>
    refine wpN.recv_buf (u := .agg t.2.toArray) (buf := R.map fun t => .agg t.2.toArray) (z := z) rfl rfl rfl rfl hz rfl hc.is.ch (fun w2 hc2 hk2 => ?_)
    have hd := hc.drop hc2 hk2
    have hXl : t.2.length = 87 := hd.2.len
    have hX1 : ∀ u ∈ t.2, u.oneCell' = true := hd.2.one
    have HD := Lib.hid hd
    have HL := Lib.hid (And.intro hXl hX1)
    clear hc hc2 hk2 hd hXl hX1
    simp only [wpOps]
    go_simp
    refine .inl (.inl (wpN.of ?_))
    go_upto_region 6 with (first | (with_reducible refine wpList_alloc_to _ _ rfl 44 rfl _ zv_pk rfl ?_) | (refine wpList_store_mid rfl 44 (.tmp 4) (.tmp 13) rfl w2.heap.size 0 t.2.toArray rfl rfl (there_newP (by rw [HL.out.1]; exact pkZ_len.symm)) (by rw [List.size_toArray, HL.out.1]; exact info_pkS) (by simpa using HL.out.2) ?_))
    have hs := storedP (w := w2) (t := 44) (Z := pkL pkZero nilV nilV nilV nilV nilV) (X := t.2) (by rw [HL.out.1]; exact pkZ_len.symm)
    generalize hw4 : (w2.alloc (.cells (pkL pkZero nilV nilV nilV nilV nilV).toArray 44)).setCells w2.heap.size 0 t.2 = w4 at hs ⊢
    generalize hb : w2.heap.size = b at hs ⊢
    obtain ⟨r4, k4⟩ := hs
    have HX := Lib.hid (And.intro r4 (show (Tryd.prog.info? 44).map (·.size) = some t.2.length by rw [HL.out.1]; exact info_pkS))
    obtain ⟨w5, hw5⟩ : ∃ w5, w4.alloc (.cells t.2.toArray 44) = w5 := ⟨_, rfl⟩
    have hr5 : reads w5 (some ⟨w4.heap.size, 0, none⟩) w4.heap.size 1 87 t.2 := by
      have := reads_row w4 44 t.2
      rw [hw5, HL.out.1] at this
      exact this
    have k5 : keepBut [] w2 w5 := by rw [← hw5]; exact k4.alloc _
    have o5 := HD.out.1.own.keep k5 (by simp)
    have hDl : D.length + 1 ≤ 4 := by
      have := HR.out
      rw [← HC.out.2, List.length_append, List.length_cons] at this
      omega
    obtain ⟨iP, zP, hiP, hsP, hbP, hzP, hcP⟩ := info_P
    have HI := Lib.hid (And.intro hiP (And.intro hsP (And.intro hbP (And.intro hzP hcP))))
    have H5 := Lib.hid (And.intro hw5 (And.intro hr5 (And.intro k5 (And.intro o5 hDl))))
    have HW := Lib.hid (And.intro hw4 hb)
    clear hw4 hb r4 k4 hw5 hr5 k5 o5 hDl hiP hsP hbP hzP hcP
    go_wp2_with (first | (refine wpList_load_mid rfl 44 (.tmp 4) rfl b 0 rfl t.2 _ HX.out.1.rangeAll Tryd.underlying44 rfl HX.out.2 ?_) | (refine wpList_build_one _ _ rfl 64 (.tmp 15) rfl 44 iP zP t.2 rfl Tryd.underlying64 HI.out.1 HI.out.2.2.2.1 (by rw [HI.out.2.1]; exact HL.out.1.symm) (by have := HL.out.1; omega) (by have := HL.out.1; omega) H5.out.1 ?_) | (refine wp_appendO _ rfl (.tmp 14) (.tmp 16) 64 rfl 44 iP zP 87 iP.bytes Tryd.underlying64 HI.out.1 HI.out.2.2.2.1 HI.out.2.1 rfl HI.out.2.2.2.2 (by decide) v D.length (flatP D) rfl H5.out.2.2.2.1 (some ⟨w4.heap.size, 0, none⟩) w4.heap.size 1 1 t.2 rfl H5.out.2.1 HL.out.2 (by decide) (Nat.le_trans (Nat.mul_le_mul H5.out.2.2.2.2 HI.out.2.2.1) (by decide)) (by have := H5.out.2.2.2.2; simp only [maxLen]; omega) ?_; intro A' c' w6 o6 k6 n6))
    exact ⟨D ++ [t], R, ⟨_, ⟨_, _, _, _, _, _, _, _, _, _, _, _, _, _, _, _, rfl⟩, HD.out.1.add HD.out.2 H5.out.2.2.1 o6 k6 n6, by rw [List.append_assoc]; exact HC.out.2⟩, Nat.lt_succ_self _⟩
end Go.Proofs.YtkpmlcgbffdloaaDoor
