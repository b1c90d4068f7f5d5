/-
  NET, 2: a slice of one opaque aggregate; a packet put behind the others.
-/
import Derived.Test.YtcnlnkkdcofphaaDoorNet1
import Derived.Deep.RegionHeld3
import Derived.Deep.CutBlock
import Derived.Deep.DeepCutAuto
import Derived.Outline
import Derived.Lib.Hide
namespace Go.Proofs.YtcnlnkkdcofphaaDoor
open Go.RowKit
set_option linter.unusedVariables false
set_option maxRecDepth 100000

theorem run_build_one {P : Program} (w : World) (t e : TypeId) (i : TypeInfo) (z : Value) (X : List Value) (ht : P.underlying t = some (.slice e)) (hi : P.info? e = some i) (hz : i.zero = some z) (hs : i.size = X.length) (hX : X.length ≤ 16777216) (h0 : 0 < X.length) :
    (Instr.buildSlice t 1 #[(0, .agg X.toArray)]).run P w = .ok (.slice (some ⟨w.heap.size, 0, none⟩) 1 1) (w.alloc (.cells X.toArray e)) := by
  have hf : ∀ Z : Array Value, Z.size = X.length → List.foldl (fun cs (x : Value × Nat) => cs.setIfInBounds x.snd x.fst) Z X.zipIdx = X.toArray := fun Z hZ => by
    have h := fold_putL X 0 0 Z
    rw [putL_all hZ.symm] at h
    simpa using h
  have h1 : ¬ (16777216 < X.length) := by omega
  have h2 : ¬ (X = []) := by rintro rfl; simp at h0
  simp [Instr.buildSlice, run_underlying ht, sizeOf, typeInfo, hi, hs, h1, h2, zeroValue, hz, newRow, go_sem]
  rw [hf _ (by simp)]
theorem step_build_one {P : Program} (w : World) {ops : Array Oper} {o : Oper} {a : Act} {K : Act → World → Prop} {Q : Exit → Act → World → Prop} {E : Prop} (hgd : o.guard = none) (t : TypeId) (x : Operand) (ho : o.op = .buildSlice t 1 #[(0, x)])
    (e : TypeId) (i : TypeInfo) (z : Value) (X : List Value) (hx : a.eval x = .agg X.toArray) (ht : P.underlying t = some (.slice e)) (hi : P.info? e = some i) (hz : i.zero = some z) (hs : i.size = X.length) (hX : X.length ≤ 16777216) (h0 : 0 < X.length)
    (h : K (a.put o.dst (.slice (some ⟨w.heap.size, 0, none⟩) 1 1)) (w.alloc (.cells X.toArray e))) : if Region.wanted o (yielded ops a.tmps) = true then Oper.wp P o a w K Q else E := by
  rw [if_pos (by simp [Region.wanted, hgd])]
  unfold Oper.wp execOp
  simp only [ho]
  simp [hx, run_build_one (P := P) w t e i z X ht hi hz hs hX h0]
  exact h
theorem reads_row (w : World) (e : TypeId) (X : List Value) : reads (w.alloc (.cells X.toArray e)) (some ⟨w.heap.size, 0, none⟩) w.heap.size 1 X.length X := by
  refine ⟨by simp, fun _ => ⟨0, rfl, by simp, fun j x hx => ?_⟩⟩
  rw [(rowAt.new w e X.toArray).cell]
  simpa using hx
theorem step_load_mid {P : Program} {ops : Array Oper} {op : Oper} {a : Act} {w : World} {K : Act → World → Prop} {Q : Exit → Act → World → Prop} {E : Prop} (hgd : op.guard = none) (ty : TypeId) (x : Operand) (ho : op.op = .load ty x)
    (b o : Nat) (hx : a.eval x = .pointer (some ⟨b, o, none⟩)) (cs : List Value) (d : TypeDesc) (hc : w.rangeAt b o cs)
    (hu : P.underlying ty = some d) (hd : d.isRow = true) (hi : (P.info? ty).map (·.size) = some cs.length)
    (h : K (a.put op.dst (.agg cs.toArray)) w) : if Region.wanted op (yielded ops a.tmps) = true then Oper.wp P op a w K Q else E := by
  rw [if_pos (by simp [Region.wanted, hgd])]
  exact wp_load_mid ty x ho b o hx cs d hc hu hd hi h
theorem step_store_mid {P : Program} {ops : Array Oper} {op : Oper} {a : Act} {w : World} {K : Act → World → Prop} {Q : Exit → Act → World → Prop} {E : Prop} (hgd : op.guard = none) (ty : TypeId) (x y : Operand) (ho : op.op = .store ty x y)
    (b o : Nat) (cells : Array Value) (hx : a.eval x = .pointer (some ⟨b, o, none⟩)) (hy : a.eval y = .agg cells)
    (ht : w.there b o cells.size) (hi : (P.info? ty).map (·.size) = some cells.size) (h1 : cells.all (·.oneCell') = true)
    (h : K (a.put op.dst undef) (w.setCells b o cells.toList)) : if Region.wanted op (yielded ops a.tmps) = true then Oper.wp P op a w K Q else E := by
  rw [if_pos (by simp [Region.wanted, hgd])]
  exact wp_store_mid ty x y ho b o cells hx hy ht hi h1 h
theorem itemV.one {F : List Nat} {w : World} {t : PK × List Value} (h : itemV w F t) : ∀ u ∈ t.2, u.oneCell' = true := by
  obtain ⟨ev, av, cv, vv, bw, h1, h2⟩ := h
  rw [h1]
  exact pkL_one h2.re.one h2.ae.one h2.cc.one h2.vs.one h2.bs.one
def copyPostX (p : PK) (w : World) (e : Ending) (w' : World) : Prop := ∃ X G, e = .returned (.agg (X : List Value).toArray) ∧ itemV w' G (p, X) ∧ newIn w w' G ∧ keepBut [] w w'
theorem copyX_any (F : List Nat) (p : PK) (X : List Value) (w : World) (h : itemV w F (p, X)) (hf : p.fits) :
    Calls Tryd.prog 38 #[.agg X.toArray] w (copyPostX p w) := by
  obtain ⟨ev, av, cv, vv, bw, h1, h2⟩ := h
  dsimp only at h1 h2
  subst h1
  refine (copyPk_any F p ev av cv vv bw w h2 hf).mono ?_
  rintro e w' ⟨G, ev', av', cv', vv', bw', rfl, h3, h4, h5⟩
  exact ⟨_, G, rfl, ⟨_, _, _, _, _, rfl, h3⟩, h4, h5⟩
theorem infoP : (Tryd.prog.info? 40).map (fun i => (i.size, decide (i.bytes ≤ 1000), i.zero.map (·.cells.size))) = some (87, true, some 87) := by kernel_rfl
theorem info_P : ∃ (i : TypeInfo) (z : Value), Tryd.prog.info? 40 = some i ∧ i.size = 87 ∧ i.bytes ≤ 1000 ∧ i.zero = some z ∧ z.cells.size = 87 := by
  obtain ⟨i, hi, he⟩ := Option.map_eq_some_iff.1 infoP
  injection he with h1 h2
  injection h2 with h2 h3
  obtain ⟨z, hz, h4⟩ := Option.map_eq_some_iff.1 h3
  exact ⟨i, z, hi, h1, by simpa using h2, hz, h4⟩
def addPost (p : Nat) (v : Value) (T : List (PK × List Value)) (F : List Nat) (c : Nat) (pk : PK) (w : World) (e : Ending) (w' : World) : Prop :=
  ∃ v' X G, e = .returned (.int .i64 0) ∧ isN w' p v' (T ++ [(pk, X)]) (F ++ G) (c + 1) ∧ keepBut (p :: homes v) w w' ∧ (∀ x ∈ homes v', x ∈ homes v ∨ w.heap.size ≤ x) ∧ newIn w w' G
theorem addMid {w1 w1d w2 w4 : World} {p c n : Nat} {v v4 : Value} {T : List (PK × List Value)} {F F0 G : List Nat} {pk : PK} {X2 : List Value} (h : isN w1 p v T F c) (hd : keepBut [] w1 w1d) (i2 : itemV w2 G (pk, X2)) (n2 : newIn w1d w2 G) (k2 : keepBut [] w1d w2)
    (o4 : ownsO w4 40 87 v4 n (flatP T ++ X2)) (k4 : keepBut (homes v) (w2.alloc (.cells X2.toArray 40)) w4) (n4 : ∀ x ∈ homes v4, x ∈ homes v ∨ (w2.alloc (.cells X2.toArray 40)).heap.size ≤ x) :
    rowAt w4 p 71 #[.bool true, v, .int .i64 c] ∧ keepBut (homes v) w1 w4 ∧ (∀ x ∈ homes v4, x ∈ homes v ∨ w1.heap.size ≤ x) ∧ ownsO w4 40 87 v4 n (flatP (T ++ [(pk, X2)])) ∧ (∀ t ∈ T ++ [(pk, X2)], itemV w4 (F ++ G) t) ∧ (∀ y ∈ F ++ G, y < w4.heap.size ∧ y ≠ p ∧ y ∉ homes v4) ∧ newIn w1 w4 G := by
  have kk : keepBut [] w1 (w2.alloc (.cells X2.toArray 40)) := hd.then (k2.alloc _) (by simp)
  have ka : keepBut (homes v) w1 w4 := (kk.more (by simp)).then k4 (fun x hx => .inl hx)
  have s1 := hd.size
  have s2 := k2.size
  have s4 := k4.size
  rw [World.size_alloc] at s4 n4
  have hlt := h.own.lt
  refine ⟨ka.row h.row h.apart, ka, fun x hx => (n4 x hx).imp id (fun h => by omega), by rw [flatP_append]; simpa [flatP] using o4, fun t ht => ?_, fun y hy => ?_, fun y hy => ⟨by have := (n2 y hy).1; omega, by have := (n2 y hy).2; omega⟩⟩
  · rcases List.mem_append.1 ht with ht | ht
    · exact ((h.its t ht).keep ka (fun y hy => (h.far y hy).2.2)).more (fun y hy => List.mem_append_left _ hy)
    · simp only [List.mem_singleton] at ht
      subst ht
      refine ((i2.keep ((keepBut.refl [] w2).alloc _) (by simp)).keep k4 (fun y hy hm => ?_)).more (fun y hy => List.mem_append_right _ hy)
      have := hlt y hm
      have := (n2 y hy).1
      omega
  · rcases List.mem_append.1 hy with hy | hy
    · have hf := h.far y hy
      exact ⟨by omega, hf.2.1, fun hm => by rcases n4 y hm with h1 | h1; exact hf.2.2 h1; omega⟩
    · have hn := n2 y hy
      have hp := h.row.lt
      exact ⟨by omega, by omega, fun hm => by
        rcases n4 y hm with h1 | h1
        · have := hlt y h1; omega
        · omega⟩
theorem addEnd {w w1 w4 : World} {p c : Nat} {v v4 : Value} {T : List (PK × List Value)} {F G : List Nat} {pk : PK} {X2 : List Value} (h : isN w p v T F c) (k1 : keepBut [] w w1)
    (a : rowAt w4 p 71 #[.bool true, v, .int .i64 c] ∧ keepBut (homes v) w1 w4 ∧ (∀ x ∈ homes v4, x ∈ homes v ∨ w1.heap.size ≤ x) ∧ ownsO w4 40 87 v4 (T.length + 1) (flatP (T ++ [(pk, X2)])) ∧ (∀ t ∈ T ++ [(pk, X2)], itemV w4 (F ++ G) t) ∧ (∀ y ∈ F ++ G, y < w4.heap.size ∧ y ≠ p ∧ y ∉ homes v4) ∧ newIn w1 w4 G) :
    addPost p v T F c pk w (.returned (.int .i64 0)) ((w4.setCell ⟨p, 1, none⟩ v4).setCell ⟨p, 2, none⟩ (.int .i64 ((c : Int) + 1))) := by
  obtain ⟨r, k, hh, o, it, far, nw⟩ := a
  have ks := ((keepBut.refl [p] w4).setCell ⟨p, 1, none⟩ v4 (.inl (by simp))).setCell ⟨p, 2, none⟩ (.int .i64 ((c : Int) + 1)) (.inl (by simp))
  have r2 := (r.set 1 v4).set 2 (.int .i64 ((c : Int) + 1))
  have hp4 : p ∉ homes v4 := o.apart r (by decide)
  have hn : T.length + 1 = (T ++ [(pk, X2)]).length := by simp
  have s1 := k1.size
  rw [hn] at o
  refine ⟨v4, X2, G, rfl, ⟨by simpa using r2, o.keep ks (fun x hx hm => hp4 (by simpa using (List.mem_singleton.1 hm) ▸ hx)), fun t ht => (it t ht).keep ks (fun y hy hm => (far y hy).2.1 (List.mem_singleton.1 hm)), fun y hy => ⟨Nat.lt_of_lt_of_le (far y hy).1 ks.size, (far y hy).2⟩⟩, ?_, fun x hx => (hh x hx).imp id (fun h => by omega), fun y hy => ⟨by have := (nw y hy).1; omega, Nat.lt_of_lt_of_le (nw y hy).2 ks.size⟩⟩
  exact ((k1.more (by simp)).then (k.more (fun x hx => List.mem_cons_of_mem _ hx)) (fun x hx => .inl hx)).then (ks.more (by simp)) (fun x hx => .inl hx)
set_option maxHeartbeats 4000000 in
theorem addN_any (p : Nat) (v : Value) (T : List (PK × List Value)) (F : List Nat) (c : Nat) (F0 : List Nat) (pk : PK) (X : List Value) (w : World) (h : isN w p v T F c) (ht : itemV w F0 (pk, X)) (hF0 : ∀ y ∈ F0, y ∉ homes v) (hf : pk.fits) (hl : T.length < 2000) (hc : c < 1000000) :
    Calls Tryd.prog 45 #[.pointer (some ⟨p, 0, none⟩), .agg X.toArray] w (addPost p v T F c pk w) := by
  have hXl : X.length = 87 := ht.len
  have hX1 : ∀ u ∈ X, u.oneCell' = true := ht.one
  obtain ⟨A, k, rfl, hk1, hk2⟩ := h.form
  have k1 := (keepBut.refl [] w).alloc (.cells X.toArray 40)
  have r1 := rowAt.new w 40 X.toArray
  obtain ⟨w1, hw1⟩ : ∃ w1, w.alloc (.cells X.toArray 40) = w1 := ⟨_, rfl⟩
  rw [hw1] at k1 r1
  have hn := h.over k1
  have HT := Lib.hid (ht.keep k1 (by simp))
  have HW := Lib.hid hw1
  have HK := Lib.hid (And.intro hXl (And.intro hX1 (And.intro hF0 (And.intro hk1 hk2))))
  have x1 : w1.cell? ⟨p, 1, none⟩ = some (.slice A T.length k) := hn.row.cell 1
  have HN := Lib.hid hn
  have H0 := Lib.hid h
  have R1 := Lib.hid r1
  have K1 := Lib.hid k1
  have hlt : decide ((2000 : Int) ≤ (T.length : Int)) = false := by simp; omega
  have hl' : (T.length : Int) < 2000 := by omega
  have HL := Lib.hid hl
  clear hXl hX1 hF0 hk1 hk2 hn h r1 k1 ht hw1 hl
  go_enter Tryd.func45, Tryd.ntmps45
  go_upto_region 1 with (first | (with_reducible refine wpList_box_to _ _ rfl 40 (.tmp 1) rfl _ rfl HW.out ?_))
  -- add's walk
  have HC := Lib.hid (And.intro hlt hc)
  clear hlt hl' hc
  go_upto_if 10 with fail
  rw [show decide ((2000 : Int) ≤ (T.length : Int)) = false from HC.out.1]
  go_upto_region 3 with fail
  have kd : keepBut [] w1 w1.drew := (keepBut.refl [] w1).drew
  have HB : Hid (∀ w', keepBut [] w1 w' → w'.cell? ⟨p, 1, none⟩ = some (.slice A T.length k)) := Lib.hid (fun w' hk => (HN.out.over hk).row.cell 1)
  have HX := Lib.hid (And.intro (kd.row R1.out (by simp)).rangeAll (show (Tryd.prog.info? 40).map (·.size) = some X.length by rw [HK.out.1]; exact info_pk))
  have KD := Lib.hid kd
  obtain ⟨iP, zP, hiP, hsP, hbP, hzP, hcP⟩ := info_P
  have HI := Lib.hid (And.intro hiP (And.intro hsP (And.intro hbP (And.intro hzP hcP))))
  clear kd hiP hsP hbP hzP hcP x1
  refine wp_region_held_drew (S := fun _ => True) (by kernel_rfl) trivial (fun _ => ?_)
  refine wpAnyH_take (i := 0) (oi := ⟨_, _, _, _, _, _⟩) (v := ?_) rfl (by kernel_rfl) (by kernel_rfl) (by kernel_rfl) (fun _ _ _ h => h) (Or.inl ⟨by rfl, ?_⟩) trivial ?_
  rotate_left
  · intro w' hSw; (try dsimp only at hSw); (go_simp; try with_reducible rfl)
  try simp only [Act.put, List.setIfInBounds_toArray, List.set_cons_zero, List.set_cons_succ]
  refine wpAnyH_take (i := 1) (oi := ⟨_, _, _, _, _, _⟩) (v := ?_) rfl (by kernel_rfl) (by kernel_rfl) (by kernel_rfl) (fun _ _ _ h => h) (Or.inl ⟨by rfl, ?_⟩) trivial ?_
  rotate_left
  · intro w' hSw; (try dsimp only at hSw); (go_simp; try with_reducible rfl)
  try simp only [Act.put, List.setIfInBounds_toArray, List.set_cons_zero, List.set_cons_succ]
  refine wpAnyH_take (i := 2) (oi := ⟨_, _, _, _, _, _⟩) (v := ?_) rfl (by kernel_rfl) (by kernel_rfl) (by kernel_rfl) (fun _ _ _ h => h) (Or.inl ⟨by rfl, ?_⟩) trivial ?_
  rotate_left
  · intro w' hSw; (try dsimp only at hSw); (go_simp; try with_reducible rfl)
  try simp only [Act.put, List.setIfInBounds_toArray, List.set_cons_zero, List.set_cons_succ]
  refine wpAnyH_take (i := 3) (oi := ⟨_, _, _, _, _, _⟩) (v := ?_) rfl (by kernel_rfl) (by kernel_rfl) (by kernel_rfl) (fun _ _ _ h => h) (Or.inl ⟨by rfl, ?_⟩) trivial ?_
  rotate_left
  · intro w' hSw; (try dsimp only at hSw); (go_simp; try with_reducible rfl)
  try simp only [Act.put, List.setIfInBounds_toArray, List.set_cons_zero, List.set_cons_succ]
  refine wpAnyH_ready (rs := [4, 5]) (by kernel_rfl) (by simp) ?_
  refine AllReadyH.cons (o := ⟨_, _, _, _, _, _⟩) rfl (fun K hK => ?_) (AllReadyH.cons (o := ⟨_, _, _, _, _, _⟩) rfl (fun K hK => ?_) AllReadyH.nil)
  · skip
    have yb := HB.out _ (KD.out)
    go_simp
    refine hK.out _ _ trivial (fun _ => ?_)
    clear hK K
    try simp only [Act.put, List.setIfInBounds_toArray, List.set_cons_zero, List.set_cons_succ]
    clear yb
    refine wpAnyH_ready (rs := [5]) (by kernel_rfl) (by simp) ?_
    refine AllReadyH.cons (o := ⟨_, _, _, _, _, _⟩) rfl (fun K hK => ?_) AllReadyH.nil
    refine step_load_mid rfl 40 (.tmp 3) rfl w.heap.size 0 rfl X _ HX.out.1 Tryd.underlying40 rfl HX.out.2 ?_
    refine hK.out _ _ trivial (fun _ => ?_)
    clear hK K
    try simp only [Act.put, List.setIfInBounds_toArray, List.set_cons_zero, List.set_cons_succ]
    refine wpAnyH_ready (rs := [6]) (by kernel_rfl) (by simp) ?_
    refine AllReadyH.cons (o := ⟨_, _, _, _, _, _⟩) rfl (fun K hK => ?_) AllReadyH.nil
    go_simp
    refine (copyX_any F0 pk X _ (HT.out.keep KD.out (by simp)) hf).mono ?_
    rintro e w2 ⟨X2, G, rfl, i2, n2, k2⟩
    go_wp2_with fail
    refine hK.out _ _ trivial (fun _ => ?_)
    clear hK K
    try simp only [Act.put, List.setIfInBounds_toArray, List.set_cons_zero, List.set_cons_succ]
    have I2 := Lib.hid (And.intro i2 (And.intro n2 k2))
    have XL2 := Lib.hid i2.len
    have XO2 := Lib.hid i2.one
    clear i2 n2 k2
    dsimp only at XL2 XO2
    refine wpAnyH_ready (rs := [7]) (by kernel_rfl) (by simp) ?_
    refine AllReadyH.cons (o := ⟨_, _, _, _, _, _⟩) rfl (fun K hK => ?_) AllReadyH.nil
    refine step_build_one _ rfl 44 (.tmp 17) rfl 40 iP zP X2 rfl Tryd.underlying44 HI.out.1 HI.out.2.2.2.1 (by rw [HI.out.2.1]; exact XL2.out.symm) (by have := XL2.out; omega) (by have := XL2.out; omega) ?_
    refine hK.out _ _ trivial (fun _ => ?_)
    clear hK K
    try simp only [Act.put, List.setIfInBounds_toArray, List.set_cons_zero, List.set_cons_succ]
    refine wpAnyH_ready (rs := [8]) (by kernel_rfl) (by simp) ?_
    refine AllReadyH.cons (o := ⟨_, _, _, _, _, _⟩) rfl (fun K hK => ?_) AllReadyH.nil
    refine step_appendO _ rfl (.tmp 15) (.tmp 18) 44 rfl 40 iP zP 87 iP.bytes Tryd.underlying44 HI.out.1 HI.out.2.2.2.1 HI.out.2.1 rfl HI.out.2.2.2.2 (by decide) (.slice A T.length k) T.length (flatP T) rfl (HN.out.own.keep (KD.out.then (I2.out.2.2.alloc _) (by simp)) (by simp)) (some ⟨w2.heap.size, 0, none⟩) w2.heap.size 1 1 X2 rfl (by have h := reads_row w2 40 X2; rw [XL2.out] at h; exact h) XO2.out (by decide) (by have h1 := HI.out.2.2.1; have h2 := HL.out; exact Nat.le_trans (Nat.mul_le_mul (show T.length + 1 ≤ 2000 by omega) h1) (by decide)) (by have h2 := HL.out; simp only [maxLen]; omega) (fun A4 c4 w4 o4 k4 n4 => ?_)
    refine hK.out _ _ trivial (fun _ => ?_)
    clear hK K
    try simp only [Act.put, List.setIfInBounds_toArray, List.set_cons_zero, List.set_cons_succ]
    have a4 := addMid (F0 := F0) HN.out KD.out I2.out.1 I2.out.2.1 I2.out.2.2 o4 k4 n4
    have y4 : w4.cell? ⟨p, 1, none⟩ = some (.slice A T.length k) := a4.1.cell 1
    have f4 : w4.frozen? ⟨p, 1, none⟩ = false := a4.1.free 1
    have y5 : w4.cell? ⟨p, 2, none⟩ = some (.int .i64 c) := a4.1.cell 2
    have f5 : w4.frozen? ⟨p, 2, none⟩ = false := a4.1.free 2
    have A4H := Lib.hid a4
    clear a4 o4 k4 n4
    refine wpAnyH_ready (rs := [9]) (by kernel_rfl) (by simp) ?_
    refine AllReadyH.cons (o := ⟨_, _, _, _, _, _⟩) rfl (fun K hK => ?_) AllReadyH.nil
    go_simp
    refine hK.out _ _ trivial (fun _ => ?_)
    clear hK K
    try simp only [Act.put, List.setIfInBounds_toArray, List.set_cons_zero, List.set_cons_succ]
    refine wpAnyH_ready (rs := [10]) (by kernel_rfl) (by simp) ?_
    refine AllReadyH.cons (o := ⟨_, _, _, _, _, _⟩) rfl (fun K hK => ?_) AllReadyH.nil
    go_simp
    refine hK.out _ _ trivial (fun _ => ?_)
    clear hK K
    try simp only [Act.put, List.setIfInBounds_toArray, List.set_cons_zero, List.set_cons_succ]
    refine wpAnyH_ready (rs := [11]) (by kernel_rfl) (by simp) ?_
    refine AllReadyH.cons (o := ⟨_, _, _, _, _, _⟩) rfl (fun K hK => ?_) AllReadyH.nil
    go_simp
    refine hK.out _ _ trivial (fun _ => ?_)
    clear hK K
    try simp only [Act.put, List.setIfInBounds_toArray, List.set_cons_zero, List.set_cons_succ]
    refine wpAnyH_done (by kernel_rfl) ?_ _
    have hw : IntKind.i64.wrap ((c : Int) + 1) = (c : Int) + 1 := by have := HC.out.2; rw [IntKind.wrap_i64]; omega
    go_wp2_with fail
    go_ret
    exact addEnd H0.out K1.out A4H.out
  · skip
    refine step_load_mid rfl 40 (.tmp 3) rfl w.heap.size 0 rfl X _ HX.out.1 Tryd.underlying40 rfl HX.out.2 ?_
    refine hK.out _ _ trivial (fun _ => ?_)
    clear hK K
    try simp only [Act.put, List.setIfInBounds_toArray, List.set_cons_zero, List.set_cons_succ]
    refine wpAnyH_ready (rs := [4, 6]) (by kernel_rfl) (by simp) ?_
    refine AllReadyH.cons (o := ⟨_, _, _, _, _, _⟩) rfl (fun K hK => ?_) (AllReadyH.cons (o := ⟨_, _, _, _, _, _⟩) rfl (fun K hK => ?_) AllReadyH.nil)
    · skip
      have yb := HB.out _ (KD.out)
      go_simp
      refine hK.out _ _ trivial (fun _ => ?_)
      clear hK K
      try simp only [Act.put, List.setIfInBounds_toArray, List.set_cons_zero, List.set_cons_succ]
      clear yb
      refine wpAnyH_ready (rs := [6]) (by kernel_rfl) (by simp) ?_
      refine AllReadyH.cons (o := ⟨_, _, _, _, _, _⟩) rfl (fun K hK => ?_) AllReadyH.nil
      go_simp
      refine (copyX_any F0 pk X _ (HT.out.keep KD.out (by simp)) hf).mono ?_
      rintro e w2 ⟨X2, G, rfl, i2, n2, k2⟩
      go_wp2_with fail
      refine hK.out _ _ trivial (fun _ => ?_)
      clear hK K
      try simp only [Act.put, List.setIfInBounds_toArray, List.set_cons_zero, List.set_cons_succ]
      have I2 := Lib.hid (And.intro i2 (And.intro n2 k2))
      have XL2 := Lib.hid i2.len
      have XO2 := Lib.hid i2.one
      clear i2 n2 k2
      dsimp only at XL2 XO2
      refine wpAnyH_ready (rs := [7]) (by kernel_rfl) (by simp) ?_
      refine AllReadyH.cons (o := ⟨_, _, _, _, _, _⟩) rfl (fun K hK => ?_) AllReadyH.nil
      refine step_build_one _ rfl 44 (.tmp 17) rfl 40 iP zP X2 rfl Tryd.underlying44 HI.out.1 HI.out.2.2.2.1 (by rw [HI.out.2.1]; exact XL2.out.symm) (by have := XL2.out; omega) (by have := XL2.out; omega) ?_
      refine hK.out _ _ trivial (fun _ => ?_)
      clear hK K
      try simp only [Act.put, List.setIfInBounds_toArray, List.set_cons_zero, List.set_cons_succ]
      refine wpAnyH_ready (rs := [8]) (by kernel_rfl) (by simp) ?_
      refine AllReadyH.cons (o := ⟨_, _, _, _, _, _⟩) rfl (fun K hK => ?_) AllReadyH.nil
      refine step_appendO _ rfl (.tmp 15) (.tmp 18) 44 rfl 40 iP zP 87 iP.bytes Tryd.underlying44 HI.out.1 HI.out.2.2.2.1 HI.out.2.1 rfl HI.out.2.2.2.2 (by decide) (.slice A T.length k) T.length (flatP T) rfl (HN.out.own.keep (KD.out.then (I2.out.2.2.alloc _) (by simp)) (by simp)) (some ⟨w2.heap.size, 0, none⟩) w2.heap.size 1 1 X2 rfl (by have h := reads_row w2 40 X2; rw [XL2.out] at h; exact h) XO2.out (by decide) (by have h1 := HI.out.2.2.1; have h2 := HL.out; exact Nat.le_trans (Nat.mul_le_mul (show T.length + 1 ≤ 2000 by omega) h1) (by decide)) (by have h2 := HL.out; simp only [maxLen]; omega) (fun A4 c4 w4 o4 k4 n4 => ?_)
      refine hK.out _ _ trivial (fun _ => ?_)
      clear hK K
      try simp only [Act.put, List.setIfInBounds_toArray, List.set_cons_zero, List.set_cons_succ]
      have a4 := addMid (F0 := F0) HN.out KD.out I2.out.1 I2.out.2.1 I2.out.2.2 o4 k4 n4
      have y4 : w4.cell? ⟨p, 1, none⟩ = some (.slice A T.length k) := a4.1.cell 1
      have f4 : w4.frozen? ⟨p, 1, none⟩ = false := a4.1.free 1
      have y5 : w4.cell? ⟨p, 2, none⟩ = some (.int .i64 c) := a4.1.cell 2
      have f5 : w4.frozen? ⟨p, 2, none⟩ = false := a4.1.free 2
      have A4H := Lib.hid a4
      clear a4 o4 k4 n4
      refine wpAnyH_ready (rs := [9]) (by kernel_rfl) (by simp) ?_
      refine AllReadyH.cons (o := ⟨_, _, _, _, _, _⟩) rfl (fun K hK => ?_) AllReadyH.nil
      go_simp
      refine hK.out _ _ trivial (fun _ => ?_)
      clear hK K
      try simp only [Act.put, List.setIfInBounds_toArray, List.set_cons_zero, List.set_cons_succ]
      refine wpAnyH_ready (rs := [10]) (by kernel_rfl) (by simp) ?_
      refine AllReadyH.cons (o := ⟨_, _, _, _, _, _⟩) rfl (fun K hK => ?_) AllReadyH.nil
      go_simp
      refine hK.out _ _ trivial (fun _ => ?_)
      clear hK K
      try simp only [Act.put, List.setIfInBounds_toArray, List.set_cons_zero, List.set_cons_succ]
      refine wpAnyH_ready (rs := [11]) (by kernel_rfl) (by simp) ?_
      refine AllReadyH.cons (o := ⟨_, _, _, _, _, _⟩) rfl (fun K hK => ?_) AllReadyH.nil
      go_simp
      refine hK.out _ _ trivial (fun _ => ?_)
      clear hK K
      try simp only [Act.put, List.setIfInBounds_toArray, List.set_cons_zero, List.set_cons_succ]
      refine wpAnyH_done (by kernel_rfl) ?_ _
      have hw : IntKind.i64.wrap ((c : Int) + 1) = (c : Int) + 1 := by have := HC.out.2; rw [IntKind.wrap_i64]; omega
      go_wp2_with fail
      go_ret
      exact addEnd H0.out K1.out A4H.out
    · skip
      go_simp
      refine (copyX_any F0 pk X _ (HT.out.keep KD.out (by simp)) hf).mono ?_
      rintro e w2 ⟨X2, G, rfl, i2, n2, k2⟩
      go_wp2_with fail
      refine hK.out _ _ trivial (fun _ => ?_)
      clear hK K
      try simp only [Act.put, List.setIfInBounds_toArray, List.set_cons_zero, List.set_cons_succ]
      have I2 := Lib.hid (And.intro i2 (And.intro n2 k2))
      have XL2 := Lib.hid i2.len
      have XO2 := Lib.hid i2.one
      clear i2 n2 k2
      dsimp only at XL2 XO2
      refine wpAnyH_ready (rs := [4, 7]) (by kernel_rfl) (by simp) ?_
      refine AllReadyH.cons (o := ⟨_, _, _, _, _, _⟩) rfl (fun K hK => ?_) (AllReadyH.cons (o := ⟨_, _, _, _, _, _⟩) rfl (fun K hK => ?_) AllReadyH.nil)
      · skip
        have yb := HB.out _ (KD.out.then I2.out.2.2 (by simp))
        go_simp
        refine hK.out _ _ trivial (fun _ => ?_)
        clear hK K
        try simp only [Act.put, List.setIfInBounds_toArray, List.set_cons_zero, List.set_cons_succ]
        clear yb
        refine wpAnyH_ready (rs := [7]) (by kernel_rfl) (by simp) ?_
        refine AllReadyH.cons (o := ⟨_, _, _, _, _, _⟩) rfl (fun K hK => ?_) AllReadyH.nil
        refine step_build_one _ rfl 44 (.tmp 17) rfl 40 iP zP X2 rfl Tryd.underlying44 HI.out.1 HI.out.2.2.2.1 (by rw [HI.out.2.1]; exact XL2.out.symm) (by have := XL2.out; omega) (by have := XL2.out; omega) ?_
        refine hK.out _ _ trivial (fun _ => ?_)
        clear hK K
        try simp only [Act.put, List.setIfInBounds_toArray, List.set_cons_zero, List.set_cons_succ]
        refine wpAnyH_ready (rs := [8]) (by kernel_rfl) (by simp) ?_
        refine AllReadyH.cons (o := ⟨_, _, _, _, _, _⟩) rfl (fun K hK => ?_) AllReadyH.nil
        refine step_appendO _ rfl (.tmp 15) (.tmp 18) 44 rfl 40 iP zP 87 iP.bytes Tryd.underlying44 HI.out.1 HI.out.2.2.2.1 HI.out.2.1 rfl HI.out.2.2.2.2 (by decide) (.slice A T.length k) T.length (flatP T) rfl (HN.out.own.keep (KD.out.then (I2.out.2.2.alloc _) (by simp)) (by simp)) (some ⟨w2.heap.size, 0, none⟩) w2.heap.size 1 1 X2 rfl (by have h := reads_row w2 40 X2; rw [XL2.out] at h; exact h) XO2.out (by decide) (by have h1 := HI.out.2.2.1; have h2 := HL.out; exact Nat.le_trans (Nat.mul_le_mul (show T.length + 1 ≤ 2000 by omega) h1) (by decide)) (by have h2 := HL.out; simp only [maxLen]; omega) (fun A4 c4 w4 o4 k4 n4 => ?_)
        refine hK.out _ _ trivial (fun _ => ?_)
        clear hK K
        try simp only [Act.put, List.setIfInBounds_toArray, List.set_cons_zero, List.set_cons_succ]
        have a4 := addMid (F0 := F0) HN.out KD.out I2.out.1 I2.out.2.1 I2.out.2.2 o4 k4 n4
        have y4 : w4.cell? ⟨p, 1, none⟩ = some (.slice A T.length k) := a4.1.cell 1
        have f4 : w4.frozen? ⟨p, 1, none⟩ = false := a4.1.free 1
        have y5 : w4.cell? ⟨p, 2, none⟩ = some (.int .i64 c) := a4.1.cell 2
        have f5 : w4.frozen? ⟨p, 2, none⟩ = false := a4.1.free 2
        have A4H := Lib.hid a4
        clear a4 o4 k4 n4
        refine wpAnyH_ready (rs := [9]) (by kernel_rfl) (by simp) ?_
        refine AllReadyH.cons (o := ⟨_, _, _, _, _, _⟩) rfl (fun K hK => ?_) AllReadyH.nil
        go_simp
        refine hK.out _ _ trivial (fun _ => ?_)
        clear hK K
        try simp only [Act.put, List.setIfInBounds_toArray, List.set_cons_zero, List.set_cons_succ]
        refine wpAnyH_ready (rs := [10]) (by kernel_rfl) (by simp) ?_
        refine AllReadyH.cons (o := ⟨_, _, _, _, _, _⟩) rfl (fun K hK => ?_) AllReadyH.nil
        go_simp
        refine hK.out _ _ trivial (fun _ => ?_)
        clear hK K
        try simp only [Act.put, List.setIfInBounds_toArray, List.set_cons_zero, List.set_cons_succ]
        refine wpAnyH_ready (rs := [11]) (by kernel_rfl) (by simp) ?_
        refine AllReadyH.cons (o := ⟨_, _, _, _, _, _⟩) rfl (fun K hK => ?_) AllReadyH.nil
        go_simp
        refine hK.out _ _ trivial (fun _ => ?_)
        clear hK K
        try simp only [Act.put, List.setIfInBounds_toArray, List.set_cons_zero, List.set_cons_succ]
        refine wpAnyH_done (by kernel_rfl) ?_ _
        have hw : IntKind.i64.wrap ((c : Int) + 1) = (c : Int) + 1 := by have := HC.out.2; rw [IntKind.wrap_i64]; omega
        go_wp2_with fail
        go_ret
        exact addEnd H0.out K1.out A4H.out
      · skip
        refine step_build_one _ rfl 44 (.tmp 17) rfl 40 iP zP X2 rfl Tryd.underlying44 HI.out.1 HI.out.2.2.2.1 (by rw [HI.out.2.1]; exact XL2.out.symm) (by have := XL2.out; omega) (by have := XL2.out; omega) ?_
        refine hK.out _ _ trivial (fun _ => ?_)
        clear hK K
        try simp only [Act.put, List.setIfInBounds_toArray, List.set_cons_zero, List.set_cons_succ]
        refine wpAnyH_ready (rs := [4]) (by kernel_rfl) (by simp) ?_
        refine AllReadyH.cons (o := ⟨_, _, _, _, _, _⟩) rfl (fun K hK => ?_) AllReadyH.nil
        have yb := HB.out _ (KD.out.then (I2.out.2.2.alloc (.cells X2.toArray 40)) (by simp))
        go_simp
        refine hK.out _ _ trivial (fun _ => ?_)
        clear hK K
        try simp only [Act.put, List.setIfInBounds_toArray, List.set_cons_zero, List.set_cons_succ]
        clear yb
        refine wpAnyH_ready (rs := [8]) (by kernel_rfl) (by simp) ?_
        refine AllReadyH.cons (o := ⟨_, _, _, _, _, _⟩) rfl (fun K hK => ?_) AllReadyH.nil
        refine step_appendO _ rfl (.tmp 15) (.tmp 18) 44 rfl 40 iP zP 87 iP.bytes Tryd.underlying44 HI.out.1 HI.out.2.2.2.1 HI.out.2.1 rfl HI.out.2.2.2.2 (by decide) (.slice A T.length k) T.length (flatP T) rfl (HN.out.own.keep (KD.out.then (I2.out.2.2.alloc _) (by simp)) (by simp)) (some ⟨w2.heap.size, 0, none⟩) w2.heap.size 1 1 X2 rfl (by have h := reads_row w2 40 X2; rw [XL2.out] at h; exact h) XO2.out (by decide) (by have h1 := HI.out.2.2.1; have h2 := HL.out; exact Nat.le_trans (Nat.mul_le_mul (show T.length + 1 ≤ 2000 by omega) h1) (by decide)) (by have h2 := HL.out; simp only [maxLen]; omega) (fun A4 c4 w4 o4 k4 n4 => ?_)
        refine hK.out _ _ trivial (fun _ => ?_)
        clear hK K
        try simp only [Act.put, List.setIfInBounds_toArray, List.set_cons_zero, List.set_cons_succ]
        have a4 := addMid (F0 := F0) HN.out KD.out I2.out.1 I2.out.2.1 I2.out.2.2 o4 k4 n4
        have y4 : w4.cell? ⟨p, 1, none⟩ = some (.slice A T.length k) := a4.1.cell 1
        have f4 : w4.frozen? ⟨p, 1, none⟩ = false := a4.1.free 1
        have y5 : w4.cell? ⟨p, 2, none⟩ = some (.int .i64 c) := a4.1.cell 2
        have f5 : w4.frozen? ⟨p, 2, none⟩ = false := a4.1.free 2
        have A4H := Lib.hid a4
        clear a4 o4 k4 n4
        refine wpAnyH_ready (rs := [9]) (by kernel_rfl) (by simp) ?_
        refine AllReadyH.cons (o := ⟨_, _, _, _, _, _⟩) rfl (fun K hK => ?_) AllReadyH.nil
        go_simp
        refine hK.out _ _ trivial (fun _ => ?_)
        clear hK K
        try simp only [Act.put, List.setIfInBounds_toArray, List.set_cons_zero, List.set_cons_succ]
        refine wpAnyH_ready (rs := [10]) (by kernel_rfl) (by simp) ?_
        refine AllReadyH.cons (o := ⟨_, _, _, _, _, _⟩) rfl (fun K hK => ?_) AllReadyH.nil
        go_simp
        refine hK.out _ _ trivial (fun _ => ?_)
        clear hK K
        try simp only [Act.put, List.setIfInBounds_toArray, List.set_cons_zero, List.set_cons_succ]
        refine wpAnyH_ready (rs := [11]) (by kernel_rfl) (by simp) ?_
        refine AllReadyH.cons (o := ⟨_, _, _, _, _, _⟩) rfl (fun K hK => ?_) AllReadyH.nil
        go_simp
        refine hK.out _ _ trivial (fun _ => ?_)
        clear hK K
        try simp only [Act.put, List.setIfInBounds_toArray, List.set_cons_zero, List.set_cons_succ]
        refine wpAnyH_done (by kernel_rfl) ?_ _
        have hw : IntKind.i64.wrap ((c : Int) + 1) = (c : Int) + 1 := by have := HC.out.2; rw [IntKind.wrap_i64]; omega
        go_wp2_with fail
        go_ret
        exact addEnd H0.out K1.out A4H.out
end Go.Proofs.YtcnlnkkdcofphaaDoor
