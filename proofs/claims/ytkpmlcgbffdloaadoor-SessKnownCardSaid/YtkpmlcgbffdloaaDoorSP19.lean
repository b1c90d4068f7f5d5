/-
  SP19: SPlay19, SPlayP, joined.
-/
import Derived.Test.YtkpmlcgbffdloaaDoorSPlay14
section
namespace Go.Proofs.YtkpmlcgbffdloaaDoor
open Go.RowKit
set_option linter.unusedVariables false
set_option maxRecDepth 100000
set_option linter.unusedSimpArgs false

/-- a slice of n numbers, in blocks of G, made since w0: their cells are there -/
def turnsI (k : IntKind) (w0 w : World) (A : Option Addr) (n : Nat) (G : List Nat) : Prop :=
  0 < n → ∃ g o, A = some ⟨g, o, none⟩ ∧ g ∈ G ∧ w0.heap.size ≤ g ∧ g < w.heap.size ∧ ∀ j, j < n → ∃ z, w.cell? ⟨g, o + j, none⟩ = some (.int k z)
theorem intsV.turns {w0 w : World} {G : List Nat} {v : Value} {l : List Int} (h : intsV w G v l) (hn : newIn w0 w G) : ∃ A c, v = .slice A l.length c ∧ l.length ≤ c ∧ c ≤ maxLen ∧ turnsI .i64 w0 w A l.length G := by
  obtain ⟨A, c, g, rfl, h2, h3, h5, h6⟩ := h
  refine ⟨A, c, rfl, h2, h3, fun hl => ?_⟩
  obtain ⟨o, rfl, hg, hc⟩ := h5.2 hl
  have hgG := h6 (List.length_pos_iff.1 hl)
  refine ⟨g, o, rfl, hgG, (hn g hgG).1, hg, fun j hj => ⟨l[j], hc j _ (by simp [List.getElem?_eq_getElem hj])⟩⟩
theorem bytesV.turns {w0 w : World} {G : List Nat} {v : Value} {l : List UInt8} (h : bytesV w G v l) (hn : newIn w0 w G) : ∃ A c, v = .slice A l.length c ∧ l.length ≤ c ∧ c ≤ maxLen ∧ turnsI .u8 w0 w A l.length G := by
  obtain ⟨A, c, g, rfl, h2, h3, h5, h6⟩ := h
  refine ⟨A, c, rfl, h2, h3, fun hl => ?_⟩
  obtain ⟨o, rfl, hg, hc⟩ := h5 (List.length_pos_iff.1 hl)
  have hgG := h6 (List.length_pos_iff.1 hl)
  exact ⟨g, o, rfl, hgG, (hn g hgG).1, hg, fun j hj => ⟨(l[j].toNat : Int), hc j _ (by simp [List.getElem?_eq_getElem hj])⟩⟩
theorem turnsI.keep {k : IntKind} {S : List Nat} {w0 w w' : World} {A : Option Addr} {n : Nat} {G : List Nat} (h : turnsI k w0 w A n G) (hk : keepBut S w w') (hS : ∀ y ∈ G, y ∉ S) : turnsI k w0 w' A n G := fun hn => by
  obtain ⟨g, o, h1, h2, h3, h4, h5⟩ := h hn
  refine ⟨g, o, h1, h2, h3, Nat.lt_of_lt_of_le h4 hk.size, fun j hj => ?_⟩
  obtain ⟨z, hz⟩ := h5 j hj
  exact ⟨z, (hk.cell (p := ⟨g, o + j, none⟩) h4 (hS g h2)).trans hz⟩
theorem turnsI.set {k : IntKind} {w0 w : World} {n : Nat} {G : List Nat} {g o i : Nat} {u : Int} (h : turnsI k w0 w (some ⟨g, o, none⟩) n G) (hi : i < n) : turnsI k w0 (w.setCell ⟨g, o + i, none⟩ (.int k u)) (some ⟨g, o, none⟩) n G := fun hn => by
  obtain ⟨g', o', h1, h2, h3, h4, h5⟩ := h hn
  injection h1 with h1
  injection h1 with h1a h1b
  subst h1a h1b
  refine ⟨g, o, rfl, h2, h3, by simpa using h4, fun j hj => ?_⟩
  by_cases hj2 : j = i
  · subst hj2
    obtain ⟨z, hz⟩ := h5 j hj
    exact ⟨u, World.cell?_setCell_same w _ _ hz⟩
  · obtain ⟨z, hz⟩ := h5 j hj
    exact ⟨z, (by rw [World.cell?_setCell_other w _ _ _ (by intro e; injection e with _ e2 _; omega)]; exact hz)⟩
theorem fldC (c : CF) (v : Value) (w : World) : (Instr.field 41 (.agg (cfL c v).toArray) 2).run Tryd.prog w = .ok v w := by kernel_rfl
theorem twoP (w : World) (t : TypeId) (Z X Y : List Value) (hX : X.length = Z.length) (hY : Y.length = Z.length) :
    rowAt ((((w.alloc (.cells Z.toArray t)).alloc (.cells Z.toArray t)).setCells w.heap.size 0 X).setCells (w.heap.size + 1) 0 Y) w.heap.size t X.toArray ∧ rowAt ((((w.alloc (.cells Z.toArray t)).alloc (.cells Z.toArray t)).setCells w.heap.size 0 X).setCells (w.heap.size + 1) 0 Y) (w.heap.size + 1) t Y.toArray ∧ keepBut [] w ((((w.alloc (.cells Z.toArray t)).alloc (.cells Z.toArray t)).setCells w.heap.size 0 X).setCells (w.heap.size + 1) 0 Y) ∧
    ((w.alloc (.cells Z.toArray t)).alloc (.cells Z.toArray t)).there w.heap.size 0 X.length ∧ (((w.alloc (.cells Z.toArray t)).alloc (.cells Z.toArray t)).setCells w.heap.size 0 X).there (w.heap.size + 1) 0 Y.length := by
  obtain ⟨r1, r2, kk⟩ := rowAt.two w t Z.toArray Z.toArray
  have s1 := set0 r1 hX
  have k1 : keepBut [w.heap.size] _ (((w.alloc (.cells Z.toArray t)).alloc (.cells Z.toArray t)).setCells w.heap.size 0 X) := (keepBut.refl _ _).setL (.inl (by simp))
  have r2' := k1.row r2 (by simp)
  have s2 := set0 r2' hY
  have k2 : keepBut [w.heap.size + 1] _ ((((w.alloc (.cells Z.toArray t)).alloc (.cells Z.toArray t)).setCells w.heap.size 0 X).setCells (w.heap.size + 1) 0 Y) := (keepBut.refl _ _).setL (.inl (by simp))
  exact ⟨k2.row s1 (by simp), s2, (kk.then k1 (by simp)).then k2 (by simp), r1.there (by simp; omega), r2'.there (by simp; omega)⟩
def sameRelL (w0 w7 : World) (p q m : Nat) (s : SS) (c : Nat) (C1 C2 : List Value) (A : Option Addr) (n : Nat) (G : List Nat) (v7 : Value) (wx : World) : Prop :=
  ∃ i : Nat, i ≤ n ∧ v7 = .int .i64 (i : Int) ∧ Hid (rowAt wx c 41 C1.toArray ∧ rowAt wx (c + 1) 41 C2.toArray ∧ keepBut G w7 wx ∧ keepBut [] w0 wx ∧ turnsI .i64 w0 wx A n G)
set_option maxHeartbeats 8000000 in
theorem same_any {p q m : Nat} {s : SS} {w : World} (h : both [] w p q m s) :
    Calls Tryd.prog 12 #[.pointer (some ⟨p, 0, none⟩), .pointer (some ⟨m, 0, none⟩)] w (fun e w' => e = .returned (.bool true) ∧ both [] w' p q m s ∧ keepBut [] w w') := by
  have H0 := Lib.hid h
  have hcl := h.on.fit.chain
  have HCL := Lib.hid hcl
  obtain ⟨Z, hZ⟩ : ∃ Z, cfL cfZero nilV = Z := ⟨_, rfl⟩
  have HZ := Lib.hid (show (Tryd.prog.info? 41).bind (·.zero) = some (.agg Z.toArray) ∧ Z.length = 3 by rw [← hZ]; exact ⟨zv_cf, rfl⟩)
  clear h hcl hZ
  go_enter Tryd.func12, Tryd.ntmps12
  go_upto_region 2 with (first
    | (go_at_call 22; (with_reducible refine H0.out.on.conf.mono ?_); rintro e w1 ⟨cv1, G1, rfl, hi1, hn1, k1⟩; obtain ⟨C1, hC1⟩ : ∃ C, cfL s.conf cv1 = C := ⟨_, rfl⟩; rw [hC1]; have H1 := Lib.hid (And.intro hi1 (And.intro hn1 (And.intro k1 (And.intro hC1 (H0.out.also k1 hn1))))); have HCO := Lib.hid (show C1.length = 3 ∧ ∀ u ∈ C1, u.oneCell' = true by rw [← hC1]; exact ⟨rfl, cfL_one _ hi1.one⟩); clear hi1 hn1 k1 hC1)
    | (go_at_call 37; (with_reducible refine H1.out.2.2.2.2.ref.conf.mono ?_); rintro e w2 ⟨cv2, G2, rfl, hi2, hn2, k2⟩; obtain ⟨C2, hC2⟩ : ∃ C, cfL s.conf cv2 = C := ⟨_, rfl⟩; rw [hC2]; have H2 := Lib.hid (And.intro hi2 (And.intro hn2 (And.intro k2 hC2))); have HCP := Lib.hid (show C2.length = 3 ∧ ∀ u ∈ C2, u.oneCell' = true by rw [← hC2]; exact ⟨rfl, cfL_one _ hi2.one⟩); have HTW := Lib.hid (twoP w2 41 Z C1 C2 (by rw [HCO.out.1, HZ.out.2]) (by rw [← hC2, HZ.out.2]; rfl)); obtain ⟨cc, hcc⟩ : ∃ c, w2.heap.size = c := ⟨_, rfl⟩; rw [hcc] at HTW; have HS := Lib.hid hcc; clear hi2 hn2 k2 hC2)
    | (with_reducible refine wpList_alloc_to _ _ rfl 41 rfl _ HZ.out.1 rfl ?_)
    | (simp only [hcc, World.size_alloc]; refine wpList_store_mid rfl 41 (.tmp 5) (.tmp 9) rfl cc 0 C1.toArray rfl rfl (by rw [List.size_toArray]; exact HTW.out.2.2.2.1) (by rw [List.size_toArray, HCO.out.1]; exact info_cf) (by simpa using HCO.out.2) ?_)
    | (refine wpList_store_mid rfl 41 (.tmp 6) (.tmp 11) rfl (cc + 1) 0 C2.toArray rfl rfl (by rw [List.size_toArray]; exact HTW.out.2.2.2.2) (by rw [List.size_toArray, HCP.out.1]; exact info_cf) (by simpa using HCP.out.2) ?_))
  obtain ⟨A, c1, rfl, hA1, hA2, ht1⟩ := H1.out.1.turns H1.out.2.1
  obtain ⟨B, c2, rfl, hB1, hB2, _⟩ := H2.out.1.turns H2.out.2.1
  obtain ⟨t1, t2, t3, _, _⟩ := HTW.out
  generalize ((((w2.alloc (.cells Z.toArray 41)).alloc (.cells Z.toArray 41)).setCells cc 0 C1).setCells (cc + 1) 0 C2) = w6 at t1 t2 t3 ⊢
  have K6 := (H1.out.2.2.1.then H2.out.2.2.1 (by simp)).then t3 (by simp)
  have hb6 : both G1 w6 p q m s := (H1.out.2.2.2.2.over H2.out.2.2.1).over t3
  have hc1 : held w6 G1 (.slice A s.conf.chain.length c1) s.conf.chain := ((H1.out.1.keep H2.out.2.2.1 (by simp)).keep t3 (by simp)).held HCL.out
  have hc2 : held w6 G2 (.slice B s.conf.chain.length c2) s.conf.chain := (H2.out.1.keep t3 (by simp)).held HCL.out
  have ht6 := (ht1.keep H2.out.2.2.1 (by simp)).keep t3 (by simp)
  have hGc : ∀ y ∈ G1, y < cc := fun y hy => by have a := (H1.out.2.1 y hy).2; have b := H2.out.2.2.1.size; have c := HS.out; omega
  have hGd : ∀ y ∈ G2, y ∉ G1 := fun y hy hm => by have a := (H1.out.2.1 y hm).2; have b := (H2.out.2.1 y hy).1; omega
  have a0 : w6.cell? ⟨cc, 0, none⟩ = some (.int .i64 s.conf.num) := by rw [t1.cell, ← H1.out.2.2.2.1]; rfl
  have a1 : w6.cell? ⟨cc, 1, none⟩ = some (.int .i64 s.conf.full) := by rw [t1.cell, ← H1.out.2.2.2.1]; rfl
  have a2 : C1.toArray[2]? = some (.slice A s.conf.chain.length c1) := by rw [← H1.out.2.2.2.1]; rfl
  have b0 : w6.cell? ⟨cc + 1, 0, none⟩ = some (.int .i64 s.conf.num) := by rw [t2.cell, ← H2.out.2.2.2]; rfl
  have b1 : w6.cell? ⟨cc + 1, 1, none⟩ = some (.int .i64 s.conf.full) := by rw [t2.cell, ← H2.out.2.2.2]; rfl
  have b2 : C2.toArray[2]? = some (.slice B s.conf.chain.length c2) := by rw [← H2.out.2.2.2]; rfl
  obtain ⟨n, hn⟩ : ∃ n, s.conf.chain.length = n := ⟨_, rfl⟩
  have HLN := Lib.hid hn
  rw [hn] at a2 b2 hA1 hB1 hc1 hc2 ht6
  have hnm : n ≤ 9223372036854775807 := by unfold maxLen at hA2; omega
  have a2' : w6.cell? ⟨cc, 2, none⟩ = some (.slice A n c1) := (t1.cell 2).trans a2
  have b2' : w6.cell? ⟨cc + 1, 2, none⟩ = some (.slice B n c2) := (t2.cell 2).trans b2
  obtain ⟨nu, hnu⟩ : ∃ k, s.conf.num = k := ⟨_, rfl⟩
  obtain ⟨fu, hfu⟩ : ∃ k, s.conf.full = k := ⟨_, rfl⟩
  rw [hnu] at a0 b0
  rw [hfu] at a1 b1
  have HE := Lib.hid (eqInts_any G1 G2 _ _ _ _ w6 hc1 hc2)
  have hdd : decide (s.conf.chain = s.conf.chain) = true := by simp
  rw [hdd] at HE
  have H6 := Lib.hid (And.intro t1 (And.intro t2 (And.intro K6 (And.intro hb6 (And.intro ht6 (And.intro hGc (And.intro hGd (And.intro (And.intro a2 b2) hc2))))))))
  have hwt : (s.waits != s.waits) = false := by simp
  have hlt : (s.late != s.late) = false := by simp
  have hls : (s.last != s.last) = false := by simp
  clear t1 t2 t3 K6 hb6 hc1 hc2 ht6 hGc hGd a2 b2 hn hnu hfu hdd ht1 hA2 hB2 hA1 hB1 hcc
  go_wp2_with (first
    | (go_at_call 18; (with_reducible refine H6.out.2.2.2.1.on.waits.mono ?_); rintro e w' ⟨rfl, rfl⟩)
    | (go_at_call 38; (with_reducible refine H6.out.2.2.2.1.ref.waits.mono ?_); rintro e w' ⟨rfl, rfl⟩)
    | (go_at_call 25; (with_reducible refine H6.out.2.2.2.1.on.late.mono ?_); rintro e w' ⟨rfl, rfl⟩)
    | (go_at_call 39; (with_reducible refine H6.out.2.2.2.1.ref.late.mono ?_); rintro e w' ⟨rfl, rfl⟩)
    | (go_at_call 15; (with_reducible refine H6.out.2.2.2.1.on.num.mono ?_); rintro e w' ⟨rfl, rfl⟩)
    | (go_at_call 40; (with_reducible refine H6.out.2.2.2.1.ref.num.mono ?_); rintro e w' ⟨rfl, rfl⟩)
    | (go_at_call 41; (with_reducible refine HE.out.mono ?_); rintro e w7 ⟨rfl, k7⟩; have H7 := Lib.hid k7; clear k7))
  clear a0 a1 a2' b0 b1 b2' hwt hlt hls
  go_loopw [7] (fun v7 wx => sameRelL w w7 p q m s cc C1 C2 A n G1 v7 wx) (fun v7 _ => n - (intOf v7).toNat)
  case atStart => exact ⟨0, Nat.zero_le _, rfl, Lib.hid ⟨H7.out.row H6.out.1 (by simp), H7.out.row H6.out.2.1 (by simp), keepBut.refl _ _, H6.out.2.2.1.then H7.out (by simp), H6.out.2.2.2.2.1.keep H7.out (by simp)⟩⟩
  case round =>
    obtain ⟨i, hil, rfl, HI⟩ := hrel
    have a2' : wr.cell? ⟨cc, 2, none⟩ = some (.slice A n c1) := (HI.out.1.cell 2).trans H6.out.2.2.2.2.2.2.2.1.1
    by_cases hlt : i < n
    · obtain ⟨g, o, rfl, hg1, hg2, hg3, hg4⟩ := HI.out.2.2.2.2 (by omega)
      obtain ⟨z, hz⟩ := hg4 i hlt
      have hfr := HI.out.2.2.2.1.free hg2 (o + i)
      have hi2 : (i : Int) < (n : Int) := by omega
      have hi0 : (0 : Int) ≤ (i : Int) := by omega
      have hwi : IntKind.i64.wrap ((i : Int) + 1) = (i : Int) + 1 := by rw [IntKind.wrap_i64]; omega
      have HG := Lib.hid (And.intro hg1 (And.intro hg2 hg3))
      clear hg1 hg2 hg3 hg4
      go_wp2_with fail
      go_roundw
      case rel =>
        have kk : keepBut G1 wr (wr.setCell ⟨g, o + i, none⟩ (.int .i64 (-9))) := (keepBut.refl G1 wr).setCell _ _ (.inl HG.out.1)
        have hGc := H6.out.2.2.2.2.2.1
        exact ⟨i + 1, by omega, by go_num, Lib.hid ⟨kk.row HI.out.1 (fun hm => by have := hGc _ hm; omega), kk.row HI.out.2.1 (fun hm => by have := hGc _ hm; omega), HI.out.2.2.1.then kk (fun x hx => .inl hx), HI.out.2.2.2.1.setCell _ _ (.inr HG.out.2.1), HI.out.2.2.2.2.set hlt⟩⟩
      case measure => simp only [intOf]; omega
    · obtain rfl : i = n := by omega
      have hbx : both G1 wr p q m s := (H6.out.2.2.2.1.over H7.out).keep HI.out.2.2.1 (fun y hy => hy)
      have hcx : held wr G2 (.slice B i c2) s.conf.chain := (H6.out.2.2.2.2.2.2.2.2.keep H7.out (by simp)).keep HI.out.2.2.1 H6.out.2.2.2.2.2.2.1
      have HX := Lib.hid (And.intro hbx (And.intro hcx HI.out))
      have HP := Lib.hid (show ∀ w', keepBut [] wr w' → w'.cell? ⟨cc + 1, 2, none⟩ = some (.slice B i c2) from fun w' hk => (hk.cell (p := ⟨cc + 1, 2, none⟩) HI.out.2.1.lt (by simp)).trans ((HI.out.2.1.cell 2).trans H6.out.2.2.2.2.2.2.2.1.2))
      clear hbx hcx hlt hil
      go_upto_region 8 with fail
      refine wp_region_held_drew (S := keepBut [] wr) (by kernel_rfl) ((keepBut.refl [] wr).drew) (fun _ => ?_)
      have kW := (keepBut.refl [] wr).drew
      generalize wr.drew = W0 at kW ⊢
      refine wpAnyH_take (i := 0) (oi := ⟨_, _, _, _, _, _⟩) (v := ?_) rfl (by kernel_rfl) (by kernel_rfl) (by kernel_rfl) (fun _ _ _ h => h) (Or.inl ⟨by rfl, ?_⟩) kW ?_
      rotate_left
      · intro w' hSw; clear hSw; (go_simp; try with_reducible rfl)
      try simp only [Act.put, List.setIfInBounds_toArray, List.set_cons_zero, List.set_cons_succ]
      refine wpAnyH_take (i := 3) (oi := ⟨_, _, _, _, _, _⟩) (v := ?_) rfl (by kernel_rfl) (by kernel_rfl) (by kernel_rfl) (fun _ _ _ h => h) (Or.inl ⟨by rfl, ?_⟩) kW ?_
      rotate_left
      · intro w' hSw; clear hSw; (go_simp; try with_reducible rfl)
      try simp only [Act.put, List.setIfInBounds_toArray, List.set_cons_zero, List.set_cons_succ]
      refine wpAnyH_take (i := 4) (oi := ⟨_, _, _, _, _, _⟩) (v := ?_) rfl (by kernel_rfl) (by kernel_rfl) (by kernel_rfl) (fun _ _ _ h => h) (Or.inl ⟨by rfl, ?_⟩) kW ?_
      rotate_left
      · intro w' hSw; have xc := HP.out w' hSw; clear hSw; (go_simp; try with_reducible rfl)
      try simp only [Act.put, List.setIfInBounds_toArray, List.set_cons_zero, List.set_cons_succ]
      refine wpAnyH_ready (rs := [1]) (by kernel_rfl) (by simp) ?_
      refine AllReadyH.cons (o := ⟨_, _, _, _, _, _⟩) rfl (fun KK hKK => ?_) AllReadyH.nil
      go_simp
      (with_reducible refine ((HX.out.1.over kW).on.conf).mono ?_); rintro e w8 ⟨cv3, G3, rfl, hi3, hn3, k3⟩
      obtain ⟨D, c3, _, rfl, _⟩ := id hi3
      replace kW := kW.then k3 (by simp)
      have HE8 := Lib.hid (eqInts_any G3 G2 _ _ _ _ w8 (hi3.held HCL.out) (HX.out.2.1.keep kW (by simp)))
      have hdd : decide (s.conf.chain = s.conf.chain) = true := by simp
      rw [hdd] at HE8
      clear hdd hi3 hn3 k3
      go_wp2_with fail
      refine hKK.out _ _ kW (fun _ => ?_)
      clear hKK KK
      try simp only [Act.put, List.setIfInBounds_toArray, List.set_cons_zero, List.set_cons_succ]
      refine wpAnyH_take (i := 2) (oi := ⟨_, _, _, _, _, _⟩) (v := .slice D s.conf.chain.length c3) rfl (by kernel_rfl) (by kernel_rfl) (by kernel_rfl) (fun _ _ _ h => h) (Or.inl ⟨by rfl, ?_⟩) kW ?_
      · intro w' hSw; clear hSw; have hf := fldC s.conf (.slice D s.conf.chain.length c3) w'; (go_simp; try with_reducible rfl)
      try simp only [Act.put, List.setIfInBounds_toArray, List.set_cons_zero, List.set_cons_succ]
      rw [HLN.out]
      rw [HLN.out] at HE8
      refine wpAnyH_ready (rs := [5]) (by kernel_rfl) (by simp) ?_
      refine AllReadyH.cons (o := ⟨_, _, _, _, _, _⟩) rfl (fun KK hKK => ?_) AllReadyH.nil
      go_simp
      (try rw [HLN.out]); (with_reducible refine HE8.out.mono ?_); rintro e w9 ⟨rfl, k9⟩
      replace kW := kW.then k9 (by simp)
      clear k9
      go_wp2_with fail
      refine hKK.out _ _ kW (fun _ => ?_)
      clear hKK KK
      try simp only [Act.put, List.setIfInBounds_toArray, List.set_cons_zero, List.set_cons_succ]
      refine wpAnyH_take (i := 6) (oi := ⟨_, _, _, _, _, _⟩) (v := ?_) rfl (by kernel_rfl) (by kernel_rfl) (by kernel_rfl) (fun _ _ _ h => h) (Or.inl ⟨by rfl, ?_⟩) kW ?_
      rotate_left
      · intro w' hSw; clear hSw; (go_simp; try with_reducible rfl)
      try simp only [Act.put, List.setIfInBounds_toArray, List.set_cons_zero, List.set_cons_succ]
      refine wpAnyH_done (by kernel_rfl) ?_ _
      go_wp2_with fail
      go_ret
      exact ⟨rfl, (HX.out.1.over kW).less (by simp), HX.out.2.2.2.2.2.1.then kW (by simp)⟩
end Go.Proofs.YtkpmlcgbffdloaaDoor
end

section
namespace Go.Proofs.YtkpmlcgbffdloaaDoor
open Go.RowKit
set_option linter.unusedVariables false
set_option maxRecDepth 100000
set_option linter.unusedSimpArgs false

theorem info_do : (Tryd.prog.info? 46).map (·.size) = some 127 := by kernel_rfl
theorem pkL_put82 {x : PK} {xe xa xc xv xb c : Value} (h1 : x.req.name.length = 32) (h2 : x.ans.name.length = 32) : putL (pkL x xe xa xc xv xb).toArray 82 (cfL x.conf c) = (pkL x xe xa c xv xb).toArray := by
  have e1 : (rqL x.req xe).length = 37 := rqL_len h1
  have e2 : (anL x.ans xa).length = 38 := anL_len h2
  have p := putL_mid (.int .i64 x.kind :: .int .i64 x.frm :: .int .i64 x.dst :: .int .i64 x.num :: .int .i64 x.seq :: .int .i64 x.ballot :: .bool x.ready :: (rqL x.req xe ++ anL x.ans xa)) (cfL x.conf xc) (cfL x.conf c) [xv, xb] rfl
  have el : (.int .i64 x.kind :: .int .i64 x.frm :: .int .i64 x.dst :: .int .i64 x.num :: .int .i64 x.seq :: .int .i64 x.ballot :: .bool x.ready :: (rqL x.req xe ++ anL x.ans xa) : List Value).length = 82 := by simp [e1, e2]
  rw [el] at p
  simpa [pkL] using p
theorem pkL_put44 {x : PK} {xe xa xc xv xb a : Value} (h1 : x.req.name.length = 32) (h2 : x.ans.name.length = 32) : putL (pkL x xe xa xc xv xb).toArray 44 (anL x.ans a) = (pkL x xe a xc xv xb).toArray := by
  have e1 : (rqL x.req xe).length = 37 := rqL_len h1
  have e2 : (anL x.ans xa).length = 38 := anL_len h2
  have e3 : (anL x.ans a).length = 38 := anL_len h2
  have p := putL_mid (.int .i64 x.kind :: .int .i64 x.frm :: .int .i64 x.dst :: .int .i64 x.num :: .int .i64 x.seq :: .int .i64 x.ballot :: .bool x.ready :: rqL x.req xe) (anL x.ans xa) (anL x.ans a) (cfL x.conf xc ++ [xv, xb]) (by rw [e2, e3])
  have el : (.int .i64 x.kind :: .int .i64 x.frm :: .int .i64 x.dst :: .int .i64 x.num :: .int .i64 x.seq :: .int .i64 x.ballot :: .bool x.ready :: rqL x.req xe : List Value).length = 44 := by simp [e1]
  rw [el] at p
  simpa [pkL] using p
def takeRel (w0 w5 w12 : World) (c20 c21 c23 : Nat) (Y N9 N11 : List Value) (A : Option Addr) (n : Nat) (G : List Nat) (v : Value) (wx : World) : Prop :=
  ∃ i : Nat, i ≤ n ∧ v = .int .i64 (i : Int) ∧ Hid (rowAt wx c20 44 Y.toArray ∧ rowAt wx c21 39 N9.toArray ∧ rowAt wx c23 39 N11.toArray ∧ keepBut G w12 wx ∧ keepBut [] w0 wx ∧ turnsI .i64 w5 wx A n G)
end Go.Proofs.YtkpmlcgbffdloaaDoor
end
