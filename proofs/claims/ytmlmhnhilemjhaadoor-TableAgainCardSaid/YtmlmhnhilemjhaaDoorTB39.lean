/-
  TABLE, 39: the law's name, envelope and question.
-/
import Derived.Test.YtmlmhnhilemjhaaDoorTB38
import Derived.Test.YtmlmhnhilemjhaaDoorEqB
import Derived.Deep.OwnRows
namespace Go.Proofs.YtmlmhnhilemjhaaDoor
open Go.RowKit
set_option linter.unusedVariables false
set_option maxRecDepth 100000
set_option linter.unusedSimpArgs false

def nameP (c : Nat) : List UInt8 := UInt8.ofNat c :: 0 :: 0 :: 0 :: 0 :: UInt8.ofNat (c * 7) :: List.replicate 26 0
theorem nameP_len (c : Nat) : (nameP c).length = 32 := rfl
theorem name_cells (c : Nat) : ((nameL nameZ).toArray.setIfInBounds 0 (bv (UInt8.ofNat c))).setIfInBounds 5 (bv (UInt8.ofNat (c * 7))) = (nameL (nameP c)).toArray := rfl
set_option maxHeartbeats 4000000 in
theorem name_any (c : Nat) (hc : c < 6) (w : World) :
    Calls Tryd.prog 16 #[.int .i64 (c : Int)] w fun e w' => e = .returned (.agg (nameL (nameP c)).toArray) ∧ keepBut [] w w' := by
  obtain ⟨Z, hZ⟩ : ∃ Z, nameL nameZ = Z := ⟨_, rfl⟩
  have hz := zv_nm
  have hcl := name_cells c
  have hz0 : Z.toArray[0]? = some (.int .u8 0) := by rw [← hZ]; rfl
  have hz5 : Z.toArray[5]? = some (.int .u8 0) := by rw [← hZ]; rfl
  rw [hZ] at hz hcl
  have hZl : Z.length = 32 := by rw [← hZ, nameL_len, nameZ_len]
  obtain ⟨Y, hY⟩ : ∃ Y, nameL (nameP c) = Y := ⟨_, rfl⟩
  have hYl : Y.length = 32 := by rw [← hY, nameL_len, nameP_len]
  have hYo : ∀ v ∈ Y, v.oneCell' = true := by rw [← hY]; exact nameL_one
  rw [hY] at hcl ⊢
  obtain ⟨w1, hw1⟩ : ∃ w1, w.alloc (.cells Z.toArray 28) = w1 := ⟨_, rfl⟩
  obtain ⟨w2, hw2⟩ : ∃ w2, w1.alloc (.cells Z.toArray 28) = w2 := ⟨_, rfl⟩
  obtain ⟨b1, hb1⟩ : ∃ b1, w.heap.size = b1 := ⟨_, rfl⟩
  obtain ⟨b2, hb2⟩ : ∃ b2, w1.heap.size = b2 := ⟨_, rfl⟩
  have r0 : rowAt w1 b1 28 Z.toArray := hb1 ▸ hw1 ▸ rowAt.new _ _ _
  have r2 : rowAt w2 b2 28 Z.toArray := hb2 ▸ hw2 ▸ rowAt.new _ _ _
  have k1 : keepBut [] w w1 := hw1 ▸ (keepBut.refl [] w).alloc _
  have k2 : keepBut [] w1 w2 := hw2 ▸ (keepBut.refl [] w1).alloc _
  have HW1 := Lib.hid hw1
  have HW2 := Lib.hid hw2
  have HB := Lib.hid (And.intro hb1 (And.intro hb2 (hb2 ▸ r0.lt : b1 < b2)))
  have H1 := Lib.hid (k2.row r0 (by simp))
  have H2 := Lib.hid r2
  have HK := Lib.hid (k1.then k2 (by simp))
  have HZ := Lib.hid (And.intro hz hZl)
  have HY := Lib.hid (And.intro hYl (And.intro hYo (And.intro hY hcl)))
  have y0 := (r2.cell 0).trans hz0
  have y5 := (r2.cell 5).trans hz5
  have f0 := r2.free 0
  have f5 := r2.free 5
  clear hw1 hw2 hb1 hb2 r0 r2 k1 k2 hz hZl hYl hYo hcl hz0 hz5 hZ hY
  have hu1 : Value.int .u8 ((c : Int) % 256) = bv (UInt8.ofNat c) := by
    match c, hc with
    | 0, _ | 1, _ | 2, _ | 3, _ | 4, _ | 5, _ => rfl
  have hw7 : wrap64 ((c : Int) * 7) = (c : Int) * 7 := by unfold wrap64; omega
  have hu2 : Value.int .u8 (wrap64 ((c : Int) * 7) % 256) = bv (UInt8.ofNat (c * 7)) := by
    rw [hw7]
    match c, hc with
    | 0, _ | 1, _ | 2, _ | 3, _ | 4, _ | 5, _ => rfl
  have HU := Lib.hid (And.intro hu1 hu2)
  clear hu1 hu2 hc hw7
  go_enter Tryd.func16, Tryd.ntmps16
  go_upto_region 2 with (first
    | (with_reducible refine wpList_alloc_to _ _ rfl 28 rfl _ HZ.out.1 HW1.out ?_; rw [HB.out.1])
    | (with_reducible refine wpList_alloc_to _ _ rfl 28 rfl _ HZ.out.1 HW2.out ?_; rw [HB.out.2.1]))
  go_upto_region 3 with fail
  rw [HU.out.1, HU.out.2]
  have r3 := (H2.out.set 0 (bv (UInt8.ofNat c))).set 5 (bv (UInt8.ofNat (c * 7)))
  rw [HY.out.2.2.2] at r3
  have k3 := (kset w2 b2 0 (bv (UInt8.ofNat c))).then (kset _ b2 5 (bv (UInt8.ofNat (c * 7)))) (fun x hx => .inl hx)
  generalize (w2.setCell ⟨b2, 0, none⟩ (bv (UInt8.ofNat c))).setCell ⟨b2, 5, none⟩ (bv (UInt8.ofNat (c * 7))) = w3 at *
  have R3 := Lib.hid r3
  have R1 := Lib.hid (k3.row H1.out (by have := HB.out.2.2; simp; omega))
  have K3 := Lib.hid k3
  clear r3 k3 y0 y5 f0 f5
  go_wp2_with (first
    | (refine wpList_load_mid rfl 28 (.tmp 3) rfl b2 0 rfl Y _ R3.out.rangeAll Tryd.underlying28 rfl (by rw [HY.out.1]; exact infoName) ?_)
    | (refine wpList_store_mid rfl 28 (.tmp 2) (.tmp 11) rfl b1 0 Y.toArray rfl rfl (R1.out.there (by simp only [List.size_toArray]; rw [HY.out.1, HZ.out.2]; omega)) (by rw [List.size_toArray, HY.out.1]; exact infoName) (all_oneCell_toArray HY.out.2.1) ?_))
  have r4 := R1.out.setL (vs := Y) (o := 0)
  rw [putL_all (by simp only [List.size_toArray]; rw [HY.out.1, HZ.out.2])] at r4
  have k4 := (keepBut.refl [b1] w3).setL (vs := Y) (g := b1) (o := 0) (.inl (by simp))
  refine bodyPost_ret (results_cell_row rfl _ _ b1 28 _ (0, 0) _ rfl r4 Tryd.underlying28 rfl (by rw [List.size_toArray, HY.out.1]; exact infoName)) rfl ?_
  exact ⟨rfl, (HK.out.then K3.out (fun x hx => by simp at hx; subst hx; right; have := HB.out; omega)).then k4 (fun x hx => by simp at hx; subst hx; right; have := HB.out; omega)⟩
def byteP (c : Int) : UInt8 := UInt8.ofNat (c % 256).toNat
def envP (c : Int) : List UInt8 := List.replicate 45 (byteP c)
def envN2 (c : Int) (i : Nat) : List Value := (List.replicate i (byteP c)).map bv ++ (List.replicate (45 - i) (0 : UInt8)).map bv
theorem envN2_set (c : Int) (i : Nat) (h : i < 45) : (envN2 c i).toArray.setIfInBounds i (bv (byteP c)) = (envN2 c (i + 1)).toArray := by
  unfold envN2
  have e : (List.replicate (45 - i) (0 : UInt8)).map bv = bv 0 :: (List.replicate (45 - (i + 1)) (0 : UInt8)).map bv := by
    rw [show 45 - i = (45 - (i + 1)) + 1 by omega, List.replicate_succ, List.map_cons]
  rw [e]
  rw [set_mid (a := (List.replicate i (byteP c)).map bv) (b := (List.replicate (45 - (i + 1)) (0 : UInt8)).map bv) (x := bv 0) rfl (by simp)]
  rw [List.replicate_succ', List.map_append, List.append_assoc]
  rfl
theorem envN2_at (c : Int) (i : Nat) (h : i < 45) : (envN2 c i).toArray[i]? = some (.int .u8 0) := by
  unfold envN2
  have hl : ((List.replicate i (byteP c)).map bv).length = i := by simp
  rw [List.getElem?_toArray, List.getElem?_append_right (by omega), hl, Nat.sub_self, show 45 - i = (45 - (i + 1)) + 1 by omega, List.replicate_succ]
  rfl
set_option maxHeartbeats 4000000 in
theorem env_any (c : Int) (w : World) :
    Calls Tryd.prog 17 #[.int .i64 c] w fun e w' => ∃ v G, e = .returned v ∧ bytesV w' G v (envP c) ∧ newIn w w' G ∧ keepBut [] w w' := by
  have hu : Value.int .u8 (c % 256) = bv (byteP c) := by
    unfold bv byteP
    have h1 : 0 ≤ c % 256 ∧ c % 256 < 256 := by omega
    congr 1
    rw [UInt8.toNat_ofNat']
    omega
  have HU := Lib.hid hu
  have hmk : (Instr.makeSlice 29 (.int .i64 45) (.int .i64 45)).run Tryd.prog w = .ok (.slice (some ⟨w.heap.size, 0, none⟩) 45 45) (w.alloc (.cells (envN2 c 0).toArray 5)) :=
    by
      have hm : madeCells #[.int .u8 0] 45 = (envN2 c 0).toArray := by kernel_rfl
      rw [← hm]
      exact run_make_row' 29 5 (.int .u8 0) 1 Tryd.underlying29 infoU8c rfl .i64 .i64 45 (by omega) (by omega) w
  have r1 := rowAt.new w 5 (envN2 c 0).toArray
  have k1 := (keepBut.refl [] w).alloc (.cells (envN2 c 0).toArray 5)
  obtain ⟨g, hg⟩ : ∃ g, w.heap.size = g := ⟨_, rfl⟩
  rw [hg] at r1 hmk
  generalize w.alloc (.cells (envN2 c 0).toArray 5) = w1 at *
  have HG := Lib.hid hg
  have R1 := Lib.hid r1
  have K1 := Lib.hid k1
  clear r1 k1 hg hu
  go_enter Tryd.func17, Tryd.ntmps17
  go_wp2
  go_loopw [4] (fun i wr => ∃ j : Nat, i = .int .i64 j ∧ j ≤ 45 ∧ rowAt wr g 5 (envN2 c j).toArray ∧ keepBut [g] w1 wr) (fun i _ => 45 - (intOf i).toNat)
  case atStart => exact ⟨0, rfl, by omega, R1.out, keepBut.refl _ _⟩
  case round =>
    obtain ⟨j, rfl, hj, hr, hk⟩ := hrel
    by_cases hlt : j < 45
    · have y0 := (hr.cell j).trans (envN2_at c j hlt)
      have f0 := hr.free j
      have r2 := hr.set j (bv (byteP c))
      rw [envN2_set c j hlt] at r2
      have H2 := Lib.hid (And.intro r2 (hk.then (kset wr g j (bv (byteP c))) (fun x hx => .inl hx)))
      have bj : (j : Int) < 45 := by omega
      clear r2 hr hk
      go_wp2
      rw [HU.out]
      go_roundw
      case rel => exact ⟨j + 1, by go_num, by omega, H2.out.1, H2.out.2⟩
      case measure => simp [intOf]; omega
    · obtain rfl : j = 45 := by omega
      have H2 := Lib.hid (And.intro hr hk)
      clear hr hk
      go_wp2
      go_ret
      have hs : seen wr (some ⟨g, 0, none⟩) g (envP c) := fun _ => ⟨0, rfl, H2.out.1.lt, fun i b hb => by
        rw [H2.out.1.cell, Nat.zero_add]
        have e : envN2 c 45 = (envP c).map bv := by unfold envN2 envP; simp
        rw [e, List.getElem?_toArray, List.getElem?_map, hb]; rfl⟩
      have he : (envP c).length = 45 := by unfold envP; simp
      have hs1 := K1.out.size
      refine ⟨.slice (some ⟨g, 0, none⟩) 45 45, [g], rfl, ⟨some ⟨g, 0, none⟩, 45, g, by rw [he], by rw [he]; omega, by simp [maxLen], hs, fun _ => by simp⟩, fun y hy => ?_, K1.out.then H2.out.2 (fun x hx => by simp at hx; subst hx; right; have := HG.out; omega)⟩
      simp only [List.mem_singleton] at hy
      subst hy
      exact ⟨by have := HG.out; omega, H2.out.1.lt⟩
theorem eqb_any {w : World} {G H : List Nat} {u v : Value} {l m : List UInt8} (hu : bytesV w G u l) (hv : bytesV w H v m) :
    Calls Tryd.prog 12 #[u, v] w fun e w' => e = .returned (.bool (l == m)) ∧ w = w' := by
  obtain ⟨A, c, g, rfl, _, _, h1, _⟩ := hu
  obtain ⟨B, d, k, rfl, _, _, h2, _⟩ := hv
  exact eqBytes_any A B g k c d l m w h1 h2
/-- is it answered so? -/
def asksOk (x : PT × AN × Int) (r : RQ) (code version wth : Int) : Prop := x.2.2 = 0 ∧ x.2.1.client = 1 ∧ x.2.1.num = r.num ∧ x.2.1.code = code ∧ x.2.1.version = version ∧ (wth = -1 ∧ x.2.1.env = [] ∨ wth = 1 ∧ x.2.1.env = envP 1)
theorem rqL_setClient {r : RQ} {ev : Value} (n : Int) : (rqL r ev).toArray.setIfInBounds 0 (.int .i64 n) = (rqL { r with client := n } ev).toArray := rfl
set_option maxHeartbeats 8000000 in
theorem asks_any {w0 : World} {N : List Nat} {w : World} {p : Nat} {P : PT} (h : lawT w0 N w p P) {F : List Nat} {r : RQ} {ev : Value} (hr : rqV w F r ev) (code version wth : Int) (hx : asksOk (P.done { r with client := 1 }) r code version wth) :
    Calls Tryd.prog 18 #[.pointer (some ⟨p, 0, none⟩), .agg (rqL r ev).toArray, .int .i64 code, .int .i64 version, .int .i64 wth] w
      fun e w' => e = .returned (.bool true) ∧ lawT w0 N w' p (P.done { r with client := 1 }).1 ∧ keepN N w w' := by
  obtain ⟨X, hX⟩ : ∃ X, rqL r ev = X := ⟨_, rfl⟩
  rw [hX]
  obtain ⟨w1, hw1⟩ : ∃ w1, w.alloc (.cells X.toArray 31) = w1 := ⟨_, rfl⟩
  obtain ⟨b1, hb1⟩ : ∃ b1, w.heap.size = b1 := ⟨_, rfl⟩
  have r1 : rowAt w1 b1 31 X.toArray := hb1 ▸ hw1 ▸ rowAt.new _ _ _
  have k1 : keepBut [] w w1 := hw1 ▸ (keepBut.refl [] w).alloc _
  have y0 : w1.cell? ⟨b1, 0, none⟩ = some (.int .i64 r.client) := (r1.cell 0).trans (by rw [← hX]; rfl)
  have f0 := r1.free 0
  have r2 := r1.set 0 (.int .i64 1)
  rw [← hX, rqL_setClient] at r2
  have k2 := k1.then (kset w1 b1 0 (.int .i64 1)) (fun x hx => by simp at hx; subst hx; right; omega)
  obtain ⟨X2, hX2⟩ : ∃ X2, rqL { r with client := 1 } ev = X2 := ⟨_, rfl⟩
  rw [hX2] at r2
  have HX2 := Lib.hid (And.intro (show X2.length = 37 by rw [← hX2]; exact rqL_len hr.1) hX2)
  obtain ⟨x, hx0⟩ : ∃ x, P.done { r with client := 1 } = x := ⟨_, rfl⟩
  rw [hx0] at hx ⊢
  obtain ⟨P', a, e0⟩ := x
  obtain ⟨hx1, hx2, hx3, hx4, hx5, hx6⟩ := hx
  dsimp only at hx1 hx2 hx3 hx4 hx5 hx6
  subst hx1
  subst hx4
  subst hx5
  have HX0 := Lib.hid hx0
  have HXA := Lib.hid (And.intro hx2 hx3)
  have HW1 := Lib.hid hw1
  have HB1 := Lib.hid hb1
  have HR1 := Lib.hid r2
  have HK1 := Lib.hid k2
  have HKK := Lib.hid k1
  have HR := Lib.hid hr
  have H := Lib.hid h
  have HX6 := Lib.hid hx6
  obtain ⟨Z, hZ⟩ : ∃ Z, anL anZero nilV = Z := ⟨_, rfl⟩
  have hz := zv_an
  rw [hZ] at hz
  have HZ := Lib.hid (And.intro hz (show Z.length = 38 by rw [← hZ]; exact anZ_len))
  have HB1W := Lib.hid (r1.lt)
  clear hw1 hb1 r1 r2 k1 k2 hX hX2 hr h hx0 hx2 hx3 hx6 hz hZ
  go_enter Tryd.func18, Tryd.ntmps18
  go_upto_region 2 with (with_reducible refine wpList_box_to _ _ rfl 31 (.tmp 1) rfl _ rfl HW1.out ?_; rw [HB1.out])
  clear y0 f0
  have hsz : (w1.setCell ⟨b1, 0, none⟩ (.int .i64 1)).heap.size = w1.heap.size := by simp
  generalize w1.setCell ⟨b1, 0, none⟩ (.int .i64 1) = w2 at *
  have H2 : Hid (lawT w0 (N ++ [b1]) w2 p P) := Lib.hid (H.out.also HK1.out (fun y hy => by simp at hy; subst hy; have := HB1.out; have := HB1W.out; omega))
  have HDO := Lib.hid (HX2.out.2 ▸ H2.out.done (F := F) (r := { r with client := 1 }) (ev := ev) ⟨HR.out.1, HR.out.2.keep HK1.out (by simp)⟩)
  rw [HX0.out] at HDO
  go_upto_region 3 with (first
    | (refine wpList_load_mid rfl 31 (.tmp 6) rfl b1 0 rfl X2 _ HR1.out.rangeAll Tryd.underlying31 rfl (by rw [HX2.out.1]; exact info_rq) ?_)
    | (go_at_call 11; refine HDO.out.mono ?_; rintro e w3 ⟨v, G, rfl, n3⟩; have N3 := Lib.hid n3; clear n3; obtain ⟨Y, hY⟩ : ∃ Y, anL a v = Y := ⟨_, rfl⟩; have HY := Lib.hid (And.intro (show Y.length = 38 by rw [← hY]; exact anL_len N3.out.2.2.2.2) (And.intro (show ∀ u ∈ Y, u.oneCell' = true by rw [← hY]; exact anL_one _ N3.out.1.one) hY)); rw [hY]; clear hY)
    | (refine wpList_alloc_to _ _ rfl 40 rfl _ HZ.out.1 (rfl : w3.alloc (.cells Z.toArray 40) = _) ?_; have RZ := Lib.hid (rowAt.new w3 40 Z.toArray); have KZ := Lib.hid ((keepBut.refl [] w3).alloc (.cells Z.toArray 40)); obtain ⟨d, hd⟩ : ∃ d, w3.heap.size = d := ⟨_, rfl⟩; have HD := Lib.hid hd; rw [hd] at RZ ⊢; generalize w3.alloc (.cells Z.toArray 40) = w4 at *; clear hd)
    | (refine wpList_store_mid rfl 40 (.tmp 11) (.tmp 19) rfl d 0 Y.toArray rfl rfl (RZ.out.there (by simp only [List.size_toArray]; rw [HY.out.1, HZ.out.2]; omega)) (by rw [List.size_toArray, HY.out.1]; exact info_an) (all_oneCell_toArray HY.out.2.1) ?_))
  have r5 := RZ.out.setL (vs := Y) (o := 0)
  rw [putL_all (by simp only [List.size_toArray]; rw [HY.out.1, HZ.out.2])] at r5
  have k5 := (keepBut.refl [d] w4).setL (vs := Y) (g := d) (o := 0) (.inl (by simp))
  try simp only [List.toList_toArray]
  generalize w4.setCells d 0 Y = w5 at *
  have k35 : keepBut [] w3 w5 := KZ.out.then k5 (fun x hx => by simp at hx; subst hx; right; have := HD.out; omega)
  have HT5 := Lib.hid (N3.out.2.2.1.over k35)
  have rb := (N3.out.2.2.2.1.then (.of k35)).row HR1.out (by simp)
  obtain ⟨A, c, g, hv, hc1, hc2, hse, hG⟩ := id N3.out.1
  have hY5 : ∀ j u, (anL a v).toArray[j]? = some u → w5.cell? ⟨d, j, none⟩ = some u := fun j u hu => by
    rw [HY.out.2.2] at hu
    exact (r5.cell j).trans hu
  have q0 : w5.cell? ⟨d, 0, none⟩ = some (.int .i64 1) := hY5 0 _ (by rw [← HXA.out.1]; rfl)
  have q1 : w5.cell? ⟨d, 1, none⟩ = some (.int .i64 r.num) := hY5 1 _ (by rw [← HXA.out.2]; rfl)
  have q2 : w5.cell? ⟨d, 2, none⟩ = some (.int .i64 a.code) := hY5 2 _ rfl
  have q3 : w5.cell? ⟨d, 3, none⟩ = some (.int .i64 a.version) := hY5 3 _ rfl
  have q6 : w5.cell? ⟨d, 37, none⟩ = some (.slice A a.env.length c) := hY5 37 _ (by rw [← hv]; exact anL_env N3.out.2.2.2.2)
  have qb : w5.cell? ⟨b1, 1, none⟩ = some (.int .i64 r.num) := (rb.cell 1).trans (by rw [← HX2.out.2]; rfl)
  have HBV : Hid (bytesV w5 G (.slice A a.env.length c) a.env) := Lib.hid (by rw [← hv]; exact N3.out.1.keep k35 (by simp))
  have HQ := Lib.hid (And.intro q0 (And.intro q1 (And.intro q2 (And.intro q3 (And.intro q6 qb)))))
  have K35 := Lib.hid k35
  have R5 := Lib.hid r5
  have RB := Lib.hid rb
  clear hY5 r5 k5 k35 rb hv hc1 hc2 hse hG
  rcases HX6.out with ⟨rfl, he⟩ | ⟨rfl, he⟩
  · have hl : a.env.length = 0 := by rw [he]; rfl
    have HC : Hid (∀ V, keepBut [] w5 V → V.cell? ⟨d, 37, none⟩ = some (.slice A 0 c)) := Lib.hid (fun V k => by rw [← hl]; exact ((k.row R5.out (by simp)).cell 37).trans ((R5.out.cell 37).symm.trans q6))
    clear q0 q1 q2 q3 q6 qb
    go_upto_region 3 with fail
    have KS : keepBut [] w5 w5.drew := (keepBut.refl [] w5).drew
    refine wp_region_held_drew (S := fun V => keepBut [] w5 V) (by kernel_rfl) KS (fun _ => ?_)
    refine wpAnyH_take (i := 0) (oi := ⟨_, _, _, _, _, _⟩) (v := ?_) rfl (by kernel_rfl) (by kernel_rfl) (by kernel_rfl) (fun _ _ _ h => h) (Or.inl ⟨by rfl, ?_⟩) KS ?_
    rotate_left
    · intro w' hSw; (go_simp; try with_reducible rfl)
    try simp only [Act.put, List.setIfInBounds_toArray, List.set_cons_zero, List.set_cons_succ]
    refine wpAnyH_take (i := 1) (oi := ⟨_, _, _, _, _, _⟩) (v := ?_) rfl (by kernel_rfl) (by kernel_rfl) (by kernel_rfl) (fun _ _ _ h => h) (Or.inl ⟨by rfl, ?_⟩) KS ?_
    rotate_left
    · intro w' hSw; (go_simp; try with_reducible rfl)
    try simp only [Act.put, List.setIfInBounds_toArray, List.set_cons_zero, List.set_cons_succ]
    refine wpAnyH_take (i := 2) (oi := ⟨_, _, _, _, _, _⟩) (v := ?_) rfl (by kernel_rfl) (by kernel_rfl) (by kernel_rfl) (fun _ _ _ h => h) (Or.inl ⟨by rfl, ?_⟩) KS ?_
    rotate_left
    · intro w' hSw; (go_simp; try with_reducible rfl)
    try simp only [Act.put, List.setIfInBounds_toArray, List.set_cons_zero, List.set_cons_succ]
    refine wpAnyH_take (i := 3) (oi := ⟨_, _, _, _, _, _⟩) (v := ?_) rfl (by kernel_rfl) (by kernel_rfl) (by kernel_rfl) (fun _ _ _ h => h) (Or.inl ⟨by rfl, ?_⟩) KS ?_
    rotate_left
    · intro w' hSw; (go_simp; try with_reducible rfl)
    try simp only [Act.put, List.setIfInBounds_toArray, List.set_cons_zero, List.set_cons_succ]
    refine wpAnyH_take (i := 4) (oi := ⟨_, _, _, _, _, _⟩) (v := ?_) rfl (by kernel_rfl) (by kernel_rfl) (by kernel_rfl) (fun _ _ _ h => h) (Or.inl ⟨by rfl, ?_⟩) KS ?_
    rotate_left
    · intro w' hSw; have hy := HC.out w' hSw; (go_simp; try with_reducible rfl)
    try simp only [Act.put, List.setIfInBounds_toArray, List.set_cons_zero, List.set_cons_succ]
    refine wpAnyH_take (i := 5) (oi := ⟨_, _, _, _, _, _⟩) (v := ?_) rfl (by kernel_rfl) (by kernel_rfl) (by kernel_rfl) (fun _ _ _ h => h) (Or.inl ⟨by rfl, ?_⟩) KS ?_
    rotate_left
    · intro w' hSw; (go_simp; try with_reducible rfl)
    try simp only [Act.put, List.setIfInBounds_toArray, List.set_cons_zero, List.set_cons_succ]
    refine wpAnyH_take (i := 6) (oi := ⟨_, _, _, _, _, _⟩) (v := ?_) rfl (by kernel_rfl) (by kernel_rfl) (by kernel_rfl) (fun _ _ _ h => h) (Or.inl ⟨by rfl, ?_⟩) KS ?_
    rotate_left
    · intro w' hSw; (go_simp; try with_reducible rfl)
    try simp only [Act.put, List.setIfInBounds_toArray, List.set_cons_zero, List.set_cons_succ]
    refine wpAnyH_take (i := 7) (oi := ⟨_, _, _, _, _, _⟩) (v := ?_) rfl (by kernel_rfl) (by kernel_rfl) (by kernel_rfl) (fun _ _ _ h => h) (Or.inl ⟨by rfl, ?_⟩) KS ?_
    rotate_left
    · intro w' hSw; (go_simp; try with_reducible rfl)
    try simp only [Act.put, List.setIfInBounds_toArray, List.set_cons_zero, List.set_cons_succ]
    refine wpAnyH_take (i := 8) (oi := ⟨_, _, _, _, _, _⟩) (v := ?_) rfl (by kernel_rfl) (by kernel_rfl) (by kernel_rfl) (fun _ _ _ h => h) (Or.inl ⟨by rfl, ?_⟩) KS ?_
    rotate_left
    · intro w' hSw; (go_simp; try with_reducible rfl)
    try simp only [Act.put, List.setIfInBounds_toArray, List.set_cons_zero, List.set_cons_succ]
    refine wpAnyH_take (i := 9) (oi := ⟨_, _, _, _, _, _⟩) (v := undef) rfl (by kernel_rfl) (by kernel_rfl) (by kernel_rfl) (fun _ _ _ h => h) (Or.inr ⟨by rfl, rfl⟩) KS ?_
    try simp only [Act.put, List.setIfInBounds_toArray, List.set_cons_zero, List.set_cons_succ]
    refine wpAnyH_take (i := 10) (oi := ⟨_, _, _, _, _, _⟩) (v := undef) rfl (by kernel_rfl) (by kernel_rfl) (by kernel_rfl) (fun _ _ _ h => h) (Or.inr ⟨by rfl, rfl⟩) KS ?_
    try simp only [Act.put, List.setIfInBounds_toArray, List.set_cons_zero, List.set_cons_succ]
    refine wpAnyH_take (i := 11) (oi := ⟨_, _, _, _, _, _⟩) (v := undef) rfl (by kernel_rfl) (by kernel_rfl) (by kernel_rfl) (fun _ _ _ h => h) (Or.inr ⟨by rfl, rfl⟩) KS ?_
    try simp only [Act.put, List.setIfInBounds_toArray, List.set_cons_zero, List.set_cons_succ]
    refine wpAnyH_take (i := 12) (oi := ⟨_, _, _, _, _, _⟩) (v := undef) rfl (by kernel_rfl) (by kernel_rfl) (by kernel_rfl) (fun _ _ _ h => h) (Or.inr ⟨by rfl, rfl⟩) KS ?_
    try simp only [Act.put, List.setIfInBounds_toArray, List.set_cons_zero, List.set_cons_succ]
    refine wpAnyH_take (i := 13) (oi := ⟨_, _, _, _, _, _⟩) (v := undef) rfl (by kernel_rfl) (by kernel_rfl) (by kernel_rfl) (fun _ _ _ h => h) (Or.inr ⟨by rfl, rfl⟩) KS ?_
    try simp only [Act.put, List.setIfInBounds_toArray, List.set_cons_zero, List.set_cons_succ]
    refine wpAnyH_take (i := 14) (oi := ⟨_, _, _, _, _, _⟩) (v := undef) rfl (by kernel_rfl) (by kernel_rfl) (by kernel_rfl) (fun _ _ _ h => h) (Or.inr ⟨by rfl, rfl⟩) KS ?_
    try simp only [Act.put, List.setIfInBounds_toArray, List.set_cons_zero, List.set_cons_succ]
    refine wpAnyH_take (i := 15) (oi := ⟨_, _, _, _, _, _⟩) (v := undef) rfl (by kernel_rfl) (by kernel_rfl) (by kernel_rfl) (fun _ _ _ h => h) (Or.inr ⟨by rfl, rfl⟩) KS ?_
    try simp only [Act.put, List.setIfInBounds_toArray, List.set_cons_zero, List.set_cons_succ]
    refine wpAnyH_take (i := 16) (oi := ⟨_, _, _, _, _, _⟩) (v := undef) rfl (by kernel_rfl) (by kernel_rfl) (by kernel_rfl) (fun _ _ _ h => h) (Or.inr ⟨by rfl, rfl⟩) KS ?_
    try simp only [Act.put, List.setIfInBounds_toArray, List.set_cons_zero, List.set_cons_succ]
    refine wpAnyH_take (i := 17) (oi := ⟨_, _, _, _, _, _⟩) (v := undef) rfl (by kernel_rfl) (by kernel_rfl) (by kernel_rfl) (fun _ _ _ h => h) (Or.inr ⟨by rfl, rfl⟩) KS ?_
    try simp only [Act.put, List.setIfInBounds_toArray, List.set_cons_zero, List.set_cons_succ]
    refine wpAnyH_take (i := 18) (oi := ⟨_, _, _, _, _, _⟩) (v := ?_) rfl (by kernel_rfl) (by kernel_rfl) (by kernel_rfl) (fun _ _ _ h => h) (Or.inl ⟨by rfl, ?_⟩) KS ?_
    rotate_left
    · intro w' hSw; (go_simp; try with_reducible rfl)
    try simp only [Act.put, List.setIfInBounds_toArray, List.set_cons_zero, List.set_cons_succ]
    refine wpAnyH_take (i := 19) (oi := ⟨_, _, _, _, _, _⟩) (v := ?_) rfl (by kernel_rfl) (by kernel_rfl) (by kernel_rfl) (fun _ _ _ h => h) (Or.inl ⟨by rfl, ?_⟩) KS ?_
    rotate_left
    · intro w' hSw; (go_simp; try with_reducible rfl)
    try simp only [Act.put, List.setIfInBounds_toArray, List.set_cons_zero, List.set_cons_succ]
    refine wpAnyH_done (by kernel_rfl) ?_ _
    have q0 : w5.drew.cell? ⟨d, 0, none⟩ = some (.int .i64 1) := ((KS.row R5.out (by simp)).cell 0).trans ((R5.out.cell 0).symm.trans HQ.out.1)
    have q1 : w5.drew.cell? ⟨d, 1, none⟩ = some (.int .i64 r.num) := ((KS.row R5.out (by simp)).cell 1).trans ((R5.out.cell 1).symm.trans HQ.out.2.1)
    have q2 : w5.drew.cell? ⟨d, 2, none⟩ = some (.int .i64 a.code) := ((KS.row R5.out (by simp)).cell 2).trans ((R5.out.cell 2).symm.trans HQ.out.2.2.1)
    have q3 : w5.drew.cell? ⟨d, 3, none⟩ = some (.int .i64 a.version) := ((KS.row R5.out (by simp)).cell 3).trans ((R5.out.cell 3).symm.trans HQ.out.2.2.2.1)
    have qb : w5.drew.cell? ⟨b1, 1, none⟩ = some (.int .i64 r.num) := ((KS.row RB.out (by simp)).cell 1).trans ((RB.out.cell 1).symm.trans HQ.out.2.2.2.2.2)
    go_wp2_with fail
    go_ret
    exact ⟨rfl, (HT5.out.over KS).less (fun y hy => List.mem_append.2 (.inl hy)), ((keepN.of HK1.out).then ((N3.out.2.2.2.1.less (fun y hy => List.mem_append.2 (.inl hy))).then (.of (K35.out.then KS (by simp)))))⟩
  · have HC : Hid (∀ V, keepBut [] w5 V → V.cell? ⟨d, 37, none⟩ = some (.slice A a.env.length c)) := Lib.hid (fun V k => ((k.row R5.out (by simp)).cell 37).trans ((R5.out.cell 37).symm.trans q6))
    have HEV := Lib.hid he
    clear he q0 q1 q2 q3 q6 qb
    go_upto_region 3 with fail
    have KS : keepBut [] w5 w5.drew := (keepBut.refl [] w5).drew
    refine wp_region_held_drew (S := fun V => keepBut [] w5 V) (by kernel_rfl) KS (fun _ => ?_)
    refine wpAnyH_take (i := 0) (oi := ⟨_, _, _, _, _, _⟩) (v := ?_) rfl (by kernel_rfl) (by kernel_rfl) (by kernel_rfl) (fun _ _ _ h => h) (Or.inl ⟨by rfl, ?_⟩) KS ?_
    rotate_left
    · intro w' hSw; (go_simp; try with_reducible rfl)
    try simp only [Act.put, List.setIfInBounds_toArray, List.set_cons_zero, List.set_cons_succ]
    refine wpAnyH_take (i := 1) (oi := ⟨_, _, _, _, _, _⟩) (v := ?_) rfl (by kernel_rfl) (by kernel_rfl) (by kernel_rfl) (fun _ _ _ h => h) (Or.inl ⟨by rfl, ?_⟩) KS ?_
    rotate_left
    · intro w' hSw; (go_simp; try with_reducible rfl)
    try simp only [Act.put, List.setIfInBounds_toArray, List.set_cons_zero, List.set_cons_succ]
    refine wpAnyH_take (i := 2) (oi := ⟨_, _, _, _, _, _⟩) (v := ?_) rfl (by kernel_rfl) (by kernel_rfl) (by kernel_rfl) (fun _ _ _ h => h) (Or.inl ⟨by rfl, ?_⟩) KS ?_
    rotate_left
    · intro w' hSw; (go_simp; try with_reducible rfl)
    try simp only [Act.put, List.setIfInBounds_toArray, List.set_cons_zero, List.set_cons_succ]
    refine wpAnyH_take (i := 3) (oi := ⟨_, _, _, _, _, _⟩) (v := undef) rfl (by kernel_rfl) (by kernel_rfl) (by kernel_rfl) (fun _ _ _ h => h) (Or.inr ⟨by rfl, rfl⟩) KS ?_
    try simp only [Act.put, List.setIfInBounds_toArray, List.set_cons_zero, List.set_cons_succ]
    refine wpAnyH_take (i := 4) (oi := ⟨_, _, _, _, _, _⟩) (v := undef) rfl (by kernel_rfl) (by kernel_rfl) (by kernel_rfl) (fun _ _ _ h => h) (Or.inr ⟨by rfl, rfl⟩) KS ?_
    try simp only [Act.put, List.setIfInBounds_toArray, List.set_cons_zero, List.set_cons_succ]
    refine wpAnyH_take (i := 5) (oi := ⟨_, _, _, _, _, _⟩) (v := undef) rfl (by kernel_rfl) (by kernel_rfl) (by kernel_rfl) (fun _ _ _ h => h) (Or.inr ⟨by rfl, rfl⟩) KS ?_
    try simp only [Act.put, List.setIfInBounds_toArray, List.set_cons_zero, List.set_cons_succ]
    refine wpAnyH_take (i := 6) (oi := ⟨_, _, _, _, _, _⟩) (v := undef) rfl (by kernel_rfl) (by kernel_rfl) (by kernel_rfl) (fun _ _ _ h => h) (Or.inr ⟨by rfl, rfl⟩) KS ?_
    try simp only [Act.put, List.setIfInBounds_toArray, List.set_cons_zero, List.set_cons_succ]
    refine wpAnyH_take (i := 7) (oi := ⟨_, _, _, _, _, _⟩) (v := ?_) rfl (by kernel_rfl) (by kernel_rfl) (by kernel_rfl) (fun _ _ _ h => h) (Or.inl ⟨by rfl, ?_⟩) KS ?_
    rotate_left
    · intro w' hSw; (go_simp; try with_reducible rfl)
    try simp only [Act.put, List.setIfInBounds_toArray, List.set_cons_zero, List.set_cons_succ]
    refine wpAnyH_take (i := 8) (oi := ⟨_, _, _, _, _, _⟩) (v := ?_) rfl (by kernel_rfl) (by kernel_rfl) (by kernel_rfl) (fun _ _ _ h => h) (Or.inl ⟨by rfl, ?_⟩) KS ?_
    rotate_left
    · intro w' hSw; (go_simp; try with_reducible rfl)
    try simp only [Act.put, List.setIfInBounds_toArray, List.set_cons_zero, List.set_cons_succ]
    refine wpAnyH_take (i := 9) (oi := ⟨_, _, _, _, _, _⟩) (v := ?_) rfl (by kernel_rfl) (by kernel_rfl) (by kernel_rfl) (fun _ _ _ h => h) (Or.inl ⟨by rfl, ?_⟩) KS ?_
    rotate_left
    · intro w' hSw; (go_simp; try with_reducible rfl)
    try simp only [Act.put, List.setIfInBounds_toArray, List.set_cons_zero, List.set_cons_succ]
    refine wpAnyH_take (i := 10) (oi := ⟨_, _, _, _, _, _⟩) (v := ?_) rfl (by kernel_rfl) (by kernel_rfl) (by kernel_rfl) (fun _ _ _ h => h) (Or.inl ⟨by rfl, ?_⟩) KS ?_
    rotate_left
    · intro w' hSw; (go_simp; try with_reducible rfl)
    try simp only [Act.put, List.setIfInBounds_toArray, List.set_cons_zero, List.set_cons_succ]
    refine wpAnyH_take (i := 11) (oi := ⟨_, _, _, _, _, _⟩) (v := ?_) rfl (by kernel_rfl) (by kernel_rfl) (by kernel_rfl) (fun _ _ _ h => h) (Or.inl ⟨by rfl, ?_⟩) KS ?_
    rotate_left
    · intro w' hSw; (go_simp; try with_reducible rfl)
    try simp only [Act.put, List.setIfInBounds_toArray, List.set_cons_zero, List.set_cons_succ]
    refine wpAnyH_take (i := 12) (oi := ⟨_, _, _, _, _, _⟩) (v := ?_) rfl (by kernel_rfl) (by kernel_rfl) (by kernel_rfl) (fun _ _ _ h => h) (Or.inl ⟨by rfl, ?_⟩) KS ?_
    rotate_left
    · intro w' hSw; (go_simp; try with_reducible rfl)
    try simp only [Act.put, List.setIfInBounds_toArray, List.set_cons_zero, List.set_cons_succ]
    refine wpAnyH_take (i := 13) (oi := ⟨_, _, _, _, _, _⟩) (v := ?_) rfl (by kernel_rfl) (by kernel_rfl) (by kernel_rfl) (fun _ _ _ h => h) (Or.inl ⟨by rfl, ?_⟩) KS ?_
    rotate_left
    · intro w' hSw; have hy := HC.out w' hSw; (go_simp; try with_reducible rfl)
    try simp only [Act.put, List.setIfInBounds_toArray, List.set_cons_zero, List.set_cons_succ]
    refine wpAnyH_take (i := 14) (oi := ⟨_, _, _, _, _, _⟩) (v := ?_) rfl (by kernel_rfl) (by kernel_rfl) (by kernel_rfl) (fun _ _ _ h => h) (Or.inl ⟨by rfl, ?_⟩) KS ?_
    rotate_left
    · intro w' hSw; (go_simp; try with_reducible rfl)
    try simp only [Act.put, List.setIfInBounds_toArray, List.set_cons_zero, List.set_cons_succ]
    refine wpAnyH_ready (rs := [15]) (by kernel_rfl) (by simp) ?_
    refine AllReadyH.cons (o := ⟨_, _, _, _, _, _⟩) rfl (fun K hK => ?_) AllReadyH.nil
    go_simp
    refine (env_any 1 _).mono ?_
    rintro e w6 ⟨v6, G6, rfl, n6⟩
    have N6 := Lib.hid n6
    have K6 := Lib.hid (KS.then n6.2.2 (by simp))
    clear n6
    go_wp2_with fail
    refine hK.out _ _ K6.out (fun _ => ?_)
    clear hK K
    try simp only [Act.put, List.setIfInBounds_toArray, List.set_cons_zero, List.set_cons_succ]
    refine wpAnyH_ready (rs := [16]) (by kernel_rfl) (by simp) ?_
    refine AllReadyH.cons (o := ⟨_, _, _, _, _, _⟩) rfl (fun K hK => ?_) AllReadyH.nil
    go_simp
    refine (eqb_any (HBV.out.keep K6.out (by simp)) N6.out.1).mono ?_
    rintro e w7 ⟨rfl, rfl⟩
    rw [show (a.env == envP 1) = true by rw [HEV.out]; simp]
    go_wp2_with fail
    refine hK.out _ _ K6.out (fun _ => ?_)
    clear hK K
    try simp only [Act.put, List.setIfInBounds_toArray, List.set_cons_zero, List.set_cons_succ]
    refine wpAnyH_take (i := 17) (oi := ⟨_, _, _, _, _, _⟩) (v := ?_) rfl (by kernel_rfl) (by kernel_rfl) (by kernel_rfl) (fun _ _ _ h => h) (Or.inl ⟨by rfl, ?_⟩) K6.out ?_
    rotate_left
    · intro w' hSw; (go_simp; try with_reducible rfl)
    try simp only [Act.put, List.setIfInBounds_toArray, List.set_cons_zero, List.set_cons_succ]
    refine wpAnyH_take (i := 18) (oi := ⟨_, _, _, _, _, _⟩) (v := ?_) rfl (by kernel_rfl) (by kernel_rfl) (by kernel_rfl) (fun _ _ _ h => h) (Or.inl ⟨by rfl, ?_⟩) K6.out ?_
    rotate_left
    · intro w' hSw; (go_simp; try with_reducible rfl)
    try simp only [Act.put, List.setIfInBounds_toArray, List.set_cons_zero, List.set_cons_succ]
    refine wpAnyH_take (i := 19) (oi := ⟨_, _, _, _, _, _⟩) (v := ?_) rfl (by kernel_rfl) (by kernel_rfl) (by kernel_rfl) (fun _ _ _ h => h) (Or.inl ⟨by rfl, ?_⟩) K6.out ?_
    rotate_left
    · intro w' hSw; (go_simp; try with_reducible rfl)
    try simp only [Act.put, List.setIfInBounds_toArray, List.set_cons_zero, List.set_cons_succ]
    refine wpAnyH_done (by kernel_rfl) ?_ _
    have q0 : w6.cell? ⟨d, 0, none⟩ = some (.int .i64 1) := ((K6.out.row R5.out (by simp)).cell 0).trans ((R5.out.cell 0).symm.trans HQ.out.1)
    have q1 : w6.cell? ⟨d, 1, none⟩ = some (.int .i64 r.num) := ((K6.out.row R5.out (by simp)).cell 1).trans ((R5.out.cell 1).symm.trans HQ.out.2.1)
    have q2 : w6.cell? ⟨d, 2, none⟩ = some (.int .i64 a.code) := ((K6.out.row R5.out (by simp)).cell 2).trans ((R5.out.cell 2).symm.trans HQ.out.2.2.1)
    have q3 : w6.cell? ⟨d, 3, none⟩ = some (.int .i64 a.version) := ((K6.out.row R5.out (by simp)).cell 3).trans ((R5.out.cell 3).symm.trans HQ.out.2.2.2.1)
    have qb : w6.cell? ⟨b1, 1, none⟩ = some (.int .i64 r.num) := ((K6.out.row RB.out (by simp)).cell 1).trans ((RB.out.cell 1).symm.trans HQ.out.2.2.2.2.2)
    go_wp2_with fail
    go_ret
    exact ⟨rfl, (HT5.out.over K6.out).less (fun y hy => List.mem_append.2 (.inl hy)), ((keepN.of HK1.out).then ((N3.out.2.2.2.1.less (fun y hy => List.mem_append.2 (.inl hy))).then (.of (K35.out.then K6.out (by simp)))))⟩
end Go.Proofs.YtmlmhnhilemjhaaDoor
