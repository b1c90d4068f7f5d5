/-
  TABLE, 40: the law's works.
-/
import Derived.Test.YtmlmhnhilemjhaaDoorTB39
namespace Go.Proofs.YtmlmhnhilemjhaaDoor
open Go.RowKit
set_option linter.unusedVariables false
set_option maxRecDepth 100000
set_option linter.unusedSimpArgs false

theorem wpList_build_pt_g {P : Program} (w : World) {ops : Array Oper} {rest : List Oper} {o : Oper} {a : Act} {Q : Exit → Act → World → Prop} (t : TypeId) (parts : Array (Nat × Operand)) (ho : o.op = .build t parts)
    (cells : Array Value) (hb : P.built t (parts.map fun (i, x) => (i, a.eval x)).toList = some cells) (hw : Region.wanted o (yielded ops a.tmps) = true) (h : wpList P ops Q rest (a.put o.dst (.agg cells)) w) : wpList P ops Q (o :: rest) a w :=
  wpList_wantedP hw fun K hK => by
    unfold Oper.wp execOp
    simp only [ho, Sem.run_bind, run_build w t _ cells hb, Result.andThen_ok]
    exact hK _ _ h
theorem lawT.asks {w0 : World} {N : List Nat} {w : World} {p : Nat} {P : PT} (h : lawT w0 N w p P) {F : List Nat} {r : RQ} {ev : Value} (hr : rqV w F r ev) {X : List Value} (hX : rqL r ev = X) {code version wth : Int} {P' : PT} {a : AN} (e : P.done { r with client := 1 } = (P', a, 0)) (hx : asksOk (P', a, 0) r code version wth) :
    Calls Tryd.prog 18 #[.pointer (some ⟨p, 0, none⟩), .agg X.toArray, .int .i64 code, .int .i64 version, .int .i64 wth] w
      fun e w' => e = .returned (.bool true) ∧ lawT w0 N w' p P' ∧ keepN N w w' := by
  have := asks_any h hr code version wth (by rw [e]; exact hx)
  rw [e, hX] at this
  exact this
def n5 : List UInt8 := nameP 5
def oA : List OP := [⟨n5, 1, envP 1⟩]
def SW0 : PT := P0
def rw1 : RQ := ⟨0, 1, 2, 2, n5, envP 1⟩
def aw1 : AN := ⟨1, 1, 2, 0, 0, n5, []⟩
def SW1 : PT := ⟨0, [], [aw1]⟩
theorem sw1 : PT.done SW0 { rw1 with client := 1 } = (SW1, aw1, 0) := by kernel_rfl
theorem ok1 : asksOk (SW1, aw1, 0) rw1 (2) (0) (-1) := ⟨rfl, rfl, rfl, rfl, rfl, .inl ⟨rfl, rfl⟩⟩
def rw2 : RQ := ⟨0, 2, 2, 1, n5, envP 1⟩
def aw2 : AN := ⟨1, 2, 0, 1, 0, n5, []⟩
def SW2 : PT := ⟨0, oA, [aw2]⟩
theorem sw2 : PT.done SW1 { rw2 with client := 1 } = (SW2, aw2, 0) := by kernel_rfl
theorem ok2 : asksOk (SW2, aw2, 0) rw2 (0) (1) (-1) := ⟨rfl, rfl, rfl, rfl, rfl, .inl ⟨rfl, rfl⟩⟩
def rw3 : RQ := ⟨0, 2, 2, 1, n5, envP 2⟩
def aw3 : AN := ⟨1, 2, 0, 1, 0, n5, []⟩
def SW3 : PT := ⟨0, oA, [aw3]⟩
theorem sw3 : PT.done SW2 { rw3 with client := 1 } = (SW3, aw3, 0) := by kernel_rfl
theorem ok3 : asksOk (SW3, aw3, 0) rw3 (0) (1) (-1) := ⟨rfl, rfl, rfl, rfl, rfl, .inl ⟨rfl, rfl⟩⟩
def rw4 : RQ := ⟨0, 1, 1, 0, n5, []⟩
def aw4 : AN := ⟨1, 1, 3, 0, 0, n5, []⟩
def SW4 : PT := SW3
theorem sw4 : PT.done SW3 { rw4 with client := 1 } = (SW4, aw4, 0) := by kernel_rfl
theorem ok4 : asksOk (SW4, aw4, 0) rw4 (3) (0) (-1) := ⟨rfl, rfl, rfl, rfl, rfl, .inl ⟨rfl, rfl⟩⟩
def rw5 : RQ := ⟨0, 3, 2, 1, n5, envP 2⟩
def aw5 : AN := ⟨1, 3, 2, 1, 0, n5, envP 1⟩
def SW5 : PT := ⟨0, oA, [aw5]⟩
theorem sw5 : PT.done SW4 { rw5 with client := 1 } = (SW5, aw5, 0) := by kernel_rfl
theorem ok5 : asksOk (SW5, aw5, 0) rw5 (2) (1) (1) := ⟨rfl, rfl, rfl, rfl, rfl, .inr ⟨rfl, rfl⟩⟩
def rw6 : RQ := ⟨0, 4, 1, 0, n5, []⟩
def aw6 : AN := ⟨1, 4, 0, 1, 0, n5, envP 1⟩
def SW6 : PT := ⟨0, oA, [aw6]⟩
theorem sw6 : PT.done SW5 { rw6 with client := 1 } = (SW6, aw6, 0) := by kernel_rfl
theorem ok6 : asksOk (SW6, aw6, 0) rw6 (0) (1) (1) := ⟨rfl, rfl, rfl, rfl, rfl, .inr ⟨rfl, rfl⟩⟩
def rw7 : RQ := ⟨0, 5, 3, 0, nameZ, []⟩
def aw7 : AN := ⟨1, 5, 0, 1, 0, n5, envP 1⟩
def SW7 : PT := ⟨0, oA, [aw7]⟩
theorem sw7 : PT.done SW6 { rw7 with client := 1 } = (SW7, aw7, 0) := by kernel_rfl
theorem ok7 : asksOk (SW7, aw7, 0) rw7 (0) (1) (1) := ⟨rfl, rfl, rfl, rfl, rfl, .inr ⟨rfl, rfl⟩⟩
def rw8 : RQ := ⟨0, 6, 4, 1, nameZ, []⟩
def aw8 : AN := ⟨1, 6, 0, 1, 1, nameZ, []⟩
def SW8 : PT := ⟨1, oA, [aw8]⟩
theorem sw8 : PT.done SW7 { rw8 with client := 1 } = (SW8, aw8, 0) := by kernel_rfl
theorem ok8 : asksOk (SW8, aw8, 0) rw8 (0) (1) (-1) := ⟨rfl, rfl, rfl, rfl, rfl, .inl ⟨rfl, rfl⟩⟩
def rw9 : RQ := ⟨0, 7, 4, 1, nameZ, []⟩
def aw9 : AN := ⟨1, 7, 2, 1, 1, nameZ, []⟩
def SW9 : PT := ⟨1, oA, [aw9]⟩
theorem sw9 : PT.done SW8 { rw9 with client := 1 } = (SW9, aw9, 0) := by kernel_rfl
theorem ok9 : asksOk (SW9, aw9, 0) rw9 (2) (1) (-1) := ⟨rfl, rfl, rfl, rfl, rfl, .inl ⟨rfl, rfl⟩⟩
theorem zeros3 (w : World) : bytesV (w.alloc (.cells #[.int .u8 0, .int .u8 0, .int .u8 0] 5)) [w.heap.size] (.slice (some ⟨w.heap.size, 0, none⟩) 3 3) [0, 0, 0] := by
  have r := rowAt.new w 5 #[.int .u8 0, .int .u8 0, .int .u8 0]
  refine ⟨_, 3, w.heap.size, rfl, by simp, by simp [maxLen], fun _ => ⟨0, rfl, r.lt, fun j b hb => ?_⟩, fun _ => by simp⟩
  rw [r.cell]
  match j, hb with
  | 0, hb => cases hb; rfl
  | 1, hb => cases hb; rfl
  | 2, hb => cases hb; rfl
  | j + 3, hb => simp at hb
theorem lastW : PT.last SW7 1 = aw7 ∧ PT.hitA SW7 1 = true := by constructor <;> kernel_rfl
theorem bytesW : bytesT SW0 = [0, 0, 0] := by
  have h : cb 0 = [0] := by unfold cb cbHi; simp
  show (([] ++ beBytes 1 0) ++ cb 0 ++ [] ++ cb 0) ++ [] = _
  rw [h]
  rfl
set_option maxHeartbeats 8000000 in
theorem works_any (w : World) (hsz : sizesAt w) :
    Calls Tryd.prog 6 #[] w fun e w' => e = .returned (.bool true) ∧ keepBut [] w w' := by
  have H0 := Lib.hid (new_law w [] w (keepBut.refl _ _) hsz (by simp))
  obtain ⟨Z, hZ⟩ : ∃ Z, nameL nameZ = Z := ⟨_, rfl⟩
  have hz := zv_nm
  rw [hZ] at hz
  obtain ⟨NL, hNL⟩ : ∃ NL, nameL n5 = NL := ⟨_, rfl⟩
  have HZ := Lib.hid (And.intro hz (show Z.length = 32 by rw [← hZ, nameL_len, nameZ_len]))
  have HN := Lib.hid (And.intro (show NL.length = 32 by rw [← hNL, nameL_len]; rfl) (And.intro (show ∀ u ∈ NL, u.oneCell' = true by rw [← hNL]; exact nameL_one) hNL))
  have hin := infoName
  have HIN : Hid ((Tryd.prog.info? 28).map (·.size) = some NL.length) := Lib.hid (by rw [HN.out.1]; exact infoName)
  have HNM := Lib.hid (hNL ▸ name_any 5 (by omega))
  clear hsz hZ hz hNL hin
  go_enter Tryd.func6, Tryd.ntmps6
  go_upto_region 2 with (go_at_call 7; refine H0.out.mono ?_; rintro e w1 ⟨p, rfl, h1, k1, hp⟩; have H1 := Lib.hid (And.intro h1 k1); clear h1 k1 hp)
  go_upto_region 3 with (first
    | (go_at_call 16; refine (HNM.out w1).mono ?_; rintro e w2 ⟨rfl, k2⟩; have K2 := Lib.hid k2; have H12 := Lib.hid k2.size; clear k2 HNM)
    | (have q := K2; go_at_call 17; refine (env_any 1 w2).mono ?_; rintro e w3 ⟨v3, G3, rfl, n3⟩; have N3 := Lib.hid n3; have K3 := Lib.hid (K2.out.then n3.2.2 (by simp)); clear n3 K2 q)
    | (have q := K3; go_at_call 17; refine (env_any 2 w3).mono ?_; rintro e w4 ⟨v4, G4, rfl, n4⟩; have N4 := Lib.hid n4; have K4 := Lib.hid (K3.out.then n4.2.2 (by simp)); clear n4 K3 q)
    | (refine wpList_alloc_to _ _ rfl 28 rfl _ HZ.out.1 (rfl : w4.alloc (.cells Z.toArray 28) = _) ?_; have RZ := Lib.hid (rowAt.new w4 28 Z.toArray); have KZ := Lib.hid ((keepBut.refl [] w4).alloc (.cells Z.toArray 28)); obtain ⟨d, hd⟩ : ∃ d, w4.heap.size = d := ⟨_, rfl⟩; have HD := Lib.hid hd; rw [hd] at RZ ⊢; generalize w4.alloc (.cells Z.toArray 28) = w5 at *; clear hd)
    | (refine wpList_store_mid rfl 28 (.tmp 2) (.tmp 10) rfl d 0 NL.toArray rfl rfl (RZ.out.there (by simp only [List.size_toArray]; rw [HN.out.1, HZ.out.2]; omega)) (by rw [List.size_toArray]; exact HIN.out) (all_oneCell_toArray HN.out.2.1) ?_))
  have r6 := RZ.out.setL (vs := NL) (o := 0)
  rw [putL_all (by simp only [List.size_toArray]; rw [HN.out.1, HZ.out.2])] at r6
  have k6 := (keepBut.refl [d] w5).setL (vs := NL) (g := d) (o := 0) (.inl (by simp))
  try simp only [List.toList_toArray]
  generalize w5.setCells d 0 NL = w6 at *
  have k56 : keepBut [] w4 w6 := KZ.out.then k6 (fun x hx => by simp at hx; subst hx; right; have := HD.out; omega)
  have k16 := K4.out.then k56 (by simp)
  have hdl := r6.lt
  have s2 := K4.out.size
  have s56 := k56.size
  have s34 := N4.out.2.2.size
  have hs1 : ∀ y ∈ d :: (G3 ++ G4), w1.heap.size ≤ y ∧ y < w6.heap.size := fun y hy => by
    have hn3 := N3.out.2.1
    have hn4 := N4.out.2.1
    rcases List.mem_cons.1 hy with rfl | hy
    · have := HD.out; exact ⟨by omega, hdl⟩
    · rcases List.mem_append.1 hy with hy | hy
      · have h1 := hn3 y hy; exact ⟨by have := H12.out; have := N3.out.2.2.size; omega, by omega⟩
      · have h1 := hn4 y hy; exact ⟨by have := H12.out; have := N3.out.2.2.size; omega, by omega⟩
  have HL0 : Hid (lawT w ([] ++ (d :: (G3 ++ G4))) w6 p SW0) := Lib.hid (H1.out.1.also k16 hs1)
  rw [List.nil_append] at HL0
  have BX0 : Hid (bytesV w6 G3 v3 (envP 1)) := Lib.hid ((N3.out.1.keep N4.out.2.2 (by simp)).keep k56 (by simp))
  have BY0 : Hid (bytesV w6 G4 v4 (envP 2)) := Lib.hid (N4.out.1.keep k56 (by simp))
  have RN0 := Lib.hid r6
  have HKP := Lib.hid (H1.out.2.then k16 (by simp))
  clear r6 k6 k56 k16 hdl s2 s56 s34 hs1
  obtain ⟨X1, hX1⟩ : ∃ X, rqL rw1 v3 = X := ⟨_, rfl⟩
  have hb1 : Tryd.prog.built 31 _ = some (rqL rw1 v3).toArray := build_rq12345 (1) 2 2 n5 rfl v3 (by first | exact BX0.out.one | exact BY0.out.one)
  rw [HN.out.2.2] at hb1
  rw [hX1] at hb1
  have HX1 := Lib.hid (And.intro hb1 hX1)
  clear hb1 hX1
  obtain ⟨X2, hX2⟩ : ∃ X, rqL rw2 v3 = X := ⟨_, rfl⟩
  have hb2 : Tryd.prog.built 31 _ = some (rqL rw2 v3).toArray := build_rq12345 (2) 2 1 n5 rfl v3 (by first | exact BX0.out.one | exact BY0.out.one)
  rw [HN.out.2.2] at hb2
  rw [hX2] at hb2
  have HX2 := Lib.hid (And.intro hb2 hX2)
  clear hb2 hX2
  obtain ⟨X3, hX3⟩ : ∃ X, rqL rw3 v4 = X := ⟨_, rfl⟩
  have hb3 : Tryd.prog.built 31 _ = some (rqL rw3 v4).toArray := build_rq12345 (2) 2 1 n5 rfl v4 (by first | exact BX0.out.one | exact BY0.out.one)
  rw [HN.out.2.2] at hb3
  rw [hX3] at hb3
  have HX3 := Lib.hid (And.intro hb3 hX3)
  clear hb3 hX3
  obtain ⟨X4, hX4⟩ : ∃ X, rqL rw4 nilV = X := ⟨_, rfl⟩
  have hb4 : Tryd.prog.built 31 _ = some (rqL rw4 nilV).toArray := build_rq124 (1) 1 n5 rfl
  rw [HN.out.2.2] at hb4
  rw [hX4] at hb4
  have HX4 := Lib.hid (And.intro hb4 hX4)
  clear hb4 hX4
  obtain ⟨X5, hX5⟩ : ∃ X, rqL rw5 v4 = X := ⟨_, rfl⟩
  have hb5 : Tryd.prog.built 31 _ = some (rqL rw5 v4).toArray := build_rq12345 (3) 2 1 n5 rfl v4 (by first | exact BX0.out.one | exact BY0.out.one)
  rw [HN.out.2.2] at hb5
  rw [hX5] at hb5
  have HX5 := Lib.hid (And.intro hb5 hX5)
  clear hb5 hX5
  obtain ⟨X6, hX6⟩ : ∃ X, rqL rw6 nilV = X := ⟨_, rfl⟩
  have hb6 : Tryd.prog.built 31 _ = some (rqL rw6 nilV).toArray := build_rq124 (4) 1 n5 rfl
  rw [HN.out.2.2] at hb6
  rw [hX6] at hb6
  have HX6 := Lib.hid (And.intro hb6 hX6)
  clear hb6 hX6
  obtain ⟨X7, hX7⟩ : ∃ X, rqL rw7 nilV = X := ⟨_, rfl⟩
  have hb7 : Tryd.prog.built 31 _ = some (rqL rw7 nilV).toArray := build_rq12 (5) 3
  rw [hX7] at hb7
  have HX7 := Lib.hid (And.intro hb7 hX7)
  clear hb7 hX7
  obtain ⟨X8, hX8⟩ : ∃ X, rqL rw8 nilV = X := ⟨_, rfl⟩
  have hb8 : Tryd.prog.built 31 _ = some (rqL rw8 nilV).toArray := build_rq123 (6) 4 1
  rw [hX8] at hb8
  have HX8 := Lib.hid (And.intro hb8 hX8)
  clear hb8 hX8
  obtain ⟨X9, hX9⟩ : ∃ X, rqL rw9 nilV = X := ⟨_, rfl⟩
  have hb9 : Tryd.prog.built 31 _ = some (rqL rw9 nilV).toArray := build_rq123 (7) 4 1
  rw [hX9] at hb9
  have HX9 := Lib.hid (And.intro hb9 hX9)
  clear hb9 hX9
  have HBY := Lib.hid (HL0.out.bytes)
  rw [bytesW] at HBY
  go_upto_region 5 with (first
    | (go_at_call 13; refine HBY.out.mono ?_; rintro e w7 ⟨v7, G7, rfl, n7⟩; have N7 := Lib.hid n7; clear n7)
    | (go_at_call 12; refine (eqb_any (N7.out.1.keep ((keepBut.refl [] w7).alloc (.cells #[.int .u8 0, .int .u8 0, .int .u8 0] 5)) (by simp)) (zeros3 w7)).mono ?_; rintro e w8 ⟨rfl, rfl⟩; rw [show (([0, 0, 0] : List UInt8) == [0, 0, 0]) = true from rfl]))
  have k8 := N7.out.2.2.then ((keepBut.refl [] w7).alloc (.cells #[.int .u8 0, .int .u8 0, .int .u8 0] 5)) (by simp)
  generalize w7.alloc (.cells #[.int .u8 0, .int .u8 0, .int .u8 0] 5) = u0 at *
  have HLx := Lib.hid (HL0.out.over k8)
  have RNx := Lib.hid (k8.row RN0.out (by simp))
  have BXx := Lib.hid (BX0.out.keep k8 (by simp))
  have BYx := Lib.hid (BY0.out.keep k8 (by simp))
  clear HL0 RN0 BX0 BY0 k8
  have HL0 := HLx
  have RN0 := RNx
  have BX0 := BXx
  have BY0 := BYx
  clear HLx RNx BXx BYx HBY
  go_upto_region 6 with (first
    | (have q := HL0; refine wpList_load_mid_g 28 (.tmp 2) rfl d 0 rfl NL _ RN0.out.rangeAll Tryd.underlying28 rfl HIN.out rfl ?_)
    | (have q := HL0; refine wpList_build_pt_g _ 31 _ rfl X1.toArray (by simp only [List.map_toArray, List.map_cons, List.map_nil]; go_simp; exact HX1.out.1) rfl ?_)
    | (have q := HL0; go_at_call 18; refine (HL0.out.asks (r := rw1) ⟨rfl, BX0.out⟩ HX1.out.2 sw1 ok1).mono ?_; rintro e u1 ⟨rfl, h1, k1⟩; have HL1 := Lib.hid h1; have RN1 := Lib.hid (k1.row RN0.out (by simp)); have BX1 := Lib.hid (k1.bytes BX0.out (by intro y hy; simp [hy])); have BY1 := Lib.hid (k1.bytes BY0.out (by intro y hy; simp [hy])); clear h1 k1 q HL0 RN0 BX0 BY0)
    | (have q := HL1; refine wpList_load_mid_g 28 (.tmp 2) rfl d 0 rfl NL _ RN1.out.rangeAll Tryd.underlying28 rfl HIN.out rfl ?_)
    | (have q := HL1; refine wpList_build_pt_g _ 31 _ rfl X2.toArray (by simp only [List.map_toArray, List.map_cons, List.map_nil]; go_simp; exact HX2.out.1) rfl ?_)
    | (have q := HL1; go_at_call 18; refine (HL1.out.asks (r := rw2) ⟨rfl, BX1.out⟩ HX2.out.2 sw2 ok2).mono ?_; rintro e u2 ⟨rfl, h1, k1⟩; have HL2 := Lib.hid h1; have RN2 := Lib.hid (k1.row RN1.out (by simp)); have BX2 := Lib.hid (k1.bytes BX1.out (by intro y hy; simp [hy])); have BY2 := Lib.hid (k1.bytes BY1.out (by intro y hy; simp [hy])); clear h1 k1 q HL1 RN1 BX1 BY1)
    | (have q := HL2; refine wpList_load_mid_g 28 (.tmp 2) rfl d 0 rfl NL _ RN2.out.rangeAll Tryd.underlying28 rfl HIN.out rfl ?_)
    | (have q := HL2; refine wpList_build_pt_g _ 31 _ rfl X3.toArray (by simp only [List.map_toArray, List.map_cons, List.map_nil]; go_simp; exact HX3.out.1) rfl ?_)
    | (have q := HL2; go_at_call 18; refine (HL2.out.asks (r := rw3) ⟨rfl, BY2.out⟩ HX3.out.2 sw3 ok3).mono ?_; rintro e u3 ⟨rfl, h1, k1⟩; have HL3 := Lib.hid h1; have RN3 := Lib.hid (k1.row RN2.out (by simp)); have BX3 := Lib.hid (k1.bytes BX2.out (by intro y hy; simp [hy])); have BY3 := Lib.hid (k1.bytes BY2.out (by intro y hy; simp [hy])); clear h1 k1 q HL2 RN2 BX2 BY2)
    | (have q := HL3; refine wpList_load_mid_g 28 (.tmp 2) rfl d 0 rfl NL _ RN3.out.rangeAll Tryd.underlying28 rfl HIN.out rfl ?_)
    | (have q := HL3; refine wpList_build_pt_g _ 31 _ rfl X4.toArray (by simp only [List.map_toArray, List.map_cons, List.map_nil]; go_simp; exact HX4.out.1) rfl ?_)
    | (have q := HL3; go_at_call 18; refine (HL3.out.asks (r := rw4) ⟨rfl, bytesV.nil _ []⟩ HX4.out.2 sw4 ok4).mono ?_; rintro e u4 ⟨rfl, h1, k1⟩; have HL4 := Lib.hid h1; have RN4 := Lib.hid (k1.row RN3.out (by simp)); have BX4 := Lib.hid (k1.bytes BX3.out (by intro y hy; simp [hy])); have BY4 := Lib.hid (k1.bytes BY3.out (by intro y hy; simp [hy])); clear h1 k1 q HL3 RN3 BX3 BY3))
  go_upto_region 7 with (first
    | (have q := HL4; refine wpList_load_mid_g 28 (.tmp 2) rfl d 0 rfl NL _ RN4.out.rangeAll Tryd.underlying28 rfl HIN.out rfl ?_)
    | (have q := HL4; refine wpList_build_pt_g _ 31 _ rfl X5.toArray (by simp only [List.map_toArray, List.map_cons, List.map_nil]; go_simp; exact HX5.out.1) rfl ?_)
    | (have q := HL4; go_at_call 18; refine (HL4.out.asks (r := rw5) ⟨rfl, BY4.out⟩ HX5.out.2 sw5 ok5).mono ?_; rintro e u5 ⟨rfl, h1, k1⟩; have HL5 := Lib.hid h1; have RN5 := Lib.hid (k1.row RN4.out (by simp)); have BX5 := Lib.hid (k1.bytes BX4.out (by intro y hy; simp [hy])); have BY5 := Lib.hid (k1.bytes BY4.out (by intro y hy; simp [hy])); clear h1 k1 q HL4 RN4 BX4 BY4)
    | (have q := HL5; refine wpList_load_mid_g 28 (.tmp 2) rfl d 0 rfl NL _ RN5.out.rangeAll Tryd.underlying28 rfl HIN.out rfl ?_)
    | (have q := HL5; refine wpList_build_pt_g _ 31 _ rfl X6.toArray (by simp only [List.map_toArray, List.map_cons, List.map_nil]; go_simp; exact HX6.out.1) rfl ?_)
    | (have q := HL5; go_at_call 18; refine (HL5.out.asks (r := rw6) ⟨rfl, bytesV.nil _ []⟩ HX6.out.2 sw6 ok6).mono ?_; rintro e u6 ⟨rfl, h1, k1⟩; have HL6 := Lib.hid h1; have RN6 := Lib.hid (k1.row RN5.out (by simp)); have BX6 := Lib.hid (k1.bytes BX5.out (by intro y hy; simp [hy])); have BY6 := Lib.hid (k1.bytes BY5.out (by intro y hy; simp [hy])); clear h1 k1 q HL5 RN5 BX5 BY5)
    | (have q := HL6; refine wpList_build_pt_g _ 31 _ rfl X7.toArray (by simp only [List.map_toArray, List.map_cons, List.map_nil]; go_simp; exact HX7.out.1) rfl ?_)
    | (have q := HL6; go_at_call 18; refine (HL6.out.asks (r := rw7) ⟨rfl, bytesV.nil _ []⟩ HX7.out.2 sw7 ok7).mono ?_; rintro e u7 ⟨rfl, h1, k1⟩; have HL7 := Lib.hid h1; have RN7 := Lib.hid (k1.row RN6.out (by simp)); have BX7 := Lib.hid (k1.bytes BX6.out (by intro y hy; simp [hy])); have BY7 := Lib.hid (k1.bytes BY6.out (by intro y hy; simp [hy])); clear h1 k1 q HL6 RN6 BX6 BY6))
  have HLA := Lib.hid (HL7.out.last (c := 1) (by omega))
  rw [lastW.1, lastW.2] at HLA
  obtain ⟨ZA, hZA⟩ : ∃ Z, anL anZero nilV = Z := ⟨_, rfl⟩
  have hza := zv_an
  rw [hZA] at hza
  have HZA := Lib.hid (And.intro hza (show ZA.length = 38 by rw [← hZA]; exact anZ_len))
  clear hza hZA
  go_upto_region 8 with (first
    | (go_at_call 19; refine HLA.out.mono ?_; rintro e w9 ⟨v9, G9, rfl, n9⟩; have N9 := Lib.hid n9; clear n9; obtain ⟨Y, hY⟩ : ∃ Y, anL aw7 v9 = Y := ⟨_, rfl⟩; have HY := Lib.hid (And.intro (show Y.length = 38 by rw [← hY]; exact anL_len rfl) (And.intro (show ∀ u ∈ Y, u.oneCell' = true by rw [← hY]; exact anL_one _ N9.out.1.one) hY)); rw [hY]; clear hY)
    | (refine wpList_alloc_to _ _ rfl 40 rfl _ HZA.out.1 (rfl : w9.alloc (.cells ZA.toArray 40) = _) ?_; have RA := Lib.hid (rowAt.new w9 40 ZA.toArray); have KA := Lib.hid ((keepBut.refl [] w9).alloc (.cells ZA.toArray 40)); obtain ⟨e9, he9⟩ : ∃ d, w9.heap.size = d := ⟨_, rfl⟩; have HE9 := Lib.hid he9; rw [he9] at RA ⊢; generalize w9.alloc (.cells ZA.toArray 40) = wA at *; clear he9)
    | (refine wpList_store_mid rfl 40 (.tmp 7) (.tmp 66) rfl e9 0 Y.toArray rfl rfl (RA.out.there (by simp only [List.size_toArray]; rw [HY.out.1, HZA.out.2]; omega)) (by rw [List.size_toArray, HY.out.1]; exact info_an) (all_oneCell_toArray HY.out.2.1) ?_))
  have rB := RA.out.setL (vs := Y) (o := 0)
  rw [putL_all (by simp only [List.size_toArray]; rw [HY.out.1, HZA.out.2])] at rB
  have kB := (keepBut.refl [e9] wA).setL (vs := Y) (g := e9) (o := 0) (.inl (by simp))
  try simp only [List.toList_toArray]
  generalize wA.setCells e9 0 Y = wB at *
  have k9 : keepBut [] w9 wB := KA.out.then kB (fun x hx => by simp at hx; subst hx; right; have := HE9.out; omega)
  have k79 := N9.out.2.2.then k9 (by simp)
  have hYn : Hid (wB.rangeAt e9 5 NL) := Lib.hid (rB.range (fun j v hv => by rw [← HY.out.2.2]; exact anL_name aw7 v9 j v (by rw [← HN.out.2.2] at hv; exact hv)))
  have HLx := Lib.hid (HL7.out.over k79)
  have RNx := Lib.hid (k79.row RN7.out (by simp))
  have BXx := Lib.hid (BX7.out.keep k79 (by simp))
  have BYx := Lib.hid (BY7.out.keep k79 (by simp))
  clear HL7 RN7 BX7 BY7 k79 k9 rB kB
  have HL7 := HLx
  have RN7 := RNx
  have BX7 := BXx
  have BY7 := BYx
  clear HLx RNx BXx BYx HLA
  have HEQ : Hid ((binOp .eql 28 (.agg NL.toArray) (.agg NL.toArray)).run Tryd.prog wB = .ok (.bool true) wB) := Lib.hid (by rw [← HN.out.2.2]; have := name_eql n5 n5 rfl rfl wB; rw [decide_eq_true rfl] at this; exact this)
  go_wp2_with (first
    | (refine wpList_load_mid_g 28 (.tmp 76) rfl e9 5 rfl NL _ hYn.out Tryd.underlying28 rfl HIN.out rfl ?_)
    | (have q := HL7; refine wpList_load_mid_g 28 (.tmp 2) rfl d 0 rfl NL _ RN7.out.rangeAll Tryd.underlying28 rfl HIN.out rfl ?_)
    | (refine wpList_bin_agg_g _ .eql 28 28 (.tmp 77) (.tmp 78) rfl guardName NL.toArray NL.toArray rfl rfl _ HEQ.out ?_ ?_; · rfl)
    | (have q := HL7; refine wpList_build_pt_g _ 31 _ rfl X8.toArray (by simp only [List.map_toArray, List.map_cons, List.map_nil]; go_simp; exact HX8.out.1) rfl ?_)
    | (have q := HL7; go_at_call 18; refine (HL7.out.asks (r := rw8) ⟨rfl, bytesV.nil _ []⟩ HX8.out.2 sw8 ok8).mono ?_; rintro e u8 ⟨rfl, h1, k1⟩; have HL8 := Lib.hid h1; have RN8 := Lib.hid (k1.row RN7.out (by simp)); have BX8 := Lib.hid (k1.bytes BX7.out (by intro y hy; simp [hy])); have BY8 := Lib.hid (k1.bytes BY7.out (by intro y hy; simp [hy])); clear h1 k1 q HL7 RN7 BX7 BY7)
    | (have q := HL8; refine wpList_build_pt_g _ 31 _ rfl X9.toArray (by simp only [List.map_toArray, List.map_cons, List.map_nil]; go_simp; exact HX9.out.1) rfl ?_)
    | (have q := HL8; go_at_call 18; refine (HL8.out.asks (r := rw9) ⟨rfl, bytesV.nil _ []⟩ HX9.out.2 sw9 ok9).mono ?_; rintro e u9 ⟨rfl, h1, k1⟩; have HL9 := Lib.hid h1; have RN9 := Lib.hid (k1.row RN8.out (by simp)); have BX9 := Lib.hid (k1.bytes BX8.out (by intro y hy; simp [hy])); have BY9 := Lib.hid (k1.bytes BY8.out (by intro y hy; simp [hy])); clear h1 k1 q HL8 RN8 BX8 BY8)
    | (go_at_call 10; refine (HL9.out.epoch (n := 1) rfl).mono ?_; rintro e w0 ⟨rfl, rfl⟩))
  go_ret
  exact ⟨rfl, HL9.out.kept⟩
end Go.Proofs.YtmlmhnhilemjhaaDoor
