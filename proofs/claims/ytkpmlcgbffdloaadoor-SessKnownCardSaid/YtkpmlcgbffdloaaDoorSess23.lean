/-
  SESS, 23: works: the chapter's session.
-/
import Derived.Test.YtkpmlcgbffdloaaDoorSess22
namespace Go.Proofs.YtkpmlcgbffdloaaDoor
open Go.RowKit
set_option linter.unusedVariables false
set_option maxRecDepth 100000
set_option linter.unusedSimpArgs false

def wS0 : SS := SS.start 1 5 3 7
def wS1 : SS := (wS0.askP (getR 1)).2
def wS2 : SS := wS1.tickP.2
def wS3 : SS := wS2.tickP.2
def wS4 : SS := wS3.tickP.2
def wS5 : SS := (wS4.takeP (confK 21 2 [11, 10])).2
def wS6 : SS := wS5.tickP.2
def wS7 : SS := wS6.tickP.2
def wS8 : SS := wS7.tickP.2
def ansK (node client num : Int) : PK := ⟨2, 0, node, 0, 0, 0, false, rqZero, ⟨client, num, 0, 0, 0, List.replicate 32 0, []⟩, cfZero, [], []⟩
def wS9 : SS := wS8.tickP.2
def wS10 : SS := wS9.tickP.2
def wL1 : List PK := wS1.tickP.1
def wL2 : List PK := wS2.tickP.1
def wL3 : List PK := wS3.tickP.1
def wL5 : List PK := wS5.tickP.1
def wL6 : List PK := wS6.tickP.1
def wL7 : List PK := wS7.tickP.1
def wL8 : List PK := wS8.tickP.1
def wL9 : List PK := wS9.tickP.1
theorem we0 : wS0.askP (getR 1) = ((5, 0), wS1) := by kernel_rfl
theorem we1 : wS1.askP (getR 1) = ((0, 170), wS1) := by kernel_rfl
theorem wt1 : wS1.tickP = (wL1, wS2) := rfl
theorem wt2 : wS2.tickP = (wL2, wS3) := rfl
theorem wt3 : wS3.tickP = (wL3, wS4) := rfl
theorem wt5 : wS5.tickP = (wL5, wS6) := rfl
theorem wt6 : wS6.tickP = (wL6, wS7) := rfl
theorem wt7 : wS7.tickP = (wL7, wS8) := rfl
theorem wt8 : wS8.tickP = (wL8, wS9) := rfl
theorem wt9 : wS9.tickP = (wL9, wS10) := rfl
theorem wk4 : wS4.takeP (confK 21 2 [11, 10]) = ((anZero, false), wS5) := by kernel_rfl
theorem wk8 : wS8.takeP (ansK 21 1 4) = ((anZero, false), wS8) := by kernel_rfl
theorem ws1 : sendsF true 0 wL1 0 0 = true ∧ wL1.length = 3 := by constructor <;> kernel_rfl
theorem ws2 : sendsF true 0 wL2 0 0 = true ∧ wL2.length = 3 := by constructor <;> kernel_rfl
theorem ws3 : sendsF true 0 wL3 0 0 = true ∧ wL3.length = 3 := by constructor <;> kernel_rfl
theorem ws5 : sendsF false 11 wL5 0 0 = true ∧ wL5.length = 1 := by constructor <;> kernel_rfl
theorem ws6 : sendsF false 0 wL6 0 0 = true ∧ wL6.length = 0 := by constructor <;> kernel_rfl
theorem ws7 : sendsF true 11 wL7 0 0 = true ∧ wL7.length = 4 := by constructor <;> kernel_rfl
theorem ws8 : wL8.length = 0 := by kernel_rfl
theorem ws9 : wL9.length = 0 := by kernel_rfl
theorem wf9 : wS9.late = false ∧ wS9.waits = true := by constructor <;> kernel_rfl
theorem wf10 : wS10.late = true ∧ wS10.waits = false := by constructor <;> kernel_rfl
-- WALK
theorem reads_ints (w : World) (e : TypeId) (X : List Value) : reads (w.alloc (.cells X.toArray e)) (some ⟨w.heap.size, 0, none⟩) w.heap.size X.length 1 X := by
  refine ⟨by simp, fun _ => ⟨0, rfl, by simp, fun j x hx => ?_⟩⟩
  rw [(rowAt.new w e X.toArray).cell]
  simpa using hx
theorem ansCells (node c n : Int) : ((((((((((((((((((((((((((((((((((((((((Tryd.zeroCells44.setIfInBounds 0 (.int .i64 2)).setIfInBounds 2 (.int .i64 node)).setIfInBounds 44 (.int .i64 c)).setIfInBounds 45 (.int .i64 n)).setIfInBounds 46 (.int .i64 0)).setIfInBounds 47 (.int .i64 0)).setIfInBounds 48 (.int .i64 0)).setIfInBounds 49 (.int .u8 0)).setIfInBounds 50 (.int .u8 0)).setIfInBounds 51 (.int .u8 0)).setIfInBounds 52 (.int .u8 0)).setIfInBounds 53 (.int .u8 0)).setIfInBounds 54 (.int .u8 0)).setIfInBounds 55 (.int .u8 0)).setIfInBounds 56 (.int .u8 0)).setIfInBounds 57 (.int .u8 0)).setIfInBounds 58 (.int .u8 0)).setIfInBounds 59 (.int .u8 0)).setIfInBounds 60 (.int .u8 0)).setIfInBounds 61 (.int .u8 0)).setIfInBounds 62 (.int .u8 0)).setIfInBounds 63 (.int .u8 0)).setIfInBounds 64 (.int .u8 0)).setIfInBounds 65 (.int .u8 0)).setIfInBounds 66 (.int .u8 0)).setIfInBounds 67 (.int .u8 0)).setIfInBounds 68 (.int .u8 0)).setIfInBounds 69 (.int .u8 0)).setIfInBounds 70 (.int .u8 0)).setIfInBounds 71 (.int .u8 0)).setIfInBounds 72 (.int .u8 0)).setIfInBounds 73 (.int .u8 0)).setIfInBounds 74 (.int .u8 0)).setIfInBounds 75 (.int .u8 0)).setIfInBounds 76 (.int .u8 0)).setIfInBounds 77 (.int .u8 0)).setIfInBounds 78 (.int .u8 0)).setIfInBounds 79 (.int .u8 0)).setIfInBounds 80 (.int .u8 0)).setIfInBounds 81 (.slice none 0 0)) = (pkL (ansK node c n) nilV nilV nilV nilV nilV).toArray := by kernel_rfl
theorem ansK_val (node c n : Int) (w : World) : pkV w [] (ansK node c n) nilV nilV nilV nilV nilV :=
  ⟨rqZero_name, by show (List.replicate 32 (0 : UInt8)).length = 32; rw [List.length_replicate], bytesV.nil _ _, bytesV.nil _ _, intsV.nil _ _, votesV.nil _ _, bytesV.nil _ _⟩
theorem ints2 (w : World) (a b : Int) : intsV (w.alloc (.cells #[.int .i64 a, .int .i64 b] 3)) [w.heap.size] (.slice (some ⟨w.heap.size, 0, none⟩) 2 2) [a, b] :=
  ⟨_, _, w.heap.size, rfl, by simp, by simp [maxLen], reads_ints w 3 [.int .i64 a, .int .i64 b], by simp⟩
set_option maxHeartbeats 16000000 in
theorem worksQ_any (w : World) (hsz : sizesAt w) : Calls Tryd.prog 13 #[] w fun e w' => e = .returned (.bool true) ∧ keepBut [] w w' := by
  have H0 := Lib.hid (new_law [] 1 5 3 7 w w (keepBut.refl _ _) hsz (by simp) (by decide) (by decide) (by decide) (by decide))
  obtain ⟨Z, hZ⟩ : ∃ Z, anL anZero nilV = Z := ⟨_, rfl⟩
  have HZ := Lib.hid (show (Tryd.prog.info? 39).bind (·.zero) = some (.agg Z.toArray) ∧ Z.length = 38 by rw [← hZ]; exact ⟨zv_an, anZ_len⟩)
  clear hsz hZ
  go_enter Tryd.func13, Tryd.ntmps13
  go_upto_region 4 with (first
    | (go_at_call 9; (refine H0.out.mono ?_); rintro e w1 ⟨p, q, rfl, h1, k1, hp, hq⟩; have HA0 := Lib.hid (show lawQ w [] w1 p q wS0 from h1); clear h1 k1 hp hq)
    | (go_at_call 20; have HX := HA0; (refine (get_any 1 _).mono ?_); rintro e w2 ⟨rfl, k2⟩; have HA0b := Lib.hid (HX.out.over k2); clear HX k2 HA0)
    | (go_at_call 19; (refine (HA0b.out.asks (getR_val _ [] 1) (b := true) we0 (by decide)).mono ?_); rintro e w3 ⟨rfl, h3, k3⟩; have HA1 := Lib.hid h3; clear h3 k3 HA0b)
    | (go_at_call 20; have HX := HA1; (refine (get_any 1 _).mono ?_); rintro e w2 ⟨rfl, k2⟩; have HA1b := Lib.hid (HX.out.over k2); clear HX k2 HA1)
    | (go_at_call 19; (refine (HA1b.out.asks (getR_val _ [] 1) (b := true) we1 (by decide)).mono ?_); rintro e w3 ⟨rfl, h3, k3⟩; have HB1 := Lib.hid h3; clear h3 k3 HA1b)
    | (go_at_call 24; (refine (HB1.out.tick wt1).mono ?_); rintro e w4 ⟨v, D, K, rfl, hs, h4, k4⟩; have HB2 := Lib.hid h4; have V1 := Lib.hid hs; clear hs h4 k4 HB1)
    | (go_at_call 23; (refine (V1.out.sends ws1.1 (by rw [ws1.2]; decide)).mono ?_); rintro e w5 ⟨rfl, rfl⟩; clear V1)
    | (go_at_call 24; (refine (HB2.out.tick wt2).mono ?_); rintro e w4 ⟨v, D, K, rfl, hs, h4, k4⟩; have HB3 := Lib.hid h4; have V2 := Lib.hid hs; clear hs h4 k4 HB2)
    | (go_at_call 23; (refine (V2.out.sends ws2.1 (by rw [ws2.2]; decide)).mono ?_); rintro e w5 ⟨rfl, rfl⟩; clear V2)
    | (go_at_call 24; (refine (HB3.out.tick wt3).mono ?_); rintro e w4 ⟨v, D, K, rfl, hs, h4, k4⟩; have HB4 := Lib.hid h4; have V3 := Lib.hid hs; clear hs h4 k4 HB3)
    | (go_at_call 23; (refine (V3.out.sends ws3.1 (by rw [ws3.2]; decide)).mono ?_); rintro e w5 ⟨rfl, rfl⟩; clear V3))
  go_upto_region 5 with (first
    | (go_at_call 21; (refine (confF_any 21 2 [11, 10] _ [w4.heap.size] _ (ints2 w4 11 10)).mono ?_); rintro e w7 ⟨rfl, k7⟩; have HB4b := Lib.hid ((HB4.out.over ((keepBut.refl [] w4).alloc _)).over k7); have HI := Lib.hid (And.intro ((ints2 w4 11 10).keep k7 (by simp)) HB4.out.on.lt.1); clear k7 HB4)
    | (go_at_call 17; (refine (HB4b.out.take (confK_val 21 2 HI.out.1) (fun y hy => by have := HI.out.2; simp only [List.mem_singleton] at hy; omega) (by show (0 : Nat) ≤ 1000000; omega) (by show (2 : Nat) ≤ 1000000; omega) wk4).mono ?_); rintro e w8 ⟨av, G', rfl, _, _, h8, k8⟩; have HB5 := Lib.hid h8; clear h8 k8 HB4b))
  go_upto_region 7 with (first
    | (go_at_call 24; (refine (HB5.out.tick wt5).mono ?_); rintro e w4 ⟨v, D, K, rfl, hs, h4, k4⟩; have HB6 := Lib.hid h4; have V5 := Lib.hid hs; clear hs h4 k4 HB5)
    | (go_at_call 23; (refine (V5.out.sends ws5.1 (by rw [ws5.2]; decide)).mono ?_); rintro e w5 ⟨rfl, rfl⟩; clear V5)
    | (go_at_call 24; (refine (HB6.out.tick wt6).mono ?_); rintro e w4 ⟨v, D, K, rfl, hs, h4, k4⟩; have HB7 := Lib.hid h4; have V6 := Lib.hid hs; clear hs h4 k4 HB6)
    | (go_at_call 23; (refine (V6.out.sends ws6.1 (by rw [ws6.2]; decide)).mono ?_); rintro e w5 ⟨rfl, rfl⟩; clear V6)
    | (go_at_call 24; (refine (HB7.out.tick wt7).mono ?_); rintro e w4 ⟨v, D, K, rfl, hs, h4, k4⟩; have HB8 := Lib.hid h4; have V7 := Lib.hid hs; clear hs h4 k4 HB7)
    | (go_at_call 23; (refine (V7.out.sends ws7.1 (by rw [ws7.2]; decide)).mono ?_); rintro e w5 ⟨rfl, rfl⟩; clear V7))
  go_upto_region 8 with (first
    | (go_at_call 17; rw [ansCells]; (refine (HB8.out.take (ansK_val 21 1 4 _) (by simp) (by show (0 : Nat) ≤ 1000000; omega) (by show (0 : Nat) ≤ 1000000; omega) wk8).mono ?_); rintro e w8 ⟨av, G', rfl, h9, _, h8, k8⟩; have HB8b := Lib.hid h8; obtain ⟨N, hN⟩ : ∃ N, anL anZero av = N := ⟨_, rfl⟩; have HAN := Lib.hid (And.intro (show N.length = 38 by rw [← hN]; exact anL_len anZero_name) (show ∀ u ∈ N, u.oneCell' = true by rw [← hN]; exact anL_one anZero h9.2.one)); rw [hN]; clear h8 h9 k8 HB8 hN)
    | (with_reducible refine wpList_alloc_to _ _ rfl 39 rfl _ HZ.out.1 rfl ?_)
    | (refine wpList_store_mid rfl 39 (.tmp 3) (.tmp 70) rfl w8.heap.size 0 N.toArray rfl rfl (there_newP (by rw [HAN.out.1, HZ.out.2])) (by rw [List.size_toArray, HAN.out.1]; exact info_anS) (by simpa using HAN.out.2) ?_))
  have hs := storedP (w := w8) (t := 39) (Z := Z) (X := N) (by rw [HAN.out.1, HZ.out.2])
  have HB8c := Lib.hid (HB8b.out.over hs.2)
  generalize (w8.alloc (.cells Z.toArray 39)).setCells w8.heap.size 0 N = w9 at HB8c ⊢
  clear hs HB8b
  go_wp2_with (first
    | (go_at_call 24; (refine (HB8c.out.tick wt8).mono ?_); rintro e w4 ⟨v, D, K, rfl, hs, h4, k4⟩; obtain ⟨A, c, rfl⟩ := hs.form ws8; have HB9 := Lib.hid h4; clear hs h4 k4 HB8c)
    | (go_at_call 24; (refine (HB9.out.tick wt9).mono ?_); rintro e w4 ⟨v, D, K, rfl, hs, h4, k4⟩; obtain ⟨A, c, rfl⟩ := hs.form ws9; have HB10 := Lib.hid h4; clear hs h4 k4 HB9)
    | (go_at_call 25; (refine (HB10.out.late wf10.1).mono ?_); rintro e w6 ⟨rfl, rfl⟩)
    | (go_at_call 25; (refine (HB9.out.late wf9.1).mono ?_); rintro e w6 ⟨rfl, rfl⟩)
    | (go_at_call 18; (refine (HB10.out.waits wf10.2).mono ?_); rintro e w6 ⟨rfl, rfl⟩)
    | (go_at_call 18; (refine (HB9.out.waits wf9.2).mono ?_); rintro e w6 ⟨rfl, rfl⟩))
  go_ret
  exact ⟨rfl, HB10.out.kept⟩
end Go.Proofs.YtkpmlcgbffdloaaDoor
