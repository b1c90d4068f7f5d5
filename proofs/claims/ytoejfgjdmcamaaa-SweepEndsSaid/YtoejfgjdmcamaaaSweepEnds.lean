/-
  SweepEnds: a sweep is done behind one ErrNone in the phase SweepOn, and never ahead of it.
-/
import Derived.Test.YtoejfgjdmcamaaaSweep7
import Derived.Test.YtoejfgjdmcamaaaOpen
namespace Go.Proofs.Ytoejfgjdmcamaaa
open Go.RowKit
set_option linter.unusedVariables false
set_option maxRecDepth 100000

def allRow : Array Value := #[.int .i64 0, .int .i64 0, .int .i64 210, .int .i64 212, .int .i64 0, .int .i64 211]
/-- a sweep, and the codes -/
def eOn (w0 w : World) (p : Nat) (s : SS) (a : Nat) : Prop := sOn w0 w p s ∧ rowAt w a 28 allRow ∧ a ≠ p
theorem eOn.step {w0 w w' : World} {p a : Nat} {s s' : SS} {v : Value} {e : Ending} (h : eOn w0 w p s a) (hp : sPost p s' v w e w') : e = .returned v ∧ eOn w0 w' p s' a :=
  ⟨hp.1, (h.1.step hp).2, hp.2.2.row h.2.1 (by simpa using h.2.2), h.2.2⟩

def eS (ph : Int) (bk : Bool) (n L : Nat) : SS := ⟨ph, bk, 100, false, n, 0, L, 0⟩
theorem eS_ok (ph : Int) (bk : Bool) (n L : Nat) (h1 : 1 ≤ ph) (h5 : ph ≤ 5) (hn : n ≤ 1000) (hL : L ≤ 1000) : (eS ph bk n L).ok :=
  ⟨h1, h5, by simp [eS], by simp [eS], by simp [eS], by simp [eS]; omega, by simp [eS], by simp [eS], by simp [eS], by simp [eS]; omega, fun h => by cases h⟩
theorem after_time (ph : Int) (bk : Bool) (n L : Nat) (h : L < 100) : SS.after (eS ph bk n L) 212 ((0 : Int) != 0) = eS ph bk n (L + 1) := by
  have : ¬ (100 : Int) < (L : Int) + 1 := by omega
  simp [SS.after, SS.res, eS, this]
theorem after_rot0 (bk : Bool) (n L : Nat) : SS.after (eS 1 bk n L) 0 ((0 : Int) != 0) = eS (if bk then 2 else 3) bk n 0 := by
  cases bk <;> simp [SS.after, SS.res, SS.took1, SS.goOn, eS]
theorem after_rot1 (bk : Bool) (n L : Nat) : SS.after (eS 1 bk n L) 211 ((0 : Int) != 0) = eS (if bk then 2 else 3) bk n 0 := by
  cases bk <;> simp [SS.after, SS.res, SS.took1, SS.goOn, eS]
theorem after_back0 (bk : Bool) (n L : Nat) : SS.after (eS 2 bk n L) 0 ((0 : Int) != 0) = eS 2 bk n 0 := by
  simp [SS.after, SS.res, SS.took1, eS]
theorem after_back1 (bk : Bool) (n L : Nat) : SS.after (eS 2 bk n L) 210 ((0 : Int) != 0) = eS 3 bk n 0 := by
  simp [SS.after, SS.res, SS.took1, eS]
theorem after_on0 (bk : Bool) (n L : Nat) : SS.after (eS 3 bk n L) 0 ((0 : Int) != 0) = eS 3 bk (n + 1) 0 := by
  simp [SS.after, SS.res, SS.took1, eS]
theorem after_on1 (bk : Bool) (n L : Nat) : SS.after (eS 3 bk n L) 210 ((0 : Int) != 0) = eS 4 bk n 0 := by
  simp [SS.after, SS.res, SS.took1, eS]
def ePh (bk nm : Bool) (t : Nat) : Int := if nm then 1 else if bk && t == 0 then 2 else 3

def endsRel (w : World) (p a : Nat) (bk : Bool) (N : Nat) (v11 v12 v13 v14 : Value) (wx : World) : Prop :=
  ∃ (i t n L : Nat) (nm : Bool), i ≤ N ∧ i ≤ 100 ∧ L ≤ i ∧ n ≤ i ∧ v14 = .int .i64 (i : Int) ∧ v11 = .int .i64 (t : Int) ∧ v12 = .bool nm ∧ v13 = .int .i64 (n : Int) ∧
    ((nm = true ∧ t = 0) ∨ (nm = false ∧ t = 0) ∨ (nm = false ∧ t = 1 ∧ bk = true)) ∧ eOn w wx p (eS (ePh bk nm t) bk n L) a
def codeCut (wr : World) (v15 : Value) (wx : World) : Prop := wr = wx ∧ (v15 = .int .i64 0 ∨ v15 = .int .i64 210 ∨ v15 = .int .i64 211 ∨ v15 = .int .i64 212)

theorem alloc_name (w : World) : (Instr.alloc 23 true (.tuple #[])).run Try.prog w = .ok (.pointer (some ⟨w.heap.size, 0, none⟩)) (w.alloc (.cells zeroName 23)) := by kernel_rfl
theorem wpList_alloc_v {P : Program} (w : World) {ops : Array Oper} {rest : List Oper} {o : Oper} {a : Act} {Q : Exit → Act → World → Prop} (hgd : o.guard = none) (t : TypeId) (ho : o.op = .alloc t)
    (v : Value) (w' : World) (hr : (Instr.alloc t true (.tuple #[])).run P w = .ok v w') (h : wpList P ops Q rest (a.put o.dst v) w') : wpList P ops Q (o :: rest) a w := by
  refine wpList_plain hgd fun K hK => ?_
  have hK' := hK _ _ h
  unfold Oper.wp execOp
  simp only [ho, Sem.run_bind, hr, Result.andThen_ok, Sem.run_pure]
  exact hK'
def name31 : Array Value := zeroName.setIfInBounds 31 (.int .u8 1)
theorem neq_31 (w : World) : (binOp .neq 23 (.agg name31) (.agg zeroName)).run Try.prog w = .ok (.bool true) w := by kernel_rfl
theorem zero_free (i : Nat) (h : i < 32) : zeroName[i]? = some (.int .u8 0) := by
  unfold zeroName
  match i, h with
  | 0, _ => rfl
  | 1, _ => rfl
  | 2, _ => rfl
  | 3, _ => rfl
  | 4, _ => rfl
  | 5, _ => rfl
  | 6, _ => rfl
  | 7, _ => rfl
  | 8, _ => rfl
  | 9, _ => rfl
  | 10, _ => rfl
  | 11, _ => rfl
  | 12, _ => rfl
  | 13, _ => rfl
  | 14, _ => rfl
  | 15, _ => rfl
  | 16, _ => rfl
  | 17, _ => rfl
  | 18, _ => rfl
  | 19, _ => rfl
  | 20, _ => rfl
  | 21, _ => rfl
  | 22, _ => rfl
  | 23, _ => rfl
  | 24, _ => rfl
  | 25, _ => rfl
  | 26, _ => rfl
  | 27, _ => rfl
  | 28, _ => rfl
  | 29, _ => rfl
  | 30, _ => rfl
  | 31, _ => rfl
  | (i + 32), h => omega

set_option maxHeartbeats 16000000 in
theorem sweepEnds_walk (rot back : Bool) (B : Option Addr) (k N d : Nat) (xs : List Int) (w : World)
    (rd : reads w B k N 1 (cellsK .i64 xs)) (hnd : N ≤ d) (hd : d ≤ maxLen) (hx : ∀ x ∈ xs, (Lit.int .i64 x).wf = true) :
    Calls Try.prog 4 #[.bool rot, .bool back, .slice B N d] w (yesPost w) := by
  unfold maxLen at hd
  have hxl : xs.length = N := by have := rd.1; simp [cellsK] at this; omega
  have HXL := Lib.hid hxl
  clear hxl
  have HX := Lib.hid (And.intro rd hx)
  clear rd hx
  cases back
  · have hz31 : (w.alloc (.cells zeroName 23)).cell? ⟨w.heap.size, 31, none⟩ = some (.int .u8 0) := by rw [(rowAt.new w _ zeroName).cell]; exact zero_free 31 (by omega)
    have hf31 : (w.alloc (.cells zeroName 23)).frozen? ⟨w.heap.size, 31, none⟩ = false := (rowAt.new w _ zeroName).free 31
    have hr0 := rowAt.new w 23 zeroName
    have hk0 := (keepBut.refl [] w).alloc (.cells zeroName 23)
    generalize hw1 : w.alloc (.cells zeroName 23) = w1 at *
    have HW1 := Lib.hid hw1
    clear hw1
    have HR0 := Lib.hid (And.intro hr0 hk0)
    clear hr0 hk0
    go_enter Try.func4, Try.ntmps4
    go_upto_region 2 with (with_reducible refine wpList_alloc_v _ rfl 23 rfl _ _ (alloc_name _) ?_)
    rw [HW1.out]
    go_upto_region 4 with fail
    obtain ⟨hr1, hk1⟩ := HR0.out
    clear hz31 hf31 HR0
    generalize w1 = w2 at *
    have HI := Lib.hid (show (Try.prog.info? 23).map (·.size) = some (zeroName : Array Value).size from info_name)
    have HR1 := Lib.hid (And.intro hr1 hk1)
    have HRW := Lib.hid (show w2.heap[w.heap.size]? = some (.cells zeroName 23 (0, 0)) from hr1)
    clear hr1 hk1
    go_wp2_with (with_reducible refine wpList_load_row rfl 23 (.tmp 7) rfl w.heap.size rfl _ zeroName _ _ HRW.out Try.underlying23 rfl HI.out ?_)
    refine (newS_any rot false 100 zeroName _ (by omega) (by omega) rfl neq_zero).mono ?_; intro e w3 hq; obtain ⟨p, rfl, h3⟩ := sOn.start HR1.out.2 hq; clear hq
    rw [show SS.new rot false 100 = eS (ePh false rot 0) false 0 0 by cases rot <;> rfl] at h3
    have hp3 := rowAt.lt h3.1
    have h4 : eOn w (w3.alloc (.cells allRow 28)) p (eS (ePh false rot 0) false 0 0) w3.heap.size := ⟨h3.over ((keepBut.refl [] w3).alloc _), rowAt.new w3 _ _, by omega⟩
    have H4 := Lib.hid h4
    clear h3 h4 hp3
    go_wp2_with fail
    go_upto_region 10 with fail
    unfold allRow at H4
    generalize hw4 : w3.alloc _ = w4 at *
    generalize w3.heap.size = a at *
    have HW4 := Lib.hid hw4
    clear hw4
    go_loopw [11, 12, 13, 14, 15, 16, 17] (fun v11 v12 v13 v14 v15 v16 v17 wx => endsRel w p a false N v11 v12 v13 v14 wx) (fun _ _ _ v14 _ _ _ _ => N - (intOf v14).toNat)
    case atStart => exact ⟨0, 0, 0, 0, rot, by omega, by omega, by omega, by omega, rfl, rfl, rfl, rfl, by cases rot <;> simp, H4.out⟩
    case round =>
      obtain ⟨i, t, n, L, nm, hi, hi2, hL, hn, rfl, rfl, rfl, rfl, hst, hs⟩ := hrel
      have HS := Lib.hid hs
      clear hs
      by_cases hlt : i < N ∧ i < 100
      · obtain ⟨hlt1, hlt2⟩ := hlt
        have hlt1' : (i : Int) < (N : Int) := by omega
        have hlt2' : (i : Int) < 100 := by omega
        obtain ⟨z, hz⟩ : ∃ z, xs[i]? = some z := ⟨xs[i]'(by have := HXL.out; omega), by simp⟩
        have hzb : -9223372036854775808 ≤ z ∧ z ≤ 9223372036854775807 := by
          have := HX.out.2 z (List.mem_of_getElem? hz)
          simpa [Lit.wf, IntKind.min, IntKind.max, IntKind.signed, IntKind.bits] using this
        obtain ⟨o, rfl, hkl, hcells⟩ := HX.out.1.2 (by omega)
        have hc0 := (HS.out.1.2.2.cell (p := ⟨k, o + i, none⟩) hkl (by simp)).trans (hcells i (.int .i64 z) (by simp [cellsK, hz]))
        clear hcells hz
        go_upto_region 12 with fail
        go_cut [15] (fun v15 wx => codeCut wr v15 wx)
        case first =>
          have hr := HS.out.2.1
          have a0 : wr.cell? ⟨a, 0, none⟩ = some (.int .i64 0) := hr.cell 0
          have a1 : wr.cell? ⟨a, 1, none⟩ = some (.int .i64 0) := hr.cell 1
          have a2 : wr.cell? ⟨a, 2, none⟩ = some (.int .i64 210) := hr.cell 2
          have a3 : wr.cell? ⟨a, 3, none⟩ = some (.int .i64 212) := hr.cell 3
          have a4 : wr.cell? ⟨a, 4, none⟩ = some (.int .i64 0) := hr.cell 4
          have a5 : wr.cell? ⟨a, 5, none⟩ = some (.int .i64 211) := hr.cell 5
          clear hr
          have hr6 : z % 6 = 0 ∨ z % 6 = 1 ∨ z % 6 = 2 ∨ z % 6 = 3 ∨ z % 6 = 4 ∨ z % 6 = 5 := by omega
          rcases hr6 with hr6 | hr6 | hr6 | hr6 | hr6 | hr6
          all_goals
            have HR6 := Lib.hid hr6
            clear hr6
            go_wp2_with fail
            refine (bring_any z 6 hzb.1 hzb.2 (by omega) (by omega) _).mono ?_; rintro e w' ⟨rfl, rfl⟩
            rw [HR6.out]
            go_wp2_with fail
            go_meet
            exact ⟨rfl, by simp⟩
        case rest =>
          obtain ⟨rfl, hv⟩ := hcut
          clear hc0 hzb
          rcases hst with ⟨rfl, rfl⟩ | ⟨rfl, rfl⟩ | ⟨rfl, rfl, hbk⟩
          · rw [show ePh false true 0 = 1 from rfl] at HS
            rcases hv with rfl | rfl | rfl | rfl
            · go_wp2_with fail
              refine (lawtook_any p (eS 1 false n L) 0 none 0 0 false 0 0 0 5 _ HS.out.1.1 (eS_ok _ _ _ _ (by omega) (by omega) (by omega) (by omega)) rfl (by simp [eS]) (by simp [SS.deed, eS]) (by rw [after_rot0 false n L, show (if false = true then (2 : Int) else 3) = 3 from rfl]; exact eS_ok _ _ _ _ (by omega) (by omega) (by omega) (by omega))).mono ?_; intro e w5 hq; obtain ⟨rfl, h5⟩ := HS.out.step hq; clear hq
              rw [after_rot0 false n L, show (if false = true then (2 : Int) else 3) = 3 from rfl] at h5
              have H5 := Lib.hid h5
              clear h5
              go_wp2_with fail
              refine (phase_any p _ _ H5.out.1.1 (by simp [eS])).mono ?_; rintro e w6 ⟨rfl, rfl⟩
              rw [show (eS 3 false n 0).ph = 3 from rfl]
              go_wp2_with fail
              refine (seenS_any p _ _ H5.out.1.1 (by simp [eS])).mono ?_; rintro e w6 ⟨rfl, rfl⟩
              rw [show (eS 3 false n 0).seen = (n : Int) from by simp [eS]]
              go_wp2_with fail
              refine (sealedS_any p _ _ H5.out.1.1 (by simp [eS])).mono ?_; rintro e w6 ⟨rfl, rfl⟩
              rw [show (eS 3 false n 0).sealed = 0 from rfl]
              go_wp2_with fail
              go_roundw
              case rel => exact ⟨i + 1, 0, n, 0, false, by omega, by omega, by omega, by omega, by go_num, rfl, rfl, rfl, by simp, H5.out⟩
              case measure => simp [intOf]; omega
            · go_wp2_with fail
              refine (lawtook_any p (eS 1 false n L) 0 none 0 0 false 0 0 0 5 _ HS.out.1.1 (eS_ok _ _ _ _ (by omega) (by omega) (by omega) (by omega)) rfl (by simp [eS]) (by simp [SS.deed, eS]) (by rw [after_rot0 false n L, show (if false = true then (2 : Int) else 3) = 3 from rfl]; exact eS_ok _ _ _ _ (by omega) (by omega) (by omega) (by omega))).mono ?_; intro e w5 hq; obtain ⟨rfl, h5⟩ := HS.out.step hq; clear hq
              rw [after_rot0 false n L, show (if false = true then (2 : Int) else 3) = 3 from rfl] at h5
              have H5 := Lib.hid h5
              clear h5
              go_wp2_with fail
              refine (phase_any p _ _ H5.out.1.1 (by simp [eS])).mono ?_; rintro e w6 ⟨rfl, rfl⟩
              rw [show (eS 3 false n 0).ph = 3 from rfl]
              go_wp2_with fail
              refine (seenS_any p _ _ H5.out.1.1 (by simp [eS])).mono ?_; rintro e w6 ⟨rfl, rfl⟩
              rw [show (eS 3 false n 0).seen = (n : Int) from by simp [eS]]
              go_wp2_with fail
              refine (sealedS_any p _ _ H5.out.1.1 (by simp [eS])).mono ?_; rintro e w6 ⟨rfl, rfl⟩
              rw [show (eS 3 false n 0).sealed = 0 from rfl]
              go_wp2_with fail
              go_roundw
              case rel => exact ⟨i + 1, 0, n, 0, false, by omega, by omega, by omega, by omega, by go_num, rfl, rfl, rfl, by simp, H5.out⟩
              case measure => simp [intOf]; omega
            · go_wp2_with fail
              refine (lawtook_any p (eS 1 false n L) 211 none 0 0 false 0 0 0 5 _ HS.out.1.1 (eS_ok _ _ _ _ (by omega) (by omega) (by omega) (by omega)) rfl (by simp [eS]) (by simp [SS.deed, eS]) (by rw [after_rot1 false n L, show (if false = true then (2 : Int) else 3) = 3 from rfl]; exact eS_ok _ _ _ _ (by omega) (by omega) (by omega) (by omega))).mono ?_; intro e w5 hq; obtain ⟨rfl, h5⟩ := HS.out.step hq; clear hq
              rw [after_rot1 false n L, show (if false = true then (2 : Int) else 3) = 3 from rfl] at h5
              have H5 := Lib.hid h5
              clear h5
              go_wp2_with fail
              refine (phase_any p _ _ H5.out.1.1 (by simp [eS])).mono ?_; rintro e w6 ⟨rfl, rfl⟩
              rw [show (eS 3 false n 0).ph = 3 from rfl]
              go_wp2_with fail
              refine (seenS_any p _ _ H5.out.1.1 (by simp [eS])).mono ?_; rintro e w6 ⟨rfl, rfl⟩
              rw [show (eS 3 false n 0).seen = (n : Int) from by simp [eS]]
              go_wp2_with fail
              refine (sealedS_any p _ _ H5.out.1.1 (by simp [eS])).mono ?_; rintro e w6 ⟨rfl, rfl⟩
              rw [show (eS 3 false n 0).sealed = 0 from rfl]
              go_wp2_with fail
              go_roundw
              case rel => exact ⟨i + 1, 0, n, 0, false, by omega, by omega, by omega, by omega, by go_num, rfl, rfl, rfl, by simp, H5.out⟩
              case measure => simp [intOf]; omega
            · go_wp2_with fail
              refine (lawtook_any p (eS 1 false n L) 212 none 0 0 false 0 0 0 5 _ HS.out.1.1 (eS_ok _ _ _ _ (by omega) (by omega) (by omega) (by omega)) rfl (by simp [eS]) (by simp [SS.deed, eS]) (by rw [after_time 1 false n L (by omega)]; exact eS_ok _ _ _ _ (by omega) (by omega) (by omega) (by omega))).mono ?_; intro e w5 hq; obtain ⟨rfl, h5⟩ := HS.out.step hq; clear hq
              rw [after_time 1 false n L (by omega)] at h5
              have H5 := Lib.hid h5
              clear h5
              go_wp2_with fail
              refine (phase_any p _ _ H5.out.1.1 (by simp [eS])).mono ?_; rintro e w6 ⟨rfl, rfl⟩
              rw [show (eS 1 false n (L + 1)).ph = 1 from rfl]
              go_wp2_with fail
              refine (seenS_any p _ _ H5.out.1.1 (by simp [eS])).mono ?_; rintro e w6 ⟨rfl, rfl⟩
              rw [show (eS 1 false n (L + 1)).seen = (n : Int) from by simp [eS]]
              go_wp2_with fail
              refine (sealedS_any p _ _ H5.out.1.1 (by simp [eS])).mono ?_; rintro e w6 ⟨rfl, rfl⟩
              rw [show (eS 1 false n (L + 1)).sealed = 0 from rfl]
              go_wp2_with fail
              go_roundw
              case rel => exact ⟨i + 1, 0, n, (L + 1), true, by omega, by omega, by omega, by omega, by go_num, rfl, rfl, rfl, by simp, H5.out⟩
              case measure => simp [intOf]; omega
          · rw [show ePh false false 0 = 3 from rfl] at HS
            rcases hv with rfl | rfl | rfl | rfl
            · go_wp2_with fail
              refine (lawtook_any p (eS 3 false n L) 0 none 0 0 false 0 0 0 6 _ HS.out.1.1 (eS_ok _ _ _ _ (by omega) (by omega) (by omega) (by omega)) rfl (by simp [eS]) (by simp [SS.deed, eS]) (by rw [after_on0 false n L]; exact eS_ok _ _ _ _ (by omega) (by omega) (by omega) (by omega))).mono ?_; intro e w5 hq; obtain ⟨rfl, h5⟩ := HS.out.step hq; clear hq
              rw [after_on0 false n L] at h5
              have H5 := Lib.hid h5
              clear h5
              go_wp2_with fail
              refine (phase_any p _ _ H5.out.1.1 (by simp [eS])).mono ?_; rintro e w6 ⟨rfl, rfl⟩
              rw [show (eS 3 false (n + 1) 0).ph = 3 from rfl]
              go_wp2_with fail
              refine (seenS_any p _ _ H5.out.1.1 (by simp [eS])).mono ?_; rintro e w6 ⟨rfl, rfl⟩
              rw [show (eS 3 false (n + 1) 0).seen = (n : Int) + 1 from by simp [eS]]
              go_wp2_with fail
              refine (sealedS_any p _ _ H5.out.1.1 (by simp [eS])).mono ?_; rintro e w6 ⟨rfl, rfl⟩
              rw [show (eS 3 false (n + 1) 0).sealed = 0 from rfl]
              go_wp2_with fail
              go_roundw
              case rel => exact ⟨i + 1, 0, (n + 1), 0, false, by omega, by omega, by omega, by omega, by go_num, rfl, rfl, by go_num, by simp, H5.out⟩
              case measure => simp [intOf]; omega
            · go_wp2_with fail
              refine (lawtook_any p (eS 3 false n L) 210 none 0 0 false 0 0 0 6 _ HS.out.1.1 (eS_ok _ _ _ _ (by omega) (by omega) (by omega) (by omega)) rfl (by simp [eS]) (by simp [SS.deed, eS]) (by rw [after_on1 false n L]; exact eS_ok _ _ _ _ (by omega) (by omega) (by omega) (by omega))).mono ?_; intro e w5 hq; obtain ⟨rfl, h5⟩ := HS.out.step hq; clear hq
              rw [after_on1 false n L] at h5
              have H5 := Lib.hid h5
              clear h5
              go_wp2_with fail
              refine (phase_any p _ _ H5.out.1.1 (by simp [eS])).mono ?_; rintro e w6 ⟨rfl, rfl⟩
              rw [show (eS 4 false n 0).ph = 4 from rfl]
              go_wp2_with fail
              refine (seenS_any p _ _ H5.out.1.1 (by simp [eS])).mono ?_; rintro e w6 ⟨rfl, rfl⟩
              rw [show (eS 4 false n 0).seen = (n : Int) from by simp [eS]]
              go_wp2_with fail
              refine (sealedS_any p _ _ H5.out.1.1 (by simp [eS])).mono ?_; rintro e w6 ⟨rfl, rfl⟩
              rw [show (eS 4 false n 0).sealed = 0 from rfl]
              go_wp2_with fail
              refine (lawnext_any p _ _ 0 170 _ H5.out.1.1 (eS_ok _ _ _ _ (by omega) (by omega) (by omega) (by omega)) (SS.next_no (by simp [eS]))).mono ?_; intro e w7 hq; obtain ⟨rfl, h7⟩ := H5.out.step hq; clear hq
              have H7 := Lib.hid h7
              clear h7
              go_wp2_with fail
              refine (tookNo_any p _ 0 none 0 0 false 0 0 0 _ H7.out.1.1 (eS_ok _ _ _ _ (by omega) (by omega) (by omega) (by omega)) rfl).mono ?_; intro e w8 hq; obtain ⟨rfl, h8⟩ := H7.out.step hq; clear hq
              have H8 := Lib.hid h8
              clear h8
              go_wp2_with fail
              refine (why_any p _ _ H8.out.1.1 (by simp [eS])).mono ?_; rintro e w9 ⟨rfl, rfl⟩
              rw [show (eS 4 false n 0).why = 0 from rfl]
              go_wp2_with fail
              refine (works_any _).mono ?_; rintro e w10 ⟨rfl, hkw⟩
              have HKW := Lib.hid (H8.out.1.2.2.then hkw (by simp))
              clear hkw
              go_wp2_with fail
              go_ret
              exact ⟨rfl, HKW.out⟩
            · go_wp2_with fail
              refine (lawtook_any p (eS 3 false n L) 0 none 0 0 false 0 0 0 6 _ HS.out.1.1 (eS_ok _ _ _ _ (by omega) (by omega) (by omega) (by omega)) rfl (by simp [eS]) (by simp [SS.deed, eS]) (by rw [after_on0 false n L]; exact eS_ok _ _ _ _ (by omega) (by omega) (by omega) (by omega))).mono ?_; intro e w5 hq; obtain ⟨rfl, h5⟩ := HS.out.step hq; clear hq
              rw [after_on0 false n L] at h5
              have H5 := Lib.hid h5
              clear h5
              go_wp2_with fail
              refine (phase_any p _ _ H5.out.1.1 (by simp [eS])).mono ?_; rintro e w6 ⟨rfl, rfl⟩
              rw [show (eS 3 false (n + 1) 0).ph = 3 from rfl]
              go_wp2_with fail
              refine (seenS_any p _ _ H5.out.1.1 (by simp [eS])).mono ?_; rintro e w6 ⟨rfl, rfl⟩
              rw [show (eS 3 false (n + 1) 0).seen = (n : Int) + 1 from by simp [eS]]
              go_wp2_with fail
              refine (sealedS_any p _ _ H5.out.1.1 (by simp [eS])).mono ?_; rintro e w6 ⟨rfl, rfl⟩
              rw [show (eS 3 false (n + 1) 0).sealed = 0 from rfl]
              go_wp2_with fail
              go_roundw
              case rel => exact ⟨i + 1, 0, (n + 1), 0, false, by omega, by omega, by omega, by omega, by go_num, rfl, rfl, by go_num, by simp, H5.out⟩
              case measure => simp [intOf]; omega
            · go_wp2_with fail
              refine (lawtook_any p (eS 3 false n L) 212 none 0 0 false 0 0 0 6 _ HS.out.1.1 (eS_ok _ _ _ _ (by omega) (by omega) (by omega) (by omega)) rfl (by simp [eS]) (by simp [SS.deed, eS]) (by rw [after_time 3 false n L (by omega)]; exact eS_ok _ _ _ _ (by omega) (by omega) (by omega) (by omega))).mono ?_; intro e w5 hq; obtain ⟨rfl, h5⟩ := HS.out.step hq; clear hq
              rw [after_time 3 false n L (by omega)] at h5
              have H5 := Lib.hid h5
              clear h5
              go_wp2_with fail
              refine (phase_any p _ _ H5.out.1.1 (by simp [eS])).mono ?_; rintro e w6 ⟨rfl, rfl⟩
              rw [show (eS 3 false n (L + 1)).ph = 3 from rfl]
              go_wp2_with fail
              refine (seenS_any p _ _ H5.out.1.1 (by simp [eS])).mono ?_; rintro e w6 ⟨rfl, rfl⟩
              rw [show (eS 3 false n (L + 1)).seen = (n : Int) from by simp [eS]]
              go_wp2_with fail
              refine (sealedS_any p _ _ H5.out.1.1 (by simp [eS])).mono ?_; rintro e w6 ⟨rfl, rfl⟩
              rw [show (eS 3 false n (L + 1)).sealed = 0 from rfl]
              go_wp2_with fail
              go_roundw
              case rel => exact ⟨i + 1, 0, n, (L + 1), false, by omega, by omega, by omega, by omega, by go_num, rfl, rfl, rfl, by simp, H5.out⟩
              case measure => simp [intOf]; omega
          · cases hbk
      · have hor : ¬ (i : Int) < (N : Int) ∨ ((i : Int) < (N : Int) ∧ ¬ (i : Int) < 100) := by omega
        have hph : 1 ≤ ePh false nm t ∧ ePh false nm t < 4 := by unfold ePh; split <;> (try split) <;> omega
        rcases hor with hor | ⟨hor, hor2⟩
        all_goals
          go_wp2_with fail
          refine (phase_any p _ _ HS.out.1.1 hph.1).mono ?_; rintro e w6 ⟨rfl, rfl⟩
          rw [show (eS (ePh false nm t) false n L).ph = ePh false nm t from rfl]
          go_wp2_with fail
          refine (works_any _).mono ?_; rintro e w10 ⟨rfl, hkw⟩
          have HKW := Lib.hid (HS.out.1.2.2.then hkw (by simp))
          clear hkw
          go_wp2_with fail
          go_ret
          exact ⟨rfl, HKW.out⟩
  · have hz31 : (w.alloc (.cells zeroName 23)).cell? ⟨w.heap.size, 31, none⟩ = some (.int .u8 0) := by rw [(rowAt.new w _ zeroName).cell]; exact zero_free 31 (by omega)
    have hf31 : (w.alloc (.cells zeroName 23)).frozen? ⟨w.heap.size, 31, none⟩ = false := (rowAt.new w _ zeroName).free 31
    have hr0 := rowAt.new w 23 zeroName
    have hk0 := (keepBut.refl [] w).alloc (.cells zeroName 23)
    generalize hw1 : w.alloc (.cells zeroName 23) = w1 at *
    have HW1 := Lib.hid hw1
    clear hw1
    have HR0 := Lib.hid (And.intro hr0 hk0)
    clear hr0 hk0
    go_enter Try.func4, Try.ntmps4
    go_upto_region 2 with (with_reducible refine wpList_alloc_v _ rfl 23 rfl _ _ (alloc_name _) ?_)
    rw [HW1.out]
    go_upto_region 4 with fail
    have hr1 : rowAt (w1.setCell ⟨w.heap.size, 31, none⟩ (.int .u8 1)) w.heap.size 23 name31 := HR0.out.1.set 31 (.int .u8 1)
    have hk1 : keepBut [] w (w1.setCell ⟨w.heap.size, 31, none⟩ (.int .u8 1)) := HR0.out.2.setCell ⟨w.heap.size, 31, none⟩ (.int .u8 1) (.inr (Nat.le_refl _))
    clear hz31 hf31
    generalize w1.setCell ⟨w.heap.size, 31, none⟩ (.int .u8 1) = w2 at *
    have HI := Lib.hid (show (Try.prog.info? 23).map (·.size) = some (name31 : Array Value).size from info_name)
    have HR1 := Lib.hid (And.intro hr1 hk1)
    have HRW := Lib.hid (show w2.heap[w.heap.size]? = some (.cells name31 23 (0, 0)) from hr1)
    clear hr1 hk1
    go_wp2_with (with_reducible refine wpList_load_row rfl 23 (.tmp 7) rfl w.heap.size rfl _ name31 _ _ HRW.out Try.underlying23 rfl HI.out ?_)
    refine (newS_any rot true 100 name31 _ (by omega) (by omega) rfl neq_31).mono ?_; intro e w3 hq; obtain ⟨p, rfl, h3⟩ := sOn.start HR1.out.2 hq; clear hq
    rw [show SS.new rot true 100 = eS (ePh true rot 0) true 0 0 by cases rot <;> rfl] at h3
    have hp3 := rowAt.lt h3.1
    have h4 : eOn w (w3.alloc (.cells allRow 28)) p (eS (ePh true rot 0) true 0 0) w3.heap.size := ⟨h3.over ((keepBut.refl [] w3).alloc _), rowAt.new w3 _ _, by omega⟩
    have H4 := Lib.hid h4
    clear h3 h4 hp3
    go_wp2_with fail
    go_upto_region 10 with fail
    unfold allRow at H4
    generalize hw4 : w3.alloc _ = w4 at *
    generalize w3.heap.size = a at *
    have HW4 := Lib.hid hw4
    clear hw4
    go_loopw [11, 12, 13, 14, 15, 16, 17] (fun v11 v12 v13 v14 v15 v16 v17 wx => endsRel w p a true N v11 v12 v13 v14 wx) (fun _ _ _ v14 _ _ _ _ => N - (intOf v14).toNat)
    case atStart => exact ⟨0, 0, 0, 0, rot, by omega, by omega, by omega, by omega, rfl, rfl, rfl, rfl, by cases rot <;> simp, H4.out⟩
    case round =>
      obtain ⟨i, t, n, L, nm, hi, hi2, hL, hn, rfl, rfl, rfl, rfl, hst, hs⟩ := hrel
      have HS := Lib.hid hs
      clear hs
      by_cases hlt : i < N ∧ i < 100
      · obtain ⟨hlt1, hlt2⟩ := hlt
        have hlt1' : (i : Int) < (N : Int) := by omega
        have hlt2' : (i : Int) < 100 := by omega
        obtain ⟨z, hz⟩ : ∃ z, xs[i]? = some z := ⟨xs[i]'(by have := HXL.out; omega), by simp⟩
        have hzb : -9223372036854775808 ≤ z ∧ z ≤ 9223372036854775807 := by
          have := HX.out.2 z (List.mem_of_getElem? hz)
          simpa [Lit.wf, IntKind.min, IntKind.max, IntKind.signed, IntKind.bits] using this
        obtain ⟨o, rfl, hkl, hcells⟩ := HX.out.1.2 (by omega)
        have hc0 := (HS.out.1.2.2.cell (p := ⟨k, o + i, none⟩) hkl (by simp)).trans (hcells i (.int .i64 z) (by simp [cellsK, hz]))
        clear hcells hz
        go_upto_region 12 with fail
        go_cut [15] (fun v15 wx => codeCut wr v15 wx)
        case first =>
          have hr := HS.out.2.1
          have a0 : wr.cell? ⟨a, 0, none⟩ = some (.int .i64 0) := hr.cell 0
          have a1 : wr.cell? ⟨a, 1, none⟩ = some (.int .i64 0) := hr.cell 1
          have a2 : wr.cell? ⟨a, 2, none⟩ = some (.int .i64 210) := hr.cell 2
          have a3 : wr.cell? ⟨a, 3, none⟩ = some (.int .i64 212) := hr.cell 3
          have a4 : wr.cell? ⟨a, 4, none⟩ = some (.int .i64 0) := hr.cell 4
          have a5 : wr.cell? ⟨a, 5, none⟩ = some (.int .i64 211) := hr.cell 5
          clear hr
          have hr6 : z % 6 = 0 ∨ z % 6 = 1 ∨ z % 6 = 2 ∨ z % 6 = 3 ∨ z % 6 = 4 ∨ z % 6 = 5 := by omega
          rcases hr6 with hr6 | hr6 | hr6 | hr6 | hr6 | hr6
          all_goals
            have HR6 := Lib.hid hr6
            clear hr6
            go_wp2_with fail
            refine (bring_any z 6 hzb.1 hzb.2 (by omega) (by omega) _).mono ?_; rintro e w' ⟨rfl, rfl⟩
            rw [HR6.out]
            go_wp2_with fail
            go_meet
            exact ⟨rfl, by simp⟩
        case rest =>
          obtain ⟨rfl, hv⟩ := hcut
          clear hc0 hzb
          rcases hst with ⟨rfl, rfl⟩ | ⟨rfl, rfl⟩ | ⟨rfl, rfl, hbk⟩
          · rw [show ePh true true 0 = 1 from rfl] at HS
            rcases hv with rfl | rfl | rfl | rfl
            · go_wp2_with fail
              refine (lawtook_any p (eS 1 true n L) 0 none 0 0 false 0 0 0 5 _ HS.out.1.1 (eS_ok _ _ _ _ (by omega) (by omega) (by omega) (by omega)) rfl (by simp [eS]) (by simp [SS.deed, eS]) (by rw [after_rot0 true n L, show (if true = true then (2 : Int) else 3) = 2 from rfl]; exact eS_ok _ _ _ _ (by omega) (by omega) (by omega) (by omega))).mono ?_; intro e w5 hq; obtain ⟨rfl, h5⟩ := HS.out.step hq; clear hq
              rw [after_rot0 true n L, show (if true = true then (2 : Int) else 3) = 2 from rfl] at h5
              have H5 := Lib.hid h5
              clear h5
              go_wp2_with fail
              refine (phase_any p _ _ H5.out.1.1 (by simp [eS])).mono ?_; rintro e w6 ⟨rfl, rfl⟩
              rw [show (eS 2 true n 0).ph = 2 from rfl]
              go_wp2_with fail
              refine (seenS_any p _ _ H5.out.1.1 (by simp [eS])).mono ?_; rintro e w6 ⟨rfl, rfl⟩
              rw [show (eS 2 true n 0).seen = (n : Int) from by simp [eS]]
              go_wp2_with fail
              refine (sealedS_any p _ _ H5.out.1.1 (by simp [eS])).mono ?_; rintro e w6 ⟨rfl, rfl⟩
              rw [show (eS 2 true n 0).sealed = 0 from rfl]
              go_wp2_with fail
              go_roundw
              case rel => exact ⟨i + 1, 0, n, 0, false, by omega, by omega, by omega, by omega, by go_num, rfl, rfl, rfl, by simp, H5.out⟩
              case measure => simp [intOf]; omega
            · go_wp2_with fail
              refine (lawtook_any p (eS 1 true n L) 0 none 0 0 false 0 0 0 5 _ HS.out.1.1 (eS_ok _ _ _ _ (by omega) (by omega) (by omega) (by omega)) rfl (by simp [eS]) (by simp [SS.deed, eS]) (by rw [after_rot0 true n L, show (if true = true then (2 : Int) else 3) = 2 from rfl]; exact eS_ok _ _ _ _ (by omega) (by omega) (by omega) (by omega))).mono ?_; intro e w5 hq; obtain ⟨rfl, h5⟩ := HS.out.step hq; clear hq
              rw [after_rot0 true n L, show (if true = true then (2 : Int) else 3) = 2 from rfl] at h5
              have H5 := Lib.hid h5
              clear h5
              go_wp2_with fail
              refine (phase_any p _ _ H5.out.1.1 (by simp [eS])).mono ?_; rintro e w6 ⟨rfl, rfl⟩
              rw [show (eS 2 true n 0).ph = 2 from rfl]
              go_wp2_with fail
              refine (seenS_any p _ _ H5.out.1.1 (by simp [eS])).mono ?_; rintro e w6 ⟨rfl, rfl⟩
              rw [show (eS 2 true n 0).seen = (n : Int) from by simp [eS]]
              go_wp2_with fail
              refine (sealedS_any p _ _ H5.out.1.1 (by simp [eS])).mono ?_; rintro e w6 ⟨rfl, rfl⟩
              rw [show (eS 2 true n 0).sealed = 0 from rfl]
              go_wp2_with fail
              go_roundw
              case rel => exact ⟨i + 1, 0, n, 0, false, by omega, by omega, by omega, by omega, by go_num, rfl, rfl, rfl, by simp, H5.out⟩
              case measure => simp [intOf]; omega
            · go_wp2_with fail
              refine (lawtook_any p (eS 1 true n L) 211 none 0 0 false 0 0 0 5 _ HS.out.1.1 (eS_ok _ _ _ _ (by omega) (by omega) (by omega) (by omega)) rfl (by simp [eS]) (by simp [SS.deed, eS]) (by rw [after_rot1 true n L, show (if true = true then (2 : Int) else 3) = 2 from rfl]; exact eS_ok _ _ _ _ (by omega) (by omega) (by omega) (by omega))).mono ?_; intro e w5 hq; obtain ⟨rfl, h5⟩ := HS.out.step hq; clear hq
              rw [after_rot1 true n L, show (if true = true then (2 : Int) else 3) = 2 from rfl] at h5
              have H5 := Lib.hid h5
              clear h5
              go_wp2_with fail
              refine (phase_any p _ _ H5.out.1.1 (by simp [eS])).mono ?_; rintro e w6 ⟨rfl, rfl⟩
              rw [show (eS 2 true n 0).ph = 2 from rfl]
              go_wp2_with fail
              refine (seenS_any p _ _ H5.out.1.1 (by simp [eS])).mono ?_; rintro e w6 ⟨rfl, rfl⟩
              rw [show (eS 2 true n 0).seen = (n : Int) from by simp [eS]]
              go_wp2_with fail
              refine (sealedS_any p _ _ H5.out.1.1 (by simp [eS])).mono ?_; rintro e w6 ⟨rfl, rfl⟩
              rw [show (eS 2 true n 0).sealed = 0 from rfl]
              go_wp2_with fail
              go_roundw
              case rel => exact ⟨i + 1, 0, n, 0, false, by omega, by omega, by omega, by omega, by go_num, rfl, rfl, rfl, by simp, H5.out⟩
              case measure => simp [intOf]; omega
            · go_wp2_with fail
              refine (lawtook_any p (eS 1 true n L) 212 none 0 0 false 0 0 0 5 _ HS.out.1.1 (eS_ok _ _ _ _ (by omega) (by omega) (by omega) (by omega)) rfl (by simp [eS]) (by simp [SS.deed, eS]) (by rw [after_time 1 true n L (by omega)]; exact eS_ok _ _ _ _ (by omega) (by omega) (by omega) (by omega))).mono ?_; intro e w5 hq; obtain ⟨rfl, h5⟩ := HS.out.step hq; clear hq
              rw [after_time 1 true n L (by omega)] at h5
              have H5 := Lib.hid h5
              clear h5
              go_wp2_with fail
              refine (phase_any p _ _ H5.out.1.1 (by simp [eS])).mono ?_; rintro e w6 ⟨rfl, rfl⟩
              rw [show (eS 1 true n (L + 1)).ph = 1 from rfl]
              go_wp2_with fail
              refine (seenS_any p _ _ H5.out.1.1 (by simp [eS])).mono ?_; rintro e w6 ⟨rfl, rfl⟩
              rw [show (eS 1 true n (L + 1)).seen = (n : Int) from by simp [eS]]
              go_wp2_with fail
              refine (sealedS_any p _ _ H5.out.1.1 (by simp [eS])).mono ?_; rintro e w6 ⟨rfl, rfl⟩
              rw [show (eS 1 true n (L + 1)).sealed = 0 from rfl]
              go_wp2_with fail
              go_roundw
              case rel => exact ⟨i + 1, 0, n, (L + 1), true, by omega, by omega, by omega, by omega, by go_num, rfl, rfl, rfl, by simp, H5.out⟩
              case measure => simp [intOf]; omega
          · rw [show ePh true false 0 = 2 from rfl] at HS
            rcases hv with rfl | rfl | rfl | rfl
            · go_wp2_with fail
              refine (lawtook_any p (eS 2 true n L) 0 none 0 0 false 0 0 0 6 _ HS.out.1.1 (eS_ok _ _ _ _ (by omega) (by omega) (by omega) (by omega)) rfl (by simp [eS]) (by simp [SS.deed, eS]) (by rw [after_back0 true n L]; exact eS_ok _ _ _ _ (by omega) (by omega) (by omega) (by omega))).mono ?_; intro e w5 hq; obtain ⟨rfl, h5⟩ := HS.out.step hq; clear hq
              rw [after_back0 true n L] at h5
              have H5 := Lib.hid h5
              clear h5
              go_wp2_with fail
              refine (phase_any p _ _ H5.out.1.1 (by simp [eS])).mono ?_; rintro e w6 ⟨rfl, rfl⟩
              rw [show (eS 2 true n 0).ph = 2 from rfl]
              go_wp2_with fail
              refine (seenS_any p _ _ H5.out.1.1 (by simp [eS])).mono ?_; rintro e w6 ⟨rfl, rfl⟩
              rw [show (eS 2 true n 0).seen = (n : Int) from by simp [eS]]
              go_wp2_with fail
              refine (sealedS_any p _ _ H5.out.1.1 (by simp [eS])).mono ?_; rintro e w6 ⟨rfl, rfl⟩
              rw [show (eS 2 true n 0).sealed = 0 from rfl]
              go_wp2_with fail
              go_roundw
              case rel => exact ⟨i + 1, 0, n, 0, false, by omega, by omega, by omega, by omega, by go_num, rfl, rfl, rfl, by simp, H5.out⟩
              case measure => simp [intOf]; omega
            · go_wp2_with fail
              refine (lawtook_any p (eS 2 true n L) 210 none 0 0 false 0 0 0 6 _ HS.out.1.1 (eS_ok _ _ _ _ (by omega) (by omega) (by omega) (by omega)) rfl (by simp [eS]) (by simp [SS.deed, eS]) (by rw [after_back1 true n L]; exact eS_ok _ _ _ _ (by omega) (by omega) (by omega) (by omega))).mono ?_; intro e w5 hq; obtain ⟨rfl, h5⟩ := HS.out.step hq; clear hq
              rw [after_back1 true n L] at h5
              have H5 := Lib.hid h5
              clear h5
              go_wp2_with fail
              refine (phase_any p _ _ H5.out.1.1 (by simp [eS])).mono ?_; rintro e w6 ⟨rfl, rfl⟩
              rw [show (eS 3 true n 0).ph = 3 from rfl]
              go_wp2_with fail
              refine (seenS_any p _ _ H5.out.1.1 (by simp [eS])).mono ?_; rintro e w6 ⟨rfl, rfl⟩
              rw [show (eS 3 true n 0).seen = (n : Int) from by simp [eS]]
              go_wp2_with fail
              refine (sealedS_any p _ _ H5.out.1.1 (by simp [eS])).mono ?_; rintro e w6 ⟨rfl, rfl⟩
              rw [show (eS 3 true n 0).sealed = 0 from rfl]
              go_wp2_with fail
              go_roundw
              case rel => exact ⟨i + 1, 1, n, 0, false, by omega, by omega, by omega, by omega, by go_num, rfl, rfl, rfl, by simp, H5.out⟩
              case measure => simp [intOf]; omega
            · go_wp2_with fail
              refine (lawtook_any p (eS 2 true n L) 0 none 0 0 false 0 0 0 6 _ HS.out.1.1 (eS_ok _ _ _ _ (by omega) (by omega) (by omega) (by omega)) rfl (by simp [eS]) (by simp [SS.deed, eS]) (by rw [after_back0 true n L]; exact eS_ok _ _ _ _ (by omega) (by omega) (by omega) (by omega))).mono ?_; intro e w5 hq; obtain ⟨rfl, h5⟩ := HS.out.step hq; clear hq
              rw [after_back0 true n L] at h5
              have H5 := Lib.hid h5
              clear h5
              go_wp2_with fail
              refine (phase_any p _ _ H5.out.1.1 (by simp [eS])).mono ?_; rintro e w6 ⟨rfl, rfl⟩
              rw [show (eS 2 true n 0).ph = 2 from rfl]
              go_wp2_with fail
              refine (seenS_any p _ _ H5.out.1.1 (by simp [eS])).mono ?_; rintro e w6 ⟨rfl, rfl⟩
              rw [show (eS 2 true n 0).seen = (n : Int) from by simp [eS]]
              go_wp2_with fail
              refine (sealedS_any p _ _ H5.out.1.1 (by simp [eS])).mono ?_; rintro e w6 ⟨rfl, rfl⟩
              rw [show (eS 2 true n 0).sealed = 0 from rfl]
              go_wp2_with fail
              go_roundw
              case rel => exact ⟨i + 1, 0, n, 0, false, by omega, by omega, by omega, by omega, by go_num, rfl, rfl, rfl, by simp, H5.out⟩
              case measure => simp [intOf]; omega
            · go_wp2_with fail
              refine (lawtook_any p (eS 2 true n L) 212 none 0 0 false 0 0 0 6 _ HS.out.1.1 (eS_ok _ _ _ _ (by omega) (by omega) (by omega) (by omega)) rfl (by simp [eS]) (by simp [SS.deed, eS]) (by rw [after_time 2 true n L (by omega)]; exact eS_ok _ _ _ _ (by omega) (by omega) (by omega) (by omega))).mono ?_; intro e w5 hq; obtain ⟨rfl, h5⟩ := HS.out.step hq; clear hq
              rw [after_time 2 true n L (by omega)] at h5
              have H5 := Lib.hid h5
              clear h5
              go_wp2_with fail
              refine (phase_any p _ _ H5.out.1.1 (by simp [eS])).mono ?_; rintro e w6 ⟨rfl, rfl⟩
              rw [show (eS 2 true n (L + 1)).ph = 2 from rfl]
              go_wp2_with fail
              refine (seenS_any p _ _ H5.out.1.1 (by simp [eS])).mono ?_; rintro e w6 ⟨rfl, rfl⟩
              rw [show (eS 2 true n (L + 1)).seen = (n : Int) from by simp [eS]]
              go_wp2_with fail
              refine (sealedS_any p _ _ H5.out.1.1 (by simp [eS])).mono ?_; rintro e w6 ⟨rfl, rfl⟩
              rw [show (eS 2 true n (L + 1)).sealed = 0 from rfl]
              go_wp2_with fail
              go_roundw
              case rel => exact ⟨i + 1, 0, n, (L + 1), false, by omega, by omega, by omega, by omega, by go_num, rfl, rfl, rfl, by simp, H5.out⟩
              case measure => simp [intOf]; omega
          · rw [show ePh true false 1 = 3 from rfl] at HS
            rcases hv with rfl | rfl | rfl | rfl
            · go_wp2_with fail
              refine (lawtook_any p (eS 3 true n L) 0 none 0 0 false 0 0 0 6 _ HS.out.1.1 (eS_ok _ _ _ _ (by omega) (by omega) (by omega) (by omega)) rfl (by simp [eS]) (by simp [SS.deed, eS]) (by rw [after_on0 true n L]; exact eS_ok _ _ _ _ (by omega) (by omega) (by omega) (by omega))).mono ?_; intro e w5 hq; obtain ⟨rfl, h5⟩ := HS.out.step hq; clear hq
              rw [after_on0 true n L] at h5
              have H5 := Lib.hid h5
              clear h5
              go_wp2_with fail
              refine (phase_any p _ _ H5.out.1.1 (by simp [eS])).mono ?_; rintro e w6 ⟨rfl, rfl⟩
              rw [show (eS 3 true (n + 1) 0).ph = 3 from rfl]
              go_wp2_with fail
              refine (seenS_any p _ _ H5.out.1.1 (by simp [eS])).mono ?_; rintro e w6 ⟨rfl, rfl⟩
              rw [show (eS 3 true (n + 1) 0).seen = (n : Int) + 1 from by simp [eS]]
              go_wp2_with fail
              refine (sealedS_any p _ _ H5.out.1.1 (by simp [eS])).mono ?_; rintro e w6 ⟨rfl, rfl⟩
              rw [show (eS 3 true (n + 1) 0).sealed = 0 from rfl]
              go_wp2_with fail
              go_roundw
              case rel => exact ⟨i + 1, 1, (n + 1), 0, false, by omega, by omega, by omega, by omega, by go_num, rfl, rfl, by go_num, by simp, H5.out⟩
              case measure => simp [intOf]; omega
            · go_wp2_with fail
              refine (lawtook_any p (eS 3 true n L) 210 none 0 0 false 0 0 0 6 _ HS.out.1.1 (eS_ok _ _ _ _ (by omega) (by omega) (by omega) (by omega)) rfl (by simp [eS]) (by simp [SS.deed, eS]) (by rw [after_on1 true n L]; exact eS_ok _ _ _ _ (by omega) (by omega) (by omega) (by omega))).mono ?_; intro e w5 hq; obtain ⟨rfl, h5⟩ := HS.out.step hq; clear hq
              rw [after_on1 true n L] at h5
              have H5 := Lib.hid h5
              clear h5
              go_wp2_with fail
              refine (phase_any p _ _ H5.out.1.1 (by simp [eS])).mono ?_; rintro e w6 ⟨rfl, rfl⟩
              rw [show (eS 4 true n 0).ph = 4 from rfl]
              go_wp2_with fail
              refine (seenS_any p _ _ H5.out.1.1 (by simp [eS])).mono ?_; rintro e w6 ⟨rfl, rfl⟩
              rw [show (eS 4 true n 0).seen = (n : Int) from by simp [eS]]
              go_wp2_with fail
              refine (sealedS_any p _ _ H5.out.1.1 (by simp [eS])).mono ?_; rintro e w6 ⟨rfl, rfl⟩
              rw [show (eS 4 true n 0).sealed = 0 from rfl]
              go_wp2_with fail
              refine (lawnext_any p _ _ 0 170 _ H5.out.1.1 (eS_ok _ _ _ _ (by omega) (by omega) (by omega) (by omega)) (SS.next_no (by simp [eS]))).mono ?_; intro e w7 hq; obtain ⟨rfl, h7⟩ := H5.out.step hq; clear hq
              have H7 := Lib.hid h7
              clear h7
              go_wp2_with fail
              refine (tookNo_any p _ 0 none 0 0 false 0 0 0 _ H7.out.1.1 (eS_ok _ _ _ _ (by omega) (by omega) (by omega) (by omega)) rfl).mono ?_; intro e w8 hq; obtain ⟨rfl, h8⟩ := H7.out.step hq; clear hq
              have H8 := Lib.hid h8
              clear h8
              go_wp2_with fail
              refine (why_any p _ _ H8.out.1.1 (by simp [eS])).mono ?_; rintro e w9 ⟨rfl, rfl⟩
              rw [show (eS 4 true n 0).why = 0 from rfl]
              go_wp2_with fail
              refine (works_any _).mono ?_; rintro e w10 ⟨rfl, hkw⟩
              have HKW := Lib.hid (H8.out.1.2.2.then hkw (by simp))
              clear hkw
              go_wp2_with fail
              go_ret
              exact ⟨rfl, HKW.out⟩
            · go_wp2_with fail
              refine (lawtook_any p (eS 3 true n L) 0 none 0 0 false 0 0 0 6 _ HS.out.1.1 (eS_ok _ _ _ _ (by omega) (by omega) (by omega) (by omega)) rfl (by simp [eS]) (by simp [SS.deed, eS]) (by rw [after_on0 true n L]; exact eS_ok _ _ _ _ (by omega) (by omega) (by omega) (by omega))).mono ?_; intro e w5 hq; obtain ⟨rfl, h5⟩ := HS.out.step hq; clear hq
              rw [after_on0 true n L] at h5
              have H5 := Lib.hid h5
              clear h5
              go_wp2_with fail
              refine (phase_any p _ _ H5.out.1.1 (by simp [eS])).mono ?_; rintro e w6 ⟨rfl, rfl⟩
              rw [show (eS 3 true (n + 1) 0).ph = 3 from rfl]
              go_wp2_with fail
              refine (seenS_any p _ _ H5.out.1.1 (by simp [eS])).mono ?_; rintro e w6 ⟨rfl, rfl⟩
              rw [show (eS 3 true (n + 1) 0).seen = (n : Int) + 1 from by simp [eS]]
              go_wp2_with fail
              refine (sealedS_any p _ _ H5.out.1.1 (by simp [eS])).mono ?_; rintro e w6 ⟨rfl, rfl⟩
              rw [show (eS 3 true (n + 1) 0).sealed = 0 from rfl]
              go_wp2_with fail
              go_roundw
              case rel => exact ⟨i + 1, 1, (n + 1), 0, false, by omega, by omega, by omega, by omega, by go_num, rfl, rfl, by go_num, by simp, H5.out⟩
              case measure => simp [intOf]; omega
            · go_wp2_with fail
              refine (lawtook_any p (eS 3 true n L) 212 none 0 0 false 0 0 0 6 _ HS.out.1.1 (eS_ok _ _ _ _ (by omega) (by omega) (by omega) (by omega)) rfl (by simp [eS]) (by simp [SS.deed, eS]) (by rw [after_time 3 true n L (by omega)]; exact eS_ok _ _ _ _ (by omega) (by omega) (by omega) (by omega))).mono ?_; intro e w5 hq; obtain ⟨rfl, h5⟩ := HS.out.step hq; clear hq
              rw [after_time 3 true n L (by omega)] at h5
              have H5 := Lib.hid h5
              clear h5
              go_wp2_with fail
              refine (phase_any p _ _ H5.out.1.1 (by simp [eS])).mono ?_; rintro e w6 ⟨rfl, rfl⟩
              rw [show (eS 3 true n (L + 1)).ph = 3 from rfl]
              go_wp2_with fail
              refine (seenS_any p _ _ H5.out.1.1 (by simp [eS])).mono ?_; rintro e w6 ⟨rfl, rfl⟩
              rw [show (eS 3 true n (L + 1)).seen = (n : Int) from by simp [eS]]
              go_wp2_with fail
              refine (sealedS_any p _ _ H5.out.1.1 (by simp [eS])).mono ?_; rintro e w6 ⟨rfl, rfl⟩
              rw [show (eS 3 true n (L + 1)).sealed = 0 from rfl]
              go_wp2_with fail
              go_roundw
              case rel => exact ⟨i + 1, 1, n, (L + 1), false, by omega, by omega, by omega, by omega, by go_num, rfl, rfl, rfl, by simp, H5.out⟩
              case measure => simp [intOf]; omega
      · have hor : ¬ (i : Int) < (N : Int) ∨ ((i : Int) < (N : Int) ∧ ¬ (i : Int) < 100) := by omega
        have hph : 1 ≤ ePh true nm t ∧ ePh true nm t < 4 := by unfold ePh; split <;> (try split) <;> omega
        rcases hor with hor | ⟨hor, hor2⟩
        all_goals
          go_wp2_with fail
          refine (phase_any p _ _ HS.out.1.1 hph.1).mono ?_; rintro e w6 ⟨rfl, rfl⟩
          rw [show (eS (ePh true nm t) true n L).ph = ePh true nm t from rfl]
          go_wp2_with fail
          refine (works_any _).mono ?_; rintro e w10 ⟨rfl, hkw⟩
          have HKW := Lib.hid (HS.out.1.2.2.then hkw (by simp))
          clear hkw
          go_wp2_with fail
          go_ret
          exact ⟨rfl, HKW.out⟩
end Go.Proofs.Ytoejfgjdmcamaaa
