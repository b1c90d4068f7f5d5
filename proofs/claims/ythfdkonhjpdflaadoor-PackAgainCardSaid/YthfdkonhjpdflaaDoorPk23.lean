/-
  PACK, 23: parts written as strings; votes.
-/
import Derived.Test.YthfdkonhjpdflaaDoorPk22
namespace Go.Proofs.YthfdkonhjpdflaaDoor
open Go.RowKit
set_option linter.unusedVariables false
set_option maxRecDepth 100000
set_option linter.unusedSimpArgs false

def donePost (w0 : World) (p : Nat) (l : List UInt8) (e : Ending) (w' : World) : Prop := e = .returned (.tuple #[]) ∧ wOk w0 w' p l

set_option maxHeartbeats 4000000 in
theorem writePartReq_any (F : List Nat) (r : RQ) (ev : Value) (w0 w : World) (p : Nat) (l : List UInt8) (h : rqV w F r ev) (hok : r.ok = true) (ho : wOk w0 w p l) (hb : l.length ≤ 100000) (hb2 : (reqB r).length ≤ 100000) :
    Calls Tryd.prog 32 #[.pointer (some ⟨p, 0, none⟩), .agg (rqL r ev).toArray, .func (.func 15) #[] #[]] w (donePost w0 p ((l ++ cb (reqB r).length) ++ reqB r)) := by
  have k1 := (keepBut.refl [] w).alloc (.cells (rqL r ev).toArray 30)
  have r1 := rowAt.new w 30 (rqL r ev).toArray
  obtain ⟨w1, hw1⟩ : ∃ w1, w.alloc (.cells (rqL r ev).toArray 30) = w1 := ⟨_, rfl⟩
  rw [hw1] at k1 r1
  have hI : (Tryd.prog.info? 30).map (·.size) = some (rqL r ev).length := by rw [rqL_len h.1]; exact info_rq
  have HS := Lib.hid (And.intro r1.rangeAll (And.intro hI (And.intro (ho.over k1) (show rqV w1 F r ev from ⟨h.1, h.2.keep k1 (by simp)⟩))))
  have HW := Lib.hid hw1
  clear k1 r1 hw1 h hI ho
  go_enter Tryd.func32, Tryd.ntmps32
  go_upto_region 1 with (with_reducible refine wpList_box_agg _ rfl 30 (.tmp 1) rfl _ rfl ?_)
  rw [HW.out]
  go_wp2_with (first
    | (refine wpList_load_mid rfl 30 (.tmp 4) rfl w.heap.size 0 rfl (rqL r ev) _ HS.out.1 Tryd.underlying30 rfl HS.out.2.1 ?_)
    | (go_at_call 15; refine (bytesReq_any F r ev _ HS.out.2.2.2 hok).mono ?_; rintro e w2 ⟨u, G, rfl, ⟨A2, c2, g2, rfl, _, _, sn2, hg2⟩, nw2, kk2⟩; have H2 := Lib.hid (And.intro sn2 (And.intro (fun hne : reqB r ≠ [] => (nw2 g2 (hg2 hne)).1) kk2)); clear sn2 hg2 nw2 kk2)
    | (go_at_call 36; refine (HS.out.2.2.1.textNew H2.out.2.2 A2 g2 _ c2 (reqB r) rfl H2.out.1 H2.out.2.1 (by omega) (by omega)).mono ?_; rintro e w3 ⟨rfl, o3⟩; have O3 := Lib.hid o3; clear o3))
  go_end0
  exact ⟨rfl, O3.out⟩

set_option maxHeartbeats 4000000 in
theorem writePartAns_any (F : List Nat) (r : AN) (ev : Value) (w0 w : World) (p : Nat) (l : List UInt8) (h : anV w F r ev) (hok : r.ok = true) (ho : wOk w0 w p l) (hb : l.length ≤ 100000) (hb2 : (ansB r).length ≤ 100000) :
    Calls Tryd.prog 33 #[.pointer (some ⟨p, 0, none⟩), .agg (anL r ev).toArray, .func (.func 17) #[] #[]] w (donePost w0 p ((l ++ cb (ansB r).length) ++ ansB r)) := by
  have k1 := (keepBut.refl [] w).alloc (.cells (anL r ev).toArray 32)
  have r1 := rowAt.new w 32 (anL r ev).toArray
  obtain ⟨w1, hw1⟩ : ∃ w1, w.alloc (.cells (anL r ev).toArray 32) = w1 := ⟨_, rfl⟩
  rw [hw1] at k1 r1
  have hI : (Tryd.prog.info? 32).map (·.size) = some (anL r ev).length := by rw [anL_len h.1]; exact info_an
  have HS := Lib.hid (And.intro r1.rangeAll (And.intro hI (And.intro (ho.over k1) (show anV w1 F r ev from ⟨h.1, h.2.keep k1 (by simp)⟩))))
  have HW := Lib.hid hw1
  clear k1 r1 hw1 h hI ho
  go_enter Tryd.func33, Tryd.ntmps33
  go_upto_region 1 with (with_reducible refine wpList_box_agg _ rfl 32 (.tmp 1) rfl _ rfl ?_)
  rw [HW.out]
  go_wp2_with (first
    | (refine wpList_load_mid rfl 32 (.tmp 4) rfl w.heap.size 0 rfl (anL r ev) _ HS.out.1 Tryd.underlying32 rfl HS.out.2.1 ?_)
    | (go_at_call 17; refine (bytesAns_any F r ev _ HS.out.2.2.2 hok).mono ?_; rintro e w2 ⟨u, G, rfl, ⟨A2, c2, g2, rfl, _, _, sn2, hg2⟩, nw2, kk2⟩; have H2 := Lib.hid (And.intro sn2 (And.intro (fun hne : ansB r ≠ [] => (nw2 g2 (hg2 hne)).1) kk2)); clear sn2 hg2 nw2 kk2)
    | (go_at_call 36; refine (HS.out.2.2.1.textNew H2.out.2.2 A2 g2 _ c2 (ansB r) rfl H2.out.1 H2.out.2.1 (by omega) (by omega)).mono ?_; rintro e w3 ⟨rfl, o3⟩; have O3 := Lib.hid o3; clear o3))
  go_end0
  exact ⟨rfl, O3.out⟩

set_option maxHeartbeats 4000000 in
theorem writePartConf_any (F : List Nat) (r : CF) (ev : Value) (w0 w : World) (p : Nat) (l : List UInt8) (h : intsV w F ev r.chain) (hok : r.ok = true) (ho : wOk w0 w p l) (hb : l.length ≤ 100000) (hb2 : (cfB r).length ≤ 100000) :
    Calls Tryd.prog 34 #[.pointer (some ⟨p, 0, none⟩), .agg (cfL r ev).toArray, .func (.func 19) #[] #[]] w (donePost w0 p ((l ++ cb (cfB r).length) ++ cfB r)) := by
  have k1 := (keepBut.refl [] w).alloc (.cells (cfL r ev).toArray 35)
  have r1 := rowAt.new w 35 (cfL r ev).toArray
  obtain ⟨w1, hw1⟩ : ∃ w1, w.alloc (.cells (cfL r ev).toArray 35) = w1 := ⟨_, rfl⟩
  rw [hw1] at k1 r1
  have hI : (Tryd.prog.info? 35).map (·.size) = some (cfL r ev).length := by exact info_cf
  have HS := Lib.hid (And.intro r1.rangeAll (And.intro hI (And.intro (ho.over k1) (h.keep k1 (by simp)))))
  have HW := Lib.hid hw1
  clear k1 r1 hw1 h hI ho
  go_enter Tryd.func34, Tryd.ntmps34
  go_upto_region 1 with (with_reducible refine wpList_box_agg _ rfl 35 (.tmp 1) rfl _ rfl ?_)
  rw [HW.out]
  go_wp2_with (first
    | (refine wpList_load_mid rfl 35 (.tmp 4) rfl w.heap.size 0 rfl (cfL r ev) _ HS.out.1 Tryd.underlying35 rfl HS.out.2.1 ?_)
    | (go_at_call 19; refine (bytesConf_any F r ev _ HS.out.2.2.2 hok).mono ?_; rintro e w2 ⟨u, G, rfl, ⟨A2, c2, g2, rfl, _, _, sn2, hg2⟩, nw2, kk2⟩; have H2 := Lib.hid (And.intro sn2 (And.intro (fun hne : cfB r ≠ [] => (nw2 g2 (hg2 hne)).1) kk2)); clear sn2 hg2 nw2 kk2)
    | (go_at_call 36; refine (HS.out.2.2.1.textNew H2.out.2.2 A2 g2 _ c2 (cfB r) rfl H2.out.1 H2.out.2.1 (by omega) (by omega)).mono ?_; rintro e w3 ⟨rfl, o3⟩; have O3 := Lib.hid o3; clear o3))
  go_end0
  exact ⟨rfl, O3.out⟩

set_option maxHeartbeats 1000000 in
theorem writeReady_any (b : Bool) (w0 w : World) (p : Nat) (l : List UInt8) (ho : wOk w0 w p l) (hb : l.length ≤ 100000) :
    Calls Tryd.prog 31 #[.pointer (some ⟨p, 0, none⟩), .bool b] w (donePost w0 p (l ++ beBytes 1 (if b then 1 else 0))) := by
  have HO := Lib.hid ho
  clear ho
  cases b
  all_goals
    go_enter Tryd.func31, Tryd.ntmps31
    go_wp2_with (first
      | (go_at_call 29; (with_reducible refine (HO.out.num 1 (by omega) (by omega) (by omega)).mono ?_); rintro e w3 ⟨rfl, o3⟩; have O3 := Lib.hid o3; clear o3)
      | (go_at_call 29; (with_reducible refine (HO.out.num 0 (by omega) (by omega) (by omega)).mono ?_); rintro e w3 ⟨rfl, o3⟩; have O3 := Lib.hid o3; clear o3))
    go_end0
    exact ⟨rfl, O3.out⟩
def vtB (v : VT) : List UInt8 := (cb v.ballot.toNat ++ cb (cfB v.conf).length) ++ cfB v.conf
def vtsE : List VT → List UInt8
  | [] => []
  | v :: r => vtB v ++ vtsE r
theorem vtsE_append : ∀ l m : List VT, vtsE (l ++ m) = vtsE l ++ vtsE m
  | [], m => rfl
  | a :: r, m => by rw [List.cons_append, vtsE, vtsE, vtsE_append r m, List.append_assoc]
theorem vtsE_take {l : List VT} {i : Nat} {a : VT} (h : l[i]? = some a) : vtsE (l.take (i + 1)) = vtsE (l.take i) ++ vtB a := by
  rw [List.take_add_one, h, vtsE_append]
  simp [vtsE]
theorem cfB_len {c : CF} (h : c.ok = true) : (cfB c).length ≤ 14 := by
  have hf := c.ok_facts h
  have h1 := cb8 (n := c.num) hf.1.2
  unfold cfB
  simp only [List.length_append, be1, chB_len, List.length_nil]
  omega
theorem vtB_len {v : VT} (h : v.ok = true) : (vtB v).length ≤ 30 := by
  unfold VT.ok at h
  rw [Bool.and_eq_true, inP_iff] at h
  have h1 := cb8 (n := v.ballot) h.1.2
  have h2 := cfB_len h.2
  have h3 := cb8 (n := ((cfB v.conf).length : Int)) (by omega)
  rw [Int.toNat_natCast] at h3
  unfold vtB
  simp only [List.length_append]
  omega
theorem vtsB_at : ∀ {l : List VT} {i : Nat} {v : VT}, vtsB l = true → l[i]? = some v → v.ok = true
  | [], i, v, _, h => by simp at h
  | a :: r, 0, v, hb, h => by
    simp at h; subst h
    unfold vtsB at hb
    exact (Bool.and_eq_true _ _ ▸ hb).1
  | a :: r, i + 1, v, hb, h => by
    unfold vtsB at hb
    rw [Bool.and_eq_true] at hb
    exact vtsB_at (l := r) hb.2 (by simpa using h)
theorem vtsE_len : ∀ (l : List VT), vtsB l = true → (vtsE l).length ≤ 30 * l.length
  | [], _ => by simp [vtsE]
  | a :: r, h => by
    unfold vtsB at h
    rw [Bool.and_eq_true] at h
    have h1 := vtB_len h.1
    have h2 := vtsE_len r h.2
    simp only [vtsE, List.length_append, List.length_cons]
    omega
theorem vtsB_take {l : List VT} (h : vtsB l = true) (i : Nat) : vtsB (l.take i) = true := by
  induction l generalizing i with
  | nil => simpa using h
  | cons a r ih =>
    unfold vtsB at h
    rw [Bool.and_eq_true] at h
    cases i with
    | zero => rfl
    | succ i =>
      rw [List.take_succ_cons]
      unfold vtsB
      rw [Bool.and_eq_true]
      exact ⟨h.1, ih h.2 i⟩
set_option maxHeartbeats 8000000 in
theorem writeVotes_any (F : List Nat) (l : List VT) (v : Value) (w0 w : World) (p : Nat) (b0 : List UInt8) (h : votesV w0 F v l) (hok : vtsOk l = true) (ho : wOk w0 w p b0) (hb : b0.length ≤ 10000) :
    Calls Tryd.prog 35 #[.pointer (some ⟨p, 0, none⟩), v] w (donePost w0 p ((b0 ++ beBytes 1 l.length) ++ vtsE l)) := by
  unfold vtsOk at hok
  rw [Bool.and_eq_true, decide_eq_true_eq] at hok
  obtain ⟨A, c, gA, TA, rfl, _, hc, _⟩ := id h
  have HO := Lib.hid ho
  have HV := Lib.hid (And.intro h hok)
  clear h ho hok
  have h8 := HV.out.2.1
  obtain ⟨L, hL⟩ : ∃ L, l.length = L := ⟨_, rfl⟩
  have HL := Lib.hid hL
  rw [hL] at h8 HV ⊢
  clear hL
  go_enter Tryd.func35, Tryd.ntmps35
  go_upto_region 1 with (first
    | (go_at_call 29; (with_reducible refine (HO.out.num (L : Int) (by omega) (by omega) (by omega)).mono ?_); rintro e w1 ⟨rfl, o1⟩; have O1 := Lib.hid o1; clear o1))
  obtain ⟨B, hB⟩ : ∃ B, b0 ++ beBytes 1 L = B := ⟨_, rfl⟩
  have hBl : B.length ≤ 10001 := by rw [← hB, List.length_append, be1]; omega
  have HBB := Lib.hid hB
  have O2 : Hid (wOk w0 w1 p B) := Lib.hid (by have := O1.out; rw [Int.toNat_natCast, hB] at this; exact this)
  clear O1 hB
  go_upto_region 2 with fail
  go_loopw [5, 12] (fun _ v12 wx => ∃ i : Nat, i ≤ L ∧ v12 = .int .i64 (i : Int) ∧ wOk w0 wx p (B ++ vtsE (l.take i))) (fun _ v12 _ => L - (intOf v12).toNat)
  case atStart => exact ⟨0, by omega, rfl, by simpa [vtsE] using O2.out⟩
  case round =>
    obtain ⟨i, hi, rfl, ho⟩ := hrel
    have HO3 := Lib.hid ho
    clear ho
    by_cases hlt : i < L
    · have hlt' : (i : Int) < (L : Int) := by omega
      have hn0 : (0 : Int) ≤ (i : Int) := by omega
      have hw1 : IntKind.i64.wrap ((i : Int) + 1) = (i : Int) + 1 := wraps_i64 _ (by omega) (by omega)
      obtain ⟨a, ha⟩ : ∃ a, l[i]? = some a := ⟨_, List.getElem?_eq_getElem (by have := HL.out; omega)⟩
      obtain ⟨g, o, cv, rfl, hgl, _, hcv, x0, x1, x2, x3⟩ := HV.out.1.at ha
      have e := fun q => HO3.out.kept.cell (p := ⟨g, q, none⟩) hgl (by simp)
      rw [← e] at x0 x1 x2 x3
      clear e
      have hok := vtsB_at HV.out.2.2 ha
      have HT := Lib.hid (vtsE_take ha)
      have hll : (B ++ vtsE (l.take i)).length ≤ 20000 := by
        have h1 := vtsE_len _ (vtsB_take HV.out.2.2 i)
        have h2 : (l.take i).length ≤ 8 := by rw [List.length_take]; omega
        rw [List.length_append]; omega
      obtain ⟨Bi, hBi⟩ : ∃ Bi, B ++ vtsE (l.take i) = Bi := ⟨_, rfl⟩
      rw [hBi] at hll HO3
      have HBi := Lib.hid hBi
      obtain ⟨ab, an, af, al⟩ := a
      have hfb : 1 ≤ ab ∧ ab ≤ 9007199254740991 := by
        unfold VT.ok at hok
        rw [Bool.and_eq_true, inP_iff] at hok
        exact hok.1
      have hcl : (cfB ⟨an, af, al⟩).length ≤ 14 := cfB_len (by unfold VT.ok at hok; rw [Bool.and_eq_true] at hok; exact hok.2)
      have hc8 := cb8 (n := ab) hfb.2
      have HK := Lib.hid (And.intro hok (And.intro hcl hc8))
      dsimp only at x0 x1 x2 x3 hcv
      obtain ⟨CA, cc, cg, rfl, _⟩ := id hcv
      have HCV := Lib.hid hcv
      clear hcv ha hok hcl hc8 hBi
      go_upto_region 4 with fail
      have k7 := (keepBut.refl [] wr).alloc (.cells #[.int .i64 ab, .int .i64 an, .int .i64 af, .slice CA al.length cc] 69)
      have r7 := rowAt.new wr 69 #[.int .i64 ab, .int .i64 an, .int .i64 af, .slice CA al.length cc]
      obtain ⟨wv, hwv⟩ : ∃ wv, wr.alloc (.cells #[.int .i64 ab, .int .i64 an, .int .i64 af, .slice CA al.length cc] 69) = wv := ⟨_, rfl⟩
      rw [hwv] at k7 r7 ⊢
      obtain ⟨tv, htv⟩ : ∃ tv, wr.heap.size = tv := ⟨_, rfl⟩
      rw [htv] at r7 ⊢
      have htl : w0.heap.size ≤ tv := by have := HO3.out.kept.size; omega
      have HO4 := Lib.hid (HO3.out.over k7)
      have y0 : wv.cell? ⟨tv, 0, none⟩ = some (.int .i64 ab) := r7.cell 0
      have htp : tv ≠ p := fun e => by have := HO3.out.lt; omega
      have HV4 : Hid (∃ v', isWr wv p v' ⟨Bi, 0⟩ ∧ tv ∉ homes v' ∧ (w0.heap.size ≤ p ∧ (∀ x ∈ homes v', w0.heap.size ≤ x) ∧ keepBut [] w0 wv)) := Lib.hid (by
        obtain ⟨v', q1, q2, q3, q4⟩ := HO3.out
        exact ⟨v', q1.keep k7 (by simp) (by simp), fun hm => by have := q1.2.lt tv hm; omega, q2, q3, q4.then k7 (by simp)⟩)
      obtain ⟨v', q1, q2, q3, q4, q5⟩ := HV4.out
      have HQ := Lib.hid (And.intro q2 (And.intro q3 (And.intro q4 (And.intro q5 r7))))
      clear k7 r7 hwv x0 x1 x2 x3 htv q2 q3 q4 q5
      have hq1 := Lib.hid q1
      clear q1
      go_upto_region 5 with (first
        | (go_at_call 30; refine (wcount_any p v' _ ab _ hq1.out (show Bi.length ≤ _ by omega)).mono ?_; intro e w5 hp; rw [ws_count Bi (by omega) (by omega)] at hp; obtain ⟨_, v6, h6, k6, hh6⟩ := id hp; obtain ⟨rfl, o5⟩ := wOk.step hq1.out HQ.out.2.1 HQ.out.2.2.1 HQ.out.2.2.2.1 hp; have r8 := k6.row HQ.out.2.2.2.2 (by simp only [List.mem_cons]; exact fun hm => hm.elim htp HQ.out.1); have O5 := Lib.hid o5; clear hp h6 hh6 k6 o5))
      have y1 : w5.cell? ⟨tv, 1, none⟩ = some (.int .i64 an) := r8.cell 1
      have y2 : w5.cell? ⟨tv, 2, none⟩ = some (.int .i64 af) := r8.cell 2
      have y3 : w5.cell? ⟨tv, 3, none⟩ = some (.slice CA al.length cc) := r8.cell 3
      have HR8 := Lib.hid r8
      clear r8 y0
      go_wp2_with (first
        | (go_at_call 34; refine (writePartConf_any F ⟨an, af, al⟩ _ w0 _ p _ (HCV.out.keep O5.out.kept (by simp)) (by have := HK.out.1; unfold VT.ok at this; rw [Bool.and_eq_true] at this; exact this.2) O5.out (by rw [List.length_append]; have := HK.out.2.2; omega) (by have := HK.out.2.1; omega)).mono ?_; rintro e w6 ⟨rfl, o6⟩; have O6 := Lib.hid o6; clear o6))
      go_roundw
      case rel => exact ⟨i + 1, by omega, by go_num, by rw [HT.out, ← List.append_assoc, HBi.out]; have := O6.out; unfold vtB; rw [← List.append_assoc, ← List.append_assoc]; exact this⟩
      case measure => simp [intOf]; omega
    · obtain rfl : i = L := by omega
      have HE := Lib.hid (show B ++ vtsE (l.take i) = B ++ vtsE l by rw [← HL.out, List.take_length])
      rw [HE.out] at HO3
      go_wp2_with fail
      go_end0
      exact ⟨rfl, by rw [HBB.out]; exact HO3.out⟩
end Go.Proofs.YthfdkonhjpdflaaDoor
