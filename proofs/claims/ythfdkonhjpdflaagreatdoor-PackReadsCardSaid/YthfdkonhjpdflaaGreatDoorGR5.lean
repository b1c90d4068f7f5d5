/-
  THE DOCUMENT's PARSERS, 5: the head of a packet.
-/
import Derived.Test.YthfdkonhjpdflaaGreatDoorGRB
import Derived.Test.YthfdkonhjpdflaaGreatDoorPk33
import Derived.Test.YthfdkonhjpdflaaGreatDoorRCA
namespace Go.Proofs.YthfdkonhjpdflaaGreatDoor
open Go.RowKit
set_option linter.unusedVariables false
set_option maxRecDepth 100000
set_option linter.unusedSimpArgs false

theorem has_bitsA {k : Int} (h : 0 ≤ k ∧ k ≤ 255) : numK.contains k = (bitA (fieldsP k) 1 != 0) ∧ seqK.contains k = (bitA (fieldsP k) 2 != 0) ∧ ballotK.contains k = (bitA (fieldsP k) 4 != 0) ∧ (k == 8) = (bitA (fieldsP k) 8 != 0) ∧ (fieldsP k = 0 ↔ inP k 1 14 = false) := by
  by_cases h2 : k ≤ 14
  · obtain rfl | rfl | rfl | rfl | rfl | rfl | rfl | rfl | rfl | rfl | rfl | rfl | rfl | rfl | rfl : k = 0 ∨ k = 1 ∨ k = 2 ∨ k = 3 ∨ k = 4 ∨ k = 5 ∨ k = 6 ∨ k = 7 ∨ k = 8 ∨ k = 9 ∨ k = 10 ∨ k = 11 ∨ k = 12 ∨ k = 13 ∨ k = 14 := by omega
    all_goals exact ⟨by kernel_rfl, by kernel_rfl, by kernel_rfl, by kernel_rfl, by decide⟩
  · have hf : fieldsP k = 0 := by unfold fieldsP; rw [if_neg (by omega)]
    rw [hf]
    refine ⟨?_, ?_, ?_, ?_, ?_⟩
    · rw [show (bitA 0 1 != 0) = false by kernel_rfl]; simp [numK]; omega
    · rw [show (bitA 0 2 != 0) = false by kernel_rfl]; simp [seqK]; omega
    · rw [show (bitA 0 4 != 0) = false by kernel_rfl]; simp [ballotK]; omega
    · rw [show (bitA 0 8 != 0) = false by kernel_rfl]; simp; omega
    · simp [inP]; omega
theorem num1_more {r : RS} (h : 1 < (r.num 1).1) : (r.num 1).2.e = 0 := by
  unfold RS.num at h ⊢
  rw [if_pos (show isW 1 = true from rfl)] at h ⊢
  by_cases ht : r.took (1 : Int).toNat = true
  · rw [if_pos ht] at h ⊢
    split at h
    · simp at h
    · rename_i hm
      rw [if_neg hm]
      have := (r.took_iff _).1 ht
      show (r.past _).e = 0
      unfold RS.past
      rw [if_pos this.1, if_pos this.2]
  · rw [if_neg ht] at h; simp at h
/-- the head, as the program's fields have it -/
def hdS (b : List UInt8) : SF := f4 (fieldsP (hdQ b).kind) (f3 (fieldsP (hdQ b).kind) (f2 (fieldsP (hdQ b).kind) (f1 (fieldsP (hdQ b).kind) (hdQ b, hdR b, 0))))
def hdE (b : List UInt8) : Int := if (hdR b).e = 0 ∧ fieldsP (hdQ b).kind = 0 then 4 else firstP (hdS b).2.2 (hdS b).2.1.e
theorem builtHd (a b c : Int) : Tryz.prog.built 34 [(0, .int .i64 a), (1, .int .i64 b), (2, .int .i64 c)] = some (pkL { pkZero with kind := a, frm := b, dst := c } nilV nilV nilV nilV nilV).toArray := by kernel_rfl
/-- a packet whose head is being read -/
structure hdA (w0 w : World) (p g tb : Nat) (k : Int) (s : SF) (Z : List Value) : Prop where
  rd : isR2 w p g s.2.1
  lo : p < w0.heap.size
  gl : s.2.1.l ≠ [] → g < w0.heap.size
  len : s.2.1.l.length ≤ 1000000
  hi : w0.heap.size < tb
  row : rowAt w tb 34 (pkL s.1 nilV nilV nilV nilV nilV).toArray
  rn : s.1.req.name.length = 32
  an : s.1.ans.name.length = 32
  kd : s.1.kind = k
  pt : s.2.2 = 0
  res : rowAt w w0.heap.size 34 Z.toArray
  kp : keepBut [p] w0 w
theorem hdA.over {w0 w w' : World} {p g tb : Nat} {k : Int} {s : SF} {Z : List Value} (h : hdA w0 w p g tb k s Z) (hk : keepBut [] w w') : hdA w0 w' p g tb k s Z :=
  ⟨h.rd.keep hk (by simp) (by simp), h.lo, h.gl, h.len, h.hi, hk.row h.row (by simp), h.rn, h.an, h.kd, h.pt, hk.row h.res (by simp), h.kp.then hk (by simp)⟩
theorem hdA.read {w0 w w' : World} {p g tb : Nat} {k : Int} {q : PK} {r r' : RS} {pt : Int} {Z : List Value} (h : hdA w0 w p g tb k (q, r, pt) Z) (hr : isR2 w' p g r') (hk : keepBut [p] w w') (hl : r'.l ≠ [] → r.l ≠ []) (hs : r'.l.length ≤ r.l.length) : hdA w0 w' p g tb k (q, r', pt) Z :=
  ⟨hr, h.lo, fun hne => h.gl (hl hne), Nat.le_trans hs h.len, h.hi, hk.row h.row (by have := h.hi; have := h.lo; simp; omega), h.rn, h.an, h.kd, h.pt, hk.row h.res (by have := h.lo; simp; omega), h.kp.then hk (fun x hx => .inl hx)⟩
theorem hdA.set {w0 w : World} {p g tb : Nat} {k : Int} {q q' : PK} {r : RS} {pt : Int} {Z : List Value} (h : hdA w0 w p g tb k (q, r, pt) Z) (i : Nat) (u : Value) (he : (pkL q nilV nilV nilV nilV nilV).toArray.setIfInBounds i u = (pkL q' nilV nilV nilV nilV nilV).toArray) (hn : q'.req = q.req ∧ q'.ans = q.ans ∧ q'.kind = q.kind) : hdA w0 (w.setCell ⟨tb, i, none⟩ u) p g tb k (q', r, pt) Z := by
  have hk : keepBut [tb] w (w.setCell ⟨tb, i, none⟩ u) := (keepBut.refl [tb] w).setCell ⟨tb, i, none⟩ u (.inl (by simp))
  have hi := h.hi
  have hlo := h.lo
  exact ⟨h.rd.keep hk (by simp; omega) (fun hne => by have := h.gl hne; simp; omega), h.lo, h.gl, h.len, h.hi, by rw [← he]; exact h.row.set i u, by rw [hn.1]; exact h.rn, by rw [hn.2.1]; exact h.an, by rw [hn.2.2]; exact h.kd, h.pt, hk.row h.res (by simp; omega), h.kp.then hk (fun x hx => .inr (by simp at hx; omega))⟩
set_option maxHeartbeats 16000000 in
theorem head2_any (p g : Nat) (b : List UInt8) (w : World) (hr : isR2 w p g ⟨b, 0⟩) (hb : b.length ≤ 1000000) :
    Calls Tryz.prog 99 #[.pointer (some ⟨p, 0, none⟩)] w fun e w' => ∃ q, e = .returned (.tuple #[.agg (pkL q nilV nilV nilV nilV nilV).toArray, .int .i64 (hdE b)]) ∧ q.req.name.length = 32 ∧ q.ans.name.length = 32 ∧ (hdE b = 0 → q = (hdS b).1 ∧ isR2 w' p g (hdS b).2.1) ∧ keepBut [p] w w' := by
  obtain ⟨r0, hr0⟩ : ∃ r, RS.mk b 0 = r := ⟨_, rfl⟩
  obtain ⟨x1, hx1⟩ : ∃ x, (r0.num 1).1 = x := ⟨_, rfl⟩
  obtain ⟨r1, hr1⟩ : ∃ x, (r0.num 1).2 = x := ⟨_, rfl⟩
  have s1 : (r1.l ≠ [] → r0.l ≠ []) ∧ r1.l.length ≤ r0.l.length := by rw [← hr1]; exact ⟨num_left, num_short _ _⟩
  obtain ⟨x2, hx2⟩ : ∃ x, (r1.num 1).1 = x := ⟨_, rfl⟩
  obtain ⟨r2, hr2⟩ : ∃ x, (r1.num 1).2 = x := ⟨_, rfl⟩
  have s2 : (r2.l ≠ [] → r1.l ≠ []) ∧ r2.l.length ≤ r1.l.length := by rw [← hr2]; exact ⟨num_left, num_short _ _⟩
  obtain ⟨x3, hx3⟩ : ∃ x, (r2.num 1).1 = x := ⟨_, rfl⟩
  obtain ⟨r3, hr3⟩ : ∃ x, (r2.num 1).2 = x := ⟨_, rfl⟩
  have s3 : (r3.l ≠ [] → r2.l ≠ []) ∧ r3.l.length ≤ r2.l.length := by rw [← hr3]; exact ⟨num_left, num_short _ _⟩
  have hx1r : 0 ≤ x1 ∧ x1 ≤ 255 := by rw [← hx1]; exact num1_range _
  have eq : hdQ b = { pkZero with kind := x1, frm := x2, dst := x3 } := by unfold hdQ; rw [hr0, hx1, hr1, hx2, hr2, hx3]
  have er : hdR b = r3 := by unfold hdR; rw [hr0, hr1, hr2, hr3]
  obtain ⟨q0, hq0⟩ : ∃ q, ({ pkZero with kind := x1, frm := x2, dst := x3 } : PK) = q := ⟨_, rfl⟩
  have hk0 : q0.kind = x1 := by rw [← hq0]
  obtain ⟨ff, hff⟩ : ∃ f, fieldsP x1 = f := ⟨_, rfl⟩
  have HBT := has_bitsA hx1r
  rw [hff] at HBT
  obtain ⟨S0, hS0⟩ : ∃ s : SF, (q0, r3, (0 : Int)) = s := ⟨_, rfl⟩
  obtain ⟨S1, hS1⟩ : ∃ s, f1 ff S0 = s := ⟨_, rfl⟩
  obtain ⟨S2, hS2⟩ : ∃ s, f2 ff S1 = s := ⟨_, rfl⟩
  obtain ⟨S3, hS3⟩ : ∃ s, f3 ff S2 = s := ⟨_, rfl⟩
  obtain ⟨S4, hS4⟩ : ∃ s, f4 ff S3 = s := ⟨_, rfl⟩
  have hS : hdS b = S4 := by unfold hdS; rw [eq, er, hq0, hk0, hff, hS0, hS1, hS2, hS3, hS4]
  have hE : hdE b = if r3.e = 0 ∧ ff = 0 then 4 else firstP S4.2.2 S4.2.1.e := by unfold hdE; rw [hS, er, eq, hq0, hk0, hff]
  obtain ⟨Z, hZ⟩ : ∃ Z, pkL pkZero nilV nilV nilV nilV nilV = Z := ⟨_, rfl⟩
  have zv := zv_pk
  have zl := pkZ_len
  rw [hZ] at zv zl
  have nr : q0.req.name.length = 32 := by rw [← hq0]; exact rqZero_name
  have na : q0.ans.name.length = 32 := by rw [← hq0]; exact anZero_name
  have hpl := hr.lt
  have hgl : r0.l ≠ [] → g < w.heap.size := fun hne => by rw [← hr0] at hne; exact hr.gl hne
  have hrl : r0.l.length ≤ 1000000 := by rw [← hr0]; exact hb
  have kA := (keepBut.refl [] w).alloc (.cells Z.toArray 34)
  have rA := rowAt.new w 34 Z.toArray
  obtain ⟨wA, hwA⟩ : ∃ wA, w.alloc (.cells Z.toArray 34) = wA := ⟨_, rfl⟩
  rw [hwA] at kA rA
  rw [hr0] at hr
  have HA := Lib.hid (And.intro hwA (And.intro kA (And.intro rA (And.intro (hr.keep kA (by simp) (by simp)) (And.intro zv zl)))))
  have HX := Lib.hid (And.intro (And.intro hx1 hr1) (And.intro (And.intro hx2 hr2) (And.intro (And.intro hx3 hr3) (And.intro s1 (And.intro s2 (And.intro s3 (And.intro hgl hrl)))))))
  have HQ := Lib.hid (And.intro hq0 (And.intro hk0 (And.intro nr (And.intro na hZ))))
  have HS := Lib.hid (And.intro hS0 (And.intro hS1 (And.intro hS2 (And.intro hS3 (And.intro hS4 (And.intro hS hE))))))
  have HB := Lib.hid HBT
  clear kA rA hwA hr zv zl hZ hx1 hr1 hx2 hr2 hx3 hr3 s1 s2 s3 hgl hrl hb hq0 hk0 nr na hS0 hS1 hS2 hS3 hS4 hS hE HBT hr0 eq er hff
  go_enter Tryz.func99, Tryz.ntmps99
  go_upto_region 2 with (first
    | (with_reducible refine wpList_alloc_to _ _ rfl 34 rfl _ HA.out.2.2.2.2.1 HA.out.1 ?_)
    | (go_at_call 106; with_reducible refine Calls.mono (num2_any p g r0 1 _ HA.out.2.2.2.1 (by have := HX.out.2.2.2.2.2.2.2; omega)) ?_; intro e u1 hq; unfold num2Post at hq; rw [HX.out.1.1, HX.out.1.2] at hq; obtain ⟨rfl, hr1, hk1⟩ := hq; have Q1 := Lib.hid (And.intro hr1 hk1); clear hr1 hk1)
    | (go_at_call 106; with_reducible refine Calls.mono (num2_any p g r1 1 _ Q1.out.1 (by have := HX.out.2.2.2.2.2.2.2; have := HX.out.2.2.2.1.2; omega)) ?_; intro e u2 hq; unfold num2Post at hq; rw [HX.out.2.1.1, HX.out.2.1.2] at hq; obtain ⟨rfl, hr1, hk1⟩ := hq; have Q2 := Lib.hid (And.intro hr1 (Q1.out.2.then hk1 (fun x hx => .inl hx))); clear hr1 hk1)
    | (go_at_call 106; with_reducible refine Calls.mono (num2_any p g r2 1 _ Q2.out.1 (by have := HX.out.2.2.2.2.2.2.2; have := HX.out.2.2.2.1.2; have := HX.out.2.2.2.2.1.2; omega)) ?_; intro e u3 hq; unfold num2Post at hq; rw [HX.out.2.2.1.1, HX.out.2.2.1.2] at hq; obtain ⟨rfl, hr1, hk1⟩ := hq; have Q3 := Lib.hid (And.intro hr1 (Q2.out.2.then hk1 (fun x hx => .inl hx))); clear hr1 hk1; obtain ⟨tb, htb⟩ : ∃ b, u3.heap.size = b := ⟨_, rfl⟩; obtain ⟨uB, huB⟩ : ∃ W, u3.alloc (.cells Z.toArray 34) = W := ⟨_, rfl⟩; have HU := Lib.hid (And.intro huB htb); clear huB htb; (try dsimp only); rename_i hK; refine hK _ _ ?_; clear hK; refine wpList_build_pt _ rfl 34 _ rfl (pkL q0 nilV nilV nilV nilV nilV).toArray (by simp only [List.map_toArray, List.map_cons, List.map_nil]; go_simp; rw [← HQ.out.1]; exact builtHd x1 x2 x3) ?_)
    | (with_reducible refine wpList_alloc_to _ _ rfl 34 rfl _ HA.out.2.2.2.2.1 HU.out.1 ?_; rw [HU.out.2])
    | (refine wpList_store_mid rfl 34 (.tmp 4) (.tmp 12) rfl tb 0 (pkL q0 nilV nilV nilV nilV nilV).toArray rfl rfl ((show rowAt uB tb 34 Z.toArray from HU.out.2 ▸ HU.out.1 ▸ rowAt.new _ _ _).there (by rw [List.size_toArray, List.size_toArray, HA.out.2.2.2.2.2, pkL_len HQ.out.2.2.1 HQ.out.2.2.2.1]; exact Nat.le_refl _)) (by rw [List.size_toArray, pkL_len HQ.out.2.2.1 HQ.out.2.2.2.1]; exact info_pk) (all_oneCell_toArray (pkL_one rfl rfl rfl rfl rfl)) ?_))
  have P0 : Hid (hdA w (uB.setCells tb 0 (pkL q0 nilV nilV nilV nilV nilV)) p g tb x1 S0 Z) := Lib.hid (by
    have kB : keepBut [] u3 uB := HU.out.1 ▸ (keepBut.refl [] u3).alloc _
    have rB : rowAt uB tb 34 Z.toArray := HU.out.2 ▸ HU.out.1 ▸ rowAt.new _ _ _
    have h1 := HA.out.2.2.1.lt
    have h2 := Q3.out.2.size
    have h3 := HU.out.2
    have kC : keepBut [tb] uB (uB.setCells tb 0 (pkL q0 nilV nilV nilV nilV nilV)) := (keepBut.refl [tb] uB).setL (.inl (by simp))
    have rC : rowAt (uB.setCells tb 0 (pkL q0 nilV nilV nilV nilV nilV)) tb 34 (pkL q0 nilV nilV nilV nilV nilV).toArray := by
      have := rB.setL (vs := pkL q0 nilV nilV nilV nilV nilV) (o := 0)
      rw [putL_all (by rw [List.size_toArray, HA.out.2.2.2.2.2, pkL_len HQ.out.2.2.1 HQ.out.2.2.2.1])] at this
      exact this
    have hg : r3.l ≠ [] → g < w.heap.size := fun hne => HX.out.2.2.2.2.2.2.1 (HX.out.2.2.2.1.1 (HX.out.2.2.2.2.1.1 (HX.out.2.2.2.2.2.1.1 hne)))
    rw [← HS.out.1]
    exact ⟨(Q3.out.1.keep kB (by simp) (by simp)).keep kC (by simp; omega) (fun hne => by have := hg hne; simp; omega), hpl, hg, by have := HX.out.2.2.2.2.2.2.2; have := HX.out.2.2.2.1.2; have := HX.out.2.2.2.2.1.2; have := HX.out.2.2.2.2.2.1.2; show r3.l.length ≤ 1000000; omega, by omega, rC, HQ.out.2.2.1, HQ.out.2.2.2.1, HQ.out.2.1, rfl, kC.row (kB.row (Q3.out.2.row HA.out.2.2.1 (by simp; omega)) (by simp)) (by simp; omega), (((HA.out.2.1.more (by simp)).then (Q3.out.2.then kB (by simp)) (fun x hx => .inl hx))).then kC (fun x hx => .inr (by simp at hx; omega))⟩)
  obtain ⟨uC, huC⟩ : ∃ W, uB.setCells tb 0 (pkL q0 nilV nilV nilV nilV nilV) = W := ⟨_, rfl⟩
  rw [huC] at P0
  rw [huC]
  simp only [Act.put]
  clear huC HU Q1 Q2 Q3
  have c0 := (P0.out.row.cell 0).trans (show _ = some (Value.int .i64 x1) by rw [← P0.out.kd]; rfl)
  have h03 : S0.2.1 = r3 := by rw [← HS.out.1]
  by_cases he : r3.e = 0
  · have he' : (r3.e == 0) = true := by simp [he]
    cases hin : inP x1 1 14
    · have hff : ff = 0 := HB.out.2.2.2.2.2 hin
      have hE4 : hdE b = 4 := by rw [HS.out.2.2.2.2.2.2, if_pos ⟨he, hff⟩]
      have HI := Lib.hid hin
      have rd3 := Lib.hid (h03 ▸ P0.out.rd : isR2 uC p g r3)
      clear hin he h03 hff
  
      obtain ⟨X4, hX4⟩ : ∃ X, pkL S0.1 nilV nilV nilV nilV nilV = X := ⟨_, rfl⟩
      have hxl : X4.length = 87 := by rw [← hX4]; exact pkL_len P0.out.rn P0.out.an
      have hxo : ∀ u ∈ X4, u.oneCell' = true := by rw [← hX4]; exact pkL_one rfl rfl rfl rfl rfl
      have hrow : rowAt uC tb 34 X4.toArray := by rw [← hX4]; exact P0.out.row
      have rs : ∀ wx, rowAt wx w.heap.size 34 Z.toArray → rowAt (wx.setCells w.heap.size 0 X4) w.heap.size 34 X4.toArray := fun wx hh => by
        have := hh.setL (vs := X4) (o := 0)
        rw [putL_all (by rw [List.size_toArray, HA.out.2.2.2.2.2, hxl])] at this
        exact this
      have HF := Lib.hid (And.intro hxl rs)
      have HG := Lib.hid (And.intro hrow hxo)
      have HT : Hid (∃ q, Ending.returned (.tuple #[.agg X4.toArray, .int .i64 4]) = .returned (.tuple #[.agg (pkL q nilV nilV nilV nilV nilV).toArray, .int .i64 (hdE b)]) ∧ q.req.name.length = 32 ∧ q.ans.name.length = 32 ∧ (hdE b = 0 → q = (hdS b).1 ∧ isR2 (uC.setCells w.heap.size 0 X4) p g (hdS b).2.1) ∧ keepBut [p] w (uC.setCells w.heap.size 0 X4)) := Lib.hid
        ⟨S0.1, by rw [hX4, hE4], P0.out.rn, P0.out.an, fun h => (by rw [hE4] at h; exact absurd h (by decide)), P0.out.kp.setL (.inr (Nat.le_refl _))⟩
      clear hX4 hxl hxo hrow rs hE4
      go_wp2_with (first
        | (go_at_call 110; refine (err2_any p g r3 _ rd3.out).mono ?_; rintro e wy ⟨rfl, rfl⟩)
        | (go_at_call 67; refine (withinR x1 1 14 _).mono ?_; rintro e wy ⟨rfl, rfl⟩; rw [HI.out])
        | (refine wpList_load_mid rfl 34 (.tmp 4) rfl tb 0 rfl X4 _ HG.out.1.rangeAll Tryz.underlying34 rfl (by rw [HF.out.1]; exact info_pk) ?_)
        | (refine wpList_store_mid rfl 34 (.tmp 2) (.tmp 22) rfl w.heap.size 0 X4.toArray rfl rfl (P0.out.res.there (by rw [List.size_toArray, List.size_toArray, HA.out.2.2.2.2.2, HF.out.1]; exact Nat.le_refl _)) (by rw [List.size_toArray, HF.out.1]; exact info_pk) (all_oneCell_toArray HG.out.2) ?_))
      refine bodyPost_ret (results_row_tmp rfl _ _ w.heap.size 34 _ (0, 0) _ rfl (HF.out.2 _ P0.out.res) Tryz.underlying34 rfl (by rw [List.size_toArray, HF.out.1]; exact info_pk)) rfl ?_
      exact HT.out
    · have hEE := Lib.hid (show hdE b = firstP S4.2.2 S4.2.1.e by rw [HS.out.2.2.2.2.2.2, if_neg (fun h => by have := HB.out.2.2.2.2.1 h.2; rw [hin] at this; cases this)])
      have HI := Lib.hid hin
      clear he hin
      go_upto_region 4 with (first
        | (go_at_call 110; refine (err2_any p g r3 _ (h03 ▸ P0.out.rd)).mono ?_; rintro e wy ⟨rfl, rfl⟩)
        | (go_at_call 67; refine (withinR x1 1 14 _).mono ?_; rintro e wy ⟨rfl, rfl⟩; rw [HI.out]))
      clear c0 he' h03
      have c0 := (P0.out.row.cell 0).trans (show _ = some (Value.int .i64 x1) by rw [← P0.out.kd]; rfl)
      obtain ⟨B0, hB⟩ : ∃ B, numK.contains x1 = B := ⟨_, rfl⟩
      have HBk := Lib.hid (show B0 = (bitA ff 1 != 0) by rw [← hB]; exact HB.out.1)
      have HBc := Lib.hid hB
      clear hB
      go_upto_if 25 with (first
        | (go_at_call 53; refine (hasNumR x1 _).mono ?_; rintro e y1 ⟨rfl, k1⟩; rw [HBc.out]; have O := Lib.hid (P0.out.over k1); clear k1))
      go_cut [] (fun wx => hdA w wx p g tb x1 S1 Z)
      case first =>
        clear c0
        cases B0
        · have hb : bitA ff 1 = 0 := by have := HBk.out; simpa using this.symm
          have E := Lib.hid (show f1 ff S0 = S0 by unfold f1; rw [if_pos hb])
          clear hb
          go_wp2_with fail
          go_meet
          exact (by rw [← HS.out.2.1, E.out]; exact O.out)
        · have hb : ¬ bitA ff 1 = 0 := by have := HBk.out; simpa using this.symm
          have E := Lib.hid (show f1 ff S0 = _ by unfold f1; rw [if_neg hb])
          clear hb
          go_wp2_with (first
            | (go_at_call 107; refine (count2_any p g S0.2.1 9007199254740991 _ O.out.rd (by have := O.out.len; omega)).mono ?_; intro e u hq; unfold count2Post at hq; obtain ⟨rfl, hr, hk⟩ := hq; have B := Lib.hid (hdA.read (q := S0.1) (r := S0.2.1) (pt := S0.2.2) O.out hr hk count_left (RS.count_short _ _)); have y : u.cell? ⟨tb, 3, none⟩ = some (.int .i64 S0.1.num) := (B.out.row.cell 3).trans rfl; have y2 := B.out.row.free 3; clear hr hk))
          go_meet
          exact (by rw [← HS.out.2.1, E.out]; exact B.out.set 3 _ (pkL_num _) ⟨rfl, rfl, rfl⟩)
      case rest =>
        generalize wc = v1 at *
        have P1 := Lib.hid hcut
        clear hcut c0 HBk HBc O P0
        have c0 := (P1.out.row.cell 0).trans (show _ = some (Value.int .i64 x1) by rw [← P1.out.kd]; rfl)
        obtain ⟨B1, hB⟩ : ∃ B, seqK.contains x1 = B := ⟨_, rfl⟩
        have HBk := Lib.hid (show B1 = (bitA ff 2 != 0) by rw [← hB]; exact HB.out.2.1)
        have HBc := Lib.hid hB
        clear hB
        go_upto_if 31 with (first
          | (go_at_call 55; refine (hasSeqR x1 _).mono ?_; rintro e y1 ⟨rfl, k1⟩; rw [HBc.out]; have O := Lib.hid (P1.out.over k1); clear k1))
        go_cut [] (fun wx => hdA w wx p g tb x1 S2 Z)
        case first =>
          clear c0
          cases B1
          · have hb : bitA ff 2 = 0 := by have := HBk.out; simpa using this.symm
            have E := Lib.hid (show f2 ff S1 = S1 by unfold f2; rw [if_pos hb])
            clear hb
            go_wp2_with fail
            go_meet
            exact (by rw [← HS.out.2.2.1, E.out]; exact O.out)
          · have hb : ¬ bitA ff 2 = 0 := by have := HBk.out; simpa using this.symm
            have E := Lib.hid (show f2 ff S1 = _ by unfold f2; rw [if_neg hb])
            clear hb
            have hw1 : IntKind.i64.wrap ((S1.2.1.count 9007199254740991).1 - 1) = (S1.2.1.count 9007199254740991).1 - 1 := by
              have h1 := (RS.count_range S1.2.1 9007199254740991).1
              have h2 : (S1.2.1.count 9007199254740991).1 ≤ 9007199254740991 := (RS.count_range S1.2.1 9007199254740991).2
              rw [IntKind.wrap_i64]; omega
            go_wp2_with (first
              | (go_at_call 107; refine (count2_any p g S1.2.1 9007199254740991 _ O.out.rd (by have := O.out.len; omega)).mono ?_; intro e u hq; unfold count2Post at hq; obtain ⟨rfl, hr, hk⟩ := hq; have B := Lib.hid (hdA.read (q := S1.1) (r := S1.2.1) (pt := S1.2.2) O.out hr hk count_left (RS.count_short _ _)); have y : u.cell? ⟨tb, 4, none⟩ = some (.int .i64 S1.1.seq) := (B.out.row.cell 4).trans rfl; have y2 := B.out.row.free 4; clear hr hk))
            go_meet
            exact (by rw [← HS.out.2.2.1, E.out]; exact B.out.set 4 _ (pkL_seq _) ⟨rfl, rfl, rfl⟩)
        case rest =>
          generalize wc = v2 at *
          have P2 := Lib.hid hcut
          clear hcut c0 HBk HBc O P1
          have c0 := (P2.out.row.cell 0).trans (show _ = some (Value.int .i64 x1) by rw [← P2.out.kd]; rfl)
          obtain ⟨B2, hB⟩ : ∃ B, ballotK.contains x1 = B := ⟨_, rfl⟩
          have HBk := Lib.hid (show B2 = (bitA ff 4 != 0) by rw [← hB]; exact HB.out.2.2.1)
          have HBc := Lib.hid hB
          clear hB
          go_upto_if 38 with (first
            | (go_at_call 56; refine (hasBallotR x1 _).mono ?_; rintro e y1 ⟨rfl, k1⟩; rw [HBc.out]; have O := Lib.hid (P2.out.over k1); clear k1))
          go_cut [] (fun wx => hdA w wx p g tb x1 S3 Z)
          case first =>
            clear c0
            cases B2
            · have hb : bitA ff 4 = 0 := by have := HBk.out; simpa using this.symm
              have E := Lib.hid (show f3 ff S2 = S2 by unfold f3; rw [if_pos hb])
              clear hb
              go_wp2_with fail
              go_meet
              exact (by rw [← HS.out.2.2.2.1, E.out]; exact O.out)
            · have hb : ¬ bitA ff 4 = 0 := by have := HBk.out; simpa using this.symm
              have E := Lib.hid (show f3 ff S2 = _ by unfold f3; rw [if_neg hb])
              clear hb
              go_wp2_with (first
                | (go_at_call 107; refine (count2_any p g S2.2.1 9007199254740991 _ O.out.rd (by have := O.out.len; omega)).mono ?_; intro e u hq; unfold count2Post at hq; obtain ⟨rfl, hr, hk⟩ := hq; have B := Lib.hid (hdA.read (q := S2.1) (r := S2.2.1) (pt := S2.2.2) O.out hr hk count_left (RS.count_short _ _)); have y : u.cell? ⟨tb, 5, none⟩ = some (.int .i64 S2.1.ballot) := (B.out.row.cell 5).trans rfl; have y2 := B.out.row.free 5; clear hr hk))
              go_meet
              exact (by rw [← HS.out.2.2.2.1, E.out]; exact B.out.set 5 _ (pkL_bal _) ⟨rfl, rfl, rfl⟩)
          case rest =>
            generalize wc = v3 at *
            have P3 := Lib.hid hcut
            clear hcut c0 HBk HBc O P2
            have c0 := (P3.out.row.cell 0).trans (show _ = some (Value.int .i64 x1) by rw [← P3.out.kd]; rfl)
            by_cases h8 : x1 = 8
            · have h8' : (x1 == 8) = true := by simp [h8]
              have hb : ¬ bitA ff 8 = 0 := by have := HB.out.2.2.2.1; rw [h8'] at this; simpa using this.symm
              have E := Lib.hid (show S4 = ({ S3.1 with ready := decide ((S3.2.1.num 1).1 = 1) }, rdyR S3.2.1, rdyP S3.2.1 S3.2.2) by rw [← HS.out.2.2.2.2.1]; unfold f4; rw [if_neg hb])
              obtain ⟨n, hn⟩ : ∃ n, (S3.2.1.num 1).1 = n := ⟨_, rfl⟩
              obtain ⟨r4, hr4⟩ : ∃ r, (S3.2.1.num 1).2 = r := ⟨_, rfl⟩
              have s4 : (r4.l ≠ [] → S3.2.1.l ≠ []) ∧ r4.l.length ≤ S3.2.1.l.length := by rw [← hr4]; exact ⟨num_left, num_short _ _⟩
              have hme : 1 < n → r4.e = 0 := fun h => by rw [← hr4]; exact num1_more (by rw [hn]; exact h)
              have HNR := Lib.hid (And.intro hn (And.intro hr4 s4))
              have e1 : S4.1 = { S3.1 with ready := (n == 1) } := by rw [E.out, ← hn]; rfl
              have e2 : S4.2.1 = r4 := by rw [E.out, ← hr4]; rfl
              have e3 : S4.2.2 = if 1 < n then 4 else S3.2.2 := by rw [E.out, ← hn]; rfl
              have HEq := Lib.hid (And.intro e1 (And.intro e2 e3))
              clear h8 hb hn hr4 s4 e1 e2 e3 E
              go_upto_region 13 with (first
                | (go_at_call 106; refine (num2_any p g S3.2.1 1 _ P3.out.rd (by have := P3.out.len; omega)).mono ?_; intro e u hq; unfold num2Post at hq; rw [HNR.out.1, HNR.out.2.1] at hq; obtain ⟨rfl, hr, hk⟩ := hq; have B := Lib.hid (hdA.read (q := S3.1) (r := S3.2.1) (pt := S3.2.2) P3.out hr hk HNR.out.2.2.1 HNR.out.2.2.2); have y : u.cell? ⟨tb, 6, none⟩ = some (.bool S3.1.ready) := (B.out.row.cell 6).trans rfl; have y2 := B.out.row.free 6; clear hr hk))
              have P5 := Lib.hid (B.out.set 6 (.bool (n == 1)) (pkL_rdy (n == 1)) ⟨rfl, rfl, rfl⟩)
              obtain ⟨v4, hv4⟩ : ∃ v, u.setCell ⟨tb, 6, none⟩ (.bool (n == 1)) = v := ⟨_, rfl⟩
              rw [hv4] at P5
              try rw [hv4]
              obtain ⟨q5, hq5⟩ : ∃ q, ({ S3.1 with ready := (n == 1) } : PK) = q := ⟨_, rfl⟩
              rw [hq5] at P5 HEq
              clear hv4 y y2 B c0
              by_cases hm : 1 < n
              · have he4 : (r4.e == 0) = true := by simp [hme hm]
                have hE4 : hdE b = 4 := by rw [hEE.out]; unfold firstP; rw [show S4.2.2 = 4 by rw [HEq.out.2.2, if_pos hm]]; rfl
                clear hEE
            
                obtain ⟨X4, hX4⟩ : ∃ X, pkL q5 nilV nilV nilV nilV nilV = X := ⟨_, rfl⟩
                have hxl : X4.length = 87 := by rw [← hX4]; exact pkL_len P5.out.rn P5.out.an
                have hxo : ∀ u ∈ X4, u.oneCell' = true := by rw [← hX4]; exact pkL_one rfl rfl rfl rfl rfl
                have hrow : rowAt v4 tb 34 X4.toArray := by rw [← hX4]; exact P5.out.row
                have rs : ∀ wx, rowAt wx w.heap.size 34 Z.toArray → rowAt (wx.setCells w.heap.size 0 X4) w.heap.size 34 X4.toArray := fun wx hh => by
                  have := hh.setL (vs := X4) (o := 0)
                  rw [putL_all (by rw [List.size_toArray, HA.out.2.2.2.2.2, hxl])] at this
                  exact this
                have HF := Lib.hid (And.intro hxl rs)
                have HG := Lib.hid (And.intro hrow hxo)
                have HT : Hid (∃ q, Ending.returned (.tuple #[.agg X4.toArray, .int .i64 4]) = .returned (.tuple #[.agg (pkL q nilV nilV nilV nilV nilV).toArray, .int .i64 (hdE b)]) ∧ q.req.name.length = 32 ∧ q.ans.name.length = 32 ∧ (hdE b = 0 → q = (hdS b).1 ∧ isR2 (v4.setCells w.heap.size 0 X4) p g (hdS b).2.1) ∧ keepBut [p] w (v4.setCells w.heap.size 0 X4)) := Lib.hid
                  ⟨q5, by rw [hX4, hE4], P5.out.rn, P5.out.an, fun h => (by rw [hE4] at h; exact absurd h (by decide)), P5.out.kp.setL (.inr (Nat.le_refl _))⟩
                clear hX4 hxl hxo hrow rs hE4
                go_wp2_with (first
                  | (go_at_call 110; refine (err2_any p g r4 _ P5.out.rd).mono ?_; rintro e wy ⟨rfl, rfl⟩)
                  | (refine wpList_load_mid rfl 34 (.tmp 4) rfl tb 0 rfl X4 _ HG.out.1.rangeAll Tryz.underlying34 rfl (by rw [HF.out.1]; exact info_pk) ?_)
                  | (refine wpList_store_mid rfl 34 (.tmp 2) (.tmp 57) rfl w.heap.size 0 X4.toArray rfl rfl (P5.out.res.there (by rw [List.size_toArray, List.size_toArray, HA.out.2.2.2.2.2, HF.out.1]; exact Nat.le_refl _)) (by rw [List.size_toArray, HF.out.1]; exact info_pk) (all_oneCell_toArray HG.out.2) ?_))
                refine bodyPost_ret (results_row_tmp rfl _ _ w.heap.size 34 _ (0, 0) _ rfl (HF.out.2 _ P5.out.res) Tryz.underlying34 rfl (by rw [List.size_toArray, HF.out.1]; exact info_pk)) rfl ?_
                exact HT.out
              · have P4 : Hid (hdA w v4 p g tb x1 S4 Z) := Lib.hid (by
                  have h9 : S4 = (q5, r4, S3.2.2) := by
                    have h10 := HEq.out.2.2
                    rw [if_neg hm] at h10
                    exact Prod.ext HEq.out.1 (Prod.ext HEq.out.2.1 h10)
                  rw [h9]; exact P5.out)
                by_cases he : r4.e = 0
                · have he4 : (r4.e == 0) = true := by simp [he]
                  clear he
                  go_upto_region 15 with (first
                    | (go_at_call 110; refine (err2_any p g r4 _ P5.out.rd).mono ?_; rintro e wy ⟨rfl, rfl⟩))
                  have Pd := Lib.hid (P4.out.over ((keepBut.refl [] v4).drew))
                  obtain ⟨X4, hX4⟩ : ∃ X, pkL S4.1 nilV nilV nilV nilV nilV = X := ⟨_, rfl⟩
                  have hxl : X4.length = 87 := by rw [← hX4]; exact pkL_len Pd.out.rn Pd.out.an
                  have hxo : ∀ u ∈ X4, u.oneCell' = true := by rw [← hX4]; exact pkL_one rfl rfl rfl rfl rfl
                  have hrow := Pd.out.row
                  rw [hX4] at hrow
                  have rs : ∀ wx, rowAt wx w.heap.size 34 Z.toArray → rowAt (wx.setCells w.heap.size 0 X4) w.heap.size 34 X4.toArray := fun wx hh => by
                    have := hh.setL (vs := X4) (o := 0)
                    rw [putL_all (by rw [List.size_toArray, HA.out.2.2.2.2.2, hxl])] at this
                    exact this
                  have HF := Lib.hid (And.intro hxl rs)
                  have HG := Lib.hid (And.intro hrow hxo)
                  have HT : Hid (∃ q, Ending.returned (.tuple #[.agg X4.toArray, .int .i64 S4.2.1.e]) = .returned (.tuple #[.agg (pkL q nilV nilV nilV nilV nilV).toArray, .int .i64 (hdE b)]) ∧ q.req.name.length = 32 ∧ q.ans.name.length = 32 ∧ (hdE b = 0 → q = (hdS b).1 ∧ isR2 (v4.drew.setCells w.heap.size 0 X4) p g (hdS b).2.1) ∧ keepBut [p] w (v4.drew.setCells w.heap.size 0 X4)) := Lib.hid (by
                    have ks := (keepBut.refl [w.heap.size] v4.drew).setL (vs := X4) (g := w.heap.size) (o := 0) (by simp)
                    have hlo := Pd.out.lo
                    refine ⟨S4.1, by rw [hX4, hEE.out]; unfold firstP; rw [if_pos Pd.out.pt], Pd.out.rn, Pd.out.an, fun _ => ⟨by rw [HS.out.2.2.2.2.2.1], by rw [HS.out.2.2.2.2.2.1]; exact Pd.out.rd.keep ks (by simp; omega) (fun hne => by have := Pd.out.gl hne; simp; omega)⟩, Pd.out.kp.setL (.inr (Nat.le_refl _))⟩)
                  clear hX4 hxl hxo hrow rs
                  refine wp_region_held_drew (S := fun _ => True) (by kernel_rfl) trivial (fun _ => ?_)
                  refine wpAnyH_ready (rs := [0, 1]) (by kernel_rfl) (by simp) ?_
                  refine AllReadyH.cons (o := ⟨_, _, _, _, _, _⟩) rfl (fun K hK => ?_) (AllReadyH.cons (o := ⟨_, _, _, _, _, _⟩) rfl (fun K hK => ?_) AllReadyH.nil)
                  · refine step_load_mid rfl 34 (.tmp 4) rfl tb 0 rfl X4 _ HG.out.1.rangeAll Tryz.underlying34 rfl (by rw [HF.out.1]; exact info_pk) ?_
                    refine hK.out _ _ trivial (fun _ => ?_)
                    clear hK K
                    try simp only [Act.put, List.setIfInBounds_toArray, List.set_cons_zero, List.set_cons_succ]
                    refine wpAnyH_ready (rs := [1]) (by kernel_rfl) (by simp) ?_
                    refine AllReadyH.cons (o := ⟨_, _, _, _, _, _⟩) rfl (fun K hK => ?_) AllReadyH.nil
                    go_simp
                    refine hK.out _ _ trivial (fun _ => ?_)
                    clear hK K
                    try simp only [Act.put, List.setIfInBounds_toArray, List.set_cons_zero, List.set_cons_succ]
                    refine wpAnyH_ready (rs := [2]) (by kernel_rfl) (by simp) ?_
                    refine AllReadyH.cons (o := ⟨_, _, _, _, _, _⟩) rfl (fun K hK => ?_) AllReadyH.nil
                    go_simp
                    refine (err2_any p g S4.2.1 _ Pd.out.rd).mono ?_
                    rintro e wy ⟨rfl, rfl⟩
                    go_wp2_with fail
                    refine hK.out _ _ trivial (fun _ => ?_)
                    clear hK K
                    try simp only [Act.put, List.setIfInBounds_toArray, List.set_cons_zero, List.set_cons_succ]
                    refine wpAnyH_ready (rs := [3]) (by kernel_rfl) (by simp) ?_
                    refine AllReadyH.cons (o := ⟨_, _, _, _, _, _⟩) rfl (fun K hK => ?_) AllReadyH.nil
                    refine step_store_mid rfl 34 (.tmp 2) (.tmp 58) rfl w.heap.size 0 X4.toArray rfl rfl (Pd.out.res.there (by rw [List.size_toArray, List.size_toArray, HA.out.2.2.2.2.2, HF.out.1]; exact Nat.le_refl _)) (by rw [List.size_toArray, HF.out.1]; exact info_pk) (all_oneCell_toArray HG.out.2) ?_
                    refine hK.out _ _ trivial (fun _ => ?_)
                    clear hK K
                    try simp only [Act.put, List.setIfInBounds_toArray, List.set_cons_zero, List.set_cons_succ]
                    refine wpAnyH_ready (rs := [4]) (by kernel_rfl) (by simp) ?_
                    refine AllReadyH.cons (o := ⟨_, _, _, _, _, _⟩) rfl (fun K hK => ?_) AllReadyH.nil
                    go_simp
                    refine hK.out _ _ trivial (fun _ => ?_)
                    clear hK K
                    try simp only [Act.put, List.setIfInBounds_toArray, List.set_cons_zero, List.set_cons_succ]
                    refine wpAnyH_done (by kernel_rfl) ?_ _
                    go_wp2_with fail
                    refine bodyPost_ret (results_row_tmp rfl _ _ w.heap.size 34 _ (0, 0) _ rfl (HF.out.2 _ Pd.out.res) Tryz.underlying34 rfl (by rw [List.size_toArray, HF.out.1]; exact info_pk)) rfl ?_
                    exact HT.out
                  · go_simp
                    refine hK.out _ _ trivial (fun _ => ?_)
                    clear hK K
                    try simp only [Act.put, List.setIfInBounds_toArray, List.set_cons_zero, List.set_cons_succ]
                    refine wpAnyH_ready (rs := [0, 2]) (by kernel_rfl) (by simp) ?_
                    refine AllReadyH.cons (o := ⟨_, _, _, _, _, _⟩) rfl (fun K hK => ?_) (AllReadyH.cons (o := ⟨_, _, _, _, _, _⟩) rfl (fun K hK => ?_) AllReadyH.nil)
                    · refine step_load_mid rfl 34 (.tmp 4) rfl tb 0 rfl X4 _ HG.out.1.rangeAll Tryz.underlying34 rfl (by rw [HF.out.1]; exact info_pk) ?_
                      refine hK.out _ _ trivial (fun _ => ?_)
                      clear hK K
                      try simp only [Act.put, List.setIfInBounds_toArray, List.set_cons_zero, List.set_cons_succ]
                      refine wpAnyH_ready (rs := [2]) (by kernel_rfl) (by simp) ?_
                      refine AllReadyH.cons (o := ⟨_, _, _, _, _, _⟩) rfl (fun K hK => ?_) AllReadyH.nil
                      go_simp
                      refine (err2_any p g S4.2.1 _ Pd.out.rd).mono ?_
                      rintro e wy ⟨rfl, rfl⟩
                      go_wp2_with fail
                      refine hK.out _ _ trivial (fun _ => ?_)
                      clear hK K
                      try simp only [Act.put, List.setIfInBounds_toArray, List.set_cons_zero, List.set_cons_succ]
                      refine wpAnyH_ready (rs := [3]) (by kernel_rfl) (by simp) ?_
                      refine AllReadyH.cons (o := ⟨_, _, _, _, _, _⟩) rfl (fun K hK => ?_) AllReadyH.nil
                      refine step_store_mid rfl 34 (.tmp 2) (.tmp 58) rfl w.heap.size 0 X4.toArray rfl rfl (Pd.out.res.there (by rw [List.size_toArray, List.size_toArray, HA.out.2.2.2.2.2, HF.out.1]; exact Nat.le_refl _)) (by rw [List.size_toArray, HF.out.1]; exact info_pk) (all_oneCell_toArray HG.out.2) ?_
                      refine hK.out _ _ trivial (fun _ => ?_)
                      clear hK K
                      try simp only [Act.put, List.setIfInBounds_toArray, List.set_cons_zero, List.set_cons_succ]
                      refine wpAnyH_ready (rs := [4]) (by kernel_rfl) (by simp) ?_
                      refine AllReadyH.cons (o := ⟨_, _, _, _, _, _⟩) rfl (fun K hK => ?_) AllReadyH.nil
                      go_simp
                      refine hK.out _ _ trivial (fun _ => ?_)
                      clear hK K
                      try simp only [Act.put, List.setIfInBounds_toArray, List.set_cons_zero, List.set_cons_succ]
                      refine wpAnyH_done (by kernel_rfl) ?_ _
                      go_wp2_with fail
                      refine bodyPost_ret (results_row_tmp rfl _ _ w.heap.size 34 _ (0, 0) _ rfl (HF.out.2 _ Pd.out.res) Tryz.underlying34 rfl (by rw [List.size_toArray, HF.out.1]; exact info_pk)) rfl ?_
                      exact HT.out
                    · go_simp
                      refine (err2_any p g S4.2.1 _ Pd.out.rd).mono ?_
                      rintro e wy ⟨rfl, rfl⟩
                      go_wp2_with fail
                      refine hK.out _ _ trivial (fun _ => ?_)
                      clear hK K
                      try simp only [Act.put, List.setIfInBounds_toArray, List.set_cons_zero, List.set_cons_succ]
                      refine wpAnyH_ready (rs := [0]) (by kernel_rfl) (by simp) ?_
                      refine AllReadyH.cons (o := ⟨_, _, _, _, _, _⟩) rfl (fun K hK => ?_) AllReadyH.nil
                      refine step_load_mid rfl 34 (.tmp 4) rfl tb 0 rfl X4 _ HG.out.1.rangeAll Tryz.underlying34 rfl (by rw [HF.out.1]; exact info_pk) ?_
                      refine hK.out _ _ trivial (fun _ => ?_)
                      clear hK K
                      try simp only [Act.put, List.setIfInBounds_toArray, List.set_cons_zero, List.set_cons_succ]
                      refine wpAnyH_ready (rs := [3]) (by kernel_rfl) (by simp) ?_
                      refine AllReadyH.cons (o := ⟨_, _, _, _, _, _⟩) rfl (fun K hK => ?_) AllReadyH.nil
                      refine step_store_mid rfl 34 (.tmp 2) (.tmp 58) rfl w.heap.size 0 X4.toArray rfl rfl (Pd.out.res.there (by rw [List.size_toArray, List.size_toArray, HA.out.2.2.2.2.2, HF.out.1]; exact Nat.le_refl _)) (by rw [List.size_toArray, HF.out.1]; exact info_pk) (all_oneCell_toArray HG.out.2) ?_
                      refine hK.out _ _ trivial (fun _ => ?_)
                      clear hK K
                      try simp only [Act.put, List.setIfInBounds_toArray, List.set_cons_zero, List.set_cons_succ]
                      refine wpAnyH_ready (rs := [4]) (by kernel_rfl) (by simp) ?_
                      refine AllReadyH.cons (o := ⟨_, _, _, _, _, _⟩) rfl (fun K hK => ?_) AllReadyH.nil
                      go_simp
                      refine hK.out _ _ trivial (fun _ => ?_)
                      clear hK K
                      try simp only [Act.put, List.setIfInBounds_toArray, List.set_cons_zero, List.set_cons_succ]
                      refine wpAnyH_done (by kernel_rfl) ?_ _
                      go_wp2_with fail
                      refine bodyPost_ret (results_row_tmp rfl _ _ w.heap.size 34 _ (0, 0) _ rfl (HF.out.2 _ Pd.out.res) Tryz.underlying34 rfl (by rw [List.size_toArray, HF.out.1]; exact info_pk)) rfl ?_
                      exact HT.out
                · have he4 : (r4.e == 0) = false := by simp [he]
                  clear he
                  go_upto_region 15 with (first
                    | (go_at_call 110; refine (err2_any p g r4 _ P5.out.rd).mono ?_; rintro e wy ⟨rfl, rfl⟩))
                  have Pd := Lib.hid (P4.out.over ((keepBut.refl [] v4).drew))
                  obtain ⟨X4, hX4⟩ : ∃ X, pkL S4.1 nilV nilV nilV nilV nilV = X := ⟨_, rfl⟩
                  have hxl : X4.length = 87 := by rw [← hX4]; exact pkL_len Pd.out.rn Pd.out.an
                  have hxo : ∀ u ∈ X4, u.oneCell' = true := by rw [← hX4]; exact pkL_one rfl rfl rfl rfl rfl
                  have hrow := Pd.out.row
                  rw [hX4] at hrow
                  have rs : ∀ wx, rowAt wx w.heap.size 34 Z.toArray → rowAt (wx.setCells w.heap.size 0 X4) w.heap.size 34 X4.toArray := fun wx hh => by
                    have := hh.setL (vs := X4) (o := 0)
                    rw [putL_all (by rw [List.size_toArray, HA.out.2.2.2.2.2, hxl])] at this
                    exact this
                  have HF := Lib.hid (And.intro hxl rs)
                  have HG := Lib.hid (And.intro hrow hxo)
                  have HT : Hid (∃ q, Ending.returned (.tuple #[.agg X4.toArray, .int .i64 S4.2.1.e]) = .returned (.tuple #[.agg (pkL q nilV nilV nilV nilV nilV).toArray, .int .i64 (hdE b)]) ∧ q.req.name.length = 32 ∧ q.ans.name.length = 32 ∧ (hdE b = 0 → q = (hdS b).1 ∧ isR2 (v4.drew.setCells w.heap.size 0 X4) p g (hdS b).2.1) ∧ keepBut [p] w (v4.drew.setCells w.heap.size 0 X4)) := Lib.hid (by
                    have ks := (keepBut.refl [w.heap.size] v4.drew).setL (vs := X4) (g := w.heap.size) (o := 0) (by simp)
                    have hlo := Pd.out.lo
                    refine ⟨S4.1, by rw [hX4, hEE.out]; unfold firstP; rw [if_pos Pd.out.pt], Pd.out.rn, Pd.out.an, fun _ => ⟨by rw [HS.out.2.2.2.2.2.1], by rw [HS.out.2.2.2.2.2.1]; exact Pd.out.rd.keep ks (by simp; omega) (fun hne => by have := Pd.out.gl hne; simp; omega)⟩, Pd.out.kp.setL (.inr (Nat.le_refl _))⟩)
                  clear hX4 hxl hxo hrow rs
                  refine wp_region_held_drew (S := fun _ => True) (by kernel_rfl) trivial (fun _ => ?_)
                  refine wpAnyH_ready (rs := [0, 1]) (by kernel_rfl) (by simp) ?_
                  refine AllReadyH.cons (o := ⟨_, _, _, _, _, _⟩) rfl (fun K hK => ?_) (AllReadyH.cons (o := ⟨_, _, _, _, _, _⟩) rfl (fun K hK => ?_) AllReadyH.nil)
                  · refine step_load_mid rfl 34 (.tmp 4) rfl tb 0 rfl X4 _ HG.out.1.rangeAll Tryz.underlying34 rfl (by rw [HF.out.1]; exact info_pk) ?_
                    refine hK.out _ _ trivial (fun _ => ?_)
                    clear hK K
                    try simp only [Act.put, List.setIfInBounds_toArray, List.set_cons_zero, List.set_cons_succ]
                    refine wpAnyH_ready (rs := [1]) (by kernel_rfl) (by simp) ?_
                    refine AllReadyH.cons (o := ⟨_, _, _, _, _, _⟩) rfl (fun K hK => ?_) AllReadyH.nil
                    go_simp
                    refine hK.out _ _ trivial (fun _ => ?_)
                    clear hK K
                    try simp only [Act.put, List.setIfInBounds_toArray, List.set_cons_zero, List.set_cons_succ]
                    refine wpAnyH_ready (rs := [2]) (by kernel_rfl) (by simp) ?_
                    refine AllReadyH.cons (o := ⟨_, _, _, _, _, _⟩) rfl (fun K hK => ?_) AllReadyH.nil
                    go_simp
                    refine (err2_any p g S4.2.1 _ Pd.out.rd).mono ?_
                    rintro e wy ⟨rfl, rfl⟩
                    go_wp2_with fail
                    refine hK.out _ _ trivial (fun _ => ?_)
                    clear hK K
                    try simp only [Act.put, List.setIfInBounds_toArray, List.set_cons_zero, List.set_cons_succ]
                    refine wpAnyH_ready (rs := [3]) (by kernel_rfl) (by simp) ?_
                    refine AllReadyH.cons (o := ⟨_, _, _, _, _, _⟩) rfl (fun K hK => ?_) AllReadyH.nil
                    refine step_store_mid rfl 34 (.tmp 2) (.tmp 58) rfl w.heap.size 0 X4.toArray rfl rfl (Pd.out.res.there (by rw [List.size_toArray, List.size_toArray, HA.out.2.2.2.2.2, HF.out.1]; exact Nat.le_refl _)) (by rw [List.size_toArray, HF.out.1]; exact info_pk) (all_oneCell_toArray HG.out.2) ?_
                    refine hK.out _ _ trivial (fun _ => ?_)
                    clear hK K
                    try simp only [Act.put, List.setIfInBounds_toArray, List.set_cons_zero, List.set_cons_succ]
                    refine wpAnyH_ready (rs := [4]) (by kernel_rfl) (by simp) ?_
                    refine AllReadyH.cons (o := ⟨_, _, _, _, _, _⟩) rfl (fun K hK => ?_) AllReadyH.nil
                    go_simp
                    refine hK.out _ _ trivial (fun _ => ?_)
                    clear hK K
                    try simp only [Act.put, List.setIfInBounds_toArray, List.set_cons_zero, List.set_cons_succ]
                    refine wpAnyH_done (by kernel_rfl) ?_ _
                    go_wp2_with fail
                    refine bodyPost_ret (results_row_tmp rfl _ _ w.heap.size 34 _ (0, 0) _ rfl (HF.out.2 _ Pd.out.res) Tryz.underlying34 rfl (by rw [List.size_toArray, HF.out.1]; exact info_pk)) rfl ?_
                    exact HT.out
                  · go_simp
                    refine hK.out _ _ trivial (fun _ => ?_)
                    clear hK K
                    try simp only [Act.put, List.setIfInBounds_toArray, List.set_cons_zero, List.set_cons_succ]
                    refine wpAnyH_ready (rs := [0, 2]) (by kernel_rfl) (by simp) ?_
                    refine AllReadyH.cons (o := ⟨_, _, _, _, _, _⟩) rfl (fun K hK => ?_) (AllReadyH.cons (o := ⟨_, _, _, _, _, _⟩) rfl (fun K hK => ?_) AllReadyH.nil)
                    · refine step_load_mid rfl 34 (.tmp 4) rfl tb 0 rfl X4 _ HG.out.1.rangeAll Tryz.underlying34 rfl (by rw [HF.out.1]; exact info_pk) ?_
                      refine hK.out _ _ trivial (fun _ => ?_)
                      clear hK K
                      try simp only [Act.put, List.setIfInBounds_toArray, List.set_cons_zero, List.set_cons_succ]
                      refine wpAnyH_ready (rs := [2]) (by kernel_rfl) (by simp) ?_
                      refine AllReadyH.cons (o := ⟨_, _, _, _, _, _⟩) rfl (fun K hK => ?_) AllReadyH.nil
                      go_simp
                      refine (err2_any p g S4.2.1 _ Pd.out.rd).mono ?_
                      rintro e wy ⟨rfl, rfl⟩
                      go_wp2_with fail
                      refine hK.out _ _ trivial (fun _ => ?_)
                      clear hK K
                      try simp only [Act.put, List.setIfInBounds_toArray, List.set_cons_zero, List.set_cons_succ]
                      refine wpAnyH_ready (rs := [3]) (by kernel_rfl) (by simp) ?_
                      refine AllReadyH.cons (o := ⟨_, _, _, _, _, _⟩) rfl (fun K hK => ?_) AllReadyH.nil
                      refine step_store_mid rfl 34 (.tmp 2) (.tmp 58) rfl w.heap.size 0 X4.toArray rfl rfl (Pd.out.res.there (by rw [List.size_toArray, List.size_toArray, HA.out.2.2.2.2.2, HF.out.1]; exact Nat.le_refl _)) (by rw [List.size_toArray, HF.out.1]; exact info_pk) (all_oneCell_toArray HG.out.2) ?_
                      refine hK.out _ _ trivial (fun _ => ?_)
                      clear hK K
                      try simp only [Act.put, List.setIfInBounds_toArray, List.set_cons_zero, List.set_cons_succ]
                      refine wpAnyH_ready (rs := [4]) (by kernel_rfl) (by simp) ?_
                      refine AllReadyH.cons (o := ⟨_, _, _, _, _, _⟩) rfl (fun K hK => ?_) AllReadyH.nil
                      go_simp
                      refine hK.out _ _ trivial (fun _ => ?_)
                      clear hK K
                      try simp only [Act.put, List.setIfInBounds_toArray, List.set_cons_zero, List.set_cons_succ]
                      refine wpAnyH_done (by kernel_rfl) ?_ _
                      go_wp2_with fail
                      refine bodyPost_ret (results_row_tmp rfl _ _ w.heap.size 34 _ (0, 0) _ rfl (HF.out.2 _ Pd.out.res) Tryz.underlying34 rfl (by rw [List.size_toArray, HF.out.1]; exact info_pk)) rfl ?_
                      exact HT.out
                    · go_simp
                      refine (err2_any p g S4.2.1 _ Pd.out.rd).mono ?_
                      rintro e wy ⟨rfl, rfl⟩
                      go_wp2_with fail
                      refine hK.out _ _ trivial (fun _ => ?_)
                      clear hK K
                      try simp only [Act.put, List.setIfInBounds_toArray, List.set_cons_zero, List.set_cons_succ]
                      refine wpAnyH_ready (rs := [0]) (by kernel_rfl) (by simp) ?_
                      refine AllReadyH.cons (o := ⟨_, _, _, _, _, _⟩) rfl (fun K hK => ?_) AllReadyH.nil
                      refine step_load_mid rfl 34 (.tmp 4) rfl tb 0 rfl X4 _ HG.out.1.rangeAll Tryz.underlying34 rfl (by rw [HF.out.1]; exact info_pk) ?_
                      refine hK.out _ _ trivial (fun _ => ?_)
                      clear hK K
                      try simp only [Act.put, List.setIfInBounds_toArray, List.set_cons_zero, List.set_cons_succ]
                      refine wpAnyH_ready (rs := [3]) (by kernel_rfl) (by simp) ?_
                      refine AllReadyH.cons (o := ⟨_, _, _, _, _, _⟩) rfl (fun K hK => ?_) AllReadyH.nil
                      refine step_store_mid rfl 34 (.tmp 2) (.tmp 58) rfl w.heap.size 0 X4.toArray rfl rfl (Pd.out.res.there (by rw [List.size_toArray, List.size_toArray, HA.out.2.2.2.2.2, HF.out.1]; exact Nat.le_refl _)) (by rw [List.size_toArray, HF.out.1]; exact info_pk) (all_oneCell_toArray HG.out.2) ?_
                      refine hK.out _ _ trivial (fun _ => ?_)
                      clear hK K
                      try simp only [Act.put, List.setIfInBounds_toArray, List.set_cons_zero, List.set_cons_succ]
                      refine wpAnyH_ready (rs := [4]) (by kernel_rfl) (by simp) ?_
                      refine AllReadyH.cons (o := ⟨_, _, _, _, _, _⟩) rfl (fun K hK => ?_) AllReadyH.nil
                      go_simp
                      refine hK.out _ _ trivial (fun _ => ?_)
                      clear hK K
                      try simp only [Act.put, List.setIfInBounds_toArray, List.set_cons_zero, List.set_cons_succ]
                      refine wpAnyH_done (by kernel_rfl) ?_ _
                      go_wp2_with fail
                      refine bodyPost_ret (results_row_tmp rfl _ _ w.heap.size 34 _ (0, 0) _ rfl (HF.out.2 _ Pd.out.res) Tryz.underlying34 rfl (by rw [List.size_toArray, HF.out.1]; exact info_pk)) rfl ?_
                      exact HT.out
            · have h8' : (x1 == 8) = false := by simp [h8]
              have hb : bitA ff 8 = 0 := by have := HB.out.2.2.2.1; rw [h8'] at this; simpa using this.symm
              have E := Lib.hid (show S4 = S3 by rw [← HS.out.2.2.2.2.1]; unfold f4; rw [if_pos hb])
              have P4 : Hid (hdA w v3 p g tb x1 S4 Z) := Lib.hid (by rw [E.out]; exact P3.out)
              clear h8 hb
              go_upto_region 15 with fail
              have Pd := Lib.hid (P4.out.over ((keepBut.refl [] v3).drew))
              obtain ⟨X4, hX4⟩ : ∃ X, pkL S4.1 nilV nilV nilV nilV nilV = X := ⟨_, rfl⟩
              have hxl : X4.length = 87 := by rw [← hX4]; exact pkL_len Pd.out.rn Pd.out.an
              have hxo : ∀ u ∈ X4, u.oneCell' = true := by rw [← hX4]; exact pkL_one rfl rfl rfl rfl rfl
              have hrow := Pd.out.row
              rw [hX4] at hrow
              have rs : ∀ wx, rowAt wx w.heap.size 34 Z.toArray → rowAt (wx.setCells w.heap.size 0 X4) w.heap.size 34 X4.toArray := fun wx hh => by
                have := hh.setL (vs := X4) (o := 0)
                rw [putL_all (by rw [List.size_toArray, HA.out.2.2.2.2.2, hxl])] at this
                exact this
              have HF := Lib.hid (And.intro hxl rs)
              have HG := Lib.hid (And.intro hrow hxo)
              have HT : Hid (∃ q, Ending.returned (.tuple #[.agg X4.toArray, .int .i64 S4.2.1.e]) = .returned (.tuple #[.agg (pkL q nilV nilV nilV nilV nilV).toArray, .int .i64 (hdE b)]) ∧ q.req.name.length = 32 ∧ q.ans.name.length = 32 ∧ (hdE b = 0 → q = (hdS b).1 ∧ isR2 (v3.drew.setCells w.heap.size 0 X4) p g (hdS b).2.1) ∧ keepBut [p] w (v3.drew.setCells w.heap.size 0 X4)) := Lib.hid (by
                have ks := (keepBut.refl [w.heap.size] v3.drew).setL (vs := X4) (g := w.heap.size) (o := 0) (by simp)
                have hlo := Pd.out.lo
                refine ⟨S4.1, by rw [hX4, hEE.out]; unfold firstP; rw [if_pos Pd.out.pt], Pd.out.rn, Pd.out.an, fun _ => ⟨by rw [HS.out.2.2.2.2.2.1], by rw [HS.out.2.2.2.2.2.1]; exact Pd.out.rd.keep ks (by simp; omega) (fun hne => by have := Pd.out.gl hne; simp; omega)⟩, Pd.out.kp.setL (.inr (Nat.le_refl _))⟩)
              clear hX4 hxl hxo hrow rs
              refine wp_region_held_drew (S := fun _ => True) (by kernel_rfl) trivial (fun _ => ?_)
              refine wpAnyH_ready (rs := [0, 1]) (by kernel_rfl) (by simp) ?_
              refine AllReadyH.cons (o := ⟨_, _, _, _, _, _⟩) rfl (fun K hK => ?_) (AllReadyH.cons (o := ⟨_, _, _, _, _, _⟩) rfl (fun K hK => ?_) AllReadyH.nil)
              · refine step_load_mid rfl 34 (.tmp 4) rfl tb 0 rfl X4 _ HG.out.1.rangeAll Tryz.underlying34 rfl (by rw [HF.out.1]; exact info_pk) ?_
                refine hK.out _ _ trivial (fun _ => ?_)
                clear hK K
                try simp only [Act.put, List.setIfInBounds_toArray, List.set_cons_zero, List.set_cons_succ]
                refine wpAnyH_ready (rs := [1]) (by kernel_rfl) (by simp) ?_
                refine AllReadyH.cons (o := ⟨_, _, _, _, _, _⟩) rfl (fun K hK => ?_) AllReadyH.nil
                go_simp
                refine hK.out _ _ trivial (fun _ => ?_)
                clear hK K
                try simp only [Act.put, List.setIfInBounds_toArray, List.set_cons_zero, List.set_cons_succ]
                refine wpAnyH_ready (rs := [2]) (by kernel_rfl) (by simp) ?_
                refine AllReadyH.cons (o := ⟨_, _, _, _, _, _⟩) rfl (fun K hK => ?_) AllReadyH.nil
                go_simp
                refine (err2_any p g S4.2.1 _ Pd.out.rd).mono ?_
                rintro e wy ⟨rfl, rfl⟩
                go_wp2_with fail
                refine hK.out _ _ trivial (fun _ => ?_)
                clear hK K
                try simp only [Act.put, List.setIfInBounds_toArray, List.set_cons_zero, List.set_cons_succ]
                refine wpAnyH_ready (rs := [3]) (by kernel_rfl) (by simp) ?_
                refine AllReadyH.cons (o := ⟨_, _, _, _, _, _⟩) rfl (fun K hK => ?_) AllReadyH.nil
                refine step_store_mid rfl 34 (.tmp 2) (.tmp 58) rfl w.heap.size 0 X4.toArray rfl rfl (Pd.out.res.there (by rw [List.size_toArray, List.size_toArray, HA.out.2.2.2.2.2, HF.out.1]; exact Nat.le_refl _)) (by rw [List.size_toArray, HF.out.1]; exact info_pk) (all_oneCell_toArray HG.out.2) ?_
                refine hK.out _ _ trivial (fun _ => ?_)
                clear hK K
                try simp only [Act.put, List.setIfInBounds_toArray, List.set_cons_zero, List.set_cons_succ]
                refine wpAnyH_ready (rs := [4]) (by kernel_rfl) (by simp) ?_
                refine AllReadyH.cons (o := ⟨_, _, _, _, _, _⟩) rfl (fun K hK => ?_) AllReadyH.nil
                go_simp
                refine hK.out _ _ trivial (fun _ => ?_)
                clear hK K
                try simp only [Act.put, List.setIfInBounds_toArray, List.set_cons_zero, List.set_cons_succ]
                refine wpAnyH_done (by kernel_rfl) ?_ _
                go_wp2_with fail
                refine bodyPost_ret (results_row_tmp rfl _ _ w.heap.size 34 _ (0, 0) _ rfl (HF.out.2 _ Pd.out.res) Tryz.underlying34 rfl (by rw [List.size_toArray, HF.out.1]; exact info_pk)) rfl ?_
                exact HT.out
              · go_simp
                refine hK.out _ _ trivial (fun _ => ?_)
                clear hK K
                try simp only [Act.put, List.setIfInBounds_toArray, List.set_cons_zero, List.set_cons_succ]
                refine wpAnyH_ready (rs := [0, 2]) (by kernel_rfl) (by simp) ?_
                refine AllReadyH.cons (o := ⟨_, _, _, _, _, _⟩) rfl (fun K hK => ?_) (AllReadyH.cons (o := ⟨_, _, _, _, _, _⟩) rfl (fun K hK => ?_) AllReadyH.nil)
                · refine step_load_mid rfl 34 (.tmp 4) rfl tb 0 rfl X4 _ HG.out.1.rangeAll Tryz.underlying34 rfl (by rw [HF.out.1]; exact info_pk) ?_
                  refine hK.out _ _ trivial (fun _ => ?_)
                  clear hK K
                  try simp only [Act.put, List.setIfInBounds_toArray, List.set_cons_zero, List.set_cons_succ]
                  refine wpAnyH_ready (rs := [2]) (by kernel_rfl) (by simp) ?_
                  refine AllReadyH.cons (o := ⟨_, _, _, _, _, _⟩) rfl (fun K hK => ?_) AllReadyH.nil
                  go_simp
                  refine (err2_any p g S4.2.1 _ Pd.out.rd).mono ?_
                  rintro e wy ⟨rfl, rfl⟩
                  go_wp2_with fail
                  refine hK.out _ _ trivial (fun _ => ?_)
                  clear hK K
                  try simp only [Act.put, List.setIfInBounds_toArray, List.set_cons_zero, List.set_cons_succ]
                  refine wpAnyH_ready (rs := [3]) (by kernel_rfl) (by simp) ?_
                  refine AllReadyH.cons (o := ⟨_, _, _, _, _, _⟩) rfl (fun K hK => ?_) AllReadyH.nil
                  refine step_store_mid rfl 34 (.tmp 2) (.tmp 58) rfl w.heap.size 0 X4.toArray rfl rfl (Pd.out.res.there (by rw [List.size_toArray, List.size_toArray, HA.out.2.2.2.2.2, HF.out.1]; exact Nat.le_refl _)) (by rw [List.size_toArray, HF.out.1]; exact info_pk) (all_oneCell_toArray HG.out.2) ?_
                  refine hK.out _ _ trivial (fun _ => ?_)
                  clear hK K
                  try simp only [Act.put, List.setIfInBounds_toArray, List.set_cons_zero, List.set_cons_succ]
                  refine wpAnyH_ready (rs := [4]) (by kernel_rfl) (by simp) ?_
                  refine AllReadyH.cons (o := ⟨_, _, _, _, _, _⟩) rfl (fun K hK => ?_) AllReadyH.nil
                  go_simp
                  refine hK.out _ _ trivial (fun _ => ?_)
                  clear hK K
                  try simp only [Act.put, List.setIfInBounds_toArray, List.set_cons_zero, List.set_cons_succ]
                  refine wpAnyH_done (by kernel_rfl) ?_ _
                  go_wp2_with fail
                  refine bodyPost_ret (results_row_tmp rfl _ _ w.heap.size 34 _ (0, 0) _ rfl (HF.out.2 _ Pd.out.res) Tryz.underlying34 rfl (by rw [List.size_toArray, HF.out.1]; exact info_pk)) rfl ?_
                  exact HT.out
                · go_simp
                  refine (err2_any p g S4.2.1 _ Pd.out.rd).mono ?_
                  rintro e wy ⟨rfl, rfl⟩
                  go_wp2_with fail
                  refine hK.out _ _ trivial (fun _ => ?_)
                  clear hK K
                  try simp only [Act.put, List.setIfInBounds_toArray, List.set_cons_zero, List.set_cons_succ]
                  refine wpAnyH_ready (rs := [0]) (by kernel_rfl) (by simp) ?_
                  refine AllReadyH.cons (o := ⟨_, _, _, _, _, _⟩) rfl (fun K hK => ?_) AllReadyH.nil
                  refine step_load_mid rfl 34 (.tmp 4) rfl tb 0 rfl X4 _ HG.out.1.rangeAll Tryz.underlying34 rfl (by rw [HF.out.1]; exact info_pk) ?_
                  refine hK.out _ _ trivial (fun _ => ?_)
                  clear hK K
                  try simp only [Act.put, List.setIfInBounds_toArray, List.set_cons_zero, List.set_cons_succ]
                  refine wpAnyH_ready (rs := [3]) (by kernel_rfl) (by simp) ?_
                  refine AllReadyH.cons (o := ⟨_, _, _, _, _, _⟩) rfl (fun K hK => ?_) AllReadyH.nil
                  refine step_store_mid rfl 34 (.tmp 2) (.tmp 58) rfl w.heap.size 0 X4.toArray rfl rfl (Pd.out.res.there (by rw [List.size_toArray, List.size_toArray, HA.out.2.2.2.2.2, HF.out.1]; exact Nat.le_refl _)) (by rw [List.size_toArray, HF.out.1]; exact info_pk) (all_oneCell_toArray HG.out.2) ?_
                  refine hK.out _ _ trivial (fun _ => ?_)
                  clear hK K
                  try simp only [Act.put, List.setIfInBounds_toArray, List.set_cons_zero, List.set_cons_succ]
                  refine wpAnyH_ready (rs := [4]) (by kernel_rfl) (by simp) ?_
                  refine AllReadyH.cons (o := ⟨_, _, _, _, _, _⟩) rfl (fun K hK => ?_) AllReadyH.nil
                  go_simp
                  refine hK.out _ _ trivial (fun _ => ?_)
                  clear hK K
                  try simp only [Act.put, List.setIfInBounds_toArray, List.set_cons_zero, List.set_cons_succ]
                  refine wpAnyH_done (by kernel_rfl) ?_ _
                  go_wp2_with fail
                  refine bodyPost_ret (results_row_tmp rfl _ _ w.heap.size 34 _ (0, 0) _ rfl (HF.out.2 _ Pd.out.res) Tryz.underlying34 rfl (by rw [List.size_toArray, HF.out.1]; exact info_pk)) rfl ?_
                  exact HT.out
  · have hEE := Lib.hid (show hdE b = firstP S4.2.2 S4.2.1.e by rw [HS.out.2.2.2.2.2.2, if_neg (fun h => he h.1)])
    have he' : (r3.e == 0) = false := by simp [he]
    clear he
    go_upto_region 4 with (first
      | (go_at_call 110; refine (err2_any p g r3 _ (h03 ▸ P0.out.rd)).mono ?_; rintro e wy ⟨rfl, rfl⟩))
    clear c0 he' h03
    have c0 := (P0.out.row.cell 0).trans (show _ = some (Value.int .i64 x1) by rw [← P0.out.kd]; rfl)
    obtain ⟨B0, hB⟩ : ∃ B, numK.contains x1 = B := ⟨_, rfl⟩
    have HBk := Lib.hid (show B0 = (bitA ff 1 != 0) by rw [← hB]; exact HB.out.1)
    have HBc := Lib.hid hB
    clear hB
    go_upto_if 25 with (first
      | (go_at_call 53; refine (hasNumR x1 _).mono ?_; rintro e y1 ⟨rfl, k1⟩; rw [HBc.out]; have O := Lib.hid (P0.out.over k1); clear k1))
    go_cut [] (fun wx => hdA w wx p g tb x1 S1 Z)
    case first =>
      clear c0
      cases B0
      · have hb : bitA ff 1 = 0 := by have := HBk.out; simpa using this.symm
        have E := Lib.hid (show f1 ff S0 = S0 by unfold f1; rw [if_pos hb])
        clear hb
        go_wp2_with fail
        go_meet
        exact (by rw [← HS.out.2.1, E.out]; exact O.out)
      · have hb : ¬ bitA ff 1 = 0 := by have := HBk.out; simpa using this.symm
        have E := Lib.hid (show f1 ff S0 = _ by unfold f1; rw [if_neg hb])
        clear hb
        go_wp2_with (first
          | (go_at_call 107; refine (count2_any p g S0.2.1 9007199254740991 _ O.out.rd (by have := O.out.len; omega)).mono ?_; intro e u hq; unfold count2Post at hq; obtain ⟨rfl, hr, hk⟩ := hq; have B := Lib.hid (hdA.read (q := S0.1) (r := S0.2.1) (pt := S0.2.2) O.out hr hk count_left (RS.count_short _ _)); have y : u.cell? ⟨tb, 3, none⟩ = some (.int .i64 S0.1.num) := (B.out.row.cell 3).trans rfl; have y2 := B.out.row.free 3; clear hr hk))
        go_meet
        exact (by rw [← HS.out.2.1, E.out]; exact B.out.set 3 _ (pkL_num _) ⟨rfl, rfl, rfl⟩)
    case rest =>
      generalize wc = v1 at *
      have P1 := Lib.hid hcut
      clear hcut c0 HBk HBc O P0
      have c0 := (P1.out.row.cell 0).trans (show _ = some (Value.int .i64 x1) by rw [← P1.out.kd]; rfl)
      obtain ⟨B1, hB⟩ : ∃ B, seqK.contains x1 = B := ⟨_, rfl⟩
      have HBk := Lib.hid (show B1 = (bitA ff 2 != 0) by rw [← hB]; exact HB.out.2.1)
      have HBc := Lib.hid hB
      clear hB
      go_upto_if 31 with (first
        | (go_at_call 55; refine (hasSeqR x1 _).mono ?_; rintro e y1 ⟨rfl, k1⟩; rw [HBc.out]; have O := Lib.hid (P1.out.over k1); clear k1))
      go_cut [] (fun wx => hdA w wx p g tb x1 S2 Z)
      case first =>
        clear c0
        cases B1
        · have hb : bitA ff 2 = 0 := by have := HBk.out; simpa using this.symm
          have E := Lib.hid (show f2 ff S1 = S1 by unfold f2; rw [if_pos hb])
          clear hb
          go_wp2_with fail
          go_meet
          exact (by rw [← HS.out.2.2.1, E.out]; exact O.out)
        · have hb : ¬ bitA ff 2 = 0 := by have := HBk.out; simpa using this.symm
          have E := Lib.hid (show f2 ff S1 = _ by unfold f2; rw [if_neg hb])
          clear hb
          have hw1 : IntKind.i64.wrap ((S1.2.1.count 9007199254740991).1 - 1) = (S1.2.1.count 9007199254740991).1 - 1 := by
            have h1 := (RS.count_range S1.2.1 9007199254740991).1
            have h2 : (S1.2.1.count 9007199254740991).1 ≤ 9007199254740991 := (RS.count_range S1.2.1 9007199254740991).2
            rw [IntKind.wrap_i64]; omega
          go_wp2_with (first
            | (go_at_call 107; refine (count2_any p g S1.2.1 9007199254740991 _ O.out.rd (by have := O.out.len; omega)).mono ?_; intro e u hq; unfold count2Post at hq; obtain ⟨rfl, hr, hk⟩ := hq; have B := Lib.hid (hdA.read (q := S1.1) (r := S1.2.1) (pt := S1.2.2) O.out hr hk count_left (RS.count_short _ _)); have y : u.cell? ⟨tb, 4, none⟩ = some (.int .i64 S1.1.seq) := (B.out.row.cell 4).trans rfl; have y2 := B.out.row.free 4; clear hr hk))
          go_meet
          exact (by rw [← HS.out.2.2.1, E.out]; exact B.out.set 4 _ (pkL_seq _) ⟨rfl, rfl, rfl⟩)
      case rest =>
        generalize wc = v2 at *
        have P2 := Lib.hid hcut
        clear hcut c0 HBk HBc O P1
        have c0 := (P2.out.row.cell 0).trans (show _ = some (Value.int .i64 x1) by rw [← P2.out.kd]; rfl)
        obtain ⟨B2, hB⟩ : ∃ B, ballotK.contains x1 = B := ⟨_, rfl⟩
        have HBk := Lib.hid (show B2 = (bitA ff 4 != 0) by rw [← hB]; exact HB.out.2.2.1)
        have HBc := Lib.hid hB
        clear hB
        go_upto_if 38 with (first
          | (go_at_call 56; refine (hasBallotR x1 _).mono ?_; rintro e y1 ⟨rfl, k1⟩; rw [HBc.out]; have O := Lib.hid (P2.out.over k1); clear k1))
        go_cut [] (fun wx => hdA w wx p g tb x1 S3 Z)
        case first =>
          clear c0
          cases B2
          · have hb : bitA ff 4 = 0 := by have := HBk.out; simpa using this.symm
            have E := Lib.hid (show f3 ff S2 = S2 by unfold f3; rw [if_pos hb])
            clear hb
            go_wp2_with fail
            go_meet
            exact (by rw [← HS.out.2.2.2.1, E.out]; exact O.out)
          · have hb : ¬ bitA ff 4 = 0 := by have := HBk.out; simpa using this.symm
            have E := Lib.hid (show f3 ff S2 = _ by unfold f3; rw [if_neg hb])
            clear hb
            go_wp2_with (first
              | (go_at_call 107; refine (count2_any p g S2.2.1 9007199254740991 _ O.out.rd (by have := O.out.len; omega)).mono ?_; intro e u hq; unfold count2Post at hq; obtain ⟨rfl, hr, hk⟩ := hq; have B := Lib.hid (hdA.read (q := S2.1) (r := S2.2.1) (pt := S2.2.2) O.out hr hk count_left (RS.count_short _ _)); have y : u.cell? ⟨tb, 5, none⟩ = some (.int .i64 S2.1.ballot) := (B.out.row.cell 5).trans rfl; have y2 := B.out.row.free 5; clear hr hk))
            go_meet
            exact (by rw [← HS.out.2.2.2.1, E.out]; exact B.out.set 5 _ (pkL_bal _) ⟨rfl, rfl, rfl⟩)
        case rest =>
          generalize wc = v3 at *
          have P3 := Lib.hid hcut
          clear hcut c0 HBk HBc O P2
          have c0 := (P3.out.row.cell 0).trans (show _ = some (Value.int .i64 x1) by rw [← P3.out.kd]; rfl)
          by_cases h8 : x1 = 8
          · have h8' : (x1 == 8) = true := by simp [h8]
            have hb : ¬ bitA ff 8 = 0 := by have := HB.out.2.2.2.1; rw [h8'] at this; simpa using this.symm
            have E := Lib.hid (show S4 = ({ S3.1 with ready := decide ((S3.2.1.num 1).1 = 1) }, rdyR S3.2.1, rdyP S3.2.1 S3.2.2) by rw [← HS.out.2.2.2.2.1]; unfold f4; rw [if_neg hb])
            obtain ⟨n, hn⟩ : ∃ n, (S3.2.1.num 1).1 = n := ⟨_, rfl⟩
            obtain ⟨r4, hr4⟩ : ∃ r, (S3.2.1.num 1).2 = r := ⟨_, rfl⟩
            have s4 : (r4.l ≠ [] → S3.2.1.l ≠ []) ∧ r4.l.length ≤ S3.2.1.l.length := by rw [← hr4]; exact ⟨num_left, num_short _ _⟩
            have hme : 1 < n → r4.e = 0 := fun h => by rw [← hr4]; exact num1_more (by rw [hn]; exact h)
            have HNR := Lib.hid (And.intro hn (And.intro hr4 s4))
            have e1 : S4.1 = { S3.1 with ready := (n == 1) } := by rw [E.out, ← hn]; rfl
            have e2 : S4.2.1 = r4 := by rw [E.out, ← hr4]; rfl
            have e3 : S4.2.2 = if 1 < n then 4 else S3.2.2 := by rw [E.out, ← hn]; rfl
            have HEq := Lib.hid (And.intro e1 (And.intro e2 e3))
            clear h8 hb hn hr4 s4 e1 e2 e3 E
            go_upto_region 13 with (first
              | (go_at_call 106; refine (num2_any p g S3.2.1 1 _ P3.out.rd (by have := P3.out.len; omega)).mono ?_; intro e u hq; unfold num2Post at hq; rw [HNR.out.1, HNR.out.2.1] at hq; obtain ⟨rfl, hr, hk⟩ := hq; have B := Lib.hid (hdA.read (q := S3.1) (r := S3.2.1) (pt := S3.2.2) P3.out hr hk HNR.out.2.2.1 HNR.out.2.2.2); have y : u.cell? ⟨tb, 6, none⟩ = some (.bool S3.1.ready) := (B.out.row.cell 6).trans rfl; have y2 := B.out.row.free 6; clear hr hk))
            have P5 := Lib.hid (B.out.set 6 (.bool (n == 1)) (pkL_rdy (n == 1)) ⟨rfl, rfl, rfl⟩)
            obtain ⟨v4, hv4⟩ : ∃ v, u.setCell ⟨tb, 6, none⟩ (.bool (n == 1)) = v := ⟨_, rfl⟩
            rw [hv4] at P5
            try rw [hv4]
            obtain ⟨q5, hq5⟩ : ∃ q, ({ S3.1 with ready := (n == 1) } : PK) = q := ⟨_, rfl⟩
            rw [hq5] at P5 HEq
            clear hv4 y y2 B c0
            by_cases hm : 1 < n
            · have he4 : (r4.e == 0) = true := by simp [hme hm]
              have hE4 : hdE b = 4 := by rw [hEE.out]; unfold firstP; rw [show S4.2.2 = 4 by rw [HEq.out.2.2, if_pos hm]]; rfl
              clear hEE
          
              obtain ⟨X4, hX4⟩ : ∃ X, pkL q5 nilV nilV nilV nilV nilV = X := ⟨_, rfl⟩
              have hxl : X4.length = 87 := by rw [← hX4]; exact pkL_len P5.out.rn P5.out.an
              have hxo : ∀ u ∈ X4, u.oneCell' = true := by rw [← hX4]; exact pkL_one rfl rfl rfl rfl rfl
              have hrow : rowAt v4 tb 34 X4.toArray := by rw [← hX4]; exact P5.out.row
              have rs : ∀ wx, rowAt wx w.heap.size 34 Z.toArray → rowAt (wx.setCells w.heap.size 0 X4) w.heap.size 34 X4.toArray := fun wx hh => by
                have := hh.setL (vs := X4) (o := 0)
                rw [putL_all (by rw [List.size_toArray, HA.out.2.2.2.2.2, hxl])] at this
                exact this
              have HF := Lib.hid (And.intro hxl rs)
              have HG := Lib.hid (And.intro hrow hxo)
              have HT : Hid (∃ q, Ending.returned (.tuple #[.agg X4.toArray, .int .i64 4]) = .returned (.tuple #[.agg (pkL q nilV nilV nilV nilV nilV).toArray, .int .i64 (hdE b)]) ∧ q.req.name.length = 32 ∧ q.ans.name.length = 32 ∧ (hdE b = 0 → q = (hdS b).1 ∧ isR2 (v4.setCells w.heap.size 0 X4) p g (hdS b).2.1) ∧ keepBut [p] w (v4.setCells w.heap.size 0 X4)) := Lib.hid
                ⟨q5, by rw [hX4, hE4], P5.out.rn, P5.out.an, fun h => (by rw [hE4] at h; exact absurd h (by decide)), P5.out.kp.setL (.inr (Nat.le_refl _))⟩
              clear hX4 hxl hxo hrow rs hE4
              go_wp2_with (first
                | (go_at_call 110; refine (err2_any p g r4 _ P5.out.rd).mono ?_; rintro e wy ⟨rfl, rfl⟩)
                | (refine wpList_load_mid rfl 34 (.tmp 4) rfl tb 0 rfl X4 _ HG.out.1.rangeAll Tryz.underlying34 rfl (by rw [HF.out.1]; exact info_pk) ?_)
                | (refine wpList_store_mid rfl 34 (.tmp 2) (.tmp 57) rfl w.heap.size 0 X4.toArray rfl rfl (P5.out.res.there (by rw [List.size_toArray, List.size_toArray, HA.out.2.2.2.2.2, HF.out.1]; exact Nat.le_refl _)) (by rw [List.size_toArray, HF.out.1]; exact info_pk) (all_oneCell_toArray HG.out.2) ?_))
              refine bodyPost_ret (results_row_tmp rfl _ _ w.heap.size 34 _ (0, 0) _ rfl (HF.out.2 _ P5.out.res) Tryz.underlying34 rfl (by rw [List.size_toArray, HF.out.1]; exact info_pk)) rfl ?_
              exact HT.out
            · have P4 : Hid (hdA w v4 p g tb x1 S4 Z) := Lib.hid (by
                have h9 : S4 = (q5, r4, S3.2.2) := by
                  have h10 := HEq.out.2.2
                  rw [if_neg hm] at h10
                  exact Prod.ext HEq.out.1 (Prod.ext HEq.out.2.1 h10)
                rw [h9]; exact P5.out)
              by_cases he : r4.e = 0
              · have he4 : (r4.e == 0) = true := by simp [he]
                clear he
                go_upto_region 15 with (first
                  | (go_at_call 110; refine (err2_any p g r4 _ P5.out.rd).mono ?_; rintro e wy ⟨rfl, rfl⟩))
                have Pd := Lib.hid (P4.out.over ((keepBut.refl [] v4).drew))
                obtain ⟨X4, hX4⟩ : ∃ X, pkL S4.1 nilV nilV nilV nilV nilV = X := ⟨_, rfl⟩
                have hxl : X4.length = 87 := by rw [← hX4]; exact pkL_len Pd.out.rn Pd.out.an
                have hxo : ∀ u ∈ X4, u.oneCell' = true := by rw [← hX4]; exact pkL_one rfl rfl rfl rfl rfl
                have hrow := Pd.out.row
                rw [hX4] at hrow
                have rs : ∀ wx, rowAt wx w.heap.size 34 Z.toArray → rowAt (wx.setCells w.heap.size 0 X4) w.heap.size 34 X4.toArray := fun wx hh => by
                  have := hh.setL (vs := X4) (o := 0)
                  rw [putL_all (by rw [List.size_toArray, HA.out.2.2.2.2.2, hxl])] at this
                  exact this
                have HF := Lib.hid (And.intro hxl rs)
                have HG := Lib.hid (And.intro hrow hxo)
                have HT : Hid (∃ q, Ending.returned (.tuple #[.agg X4.toArray, .int .i64 S4.2.1.e]) = .returned (.tuple #[.agg (pkL q nilV nilV nilV nilV nilV).toArray, .int .i64 (hdE b)]) ∧ q.req.name.length = 32 ∧ q.ans.name.length = 32 ∧ (hdE b = 0 → q = (hdS b).1 ∧ isR2 (v4.drew.setCells w.heap.size 0 X4) p g (hdS b).2.1) ∧ keepBut [p] w (v4.drew.setCells w.heap.size 0 X4)) := Lib.hid (by
                  have ks := (keepBut.refl [w.heap.size] v4.drew).setL (vs := X4) (g := w.heap.size) (o := 0) (by simp)
                  have hlo := Pd.out.lo
                  refine ⟨S4.1, by rw [hX4, hEE.out]; unfold firstP; rw [if_pos Pd.out.pt], Pd.out.rn, Pd.out.an, fun _ => ⟨by rw [HS.out.2.2.2.2.2.1], by rw [HS.out.2.2.2.2.2.1]; exact Pd.out.rd.keep ks (by simp; omega) (fun hne => by have := Pd.out.gl hne; simp; omega)⟩, Pd.out.kp.setL (.inr (Nat.le_refl _))⟩)
                clear hX4 hxl hxo hrow rs
                refine wp_region_held_drew (S := fun _ => True) (by kernel_rfl) trivial (fun _ => ?_)
                refine wpAnyH_ready (rs := [0, 1]) (by kernel_rfl) (by simp) ?_
                refine AllReadyH.cons (o := ⟨_, _, _, _, _, _⟩) rfl (fun K hK => ?_) (AllReadyH.cons (o := ⟨_, _, _, _, _, _⟩) rfl (fun K hK => ?_) AllReadyH.nil)
                · refine step_load_mid rfl 34 (.tmp 4) rfl tb 0 rfl X4 _ HG.out.1.rangeAll Tryz.underlying34 rfl (by rw [HF.out.1]; exact info_pk) ?_
                  refine hK.out _ _ trivial (fun _ => ?_)
                  clear hK K
                  try simp only [Act.put, List.setIfInBounds_toArray, List.set_cons_zero, List.set_cons_succ]
                  refine wpAnyH_ready (rs := [1]) (by kernel_rfl) (by simp) ?_
                  refine AllReadyH.cons (o := ⟨_, _, _, _, _, _⟩) rfl (fun K hK => ?_) AllReadyH.nil
                  go_simp
                  refine hK.out _ _ trivial (fun _ => ?_)
                  clear hK K
                  try simp only [Act.put, List.setIfInBounds_toArray, List.set_cons_zero, List.set_cons_succ]
                  refine wpAnyH_ready (rs := [2]) (by kernel_rfl) (by simp) ?_
                  refine AllReadyH.cons (o := ⟨_, _, _, _, _, _⟩) rfl (fun K hK => ?_) AllReadyH.nil
                  go_simp
                  refine (err2_any p g S4.2.1 _ Pd.out.rd).mono ?_
                  rintro e wy ⟨rfl, rfl⟩
                  go_wp2_with fail
                  refine hK.out _ _ trivial (fun _ => ?_)
                  clear hK K
                  try simp only [Act.put, List.setIfInBounds_toArray, List.set_cons_zero, List.set_cons_succ]
                  refine wpAnyH_ready (rs := [3]) (by kernel_rfl) (by simp) ?_
                  refine AllReadyH.cons (o := ⟨_, _, _, _, _, _⟩) rfl (fun K hK => ?_) AllReadyH.nil
                  refine step_store_mid rfl 34 (.tmp 2) (.tmp 58) rfl w.heap.size 0 X4.toArray rfl rfl (Pd.out.res.there (by rw [List.size_toArray, List.size_toArray, HA.out.2.2.2.2.2, HF.out.1]; exact Nat.le_refl _)) (by rw [List.size_toArray, HF.out.1]; exact info_pk) (all_oneCell_toArray HG.out.2) ?_
                  refine hK.out _ _ trivial (fun _ => ?_)
                  clear hK K
                  try simp only [Act.put, List.setIfInBounds_toArray, List.set_cons_zero, List.set_cons_succ]
                  refine wpAnyH_ready (rs := [4]) (by kernel_rfl) (by simp) ?_
                  refine AllReadyH.cons (o := ⟨_, _, _, _, _, _⟩) rfl (fun K hK => ?_) AllReadyH.nil
                  go_simp
                  refine hK.out _ _ trivial (fun _ => ?_)
                  clear hK K
                  try simp only [Act.put, List.setIfInBounds_toArray, List.set_cons_zero, List.set_cons_succ]
                  refine wpAnyH_done (by kernel_rfl) ?_ _
                  go_wp2_with fail
                  refine bodyPost_ret (results_row_tmp rfl _ _ w.heap.size 34 _ (0, 0) _ rfl (HF.out.2 _ Pd.out.res) Tryz.underlying34 rfl (by rw [List.size_toArray, HF.out.1]; exact info_pk)) rfl ?_
                  exact HT.out
                · go_simp
                  refine hK.out _ _ trivial (fun _ => ?_)
                  clear hK K
                  try simp only [Act.put, List.setIfInBounds_toArray, List.set_cons_zero, List.set_cons_succ]
                  refine wpAnyH_ready (rs := [0, 2]) (by kernel_rfl) (by simp) ?_
                  refine AllReadyH.cons (o := ⟨_, _, _, _, _, _⟩) rfl (fun K hK => ?_) (AllReadyH.cons (o := ⟨_, _, _, _, _, _⟩) rfl (fun K hK => ?_) AllReadyH.nil)
                  · refine step_load_mid rfl 34 (.tmp 4) rfl tb 0 rfl X4 _ HG.out.1.rangeAll Tryz.underlying34 rfl (by rw [HF.out.1]; exact info_pk) ?_
                    refine hK.out _ _ trivial (fun _ => ?_)
                    clear hK K
                    try simp only [Act.put, List.setIfInBounds_toArray, List.set_cons_zero, List.set_cons_succ]
                    refine wpAnyH_ready (rs := [2]) (by kernel_rfl) (by simp) ?_
                    refine AllReadyH.cons (o := ⟨_, _, _, _, _, _⟩) rfl (fun K hK => ?_) AllReadyH.nil
                    go_simp
                    refine (err2_any p g S4.2.1 _ Pd.out.rd).mono ?_
                    rintro e wy ⟨rfl, rfl⟩
                    go_wp2_with fail
                    refine hK.out _ _ trivial (fun _ => ?_)
                    clear hK K
                    try simp only [Act.put, List.setIfInBounds_toArray, List.set_cons_zero, List.set_cons_succ]
                    refine wpAnyH_ready (rs := [3]) (by kernel_rfl) (by simp) ?_
                    refine AllReadyH.cons (o := ⟨_, _, _, _, _, _⟩) rfl (fun K hK => ?_) AllReadyH.nil
                    refine step_store_mid rfl 34 (.tmp 2) (.tmp 58) rfl w.heap.size 0 X4.toArray rfl rfl (Pd.out.res.there (by rw [List.size_toArray, List.size_toArray, HA.out.2.2.2.2.2, HF.out.1]; exact Nat.le_refl _)) (by rw [List.size_toArray, HF.out.1]; exact info_pk) (all_oneCell_toArray HG.out.2) ?_
                    refine hK.out _ _ trivial (fun _ => ?_)
                    clear hK K
                    try simp only [Act.put, List.setIfInBounds_toArray, List.set_cons_zero, List.set_cons_succ]
                    refine wpAnyH_ready (rs := [4]) (by kernel_rfl) (by simp) ?_
                    refine AllReadyH.cons (o := ⟨_, _, _, _, _, _⟩) rfl (fun K hK => ?_) AllReadyH.nil
                    go_simp
                    refine hK.out _ _ trivial (fun _ => ?_)
                    clear hK K
                    try simp only [Act.put, List.setIfInBounds_toArray, List.set_cons_zero, List.set_cons_succ]
                    refine wpAnyH_done (by kernel_rfl) ?_ _
                    go_wp2_with fail
                    refine bodyPost_ret (results_row_tmp rfl _ _ w.heap.size 34 _ (0, 0) _ rfl (HF.out.2 _ Pd.out.res) Tryz.underlying34 rfl (by rw [List.size_toArray, HF.out.1]; exact info_pk)) rfl ?_
                    exact HT.out
                  · go_simp
                    refine (err2_any p g S4.2.1 _ Pd.out.rd).mono ?_
                    rintro e wy ⟨rfl, rfl⟩
                    go_wp2_with fail
                    refine hK.out _ _ trivial (fun _ => ?_)
                    clear hK K
                    try simp only [Act.put, List.setIfInBounds_toArray, List.set_cons_zero, List.set_cons_succ]
                    refine wpAnyH_ready (rs := [0]) (by kernel_rfl) (by simp) ?_
                    refine AllReadyH.cons (o := ⟨_, _, _, _, _, _⟩) rfl (fun K hK => ?_) AllReadyH.nil
                    refine step_load_mid rfl 34 (.tmp 4) rfl tb 0 rfl X4 _ HG.out.1.rangeAll Tryz.underlying34 rfl (by rw [HF.out.1]; exact info_pk) ?_
                    refine hK.out _ _ trivial (fun _ => ?_)
                    clear hK K
                    try simp only [Act.put, List.setIfInBounds_toArray, List.set_cons_zero, List.set_cons_succ]
                    refine wpAnyH_ready (rs := [3]) (by kernel_rfl) (by simp) ?_
                    refine AllReadyH.cons (o := ⟨_, _, _, _, _, _⟩) rfl (fun K hK => ?_) AllReadyH.nil
                    refine step_store_mid rfl 34 (.tmp 2) (.tmp 58) rfl w.heap.size 0 X4.toArray rfl rfl (Pd.out.res.there (by rw [List.size_toArray, List.size_toArray, HA.out.2.2.2.2.2, HF.out.1]; exact Nat.le_refl _)) (by rw [List.size_toArray, HF.out.1]; exact info_pk) (all_oneCell_toArray HG.out.2) ?_
                    refine hK.out _ _ trivial (fun _ => ?_)
                    clear hK K
                    try simp only [Act.put, List.setIfInBounds_toArray, List.set_cons_zero, List.set_cons_succ]
                    refine wpAnyH_ready (rs := [4]) (by kernel_rfl) (by simp) ?_
                    refine AllReadyH.cons (o := ⟨_, _, _, _, _, _⟩) rfl (fun K hK => ?_) AllReadyH.nil
                    go_simp
                    refine hK.out _ _ trivial (fun _ => ?_)
                    clear hK K
                    try simp only [Act.put, List.setIfInBounds_toArray, List.set_cons_zero, List.set_cons_succ]
                    refine wpAnyH_done (by kernel_rfl) ?_ _
                    go_wp2_with fail
                    refine bodyPost_ret (results_row_tmp rfl _ _ w.heap.size 34 _ (0, 0) _ rfl (HF.out.2 _ Pd.out.res) Tryz.underlying34 rfl (by rw [List.size_toArray, HF.out.1]; exact info_pk)) rfl ?_
                    exact HT.out
              · have he4 : (r4.e == 0) = false := by simp [he]
                clear he
                go_upto_region 15 with (first
                  | (go_at_call 110; refine (err2_any p g r4 _ P5.out.rd).mono ?_; rintro e wy ⟨rfl, rfl⟩))
                have Pd := Lib.hid (P4.out.over ((keepBut.refl [] v4).drew))
                obtain ⟨X4, hX4⟩ : ∃ X, pkL S4.1 nilV nilV nilV nilV nilV = X := ⟨_, rfl⟩
                have hxl : X4.length = 87 := by rw [← hX4]; exact pkL_len Pd.out.rn Pd.out.an
                have hxo : ∀ u ∈ X4, u.oneCell' = true := by rw [← hX4]; exact pkL_one rfl rfl rfl rfl rfl
                have hrow := Pd.out.row
                rw [hX4] at hrow
                have rs : ∀ wx, rowAt wx w.heap.size 34 Z.toArray → rowAt (wx.setCells w.heap.size 0 X4) w.heap.size 34 X4.toArray := fun wx hh => by
                  have := hh.setL (vs := X4) (o := 0)
                  rw [putL_all (by rw [List.size_toArray, HA.out.2.2.2.2.2, hxl])] at this
                  exact this
                have HF := Lib.hid (And.intro hxl rs)
                have HG := Lib.hid (And.intro hrow hxo)
                have HT : Hid (∃ q, Ending.returned (.tuple #[.agg X4.toArray, .int .i64 S4.2.1.e]) = .returned (.tuple #[.agg (pkL q nilV nilV nilV nilV nilV).toArray, .int .i64 (hdE b)]) ∧ q.req.name.length = 32 ∧ q.ans.name.length = 32 ∧ (hdE b = 0 → q = (hdS b).1 ∧ isR2 (v4.drew.setCells w.heap.size 0 X4) p g (hdS b).2.1) ∧ keepBut [p] w (v4.drew.setCells w.heap.size 0 X4)) := Lib.hid (by
                  have ks := (keepBut.refl [w.heap.size] v4.drew).setL (vs := X4) (g := w.heap.size) (o := 0) (by simp)
                  have hlo := Pd.out.lo
                  refine ⟨S4.1, by rw [hX4, hEE.out]; unfold firstP; rw [if_pos Pd.out.pt], Pd.out.rn, Pd.out.an, fun _ => ⟨by rw [HS.out.2.2.2.2.2.1], by rw [HS.out.2.2.2.2.2.1]; exact Pd.out.rd.keep ks (by simp; omega) (fun hne => by have := Pd.out.gl hne; simp; omega)⟩, Pd.out.kp.setL (.inr (Nat.le_refl _))⟩)
                clear hX4 hxl hxo hrow rs
                refine wp_region_held_drew (S := fun _ => True) (by kernel_rfl) trivial (fun _ => ?_)
                refine wpAnyH_ready (rs := [0, 1]) (by kernel_rfl) (by simp) ?_
                refine AllReadyH.cons (o := ⟨_, _, _, _, _, _⟩) rfl (fun K hK => ?_) (AllReadyH.cons (o := ⟨_, _, _, _, _, _⟩) rfl (fun K hK => ?_) AllReadyH.nil)
                · refine step_load_mid rfl 34 (.tmp 4) rfl tb 0 rfl X4 _ HG.out.1.rangeAll Tryz.underlying34 rfl (by rw [HF.out.1]; exact info_pk) ?_
                  refine hK.out _ _ trivial (fun _ => ?_)
                  clear hK K
                  try simp only [Act.put, List.setIfInBounds_toArray, List.set_cons_zero, List.set_cons_succ]
                  refine wpAnyH_ready (rs := [1]) (by kernel_rfl) (by simp) ?_
                  refine AllReadyH.cons (o := ⟨_, _, _, _, _, _⟩) rfl (fun K hK => ?_) AllReadyH.nil
                  go_simp
                  refine hK.out _ _ trivial (fun _ => ?_)
                  clear hK K
                  try simp only [Act.put, List.setIfInBounds_toArray, List.set_cons_zero, List.set_cons_succ]
                  refine wpAnyH_ready (rs := [2]) (by kernel_rfl) (by simp) ?_
                  refine AllReadyH.cons (o := ⟨_, _, _, _, _, _⟩) rfl (fun K hK => ?_) AllReadyH.nil
                  go_simp
                  refine (err2_any p g S4.2.1 _ Pd.out.rd).mono ?_
                  rintro e wy ⟨rfl, rfl⟩
                  go_wp2_with fail
                  refine hK.out _ _ trivial (fun _ => ?_)
                  clear hK K
                  try simp only [Act.put, List.setIfInBounds_toArray, List.set_cons_zero, List.set_cons_succ]
                  refine wpAnyH_ready (rs := [3]) (by kernel_rfl) (by simp) ?_
                  refine AllReadyH.cons (o := ⟨_, _, _, _, _, _⟩) rfl (fun K hK => ?_) AllReadyH.nil
                  refine step_store_mid rfl 34 (.tmp 2) (.tmp 58) rfl w.heap.size 0 X4.toArray rfl rfl (Pd.out.res.there (by rw [List.size_toArray, List.size_toArray, HA.out.2.2.2.2.2, HF.out.1]; exact Nat.le_refl _)) (by rw [List.size_toArray, HF.out.1]; exact info_pk) (all_oneCell_toArray HG.out.2) ?_
                  refine hK.out _ _ trivial (fun _ => ?_)
                  clear hK K
                  try simp only [Act.put, List.setIfInBounds_toArray, List.set_cons_zero, List.set_cons_succ]
                  refine wpAnyH_ready (rs := [4]) (by kernel_rfl) (by simp) ?_
                  refine AllReadyH.cons (o := ⟨_, _, _, _, _, _⟩) rfl (fun K hK => ?_) AllReadyH.nil
                  go_simp
                  refine hK.out _ _ trivial (fun _ => ?_)
                  clear hK K
                  try simp only [Act.put, List.setIfInBounds_toArray, List.set_cons_zero, List.set_cons_succ]
                  refine wpAnyH_done (by kernel_rfl) ?_ _
                  go_wp2_with fail
                  refine bodyPost_ret (results_row_tmp rfl _ _ w.heap.size 34 _ (0, 0) _ rfl (HF.out.2 _ Pd.out.res) Tryz.underlying34 rfl (by rw [List.size_toArray, HF.out.1]; exact info_pk)) rfl ?_
                  exact HT.out
                · go_simp
                  refine hK.out _ _ trivial (fun _ => ?_)
                  clear hK K
                  try simp only [Act.put, List.setIfInBounds_toArray, List.set_cons_zero, List.set_cons_succ]
                  refine wpAnyH_ready (rs := [0, 2]) (by kernel_rfl) (by simp) ?_
                  refine AllReadyH.cons (o := ⟨_, _, _, _, _, _⟩) rfl (fun K hK => ?_) (AllReadyH.cons (o := ⟨_, _, _, _, _, _⟩) rfl (fun K hK => ?_) AllReadyH.nil)
                  · refine step_load_mid rfl 34 (.tmp 4) rfl tb 0 rfl X4 _ HG.out.1.rangeAll Tryz.underlying34 rfl (by rw [HF.out.1]; exact info_pk) ?_
                    refine hK.out _ _ trivial (fun _ => ?_)
                    clear hK K
                    try simp only [Act.put, List.setIfInBounds_toArray, List.set_cons_zero, List.set_cons_succ]
                    refine wpAnyH_ready (rs := [2]) (by kernel_rfl) (by simp) ?_
                    refine AllReadyH.cons (o := ⟨_, _, _, _, _, _⟩) rfl (fun K hK => ?_) AllReadyH.nil
                    go_simp
                    refine (err2_any p g S4.2.1 _ Pd.out.rd).mono ?_
                    rintro e wy ⟨rfl, rfl⟩
                    go_wp2_with fail
                    refine hK.out _ _ trivial (fun _ => ?_)
                    clear hK K
                    try simp only [Act.put, List.setIfInBounds_toArray, List.set_cons_zero, List.set_cons_succ]
                    refine wpAnyH_ready (rs := [3]) (by kernel_rfl) (by simp) ?_
                    refine AllReadyH.cons (o := ⟨_, _, _, _, _, _⟩) rfl (fun K hK => ?_) AllReadyH.nil
                    refine step_store_mid rfl 34 (.tmp 2) (.tmp 58) rfl w.heap.size 0 X4.toArray rfl rfl (Pd.out.res.there (by rw [List.size_toArray, List.size_toArray, HA.out.2.2.2.2.2, HF.out.1]; exact Nat.le_refl _)) (by rw [List.size_toArray, HF.out.1]; exact info_pk) (all_oneCell_toArray HG.out.2) ?_
                    refine hK.out _ _ trivial (fun _ => ?_)
                    clear hK K
                    try simp only [Act.put, List.setIfInBounds_toArray, List.set_cons_zero, List.set_cons_succ]
                    refine wpAnyH_ready (rs := [4]) (by kernel_rfl) (by simp) ?_
                    refine AllReadyH.cons (o := ⟨_, _, _, _, _, _⟩) rfl (fun K hK => ?_) AllReadyH.nil
                    go_simp
                    refine hK.out _ _ trivial (fun _ => ?_)
                    clear hK K
                    try simp only [Act.put, List.setIfInBounds_toArray, List.set_cons_zero, List.set_cons_succ]
                    refine wpAnyH_done (by kernel_rfl) ?_ _
                    go_wp2_with fail
                    refine bodyPost_ret (results_row_tmp rfl _ _ w.heap.size 34 _ (0, 0) _ rfl (HF.out.2 _ Pd.out.res) Tryz.underlying34 rfl (by rw [List.size_toArray, HF.out.1]; exact info_pk)) rfl ?_
                    exact HT.out
                  · go_simp
                    refine (err2_any p g S4.2.1 _ Pd.out.rd).mono ?_
                    rintro e wy ⟨rfl, rfl⟩
                    go_wp2_with fail
                    refine hK.out _ _ trivial (fun _ => ?_)
                    clear hK K
                    try simp only [Act.put, List.setIfInBounds_toArray, List.set_cons_zero, List.set_cons_succ]
                    refine wpAnyH_ready (rs := [0]) (by kernel_rfl) (by simp) ?_
                    refine AllReadyH.cons (o := ⟨_, _, _, _, _, _⟩) rfl (fun K hK => ?_) AllReadyH.nil
                    refine step_load_mid rfl 34 (.tmp 4) rfl tb 0 rfl X4 _ HG.out.1.rangeAll Tryz.underlying34 rfl (by rw [HF.out.1]; exact info_pk) ?_
                    refine hK.out _ _ trivial (fun _ => ?_)
                    clear hK K
                    try simp only [Act.put, List.setIfInBounds_toArray, List.set_cons_zero, List.set_cons_succ]
                    refine wpAnyH_ready (rs := [3]) (by kernel_rfl) (by simp) ?_
                    refine AllReadyH.cons (o := ⟨_, _, _, _, _, _⟩) rfl (fun K hK => ?_) AllReadyH.nil
                    refine step_store_mid rfl 34 (.tmp 2) (.tmp 58) rfl w.heap.size 0 X4.toArray rfl rfl (Pd.out.res.there (by rw [List.size_toArray, List.size_toArray, HA.out.2.2.2.2.2, HF.out.1]; exact Nat.le_refl _)) (by rw [List.size_toArray, HF.out.1]; exact info_pk) (all_oneCell_toArray HG.out.2) ?_
                    refine hK.out _ _ trivial (fun _ => ?_)
                    clear hK K
                    try simp only [Act.put, List.setIfInBounds_toArray, List.set_cons_zero, List.set_cons_succ]
                    refine wpAnyH_ready (rs := [4]) (by kernel_rfl) (by simp) ?_
                    refine AllReadyH.cons (o := ⟨_, _, _, _, _, _⟩) rfl (fun K hK => ?_) AllReadyH.nil
                    go_simp
                    refine hK.out _ _ trivial (fun _ => ?_)
                    clear hK K
                    try simp only [Act.put, List.setIfInBounds_toArray, List.set_cons_zero, List.set_cons_succ]
                    refine wpAnyH_done (by kernel_rfl) ?_ _
                    go_wp2_with fail
                    refine bodyPost_ret (results_row_tmp rfl _ _ w.heap.size 34 _ (0, 0) _ rfl (HF.out.2 _ Pd.out.res) Tryz.underlying34 rfl (by rw [List.size_toArray, HF.out.1]; exact info_pk)) rfl ?_
                    exact HT.out
          · have h8' : (x1 == 8) = false := by simp [h8]
            have hb : bitA ff 8 = 0 := by have := HB.out.2.2.2.1; rw [h8'] at this; simpa using this.symm
            have E := Lib.hid (show S4 = S3 by rw [← HS.out.2.2.2.2.1]; unfold f4; rw [if_pos hb])
            have P4 : Hid (hdA w v3 p g tb x1 S4 Z) := Lib.hid (by rw [E.out]; exact P3.out)
            clear h8 hb
            go_upto_region 15 with fail
            have Pd := Lib.hid (P4.out.over ((keepBut.refl [] v3).drew))
            obtain ⟨X4, hX4⟩ : ∃ X, pkL S4.1 nilV nilV nilV nilV nilV = X := ⟨_, rfl⟩
            have hxl : X4.length = 87 := by rw [← hX4]; exact pkL_len Pd.out.rn Pd.out.an
            have hxo : ∀ u ∈ X4, u.oneCell' = true := by rw [← hX4]; exact pkL_one rfl rfl rfl rfl rfl
            have hrow := Pd.out.row
            rw [hX4] at hrow
            have rs : ∀ wx, rowAt wx w.heap.size 34 Z.toArray → rowAt (wx.setCells w.heap.size 0 X4) w.heap.size 34 X4.toArray := fun wx hh => by
              have := hh.setL (vs := X4) (o := 0)
              rw [putL_all (by rw [List.size_toArray, HA.out.2.2.2.2.2, hxl])] at this
              exact this
            have HF := Lib.hid (And.intro hxl rs)
            have HG := Lib.hid (And.intro hrow hxo)
            have HT : Hid (∃ q, Ending.returned (.tuple #[.agg X4.toArray, .int .i64 S4.2.1.e]) = .returned (.tuple #[.agg (pkL q nilV nilV nilV nilV nilV).toArray, .int .i64 (hdE b)]) ∧ q.req.name.length = 32 ∧ q.ans.name.length = 32 ∧ (hdE b = 0 → q = (hdS b).1 ∧ isR2 (v3.drew.setCells w.heap.size 0 X4) p g (hdS b).2.1) ∧ keepBut [p] w (v3.drew.setCells w.heap.size 0 X4)) := Lib.hid (by
              have ks := (keepBut.refl [w.heap.size] v3.drew).setL (vs := X4) (g := w.heap.size) (o := 0) (by simp)
              have hlo := Pd.out.lo
              refine ⟨S4.1, by rw [hX4, hEE.out]; unfold firstP; rw [if_pos Pd.out.pt], Pd.out.rn, Pd.out.an, fun _ => ⟨by rw [HS.out.2.2.2.2.2.1], by rw [HS.out.2.2.2.2.2.1]; exact Pd.out.rd.keep ks (by simp; omega) (fun hne => by have := Pd.out.gl hne; simp; omega)⟩, Pd.out.kp.setL (.inr (Nat.le_refl _))⟩)
            clear hX4 hxl hxo hrow rs
            refine wp_region_held_drew (S := fun _ => True) (by kernel_rfl) trivial (fun _ => ?_)
            refine wpAnyH_ready (rs := [0, 1]) (by kernel_rfl) (by simp) ?_
            refine AllReadyH.cons (o := ⟨_, _, _, _, _, _⟩) rfl (fun K hK => ?_) (AllReadyH.cons (o := ⟨_, _, _, _, _, _⟩) rfl (fun K hK => ?_) AllReadyH.nil)
            · refine step_load_mid rfl 34 (.tmp 4) rfl tb 0 rfl X4 _ HG.out.1.rangeAll Tryz.underlying34 rfl (by rw [HF.out.1]; exact info_pk) ?_
              refine hK.out _ _ trivial (fun _ => ?_)
              clear hK K
              try simp only [Act.put, List.setIfInBounds_toArray, List.set_cons_zero, List.set_cons_succ]
              refine wpAnyH_ready (rs := [1]) (by kernel_rfl) (by simp) ?_
              refine AllReadyH.cons (o := ⟨_, _, _, _, _, _⟩) rfl (fun K hK => ?_) AllReadyH.nil
              go_simp
              refine hK.out _ _ trivial (fun _ => ?_)
              clear hK K
              try simp only [Act.put, List.setIfInBounds_toArray, List.set_cons_zero, List.set_cons_succ]
              refine wpAnyH_ready (rs := [2]) (by kernel_rfl) (by simp) ?_
              refine AllReadyH.cons (o := ⟨_, _, _, _, _, _⟩) rfl (fun K hK => ?_) AllReadyH.nil
              go_simp
              refine (err2_any p g S4.2.1 _ Pd.out.rd).mono ?_
              rintro e wy ⟨rfl, rfl⟩
              go_wp2_with fail
              refine hK.out _ _ trivial (fun _ => ?_)
              clear hK K
              try simp only [Act.put, List.setIfInBounds_toArray, List.set_cons_zero, List.set_cons_succ]
              refine wpAnyH_ready (rs := [3]) (by kernel_rfl) (by simp) ?_
              refine AllReadyH.cons (o := ⟨_, _, _, _, _, _⟩) rfl (fun K hK => ?_) AllReadyH.nil
              refine step_store_mid rfl 34 (.tmp 2) (.tmp 58) rfl w.heap.size 0 X4.toArray rfl rfl (Pd.out.res.there (by rw [List.size_toArray, List.size_toArray, HA.out.2.2.2.2.2, HF.out.1]; exact Nat.le_refl _)) (by rw [List.size_toArray, HF.out.1]; exact info_pk) (all_oneCell_toArray HG.out.2) ?_
              refine hK.out _ _ trivial (fun _ => ?_)
              clear hK K
              try simp only [Act.put, List.setIfInBounds_toArray, List.set_cons_zero, List.set_cons_succ]
              refine wpAnyH_ready (rs := [4]) (by kernel_rfl) (by simp) ?_
              refine AllReadyH.cons (o := ⟨_, _, _, _, _, _⟩) rfl (fun K hK => ?_) AllReadyH.nil
              go_simp
              refine hK.out _ _ trivial (fun _ => ?_)
              clear hK K
              try simp only [Act.put, List.setIfInBounds_toArray, List.set_cons_zero, List.set_cons_succ]
              refine wpAnyH_done (by kernel_rfl) ?_ _
              go_wp2_with fail
              refine bodyPost_ret (results_row_tmp rfl _ _ w.heap.size 34 _ (0, 0) _ rfl (HF.out.2 _ Pd.out.res) Tryz.underlying34 rfl (by rw [List.size_toArray, HF.out.1]; exact info_pk)) rfl ?_
              exact HT.out
            · go_simp
              refine hK.out _ _ trivial (fun _ => ?_)
              clear hK K
              try simp only [Act.put, List.setIfInBounds_toArray, List.set_cons_zero, List.set_cons_succ]
              refine wpAnyH_ready (rs := [0, 2]) (by kernel_rfl) (by simp) ?_
              refine AllReadyH.cons (o := ⟨_, _, _, _, _, _⟩) rfl (fun K hK => ?_) (AllReadyH.cons (o := ⟨_, _, _, _, _, _⟩) rfl (fun K hK => ?_) AllReadyH.nil)
              · refine step_load_mid rfl 34 (.tmp 4) rfl tb 0 rfl X4 _ HG.out.1.rangeAll Tryz.underlying34 rfl (by rw [HF.out.1]; exact info_pk) ?_
                refine hK.out _ _ trivial (fun _ => ?_)
                clear hK K
                try simp only [Act.put, List.setIfInBounds_toArray, List.set_cons_zero, List.set_cons_succ]
                refine wpAnyH_ready (rs := [2]) (by kernel_rfl) (by simp) ?_
                refine AllReadyH.cons (o := ⟨_, _, _, _, _, _⟩) rfl (fun K hK => ?_) AllReadyH.nil
                go_simp
                refine (err2_any p g S4.2.1 _ Pd.out.rd).mono ?_
                rintro e wy ⟨rfl, rfl⟩
                go_wp2_with fail
                refine hK.out _ _ trivial (fun _ => ?_)
                clear hK K
                try simp only [Act.put, List.setIfInBounds_toArray, List.set_cons_zero, List.set_cons_succ]
                refine wpAnyH_ready (rs := [3]) (by kernel_rfl) (by simp) ?_
                refine AllReadyH.cons (o := ⟨_, _, _, _, _, _⟩) rfl (fun K hK => ?_) AllReadyH.nil
                refine step_store_mid rfl 34 (.tmp 2) (.tmp 58) rfl w.heap.size 0 X4.toArray rfl rfl (Pd.out.res.there (by rw [List.size_toArray, List.size_toArray, HA.out.2.2.2.2.2, HF.out.1]; exact Nat.le_refl _)) (by rw [List.size_toArray, HF.out.1]; exact info_pk) (all_oneCell_toArray HG.out.2) ?_
                refine hK.out _ _ trivial (fun _ => ?_)
                clear hK K
                try simp only [Act.put, List.setIfInBounds_toArray, List.set_cons_zero, List.set_cons_succ]
                refine wpAnyH_ready (rs := [4]) (by kernel_rfl) (by simp) ?_
                refine AllReadyH.cons (o := ⟨_, _, _, _, _, _⟩) rfl (fun K hK => ?_) AllReadyH.nil
                go_simp
                refine hK.out _ _ trivial (fun _ => ?_)
                clear hK K
                try simp only [Act.put, List.setIfInBounds_toArray, List.set_cons_zero, List.set_cons_succ]
                refine wpAnyH_done (by kernel_rfl) ?_ _
                go_wp2_with fail
                refine bodyPost_ret (results_row_tmp rfl _ _ w.heap.size 34 _ (0, 0) _ rfl (HF.out.2 _ Pd.out.res) Tryz.underlying34 rfl (by rw [List.size_toArray, HF.out.1]; exact info_pk)) rfl ?_
                exact HT.out
              · go_simp
                refine (err2_any p g S4.2.1 _ Pd.out.rd).mono ?_
                rintro e wy ⟨rfl, rfl⟩
                go_wp2_with fail
                refine hK.out _ _ trivial (fun _ => ?_)
                clear hK K
                try simp only [Act.put, List.setIfInBounds_toArray, List.set_cons_zero, List.set_cons_succ]
                refine wpAnyH_ready (rs := [0]) (by kernel_rfl) (by simp) ?_
                refine AllReadyH.cons (o := ⟨_, _, _, _, _, _⟩) rfl (fun K hK => ?_) AllReadyH.nil
                refine step_load_mid rfl 34 (.tmp 4) rfl tb 0 rfl X4 _ HG.out.1.rangeAll Tryz.underlying34 rfl (by rw [HF.out.1]; exact info_pk) ?_
                refine hK.out _ _ trivial (fun _ => ?_)
                clear hK K
                try simp only [Act.put, List.setIfInBounds_toArray, List.set_cons_zero, List.set_cons_succ]
                refine wpAnyH_ready (rs := [3]) (by kernel_rfl) (by simp) ?_
                refine AllReadyH.cons (o := ⟨_, _, _, _, _, _⟩) rfl (fun K hK => ?_) AllReadyH.nil
                refine step_store_mid rfl 34 (.tmp 2) (.tmp 58) rfl w.heap.size 0 X4.toArray rfl rfl (Pd.out.res.there (by rw [List.size_toArray, List.size_toArray, HA.out.2.2.2.2.2, HF.out.1]; exact Nat.le_refl _)) (by rw [List.size_toArray, HF.out.1]; exact info_pk) (all_oneCell_toArray HG.out.2) ?_
                refine hK.out _ _ trivial (fun _ => ?_)
                clear hK K
                try simp only [Act.put, List.setIfInBounds_toArray, List.set_cons_zero, List.set_cons_succ]
                refine wpAnyH_ready (rs := [4]) (by kernel_rfl) (by simp) ?_
                refine AllReadyH.cons (o := ⟨_, _, _, _, _, _⟩) rfl (fun K hK => ?_) AllReadyH.nil
                go_simp
                refine hK.out _ _ trivial (fun _ => ?_)
                clear hK K
                try simp only [Act.put, List.setIfInBounds_toArray, List.set_cons_zero, List.set_cons_succ]
                refine wpAnyH_done (by kernel_rfl) ?_ _
                go_wp2_with fail
                refine bodyPost_ret (results_row_tmp rfl _ _ w.heap.size 34 _ (0, 0) _ rfl (HF.out.2 _ Pd.out.res) Tryz.underlying34 rfl (by rw [List.size_toArray, HF.out.1]; exact info_pk)) rfl ?_
                exact HT.out
end Go.Proofs.YthfdkonhjpdflaaGreatDoor
