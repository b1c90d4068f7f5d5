/-
  GRB: GR3, GR4, joined.
-/
import Derived.Test.YthfdkonhjpdflaaGreatDoorGR2
import Derived.Test.YthfdkonhjpdflaaGreatDoorRCB
section
namespace Go.Proofs.YthfdkonhjpdflaaGreatDoor
open Go.RowKit
set_option linter.unusedVariables false
set_option maxRecDepth 100000
set_option linter.unusedSimpArgs false

theorem prT2.far {w0 w w' : World} {p g tb : Nat} {r : RS} {T : TypeId} {L Z : List Value} {S : List Nat} (h : prT2 w0 w p g tb r T L Z) (hk : keepBut S w w') (hS : ∀ x ∈ S, tb < x) : prT2 w0 w' p g tb r T L Z :=
  ⟨h.rd.keep hk (fun hm => by have := hS p hm; have := h.hi; omega) (fun hne hm => by have := hS g hm; have := h.gl hne; omega), h.lo, h.hi, h.gl, h.len, hk.row h.row (fun hm => by have := hS tb hm; omega), hk.row h.res (fun hm => by have := hS _ hm; have := h.lo; have := h.hi; omega), h.kp.then hk (fun x hx => .inr (by have := hS x hx; have := h.lo; have := h.hi; omega))⟩
/-- the configuration that is being read -/
def cfAt2 (w0 w : World) (p g tb : Nat) (r : RS) (nm fl : Int) (Z : List Value) (i : Nat) : Prop :=
  ∃ A c, prT2 w0 w p g tb (rdN i r).2 31 (cfL ⟨nm, fl, []⟩ (.slice A i c)) Z ∧ owns w 3 1 (.slice A i c) i ((rdN i r).1.map (Value.int .i64)) ∧ ∀ y ∈ homes (.slice A i c), tb < y
theorem cfAt2.step {w0 w5 w6 : World} {p g tb i c c6 : Nat} {A A6 : Option Addr} {r : RS} {nm fl y : Int} {Z : List Value} (h5 : prT2 w0 w5 p g tb ((rdN i r).2.num 1).2 31 (cfL ⟨nm, fl, []⟩ (.slice A i c)) Z) (hH : ∀ x ∈ homes (.slice A i c), tb < x)
    (k6 : keepBut (homes (.slice A i c)) w5 w6) (ho : owns w6 3 1 (.slice A6 (i + 1) c6) (i + 1) ((rdN i r).1.map (Value.int .i64) ++ [.int .i64 y])) (hy : ((rdN i r).2.num 1).1 = y) (hl : ∀ x ∈ homes (.slice A6 (i + 1) c6), x ∈ homes (.slice A i c) ∨ w5.heap.size ≤ x) :
    cfAt2 w0 (w6.setCell ⟨tb, 2, none⟩ (.slice A6 (i + 1) c6)) p g tb r nm fl Z (i + 1) := by
  have h6 := h5.far k6 hH
  have hgt : ∀ x ∈ homes (.slice A6 (i + 1) c6), tb < x := fun x hx => by
    rcases hl x hx with h | h
    · exact hH x h
    · have := h5.row.lt; omega
  refine ⟨A6, c6, h6.set 2 _ (by simp [cfL]), ?_, hgt⟩
  have e : (rdN (i + 1) r).1.map (Value.int .i64) = (rdN i r).1.map (Value.int .i64) ++ [.int .i64 y] := by rw [rdN, List.map_append, hy]; rfl
  rw [e]
  exact ho.keep (kset w6 tb 2 _) (fun x hx => by have := hgt x hx; simp; omega)
theorem builtConf (x1 x2 : Int) : Tryz.prog.built 31 [(0, .int .i64 x1), (1, .int .i64 x2)] = some (cfL ⟨x1, x2, []⟩ nilV).toArray := by kernel_rfl
theorem builtConf0 : Tryz.prog.built 31 [] = some (cfL cfZero nilV).toArray := by kernel_rfl
set_option maxHeartbeats 16000000 in
theorem parseConf2_any (F : List Nat) (b : List UInt8) (v : Value) (w : World) (h : bytesV w F v b) (hb : b.length ≤ 1000000) :
    Calls Tryz.prog 35 #[v] w fun e w' => ∃ ev G, e = .returned (.tuple #[.agg (cfL (parseCf b).1 ev).toArray, .int .i64 (parseCf b).2]) ∧ intsV w' G ev (parseCf b).1.chain ∧ newIn w w' G ∧ keepBut [] w w' := by
  obtain ⟨Z, hZ⟩ : ∃ Z, cfL cfZero nilV = Z := ⟨_, rfl⟩
  have zv := zv_cf
  have zl : Z.length = 3 := by rw [← hZ]; rfl
  have zo : ∀ u ∈ Z, u.oneCell' = true := by rw [← hZ]; exact cfL_one _ rfl
  have b0 := builtConf0
  rw [hZ] at zv b0
  obtain ⟨r0, hr0⟩ : ∃ r, RS.mk b 0 = r := ⟨_, rfl⟩
  obtain ⟨x1, hx1⟩ : ∃ x, (r0.count 9007199254740991).1 = x := ⟨_, rfl⟩
  obtain ⟨r1, hr1⟩ : ∃ x, (r0.count 9007199254740991).2 = x := ⟨_, rfl⟩
  have S1 : Hid ((r1.l ≠ [] → r0.l ≠ []) ∧ r1.l.length ≤ r0.l.length) := Lib.hid (by rw [← hr1]; exact ⟨count_left, RS.count_short _ _⟩)
  obtain ⟨x2, hx2⟩ : ∃ x, (r1.num 1).1 = x := ⟨_, rfl⟩
  obtain ⟨r2, hr2⟩ : ∃ x, (r1.num 1).2 = x := ⟨_, rfl⟩
  have S2 : Hid ((r2.l ≠ [] → r1.l ≠ []) ∧ r2.l.length ≤ r1.l.length) := Lib.hid (by rw [← hr2]; exact ⟨num_left, num_short _ _⟩)
  obtain ⟨x3, hx3⟩ : ∃ x, (r2.num 1).1 = x := ⟨_, rfl⟩
  obtain ⟨r3, hr3⟩ : ∃ x, (r2.num 1).2 = x := ⟨_, rfl⟩
  have S3 : Hid ((r3.l ≠ [] → r2.l ≠ []) ∧ r3.l.length ≤ r2.l.length) := Lib.hid (by rw [← hr3]; exact ⟨num_left, num_short _ _⟩)
  have hx3r : 0 ≤ x3 ∧ x3 ≤ 255 := by rw [← hx3]; exact num1_range _
  obtain ⟨K, hK⟩ : ∃ K, cfK x3 = K := ⟨_, rfl⟩
  have hK5 : K ≤ 5 := by rw [← hK]; unfold cfK; split <;> omega
  have e1 : cfR1 ⟨b, 0⟩ = r1 := by unfold cfR1; rw [hr0]; exact hr1
  have e2 : cfR2 ⟨b, 0⟩ = r2 := by unfold cfR2; rw [e1]; exact hr2
  have e3 : cfR3 ⟨b, 0⟩ = r3 := by unfold cfR3; rw [e2]; exact hr3
  have en : cfN ⟨b, 0⟩ = K := by unfold cfN; rw [e2, hx3]; exact hK
  have eq : cfRd ⟨b, 0⟩ = ⟨x1, x2, (rdN K r3).1⟩ := by unfold cfRd; rw [e1, e3, en, hr0, hx1, hx2]
  have ee : cfREnd ⟨b, 0⟩ = (rdN K r3).2 := by unfold cfREnd; rw [e3, en]
  have HE := Lib.hid (show parseCf b = (eL (endP (rdN K r3).2.end_ (CF.ok ⟨x1, x2, (rdN K r3).1⟩)) ⟨x1, x2, (rdN K r3).1⟩ cfZero, endP (rdN K r3).2.end_ (CF.ok ⟨x1, x2, (rdN K r3).1⟩)) by unfold parseCf; rw [eq, ee])
  have hrl : r0.l.length ≤ 1000000 := by rw [← hr0]; exact hb
  have X1 := Lib.hid (And.intro hx1 hr1)
  have X2 := Lib.hid (And.intro hx2 hr2)
  have X3 := Lib.hid (And.intro hx3 hr3)
  have hKn : ∀ i : Nat, (i < K → (i : Int) < x3 ∧ (i : Int) < 5) ∧ (i = K → ¬ (i : Int) < x3 ∨ (i : Int) < x3 ∧ ¬ (i : Int) < 5) := by
    intro i
    unfold cfK at hK
    split at hK <;> omega
  have HK := Lib.hid (And.intro hKn hK5)
  have HZ := Lib.hid (And.intro zv (And.intro zl (And.intro zo (And.intro hZ (And.intro b0 (And.intro (all_oneCell_toArray zo) (show (Tryz.prog.info? 31).map (·.size) = some Z.toArray.size by rw [List.size_toArray, zl]; exact info_cf)))))))
  clear e1 e2 e3 en eq ee zv zl zo b0 hx1 hr1 hx2 hr2 hx3 hr3 hK hKn hK5 hx3r
  have kA := (keepBut.refl [] w).alloc (.cells Z.toArray 31)
  have rA := rowAt.new w 31 Z.toArray
  obtain ⟨wA, hwA⟩ : ∃ wA, w.alloc (.cells Z.toArray 31) = wA := ⟨_, rfl⟩
  rw [hwA] at kA rA
  have hA := h.keep kA (by simp)
  obtain ⟨A0, c0, g0, rfl, h2, h3, h4, h5⟩ := hA
  have HA := Lib.hid (And.intro hwA (And.intro kA (And.intro rA (And.intro h4 (And.intro hb (And.intro hr0 (And.intro hrl hZ)))))))
  clear kA rA hwA h2 h3 h4 h5 h hb hr0 hrl hZ
  go_enter Tryz.func35, Tryz.ntmps35
  go_upto_region 2 with (first
    | (with_reducible refine wpList_alloc_to _ _ rfl 31 rfl _ HZ.out.1 HA.out.1 ?_)
    | (go_at_call 98; refine (read2_any A0 g0 c0 b.length b _ rfl HA.out.2.2.2.1 (by have := HA.out.2.2.2.2.1; omega)).mono ?_; rintro e w1 ⟨p, g, rfl, d1, d2, d3, d4⟩; rw [HA.out.2.2.2.2.2.1] at d1; have P0 : Hid (prR2 w w1 p g r0 31 Z) := Lib.hid ⟨d1, by have := HA.out.2.2.1.lt; omega, fun hne => by have := d3 (by rw [show b = r0.l by rw [← HA.out.2.2.2.2.2.1]]; exact hne); have := HA.out.2.2.1.lt; omega, HA.out.2.2.2.2.2.2.1, d4.row HA.out.2.2.1 (by simp), HA.out.2.1.then d4 (by simp)⟩; clear d1 d2 d3 d4))
  go_upto_region 3 with (first
    | (go_at_call 107; with_reducible refine Calls.mono (count2_any p g r0 9007199254740991 _ P0.out.rd (by have := P0.out.len; omega)) ?_; intro e u1 hq; unfold count2Post at hq; rw [X1.out.1, X1.out.2] at hq; obtain ⟨rfl, hr, hk⟩ := hq; have P1 := Lib.hid (P0.out.read hr hk S1.out.1 S1.out.2); clear hr hk)
    | (go_at_call 106; with_reducible refine Calls.mono (num2_any p g r1 1 _ P1.out.rd (by have := P1.out.len; omega)) ?_; intro e u2 hq; unfold num2Post at hq; rw [X2.out.1, X2.out.2] at hq; obtain ⟨rfl, hr, hk⟩ := hq; have P2 := Lib.hid (P1.out.read hr hk S2.out.1 S2.out.2); clear hr hk; obtain ⟨tb, htb⟩ : ∃ b, u2.heap.size = b := ⟨_, rfl⟩; obtain ⟨uB, huB⟩ : ∃ W, u2.alloc (.cells Z.toArray 31) = W := ⟨_, rfl⟩; have PB : Hid (prT2 w uB p g tb r2 31 Z Z) := Lib.hid (by rw [← huB, ← htb]; exact P2.out.box Z); have HB := Lib.hid (And.intro huB htb); clear huB htb; (try dsimp only); rename_i hK; refine hK _ _ ?_; clear hK; refine wpList_build_pt _ rfl 31 _ rfl (cfL ⟨x1, x2, []⟩ nilV).toArray (by simp only [List.map_toArray, List.map_cons, List.map_nil]; go_simp; exact builtConf x1 x2) ?_)
    | (with_reducible refine wpList_alloc_to _ _ rfl 31 rfl _ HZ.out.1 HB.out.1 ?_; rw [HB.out.2])
    | (refine wpList_store_mid rfl 31 (.tmp 5) (.tmp 14) rfl tb 0 (cfL ⟨x1, x2, []⟩ nilV).toArray rfl rfl (PB.out.row.there (by rw [List.size_toArray, List.size_toArray, HZ.out.2.1]; exact Nat.le_refl _)) info_cf (all_oneCell_toArray (cfL_one _ rfl)) ?_))
  have PC : Hid (prT2 w (uB.setCells tb 0 (cfL ⟨x1, x2, []⟩ nilV)) p g tb r2 31 (cfL ⟨x1, x2, []⟩ nilV) Z) := Lib.hid (PB.out.setL 0 (cfL ⟨x1, x2, []⟩ nilV) (putL_all (by rw [List.size_toArray, HZ.out.2.1]; rfl)))
  obtain ⟨uC, huC⟩ : ∃ W, uB.setCells tb 0 (cfL ⟨x1, x2, []⟩ nilV) = W := ⟨_, rfl⟩
  rw [huC] at PC
  rw [huC]
  simp only [Act.put]
  clear huC PB HB P0 P1 P2 S1 S2 X1 X2
  obtain ⟨i0, hi0, hz0, hz1, hz2⟩ := info_parts infoIntd
  have HI := Lib.hid (And.intro hi0 (And.intro hz0 (And.intro hz1 hz2)))
  clear hi0 hz0 hz1 hz2
  go_wp2_with (first
    | (go_at_call 106; refine (num2_any p g r2 1 _ PC.out.rd (by have := PC.out.len; omega)).mono ?_; intro e u3 hq; unfold num2Post at hq; rw [X3.out.1, X3.out.2] at hq; obtain ⟨rfl, hr, hk⟩ := hq; have P3 := Lib.hid (PC.out.read hr hk S3.out.1 S3.out.2); clear hr hk))
  clear PC S3 X3
  go_loopw [7] (fun v7 wx => ∃ i : Nat, i ≤ K ∧ v7 = .int .i64 (i : Int) ∧ cfAt2 w wx p g tb r3 x1 x2 Z i) (fun v7 _ => K - (intOf v7).toNat)
  case atStart => exact ⟨0, by omega, rfl, none, 0, P3.out, owns.nil _ _ _, by simp [homes_none]⟩
  case round =>
    obtain ⟨i, hi, rfl, A, c, hP, hO, hH⟩ := hrel
    by_cases hlt : i < K
    · have ⟨hlt1, hlt2⟩ := (HK.out.1 i).1 hlt
      have hn0 : (0 : Int) ≤ (i : Int) := by omega
      have hw1 : IntKind.i64.wrap ((i : Int) + 1) = (i : Int) + 1 := wraps_i64 _ (by omega) (by omega)
      have c2 : wr.drew.cell? ⟨tb, 2, none⟩ = some (.slice A i c) := (hP.row.cell 2).trans rfl
      have hPd : prT2 w wr.drew p g tb (rdN i r3).2 31 (cfL ⟨x1, x2, []⟩ (.slice A i c)) Z := hP.over ((keepBut.refl [] wr).drew)
      obtain ⟨y, hy⟩ : ∃ y, ((rdN i r3).2.num 1).1 = y := ⟨_, rfl⟩
      have HP := Lib.hid (And.intro hPd (And.intro (hO.keep ((keepBut.refl [] wr).drew) (by simp)) (And.intro hH hy)))
      clear hP hO hH hPd hy
      go_upto_region 7 with fail
      go_region_law (first
        | (go_simp; go_at_call 106; refine (num2_any p g _ 1 _ HP.out.1.rd (by have := HP.out.1.len; omega)).mono ?_; intro e u4 hq; unfold num2Post at hq; rw [HP.out.2.2.2] at hq; obtain ⟨rfl, hr, hk⟩ := hq; have Q := Lib.hid (HP.out.1.read hr hk num_left (num_short _ _)); have O4 := Lib.hid (HP.out.2.1.keep hk (fun x hx => by have := HP.out.2.2.1 x hx; have := Q.out.hi; simp; omega)); have c3 : u4.cell? ⟨tb, 2, none⟩ = some (.slice A i c) := (Q.out.row.cell 2).trans rfl; have c3a : (u4.alloc (.cells #[.int .i64 y] 3)).cell? ⟨tb, 2, none⟩ = some (.slice A i c) := (((keepBut.refl [] u4).alloc (.cells #[.int .i64 y] 3)).cell (p := ⟨tb, 2, none⟩) Q.out.row.lt (by simp)).trans c3; have Q5 := Lib.hid (Q.out.over ((keepBut.refl [] u4).alloc (.cells #[.int .i64 y] 3))); have O5 := Lib.hid (O4.out.keep ((keepBut.refl [] u4).alloc (.cells #[.int .i64 y] 3)) (by simp)); clear hr hk)
        | (refine step_append _ rfl (.tmp 27) (.tmp 30) 29 rfl 3 i0 (.int .i64 0) 1 8 Tryz.underlying29 HI.out.1 HI.out.2.1 HI.out.2.2.1 HI.out.2.2.2 rfl (by decide) (.slice A i c) i ((rdN i r3).1.map (Value.int .i64)) rfl O5.out (some ⟨u4.heap.size, 0, none⟩) u4.heap.size 1 1 [.int .i64 y] rfl (reads_one u4 3 (.int .i64 y)) (by intro u hu; simp at hu; subst hu; rfl) (by omega) (by unfold maxLen; omega) ?_; intro A6 c6 w6 hown6 hkb6 hloc6; have c4 : w6.cell? ⟨tb, 2, none⟩ = some (.slice A i c) := (hkb6.cell (p := ⟨tb, 2, none⟩) Q5.out.row.lt (fun hm => Nat.lt_irrefl _ (HP.out.2.2.1 _ hm))).trans c3a; have f4 := (hkb6.row Q5.out.row (fun hm => Nat.lt_irrefl _ (HP.out.2.2.1 _ hm))).free 2))
      all_goals
        have HT := Lib.hid (cfAt2.step Q5.out HP.out.2.2.1 hkb6 hown6 HP.out.2.2.2 hloc6)
        clear hkb6 hown6 hloc6 c2 c3 c3a c4 f4
        go_wp2_with fail
        go_roundw
        case rel => exact ⟨i + 1, by omega, by go_num, HT.out⟩
        case measure => simp [intOf]; omega
    · obtain rfl : i = K := by omega
      have hend := (HK.out.1 i).2 rfl
      have hiv : intsV wr (homes (.slice A i c)) (.slice A i c) (rdN i r3).1 := by
        obtain ⟨A3, c3, e3, h31, h32, h33, h34⟩ := hO.form
        injection e3 with e3a e3b e3c
        subst e3a e3c
        obtain ⟨g3, hg3⟩ := homes_one (.slice A i c)
        have hl := rdN_len i r3
        refine ⟨A, c, g3, by rw [hl], by rw [hl]; exact h31, h32, by rw [hl]; exact h34 g3 hg3, fun hne => ?_⟩
        obtain ⟨o, hA, _⟩ := (h34 g3 hg3).2 (by have := List.length_pos_iff.2 hne; omega)
        rw [hA]; simp [homes_some]
      have B7 := Lib.hid (And.intro hH (fun y hy => hO.lt y hy))
      have P6 := Lib.hid hP
      clear hP hO hH
      obtain ⟨q, hqq⟩ : ∃ q, CF.mk x1 x2 (rdN i r3).1 = q := ⟨_, rfl⟩
      obtain ⟨L6, hL6⟩ : ∃ l, cfL ⟨x1, x2, []⟩ (.slice A i c) = l := ⟨_, rfl⟩
      have hq : Hid (intsV wr (homes (.slice A i c)) (.slice A i c) q.chain) := Lib.hid (by rw [← hqq]; exact hiv)
      have hLq : cfL q (.slice A i c) = L6 := by rw [← hqq]; exact hL6
      have HCk : Hid (Calls Tryz.prog 83 #[.agg L6.toArray] wr fun e w' => e = .returned (.int .i64 (toldP q.ok)) ∧ keepBut [] wr w') := Lib.hid (by rw [← hLq]; exact checkConfD (homes (.slice A i c)) q _ _ hq.out)
      have HY : Hid (L6.length = 3 ∧ (∀ u ∈ L6, u.oneCell' = true) ∧ (Tryz.prog.info? 31).map (·.size) = some L6.length) := Lib.hid (by rw [← hL6]; exact ⟨rfl, cfL_one _ rfl, info_cf⟩)
      have HLq := Lib.hid hLq
      rw [hL6] at P6
      rw [hqq] at HE
      have HJ : (Tryz.prog.info? 31).map (·.size) = some L6.toArray.size := by rw [List.size_toArray]; exact HY.out.2.2
      have HO := Lib.hid (And.intro HJ (all_oneCell_toArray HY.out.2.1))
      clear HJ hL6 hLq hqq hiv
      obtain ⟨R, hR⟩ : ∃ R, (rdN i r3).2 = R := ⟨_, rfl⟩
      rw [hR] at P6 HE
      have bad : ∀ (c1 : Int) (wx : World), keepBut [] wr wx → c1 ≠ 0 → endP R.end_ q.ok = c1 → ∃ ev G, Ending.returned (.tuple #[.agg Z.toArray, .int .i64 c1]) = .returned (.tuple #[.agg (cfL (parseCf b).1 ev).toArray, .int .i64 (parseCf b).2]) ∧ intsV (wx.setCells w.heap.size 0 Z) G ev (parseCf b).1.chain ∧ newIn w (wx.setCells w.heap.size 0 Z) G ∧ keepBut [] w (wx.setCells w.heap.size 0 Z) := by
        intro c1 wx hk hc he
        rw [HE.out, he]
        unfold eL
        rw [if_neg hc]
        refine ⟨nilV, [], by rw [HA.out.2.2.2.2.2.2.2], intsV.nil _ _, by simp [newIn], (P6.out.kp.then hk (by simp)).setL (.inr (Nat.le_refl _))⟩
      have rsZ : ∀ wx, rowAt wx w.heap.size 31 Z.toArray → rowAt (wx.setCells w.heap.size 0 Z) w.heap.size 31 Z.toArray := fun wx hh => by
        have := hh.setL (vs := Z) (o := 0)
        rw [putL_all (by rw [List.size_toArray])] at this
        exact this
      have rsL : ∀ wx, rowAt wx w.heap.size 31 Z.toArray → rowAt (wx.setCells w.heap.size 0 L6) w.heap.size 31 L6.toArray := fun wx hh => by
        have := hh.setL (vs := L6) (o := 0)
        rw [putL_all (by rw [List.size_toArray, HY.out.1, HZ.out.2.1])] at this
        exact this
      have HR := Lib.hid (And.intro rsZ (And.intro rsL bad))
      clear rsZ rsL bad hR
      have hb0 : ∀ w, (Instr.build 31 #[]).run Tryz.prog w = .ok (.agg Z.toArray) w := fun w => run_build w 31 #[] _ HZ.out.2.2.2.2.1
      by_cases he : R.e = 0
      · have he' : (R.e != 0) = false := by simp [he]
        by_cases hl : R.end_ = 0
        · have hl' : (R.end_ != 0) = false := by simp [hl]
          cases hok : q.ok
          · have HP := Lib.hid (show endP R.end_ q.ok = 4 by rw [hl, hok]; rfl)
            have HK2 := Lib.hid hok
            clear he hl hok
            rcases hend with hc1 | ⟨hc1, hc2⟩
            all_goals
              go_wp2_with (first
                | (go_at_call 110; refine (err2_any p g R _ P6.out.rd).mono ?_; rintro e wy ⟨rfl, rfl⟩)
                | (go_at_call 101; refine (end2_any p g R _ P6.out.rd).mono ?_; rintro e wy ⟨rfl, rfl⟩)
                | (refine wpList_load_mid_g 31 (.tmp 5) rfl tb 0 rfl _ _ P6.out.row.rangeAll Tryz.underlying31 rfl HY.out.2.2 ?_ ?_; · rfl)
                | (go_at_call 83; refine HCk.out.mono ?_; rintro e w9 ⟨rfl, k9⟩; rw [HK2.out]; have P9 := Lib.hid (P6.out.over k9); have K9 := Lib.hid k9; clear k9)
                | (refine wpList_store_mid rfl 31 (.tmp 2) (.tmp 47) rfl w.heap.size 0 Z.toArray rfl (by rw [← HA.out.2.2.2.2.2.2.2]; rfl) (P9.out.res.there (by omega)) HZ.out.2.2.2.2.2.2 HZ.out.2.2.2.2.2.1 ?_))
              refine bodyPost_ret (results_row_tmp rfl _ _ w.heap.size 31 _ (0, 0) _ rfl (HR.out.1 _ P9.out.res) Tryz.underlying31 rfl HZ.out.2.2.2.2.2.2) rfl ?_
              exact HR.out.2.2 _ _ K9.out (by decide) HP.out
          · have HP := Lib.hid (show endP R.end_ q.ok = 0 by rw [hl, hok]; rfl)
            have HK2 := Lib.hid hok
            clear he hl hok
            rcases hend with hc1 | ⟨hc1, hc2⟩
            all_goals
              go_wp2_with (first
                | (go_at_call 110; refine (err2_any p g R _ P6.out.rd).mono ?_; rintro e wy ⟨rfl, rfl⟩)
                | (go_at_call 101; refine (end2_any p g R _ P6.out.rd).mono ?_; rintro e wy ⟨rfl, rfl⟩)
                | (refine wpList_load_mid_g 31 (.tmp 5) rfl tb 0 rfl _ _ P6.out.row.rangeAll Tryz.underlying31 rfl HY.out.2.2 ?_ ?_; · rfl)
                | (go_at_call 83; refine HCk.out.mono ?_; rintro e w9 ⟨rfl, k9⟩; rw [HK2.out]; have P9 := Lib.hid (P6.out.over k9); have K9 := Lib.hid k9; clear k9)
                | (refine wpList_load_mid rfl 31 (.tmp 5) rfl tb 0 rfl _ _ P9.out.row.rangeAll Tryz.underlying31 rfl HY.out.2.2 ?_)
                | (refine wpList_store_mid rfl 31 (.tmp 2) (.tmp 48) rfl w.heap.size 0 L6.toArray rfl rfl (P9.out.res.there (by rw [List.size_toArray, List.size_toArray, HY.out.1, HZ.out.2.1]; exact Nat.le_refl _)) HO.out.1 HO.out.2 ?_))
              refine bodyPost_ret (results_row_tmp rfl _ _ w.heap.size 31 _ (0, 0) _ rfl (HR.out.2.1 _ P9.out.res) Tryz.underlying31 rfl HO.out.1) rfl ?_
              have ks := (keepBut.refl [w.heap.size] w9).setL (vs := L6) (g := w.heap.size) (o := 0) (by simp)
              have hlo := P9.out.lo
              have hhi := P9.out.hi
              rw [HE.out, HP.out]
              refine ⟨.slice A i c, homes (.slice A i c), by rw [← HLq.out]; rfl, (hq.out.keep K9.out (by simp)).keep ks (fun y hy => by have := B7.out.1 y hy; simp; omega), fun y hy => ⟨by have := B7.out.1 y hy; omega, ?_⟩, P9.out.kp.setL (.inr (Nat.le_refl _))⟩
              have h1 := B7.out.2 y hy; have h2 := K9.out.size; have h3 := ks.size; omega
        · have HP := Lib.hid (show endP R.end_ q.ok = 4 by unfold endP; rw [if_neg hl]; unfold RS.end_ at hl ⊢; rw [if_pos he] at hl ⊢; split at hl <;> simp_all)
          have hl' : (R.end_ != 0) = true := by simp [hl]
          clear he hl
          rcases hend with hc1 | ⟨hc1, hc2⟩
          all_goals
            go_wp2_with (first
              | (go_at_call 110; refine (err2_any p g R _ P6.out.rd).mono ?_; rintro e wy ⟨rfl, rfl⟩)
              | (go_at_call 101; refine (end2_any p g R _ P6.out.rd).mono ?_; rintro e wy ⟨rfl, rfl⟩)
              | (refine wpList_store_mid rfl 31 (.tmp 2) (.tmp 47) rfl w.heap.size 0 Z.toArray rfl (by rw [← HA.out.2.2.2.2.2.2.2]; rfl) (P6.out.res.there (by omega)) HZ.out.2.2.2.2.2.2 HZ.out.2.2.2.2.2.1 ?_))
            refine bodyPost_ret (results_row_tmp rfl _ _ w.heap.size 31 _ (0, 0) _ rfl (HR.out.1 _ P6.out.res) Tryz.underlying31 rfl HZ.out.2.2.2.2.2.2) rfl ?_
            exact HR.out.2.2 _ _ (keepBut.refl _ _) (by decide) HP.out
      · have HP := Lib.hid (show endP R.end_ q.ok = R.e by unfold endP RS.end_; rw [if_neg he, if_neg he])
        have HC := Lib.hid he
        have he' : (R.e != 0) = true := by simp [he]
        clear he
        rcases hend with hc1 | ⟨hc1, hc2⟩
        all_goals
          go_wp2_with (first
            | (go_at_call 110; refine (err2_any p g R _ P6.out.rd).mono ?_; rintro e wy ⟨rfl, rfl⟩)
            | (refine wpList_store_mid rfl 31 (.tmp 2) (.tmp 36) rfl w.heap.size 0 Z.toArray rfl (by rw [← HA.out.2.2.2.2.2.2.2]; rfl) (P6.out.res.there (by omega)) HZ.out.2.2.2.2.2.2 HZ.out.2.2.2.2.2.1 ?_))
          refine bodyPost_ret (results_row_tmp rfl _ _ w.heap.size 31 _ (0, 0) _ rfl (HR.out.1 _ P6.out.res) Tryz.underlying31 rfl HZ.out.2.2.2.2.2.2) rfl ?_
          exact HR.out.2.2 _ _ (keepBut.refl _ _) HC.out HP.out
end Go.Proofs.YthfdkonhjpdflaaGreatDoor
end

section
namespace Go.Proofs.YthfdkonhjpdflaaGreatDoor
open Go.RowKit
set_option linter.unusedVariables false
set_option maxRecDepth 100000
set_option linter.unusedSimpArgs false

theorem builtVote (x1 : Int) : Tryz.prog.built 69 [(0, .int .i64 x1)] = some (vtL ⟨x1, cfZero⟩ nilV).toArray := by kernel_rfl
theorem zv_vote : (Tryz.prog.info? 69).bind (·.zero) = some (.agg (vtL ⟨0, cfZero⟩ nilV).toArray) := by kernel_rfl
theorem info_vote : (Tryz.prog.info? 69).map (·.size) = some 4 := by kernel_rfl
theorem vtL_one2 (v : VT) {cv : Value} (h : cv.oneCell' = true) : ∀ u ∈ vtL v cv, u.oneCell' = true := by
  intro u hu
  simp only [vtL, cfL, List.mem_cons, List.not_mem_nil, or_false] at hu
  rcases hu with rfl | rfl | rfl | rfl <;> first | rfl | exact h
/-- what the law's vote is: its value, and the errors' first -/
def vtD (r : RS) : VT × RS × Int :=
  (⟨(r.count 9007199254740991).1, (rpCf (r.count 9007199254740991).2 0).1⟩, (rpCf (r.count 9007199254740991).2 0).2.1, firstP (rpCf (r.count 9007199254740991).2 0).2.2 (rpCf (r.count 9007199254740991).2 0).2.1.e)
theorem vtD_bad {r r1 r2 : RS} {x1 : Int} {t : List UInt8} (h1 : r.count 9007199254740991 = (x1, r1)) (h2 : r1.text 2048 = (t, r2)) (he : r2.e ≠ 0) : vtD r = (⟨x1, cfZero⟩, r2, r2.e) := by
  unfold vtD rpCf firstP
  rw [h1]
  dsimp only
  rw [h2]
  simp [he]
theorem vtD_good {r r1 r2 : RS} {x1 : Int} {t : List UInt8} (h1 : r.count 9007199254740991 = (x1, r1)) (h2 : r1.text 2048 = (t, r2)) (he : r2.e = 0) : vtD r = (⟨x1, (parseCf t).1⟩, r2, (parseCf t).2) := by
  unfold vtD rpCf firstP
  rw [h1]
  dsimp only
  rw [h2]
  simp only [he, if_true]
  split <;> simp_all
/-- a vote that is being read: the reader is the caller's; tb is the vote -/
structure vtS (w0 w : World) (p g tb : Nat) (r : RS) (X Z : List Value) : Prop where
  rd : isR2 w p g r
  lo : p < w0.heap.size
  gl : r.l ≠ [] → g < w0.heap.size
  hi : w0.heap.size < tb
  row : rowAt w tb 69 X.toArray
  res : rowAt w w0.heap.size 69 Z.toArray
  kp : keepBut [p] w0 w
theorem vtS.read {w0 w w' : World} {p g tb : Nat} {r r' : RS} {X Z : List Value} (h : vtS w0 w p g tb r X Z) (hr : isR2 w' p g r') (hk : keepBut [p] w w') (hl : r'.l ≠ [] → r.l ≠ []) : vtS w0 w' p g tb r' X Z :=
  ⟨hr, h.lo, fun hne => h.gl (hl hne), h.hi, hk.row h.row (by have := h.hi; have := h.lo; simp; omega), hk.row h.res (by have := h.lo; simp; omega), h.kp.then hk (fun x hx => .inl hx)⟩
theorem vtS.over {w0 w w' : World} {p g tb : Nat} {r : RS} {X Z : List Value} (h : vtS w0 w p g tb r X Z) (hk : keepBut [] w w') : vtS w0 w' p g tb r X Z :=
  ⟨h.rd.keep hk (by simp) (by simp), h.lo, h.gl, h.hi, hk.row h.row (by simp), hk.row h.res (by simp), h.kp.then hk (by simp)⟩
theorem vtS.put {w0 w w' : World} {p g tb : Nat} {r : RS} {X X' Z : List Value} (h : vtS w0 w p g tb r X Z) (hk : keepBut [tb] w w') (hrow : rowAt w' tb 69 X'.toArray) : vtS w0 w' p g tb r X' Z :=
  ⟨h.rd.keep hk (by have := h.hi; have := h.lo; simp; omega) (fun hne => by have := h.gl hne; have := h.hi; simp; omega), h.lo, h.gl, h.hi, hrow, hk.row h.res (by have := h.hi; simp; omega), h.kp.then hk (fun x hx => .inr (by simp at hx; have := h.hi; omega))⟩
theorem vtS.far {w0 w w' : World} {p g tb tc : Nat} {r : RS} {X Z : List Value} (h : vtS w0 w p g tb r X Z) (hk : keepBut [tc] w w') (hc : tb < tc) : vtS w0 w' p g tb r X Z :=
  ⟨h.rd.keep hk (by have := h.hi; have := h.lo; simp; omega) (fun hne => by have := h.gl hne; have := h.hi; simp; omega), h.lo, h.gl, h.hi, hk.row h.row (by simp; omega), hk.row h.res (by have := h.hi; simp; omega), h.kp.then hk (fun x hx => .inr (by simp at hx; have := h.hi; omega))⟩
theorem vtS.setL {w0 w : World} {p g tb : Nat} {r : RS} {X X' Z : List Value} (h : vtS w0 w p g tb r X Z) (k : Nat) (us : List Value) (he : putL X.toArray k us = X'.toArray) : vtS w0 (w.setCells tb k us) p g tb r X' Z :=
  h.put ((keepBut.refl [tb] w).setL (.inl (by simp))) (by rw [← he]; exact h.row.setL)
set_option maxHeartbeats 8000000 in
theorem vote2_any (p g : Nat) (r : RS) (w : World) (hr : isR2 w p g r) (hb : r.l.length ≤ 1000000) :
    Calls Tryz.prog 148 #[.pointer (some ⟨p, 0, none⟩)] w fun e w' => ∃ cv G, e = .returned (.tuple #[.agg (vtL (vtD r).1 cv).toArray, .int .i64 (vtD r).2.2]) ∧ intsV w' G cv (vtD r).1.conf.chain ∧ newIn w w' G ∧ isR2 w' p g (vtD r).2.1 ∧ keepBut [p] w w' := by
  obtain ⟨x1, r1, h1⟩ : ∃ x r1, r.count 9007199254740991 = (x, r1) := ⟨_, _, rfl⟩
  obtain ⟨t, r2, h2⟩ : ∃ t r2, r1.text 2048 = (t, r2) := ⟨_, _, rfl⟩
  have s1 : (r1.l ≠ [] → r.l ≠ []) ∧ r1.l.length ≤ r.l.length := by rw [show r1 = (r.count 9007199254740991).2 by rw [h1]]; exact ⟨count_left, RS.count_short _ _⟩
  have s2 : (r2.l ≠ [] → r1.l ≠ []) ∧ r2.l.length ≤ r1.l.length ∧ t.length ≤ r1.l.length := by rw [show r2 = (r1.text 2048).2 by rw [h2], show t = (r1.text 2048).1 by rw [h2]]; exact ⟨text_left, text_short _ _, text_len _ _⟩
  have hD := @vtD_bad r r1 r2 x1 t h1 h2
  have hD2 := @vtD_good r r1 r2 x1 t h1 h2
  have HD := Lib.hid (And.intro hD hD2)
  obtain ⟨Z, hZ⟩ : ∃ Z, vtL ⟨0, cfZero⟩ nilV = Z := ⟨_, rfl⟩
  have zv := zv_vote
  have zl : Z.length = 4 := by rw [← hZ]; rfl
  rw [hZ] at zv
  have hpl := hr.lt
  have hgl : r.l ≠ [] → g < w.heap.size := fun hne => hr.gl hne
  have kA := (keepBut.refl [] w).alloc (.cells Z.toArray 69)
  have rA := rowAt.new w 69 Z.toArray
  obtain ⟨wA, hwA⟩ : ∃ wA, w.alloc (.cells Z.toArray 69) = wA := ⟨_, rfl⟩
  rw [hwA] at kA rA
  have HA := Lib.hid (And.intro hwA (And.intro kA (And.intro rA (And.intro (hr.keep kA (by simp) (by simp)) (And.intro zv (And.intro zl hb))))))
  have HX := Lib.hid (And.intro h1 (And.intro h2 (And.intro s1 (And.intro s2 hgl))))
  clear kA rA hwA hr zv zl hZ h1 h2 s1 s2 hD hD2 hgl hb
  go_enter Tryz.func148, Tryz.ntmps148
  go_upto_region 2 with (first
    | (with_reducible refine wpList_alloc_to _ _ rfl 69 rfl _ HA.out.2.2.2.2.1 HA.out.1 ?_)
    | (go_at_call 107; refine (count2_any p g r 9007199254740991 _ HA.out.2.2.2.1 (by have := HA.out.2.2.2.2.2.2; omega)).mono ?_; intro e u1 hq; unfold count2Post at hq; rw [HX.out.1] at hq; obtain ⟨rfl, hr1, hk1⟩ := hq; obtain ⟨tb, htb⟩ : ∃ b, u1.heap.size = b := ⟨_, rfl⟩; obtain ⟨uB, huB⟩ : ∃ W, u1.alloc (.cells Z.toArray 69) = W := ⟨_, rfl⟩; have HB := Lib.hid (And.intro huB (And.intro htb (And.intro hr1 hk1))); clear huB htb hr1 hk1; (try dsimp only); rename_i hK; refine hK _ _ ?_; clear hK; refine wpList_build_pt _ rfl 69 _ rfl (vtL ⟨x1, cfZero⟩ nilV).toArray (by simp only [List.map_toArray, List.map_cons, List.map_nil]; go_simp; exact builtVote x1) ?_)
    | (with_reducible refine wpList_alloc_to _ _ rfl 69 rfl _ HA.out.2.2.2.2.1 HB.out.1 ?_; rw [HB.out.2.1])
    | (refine wpList_store_mid rfl 69 (.tmp 4) (.tmp 10) rfl tb 0 (vtL ⟨x1, cfZero⟩ nilV).toArray rfl rfl ((show rowAt uB tb 69 Z.toArray from HB.out.2.1 ▸ HB.out.1 ▸ rowAt.new _ _ _).there (by rw [List.size_toArray, List.size_toArray, HA.out.2.2.2.2.2.1]; exact Nat.le_refl _)) info_vote (all_oneCell_toArray (vtL_one2 _ rfl)) ?_))
  have PC : Hid (vtS w (uB.setCells tb 0 (vtL ⟨x1, cfZero⟩ nilV)) p g tb r1 (vtL ⟨x1, cfZero⟩ nilV) Z) := Lib.hid (by
    have kB : keepBut [] u1 uB := HB.out.1 ▸ (keepBut.refl [] u1).alloc _
    have rB : rowAt uB tb 69 Z.toArray := HB.out.2.1 ▸ HB.out.1 ▸ rowAt.new _ _ _
    have h1 := HA.out.2.2.1.lt
    have h2 := HB.out.2.2.2.size
    have h3 := HB.out.2.1
    have hb0 : vtS w uB p g tb r1 Z Z := ⟨HB.out.2.2.1.keep kB (by simp) (by simp), hpl, fun hne => HX.out.2.2.2.2 (HX.out.2.2.1.1 hne), by omega, rB, kB.row (HB.out.2.2.2.row HA.out.2.2.1 (by simp; omega)) (by simp), (HA.out.2.1.more (by simp)).then (HB.out.2.2.2.then kB (by simp)) (fun x hx => .inl hx)⟩
    exact hb0.setL 0 _ (putL_all (by rw [List.size_toArray, HA.out.2.2.2.2.2.1]; rfl)))
  obtain ⟨uC, huC⟩ : ∃ W, uB.setCells tb 0 (vtL ⟨x1, cfZero⟩ nilV) = W := ⟨_, rfl⟩
  rw [huC] at PC
  rw [huC]
  simp only [Act.put]
  clear huC HB
  go_upto_region 3 with (first
    | (go_at_call 109; refine (text2_any p g r1 2048 _ PC.out.rd (by have := HX.out.2.2.1.2; have := HA.out.2.2.2.2.2.2; omega)).mono ?_; intro e u2 hq; unfold text2Post at hq; rw [HX.out.2.1] at hq; obtain ⟨ue, rfl, hfr, hr, hk⟩ := hq; obtain ⟨A6, c6, G6, rfl, hb6, hn6⟩ := hfr.gives; have P2 := Lib.hid (PC.out.read hr hk HX.out.2.2.2.1.1); have B6 := Lib.hid (And.intro hb6 (And.intro hn6 (show t.length ≤ 1000000 by have := HX.out.2.2.2.1.2.2; have := HX.out.2.2.1.2; have := HA.out.2.2.2.2.2.2; omega))); clear hr hk hfr hb6 hn6))
  clear PC
  by_cases he : r2.e = 0
  · have hv := HD.out.2 he
    have HV := Lib.hid hv
    have he' : (r2.e != 0) = false := by simp [he]
    clear he hv
    go_upto_region 6 with (first
      | (go_at_call 110; refine (err2_any p g r2 _ P2.out.rd).mono ?_; rintro e wy ⟨rfl, rfl⟩)
      | (go_at_call 35; refine (parseConf2_any G6 t _ _ B6.out.1 B6.out.2.2).mono ?_; rintro e u3 ⟨cv, G, rfl, i3, n3, k3⟩; obtain ⟨C, hC⟩ : ∃ C, cfL (parseCf t).1 cv = C := ⟨_, rfl⟩; rw [hC]; obtain ⟨tc, htc⟩ : ∃ b, u3.heap.size = b := ⟨_, rfl⟩; obtain ⟨u4, hu4⟩ : ∃ W, u3.alloc (.cells (cfL cfZero nilV).toArray 31) = W := ⟨_, rfl⟩; have k4 : keepBut [] u3 u4 := hu4 ▸ (keepBut.refl [] u3).alloc _; have r4 : rowAt u4 tc 31 (cfL cfZero nilV).toArray := htc ▸ hu4 ▸ rowAt.new _ _ _; have HU := Lib.hid (And.intro hu4 htc); have HC := Lib.hid (show C.length = 3 ∧ (∀ u ∈ C, u.oneCell' = true) by rw [← hC]; obtain ⟨A9, c9, g9, rfl, _⟩ := id i3; exact ⟨rfl, cfL_one _ rfl⟩); have H3 := Lib.hid (And.intro i3 (And.intro n3 (And.intro k3 (And.intro k4 (And.intro r4 hC))))); clear i3 n3 k3 hC htc hu4 k4 r4)
      | (with_reducible refine wpList_alloc_to _ _ rfl 31 rfl _ zv_cf HU.out.1 ?_; rw [HU.out.2])
      | (refine wpList_store_mid rfl 31 (.tmp 6) (.tmp 22) rfl tc 0 C.toArray rfl rfl (H3.out.2.2.2.2.1.there (by rw [List.size_toArray, HC.out.1]; exact Nat.le_refl _)) (by rw [List.size_toArray, HC.out.1]; exact info_cf) (all_oneCell_toArray HC.out.2) ?_))
    have P4 := (P2.out.over H3.out.2.2.1).over H3.out.2.2.2.1
    have htb : tb < tc := by have := (P2.out.over H3.out.2.2.1).row.lt; have := HU.out.2; omega
    have k5 : keepBut [tc] u4 (u4.setCells tc 0 C) := (keepBut.refl [tc] u4).setL (.inl (by simp))
    have P5 := P4.far k5 htb
    have r5 : rowAt (u4.setCells tc 0 C) tc 31 C.toArray := by
      have := H3.out.2.2.2.2.1.setL (vs := C) (o := 0)
      rw [putL_all (by rw [List.size_toArray, HC.out.1]; rfl)] at this
      exact this
    have ep : putL (vtL ⟨x1, cfZero⟩ nilV).toArray 1 C = (vtL ⟨x1, (parseCf t).1⟩ cv).toArray := by rw [← H3.out.2.2.2.2.2]; rfl
    have HT2 := Lib.hid (P5.row.there (o := 1) (n := C.toArray.size) (by rw [List.size_toArray, List.size_toArray, HC.out.1]; exact Nat.le_refl _))
    have P6 := P5.setL 1 C ep
    obtain ⟨X6, hX6⟩ : ∃ X, vtL ⟨x1, (parseCf t).1⟩ cv = X := ⟨_, rfl⟩
    have hcv : cv.oneCell' = true := by obtain ⟨A9, c9, g9, rfl, _⟩ := id H3.out.1; rfl
    have hxl : X6.length = 4 ∧ (∀ u ∈ X6, u.oneCell' = true) := by rw [← hX6]; exact ⟨rfl, vtL_one2 _ hcv⟩
    rw [hX6] at P6
    have rs : ∀ wx, rowAt wx w.heap.size 69 Z.toArray → rowAt (wx.setCells w.heap.size 0 X6) w.heap.size 69 X6.toArray := fun wx hh => by
      have := hh.setL (vs := X6) (o := 0)
      rw [putL_all (by rw [List.size_toArray, HA.out.2.2.2.2.2.1, hxl.1])] at this
      exact this
    have k6 : keepBut [tb] (u4.setCells tc 0 C) ((u4.setCells tc 0 C).setCells tb 1 C) := (keepBut.refl [tb] _).setL (.inl (by simp))
    have k7 : keepBut [w.heap.size] ((u4.setCells tc 0 C).setCells tb 1 C) (((u4.setCells tc 0 C).setCells tb 1 C).setCells w.heap.size 0 X6) := (keepBut.refl [w.heap.size] _).setL (.inl (by simp))
    have HT : Hid (∃ cv G, Ending.returned (.tuple #[.agg X6.toArray, .int .i64 (parseCf t).2]) = .returned (.tuple #[.agg (vtL (vtD r).1 cv).toArray, .int .i64 (vtD r).2.2]) ∧ intsV (((u4.setCells tc 0 C).setCells tb 1 C).setCells w.heap.size 0 X6) G cv (vtD r).1.conf.chain ∧ newIn w (((u4.setCells tc 0 C).setCells tb 1 C).setCells w.heap.size 0 X6) G ∧ isR2 (((u4.setCells tc 0 C).setCells tb 1 C).setCells w.heap.size 0 X6) p g (vtD r).2.1 ∧ keepBut [p] w (((u4.setCells tc 0 C).setCells tb 1 C).setCells w.heap.size 0 X6)) := Lib.hid (by
      have hG : ∀ y ∈ G, w.heap.size < y ∧ tb < y ∧ y < tc := fun y hy => by
        have h1 := H3.out.2.1 y hy
        have h2 := P2.out.row.lt
        have h3 := P2.out.hi
        have h4 := HU.out.2
        omega
      rw [HV.out]
      refine ⟨cv, G, by rw [← hX6], (((H3.out.1.keep H3.out.2.2.2.1 (by simp)).keep k5 (fun y hy => by have := hG y hy; simp; omega)).keep k6 (fun y hy => by have := hG y hy; simp; omega)).keep k7 (fun y hy => by have := hG y hy; simp; omega), fun y hy => ⟨by have := hG y hy; omega, ?_⟩, P6.rd.keep k7 (by simp; omega) (fun hne => by have := P6.gl hne; simp; omega), P6.kp.setL (.inr (Nat.le_refl _))⟩
      have h1 := hG y hy; have h2 := HU.out.2; have h3 := H3.out.2.2.2.1.size; have h4 := k5.size; have h5 := k6.size; have h6 := k7.size
      omega)
    have HP := Lib.hid (And.intro P6 (And.intro r5 (And.intro hxl rs)))
    clear P4 k5 P5 r5 ep P6 hX6 hcv hxl rs k6 k7 htb
    go_wp2_with (first
      | (refine wpList_load_mid rfl 31 (.tmp 6) rfl tc 0 rfl _ _ HP.out.2.1.rangeAll Tryz.underlying31 rfl (by rw [HC.out.1]; exact info_cf) ?_)
      | (refine wpList_store_mid rfl 31 (.tmp 25) (.tmp 24) rfl tb 1 C.toArray rfl rfl (HT2.out) (by rw [List.size_toArray, HC.out.1]; exact info_cf) (all_oneCell_toArray HC.out.2) ?_)
      | (refine wpList_load_mid rfl 69 (.tmp 4) rfl tb 0 rfl _ _ HP.out.1.row.rangeAll Tryz.underlying69 rfl (by rw [HP.out.2.2.1.1]; exact info_vote) ?_)
      | (refine wpList_store_mid rfl 69 (.tmp 2) (.tmp 26) rfl w.heap.size 0 X6.toArray rfl rfl (HP.out.1.res.there (by rw [List.size_toArray, List.size_toArray, HP.out.2.2.1.1, HA.out.2.2.2.2.2.1]; exact Nat.le_refl _)) (by rw [List.size_toArray, HP.out.2.2.1.1]; exact info_vote) (all_oneCell_toArray HP.out.2.2.1.2) ?_))
    refine bodyPost_ret (results_row_tmp rfl _ _ w.heap.size 69 _ (0, 0) _ rfl (HP.out.2.2.2 _ HP.out.1.res) Tryz.underlying69 rfl (by rw [List.size_toArray, HP.out.2.2.1.1]; exact info_vote)) rfl ?_
    exact HT.out
  · have hv := HD.out.1 he
    have HV := Lib.hid hv
    have he' : (r2.e != 0) = true := by simp [he]
    clear he hv
    have rs : ∀ wx, rowAt wx w.heap.size 69 Z.toArray → rowAt (wx.setCells w.heap.size 0 (vtL ⟨x1, cfZero⟩ nilV)) w.heap.size 69 (vtL ⟨x1, cfZero⟩ nilV).toArray := fun wx hh => by
      have := hh.setL (vs := vtL ⟨x1, cfZero⟩ nilV) (o := 0)
      rw [putL_all (by rw [List.size_toArray, HA.out.2.2.2.2.2.1]; rfl)] at this
      exact this
    have HS := Lib.hid rs
    clear rs
    have Pd := Lib.hid (P2.out.over ((keepBut.refl [] u2).drew))
    go_upto_region 4 with (first
      | (go_at_call 110; refine (err2_any p g r2 _ P2.out.rd).mono ?_; rintro e wy ⟨rfl, rfl⟩))
    have hres := HS.out _ Pd.out.res
    have HT : Hid (∃ cv G, Ending.returned (.tuple #[.agg (vtL ⟨x1, cfZero⟩ nilV).toArray, .int .i64 r2.e]) = .returned (.tuple #[.agg (vtL (vtD r).1 cv).toArray, .int .i64 (vtD r).2.2]) ∧ intsV (u2.drew.setCells w.heap.size 0 (vtL ⟨x1, cfZero⟩ nilV)) G cv (vtD r).1.conf.chain ∧ newIn w (u2.drew.setCells w.heap.size 0 (vtL ⟨x1, cfZero⟩ nilV)) G ∧ isR2 (u2.drew.setCells w.heap.size 0 (vtL ⟨x1, cfZero⟩ nilV)) p g (vtD r).2.1 ∧ keepBut [p] w (u2.drew.setCells w.heap.size 0 (vtL ⟨x1, cfZero⟩ nilV))) := Lib.hid (by
      have ks := (keepBut.refl [w.heap.size] u2.drew).setL (vs := vtL ⟨x1, cfZero⟩ nilV) (g := w.heap.size) (o := 0) (by simp)
      rw [HV.out]
      exact ⟨nilV, [], rfl, intsV.nil _ _, by simp [newIn], Pd.out.rd.keep ks (by simp; omega) (fun hne => by have := Pd.out.gl hne; simp; omega), Pd.out.kp.setL (.inr (Nat.le_refl _))⟩)
    clear hres
    refine wp_region_held_drew (S := fun _ => True) (by kernel_rfl) trivial (fun _ => ?_)
    refine wpAnyH_ready (rs := [0, 1]) (by kernel_rfl) (by simp) ?_
    refine AllReadyH.cons (o := ⟨_, _, _, _, _, _⟩) rfl (fun K hK => ?_) (AllReadyH.cons (o := ⟨_, _, _, _, _, _⟩) rfl (fun K hK => ?_) AllReadyH.nil)
    · refine step_load_mid rfl 69 (.tmp 4) rfl tb 0 rfl (vtL ⟨x1, cfZero⟩ nilV) _ Pd.out.row.rangeAll Tryz.underlying69 rfl info_vote ?_
      refine hK.out _ _ trivial (fun _ => ?_)
      clear hK K
      try simp only [Act.put, List.setIfInBounds_toArray, List.set_cons_zero, List.set_cons_succ]
      refine wpAnyH_ready (rs := [1]) (by kernel_rfl) (by simp) ?_
      refine AllReadyH.cons (o := ⟨_, _, _, _, _, _⟩) rfl (fun K hK => ?_) AllReadyH.nil
      go_simp
      refine hK.out _ _ trivial (fun _ => ?_)
      clear hK K
      try simp only [Act.put, List.setIfInBounds_toArray, List.set_cons_zero, List.set_cons_succ]
      refine wpAnyH_ready (rs := [2]) (by kernel_rfl) (by simp) ?_
      refine AllReadyH.cons (o := ⟨_, _, _, _, _, _⟩) rfl (fun K hK => ?_) AllReadyH.nil
      go_simp
      refine (err2_any p g r2 _ Pd.out.rd).mono ?_
      rintro e wy ⟨rfl, rfl⟩
      go_wp2_with fail
      refine hK.out _ _ trivial (fun _ => ?_)
      clear hK K
      try simp only [Act.put, List.setIfInBounds_toArray, List.set_cons_zero, List.set_cons_succ]
      refine wpAnyH_ready (rs := [3]) (by kernel_rfl) (by simp) ?_
      refine AllReadyH.cons (o := ⟨_, _, _, _, _, _⟩) rfl (fun K hK => ?_) AllReadyH.nil
      refine step_store_mid rfl 69 (.tmp 2) (.tmp 16) rfl w.heap.size 0 (vtL ⟨x1, cfZero⟩ nilV).toArray rfl rfl (Pd.out.res.there (by rw [List.size_toArray, List.size_toArray, HA.out.2.2.2.2.2.1]; exact Nat.le_refl _)) info_vote (all_oneCell_toArray (vtL_one2 _ rfl)) ?_
      refine hK.out _ _ trivial (fun _ => ?_)
      clear hK K
      try simp only [Act.put, List.setIfInBounds_toArray, List.set_cons_zero, List.set_cons_succ]
      refine wpAnyH_ready (rs := [4]) (by kernel_rfl) (by simp) ?_
      refine AllReadyH.cons (o := ⟨_, _, _, _, _, _⟩) rfl (fun K hK => ?_) AllReadyH.nil
      go_simp
      refine hK.out _ _ trivial (fun _ => ?_)
      clear hK K
      try simp only [Act.put, List.setIfInBounds_toArray, List.set_cons_zero, List.set_cons_succ]
      refine wpAnyH_done (by kernel_rfl) ?_ _
      go_wp2_with fail
      refine bodyPost_ret (results_row_tmp rfl _ _ w.heap.size 69 _ (0, 0) _ rfl (HS.out _ Pd.out.res) Tryz.underlying69 rfl info_vote) rfl ?_
      exact HT.out
    · go_simp
      refine hK.out _ _ trivial (fun _ => ?_)
      clear hK K
      try simp only [Act.put, List.setIfInBounds_toArray, List.set_cons_zero, List.set_cons_succ]
      refine wpAnyH_ready (rs := [0, 2]) (by kernel_rfl) (by simp) ?_
      refine AllReadyH.cons (o := ⟨_, _, _, _, _, _⟩) rfl (fun K hK => ?_) (AllReadyH.cons (o := ⟨_, _, _, _, _, _⟩) rfl (fun K hK => ?_) AllReadyH.nil)
      · refine step_load_mid rfl 69 (.tmp 4) rfl tb 0 rfl (vtL ⟨x1, cfZero⟩ nilV) _ Pd.out.row.rangeAll Tryz.underlying69 rfl info_vote ?_
        refine hK.out _ _ trivial (fun _ => ?_)
        clear hK K
        try simp only [Act.put, List.setIfInBounds_toArray, List.set_cons_zero, List.set_cons_succ]
        refine wpAnyH_ready (rs := [2]) (by kernel_rfl) (by simp) ?_
        refine AllReadyH.cons (o := ⟨_, _, _, _, _, _⟩) rfl (fun K hK => ?_) AllReadyH.nil
        go_simp
        refine (err2_any p g r2 _ Pd.out.rd).mono ?_
        rintro e wy ⟨rfl, rfl⟩
        go_wp2_with fail
        refine hK.out _ _ trivial (fun _ => ?_)
        clear hK K
        try simp only [Act.put, List.setIfInBounds_toArray, List.set_cons_zero, List.set_cons_succ]
        refine wpAnyH_ready (rs := [3]) (by kernel_rfl) (by simp) ?_
        refine AllReadyH.cons (o := ⟨_, _, _, _, _, _⟩) rfl (fun K hK => ?_) AllReadyH.nil
        refine step_store_mid rfl 69 (.tmp 2) (.tmp 16) rfl w.heap.size 0 (vtL ⟨x1, cfZero⟩ nilV).toArray rfl rfl (Pd.out.res.there (by rw [List.size_toArray, List.size_toArray, HA.out.2.2.2.2.2.1]; exact Nat.le_refl _)) info_vote (all_oneCell_toArray (vtL_one2 _ rfl)) ?_
        refine hK.out _ _ trivial (fun _ => ?_)
        clear hK K
        try simp only [Act.put, List.setIfInBounds_toArray, List.set_cons_zero, List.set_cons_succ]
        refine wpAnyH_ready (rs := [4]) (by kernel_rfl) (by simp) ?_
        refine AllReadyH.cons (o := ⟨_, _, _, _, _, _⟩) rfl (fun K hK => ?_) AllReadyH.nil
        go_simp
        refine hK.out _ _ trivial (fun _ => ?_)
        clear hK K
        try simp only [Act.put, List.setIfInBounds_toArray, List.set_cons_zero, List.set_cons_succ]
        refine wpAnyH_done (by kernel_rfl) ?_ _
        go_wp2_with fail
        refine bodyPost_ret (results_row_tmp rfl _ _ w.heap.size 69 _ (0, 0) _ rfl (HS.out _ Pd.out.res) Tryz.underlying69 rfl info_vote) rfl ?_
        exact HT.out
      · go_simp
        refine (err2_any p g r2 _ Pd.out.rd).mono ?_
        rintro e wy ⟨rfl, rfl⟩
        go_wp2_with fail
        refine hK.out _ _ trivial (fun _ => ?_)
        clear hK K
        try simp only [Act.put, List.setIfInBounds_toArray, List.set_cons_zero, List.set_cons_succ]
        refine wpAnyH_ready (rs := [0]) (by kernel_rfl) (by simp) ?_
        refine AllReadyH.cons (o := ⟨_, _, _, _, _, _⟩) rfl (fun K hK => ?_) AllReadyH.nil
        refine step_load_mid rfl 69 (.tmp 4) rfl tb 0 rfl (vtL ⟨x1, cfZero⟩ nilV) _ Pd.out.row.rangeAll Tryz.underlying69 rfl info_vote ?_
        refine hK.out _ _ trivial (fun _ => ?_)
        clear hK K
        try simp only [Act.put, List.setIfInBounds_toArray, List.set_cons_zero, List.set_cons_succ]
        refine wpAnyH_ready (rs := [3]) (by kernel_rfl) (by simp) ?_
        refine AllReadyH.cons (o := ⟨_, _, _, _, _, _⟩) rfl (fun K hK => ?_) AllReadyH.nil
        refine step_store_mid rfl 69 (.tmp 2) (.tmp 16) rfl w.heap.size 0 (vtL ⟨x1, cfZero⟩ nilV).toArray rfl rfl (Pd.out.res.there (by rw [List.size_toArray, List.size_toArray, HA.out.2.2.2.2.2.1]; exact Nat.le_refl _)) info_vote (all_oneCell_toArray (vtL_one2 _ rfl)) ?_
        refine hK.out _ _ trivial (fun _ => ?_)
        clear hK K
        try simp only [Act.put, List.setIfInBounds_toArray, List.set_cons_zero, List.set_cons_succ]
        refine wpAnyH_ready (rs := [4]) (by kernel_rfl) (by simp) ?_
        refine AllReadyH.cons (o := ⟨_, _, _, _, _, _⟩) rfl (fun K hK => ?_) AllReadyH.nil
        go_simp
        refine hK.out _ _ trivial (fun _ => ?_)
        clear hK K
        try simp only [Act.put, List.setIfInBounds_toArray, List.set_cons_zero, List.set_cons_succ]
        refine wpAnyH_done (by kernel_rfl) ?_ _
        go_wp2_with fail
        refine bodyPost_ret (results_row_tmp rfl _ _ w.heap.size 69 _ (0, 0) _ rfl (HS.out _ Pd.out.res) Tryz.underlying69 rfl info_vote) rfl ?_
        exact HT.out
end Go.Proofs.YthfdkonhjpdflaaGreatDoor
end
