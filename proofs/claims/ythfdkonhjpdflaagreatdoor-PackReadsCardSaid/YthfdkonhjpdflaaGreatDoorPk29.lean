/-
  PACK, 29: configurations out of bytes.
-/
import Derived.Test.YthfdkonhjpdflaaGreatDoorPk28
namespace Go.Proofs.YthfdkonhjpdflaaGreatDoor
open Go.RowKit
set_option linter.unusedVariables false
set_option maxRecDepth 100000
set_option linter.unusedSimpArgs false

theorem be_take1 (l : List UInt8) : be (l.take 1) ≤ 255 := by
  have h := be_lt (l.take 1)
  have h1 : (l.take 1).length ≤ 1 := by rw [List.length_take]; omega
  have h2 : 256 ^ (l.take 1).length ≤ 256 ^ 1 := Nat.pow_le_pow_right (by omega) h1
  omega
theorem num1_range (r : RS) : 0 ≤ (r.num 1).1 ∧ (r.num 1).1 ≤ 255 := by
  unfold RS.num
  split
  · split
    · split
      · simp
      · refine ⟨by simp, ?_⟩
        show ((be (r.take 1) : Nat) : Int) ≤ 255
        have h : be (r.take 1) ≤ 255 := by
          unfold RS.take
          split
          · exact be_take1 _
          · exact Nat.zero_le _
        omega
    · simp
  · simp
/-- k numbers of one byte each -/
def rdN : Nat → RS → List Int × RS
  | 0, r => ([], r)
  | k + 1, r => ((rdN k r).1 ++ [((rdN k r).2.num 1).1], ((rdN k r).2.num 1).2)
theorem rdN_len : ∀ (k : Nat) (r : RS), (rdN k r).1.length = k
  | 0, r => rfl
  | k + 1, r => by simp [rdN, rdN_len k r]
def cfK (n : Int) : Nat := (if n < 5 then n else 5).toNat
def cfR1 (r : RS) : RS := (r.count 9007199254740991).2
def cfR2 (r : RS) : RS := ((cfR1 r).num 1).2
def cfR3 (r : RS) : RS := ((cfR2 r).num 1).2
def cfN (r : RS) : Nat := cfK ((cfR2 r).num 1).1
def cfRd (r : RS) : CF := ⟨(r.count 9007199254740991).1, ((cfR1 r).num 1).1, (rdN (cfN r) (cfR3 r)).1⟩
def cfREnd (r : RS) : RS := (rdN (cfN r) (cfR3 r)).2
def parseCf (b : List UInt8) : CF × Int := (eL (endP (cfREnd ⟨b, 0⟩).end_ (cfRd ⟨b, 0⟩).ok) (cfRd ⟨b, 0⟩) cfZero, endP (cfREnd ⟨b, 0⟩).end_ (cfRd ⟨b, 0⟩).ok)
theorem cfL_eL (E : Int) (q : CF) (ev : Value) : eL E (cfL q ev) (cfL cfZero nilV) = cfL (eL E q cfZero) (eL E ev nilV) := by unfold eL; split <;> rfl
theorem eL_cfV {E : Int} {w : World} {G : List Nat} {q : CF} {ev : Value} (h : intsV w G ev q.chain) : intsV w G (eL E ev nilV) (eL E q cfZero).chain := by
  unfold eL
  split
  · exact h
  · exact intsV.nil w G
theorem infoIntd : (Tryz.prog.info? 3).map (fun i => (i.zero, i.size, i.bytes)) = some (some (.int .i64 0), 1, 8) := by kernel_rfl
/-- the configuration that is being read -/
def cfAt (w0 w : World) (p g tb : Nat) (r : RS) (nm fl : Int) (Z : List Value) (i : Nat) : Prop :=
  ∃ A c, prT w0 w p g tb (rdN i r).2 31 (cfL ⟨nm, fl, []⟩ (.slice A i c)) Z ∧ owns w 3 1 (.slice A i c) i ((rdN i r).1.map (Value.int .i64)) ∧ ∀ y ∈ homes (.slice A i c), tb < y
theorem prT.far {w0 w w' : World} {p g tb : Nat} {r : RS} {T : TypeId} {L Z : List Value} {S : List Nat} (h : prT w0 w p g tb r T L Z) (hk : keepBut S w w') (hS : ∀ x ∈ S, tb < x) : prT w0 w' p g tb r T L Z :=
  ⟨h.rd.keep hk (fun hm => by have := hS p hm; have := h.hi; omega) (fun hne hm => by have := hS g hm; have := h.gl hne; omega), h.lo, h.hi, h.gl, h.len, hk.row h.row (fun hm => by have := hS tb hm; omega), hk.row h.res (fun hm => by have := hS _ hm; have := h.lo; have := h.hi; omega), h.kp.then hk (fun x hx => .inr (by have := hS x hx; have := h.lo; have := h.hi; omega))⟩
theorem cfAt.step {w0 w5 w6 : World} {p g tb i c c6 : Nat} {A A6 : Option Addr} {r : RS} {nm fl y : Int} {Z : List Value} (h5 : prT w0 w5 p g tb ((rdN i r).2.num 1).2 31 (cfL ⟨nm, fl, []⟩ (.slice A i c)) Z) (hH : ∀ x ∈ homes (.slice A i c), tb < x)
    (k6 : keepBut (homes (.slice A i c)) w5 w6) (ho : owns w6 3 1 (.slice A6 (i + 1) c6) (i + 1) ((rdN i r).1.map (Value.int .i64) ++ [.int .i64 y])) (hy : ((rdN i r).2.num 1).1 = y) (hl : ∀ x ∈ homes (.slice A6 (i + 1) c6), x ∈ homes (.slice A i c) ∨ w5.heap.size ≤ x) :
    cfAt w0 (w6.setCell ⟨tb, 2, none⟩ (.slice A6 (i + 1) c6)) p g tb r nm fl Z (i + 1) := by
  have h6 := h5.far k6 hH
  have hgt : ∀ x ∈ homes (.slice A6 (i + 1) c6), tb < x := fun x hx => by
    rcases hl x hx with h | h
    · exact hH x h
    · have := h5.row.lt; omega
  refine ⟨A6, c6, h6.set 2 _ (by simp [cfL]), ?_, hgt⟩
  have e : (rdN (i + 1) r).1.map (Value.int .i64) = (rdN i r).1.map (Value.int .i64) ++ [.int .i64 y] := by rw [rdN, List.map_append, hy]; rfl
  rw [e]
  exact ho.keep (kset w6 tb 2 _) (fun x hx => by have := hgt x hx; simp; omega)
set_option maxHeartbeats 16000000 in
theorem parseCf_any (F : List Nat) (b : List UInt8) (v : Value) (w : World) (h : bytesV w F v b) (hb : b.length ≤ 1000000) :
    Calls Tryz.prog 34 #[v] w fun e w' => ∃ ev G, e = .returned (.tuple #[.agg (cfL (parseCf b).1 ev).toArray, .int .i64 (parseCf b).2]) ∧ intsV w' G ev (parseCf b).1.chain ∧ newIn w w' G ∧ keepBut [] w w' := by
  obtain ⟨Z, hZ⟩ : ∃ Z, cfL cfZero nilV = Z := ⟨_, rfl⟩
  have hZ0 : Z = cfL ⟨0, 0, []⟩ nilV := by rw [← hZ]; rfl
  have zv := zv_cf
  have zl : Z.length = 3 := by rw [← hZ]; rfl
  have zo : ∀ u ∈ Z, u.oneCell' = true := by rw [← hZ]; exact cfL_one _ rfl
  rw [hZ] at zv
  obtain ⟨r0, hr0⟩ : ∃ r, RS.mk b 0 = r := ⟨_, rfl⟩
  obtain ⟨x1, hx1⟩ : ∃ x, (r0.count 9007199254740991).1 = x := ⟨_, rfl⟩
  obtain ⟨r1, hr1⟩ : ∃ x, (r0.count 9007199254740991).2 = x := ⟨_, rfl⟩
  have S1 : Hid ((r1.l ≠ [] → r0.l ≠ []) ∧ r1.l.length ≤ r0.l.length) := Lib.hid (by rw [← hr1]; exact ⟨count_left, RS.count_short _ _⟩)
  obtain ⟨x2, hx2⟩ : ∃ x, (r1.num 1).1 = x := ⟨_, rfl⟩
  obtain ⟨r2, hr2⟩ : ∃ x, (r1.num 1).2 = x := ⟨_, rfl⟩
  have S2 : Hid ((r2.l ≠ [] → r1.l ≠ []) ∧ r2.l.length ≤ r1.l.length) := Lib.hid (by rw [← hr2]; exact ⟨num_left, num_short _ _⟩)
  obtain ⟨x3, hx3⟩ : ∃ x, (r2.num 1).1 = x := ⟨_, rfl⟩
  obtain ⟨r3, hr3⟩ : ∃ x, (r2.num 1).2 = x := ⟨_, rfl⟩
  have S3 : Hid ((r3.l ≠ [] → r2.l ≠ []) ∧ r3.l.length ≤ r2.l.length) := Lib.hid (by rw [← hr3]; exact ⟨num_left, num_short _ _⟩)
  have hx3r : 0 ≤ x3 ∧ x3 ≤ 255 := by rw [← hx3]; exact num1_range _
  obtain ⟨K, hK⟩ : ∃ K, cfK x3 = K := ⟨_, rfl⟩
  have hK5 : K ≤ 5 := by rw [← hK]; unfold cfK; split <;> omega
  have e1 : cfR1 ⟨b, 0⟩ = r1 := by unfold cfR1; rw [hr0]; exact hr1
  have e2 : cfR2 ⟨b, 0⟩ = r2 := by unfold cfR2; rw [e1]; exact hr2
  have e3 : cfR3 ⟨b, 0⟩ = r3 := by unfold cfR3; rw [e2]; exact hr3
  have en : cfN ⟨b, 0⟩ = K := by unfold cfN; rw [e2, hx3]; exact hK
  have eq : cfRd ⟨b, 0⟩ = ⟨x1, x2, (rdN K r3).1⟩ := by unfold cfRd; rw [e1, e3, en, hr0, hx1, hx2]
  have ee : cfREnd ⟨b, 0⟩ = (rdN K r3).2 := by unfold cfREnd; rw [e3, en]
  have HE := Lib.hid (show parseCf b = (eL (endP (rdN K r3).2.end_ (CF.ok ⟨x1, x2, (rdN K r3).1⟩)) ⟨x1, x2, (rdN K r3).1⟩ cfZero, endP (rdN K r3).2.end_ (CF.ok ⟨x1, x2, (rdN K r3).1⟩)) by unfold parseCf; rw [eq, ee])
  have hrl : r0.l.length ≤ 1000000 := by rw [← hr0]; exact hb
  have HX := Lib.hid (And.intro hr0 (And.intro hrl (And.intro (And.intro hx1 hr1) (And.intro (And.intro hx2 hr2) (And.intro (And.intro hx3 hr3) hK)))))
  have HV := Lib.hid (And.intro h hb)
  have HZ := Lib.hid (And.intro zv (And.intro zl (And.intro zo (And.intro hZ hZ0))))
  clear e1 e2 e3 en eq ee h hb zv zl zo hZ hZ0 hrl hr0 hx1 hr1 hx2 hr2 hx3 hr3 hK
  have kA := (keepBut.refl [] w).alloc (.cells Z.toArray 31)
  have rA := rowAt.new w 31 Z.toArray
  obtain ⟨wA, hwA⟩ : ∃ wA, w.alloc (.cells Z.toArray 31) = wA := ⟨_, rfl⟩
  rw [hwA] at kA rA
  have HA := Lib.hid (And.intro hwA (And.intro kA (And.intro rA (HV.out.1.keep kA (by simp)))))
  clear kA rA hwA
  go_enter Tryz.func34, Tryz.ntmps34
  go_upto_region 2 with (first
    | (with_reducible refine wpList_alloc_to _ _ rfl 31 rfl _ HZ.out.1 HA.out.1 ?_)
    | (go_at_call 93; refine (numRead_any F b v _ HA.out.2.2.2 HV.out.2).mono ?_; rintro e w1 ⟨p, g, rfl, d1, d2, d3, d4⟩; rw [HX.out.1] at d1; have D1 := Lib.hid (And.intro d1 (And.intro d2 (And.intro d3 d4))); clear d1 d2 d3 d4))
  have P0 : Hid (prT w (w1.alloc (.cells Z.toArray 31)) p g w1.heap.size r0 31 (cfL ⟨0, 0, []⟩ nilV) Z) := Lib.hid (by
    have kB := (keepBut.refl [] w1).alloc (.cells Z.toArray 31)
    have h1 := HA.out.2.2.1.lt
    have h2 := D1.out.1.lt
    have h3 := D1.out.2.1
    have h4 := HA.out.2.1.size
    refine ⟨D1.out.1.keep kB (by simp) (by simp), by omega, h2, fun hne => ⟨?_, D1.out.1.gl hne⟩, HX.out.2.1, ?_, kB.row (D1.out.2.2.2.row HA.out.2.2.1 (by simp)) (by simp), (HA.out.2.1.then D1.out.2.2.2 (by simp)).then kB (by simp)⟩
    · have := D1.out.2.2.1 (by rw [show b = r0.l by rw [← HX.out.1]]; exact hne); omega
    · rw [← HZ.out.2.2.2.2]; exact rowAt.new _ _ _)
  go_upto_region 3 with (first
    | (with_reducible refine wpList_alloc_to _ _ rfl 31 rfl _ HZ.out.1 rfl ?_))
  obtain ⟨tb, htb⟩ : ∃ tb, w1.heap.size = tb := ⟨_, rfl⟩
  obtain ⟨v0, hv0⟩ : ∃ v0, w1.alloc (.cells Z.toArray 31) = v0 := ⟨_, rfl⟩
  rw [htb, hv0] at P0
  rw [htb, hv0]
  clear htb hv0 D1
  go_upto_region 4 with (first
    | (go_at_call 102; refine (count_any p g r0 9007199254740991 _ P0.out.rd).mono ?_; intro e u1 hq; unfold countPost at hq; rw [HX.out.2.2.1.1, HX.out.2.2.1.2] at hq; obtain ⟨rfl, hr, hk⟩ := hq; have Q := Lib.hid (P0.out.read hr hk S1.out.1 S1.out.2); have y : u1.cell? ⟨tb, 0, none⟩ = some (.int .i64 0) := (Q.out.row.cell 0).trans rfl; have y2 := Q.out.row.free 0; clear hr hk))
  have P1 := Lib.hid (Q.out.set 0 (.int .i64 x1) (L' := cfL ⟨x1, 0, []⟩ nilV) (by simp [cfL]))
  obtain ⟨v1, hv⟩ : ∃ v, u1.setCell ⟨tb, 0, none⟩ (.int .i64 x1) = v := ⟨_, rfl⟩
  rw [hv] at P1 ⊢
  clear hv y y2 Q P0 S1
  go_upto_region 5 with (first
    | (go_at_call 94; refine (num_any p g r1 1 _ P1.out.rd).mono ?_; intro e u2 hq; unfold numPost at hq; rw [HX.out.2.2.2.1.1, HX.out.2.2.2.1.2] at hq; obtain ⟨rfl, hr, hk⟩ := hq; have Q := Lib.hid (P1.out.read hr hk S2.out.1 S2.out.2); have y : u2.cell? ⟨tb, 1, none⟩ = some (.int .i64 0) := (Q.out.row.cell 1).trans rfl; have y2 := Q.out.row.free 1; clear hr hk))
  have P2 := Lib.hid (Q.out.set 1 (.int .i64 x2) (L' := cfL ⟨x1, x2, []⟩ nilV) (by simp [cfL]))
  obtain ⟨v2, hv⟩ : ∃ v, u2.setCell ⟨tb, 1, none⟩ (.int .i64 x2) = v := ⟨_, rfl⟩
  rw [hv] at P2 ⊢
  clear hv y y2 Q P1 S2
  go_cut [16, 17] (fun v16 v17 wx => v16 = .int .i64 (K : Int) ∧ v17 = .int .i64 0 ∧ prT w wx p g tb r3 31 (cfL ⟨x1, x2, []⟩ nilV) Z)
  case first =>
    have hcs : (x3 ≤ 5 ∧ x3 = (K : Int)) ∨ (¬ x3 ≤ 5 ∧ 5 = (K : Int)) := by
      have hk := HX.out.2.2.2.2.2
      unfold cfK at hk
      split at hk <;> omega
    rcases hcs with ⟨h5, hxk⟩ | ⟨h5, hxk⟩
    all_goals
      have HXK := Lib.hid hxk
      clear hxk
      go_wp2_with (first
        | (go_at_call 94; refine (num_any p g r2 1 _ P2.out.rd).mono ?_; intro e u3 hq; unfold numPost at hq; rw [HX.out.2.2.2.2.1.1, HX.out.2.2.2.2.1.2] at hq; obtain ⟨rfl, hr, hk⟩ := hq; have Q := Lib.hid (P2.out.read hr hk S3.out.1 S3.out.2); clear hr hk))
      go_meet
      exact ⟨by rw [← HXK.out], rfl, Q.out⟩
  case rest =>
    obtain ⟨rfl, rfl, P3⟩ := hcut
    generalize wc = v3 at *
    have P3 := Lib.hid P3
    obtain ⟨i0, hi0, hz0, hz1, hz2⟩ := info_parts infoIntd
    have HI := Lib.hid (And.intro hi0 (And.intro hz0 (And.intro hz1 hz2)))
    clear hi0 hz0 hz1 hz2
    go_wp2_with fail
    go_loopw [17] (fun v17 wx => ∃ i : Nat, i ≤ K ∧ v17 = .int .i64 (i : Int) ∧ cfAt w wx p g tb r3 x1 x2 Z i) (fun v17 _ => K - (intOf v17).toNat)
    case atStart => exact ⟨0, by omega, rfl, none, 0, P3.out, owns.nil _ _ _, by simp [homes_none]⟩
    case round =>
      obtain ⟨i, hi, rfl, A, c, hP, hO, hH⟩ := hrel
      by_cases hlt : i < K
      · have hlt' : (i : Int) < (K : Int) := by omega
        have hn0 : (0 : Int) ≤ (i : Int) := by omega
        have hw1 : IntKind.i64.wrap ((i : Int) + 1) = (i : Int) + 1 := wraps_i64 _ (by omega) (by omega)
        have c2 : wr.drew.cell? ⟨tb, 2, none⟩ = some (.slice A i c) := (hP.row.cell 2).trans rfl
        have hPd : prT w wr.drew p g tb (rdN i r3).2 31 (cfL ⟨x1, x2, []⟩ (.slice A i c)) Z := hP.over ((keepBut.refl [] wr).drew)
        obtain ⟨y, hy⟩ : ∃ y, ((rdN i r3).2.num 1).1 = y := ⟨_, rfl⟩
        have HP := Lib.hid (And.intro hPd (And.intro (hO.keep ((keepBut.refl [] wr).drew) (by simp)) (And.intro hH hy)))
        clear hP hO hH hPd hy
        go_upto_region 7 with fail
        go_region_law (first
          | (go_simp; go_at_call 94; refine (num_any p g _ 1 _ HP.out.1.rd).mono ?_; intro e u4 hq; unfold numPost at hq; rw [HP.out.2.2.2] at hq; obtain ⟨rfl, hr, hk⟩ := hq; have Q := Lib.hid (HP.out.1.read hr hk num_left (num_short _ _)); have O4 := Lib.hid (HP.out.2.1.keep hk (fun x hx => by have := HP.out.2.2.1 x hx; have := Q.out.hi; simp; omega)); have c3 : u4.cell? ⟨tb, 2, none⟩ = some (.slice A i c) := (Q.out.row.cell 2).trans rfl; have c3a : (u4.alloc (.cells #[.int .i64 y] 3)).cell? ⟨tb, 2, none⟩ = some (.slice A i c) := (((keepBut.refl [] u4).alloc (.cells #[.int .i64 y] 3)).cell (p := ⟨tb, 2, none⟩) Q.out.row.lt (by simp)).trans c3; have Q5 := Lib.hid (Q.out.over ((keepBut.refl [] u4).alloc (.cells #[.int .i64 y] 3))); have O5 := Lib.hid (O4.out.keep ((keepBut.refl [] u4).alloc (.cells #[.int .i64 y] 3)) (by simp)); clear hr hk)
          | (refine step_append _ rfl (.tmp 20) (.tmp 23) 29 rfl 3 i0 (.int .i64 0) 1 8 Tryz.underlying29 HI.out.1 HI.out.2.1 HI.out.2.2.1 HI.out.2.2.2 rfl (by decide) (.slice A i c) i ((rdN i r3).1.map (Value.int .i64)) rfl O5.out (some ⟨u4.heap.size, 0, none⟩) u4.heap.size 1 1 [.int .i64 y] rfl (reads_one u4 3 (.int .i64 y)) (by intro u hu; simp at hu; subst hu; rfl) (by omega) (by unfold maxLen; omega) ?_; intro A6 c6 w6 hown6 hkb6 hloc6; have c4 : w6.cell? ⟨tb, 2, none⟩ = some (.slice A i c) := (hkb6.cell (p := ⟨tb, 2, none⟩) Q5.out.row.lt (fun hm => Nat.lt_irrefl _ (HP.out.2.2.1 _ hm))).trans c3a; have f4 := (hkb6.row Q5.out.row (fun hm => Nat.lt_irrefl _ (HP.out.2.2.1 _ hm))).free 2))
        all_goals
          have HT := Lib.hid (cfAt.step Q5.out HP.out.2.2.1 hkb6 hown6 HP.out.2.2.2 hloc6)
          clear hkb6 hown6 hloc6 c2 c3 c3a c4 f4
          go_wp2_with fail
          go_roundw
          case rel => exact ⟨i + 1, by omega, by go_num, HT.out⟩
          case measure => simp [intOf]; omega
      · obtain rfl : i = K := by omega
        have hiv : intsV wr (homes (.slice A i c)) (.slice A i c) (rdN i r3).1 := by
          obtain ⟨A3, c3, e3, h31, h32, h33, h34⟩ := hO.form
          injection e3 with e3a e3b e3c
          subst e3a e3c
          obtain ⟨g3, hg3⟩ := homes_one (.slice A i c)
          have hl := rdN_len i r3
          refine ⟨A, c, g3, by rw [hl], by rw [hl]; exact h31, h32, by rw [hl]; exact h34 g3 hg3, fun hne => ?_⟩
          obtain ⟨o, hA, _⟩ := (h34 g3 hg3).2 (by have := List.length_pos_iff.2 hne; omega)
          rw [hA]; simp [homes_some]
        have HQ := Lib.hid (And.intro hiv (And.intro hH (fun y hy => hO.lt y hy)))
        have P6 := Lib.hid hP
        clear hiv hP hO hH
        have hxo : ∀ u ∈ cfL ⟨x1, x2, (rdN i r3).1⟩ (.slice A i c), u.oneCell' = true := cfL_one _ rfl
        obtain ⟨XE, hXE⟩ : ∃ XE, endP (rdN i r3).2.end_ (CF.ok ⟨x1, x2, (rdN i r3).1⟩) = XE := ⟨_, rfl⟩
        obtain ⟨XL, hXL⟩ : ∃ XL, eL XE (cfL ⟨x1, x2, (rdN i r3).1⟩ (.slice A i c)) Z = XL := ⟨_, rfl⟩
        have hLl : XL.length = 3 := by rw [← hXL]; unfold eL; split; rfl; exact HZ.out.2.1
        have hLo : ∀ u ∈ XL, u.oneCell' = true := by rw [← hXL]; unfold eL; split; exact hxo; exact HZ.out.2.2.1
        have HXL := Lib.hid (And.intro hXL hXE)
        have HL := Lib.hid (And.intro hLl hLo)
        clear hxo hXL hXE hLl hLo
        have rs : ∀ wx, rowAt wx w.heap.size 31 Z.toArray → rowAt (wx.setCells w.heap.size 0 XL) w.heap.size 31 XL.toArray := fun wx hh => by
          have := hh.setL (vs := XL) (o := 0)
          rw [putL_all (by rw [List.size_toArray, HL.out.1, HZ.out.2.1])] at this
          exact this
        have ht : ∀ wx, rowAt wx w.heap.size 31 Z.toArray → wx.there w.heap.size 0 XL.toArray.size := fun wx hh => hh.there (by simp only [List.size_toArray]; have h1 := HL.out.1; have h2 := HZ.out.2.1; omega)
        have hJ : (Tryz.prog.info? 31).map (·.size) = some XL.toArray.size := by rw [List.size_toArray, HL.out.1]; exact info_cf
        have HS := Lib.hid (And.intro rs (And.intro ht hJ))
        have HO2 := Lib.hid (all_oneCell_toArray HL.out.2)
        clear rs ht hJ
        go_wp2_with (first
          | (refine wpList_load_mid rfl 31 (.tmp 5) rfl tb 0 rfl _ _ P6.out.row.rangeAll Tryz.underlying31 rfl info_cf ?_)
          | (go_at_call 112; refine (endedConf_any (homes (.slice A i c)) p g (rdN i r3).2 ⟨x1, x2, (rdN i r3).1⟩ (.slice A i c) _ P6.out.rd HQ.out.1).mono ?_; rintro e w9 ⟨rfl, k9⟩; rw [HXL.out.2, HZ.out.2.2.2.1, HXL.out.1]; have P9 := Lib.hid (P6.out.over k9); have K9 := Lib.hid k9; clear k9)
          | (refine wpList_store_mid rfl 31 (.tmp 2) (.tmp 30) rfl w.heap.size 0 XL.toArray rfl rfl (HS.out.2.1 _ P9.out.res) HS.out.2.2 HO2.out ?_))
        refine bodyPost_ret (results_row_tmp rfl _ _ w.heap.size 31 _ (0, 0) _ rfl (HS.out.1 _ P9.out.res) Tryz.underlying31 rfl HS.out.2.2) rfl ?_
        have ks := (keepBut.refl [w.heap.size] w9).setL (vs := XL) (g := w.heap.size) (o := 0) (by simp)
        have hlo := P9.out.lo
        have hhi := P9.out.hi
        refine ⟨eL XE (.slice A i c) nilV, homes (.slice A i c), ?_, ?_, fun y hy => ⟨?_, ?_⟩, P9.out.kp.setL (.inr (Nat.le_refl _))⟩
        · have h1 : XL = cfL (eL XE ⟨x1, x2, (rdN i r3).1⟩ cfZero) (eL XE (.slice A i c) nilV) := by rw [← HXL.out.1, ← HZ.out.2.2.2.1]; exact cfL_eL XE _ _
          rw [HE.out, HXL.out.2, ← h1]
          rfl
        · rw [HE.out, HXL.out.2]
          exact eL_cfV ((HQ.out.1.keep K9.out (by simp)).keep ks (fun y hy => by have := HQ.out.2.1 y hy; simp; omega))
        · have := HQ.out.2.1 y hy; omega
        · have h1 := HQ.out.2.2 y hy; have h2 := K9.out.size; have h3 := ks.size; omega
end Go.Proofs.YthfdkonhjpdflaaGreatDoor
