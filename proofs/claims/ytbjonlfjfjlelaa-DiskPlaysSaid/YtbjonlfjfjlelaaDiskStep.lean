/-
  DISK: the law's own step: a call of both.
-/
import Derived.Test.YtbjonlfjfjlelaaDiskBoth
import Derived.Deep.CutBlock
namespace Go.Proofs.Ytbjonlfjfjlelaa
open Go.RowKit
set_option linter.unusedVariables false
set_option maxRecDepth 100000

def stepPost (w0 : World) (p q i : Nat) (e : Ending) (w' : World) : Prop := e = .returned (.bool true) ∧ ∃ F' G' d', both w0 w' p F' q G' d' ∧ inD d' (i + 1)

/-- behind the calls: both stand alike; what was handed in lies aside -/
def stepMid (w0 : World) (p q i : Nat) (A : Option Addr) (n c base : Nat) (v9 : Value) (wx : World) : Prop :=
  v9 = .bool true ∧ ∃ (F' G' : List Nat) (d' : DS) (l' : List UInt8), l'.length = n ∧ both w0 wx p F' q G' d' ∧ inD d' (i + 1) ∧ owns wx 5 1 (.slice A n c) n (l'.map bv) ∧ (∀ y ∈ homes (.slice A n c), base ≤ y ∧ y ∉ F' ∧ y ∉ G')

def turnRel (w0 : World) (p q : Nat) (F G : List Nat) (d : DS) (A : Option Addr) (n c : Nat) (v10 : Value) (wx : World) : Prop :=
  ∃ (j : Nat) (xs : List Value), j ≤ n ∧ v10 = .int .i64 (j : Int) ∧ owns wx 5 1 (.slice A n c) n xs ∧ (∀ u ∈ xs, ∃ z, u = .int .u8 z) ∧ both w0 wx p F q G d
theorem step_end {w0 w3 w4 w5 : World} {p q i n c base : Nat} {F F' G G' : List Nat} {d d' : DS} {A : Option Addr} {b : List UInt8} (h : both w0 w3 p F q G d) (hk4 : keepBut F w3 w4) (hk5 : keepBut G w4 w5) (h5 : both w0 w5 p F' q G' d') (hF : ∀ y ∈ F', y ∈ F ∨ w3.heap.size ≤ y) (hG : ∀ y ∈ G', y ∈ G ∨ w4.heap.size ≤ y)
    (hin : inD d' (i + 1)) (ho : owns w3 5 1 (.slice A n c) n (b.map bv)) (hbn : b.length = n) (hv : ∀ y ∈ homes (.slice A n c), base ≤ y ∧ y ∉ F ∧ y ∉ G) : stepMid w0 p q i A n c base (.bool true) w5 := by
  have hlt := ho.lt
  refine ⟨rfl, F', G', d', b, hbn, h5, hin, (ho.keep hk4 (fun y hy => (hv y hy).2.1)).keep hk5 (fun y hy => (hv y hy).2.2), fun y hy => ⟨(hv y hy).1, fun hm => ?_, fun hm => ?_⟩⟩
  · rcases hF y hm with q1 | q1
    · exact (hv y hy).2.1 q1
    · have := hlt y hy; omega
  · rcases hG y hm with q1 | q1
    · exact (hv y hy).2.2 q1
    · have := hlt y hy; have := hk4.size; omega

set_option maxHeartbeats 8000000 in
theorem stepL_any (w0 w : World) (p : Nat) (F : List Nat) (q : Nat) (G : List Nat) (d : DS) (i : Nat) (kd n3 : Int) (raw : Bool) (A3 : Option Addr) (h3 c3 : Nat) (l3 : List UInt8) (h : both w0 w p F q G d) (hin : inD d i) (hi : i ≤ 80)
    (hkd : -9223372036854775808 ≤ kd ∧ kd ≤ 9223372036854775807) (hn3 : -9223372036854775808 ≤ n3 ∧ n3 ≤ 9223372036854775807) (hlc : l3.length ≤ c3) (hcm : c3 ≤ maxLen) (hs : seen w A3 h3 l3) (hh : l3 ≠ [] → h3 ∉ F ∧ h3 ∉ G) :
    Calls Try.prog 13 #[.pointer (some ⟨p, 0, none⟩), .pointer (some ⟨q, 0, none⟩), .agg #[.int .i64 kd, .int .i64 n3, .bool raw, .slice A3 l3.length c3]] w (stepPost w0 p q i) := by
  unfold maxLen at hcm
  obtain ⟨b, hb⟩ : ∃ b, l3.take 300 = b := ⟨_, rfl⟩
  have hbl : b.length ≤ 300 := by rw [← hb, List.length_take]; omega
  have hbc : b.length ≤ c3 := by rw [← hb, List.length_take]; omega
  have hmin : (if 300 < (l3.length : Int) then 300 else (l3.length : Int)).toNat = b.length := by rw [← hb, List.length_take]; split <;> omega
  have hsb : seen w A3 h3 b := by rw [← hb]; exact hs.take 300
  have hhb : b ≠ [] → h3 ∉ F ∧ h3 ∉ G := fun hne => hh (by rintro rfl; simp at hb; exact hne (by first | exact hb | exact hb.symm))
  have HM := Lib.hid hmin
  have HB := Lib.hid (And.intro h (And.intro hin (And.intro hsb hhb)))
  clear h hin hs hh hb hmin hsb hhb
  go_enter Try.func13, Try.ntmps13
  go_upto_region 2 with fail
  simp only [HM.out]
  generalize (if 300 < (l3.length : Int) then 300 else (l3.length : Int)) = zz
  have hra := rowAt.new w 30 #[.int .i64 kd, .int .i64 n3, .bool raw, .slice A3 b.length c3]
  have hka := (keepBut.refl [] w).alloc (.cells #[.int .i64 kd, .int .i64 n3, .bool raw, .slice A3 b.length c3] 30)
  have HA := Lib.hid (And.intro hra (And.intro (HB.out.1.over hka) (HB.out.2.2.1.keep hka (by simp))))
  have hlt := HB.out.1.lt
  have htF : w.heap.size ∉ F := fun hm => Nat.lt_irrefl _ (hlt.1 _ hm)
  have htG : w.heap.size ∉ G := fun hm => Nat.lt_irrefl _ (hlt.2 _ hm)
  have ht0 : w0.heap.size ≤ w.heap.size := HB.out.1.1.2.2.size
  have hsz : w.heap.size < (w.alloc (.cells #[.int .i64 kd, .int .i64 n3, .bool raw, .slice A3 b.length c3] 30)).heap.size := by simp
  have x3 : (w.alloc (.cells #[.int .i64 kd, .int .i64 n3, .bool raw, .slice A3 b.length c3] 30)).cell? ⟨w.heap.size, 3, none⟩ = some (.slice A3 b.length c3) := hra.cell 3
  clear hra hka
  generalize w.alloc (.cells #[.int .i64 kd, .int .i64 n3, .bool raw, .slice A3 b.length c3] 30) = wa at *
  have HLT := Lib.hid (And.intro hlt (And.intro htF (And.intro htG (And.intro ht0 hsz))))
  clear hlt htF htG ht0 hsz
  generalize hta : w.heap.size = ta at *
  have HTA := Lib.hid hta
  clear hta
  go_upto_region 3 with (go_at_call 49; (with_reducible refine (copyBytes_any A3 h3 c3 b _ HA.out.2.2 (by omega)).mono ?_); rintro e w2 ⟨v, rfl, ho2, hf2, hk2⟩; obtain ⟨A7, c7, rfl, -⟩ := ho2.form; have H2 := Lib.hid (And.intro ho2 (And.intro hf2 hk2)); clear ho2 hf2 hk2)
  have hr2 := H2.out.2.2.row HA.out.1 (by simp)
  have hB2 := HA.out.2.1.over H2.out.2.2
  have hs2 := HA.out.2.2.keep H2.out.2.2 (by simp)
  have y0 : w2.cell? ⟨ta, 0, none⟩ = some (.int .i64 kd) := hr2.cell 0
  have y1 : w2.cell? ⟨ta, 1, none⟩ = some (.int .i64 n3) := hr2.cell 1
  have y2 : w2.cell? ⟨ta, 2, none⟩ = some (.bool raw) := hr2.cell 2
  obtain ⟨Ab, cb, gb, m0, _⟩ := hB2.2.1.bytes
  have hlen : d.b.length ≤ 24000 := by have := HB.out.2.1.len; omega
  have HR2 := Lib.hid (And.intro hr2 (And.intro hB2 hs2))
  clear hr2 hB2 hs2 x3
  go_upto_if 26 with fail
  go_cut [8] (fun v8 wx => ∃ (n : Int) (m : Nat), v8 = .int .i64 n ∧ -9223372036854775808 ≤ n ∧ n ≤ 9223372036854775807 ∧ wx = w2.drewN m)
  case first =>
    cases raw with
    | true =>
      go_wp2_with fail
      go_meet
      exact ⟨n3, 0, rfl, hn3.1, hn3.2, rfl⟩
    | false =>
      have hsum : IntKind.i64.wrap ((d.b.length : Int) + 3) = (d.b.length : Int) + 3 := by rw [IntKind.wrap_i64]; omega
      go_upto_region 5 with fail
      go_quiet ((go_at_call 38; (with_reducible refine (bring_any n3 ((d.b.length : Int) + 3) hn3.1 hn3.2 (by omega) (by omega) _).mono ?_); rintro e w' ⟨rfl, rfl⟩; exact ⟨rfl, _, rfl⟩))
      go_wp2_with fail
      go_meet
      refine ⟨_, _, rfl, ?_, ?_, rfl⟩
      · have := Int.emod_nonneg n3 (show (d.b.length : Int) + 3 ≠ 0 by omega); omega
      · have := Int.emod_lt_of_pos n3 (show (0 : Int) < (d.b.length : Int) + 3 by omega); omega
  case rest =>
    obtain ⟨n, m, rfl, hn1, hn2, rfl⟩ := hcut
    have hkm := (keepBut.refl [] w2).drewN m
    have H3 := Lib.hid (And.intro (HR2.out.2.1.over hkm) (And.intro (hkm.row HR2.out.1 (by simp)) (And.intro (HR2.out.2.2.keep hkm (by simp)) (H2.out.1.keep hkm (by simp)))))
    have z0 : (w2.drewN m).cell? ⟨ta, 0, none⟩ = some (.int .i64 kd) := y0
    have z3 : (w2.drewN m).cell? ⟨ta, 3, none⟩ = some (.slice A3 b.length c3) := H3.out.2.1.cell 3
    have hsz2 : ta < (w2.drewN m).heap.size := Nat.lt_of_lt_of_le HLT.out.2.2.2.2 H2.out.2.2.size
    clear y0 y1 y2 m0 hkm
    have HH7 : Hid (∀ x ∈ homes (.slice A7 b.length c7), wa.heap.size ≤ x) := Lib.hid H2.out.2.1
    generalize w2.drewN m = w3 at *
    go_wp2_with fail
    refine (bring_any kd 10 hkd.1 hkd.2 (by omega) (by omega) _).mono ?_; rintro e w' ⟨rfl, rfl⟩
    have cs : kd % 10 = 0 ∨ kd % 10 = 1 ∨ kd % 10 = 2 ∨ kd % 10 = 3 ∨ kd % 10 = 4 ∨ kd % 10 = 5 ∨ kd % 10 = 6 ∨ kd % 10 = 7 ∨ kd % 10 = 8 ∨ kd % 10 = 9 := by omega
    generalize kd % 10 = k at cs ⊢
    clear z0
    go_upto_block 0 with fail
    go_cut [9] from 39 to 98 (fun v9 wx => stepMid w0 p q i A7 b.length c7 ta v9 wx)
    case first =>
      have HV : Hid (∀ y ∈ homes (.slice A7 b.length c7), ta ≤ y ∧ y ∉ F ∧ y ∉ G) := Lib.hid (fun y hy => by
        have h1 := HH7.out y hy
        have h2 := HLT.out.2.2.2.2
        have h3 := HTA.out
        refine ⟨by omega, fun hm => ?_, fun hm => ?_⟩
        · have := HLT.out.1.1 y hm; omega
        · have := HLT.out.1.2 y hm; omega)
      have htl := HB.out.2.1.tl
      rcases cs with rfl | rfl | rfl | rfl | rfl | rfl | rfl | rfl | rfl | rfl
      · have HE := Lib.hid (show (d.do 0 n b) = d.write b by simp [DS.do])
        have hin := HB.out.2.1.do 0 n b hbl
        rw [HE.out] at hin
        have hz3 : (w3.drew).cell? ⟨ta, 3, none⟩ = some (.slice A3 b.length c3) := z3
        have hB3 := H3.out.1.over ((keepBut.refl [] w3).drew)
        have hs3 := H3.out.2.2.1.keep ((keepBut.refl [] w3).drew) (by simp)
        have ho3 := H3.out.2.2.2.keep ((keepBut.refl [] w3).drew) (by simp)
        obtain ⟨_, _, ga, hev, _, _, hse, hgm⟩ := ho3.seen
        have hsA : seen w3.drew A7 ga b := by injection hev with e1 e2 e3; rw [e1]; exact hse
        have hgA : b ≠ [] → ga ∉ F := fun hne => (HV.out ga (hgm hne)).2.1
        have H3D := Lib.hid (And.intro hB3 (And.intro hs3 (And.intro ho3 (And.intro hsA hgA))))
        have hd1 := H3D.out.1.1.1
        clear hB3 hs3 ho3 hev hse hgm hsA hgA
        go_upto_region 8 with fail
        go_region_held3 (fun w' => w'.cell? ⟨ta, 3, none⟩ = some (.slice A3 b.length c3) ∧ w'.cell? ⟨ta, 3, none⟩ = some (.slice A3 b.length c3)) (first | exact ⟨hz3, hz3⟩ | exact ⟨hz4, hz4⟩ | exact ⟨hz5, hz5⟩)
          (first
            | (go_at_call 16; (with_reducible refine (writeD_any p F d A7 ga c7 b _ hd1 H3D.out.2.2.2.1 H3D.out.2.2.2.2 (by omega) (by omega)).mono ?_); intro e w4 hq; obtain ⟨rfl, hk4, hR4, F', hD4, hap4, hF4⟩ := both.d H3D.out.1 hq; have hz4 : w4.cell? ⟨ta, 3, none⟩ = some (.slice A3 b.length c3) := (hk4.cell (p := ⟨ta, 3, none⟩) hsz2 HLT.out.2.1).trans hz3; have hs4 := H3D.out.2.1.keep hk4 (fun hne => (HB.out.2.2.2 hne).1); have hsz4 := Nat.lt_of_lt_of_le hsz2 hk4.size; have H4 := Lib.hid (And.intro hk4 (And.intro hR4 (And.intro hD4 (And.intro hap4 (And.intro hF4 hs4))))); clear hq hk4 hR4 hD4 hap4 hF4 hs4)
            | (go_at_call 56; (with_reducible refine (writeR_any q G d A3 h3 c3 b _ H4.out.2.1 H4.out.2.2.2.2.2 (fun hne => (HB.out.2.2.2 hne).2) (by omega) (by omega)).mono ?_); intro e w5 hq; obtain ⟨rfl, hk5, G', hB5, hG5⟩ := both.r H4.out.2.2.1 H3D.out.1.2.2.1 H4.out.2.2.2.1 hq; have hz5 : w5.cell? ⟨ta, 3, none⟩ = some (.slice A3 b.length c3) := (hk5.cell (p := ⟨ta, 3, none⟩) hsz4 HLT.out.2.2.1).trans hz4; have HX : Hid (stepMid w0 p q i A7 b.length c7 ta (.bool true) w5) := Lib.hid (step_end H3D.out.1 H4.out.1 hk5 hB5 H4.out.2.2.2.2.1 hG5 hin H3D.out.2.2.1 rfl HV.out); clear hq hk5 hB5 hG5)
            | fail)
        clear hin
        generalize (d.write b).1 = r at *
        go_wp2_with fail
        go_meet
        exact HX.out
      · have HE := Lib.hid (show (d.do 1 n b) = d.write b by simp [DS.do])
        have hin := HB.out.2.1.do 1 n b hbl
        rw [HE.out] at hin
        have hz3 : (w3.drew).cell? ⟨ta, 3, none⟩ = some (.slice A3 b.length c3) := z3
        have hB3 := H3.out.1.over ((keepBut.refl [] w3).drew)
        have hs3 := H3.out.2.2.1.keep ((keepBut.refl [] w3).drew) (by simp)
        have ho3 := H3.out.2.2.2.keep ((keepBut.refl [] w3).drew) (by simp)
        obtain ⟨_, _, ga, hev, _, _, hse, hgm⟩ := ho3.seen
        have hsA : seen w3.drew A7 ga b := by injection hev with e1 e2 e3; rw [e1]; exact hse
        have hgA : b ≠ [] → ga ∉ F := fun hne => (HV.out ga (hgm hne)).2.1
        have H3D := Lib.hid (And.intro hB3 (And.intro hs3 (And.intro ho3 (And.intro hsA hgA))))
        have hd1 := H3D.out.1.1.1
        clear hB3 hs3 ho3 hev hse hgm hsA hgA
        go_upto_region 8 with fail
        go_region_held3 (fun w' => w'.cell? ⟨ta, 3, none⟩ = some (.slice A3 b.length c3) ∧ w'.cell? ⟨ta, 3, none⟩ = some (.slice A3 b.length c3)) (first | exact ⟨hz3, hz3⟩ | exact ⟨hz4, hz4⟩ | exact ⟨hz5, hz5⟩)
          (first
            | (go_at_call 16; (with_reducible refine (writeD_any p F d A7 ga c7 b _ hd1 H3D.out.2.2.2.1 H3D.out.2.2.2.2 (by omega) (by omega)).mono ?_); intro e w4 hq; obtain ⟨rfl, hk4, hR4, F', hD4, hap4, hF4⟩ := both.d H3D.out.1 hq; have hz4 : w4.cell? ⟨ta, 3, none⟩ = some (.slice A3 b.length c3) := (hk4.cell (p := ⟨ta, 3, none⟩) hsz2 HLT.out.2.1).trans hz3; have hs4 := H3D.out.2.1.keep hk4 (fun hne => (HB.out.2.2.2 hne).1); have hsz4 := Nat.lt_of_lt_of_le hsz2 hk4.size; have H4 := Lib.hid (And.intro hk4 (And.intro hR4 (And.intro hD4 (And.intro hap4 (And.intro hF4 hs4))))); clear hq hk4 hR4 hD4 hap4 hF4 hs4)
            | (go_at_call 56; (with_reducible refine (writeR_any q G d A3 h3 c3 b _ H4.out.2.1 H4.out.2.2.2.2.2 (fun hne => (HB.out.2.2.2 hne).2) (by omega) (by omega)).mono ?_); intro e w5 hq; obtain ⟨rfl, hk5, G', hB5, hG5⟩ := both.r H4.out.2.2.1 H3D.out.1.2.2.1 H4.out.2.2.2.1 hq; have hz5 : w5.cell? ⟨ta, 3, none⟩ = some (.slice A3 b.length c3) := (hk5.cell (p := ⟨ta, 3, none⟩) hsz4 HLT.out.2.2.1).trans hz4; have HX : Hid (stepMid w0 p q i A7 b.length c7 ta (.bool true) w5) := Lib.hid (step_end H3D.out.1 H4.out.1 hk5 hB5 H4.out.2.2.2.2.1 hG5 hin H3D.out.2.2.1 rfl HV.out); clear hq hk5 hB5 hG5)
            | fail)
        clear hin
        generalize (d.write b).1 = r at *
        go_wp2_with fail
        go_meet
        exact HX.out
      · have HE := Lib.hid (show (d.do 2 n b) = d.write b by simp [DS.do])
        have hin := HB.out.2.1.do 2 n b hbl
        rw [HE.out] at hin
        have hz3 : (w3.drew).cell? ⟨ta, 3, none⟩ = some (.slice A3 b.length c3) := z3
        have hB3 := H3.out.1.over ((keepBut.refl [] w3).drew)
        have hs3 := H3.out.2.2.1.keep ((keepBut.refl [] w3).drew) (by simp)
        have ho3 := H3.out.2.2.2.keep ((keepBut.refl [] w3).drew) (by simp)
        obtain ⟨_, _, ga, hev, _, _, hse, hgm⟩ := ho3.seen
        have hsA : seen w3.drew A7 ga b := by injection hev with e1 e2 e3; rw [e1]; exact hse
        have hgA : b ≠ [] → ga ∉ F := fun hne => (HV.out ga (hgm hne)).2.1
        have H3D := Lib.hid (And.intro hB3 (And.intro hs3 (And.intro ho3 (And.intro hsA hgA))))
        have hd1 := H3D.out.1.1.1
        clear hB3 hs3 ho3 hev hse hgm hsA hgA
        go_upto_region 8 with fail
        go_region_held3 (fun w' => w'.cell? ⟨ta, 3, none⟩ = some (.slice A3 b.length c3) ∧ w'.cell? ⟨ta, 3, none⟩ = some (.slice A3 b.length c3)) (first | exact ⟨hz3, hz3⟩ | exact ⟨hz4, hz4⟩ | exact ⟨hz5, hz5⟩)
          (first
            | (go_at_call 16; (with_reducible refine (writeD_any p F d A7 ga c7 b _ hd1 H3D.out.2.2.2.1 H3D.out.2.2.2.2 (by omega) (by omega)).mono ?_); intro e w4 hq; obtain ⟨rfl, hk4, hR4, F', hD4, hap4, hF4⟩ := both.d H3D.out.1 hq; have hz4 : w4.cell? ⟨ta, 3, none⟩ = some (.slice A3 b.length c3) := (hk4.cell (p := ⟨ta, 3, none⟩) hsz2 HLT.out.2.1).trans hz3; have hs4 := H3D.out.2.1.keep hk4 (fun hne => (HB.out.2.2.2 hne).1); have hsz4 := Nat.lt_of_lt_of_le hsz2 hk4.size; have H4 := Lib.hid (And.intro hk4 (And.intro hR4 (And.intro hD4 (And.intro hap4 (And.intro hF4 hs4))))); clear hq hk4 hR4 hD4 hap4 hF4 hs4)
            | (go_at_call 56; (with_reducible refine (writeR_any q G d A3 h3 c3 b _ H4.out.2.1 H4.out.2.2.2.2.2 (fun hne => (HB.out.2.2.2 hne).2) (by omega) (by omega)).mono ?_); intro e w5 hq; obtain ⟨rfl, hk5, G', hB5, hG5⟩ := both.r H4.out.2.2.1 H3D.out.1.2.2.1 H4.out.2.2.2.1 hq; have hz5 : w5.cell? ⟨ta, 3, none⟩ = some (.slice A3 b.length c3) := (hk5.cell (p := ⟨ta, 3, none⟩) hsz4 HLT.out.2.2.1).trans hz4; have HX : Hid (stepMid w0 p q i A7 b.length c7 ta (.bool true) w5) := Lib.hid (step_end H3D.out.1 H4.out.1 hk5 hB5 H4.out.2.2.2.2.1 hG5 hin H3D.out.2.2.1 rfl HV.out); clear hq hk5 hB5 hG5)
            | fail)
        clear hin
        generalize (d.write b).1 = r at *
        go_wp2_with fail
        go_meet
        exact HX.out
      · have HE := Lib.hid (show (d.do 3 n b) = d.sync by simp [DS.do])
        have hin := HB.out.2.1.do 3 n b hbl
        rw [HE.out] at hin
        go_wp2_with fail
        refine (sync_any p F d _ H3.out.1.1.1).mono ?_; intro e w4 hq
        obtain ⟨rfl, hk4, hR4, F', hD4, hap4, hF4⟩ := H3.out.1.d hq
        have H4 := Lib.hid (And.intro hk4 (And.intro hR4 (And.intro hD4 (And.intro hap4 hF4))))
        clear hq hk4 hR4 hD4 hap4 hF4
        go_wp2_with fail
        refine (syncR_any q G d _ H4.out.2.1).mono ?_; intro e w5 hq
        obtain ⟨rfl, hk5, G', hB5, hG5⟩ := both.r H4.out.2.2.1 H3.out.1.2.2.1 H4.out.2.2.2.1 hq
        have HX : Hid (stepMid w0 p q i A7 b.length c7 ta (.bool true) w5) := Lib.hid (step_end H3.out.1 H4.out.1 hk5 hB5 H4.out.2.2.2.2 hG5 hin H3.out.2.2.2 rfl HV.out)
        clear hq hk5 hB5 hG5 hin
        generalize (d.sync).1 = r at *
        go_wp2_with fail
        go_meet
        exact HX.out
      · have HE := Lib.hid (show (d.do 4 n b) = d.sync by simp [DS.do])
        have hin := HB.out.2.1.do 4 n b hbl
        rw [HE.out] at hin
        go_wp2_with fail
        refine (sync_any p F d _ H3.out.1.1.1).mono ?_; intro e w4 hq
        obtain ⟨rfl, hk4, hR4, F', hD4, hap4, hF4⟩ := H3.out.1.d hq
        have H4 := Lib.hid (And.intro hk4 (And.intro hR4 (And.intro hD4 (And.intro hap4 hF4))))
        clear hq hk4 hR4 hD4 hap4 hF4
        go_wp2_with fail
        refine (syncR_any q G d _ H4.out.2.1).mono ?_; intro e w5 hq
        obtain ⟨rfl, hk5, G', hB5, hG5⟩ := both.r H4.out.2.2.1 H3.out.1.2.2.1 H4.out.2.2.2.1 hq
        have HX : Hid (stepMid w0 p q i A7 b.length c7 ta (.bool true) w5) := Lib.hid (step_end H3.out.1 H4.out.1 hk5 hB5 H4.out.2.2.2.2 hG5 hin H3.out.2.2.2 rfl HV.out)
        clear hq hk5 hB5 hG5 hin
        generalize (d.sync).1 = r at *
        go_wp2_with fail
        go_meet
        exact HX.out
      · have HE := Lib.hid (show (d.do 5 n b) = d.swap b by simp [DS.do])
        have hin := HB.out.2.1.do 5 n b hbl
        rw [HE.out] at hin
        have hz3 : (w3.drew).cell? ⟨ta, 3, none⟩ = some (.slice A3 b.length c3) := z3
        have hB3 := H3.out.1.over ((keepBut.refl [] w3).drew)
        have hs3 := H3.out.2.2.1.keep ((keepBut.refl [] w3).drew) (by simp)
        have ho3 := H3.out.2.2.2.keep ((keepBut.refl [] w3).drew) (by simp)
        obtain ⟨_, _, ga, hev, _, _, hse, hgm⟩ := ho3.seen
        have hsA : seen w3.drew A7 ga b := by injection hev with e1 e2 e3; rw [e1]; exact hse
        have hgA : b ≠ [] → ga ∉ F := fun hne => (HV.out ga (hgm hne)).2.1
        have H3D := Lib.hid (And.intro hB3 (And.intro hs3 (And.intro ho3 (And.intro hsA hgA))))
        have hd1 := H3D.out.1.1.1
        clear hB3 hs3 ho3 hev hse hgm hsA hgA
        go_upto_region 13 with fail
        go_region_held3 (fun w' => w'.cell? ⟨ta, 3, none⟩ = some (.slice A3 b.length c3) ∧ w'.cell? ⟨ta, 3, none⟩ = some (.slice A3 b.length c3)) (first | exact ⟨hz3, hz3⟩ | exact ⟨hz4, hz4⟩ | exact ⟨hz5, hz5⟩)
          (first
            | (go_at_call 17; (with_reducible refine (swapD_any p F d A7 ga c7 b _ hd1 H3D.out.2.2.2.1 H3D.out.2.2.2.2 (by omega) (by omega)).mono ?_); intro e w4 hq; obtain ⟨rfl, hk4, hR4, F', hD4, hap4, hF4⟩ := both.d H3D.out.1 hq; have hz4 : w4.cell? ⟨ta, 3, none⟩ = some (.slice A3 b.length c3) := (hk4.cell (p := ⟨ta, 3, none⟩) hsz2 HLT.out.2.1).trans hz3; have hs4 := H3D.out.2.1.keep hk4 (fun hne => (HB.out.2.2.2 hne).1); have hsz4 := Nat.lt_of_lt_of_le hsz2 hk4.size; have H4 := Lib.hid (And.intro hk4 (And.intro hR4 (And.intro hD4 (And.intro hap4 (And.intro hF4 hs4))))); clear hq hk4 hR4 hD4 hap4 hF4 hs4)
            | (go_at_call 51; (with_reducible refine (swapR_any q G d A3 h3 c3 b _ H4.out.2.1 H4.out.2.2.2.2.2 (fun hne => (HB.out.2.2.2 hne).2) (by omega) (by omega)).mono ?_); intro e w5 hq; obtain ⟨rfl, hk5, G', hB5, hG5⟩ := both.r H4.out.2.2.1 H3D.out.1.2.2.1 H4.out.2.2.2.1 hq; have hz5 : w5.cell? ⟨ta, 3, none⟩ = some (.slice A3 b.length c3) := (hk5.cell (p := ⟨ta, 3, none⟩) hsz4 HLT.out.2.2.1).trans hz4; have HX : Hid (stepMid w0 p q i A7 b.length c7 ta (.bool true) w5) := Lib.hid (step_end H3D.out.1 H4.out.1 hk5 hB5 H4.out.2.2.2.2.1 hG5 hin H3D.out.2.2.1 rfl HV.out); clear hq hk5 hB5 hG5)
            | fail)
        clear hin
        generalize (d.swap b).1 = r at *
        go_wp2_with fail
        go_meet
        exact HX.out
      · have HE := Lib.hid (show (d.do 6 n b) = d.cut n by simp [DS.do])
        have hin := HB.out.2.1.do 6 n b hbl
        rw [HE.out] at hin
        go_wp2_with fail
        refine (cutD_any p F d n _ H3.out.1.1.1 hn2).mono ?_; intro e w4 hq
        obtain ⟨rfl, hk4, hR4, F', hD4, hap4, hF4⟩ := H3.out.1.d hq
        have H4 := Lib.hid (And.intro hk4 (And.intro hR4 (And.intro hD4 (And.intro hap4 hF4))))
        clear hq hk4 hR4 hD4 hap4 hF4
        go_wp2_with fail
        refine (cutR_any q G d n _ H4.out.2.1 hn2).mono ?_; intro e w5 hq
        obtain ⟨rfl, hk5, G', hB5, hG5⟩ := both.r H4.out.2.2.1 H3.out.1.2.2.1 H4.out.2.2.2.1 hq
        have HX : Hid (stepMid w0 p q i A7 b.length c7 ta (.bool true) w5) := Lib.hid (step_end H3.out.1 H4.out.1 hk5 hB5 H4.out.2.2.2.2 hG5 hin H3.out.2.2.2 rfl HV.out)
        clear hq hk5 hB5 hG5 hin
        generalize (d.cut n).1 = r at *
        go_wp2_with fail
        go_meet
        exact HX.out
      · have HE := Lib.hid (show (d.do 7 n b) = d.armed n by simp [DS.do])
        have hin := HB.out.2.1.do 7 n b hbl
        rw [HE.out] at hin
        go_wp2_with fail
        refine (arm_any p F d n _ H3.out.1.1.1 hn2).mono ?_; intro e w4 hq
        obtain ⟨rfl, hk4, hR4, F', hD4, hap4, hF4⟩ := H3.out.1.d hq
        have H4 := Lib.hid (And.intro hk4 (And.intro hR4 (And.intro hD4 (And.intro hap4 hF4))))
        clear hq hk4 hR4 hD4 hap4 hF4
        go_wp2_with fail
        refine (armR_any q G d n _ H4.out.2.1 hn2).mono ?_; intro e w5 hq
        obtain ⟨rfl, hk5, G', hB5, hG5⟩ := both.r H4.out.2.2.1 H3.out.1.2.2.1 H4.out.2.2.2.1 hq
        have HX : Hid (stepMid w0 p q i A7 b.length c7 ta (.bool true) w5) := Lib.hid (step_end H3.out.1 H4.out.1 hk5 hB5 H4.out.2.2.2.2 hG5 hin H3.out.2.2.2 rfl HV.out)
        clear hq hk5 hB5 hG5 hin
        generalize (d.armed n).1 = r at *
        go_wp2_with fail
        go_meet
        exact HX.out
      · have HE := Lib.hid (show (d.do 8 n b) = d.crash n by simp [DS.do])
        have hin := HB.out.2.1.do 8 n b hbl
        rw [HE.out] at hin
        go_wp2_with fail
        refine (crash_any p F d n _ H3.out.1.1.1 hn2).mono ?_; intro e w4 hq
        obtain ⟨rfl, hk4, hR4, F', hD4, hap4, hF4⟩ := H3.out.1.d hq
        have H4 := Lib.hid (And.intro hk4 (And.intro hR4 (And.intro hD4 (And.intro hap4 hF4))))
        clear hq hk4 hR4 hD4 hap4 hF4
        go_wp2_with fail
        refine (crashR_any q G d n _ H4.out.2.1 hn2 HB.out.2.1.flat).mono ?_; intro e w5 hq
        obtain ⟨rfl, hk5, G', hB5, hG5⟩ := both.r H4.out.2.2.1 H3.out.1.2.2.1 H4.out.2.2.2.1 hq
        have HX : Hid (stepMid w0 p q i A7 b.length c7 ta (.bool true) w5) := Lib.hid (step_end H3.out.1 H4.out.1 hk5 hB5 H4.out.2.2.2.2 hG5 hin H3.out.2.2.2 rfl HV.out)
        clear hq hk5 hB5 hG5 hin
        generalize (d.crash n).1 = r at *
        go_wp2_with fail
        go_meet
        exact HX.out
      · have HE := Lib.hid (show (d.do 9 n b) = ((0 : Int), d.revive) by simp [DS.do])
        have hin := HB.out.2.1.do 9 n b hbl
        rw [HE.out] at hin
        go_wp2_with fail
        refine (revive_any p F d _ H3.out.1.1.1).mono ?_; intro e w4 hq
        obtain ⟨rfl, hk4, hR4, F', hD4, hap4, hF4⟩ := H3.out.1.d hq
        have H4 := Lib.hid (And.intro hk4 (And.intro hR4 (And.intro hD4 (And.intro hap4 hF4))))
        clear hq hk4 hR4 hD4 hap4 hF4
        go_wp2_with fail
        refine (reviveR_any q G d _ H4.out.2.1).mono ?_; intro e w5 hq
        obtain ⟨rfl, hk5, G', hB5, hG5⟩ := both.r H4.out.2.2.1 H3.out.1.2.2.1 H4.out.2.2.2.1 hq
        have HX : Hid (stepMid w0 p q i A7 b.length c7 ta (.bool true) w5) := Lib.hid (step_end H3.out.1 H4.out.1 hk5 hB5 H4.out.2.2.2.2 hG5 hin H3.out.2.2.2 rfl HV.out)
        clear hq hk5 hB5 hG5 hin
        go_wp2_with fail
        go_meet
        exact HX.out
    case rest =>
      obtain ⟨rfl, F', G', d', l', hl', hB, hin, ho, hv⟩ := hcut
      obtain ⟨L, hL⟩ : ∃ L, b.length = L := ⟨_, rfl⟩
      rw [hL] at hl' ho hv ⊢
      have HIN := Lib.hid (And.intro hin hv)
      have H5 : Hid (turnRel w0 p q F' G' d' A7 L c7 (.int .i64 0) wc) := Lib.hid ⟨0, _, by omega, rfl, ho, fun u hu => by
        obtain ⟨x, _, rfl⟩ := List.mem_map.1 hu
        exact ⟨_, rfl⟩, hB⟩
      clear hin hv ho hB z3 hsz2 H3 HH7 cs
      go_wp2_with fail
      go_loopw [10] (fun v10 wx => turnRel w0 p q F' G' d' A7 L c7 v10 wx) (fun v10 _ => L - (intOf v10).toNat)
      case atStart => exact H5.out
      case round =>
        obtain ⟨j, xs, hj, rfl, ho, hxs, hB⟩ := hrel
        clear H5
        by_cases hlt : j < L
        · have hlt' : (j : Int) < (L : Int) := by omega
          obtain ⟨g, c, u, hve, hLc, hc, hx, hf, hhm, hset⟩ := ho.at j hlt
          obtain ⟨z, rfl⟩ := hxs u (List.mem_of_getElem? hx)
          injection hve with e1 e2 e3
          subst e1 e3
          have HR := Lib.hid (And.intro hset (And.intro hxs (And.intro hB hhm)))
          clear ho hxs hB hset hhm hx
          go_wp2_with fail
          go_roundw
          case rel =>
            refine ⟨j + 1, _, by omega, by go_num, HR.out.1 _, fun u hu => ?_, HR.out.2.2.1.poke (S := [g]) ((keepBut.refl [g] wr).setCell _ _ (by simp)) (fun y hy => ?_) (fun y hy => ?_) (fun y hy => ?_)⟩
            · rcases List.mem_or_eq_of_mem_set hu with q1 | q1
              · exact HR.out.2.1 u q1
              · exact ⟨_, q1⟩
            · exact (HIN.out.2 y (by rw [HR.out.2.2.2]; exact hy)).2.1
            · exact (HIN.out.2 y (by rw [HR.out.2.2.2]; exact hy)).2.2
            · exact Nat.le_trans HLT.out.2.2.2.1 (HIN.out.2 y (by rw [HR.out.2.2.2]; exact hy)).1
          case measure => simp [intOf]; omega
        · obtain rfl : j = L := by omega
          have HX := Lib.hid hB
          clear ho hxs hB
          go_wp2_with fail
          go_ret
          exact ⟨rfl, F', G', d', HX.out, HIN.out.1⟩
end Go.Proofs.Ytbjonlfjfjlelaa
