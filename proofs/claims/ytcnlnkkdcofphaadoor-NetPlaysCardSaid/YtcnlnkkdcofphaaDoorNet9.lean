/-
  NET, 9: the statements' EqInts; To.
-/
import Derived.Test.YtcnlnkkdcofphaaDoorNet8
import Derived.LoopTactic
import Derived.Deep.QuietTactic
import Derived.BigQuiet
import Derived.BigRegion
namespace Go.Proofs.YtcnlnkkdcofphaaDoor
open Go.RowKit
set_option linter.unusedVariables false
set_option maxRecDepth 100000
set_option linter.unusedSimpArgs false

def held (w : World) (F : List Nat) (v : Value) (l : List Int) : Prop :=
  ∃ (A : Option Addr) (c g : Nat), v = .slice A l.length c ∧ l.length ≤ c ∧ c ≤ maxLen ∧ l.length ≤ 17592186044416 ∧ reads w A g l.length 1 (l.map (Value.int .i64)) ∧ (l ≠ [] → g ∈ F)
theorem held.keep {S F : List Nat} {w w' : World} {v : Value} {l : List Int} (h : held w F v l) (hk : keepBut S w w') (hS : ∀ y ∈ F, y ∉ S) : held w' F v l := by
  obtain ⟨A, c, g, h1, h2, h3, h4, h5, h6⟩ := h
  exact ⟨A, c, g, h1, h2, h3, h4, h5.keepS hk (fun hn => hS g (h6 (by rintro rfl; simp at hn))), h6⟩
theorem held.cell {w : World} {F : List Nat} {A : Option Addr} {n c : Nat} {l : List Int} (h : held w F (.slice A n c) l) (i : Nat) (hi : i < l.length) :
    n = l.length ∧ n ≤ c ∧ ∃ g o x, A = some ⟨g, o, none⟩ ∧ l[i]? = some x ∧ w.cell? ⟨g, o + i, none⟩ = some (.int .i64 x) := by
  obtain ⟨A', c', g, e, h2, h3, h4, h5, h6⟩ := h
  injection e with e1 e2 e3
  subst e1 e2 e3
  obtain ⟨o, rfl, _, hc⟩ := h5.2 (by omega)
  exact ⟨rfl, h2, g, o, l[i], rfl, List.getElem?_eq_getElem hi, hc i _ (by simp [List.getElem?_eq_getElem hi])⟩

def eqRel (w : World) (l m : List Int) (v5 : Value) (wx : World) : Prop := ∃ k : Nat, k ≤ l.length ∧ v5 = .int .i64 (k : Int) ∧ l.take k = m.take k ∧ keepBut [] w wx

set_option maxHeartbeats 2000000 in
theorem eqInts_any (F G : List Nat) (u v : Value) (l m : List Int) (w : World) (hl : held w F u l) (hm : held w G v m) :
    Calls Tryd.prog 14 #[u, v] w fun e w' => e = .returned (.bool (decide (l = m))) ∧ keepBut [] w w' := by
  obtain ⟨A, c, g, rfl, h2, h3, h4, h5, h6⟩ := id hl
  obtain ⟨B, d, k0, rfl, g2, g3, g4, g5, g6⟩ := id hm
  clear h5 h6 g5 g6
  by_cases hlen : l.length = m.length
  · have t1 : ((l.length : Int) == (m.length : Int)) = true := by simp [hlen]
    have t2 : ((l.length : Int) != (m.length : Int)) = false := by simp [hlen]
    have HL := Lib.hid (And.intro hl (And.intro hm hlen))
    clear hl hm hlen
    unfold maxLen at h3 g3
    go_enter Tryd.func14, Tryd.ntmps14
    go_upto_region 4 with fail
    go_loopw [5] (fun v5 wx => eqRel w l m v5 wx) (fun v5 _ => l.length - (intOf v5).toNat)
    case atStart => exact ⟨0, by omega, rfl, by simp, keepBut.refl _ _⟩
    case round =>
      obtain ⟨k, hk, rfl, htk, kk⟩ := hrel
      have hlen := HL.out.2.2
      by_cases hlt : k < l.length
      · obtain ⟨-, -, ga, oa, x, rfl, hx, cx⟩ := (HL.out.1.keep kk (by simp)).cell k hlt
        obtain ⟨-, -, gb, ob, y, rfl, hy, cy⟩ := (HL.out.2.1.keep kk (by simp)).cell k (by omega)
        have h1 : (k : Int) < (l.length : Int) := by omega
        have h2 : (k : Int) < (m.length : Int) := by omega
        have HT := Lib.hid (And.intro htk (And.intro kk (And.intro hx (And.intro hy hlen))))
        clear htk kk hx hy hlen
        go_upto_region 6 with fail
        go_quiet (fail)
        by_cases hxy : x = y
        · have t3 : (x == y) = true := by simpa using hxy
          have t4 : (x != y) = false := by simpa using hxy
          have HXY := Lib.hid hxy
          clear hxy
          go_wp2
          go_roundw
          case rel => exact ⟨k + 1, by omega, by go_num, by rw [List.take_add_one, List.take_add_one, HT.out.1, HT.out.2.2.1, HT.out.2.2.2.1, HXY.out], HT.out.2.1.drewN _⟩
          case measure => simp [intOf]; omega
        · have t3 : (x == y) = false := by simpa using hxy
          have t4 : (x != y) = true := by simpa using hxy
          have HXY := Lib.hid hxy
          clear hxy
          go_wp2
          go_ret
          have hne : decide (l = m) = false := by
            simp
            intro e
            have e1 := HT.out.2.2.1
            rw [e, HT.out.2.2.2.1] at e1
            exact HXY.out (by injection e1 with e1; exact e1.symm)
          rw [hne]
          exact ⟨rfl, HT.out.2.1.drewN _⟩
      · obtain rfl : k = l.length := by omega
        have he : decide (l = m) = true := by
          simp
          rw [List.take_length] at htk
          rw [htk, hlen, List.take_length]
        have HE := Lib.hid (And.intro he kk)
        clear he kk htk hlen
        go_wp2
        go_ret
        rw [HE.out.1]
        exact ⟨rfl, HE.out.2⟩
  · have t1 : ((l.length : Int) == (m.length : Int)) = false := by simp; omega
    have t2 : ((l.length : Int) != (m.length : Int)) = true := by simp; omega
    have HE := Lib.hid (show decide (l = m) = false by simp; intro e; exact hlen (by rw [e]))
    clear hl hm hlen
    go_enter Tryd.func14, Tryd.ntmps14
    go_wp2
    go_ret
    rw [HE.out]
    exact ⟨rfl, keepBut.refl _ _⟩


/-- the places, up to k, of those that go to who -/
def toK (T : List (PK × List Value)) (who : Int) : Nat → List Int
  | 0 => []
  | k + 1 => toK T who k ++ (match T[k]? with | some t => if t.1.dst = who then [(k : Int)] else [] | none => [])
theorem toK_len (T : List (PK × List Value)) (who : Int) : ∀ k, (toK T who k).length ≤ k
  | 0 => by simp [toK]
  | k + 1 => by
    have := toK_len T who k
    simp only [toK, List.length_append]
    split
    · split <;> simp <;> omega
    · simp; omega
def toRel (w : World) (T : List (PK × List Value)) (who : Int) (v5 v15 : Value) (wx : World) : Prop :=
  ∃ k : Nat, k ≤ T.length ∧ v15 = .int .i64 (k : Int) ∧ keepBut [] w wx ∧ owns wx 3 1 v5 (toK T who k).length ((toK T who k).map (Value.int .i64)) ∧ ∀ x ∈ homes v5, w.heap.size ≤ x
set_option maxHeartbeats 8000000 in
theorem toN_any (p : Nat) (v : Value) (T : List (PK × List Value)) (F : List Nat) (c : Nat) (who : Int) (w : World) (h : isN w p v T F c) (hk : T.length ≤ 100000) :
    Calls Tryd.prog 15 #[.pointer (some ⟨p, 0, none⟩), .int .i64 who] w fun e w' => ∃ u, e = .returned u ∧ owns w' 3 1 u (toK T who T.length).length ((toK T who T.length).map (Value.int .i64)) ∧ (∀ x ∈ homes u, w.heap.size ≤ x) ∧ keepBut [] w w' := by
  obtain ⟨A, k, rfl, hk1, hk2⟩ := h.form
  have x1 : w.cell? ⟨p, 1, none⟩ = some (.slice A T.length k) := h.row.cell 1
  obtain ⟨Z, hZl, hZ, hZb, hZi⟩ := zeroP
  have HZ := Lib.hid (And.intro hZ hZl)
  have HN := Lib.hid h
  have HC := Lib.hid (And.intro hk (And.intro hk1 hk2))
  clear h hk hk1 hk2 hZl hZ hZb hZi
  go_enter Tryd.func15, Tryd.ntmps15
  go_wp2_with (go_at_call 36; refine (noneN_any _ _ _ _ _ _ HN.out).mono ?_; rintro e w' ⟨rfl, rfl⟩)
  go_loopw [5, 6, 7, 15] (fun v5 v6 v7 v15 wx => toRel w T who v5 v15 wx) (fun _ _ _ v15 _ => T.length - (intOf v15).toNat)
  case atStart => exact ⟨0, Nat.zero_le _, rfl, keepBut.refl _ _, owns.nil _ _ _, by simp [homes_none]⟩
  case round =>
    obtain ⟨i, hi, rfl, kk, ho, hh⟩ := hrel
    by_cases hlt : i < T.length
    · obtain ⟨t, ht⟩ : ∃ t, T[i]? = some t := ⟨T[i], List.getElem?_eq_getElem hlt⟩
      have hn := HN.out.over kk
      obtain ⟨g, off, rfl, hg, hg2, hr⟩ := hn.item ht
      have htl : t.2.length = 87 := hn.lens t (List.mem_of_getElem? ht)
      have hto : ∀ u ∈ t.2, u.oneCell' = true := (hn.its t (List.mem_of_getElem? ht)).one
      have hi2 : (i : Int) < (T.length : Int) := by omega
      have hst := storedP (w := wr) (t := 40) (Z := Z) (X := t.2) (by rw [htl]; exact HZ.out.2.symm)
      have hth := there_newP (w := wr) (t := 40) (Z := Z) (X := t.2) (by rw [htl]; exact HZ.out.2.symm)
      obtain ⟨w2, hw2⟩ : ∃ w2, wr.alloc (.cells Z.toArray 40) = w2 := ⟨_, rfl⟩
      rw [hw2] at hst hth
      obtain ⟨w3, hw3⟩ : ∃ w3, w2.setCells wr.heap.size 0 t.2 = w3 := ⟨_, rfl⟩
      rw [hw3] at hst
      have hd : t.2[2]? = some (.int .i64 t.1.dst) := by
        obtain ⟨ev, av, cv, vv, bw, e1, e2⟩ := hn.its t (List.mem_of_getElem? ht)
        rw [e1]; rfl
      have x2 : w3.cell? ⟨wr.heap.size, 2, none⟩ = some (.int .i64 t.1.dst) := by rw [hst.1.cell]; simpa using hd
      have HT := Lib.hid (And.intro htl (And.intro hto ht))
      have HR := Lib.hid hr
      have HI := Lib.hid (show (Tryd.prog.info? 40).map (·.size) = some t.2.length by rw [htl]; exact info_pk)
      have HTH := Lib.hid hth
      have HW2 := Lib.hid hw2
      have HW3 := Lib.hid hw3
      have HO := Lib.hid (And.intro (ho.keep hst.2 (by simp)) (And.intro hh (kk.then hst.2 (by simp))))
      have hi0 : (0 : Int) ≤ (i : Int) := by omega
      have hwr : IntKind.i64.wrap ((i : Int) + 1) = (i : Int) + 1 := by rw [IntKind.wrap_i64]; have := HC.out.1; omega
      clear hn hg hg2 hr htl hto ht hst hth hw2 hw3 hd ho hh kk
      go_upto_region 7 with (first
        | (refine wpList_load_mid_g 40 (.tmp 18) rfl g (off + i * 87) rfl t.2 _ HR.out Tryd.underlying40 rfl HI.out rfl ?_)
        | (with_reducible refine wpList_alloc_to _ _ rfl 40 rfl _ HZ.out.1 HW2.out ?_)
        | (refine wpList_store_mid rfl 40 (.tmp 7) (.tmp 19) rfl wr.heap.size 0 t.2.toArray rfl rfl HTH.out (by rw [List.size_toArray, HT.out.1]; exact info_pk) (all_oneCell_toArray HT.out.2.1) ?_))
      rw [HW3.out]
      have KS : Hid ((toK T who i).length + 1 ≤ 200000) := Lib.hid (by have := toK_len T who i; have := HC.out.1; omega)
      obtain ⟨i0, hi0', hz0, hz1, hz2⟩ := info_parts infoIntc
      by_cases hd : t.1.dst = who
      · have hq : (t.1.dst == who) = true := by simpa using hd
        have HS := Lib.hid (show toK T who (i + 1) = toK T who i ++ [(i : Int)] by simp [toK, HT.out.2.2, hd])
        clear hd
        go_wp2_with (at_builtin; refine wp_append _ rfl _ _ 35 rfl 3 i0 (.int .i64 0) 1 8 Tryd.underlying35 hi0' hz0 hz1 hz2 rfl (by decide) u5 (toK T who i).length _ rfl (HO.out.1.alloc _) (some ⟨w3.heap.size, 0, none⟩) w3.heap.size 1 1 [.int .i64 (i : Int)] (by simp [Act.eval]) (reads_one w3 3 (.int .i64 (i : Int))) (by intro u hu; simp at hu; subst hu; rfl) (by have := KS.out; omega) (by have := KS.out; unfold maxLen; omega) ?_; intro A4 c4 w4 o4 k4 h4)
        go_roundw
        case rel =>
          have s3 := HO.out.2.2.size
          refine ⟨i + 1, by omega, by go_num, HO.out.2.2.then (((keepBut.refl [] w3).alloc _).more (by simp) |>.then k4 (fun x hx => .inl hx)) (fun x hx => .inr (HO.out.2.1 x hx)), ?_, fun x hx => ?_⟩
          · rw [HS.out]
            simpa using o4
          · rcases h4 x hx with h5 | h5
            · exact HO.out.2.1 x h5
            · rw [World.size_alloc] at h5; omega
        case measure => simp [intOf]; omega
      · have hq : (t.1.dst == who) = false := by simpa using hd
        have HS := Lib.hid (show toK T who (i + 1) = toK T who i by simp [toK, HT.out.2.2, hd])
        clear hd
        go_wp2
        go_roundw
        case rel => exact ⟨i + 1, by omega, by go_num, HO.out.2.2, by rw [HS.out]; exact HO.out.1, HO.out.2.1⟩
        case measure => simp [intOf]; omega
    · obtain rfl : i = T.length := by omega
      have hlt' : ¬ (T.length : Int) < (T.length : Int) := by omega
      have HO := Lib.hid (And.intro ho (And.intro hh kk))
      clear ho hh kk
      go_wp2
      go_ret
      exact ⟨_, rfl, HO.out⟩
end Go.Proofs.YtcnlnkkdcofphaaDoor
