/-
  NETTO: the places of those that go to a node; the law's walk.
-/
import Derived.Test.YtcnlnkkdcofphaaDoorNetKeeps
namespace Go.Proofs.YtcnlnkkdcofphaaDoor
open Go.RowKit
set_option linter.unusedVariables false
set_option maxRecDepth 100000
set_option linter.unusedSimpArgs false

def ndsI : List Int := [0, 1, 2, 10, 11, 12, 13, 20, 21, 22]
def ndsR (w : World) (g : Nat) : Prop := rowAt w g 3 (ndsI.map (Value.int .i64)).toArray
theorem nds_at (r : Nat) (hr : r < 10) : ∃ d, ndsI[r]? = some d ∧ nodeP d = true ∧ i64P d ∧ d ∈ ndsI := by
  have h : ∀ r : Nat, r < 10 → (match ndsI[r]? with | some d => nodeP d && decide (-9223372036854775808 ≤ d) && decide (d ≤ 9223372036854775807) && ndsI.contains d | none => false) = true := by decide +kernel
  have h1 := h r hr
  split at h1
  · rename_i d hd
    simp only [Bool.and_eq_true, decide_eq_true_eq] at h1
    exact ⟨d, hd, h1.1.1.1, ⟨h1.1.1.2, h1.1.2⟩, List.mem_of_getElem? hd⟩
  · cases h1
theorem ndsR.cell {w : World} {g : Nat} (h : ndsR w g) {r : Nat} {d : Int} (hd : ndsI[r]? = some d) : w.cell? ⟨g, r, none⟩ = some (.int .i64 d) := by
  unfold ndsR at h
  rw [h.cell]
  simp [hd]
/-! what toK holds -/
theorem toK_all (T : List (PK × List Value)) (who : Int) : ∀ (k : Nat) (a : Int), a ∈ toK T who k → ∃ (j : Nat) (t : PK × List Value), a = (j : Int) ∧ j < k ∧ T[j]? = some t ∧ t.1.dst = who
  | 0, a, h => by simp [toK] at h
  | k + 1, a, h => by
    rcases List.mem_append.1 h with h | h
    · obtain ⟨j, t, h1, h2, h3⟩ := toK_all T who k a h
      exact ⟨j, t, h1, by omega, h3⟩
    · split at h
      · rename_i t ht
        split at h
        · rename_i hd
          simp only [List.mem_singleton] at h
          exact ⟨k, t, h, by omega, ht, hd⟩
        · simp at h
      · simp at h
theorem toK_up (T : List (PK × List Value)) (who : Int) : ∀ k, (toK T who k).Pairwise (· < ·)
  | 0 => by simp [toK]
  | k + 1 => by
    refine List.pairwise_append.2 ⟨toK_up T who k, ?_, fun a ha b hb => ?_⟩
    · split
      · split <;> simp
      · simp
    · obtain ⟨j, t, rfl, hj, _⟩ := toK_all T who k a ha
      split at hb
      · split at hb
        · simp only [List.mem_singleton] at hb; omega
        · simp at hb
      · simp at hb
theorem toK_lt {T : List (PK × List Value)} {who : Int} {k m : Nat} {a b : Int} (ha : (toK T who k)[m]? = some a) (hb : (toK T who k)[m + 1]? = some b) : a < b := by
  have h := toK_up T who k
  rw [List.pairwise_iff_getElem] at h
  obtain ⟨h1, rfl⟩ := List.getElem?_eq_some_iff.1 ha
  obtain ⟨h2, rfl⟩ := List.getElem?_eq_some_iff.1 hb
  exact h m (m + 1) h1 h2 (by omega)
def sumK (T : List (PK × List Value)) (k : Nat) (l : List Int) : Nat := (l.map fun d => (toK T d k).length).sum
theorem sumK_cons (T : List (PK × List Value)) (k : Nat) (d : Int) (l : List Int) : sumK T k (d :: l) = (toK T d k).length + sumK T k l := by simp [sumK]
theorem sumK_step (T : List (PK × List Value)) (k : Nat) (t : PK × List Value) (ht : T[k]? = some t) : ∀ l : List Int, sumK T (k + 1) l = sumK T k l + (l.filter fun d => t.1.dst = d).length
  | [] => by simp [sumK]
  | d :: r => by
    rw [sumK_cons, sumK_cons, sumK_step T k t ht r]
    simp only [toK, ht, List.length_append]
    by_cases h : t.1.dst = d
    · simp [h]; omega
    · simp [h]; omega
theorem sumK_all (T : List (PK × List Value)) (hd : ∀ t ∈ T, t.1.dst ∈ ndsI) : ∀ k, k ≤ T.length → sumK T k ndsI = k
  | 0, _ => by simp [sumK, toK, ndsI]
  | k + 1, h => by
    obtain ⟨t, ht⟩ : ∃ t, T[k]? = some t := ⟨T[k], List.getElem?_eq_getElem (by omega)⟩
    rw [sumK_step T k t ht, sumK_all T hd k (by omega)]
    have := hd t (List.mem_of_getElem? ht)
    generalize t.1.dst = x at this ⊢
    simp only [ndsI, List.mem_cons, List.not_mem_nil, or_false] at this
    rcases this with rfl | rfl | rfl | rfl | rfl | rfl | rfl | rfl | rfl | rfl <;> simp [ndsI]
theorem sumK_take (T : List (PK × List Value)) (k : Nat) : ∀ (l : List Int) (i : Nat), sumK T k (l.take i) ≤ sumK T k l
  | [], i => by simp
  | d :: r, 0 => by simp [sumK]
  | d :: r, i + 1 => by
    rw [List.take_succ_cons, sumK_cons, sumK_cons]
    have := sumK_take T k r i
    omega
theorem sumK_next (T : List (PK × List Value)) (k : Nat) : ∀ (l : List Int) (i : Nat) (d : Int), l[i]? = some d → sumK T k (l.take (i + 1)) = sumK T k (l.take i) + (toK T d k).length
  | [], i, d, h => by simp at h
  | a :: r, 0, d, h => by simp at h; subst h; simp [sumK]
  | a :: r, i + 1, d, h => by
    rw [List.take_succ_cons, sumK_cons, List.take_succ_cons, sumK_cons, sumK_next T k r i d (by simpa using h)]
    omega
theorem toK_none (T : List (PK × List Value)) (hd : ∀ t ∈ T, t.1.dst ∈ ndsI) (k : Nat) : toK T 5 k = [] := by
  rcases h : toK T 5 k with _ | ⟨a, r⟩
  · rfl
  · obtain ⟨j, t, _, _, ht, h5⟩ := toK_all T 5 k a (by rw [h]; simp)
    have := hd t (List.mem_of_getElem? ht)
    rw [h5] at this
    simp [ndsI] at this
theorem ndsFar {w : World} {p g c : Nat} {v : Value} {T : List (PK × List Value)} {F : List Nat} (h : isN w p v T F c) (hr : ndsR w g) (hm : g ∈ p :: homes v) : False := by
  unfold ndsR at hr
  rcases List.mem_cons.1 hm with rfl | hm
  · exact (hr.apart h.row (by decide)) rfl
  · rcases h.own.2 with ⟨rfl, _⟩ | ⟨g2, off, cap2, cur2, rfl, hr2, _⟩
    · simp [homes_none] at hm
    · simp only [homes_some, List.mem_singleton] at hm
      exact (hr.apart hr2 (by decide)) hm
theorem owns.at {w : World} {A : Option Addr} {n c : Nat} {l : List Int} (h : owns w 3 1 (.slice A n c) n (l.map (Value.int .i64))) {m : Nat} {a : Int} (hm : l[m]? = some a) : ∃ g, A = some ⟨g, 0, none⟩ ∧ w.cell? ⟨g, m, none⟩ = some (.int .i64 a) := by
  have hl : l.length = n := by have := h.1; simpa using this
  have hlt := (List.getElem?_eq_some_iff.1 hm).1
  rcases h.2 with ⟨_, e⟩ | ⟨g, cap, cur, e, hr, h1, h2, h3, h4⟩
  · omega
  · injection e with e1 e2 e3
    refine ⟨g, e1, ?_⟩
    have : (l.map (Value.int .i64))[m]? = some (.int .i64 a) := by simp [hm]
    rw [← h4, List.getElem?_take, if_pos (by omega)] at this
    rw [hr.cell]
    simpa using this
theorem item_dst {w : World} {F : List Nat} {t : PK × List Value} (h : itemV w F t) : t.2[2]? = some (.int .i64 t.1.dst) := by
  obtain ⟨ev, av, cv, vv, bw, e1, e2⟩ := h
  rw [e1]; rfl
def toR1 (w : World) (N p gN : Nat) (v5 : Value) (wx : World) : Prop :=
  ∃ (i : Nat) (v : Value) (T : List (PK × List Value)), v5 = .int .i64 (i : Int) ∧ i ≤ N ∧ i ≤ 60 ∧ T.length = i ∧ nOn w wx p v T [] i ∧ (∀ t ∈ T, t.1.bare ∧ t.1.dst ∈ ndsI) ∧ ndsR wx gN ∧ w.heap.size ≤ gN
set_option maxHeartbeats 16000000 in
theorem netTo_law (A : Option Addr) (g n c : Nat) (xs : List Int) (w : World) (rd : reads w A g n 1 (cellsK .i64 xs)) (hn : n ≤ c) (hc : c ≤ maxLen) (wf : ∀ x ∈ xs, (Lit.int .i64 x).wf = true) (hfl : fieldsAt w) :
    Calls Tryd.prog 7 #[.slice A n c] w fun e w' => e = .returned (.bool true) ∧ keepBut [] w w' := by
  have hxl : xs.length = n := by have := rd.1; simp [cellsK] at this; omega
  unfold maxLen at hc
  have HX := Lib.hid (And.intro rd (And.intro wf hxl))
  have HFL := Lib.hid hfl
  clear rd wf hxl hfl
  go_enter Tryd.func7, Tryd.ntmps7
  go_upto_region 2 with fail
  have r1 : ndsR (w.alloc (.cells #[.int .i64 0, .int .i64 1, .int .i64 2, .int .i64 10, .int .i64 11, .int .i64 12, .int .i64 13, .int .i64 20, .int .i64 21, .int .i64 22] 3)) w.heap.size := rowAt.new w _ _
  have k1 := (keepBut.refl [] w).alloc (.cells #[.int .i64 0, .int .i64 1, .int .i64 2, .int .i64 10, .int .i64 11, .int .i64 12, .int .i64 13, .int .i64 20, .int .i64 21, .int .i64 22] 3)
  generalize w.alloc (.cells #[.int .i64 0, .int .i64 1, .int .i64 2, .int .i64 10, .int .i64 11, .int .i64 12, .int .i64 13, .int .i64 20, .int .i64 21, .int .i64 22] 3) = w1 at r1 k1 ⊢
  obtain ⟨gN, hgN⟩ : ∃ gN, w.heap.size = gN := ⟨_, rfl⟩
  rw [hgN] at r1 ⊢
  have G1 := Lib.hid (And.intro r1 (And.intro k1 (show w.heap.size ≤ gN by omega)))
  clear r1 k1 hgN
  go_upto_region 4 with (go_at_call 8; refine (newN_any _).mono ?_; rintro e w2 ⟨p, rfl, h2, k2, l2⟩; have N2 := Lib.hid (show nOn w w2 p (.slice none 0 0) [] [] 0 ∧ ndsR w2 gN from ⟨⟨h2, G1.out.2.1.then k2 (by simp), Nat.le_trans G1.out.2.1.size l2, by simp [homes_none]⟩, k2.row G1.out.1 (by simp)⟩); clear h2 k2 l2)
  go_loopw [5] (fun v5 wx => toR1 w n p gN v5 wx) (fun v5 _ => n - (intOf v5).toNat)
  case atStart => exact ⟨0, _, [], rfl, Nat.zero_le _, by omega, rfl, N2.out.1, by simp, N2.out.2, G1.out.2.2⟩
  case round =>
    clear N2
    obtain ⟨i, v, T, rfl, hiN, hi60, hTi, hN, hb, hR, hgN⟩ := hrel
    by_cases hlt : i < n ∧ i < 60
    · obtain ⟨hi1, hi2⟩ := hlt
      obtain ⟨o, rfl, hgl, hcell⟩ := HX.out.1.2 (by omega)
      obtain ⟨x, hx⟩ : ∃ x, xs[i]? = some x := ⟨_, List.getElem?_eq_getElem (by rw [HX.out.2.2]; exact hi1)⟩
      have cx := (hN.kept.cell (p := ⟨g, o + i, none⟩) hgl (by simp)).trans (hcell i (.int .i64 x) (by simp [cellsK, hx]))
      have hxb := bd_k (HX.out.2.1 x (List.mem_of_getElem? hx))
      have hi1' : (i : Int) < (n : Int) := by omega
      have hi2' : (i : Int) < 60 := by omega
      have hi0 : (0 : Int) ≤ (i : Int) := by omega
      obtain ⟨k, hk⟩ : ∃ k : Nat, x % 10 = (k : Int) := ⟨(x % 10).toNat, by have := Int.emod_nonneg x (show (10 : Int) ≠ 0 by omega); omega⟩
      have hk10 : k < 10 := by have := Int.emod_lt_of_pos x (show (0 : Int) < 10 by omega); omega
      obtain ⟨d, hd, hd1, hd2, hd3⟩ := nds_at k hk10
      have cd := hR.cell hd
      have PB := Lib.hid (show ∀ w', Calls Tryd.prog 13 #[.int .i64 x, .int .i64 10] w' (fun e w'' => e = .returned (.int .i64 (k : Int)) ∧ w' = w'') from fun w' => by have h := bring_any x 10 hxb.1 hxb.2 (by omega) (by omega) w'; rw [hk] at h; exact h)
      have PA := Lib.hid (ask_any d (i : Int) (by omega) (by omega))
      have HS := Lib.hid (And.intro hN (And.intro hb (And.intro hR (And.intro hd1 (And.intro hd2 (And.intro hd3 (And.intro hTi hgN)))))))
      have NI := Lib.hid (show nodeP (10 + (i : Int) % 4) = true ∧ i64P (10 + (i : Int) % 4) ∧ (i : Int) ≤ 9007199254740991 ∧ T.length < 2000 ∧ i < 1000000 from ⟨by
        have h1 : 0 ≤ (i : Int) % 4 := Int.emod_nonneg _ (by omega)
        have h2 : (i : Int) % 4 < 4 := Int.emod_lt_of_pos _ (by omega)
        unfold nodeP
        rw [inP_yes (n := 10 + (i : Int) % 4) (lo := 10) (hi := 13) ⟨by omega, by omega⟩]
        simp, by unfold i64P; omega, by omega, by omega, by omega⟩)
      have hk0 : (k : Int) < 10 := by omega
      have hk00 : (0 : Int) ≤ (k : Int) := by omega
      have hwi : IntKind.i64.wrap ((i : Int) + 1) = (i : Int) + 1 := by rw [IntKind.wrap_i64]; omega
      clear hN hb hR hd hd1 hd2 hd3 hk hxb hx hgl hcell hTi
      go_wp2_with (first
        | (go_at_call 13; (with_reducible refine (PB.out _).mono ?_); rintro e w' ⟨rfl, rfl⟩)
        | (go_at_call 26; (with_reducible refine (PA.out _).mono ?_); rintro e wa ⟨rfl, ka⟩; have PP := Lib.hid (put_on (HS.out.1.over ka) HFL.out 8 (10 + (i : Int) % 4) d (i : Int) (askX d i) (fun w => plP_item 8 (10 + (i : Int) % 4) d i w) NI.out.2.2.2.1 NI.out.2.2.2.2 NI.out.2.1 HS.out.2.2.2.2.1 (alive_ok _ d i NI.out.1 HS.out.2.2.2.1 (by omega) NI.out.2.2.1)); have KA := Lib.hid ka; clear ka)
        | (go_at_call 25; (with_reducible refine PP.out.mono ?_); rintro e wb ⟨vb, Xb, Fb, rfl, nb, kb⟩; have NB := Lib.hid (And.intro nb kb); clear nb kb))
      go_roundw
      case rel =>
        have hb' : ∀ t ∈ T ++ [(plP 8 (10 + (i : Int) % 4) d (i : Int), Xb)], t.1.bare ∧ t.1.dst ∈ ndsI := fun t ht => by
          rcases List.mem_append.1 ht with ht | ht
          · exact HS.out.2.1 t ht
          · simp only [List.mem_singleton] at ht; subst ht; exact ⟨plP_bare _ _ _ _, HS.out.2.2.2.2.2.1⟩
        refine ⟨i + 1, vb, T ++ [(plP 8 (10 + (i : Int) % 4) d (i : Int), Xb)], by go_num, by omega, by omega, by simp [HS.out.2.2.2.2.2.2.1], NB.out.1.bare (fun t ht => (hb' t ht).1), hb', NB.out.2.row (KA.out.row HS.out.2.2.1 (by simp)) (fun hm => ndsFar HS.out.1.net HS.out.2.2.1 hm), HS.out.2.2.2.2.2.2.2⟩
      case measure => simp [intOf]; omega
    · have hx : ((n : Int) ≤ 60 ∧ ¬ (i : Int) < (n : Int) ∧ i = n) ∨ (¬ (n : Int) ≤ 60 ∧ (i : Int) < (n : Int) ∧ ¬ (i : Int) < 60 ∧ i = 60) := by omega
      obtain ⟨Z, hZl, hZ, hZb, hZi⟩ := zeroP
      have HZP := Lib.hid (And.intro hZ hZl)
      have HS := Lib.hid (And.intro hN (And.intro hb (And.intro hR (And.intro hTi (sumK_all T (fun t ht => (hb t ht).2) T.length (Nat.le_refl _))))))
      clear hZl hZ hZb hZi hN hb hR hTi hlt hgN
      generalize wr = wq at *
      rcases hx with ⟨hx0, hx1, hxi⟩ | ⟨hx0, hx1, hx2, hxi⟩
      all_goals
        have HXI := Lib.hid hxi
        clear hxi
        go_wp2_with fail
        go_loopw [6, 7, 8, 9, 10, 11] (fun v6 v7 _ _ _ _ wx => ∃ j : Nat, j ≤ 10 ∧ v7 = .int .i64 (j : Int) ∧ v6 = .int .i64 ((sumK T T.length (ndsI.take j) : Nat) : Int) ∧ keepBut [] wq wx) (fun _ v7 _ _ _ _ _ => 10 - (intOf v7).toNat)
        case atStart => exact ⟨0, by omega, rfl, by simp [sumK], keepBut.refl _ _⟩
        case round =>
          obtain ⟨j, hj, rfl, rfl, kj⟩ := hrel
          by_cases hjl : j < 10
          · obtain ⟨d, hd, _, _, _⟩ := nds_at j hjl
            have cd := (kj.row HS.out.2.2.1 (by simp)).cell j
            rw [show (ndsI.map (Value.int .i64)).toArray[j]? = some (.int .i64 d) by simp [hd]] at cd
            have hj1 : (j : Int) < 10 := by omega
            have hj0 : (0 : Int) ≤ (j : Int) := by omega
            have hwj : IntKind.i64.wrap ((j : Int) + 1) = (j : Int) + 1 := by rw [IntKind.wrap_i64]; omega
            have PT := Lib.hid (toN_any p v T [] i d wr (HS.out.1.over kj).net (by have := HS.out.2.2.2.1; omega))
            have KJ := Lib.hid (And.intro kj hd)
            clear kj hd
            obtain ⟨L, hL⟩ : ∃ L, toK T d T.length = L := ⟨_, rfl⟩
            rw [hL] at PT
            obtain ⟨s, hs⟩ : ∃ s, sumK T T.length (ndsI.take j) = s := ⟨_, rfl⟩
            rw [hs]
            have HLS := Lib.hid (And.intro hL hs)
            clear hL hs
            go_upto_region 13 with (go_at_call 15; (with_reducible refine PT.out.mono ?_); rintro e wu ⟨u, rfl, ou, hu, ku⟩; have OU := Lib.hid (And.intro ou (KJ.out.1.then ku (by simp))); obtain ⟨Au, cu, rfl, _⟩ := id ou.form; have cd2 := (ku.cell (p := ⟨gN, j, none⟩) (World.block_lt_of_cell? _ _ cd) (by simp)).trans cd; clear ou hu ku)
            clear cd
            go_wp2_with fail
            go_loopw [9, 10, 11] (fun v9 _ _ wx => ∃ m : Nat, m ≤ L.length ∧ v9 = .int .i64 (m : Int) ∧ keepBut [] wu wx) (fun v9 _ _ _ => L.length - (intOf v9).toNat)
            case atStart => exact ⟨0, Nat.zero_le _, rfl, keepBut.refl _ _⟩
            case round =>
              obtain ⟨m, hm, rfl, km⟩ := hrel
              by_cases hml : m < L.length
              · obtain ⟨a, ha⟩ : ∃ a, L[m]? = some a := ⟨_, List.getElem?_eq_getElem hml⟩
                obtain ⟨z, t, rfl, hz, ht, hdst⟩ := toK_all T d T.length a (by rw [HLS.out.1]; exact List.mem_of_getElem? ha)
                have hu := OU.out.1.keep km (by simp)
                obtain ⟨gu, rfl, ca⟩ := owns.at hu ha
                have hm1 : (m : Int) < (L.length : Int) := by omega
                have hm0 : (0 : Int) ≤ (m : Int) := by omega
                have hwm : IntKind.i64.wrap ((m : Int) + 1) = (m : Int) + 1 := by rw [IntKind.wrap_i64]; have := toK_len T d T.length; rw [HLS.out.1] at this; have := HS.out.2.2.2.1; omega
                have PA := Lib.hid (atN_any p v T [] i z t wr (HS.out.1.over (OU.out.2.then km (by simp))).net ht (HS.out.2.1 t (List.mem_of_getElem? ht)).1.fits)
                have HM := Lib.hid (And.intro km (And.intro ha (And.intro hu hdst)))
                have cd3 := (km.cell (p := ⟨gN, j, none⟩) (World.block_lt_of_cell? _ _ cd2) (by simp)).trans cd2
                clear km ha hu hz ht hdst
                go_upto_region 17 with (first
                  | (go_at_call 17; (with_reducible refine PA.out.mono ?_); rintro e wb ⟨Xn, Gn, rfl, ib, _, kb⟩; have NB := Lib.hid (And.intro ib kb); clear ib kb)
                  | (with_reducible refine wpList_alloc_to _ _ rfl 40 rfl _ HZP.out.1 rfl ?_)
                  | (refine wpList_store_mid rfl 40 (.tmp 10) (.tmp 64) rfl wb.heap.size 0 Xn.toArray rfl rfl (there_newP (by rw [NB.out.1.len]; exact HZP.out.2.symm)) (by rw [List.size_toArray, NB.out.1.len]; exact info_pk) (all_oneCell_toArray NB.out.1.one) ?_))
                have hst := storedP (w := wb) (t := 40) (Z := Z) (X := Xn) (by rw [NB.out.1.len]; exact HZP.out.2.symm)
                obtain ⟨w3, hw3⟩ : ∃ w3, (wb.alloc (.cells Z.toArray 40)).setCells wb.heap.size 0 Xn = w3 := ⟨_, rfl⟩
                rw [hw3] at hst ⊢
                have x3 : w3.cell? ⟨wb.heap.size, 2, none⟩ = some (.int .i64 d) := by rw [hst.1.cell, ← HM.out.2.2.2]; simpa using item_dst NB.out.1
                have K3 := Lib.hid (NB.out.2.then hst.2 (by simp))
                have cd4 := (K3.out.cell (p := ⟨gN, j, none⟩) (World.block_lt_of_cell? _ _ cd3) (by simp)).trans cd3
                have ca4 := (K3.out.cell (p := ⟨gu, m, none⟩) (World.block_lt_of_cell? _ _ ca) (by simp)).trans ca
                clear hst hw3 cd3 ca
                cases m with
                | zero =>
                  go_quiet (fail)
                  go_wp2_with fail
                  go_roundw
                  case rel => exact ⟨1, by omega, by go_num, (HM.out.1.then K3.out (by simp)).drewN _⟩
                  case measure => simp [intOf]; omega
                | succ m' =>
                  obtain ⟨a', ha'⟩ : ∃ a', L[m']? = some a' := ⟨_, List.getElem?_eq_getElem (by omega)⟩
                  obtain ⟨z', t', rfl, _, _, _⟩ := toK_all T d T.length a' (by rw [HLS.out.1]; exact List.mem_of_getElem? ha')
                  obtain ⟨gu', eu, ca'⟩ := owns.at HM.out.2.2.1 ha'
                  injection eu with eu
                  injection eu with eu
                  subst eu
                  have ca5 := (K3.out.cell (p := ⟨gu, m', none⟩) (World.block_lt_of_cell? _ _ ca') (by simp)).trans ca'
                  have hlt2 : (z' : Int) < (z : Int) := toK_lt (by rw [HLS.out.1]; exact ha') (by rw [HLS.out.1]; exact HM.out.2.1)
                  have hle2 : ¬ (z : Int) ≤ (z' : Int) := by omega
                  have hLb : L.length ≤ 60 := by have h1 := toK_len T d T.length; rw [HLS.out.1] at h1; have h2 := HS.out.2.2.2.1; omega
                  have hw1 : IntKind.i64.wrap ((m' : Int) + 1 - 1) = (m' : Int) := by rw [IntKind.wrap_i64]; omega
                  have hw2 : IntKind.i64.wrap (m' : Int) = (m' : Int) := by rw [IntKind.wrap_i64]; omega
                  have hm2 : (0 : Int) ≤ (m' : Int) := by omega
                  have hm3 : (m' : Int) < (L.length : Int) := by omega
                  have hm4 : (0 : Int) < (m' : Int) + 1 := by omega
                  clear ca' ha'
                  go_quiet (fail)
                  go_wp2_with fail
                  go_roundw
                  case rel => exact ⟨m' + 2, by omega, by go_num, (HM.out.1.then K3.out (by simp)).drewN _⟩
                  case measure => simp [intOf]; omega
              · obtain rfl : m = L.length := by omega
                have hm1 : ¬ (L.length : Int) < (L.length : Int) := by omega
                have hsum : s + L.length ≤ 60 := by
                  have h1 := sumK_next T T.length ndsI j d KJ.out.2
                  have h2 := sumK_take T T.length ndsI (j + 1)
                  rw [h1, HLS.out.1, HLS.out.2, HS.out.2.2.2.2, HS.out.2.2.2.1] at h2
                  omega
                have hws : IntKind.i64.wrap ((s : Int) + (L.length : Int)) = (s : Int) + (L.length : Int) := by rw [IntKind.wrap_i64]; omega
                have HKM := Lib.hid (OU.out.2.then km (by simp))
                clear km hsum
                go_wp2_with fail
                go_roundw
                case rel => exact ⟨j + 1, by omega, by go_num, by rw [sumK_next T T.length ndsI j d KJ.out.2, HLS.out.1, HLS.out.2]; push_cast; rfl, HKM.out⟩
                case measure => simp [intOf]; omega
          · obtain rfl : j = 10 := by omega
            have h10 : sumK T T.length (ndsI.take 10) = i := by rw [show ndsI.take 10 = ndsI from rfl, HS.out.2.2.2.2, HS.out.2.2.2.1]
            have hTl := HS.out.2.2.2.1
            have PL := Lib.hid (show Calls Tryd.prog 11 #[.pointer (some ⟨p, 0, none⟩)] wr (fun e w' => e = .returned (.int .i64 (i : Int)) ∧ wr = w') by rw [← hTl]; exact lenN_any p v T [] T.length wr (by have := (HS.out.1.over kj).net; rw [← hTl] at this; exact this))
            have PT := Lib.hid (toN_any p v T [] i 5 wr (HS.out.1.over kj).net (by omega))
            rw [toK_none T (fun t ht => (HS.out.2.1 t ht).2)] at PT
            have KK := Lib.hid (HS.out.1.kept.then kj (by simp))
            rw [h10]
            clear kj h10 hTl
            first
              | have hq : ((i : Int) == (n : Int)) = true := by simp [HXI.out]
              | have hq : ((i : Int) == 60) = true := by simp [HXI.out]
            go_wp2_with (first
              | (go_at_call 11; (with_reducible refine PL.out.mono ?_); rintro e w' ⟨rfl, rfl⟩)
              | (go_at_call 15; (with_reducible refine PT.out.mono ?_); rintro e wt ⟨u, rfl, ou, hu, kt⟩; obtain ⟨Au, cu, rfl, _⟩ := id ou.form; have PW := Lib.hid (works_any wt ((HFL.out.keep KK.out (by simp)).keep kt (by simp))); have KT := Lib.hid kt; clear ou hu kt)
              | (go_at_call 19; (with_reducible refine PW.out.mono ?_); rintro e wy ⟨rfl, ky⟩; have KY := Lib.hid ky; clear ky))
            go_ret
            exact ⟨rfl, (KK.out.then KT.out (by simp)).then KY.out (by simp)⟩
end Go.Proofs.YtcnlnkkdcofphaaDoor
