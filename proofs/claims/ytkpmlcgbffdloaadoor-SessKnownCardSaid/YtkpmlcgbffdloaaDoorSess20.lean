/-
  SESS, 20: the law's own helpers: what was sent, what is asked.
-/
import Derived.Test.YtkpmlcgbffdloaaDoorSess19
import Derived.Test.YtkpmlcgbffdloaaDoorLow1
namespace Go.Proofs.YtkpmlcgbffdloaaDoor
open Go.RowKit
set_option linter.unusedVariables false
set_option maxRecDepth 100000
set_option linter.unusedSimpArgs false

/-- sends, of the packets that are left, behind a that asked and n that were sent -/
def sendsF (m : Bool) (hd : Int) : List PK → Int → Int → Bool
  | [], a, n => ((a == 3) == m) && (((a == 0) != m) && (((n == 1) == (hd != 0)) && decide (n ≤ 1)))
  | p :: r, a, n => if p.kind = 9 then (if p.dst = a then sendsF m hd r (a + 1) n else false) else if p.kind = 1 then (if p.dst = hd then sendsF m hd r a (n + 1) else false) else false
theorem ownsO.item {w : World} {v : Value} {D : List (PK × List Value)} {K : List Nat} (h : ownsO w 44 87 v D.length (flatP D)) (hi : ∀ t ∈ D, itemV w K t) {i : Nat} {t : PK × List Value} (ht : D[i]? = some t) :
    ∃ g off c, v = .slice (some ⟨g, off, none⟩) D.length c ∧ g < w.heap.size ∧ (∀ j u, t.2[j]? = some u → w.cell? ⟨g, off + i * 87 + j, none⟩ = some u) := by
  obtain ⟨A, c, rfl, h1, h2, h3, h4⟩ := h.form
  have hlt : i < D.length := (List.getElem?_eq_some_iff.1 ht).1
  obtain ⟨g, off, rfl, hg, hh, hc⟩ := h.cell (by omega)
  refine ⟨g, off, c, rfl, hg, fun j u hu => ?_⟩
  have := hc _ u (flatP_at D i t (fun x hx => (hi x hx).len) ht j u hu)
  rw [show off + i * 87 + j = off + (i * 87 + j) by omega]
  exact this
def sendsAt (w : World) (D : List (PK × List Value)) (m : Bool) (hd : Int) (v7 v8 v9 : Value) (wx : World) : Prop :=
  ∃ (i : Nat) (a n : Int), i ≤ D.length ∧ v7 = .int .i64 a ∧ v8 = .int .i64 n ∧ v9 = .int .i64 (i : Int) ∧ (0 ≤ a ∧ a ≤ i ∧ 0 ≤ n ∧ n ≤ i) ∧ Hid (sendsF m hd (D.map (·.1)) 0 0 = sendsF m hd ((D.drop i).map (·.1)) a n) ∧ wx = w
set_option maxHeartbeats 8000000 in
theorem sends_any (v : Value) (D : List (PK × List Value)) (K : List Nat) (w : World) (m : Bool) (hd : Int) (h : ownsO w 44 87 v D.length (flatP D)) (hi : ∀ t ∈ D, itemV w K t) (hl : D.length ≤ 1000) :
    Calls Tryd.prog 23 #[v, .bool m, .int .i64 hd] w fun e w' => e = .returned (.bool (sendsF m hd (D.map (·.1)) 0 0)) ∧ w = w' := by
  obtain ⟨R, hR⟩ : ∃ R, sendsF m hd (D.map (·.1)) 0 0 = R := ⟨_, rfl⟩
  rw [hR]
  have HRr := Lib.hid hR
  have H0 := Lib.hid (And.intro h (And.intro hi hl))
  obtain ⟨A, c, rfl, hc1, hc2, _⟩ := h.form
  obtain ⟨n0, hn0⟩ : ∃ n, D.length = n := ⟨_, rfl⟩
  rw [hn0]
  have hnm : n0 ≤ 9223372036854775807 := by omega
  have HL := Lib.hid (And.intro hn0 hl)
  clear h hi hl hc1 hc2 hn0 hR
  go_enter Tryd.func23, Tryd.ntmps23
  go_wp2_with fail
  go_loopw [7, 8, 9] (fun v7 v8 v9 wx => sendsAt w D m hd v7 v8 v9 wx) (fun _ _ v9 _ => D.length - (intOf v9).toNat)
  case atStart => exact ⟨0, 0, 0, Nat.zero_le _, rfl, rfl, rfl, by omega, Lib.hid rfl, rfl⟩
  case round =>
    obtain ⟨i, a, n, hil, rfl, rfl, rfl, hab, HE, rfl⟩ := hrel
    by_cases hlt : i < n0
    · have hlt' : i < D.length := by rw [HL.out.1]; exact hlt
      obtain ⟨t, ht⟩ : ∃ t, D[i]? = some t := ⟨D[i], List.getElem?_eq_getElem hlt'⟩
      obtain ⟨g, off, c', hv, hg, hcell⟩ := H0.out.1.item H0.out.2.1 ht
      injection hv with e1 e2 e3
      subst e1
      obtain ⟨ev, av, cv, vv, bw, f1, f2⟩ := H0.out.2.1 t (List.mem_of_getElem? ht)
      have c0 := hcell 0 (.int .i64 t.1.kind) (by rw [f1]; rfl)
      have c2 := hcell 2 (.int .i64 t.1.dst) (by rw [f1]; rfl)
      rw [Nat.add_zero] at c0
      have hdr : D.drop i = t :: D.drop (i + 1) := by
        rw [List.drop_eq_getElem_cons hlt']
        rw [List.getElem?_eq_getElem hlt'] at ht
        injection ht with ht
        rw [ht]
      have HE2 := Lib.hid (show R = sendsF m hd (t.1 :: (D.drop (i + 1)).map (·.1)) a n by rw [← HRr.out, HE.out, hdr]; rfl)
      have hi2 : (i : Int) < (n0 : Int) := by omega
      have hwi : IntKind.i64.wrap ((i : Int) + 1) = (i : Int) + 1 := by rw [IntKind.wrap_i64]; have := HL.out; omega
      have hwa : IntKind.i64.wrap (a + 1) = a + 1 := by rw [IntKind.wrap_i64]; have := HL.out; omega
      have hwn : IntKind.i64.wrap (n + 1) = n + 1 := by rw [IntKind.wrap_i64]; have := HL.out; omega
      obtain ⟨kd, hkd⟩ : ∃ k, t.1.kind = k := ⟨_, rfl⟩
      obtain ⟨ds, hds⟩ : ∃ k, t.1.dst = k := ⟨_, rfl⟩
      have HE3 := Lib.hid (show R = if kd = 9 then (if ds = a then sendsF m hd ((D.drop (i + 1)).map (·.1)) (a + 1) n else false) else if kd = 1 then (if ds = hd then sendsF m hd ((D.drop (i + 1)).map (·.1)) a (n + 1) else false) else false by rw [HE2.out, ← hkd, ← hds]; rfl)
      rw [hkd] at c0
      rw [hds] at c2
      clear hcell f1 f2 hg hdr hil hlt HE2 hkd hds
      by_cases k9 : kd = 9
      · subst k9
        by_cases kt : ds = a
        · have HF := Lib.hid (show R = sendsF m hd ((D.drop (i + 1)).map (·.1)) (a + 1) n by rw [HE3.out, if_pos rfl, if_pos kt])
          have q : (ds != a) = false := by simp [kt]
          clear kt HE3
          go_wp2_with fail
          go_roundw
          case rel => exact ⟨i + 1, a + 1, n, hlt', rfl, rfl, by go_num, by omega, Lib.hid (by rw [HRr.out]; exact HF.out), rfl⟩
          case measure => simp only [intOf]; omega
        · have HF := Lib.hid (show R = false by rw [HE3.out, if_pos rfl, if_neg kt])
          have q : (ds != a) = true := by simp [kt]
          clear kt HE3
          go_wp2_with fail
          go_ret
          exact ⟨by rw [HF.out]; try rfl, rfl⟩
      · have q9 : (kd == 9) = false := by simp [k9]
        by_cases k1 : kd = 1
        · subst k1
          by_cases kt : ds = hd
          · have HF := Lib.hid (show R = sendsF m hd ((D.drop (i + 1)).map (·.1)) a (n + 1) by rw [HE3.out, if_neg (by decide), if_pos rfl, if_pos kt])
            have q : (ds != hd) = false := by simp [kt]
            clear kt HE3 k9
            go_wp2_with fail
            go_roundw
            case rel => exact ⟨i + 1, a, n + 1, hlt', rfl, rfl, by go_num, by omega, Lib.hid (by rw [HRr.out]; exact HF.out), rfl⟩
            case measure => simp only [intOf]; omega
          · have HF := Lib.hid (show R = false by rw [HE3.out, if_neg (by decide), if_pos rfl, if_neg kt])
            have q : (ds != hd) = true := by simp [kt]
            clear kt HE3 k9
            go_wp2_with fail
            go_ret
            exact ⟨by rw [HF.out]; try rfl, rfl⟩
        · have HF := Lib.hid (show R = false by rw [HE3.out, if_neg k9, if_neg k1])
          have q1 : (kd == 1) = false := by simp [k1]
          clear k1 k9 HE3
          go_wp2_with fail
          go_ret
          exact ⟨by rw [HF.out]; try rfl, rfl⟩
    · obtain rfl : i = n0 := by have := HL.out.1; omega
      have HF := Lib.hid (show R = (((a == 3) == m) && (((a == 0) != m) && (((n == 1) == (hd != 0)) && decide (n ≤ 1)))) by rw [← HRr.out, HE.out, List.drop_of_length_le (by rw [HL.out.1]; exact Nat.le_refl _)]; rfl)
      clear HE hil hlt
      generalize he3 : (a == 3) = b3 at *
      generalize he0 : (a == 0) = b0 at *
      generalize he1 : (n == 1) = b1 at *
      generalize heh : (hd != 0) = bh at *
      obtain ⟨bn, hbn⟩ : ∃ b, decide (n ≤ 1) = b := ⟨_, rfl⟩
      rw [hbn] at HF
      clear hab
      cases m <;> cases b3 <;> cases b0 <;> cases b1 <;> cases bh <;> cases bn
      all_goals
        go_wp2_with fail
        go_ret
        exact ⟨by rw [HF.out]; try rfl, rfl⟩
end Go.Proofs.YtkpmlcgbffdloaaDoor
