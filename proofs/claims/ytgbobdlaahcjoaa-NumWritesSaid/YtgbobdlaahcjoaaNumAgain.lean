/-
  NumAgain: what can be read as a count has just these bytes.
-/
import Derived.Test.YtgbobdlaahcjoaaNumOrder
namespace Go.Proofs.Ytgbobdlaahcjoaa
open Go.RowKit
set_option linter.unusedVariables false

theorem cnt_again (most : Int) : ∀ (l : List UInt8) (s m : Nat), (m = 0 → s = 0) → (cnt most l s m).2.e = 0 →
    ∃ q, l = q ++ (cnt most l s m).2.l ∧ cbHi m ++ q = cb (cnt most l s m).1.toNat ∧ (cnt most l s m).1 ≤ mxN := by
  intro l
  induction l with
  | nil => intro s m h1 h2; simp [cnt] at h2
  | cons b t ih =>
    intro s m h1 h2
    have hb := b.toNat_lt
    unfold cnt at h2 ⊢
    split at h2
    · simp at h2
    · rename_i c1
      rw [if_neg c1]
      split at h2
      · rename_i c2
        rw [if_pos c2]
        split at h2
        · simp at h2
        · rename_i c3
          rw [if_neg c3]
          split at h2
          · simp at h2
          · rename_i c4
            rw [if_neg c4]
            refine ⟨[b], rfl, ?_, ?_⟩
            · simp only [Int.toNat_natCast]
              unfold cb
              rw [show (m * 128 + b.toNat % 128) / 128 = m by omega, show (m * 128 + b.toNat % 128) % 128 = b.toNat by omega]
              simp
            · simp only; omega
      · rename_i c2
        rw [if_neg c2]
        split at h2
        · simp at h2
        · rename_i c3
          rw [if_neg c3]
          obtain ⟨q, hq1, hq2, hq3⟩ := ih (s + 1) (m * 128 + b.toNat % 128) (by omega) h2
          refine ⟨b :: q, by rw [List.cons_append, ← hq1], ?_, hq3⟩
          rw [← hq2, cbHi_pos (m * 128 + b.toNat % 128) (by omega), show (m * 128 + b.toNat % 128) / 128 = m by omega, show 128 + (m * 128 + b.toNat % 128) % 128 = b.toNat by omega]
          simp
theorem cnt_bad_zero (most : Int) : ∀ (l : List UInt8) (s m : Nat), (cnt most l s m).2.e ≠ 0 → (cnt most l s m).1 = 0 ∧ (cnt most l s m).2.l = [] := by
  intro l
  induction l with
  | nil => intro s m h; simp [cnt]
  | cons b t ih =>
    intro s m h
    unfold cnt at h ⊢
    split at h
    · rename_i c; rw [if_pos c]; simp
    · rename_i c1
      rw [if_neg c1]
      split at h
      · rename_i c2
        rw [if_pos c2]
        split at h
        · rename_i c; rw [if_pos c]; simp
        · rename_i c3
          rw [if_neg c3]
          split at h
          · rename_i c; rw [if_pos c]; simp
          · simp at h
      · rename_i c2
        rw [if_neg c2]
        split at h
        · rename_i c; rw [if_pos c]; simp
        · rename_i c3
          rw [if_neg c3]
          exact ih _ _ h

theorem count_bytes' (n : Int) (h0 : 0 ≤ n) (h : n ≤ mxN) : ((WS.mk [] 0).count n).bytes = cb n.toNat := by
  obtain ⟨k, rfl⟩ : ∃ k : Nat, n = (k : Int) := ⟨n.toNat, by omega⟩
  exact count_bytes k (by unfold mxN at h; omega)

/-- b[:min(len(b), N)] -/
theorem cut_len {l : List UInt8} (N : Nat) : (l.take N).length = min N l.length := List.length_take

set_option maxRecDepth 100000 in
set_option maxHeartbeats 4000000 in
theorem numAgain_law (A : Option Addr) (g c : Nat) (l : List UInt8) (w : World) (hs : seen w A g l) (hn : l.length ≤ c) (hc : c ≤ maxLen) :
    Calls Try.prog 7 #[.slice A l.length c] w (yesPost w) := by
  unfold maxLen at hc
  obtain ⟨b, hb⟩ : ∃ b, b = l.take 12 := ⟨_, rfl⟩
  have sb : seen w A g b := by rw [hb]; exact hs.take 12
  have hlen : b.length = min 12 l.length := by rw [hb, List.length_take]
  have hag := cnt_again 9007199254740991 b 0 0 (fun _ => rfl)
  have hbad := cnt_bad_zero 9007199254740991 b 0 0
  have hcnt : (RS.mk b 0).count 9007199254740991 = cnt 9007199254740991 b 0 0 := by simp [RS.count]
  have hrng := cnt_range 9007199254740991 b 0 0
  generalize hres : cnt 9007199254740991 b 0 0 = res at *
  obtain ⟨n, r⟩ := res
  simp only at hag hbad hrng
  have HB := Lib.hid hb; have HC := Lib.hid hcnt; have HA := Lib.hid hag; have HD := Lib.hid hbad
  clear hb hcnt hag hbad hres
  have cases : (b.length = l.length ∧ l.length ≤ 12) ∨ (b.length = 12 ∧ ¬ l.length ≤ 12) := by omega
  rcases cases with ⟨hl, h12⟩ | ⟨hl, h12⟩
  all_goals
    have HL := Lib.hid hl
    clear hl hlen
    go_enter Try.func7, Try.ntmps7
    go_wp2_with fail
    refine (read_n A g c _ b _ HL.out sb (by omega)).mono ?_; rintro e w1 ⟨p, q, rfl, hr1, hp1, hq1, hk1⟩
    have sb1 := sb.keep hk1 (by simp)
    go_wp2_with fail
    refine (count_any p q _ _ _ hr1).mono ?_; rintro e w2 ⟨rfl, hr2, hk2⟩
    rw [HC.out] at hr2 ⊢
    simp only at hr2
    have k2 := hk1.then hk2 (by simp; exact hp1)
    have sb2 : b ≠ [] → g ≠ p := fun hne => by obtain ⟨o, _, hlt, _⟩ := sb hne; omega
    have sb3 := sb1.keep hk2 (fun hne => by simpa using sb2 hne)
    clear hk1 hk2 hr1 sb1 hp1 hq1
    by_cases he : r.e = 0
    · have he' : (r.e != 0) = false := by simp [he]
      obtain ⟨qq, hq1, hq2, hq3⟩ := HA.out he
      rw [cbHi_zero, List.nil_append] at hq2
      have hcb := count_bytes' n hrng.1 hrng.2
      rw [← hq2] at hcb
      have hlq : b.length = qq.length + r.l.length := by rw [hq1]; simp
      have htk : b.take qq.length = qq := by rw [hq1]; simp
      have hqc : qq.length ≤ c := by have := HL.out; omega
      have HQ := Lib.hid (And.intro hlq htk)
      have HE := Lib.hid he
      have hsub : (b.length : Int) - (r.l.length : Int) = (qq.length : Int) := by omega
      have hsub2 : ((qq.length : Int) == (b.length : Int) - (r.l.length : Int)) = true := by rw [hsub]; simp
      rw [HL.out] at hsub2
      try rw [show ((12 : Nat) : Int) = 12 from rfl] at hsub2
      have hle : qq.length ≤ b.length := by omega
      rw [HL.out] at hle
      have hl8 : r.l.length ≤ 12 := by have := HL.out; omega
      clear he hq1 hq2 hlq htk hsub
      go_wp2_with fail
      refine (err_any p q r _ hr2).mono ?_; rintro e w' ⟨rfl, rfl⟩
      go_wp2_with fail
      refine (count_fn n _).mono ?_; rintro e w3 ⟨v3, rfl, ho3, hf3, hk3⟩
      rw [hcb] at ho3
      have sb4 := sb3.keep hk3 (by simp)
      have hr3 := hr2.keep hk3 (by simp) (by simp)
      have k3 := k2.then hk3 (by simp)
      obtain ⟨A3, c3, g3, rfl, _, _, hs3, _⟩ := ho3.seen
      clear ho3 hf3 hk3 hr2 k2 sb3
      go_wp2_with fail
      refine (left_any p q r _ hr3).mono ?_; rintro e w' ⟨rfl, rfl⟩
      go_wp2_with fail
      refine (eqBytes_n A3 A g3 g c3 c _ _ qq (b.take qq.length) _ rfl (by rw [List.length_take]; have := HL.out; omega) hs3 (sb4.take _)).mono ?_; rintro e w' ⟨rfl, rfl⟩
      rw [HQ.out.2, show (qq == qq) = true from by simp]
      go_wp2_with fail
      refine (works_any _).mono ?_; rintro e w5 ⟨rfl, hk5⟩
      go_wp2_with fail
      go_ret
      exact ⟨rfl, k3.then hk5 (by simp)⟩
    · have he' : (r.e != 0) = true := by simp [he]
      obtain ⟨hn0, hl0⟩ := HD.out he
      subst hn0
      have hend : r.end_ = r.e := by simp [RS.end_, he]
      have hee : (r.end_ == r.e) = true := by rw [hend]; simp
      have hll : ((r.l.length : Int) == 0) = true := by rw [hl0]; rfl
      clear he hend hl0
      go_wp2_with fail
      refine (err_any p q r _ hr2).mono ?_; rintro e w' ⟨rfl, rfl⟩
      go_wp2_with fail
      refine (left_any p q r _ hr2).mono ?_; rintro e w' ⟨rfl, rfl⟩
      go_wp2_with fail
      refine (end_any p q r _ hr2).mono ?_; rintro e w' ⟨rfl, rfl⟩
      go_wp2_with fail
      refine (err_any p q r _ hr2).mono ?_; rintro e w' ⟨rfl, rfl⟩
      go_wp2_with fail
      refine (works_any _).mono ?_; rintro e w5 ⟨rfl, hk5⟩
      go_wp2_with fail
      go_ret
      exact ⟨rfl, k2.then hk5 (by simp)⟩
end Go.Proofs.Ytgbobdlaahcjoaa
