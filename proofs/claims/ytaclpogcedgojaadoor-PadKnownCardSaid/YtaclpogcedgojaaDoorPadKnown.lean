/-
  PadKnown: all lengths; each byte first; both ends.
-/
import Derived.Test.YtaclpogcedgojaaDoorPadOpens
import Derived.Test.YtaclpogcedgojaaDoorAppendZeros
namespace Go.Proofs.YtaclpogcedgojaaDoor
open Go.RowKit
set_option linter.unusedVariables false

theorem wf_i64 {a : Int} (h : -9223372036854775808 ≤ a ∧ a ≤ 9223372036854775807) : (Lit.int .i64 a).wf = true := by
  simp [Lit.wf, IntKind.min, IntKind.max, IntKind.signed, IntKind.bits]; omega
theorem padPads_n (A : Option Addr) (g c k : Nat) (l : List UInt8) (tomb : Bool) (n : Int) (w : World) (hk : l.length = k) (hs : seen w A g l) (hlc : k ≤ c) (hcm : c ≤ maxLen) (hn : -9223372036854775808 ≤ n ∧ n ≤ 9223372036854775807) (h : classesAt w) :
    Calls Tryd.prog 3 #[.slice A k c, .bool tomb, .int .i64 n] w (yesPost w) := by
  subst hk; exact padPads_law A g c l tomb n w hs hlc hcm (wf_i64 hn) h
theorem padBack_n (A : Option Addr) (g c k : Nat) (l : List UInt8) (tomb : Bool) (w : World) (hk : l.length = k) (hs : seen w A g l) (hlc : k ≤ c) (hcm : c ≤ maxLen) (h : classesAt w) :
    Calls Tryd.prog 5 #[.slice A k c, .bool tomb] w (yesPost w) := by
  subst hk; exact padBack_law A g c l tomb w hs hlc hcm h
theorem padOpens_n (A : Option Addr) (g c k : Nat) (l : List UInt8) (w : World) (hk : l.length = k) (hs : seen w A g l) (hlc : k ≤ c) (hcm : c ≤ maxLen) (h : classesAt w) :
    Calls Tryd.prog 4 #[.slice A k c] w (yesPost w) := by
  subst hk; exact padOpens_law A g c l w hs hlc hcm h
theorem make300 (w : World) : (Instr.makeSlice 22 (.int .i64 300) (.int .i64 300)).run Tryd.prog w = .ok (.slice (some ⟨w.heap.size, 0, none⟩) 300 300) (w.alloc (.cells (zeroRow 300) 5)) := make_bytes 300 (by omega) w
theorem seen_zeros (w : World) (n : Nat) : seen (w.alloc (.cells (zeroRow n) 5)) (some ⟨w.heap.size, 0, none⟩) w.heap.size (List.replicate n 0) := by
  have r := rowAt.new w 5 (zeroRow n)
  exact seen_row r (by rw [zeroRow_list, List.take_of_length_le (by simp)])
theorem bv_byte (z : Int) (h0 : 0 ≤ z) : Value.int IntKind.u8 (z % 256) = bv (UInt8.ofNat z.toNat) := by
  unfold bv
  rw [UInt8.toNat_ofNat']
  congr 1
  omega

/-- a row of n bytes of the call's own -/
def ownRow (w : World) (g n : Nat) (xs : List UInt8) : Prop := xs.length = n ∧ owns w 5 1 (.slice (some ⟨g, 0, none⟩) n n) n (xs.map bv)
theorem ownRow.new (w : World) (n : Nat) (hn : n ≤ maxLen) : ownRow (w.alloc (.cells (zeroRow n) 5)) w.heap.size n (List.replicate n 0) := by
  refine ⟨by simp, ?_⟩
  have r := rowAt.new w 5 (zeroRow n)
  rw [zeroRow_eq] at r ⊢
  have := owns_row_all r (by simpa using hn)
  simpa using this
theorem ownRow.seen {w : World} {g n : Nat} {xs : List UInt8} (h : ownRow w g n xs) : seen w (some ⟨g, 0, none⟩) g xs := by
  obtain ⟨rfl, ho⟩ := h
  obtain ⟨A, c, g', he, _, _, hs, hg⟩ := ho.seen
  obtain ⟨rfl, rfl⟩ : some (⟨g, 0, none⟩ : Addr) = A ∧ xs.length = c := by injection he with e1 e2 e3; exact ⟨e1, e3⟩
  intro hne
  have hg' := hg hne
  simp [homes_some] at hg'
  subst hg'
  exact hs hne
theorem ownRow.cell {w : World} {g n : Nat} {xs : List UInt8} (h : ownRow w g n xs) {i : Nat} (hi : i < n) :
    (∃ x : UInt8, w.cell? ⟨g, i, none⟩ = some (bv x)) ∧ w.frozen? ⟨g, i, none⟩ = false ∧ ∀ b : UInt8, ownRow (w.setCell ⟨g, i, none⟩ (bv b)) g n (xs.set i b) := by
  obtain ⟨rfl, ho⟩ := h
  obtain ⟨g', c', he, _, h1, h2, _, _, h3⟩ := owns_set ho i (xs[i]) (List.getElem?_eq_getElem hi)
  have hgg : g' = g := by injection he with e1 e2 e3; injection e1 with e1; injection e1 with e1; exact e1.symm
  subst hgg
  exact ⟨⟨_, h1⟩, h2, fun b => ⟨by simp, by have := h3 b; simpa using this⟩⟩
theorem ownRow.keep {w w' : World} {g n : Nat} {xs : List UInt8} (h : ownRow w g n xs) (hk : keepBut [] w w') : ownRow w' g n xs := ⟨h.1, h.2.keep hk (by simp)⟩

/-- what is owned, as bytes -/
theorem list_of_owns {w : World} {v : Value} {n : Nat} {xs : List Value} {l : List UInt8} (h : owns w 5 1 v n xs) (hx : xs = l.map bv) (hn : l.length = n) : ∃ A c g, v = .slice A n c ∧ n ≤ c ∧ c ≤ maxLen ∧ seen w A g l := by
  subst hn; subst hx
  obtain ⟨A, c, g, h1, h2, h3, h4, _⟩ := h.seen
  exact ⟨A, c, g, h1, h2, h3, h4⟩
theorem seen.lt {w : World} {A : Option Addr} {g : Nat} {l : List UInt8} (h : seen w A g l) : l ≠ [] → g < w.heap.size := fun hne => by
  obtain ⟨_, _, hlt, _⟩ := h hne; exact hlt

def fillRel (w0 : World) (g : Nat) (v2 : Value) (wx : World) : Prop := ∃ (k : Nat) (xs : List UInt8), v2 = .int .i64 (k : Int) ∧ k ≤ 300 ∧ ownRow wx g 300 xs ∧ keepBut [] w0 wx
def roundRel (n : Nat) (w2 : World) (v : Value) (wx : World) : Prop := ∃ k : Nat, v = .int .i64 (k : Int) ∧ k ≤ n ∧ keepBut [] w2 wx

def knownRel (n : Nat) (w0 wF : World) (v : Value) (wx : World) : Prop := ∃ k : Nat, v = .int .i64 (k : Int) ∧ k ≤ n ∧ keepBut [] w0 wx ∧ keepBut [] wF wx

set_option maxRecDepth 100000 in
set_option maxHeartbeats 4000000 in
theorem padKnown_law (w : World) (h : classesAt w) : Calls Tryd.prog 9 #[] w (yesPost w) := by
  have mk300 := make300
  go_enter Tryd.func9, Tryd.ntmps9
  go_upto_region 2 with fail
  have r1 := ownRow.new w 300 (by simp [maxLen])
  have k1 := (keepBut.refl [] w).alloc (.cells (zeroRow 300) 5)
  generalize w.alloc (.cells (zeroRow 300) 5) = w1 at *
  obtain ⟨gF, hgF⟩ : ∃ gF, gF = w.heap.size := ⟨_, rfl⟩
  have hF : w.heap.size ≤ gF := by omega
  rw [← hgF] at r1 ⊢
  clear hgF mk300
  go_wp2_with fail
  go_loopw [2] (fun v2 wx => fillRel w gF v2 wx) (fun v2 _ => 300 - (intOf v2).toNat)
  case atStart => exact ⟨0, _, rfl, by omega, r1, k1⟩
  case round =>
    obtain ⟨k, xs, rfl, hk, hr, hkb⟩ := hrel
    clear r1 k1
    by_cases hk3 : k < 300
    · have hk3' : (k : Int) < 300 := by omega
      obtain ⟨⟨x, hc⟩, hf, hset⟩ := hr.cell hk3
      have hbv := bv_byte ((k : Int) * 5 + 1) (by omega)
      have hs2 := hset (UInt8.ofNat ((k : Int) * 5 + 1).toNat)
      rw [← hbv] at hs2
      have hkb2 := hkb.setCell ⟨gF, k, none⟩ (Value.int IntKind.u8 (((k : Int) * 5 + 1) % 256)) (.inr hF)
      have HS := Lib.hid (And.intro hs2 hkb2)
      unfold bv at hc
      clear hset hbv hs2 hkb2 hr hkb
      go_wp2_with fail
      go_roundw
      case rel => exact ⟨k + 1, _, by go_num, by omega, HS.out.1, HS.out.2⟩
      case measure => simp [intOf]; omega
    · obtain rfl : k = 300 := by omega
      rw [show ((300 : Nat) : Int) = 300 from rfl]
      go_wp2_with fail
      have hx3 := hr.1
      have sF := hr.seen
      have hw := h.keep hkb
      have hkb0 := hkb
      clear hr hF
      generalize wr = wF at *
      have HW := Lib.hid hw
      go_loopw [3] (fun v3 wx => knownRel 300 w wF v3 wx) (fun v3 _ => 300 - (intOf v3).toNat)
      case atStart => exact ⟨0, rfl, by omega, hkb, keepBut.refl _ _⟩
      case round =>
        obtain ⟨k, rfl, hk3, hkw, hkr⟩ := hrel
        clear hkb hk
        by_cases hlt : k < 300
        · have hlt' : (k : Int) < 300 := by omega
          have s0 := sF.keep hkr (by simp)
          have h0 := hw.keep hkr
          have hlk : (xs.take k).length = k := by rw [List.length_take]; omega
          have hneg : IntKind.i64.wrap (-(k : Int)) = -(k : Int) := by rw [IntKind.wrap_i64]; omega
          have mkk := make_bytes k (by omega)
          have hk300 : (k : Int) ≤ 300 := by omega
          go_wp2_with fail
          refine (padPads_n _ gF 300 k (xs.take k) false (k : Int) _ hlk (s0.take k) (by omega) (by simp [maxLen]) (by omega) h0).mono ?_; rintro e w3 ⟨rfl, k3⟩
          have s1 := s0.keep k3 (by simp)
          have h1 := h0.keep k3
          have kk := hkr.then k3 (by simp)
          clear s0 h0 k3 hkr
          go_wp2_with fail
          refine (padPads_n _ gF 300 k (xs.take k) true (-(k : Int)) _ hlk (s1.take k) (by omega) (by simp [maxLen]) (by omega) h1).mono ?_; rintro e w4 ⟨rfl, k4⟩
          have s2 := s1.keep k4 (by simp)
          have h2 := h1.keep k4
          have kk2 := kk.then k4 (by simp)
          clear s1 h1 k4 kk
          go_wp2_with fail
          refine (padBack_n _ gF 300 k (xs.take k) _ _ hlk (s2.take k) (by omega) (by simp [maxLen]) h2).mono ?_; rintro e w5 ⟨rfl, k5⟩
          have s3 := s2.keep k5 (by simp)
          have h3 := h2.keep k5
          have kk3 := kk2.then k5 (by simp)
          clear s2 h2 k5 kk2
          go_wp2_with fail
          refine (padOpens_n _ gF 300 k (xs.take k) _ hlk (s3.take k) (by omega) (by simp [maxLen]) h3).mono ?_; rintro e w6 ⟨rfl, k6⟩
          have s4 := s3.keep k6 (by simp)
          have h4 := h3.keep k6
          have kk4 := kk3.then k6 (by simp)
          clear s3 h3 k6 kk3
          go_wp2_with fail
          have k7 := (keepBut.refl [] w6).alloc (.cells (zeroRow k) 5)
          refine (padOpens_n _ w6.heap.size k k (List.replicate k 0) _ (by simp) (seen_zeros w6 k) (Nat.le_refl _) (by unfold maxLen; omega) (h4.keep k7)).mono ?_; rintro e w7 ⟨rfl, k8⟩
          have k78 := k7.then k8 (by simp)
          have s5 := s4.keep k78 (by simp)
          have h5 := h4.keep k78
          have kk5 := kk4.then k78 (by simp)
          clear s4 h4 k7 k8 k78 kk4 mkk
          go_upto_region 11 with fail
          obtain ⟨l, hl⟩ : ∃ l, l = xs.take (min k 250) := ⟨_, rfl⟩
          have ll : l.length = min k 250 := by rw [hl, List.length_take]; omega
          have l25 : l.length ≤ 250 := by omega
          have hm : (250 < (k : Int) ∧ l.length = 250) ∨ (¬ 250 < (k : Int) ∧ l.length = k) := by omega
          have sl : seen w7 (some ⟨gF, 0, none⟩) gF l := by rw [hl]; exact s5.take _
          obtain ⟨S, hS, hS1, hS2, hS3, hP, hPl⟩ := padP_value l l25
          have HP := Lib.hid (And.intro hP hPl)
          obtain ⟨i0, hi0, hz0, hz1, hz2⟩ := info_parts infoU8
          clear hl ll hS hP hPl
          rcases hm with hm | hm
          all_goals
            have hlm := hm.2
            have hkm := hm.1
            have HLM := Lib.hid hlm
            clear hm hlm
            go_wp2_with fail
            refine (pad_n _ gF _ _ l false _ HLM.out h5 sl (by have := HLM.out; omega)).mono ?_; rintro e w8 ⟨v8, rfl, ho8, hf8, k8⟩
            rw [HP.out.1] at ho8 ⊢
            have h6 := h5.keep k8
            have kk6 := kk5.then k8 (by simp)
            obtain ⟨A2, c2, g2, rfl, hc2, hm2, t2, _⟩ := ho8.seen
            simp only [HP.out.2] at hc2 ⊢
            have tl : ((padBytes l S).take (S - 1)).length = S - 1 := by rw [List.length_take, HP.out.2]; omega
            have HTL := Lib.hid tl
            unfold maxLen at hm2
            clear ho8 hf8 k8 h5 kk5 s5 sl tl
            go_wp2_with fail
            refine (padOpens_n _ g2 _ (S - 1) ((padBytes l S).take (S - 1)) _ HTL.out (t2.take _) (by omega) (by unfold maxLen; omega) h6).mono ?_; rintro e w9 ⟨rfl, k9⟩
            have t3 := t2.keep k9 (by simp)
            have h7 := h6.keep k9
            have kk7 := kk6.then k9 (by simp)
            clear t2 h6 k9 kk6
            go_wp2_with fail
            refine (copyBytes_n _ g2 _ S (padBytes l S) _ HP.out.2 t3 (by omega)).mono ?_; rintro e wa ⟨v10, rfl, ho10, hf10, k10⟩
            obtain ⟨A3, c3, rfl, _, _, _, _⟩ := ho10.form
            rw [HP.out.2] at ho10 hf10 ⊢
            have t4 := t3.keep k10 (by simp)
            have h8 := h7.keep k10
            have kk8 := kk7.then k10 (by simp)
            have HO := Lib.hid ho10
            have HG3 := Lib.hid (And.intro t3.lt kk7)
            clear t3 h7 kk7 ho10
            go_wp2_with (at_builtin; refine wp_append_g _ (.tmp 85) (.tmp 86) 22 rfl 5 i0 (.int .u8 0) 1 1 Tryd.underlying22 hi0 hz0 hz1 hz2 rfl (by decide) (.slice A3 S c3) S _ rfl (HO.out.alloc _) _ _ 1 1 _ rfl (reads_one _ _ _) (by intro u hu; simp at hu; subst hu; rfl) (by omega) (by unfold maxLen; omega) ?_ (by rfl); intro A4 c4 w11 hown11 hkb11 hloc11)
            have hlw := t4.lt
            have hg3 := HG3.out
            have ka := (keepBut.refl [] wa).alloc (.cells #[.int .u8 0] 5)
            have kb : keepBut [] wF w11 := (kk8.then ka (by simp)).then hkb11 (fun y hy => .inr (by have := hf10 y hy; have := HG3.out.2.size; omega))
            have t5 : seen w11 A2 g2 (padBytes l S) := (t4.keep ka (by simp)).keep hkb11 (fun hne hm => by have := hf10 _ hm; have := HG3.out.1 hne; omega)
            have h9 := HW.out.keep kb
            obtain ⟨A5, c5, g5, he5, hc5, hm5, s5⟩ := list_of_owns hown11 (l := padBytes l S ++ [0]) (by simp [bv]) (by rw [List.length_append, HP.out.2]; rfl)
            obtain ⟨rfl, rfl⟩ : A4 = A5 ∧ c4 = c5 := by injection he5 with e1 e2 e3; exact ⟨e1, e3⟩
            clear t4 h8 kk8 hf10 hown11 hkb11 hloc11 he5 ka hlw hg3 HG3
            refine (padOpens_n _ g5 _ (S + 1) (padBytes l S ++ [0]) _ (by rw [List.length_append, HP.out.2]; rfl) s5 hc5 hm5 h9).mono ?_; rintro e w12 ⟨rfl, k12⟩
            have t6 := t5.keep k12 (by simp)
            have kc := kb.then k12 (by simp)
            have HG4 := Lib.hid (And.intro t6.lt kc)
            clear t5 h9 k12 kb s5 hm5
            go_wp2_with fail
            refine (copyBytes_n _ g2 _ S (padBytes l S) _ HP.out.2 t6 (by omega)).mono ?_; rintro e wb ⟨v13, rfl, ho13, hf13, k13⟩
            obtain ⟨A6, c6, rfl, _, _, _, _⟩ := ho13.form
            rw [HP.out.2] at ho13 hf13 ⊢
            have HO2 := Lib.hid ho13
            have kd := HG4.out.2.then k13 (by simp)
            clear ho13 t6 kc
            go_wp2_with (at_builtin; refine wp_append_zeros_g _ (.tmp 93) (.const (.int .i64 48)) rfl (.slice A6 S c6) S _ rfl HO2.out 48 rfl (by omega) (by omega) (by omega) ?_ (by rfl); intro A7 c7 w14 hown14 hkb14 hloc14)
            have ke : keepBut [] wF w14 := kd.then hkb14 (fun y hy => .inr (by have := hf13 y hy; have := HG4.out.2.size; omega))
            obtain ⟨A8, c8, g8, he8, hc8, hm8, s8⟩ := list_of_owns hown14 (l := padBytes l S ++ List.replicate 48 0) (by simp [bv]) (by rw [List.length_append, HP.out.2]; simp)
            obtain ⟨rfl, rfl⟩ : A7 = A8 ∧ c7 = c8 := by injection he8 with e1 e2 e3; exact ⟨e1, e3⟩
            clear hown14 hkb14 hloc14 he8 kd k13 hf13
            refine (padOpens_n _ g8 _ (S + 48) (padBytes l S ++ List.replicate 48 0) _ (by rw [List.length_append, HP.out.2]; simp) s8 hc8 hm8 (HW.out.keep ke)).mono ?_; rintro e w15 ⟨rfl, k15⟩
            have kf := ke.then k15 (by simp)
            clear ke k15 s8 hm8
            go_wp2_with fail
            go_roundw
            case rel =>
              exact ⟨k + 1, by go_num, by omega, hkb0.then kf (by simp), kf⟩
            case measure => simp [intOf]; omega
        · obtain rfl : k = 300 := by omega
          rw [show ((300 : Nat) : Int) = 300 from rfl]
          have HK := Lib.hid hkw
          have h9 := h.keep hkw
          clear hkr hkb0 sF hw HW hx3
          have mk16 := make16
          go_wp2_with fail
          go_loopw [6] (fun v6 wx => roundRel 256 w v6 wx) (fun v6 _ => 256 - (intOf v6).toNat)
          case atStart => exact ⟨0, rfl, by omega, HK.out⟩
          case round =>
            clear h9 HK
            obtain ⟨k, rfl, hk3, hkw⟩ := hrel
            by_cases hlt : k < 256
            · have hlt' : (k : Int) < 256 := by omega
              obtain ⟨j, hj⟩ : ∃ j : Nat, (k : Int) % 3 = (j : Int) := ⟨k % 3, by omega⟩
              have hj3 : j < 16 := by omega
              have r0 := ownRow.new wr 16 (by simp [maxLen])
              have k0 := hkw.alloc (.cells (zeroRow 16) 5)
              go_upto_region 18 with fail
              obtain ⟨gb, hgb⟩ : ∃ gb, gb = wr.heap.size := ⟨_, rfl⟩
              have hgw : w.heap.size ≤ gb := by have := hkw.size; omega
              generalize wr.alloc (.cells (zeroRow 16) 5) = wx at *
              rw [← hgb] at r0 ⊢
              clear hgb hkw
              have hjt : (k : Int).tmod 3 = (j : Int) := by rw [Int.tmod_eq_emod_of_nonneg (by omega), hj]
              have hj16 : (j : Int) < 16 := by omega
              obtain ⟨⟨x, hc⟩, hf, hset⟩ := r0.cell hj3
              have HSET := Lib.hid hset
              unfold bv at hc
              clear hset r0
              go_upto_region 19 with fail
              have hbv : Value.int IntKind.u8 (k : Int) = bv (UInt8.ofNat k) := by
                unfold bv; rw [UInt8.toNat_ofNat']; congr 1; omega
              rw [hbv]
              have r1 := HSET.out (UInt8.ofNat k)
              have k1 := k0.setCell ⟨gb, j, none⟩ (bv (UInt8.ofNat k)) (.inr hgw)
              generalize wx.setCell ⟨gb, j, none⟩ (bv (UInt8.ofNat k)) = wy at *
              generalize (List.replicate 16 (0 : UInt8)).set j (UInt8.ofNat k) = ys at *
              clear hbv HSET hc hf k0
              go_wp2_with fail
              refine (padOpens_n _ gb 16 16 ys _ r1.1 r1.seen (Nat.le_refl _) (by simp [maxLen]) (h.keep k1)).mono ?_; rintro e wz ⟨rfl, kz⟩
              have r2 := r1.keep kz
              have k2 := k1.then kz (by simp)
              clear r1 k1 kz
              obtain ⟨⟨x2, hc⟩, hf, hset⟩ := r2.cell (i := 15) (by omega)
              have HSET := Lib.hid hset
              unfold bv at hc
              clear hset r2
              go_upto_region 22 with fail
              rw [show Value.int IntKind.u8 1 = bv 1 from rfl]
              have r3 := HSET.out 1
              have k3 := k2.setCell ⟨gb, 15, none⟩ (bv 1) (.inr hgw)
              generalize wz.setCell ⟨gb, 15, none⟩ (bv 1) = wv at *
              clear HSET hc hf k2
              go_wp2_with fail
              refine (padOpens_n _ gb 16 16 _ _ r3.1 r3.seen (Nat.le_refl _) (by simp [maxLen]) (h.keep k3)).mono ?_; rintro e wu ⟨rfl, ku⟩
              have k4 := k3.then ku (by simp)
              clear r3 k3 ku
              go_wp2_with fail
              go_roundw
              case rel => exact ⟨k + 1, by go_num, by omega, k4⟩
              case measure => simp [intOf]; omega
            · obtain rfl : k = 256 := by omega
              rw [show ((256 : Nat) : Int) = 256 from rfl]
              have HK := Lib.hid hkw
              clear hkw mk16
              go_upto_region 25 with fail
              have hr := rowAt.new wr 3 #[.int .i64 (-9223372036854775808), .int .i64 (-1), .int .i64 250, .int .i64 251, .int .i64 9223372036854775807]
              have ke := HK.out.alloc (.cells #[.int .i64 (-9223372036854775808), .int .i64 (-1), .int .i64 250, .int .i64 251, .int .i64 9223372036854775807] 3)
              generalize wr.alloc (.cells #[.int .i64 (-9223372036854775808), .int .i64 (-1), .int .i64 250, .int .i64 251, .int .i64 9223372036854775807] 3) = wE at *
              generalize wr.heap.size = gE at *
              clear HK
              go_wp2_with fail
              go_loopw [9] (fun v9 wx => knownRel 5 w wE v9 wx) (fun v9 _ => 5 - (intOf v9).toNat)
              case atStart => exact ⟨0, rfl, by omega, ke, keepBut.refl _ _⟩
              case round =>
                obtain ⟨k, rfl, hk5, hkw, hkE⟩ := hrel
                by_cases hlt : k < 5
                · obtain ⟨z, hz, hz1, hz2⟩ : ∃ z : Int, (#[Value.int IntKind.i64 (-9223372036854775808), .int .i64 (-1), .int .i64 250, .int .i64 251, .int .i64 9223372036854775807] : Array Value)[k]? = some (.int .i64 z) ∧ -9223372036854775808 ≤ z ∧ z ≤ 9223372036854775807 := by
                    rcases (by omega : k = 0 ∨ k = 1 ∨ k = 2 ∨ k = 3 ∨ k = 4) with rfl | rfl | rfl | rfl | rfl <;> exact ⟨_, rfl, by decide, by decide⟩
                  have hlt' : (k : Int) < 5 := by omega
                  have hc : wr.cell? ⟨gE, k, none⟩ = some (.int .i64 z) := ((hkE.row hr (by simp)).cell k).trans hz
                  have HR := Lib.hid hr
                  clear hr hz ke
                  go_wp2_with fail
                  refine (padPads_n none 0 0 0 [] false z _ rfl (seen.nil _ _ _) (Nat.le_refl _) (by simp [maxLen]) ⟨hz1, hz2⟩ (h.keep hkw)).mono ?_; rintro e wu ⟨rfl, ku⟩
                  have k1 := hkw.then ku (by simp)
                  have k2 := hkE.then ku (by simp)
                  clear hkw hkE ku hc
                  go_wp2_with fail
                  go_roundw
                  case rel => exact ⟨k + 1, by go_num, by omega, k1, k2⟩
                  case measure => simp [intOf]; omega
                · obtain rfl : k = 5 := by omega
                  rw [show ((5 : Nat) : Int) = 5 from rfl]
                  clear hr ke hkE
                  go_wp2_with fail
                  refine (works_any _ (h.keep hkw)).mono ?_; rintro e wu ⟨rfl, ku⟩
                  have k1 := hkw.then ku (by simp)
                  go_wp2_with fail
                  go_ret
                  exact ⟨rfl, k1⟩
end Go.Proofs.YtaclpogcedgojaaDoor
