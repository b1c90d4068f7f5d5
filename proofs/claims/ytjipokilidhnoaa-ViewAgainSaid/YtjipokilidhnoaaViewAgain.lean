/-
  VIEW: ViewAgain's walk.
-/
import Derived.Test.YtjipokilidhnoaaViewWorks
import Derived.Test.YtjipokilidhnoaaViewAgainPure
import Derived.Test.YtjipokilidhnoaaViewLift
namespace Go.Proofs.Ytjipokilidhnoaa
open Go.RowKit
set_option linter.unusedVariables false
set_option maxRecDepth 100000

/-- what Open has left, part by part -/
def openParts (b : List UInt8) (w : World) (pv : Value) (ev : Int) (w' : World) : Prop := keepBut [] w w' ∧
  ((pv = .pointer none ∧ ev ≠ 0) ∨ (ev = 0 ∧ (openTo b (openN b)).rd.end_ = 0 ∧ (openTo b (openN b)).formed = true ∧ ∃ p F, pv = .pointer (some ⟨p, 0, none⟩) ∧ isV w' p F (openTo b (openN b)).rows ∧ ∀ y ∈ F, w.heap.size ≤ y))
theorem openPost.parts {b : List UInt8} {w w' : World} {e : Ending} (h : openPost b w e w') : ∃ pv ev, e = .returned (.tuple #[pv, .int .i64 ev]) ∧ openParts b w pv ev w' := by
  obtain ⟨hk, h | h | h⟩ := h
  · exact ⟨_, _, h.2, hk, .inl ⟨rfl, h.1⟩⟩
  · exact ⟨_, _, h.2.2, hk, .inl ⟨rfl, by decide⟩⟩
  · obtain ⟨h1, h2, p, F, e1, h3, h4⟩ := h
    exact ⟨_, _, e1, hk, .inr ⟨rfl, h1, h2, p, F, rfl, h3, h4⟩⟩
theorem rows_short (b : List UInt8) (h0 : (openTo b (openN b)).rd.end_ = 0) (hf : (openTo b (openN b)).formed = true) (hb : b.length ≤ 3000) : ∀ k, k ≤ (openTo b (openN b)).rows.length → (encTo (openTo b (openN b)).rows k).b.length ≤ 100000000 := fun k hk => by
  obtain ⟨hg, he⟩ := open_back b h0 hf
  obtain ⟨q, hq⟩ := flatB_pre (cb (openTo b (openN b)).rows.length) (openTo b (openN b)).rows k _ hk
  rw [encTo_flat hg _ (Nat.le_refl _)] at he
  rw [encTo_flat hg _ hk]
  have h2 := congrArg List.length hq
  rw [List.length_append] at h2
  have h3 : flatB (cb (openTo b (openN b)).rows.length) (openTo b (openN b)).rows (openTo b (openN b)).rows.length = b := he
  rw [h3] at h2
  dsimp only
  omega
set_option maxHeartbeats 4000000 in
theorem viewAgain_walk (A : Option Addr) (g c : Nat) (b0 : List UInt8) (B : Option Addr) (l : List SD) (d : Nat) (w : World) (hs : seen w A g b0) (hbc : b0.length ≤ c) (hc : c ≤ maxLen) (h : seedsV w B l) (hlc : l.length ≤ d) (hd : d ≤ maxLen) :
    Calls Try.prog 3 #[.slice A b0.length c, .slice B l.length d] w (yesPost w) := by
  have hl : l.length ≤ 9223372036854775807 := by unfold maxLen at hd; omega
  have hs3 := hs.take 3000
  have hlen3 : (b0.take 3000).length = min 3000 b0.length := List.length_take
  have hb3 : (b0.take 3000).length ≤ 3000 := by omega
  have hbc3 : (b0.take 3000).length ≤ c := by omega
  go_enter Try.func3, Try.ntmps3
  go_upto_region 1 with fail
  go_cut [0, 10, 11, 12, 13, 14] (fun v0 _ _ _ _ _ wx => v0 = .slice A (b0.take 3000).length c ∧ wx = w)
  case first =>
    rcases Nat.lt_or_ge 3000 b0.length with hb | hb
    · have hb' : (3000 : Int) < (b0.length : Int) := by omega
      have hc3 : (3000 : Int) ≤ (c : Int) := by omega
      go_wp2_with fail
      go_meet
      exact ⟨by rw [hlen3, Nat.min_eq_left (by omega)], rfl⟩
    · have hm : (if (3000 : Int) < (b0.length : Int) then (3000 : Int) else (b0.length : Int)) = (b0.length : Int) := if_neg (by omega)
      have hc3 : (b0.length : Int) ≤ (c : Int) := by omega
      have hc0 : (0 : Int) ≤ (b0.length : Int) := by omega
      go_wp2_with fail
      go_meet
      exact ⟨by rw [hlen3, Nat.min_eq_right (by omega)], rfl⟩
  case rest =>
  obtain ⟨rfl, rfl⟩ := hcut
  generalize b0.take 3000 = b at hs3 hb3 hbc3 ⊢
  clear hlen3 hs hbc
  go_wp2_with fail
  refine (openV_any A g c b _ hs3 (by omega)).mono ?_
  intro e w1 hq
  obtain ⟨pv, ev, rfl, k1, hcase⟩ := hq.parts
  clear hq
  go_upto_region 3 with fail
  have hs4 := hs3.keep k1 (by simp)
  have H1 := Lib.hid (And.intro k1 (And.intro hs4 h))
  clear k1 hs3 hs4 h
  go_cut [20, 21, 22, 23, 24, 25, 26, 27, 28, 29, 30, 31, 32, 33, 34, 35, 36, 37, 38, 39, 40] (fun _ _ _ _ _ _ _ _ _ _ _ _ _ _ _ _ _ _ _ _ v40 wx => v40 = .bool false ∧ keepBut [] w1 wx)
  case first =>
    rcases hcase with ⟨rfl, hev⟩ | ⟨rfl, h0, hf, p, F, rfl, hp, hF⟩
    · have hb1 : (ev == 0) = false := by simp [hev]
      have hb2 : (ev != 0) = true := by simp [hev]
      go_wp2_with fail
      go_meet
      exact ⟨rfl, keepBut.refl _ _⟩
    · have hob := open_back b h0 hf
      have hsh := rows_short b h0 hf hb3
      generalize (openTo b (openN b)).rows = R at hp hob hsh
      have HP := Lib.hid hp
      clear hp hF h0 hf
      go_wp2_with fail
      refine (bytesV_any p F R _ HP.out hob.1 hsh).mono ?_
      rintro e w2 ⟨v2, rfl, ho2, hf2, k2⟩
      rw [hob.2] at ho2
      obtain ⟨A2, c2, g2, rfl, _, _, hs2, hg2⟩ := ho2.seen
      have hsb := H1.out.2.1.keep k2 (by simp)
      have HE := Lib.hid (And.intro hs2 (And.intro hsb k2))
      clear ho2 hf2 hg2 hs2 hsb k2
      go_wp2_with fail
      refine (eqBytes_any A2 A g2 g c2 c b b _ HE.out.1 HE.out.2.1).mono ?_
      rintro e w3 ⟨rfl, rfl⟩
      rw [show (b == b) = true by simp]
      go_wp2_with fail
      go_meet
      exact ⟨rfl, HE.out.2.2⟩
  case rest =>
  obtain ⟨rfl, hk⟩ := hcut
  have k0 := H1.out.1.then hk (by simp)
  have hsd := H1.out.2.2.keep k0
  have HK := Lib.hid k0
  clear H1 hcase hk k0 hb3 hbc3
  go_wp2_with fail
  refine (made_any l B d 40 _ hsd (by omega) hl).mono ?_
  rintro e w4 ⟨A4, c4, G, rfl, hc4, hc4m, hr4, hG4, k4⟩
  have hkm : min l.length 40 ≤ l.length := by omega
  have hL : (mdTo l (min l.length 40)).length ≤ 40 := by rw [mdTo_len hkm]; omega
  have hgood := mdTo_good hkm (by omega)
  generalize mdTo l (min l.length 40) = L at hc4 hr4 hL hgood ⊢
  clear hsd
  have hLen := encTo_len L (fun r hr => by
    obtain ⟨i, hi⟩ := List.getElem?_of_mem hr
    exact (okay_parts (hgood.2 i r hi).1).2.2.2.2.2.2)
  have HG := Lib.hid (And.intro hgood hLen)
  go_wp2_with fail
  refine (ofL_any G A4 c4 L _ hr4 HG.out.1 hc4).mono ?_
  rintro e w5 ⟨p, F, rfl, hp5, hF5, k5⟩
  have k05 := (HK.out.then k4 (by simp)).then k5 (by simp)
  have H5 := Lib.hid (And.intro hp5 k05)
  clear hr4 k4 k5 k05 hp5 hF5 hG4 hgood hLen
  go_wp2_with fail
  refine (bytesV_any p F L _ H5.out.1 HG.out.1 (fun k hk => Nat.le_trans (HG.out.2 k hk) (by omega))).mono ?_
  rintro e w6 ⟨v6, rfl, ho6, hf6, k6⟩
  have hbl : (encTo L L.length).bytes.length ≤ 140737488355328 := by
    have h1 := HG.out.2 L.length (Nat.le_refl _)
    have h2 : (encTo L L.length).bytes.length ≤ (encTo L L.length).b.length := by unfold WS.bytes; split <;> simp
    omega
  obtain ⟨A6, c6, g6, rfl, _, _, hs6, hg6⟩ := ho6.seen
  have k06 := H5.out.2.then k6 (by simp)
  have hp6 := H5.out.1.over k6
  have H6 := Lib.hid (And.intro hp6 k06)
  clear ho6 hf6 k6 k06 hg6 hp6
  go_wp2_with fail
  refine (openV_any A6 g6 c6 (encTo L L.length).bytes _ hs6 hbl).mono ?_
  intro e w7 hq
  obtain ⟨o1, o2, o3, o4⟩ := open_enc HG.out.1
  obtain ⟨k7, hq7⟩ := hq
  rw [o1] at hq7
  rcases hq7 with ⟨h1, _⟩ | ⟨_, h1, _⟩ | ⟨_, _, q, Q, rfl, hq7, hQ7⟩
  · exact absurd o2 h1
  · rw [o3] at h1; cases h1
  rw [o4] at hq7
  have H7 := Lib.hid (And.intro hq7 (And.intro (H6.out.1.over k7) (H6.out.2.then k7 (by simp))))
  clear hq7 hQ7 k7 o1 o2 o3 o4 hs6 hbl H6 H5 HK
  go_wp2_with fail
  refine (firstV_any p q F Q L L _ H7.out.2.1 H7.out.1 (by omega) (by omega)).mono ?_
  rintro e w8 ⟨rfl, k8⟩
  rw [firstAt_self]
  have H8 := Lib.hid (And.intro (H7.out.1.over k8) (And.intro (H7.out.2.1.over k8) (H7.out.2.2.then k8 (by simp))))
  clear k8 H7
  go_wp2_with fail
  refine (lenV_any q Q L _ H8.out.1).mono ?_
  rintro e w9 ⟨rfl, rfl⟩
  go_wp2_with fail
  refine (lenV_any p F L _ H8.out.2.1).mono ?_
  rintro e w9 ⟨rfl, rfl⟩
  go_wp2_with fail
  refine (worksV_any _).mono ?_
  rintro e w9 ⟨rfl, k9⟩
  have HK9 := Lib.hid (H8.out.2.2.then k9 (by simp))
  clear k9
  go_wp2_with fail
  go_ret
  exact ⟨rfl, HK9.out⟩
theorem viewAgain_law (A : Option Addr) (g c : Nat) (b0 : List UInt8) (B : Option Addr) (n d : Nat) (w : World) (hs : seen w A g b0) (hbc : b0.length ≤ c) (hc : c ≤ maxLen) (h : seedls w B n) (hnd : n ≤ d) (hd : d ≤ maxLen) :
    Calls Try.prog 3 #[.slice A b0.length c, .slice B n d] w (yesPost w) := by
  obtain ⟨l, rfl, hl⟩ := h
  exact viewAgain_walk A g c b0 B l d w hs hbc hc hl hnd hd
end Go.Proofs.Ytjipokilidhnoaa
