/-
  GRC: GR6, GR9, joined.
-/
import Derived.Test.YthfdkonhjpdflaaGreatDoorGR5
section
namespace Go.Proofs.YthfdkonhjpdflaaGreatDoor
open Go.RowKit
set_option linter.unusedVariables false
set_option maxRecDepth 100000
set_option linter.unusedSimpArgs false

theorem text_e {r : RS} (h : r.e ≠ 0) (n : Int) : (r.text n).2 = r := by
  unfold RS.text RS.count
  rw [if_neg h]
  show (r.raw 0).2 = r
  unfold RS.raw
  rw [if_neg (by omega)]
  show r.past _ = r
  unfold RS.past
  rw [if_neg h]
theorem num_e {r : RS} (h : r.e ≠ 0) : r.num 1 = (0, r) := by
  unfold RS.num
  rw [if_pos (show isW 1 = true from rfl), if_neg (by rw [RS.took_iff]; exact fun hh => h hh.1)]
  unfold RS.past
  rw [if_neg h]
theorem count_e {r : RS} (h : r.e ≠ 0) (n : Int) : r.count n = (0, r) := by unfold RS.count; rw [if_neg h]
theorem rpRq_e {r : RS} (h : r.e ≠ 0) : (rpRq r 0).2 = (r, 0) := by
  unfold rpRq firstP
  rw [text_e h, if_pos rfl, if_neg h]
theorem rpAn_e {r : RS} (h : r.e ≠ 0) : (rpAn r 0).2 = (r, 0) := by
  unfold rpAn firstP
  rw [text_e h, if_pos rfl, if_neg h]
theorem rpCf_e {r : RS} (h : r.e ≠ 0) : (rpCf r 0).2 = (r, 0) := by
  unfold rpCf firstP
  rw [text_e h, if_pos rfl, if_neg h]
theorem rvAll_e {r : RS} (h : r.e ≠ 0) : (rvAll r 0).2 = (r, 0) := by
  unfold rvAll
  rw [num_e h]
  rfl
theorem f5_e {h : Int} {s : SF} (he : s.2.1.e ≠ 0) (hp : s.2.2 = 0) : (f5 h s).2 = s.2 := by
  unfold f5; split
  · rfl
  · rw [hp]; show (rpRq s.2.1 0).2 = s.2; rw [rpRq_e he]; exact Prod.ext rfl hp.symm
theorem f6_e {h : Int} {s : SF} (he : s.2.1.e ≠ 0) (hp : s.2.2 = 0) : (f6 h s).2 = s.2 := by
  unfold f6; split
  · rfl
  · rw [hp]; show (rpAn s.2.1 0).2 = s.2; rw [rpAn_e he]; exact Prod.ext rfl hp.symm
theorem f7_e {h : Int} {s : SF} (he : s.2.1.e ≠ 0) (hp : s.2.2 = 0) : (f7 h s).2 = s.2 := by
  unfold f7; split
  · rfl
  · rw [hp]; show (rpCf s.2.1 0).2 = s.2; rw [rpCf_e he]; exact Prod.ext rfl hp.symm
theorem f8_e {h : Int} {s : SF} (he : s.2.1.e ≠ 0) (hp : s.2.2 = 0) : (f8 h s).2 = s.2 := by
  unfold f8; split
  · rfl
  · rw [hp]; show (rvAll s.2.1 0).2 = s.2; rw [rvAll_e he]; exact Prod.ext rfl hp.symm
theorem f9_e {h : Int} {s : SF} (he : s.2.1.e ≠ 0) (hp : s.2.2 = 0) : (f9 h s).2 = s.2 := by
  unfold f9; split
  · rfl
  · show ((s.2.1.text 32768).2, s.2.2) = s.2; rw [text_e he]
/-- the parts behind the head -/
def bdS (h : Int) (s : SF) : SF := f9 h (f8 h (f7 h (f6 h (f5 h s))))
theorem bdS_e {h : Int} {s : SF} (he : s.2.1.e ≠ 0) (hp : s.2.2 = 0) : (bdS h s).2 = s.2 := by
  unfold bdS
  have e5 := f5_e (h := h) he hp
  have e6 := f6_e (h := h) (s := f5 h s) (by rw [e5]; exact he) (by rw [e5]; exact hp)
  have e7 := f7_e (h := h) (s := f6 h (f5 h s)) (by rw [e6, e5]; exact he) (by rw [e6, e5]; exact hp)
  have e8 := f8_e (h := h) (s := f7 h (f6 h (f5 h s))) (by rw [e7, e6, e5]; exact he) (by rw [e7, e6, e5]; exact hp)
  have e9 := f9_e (h := h) (s := f8 h (f7 h (f6 h (f5 h s)))) (by rw [e8, e7, e6, e5]; exact he) (by rw [e8, e7, e6, e5]; exact hp)
  rw [e9, e8, e7, e6, e5]
theorem pkS_bd (b : List UInt8) : pkS b = bdS (fieldsP (hdQ b).kind) (hdS b) := rfl
theorem hd_kind (b : List UInt8) : 0 ≤ (hdQ b).kind ∧ (hdQ b).kind ≤ 255 := num1_range _
theorem f1_p {h : Int} {s : SF} : (f1 h s).2.2 = s.2.2 := by unfold f1; split <;> rfl
theorem f2_p {h : Int} {s : SF} : (f2 h s).2.2 = s.2.2 := by unfold f2; split <;> rfl
theorem f3_p {h : Int} {s : SF} : (f3 h s).2.2 = s.2.2 := by unfold f3; split <;> rfl
theorem hd_part {b : List UInt8} (h : (hdS b).2.2 ≠ 0) : (hdQ b).kind = 8 := by
  by_cases hb : bitA (fieldsP (hdQ b).kind) 8 = 0
  · exfalso
    unfold hdS f4 at h
    rw [if_pos hb, f3_p, f2_p, f1_p] at h
    exact h rfl
  · have h1 := (has_bitsA (hd_kind b)).2.2.2.1
    rw [show (bitA (fieldsP (hdQ b).kind) 8 != 0) = true by simp [hb]] at h1
    simpa using h1
theorem bdS_8 (s : SF) : bdS (fieldsP 8) s = s := by
  unfold bdS f9 f8 f7 f6 f5
  rw [if_pos (show bitA (fieldsP 8) 16 = 0 by kernel_rfl), if_pos (show bitA (fieldsP 8) 32 = 0 by kernel_rfl), if_pos (show bitA (fieldsP 8) 64 = 0 by kernel_rfl), if_pos (show bitA (fieldsP 8) 128 = 0 by kernel_rfl), if_pos (show bitA (fieldsP 8) 256 = 0 by kernel_rfl)]
/-- where the head failed, the packet failed by the same error -/
theorem parsePk_bad {b : List UInt8} (h : hdE b ≠ 0) : parsePk b = (pkZero, hdE b) := by
  unfold parsePk
  unfold hdE at h ⊢
  by_cases c : (hdR b).e = 0 ∧ fieldsP (hdQ b).kind = 0
  · rw [if_pos c, if_pos c]
  · rw [if_neg c] at h
    rw [if_neg c, if_neg c]
    have e : (pkS b).2 = (hdS b).2 := by
      rw [pkS_bd]
      by_cases hp : (hdS b).2.2 = 0
      · refine bdS_e ?_ hp
        unfold firstP at h
        rwa [if_pos hp] at h
      · rw [hd_part hp, bdS_8]
    rw [e, if_pos h]
theorem parsePk_bad2 {b : List UInt8} (h : hdE b = 0) (h2 : firstP (bdS (fieldsP (hdQ b).kind) (hdS b)).2.2 (bdS (fieldsP (hdQ b).kind) (hdS b)).2.1.e ≠ 0) : parsePk b = (pkZero, firstP (bdS (fieldsP (hdQ b).kind) (hdS b)).2.2 (bdS (fieldsP (hdQ b).kind) (hdS b)).2.1.e) := by
  unfold parsePk
  unfold hdE at h
  by_cases c : (hdR b).e = 0 ∧ fieldsP (hdQ b).kind = 0
  · rw [if_pos c] at h; cases h
  · rw [if_neg c, pkS_bd, if_pos h2]
theorem parsePk_good {b : List UInt8} (h : hdE b = 0) (h2 : firstP (bdS (fieldsP (hdQ b).kind) (hdS b)).2.2 (bdS (fieldsP (hdQ b).kind) (hdS b)).2.1.e = 0) : parsePk b = (eL (endP (bdS (fieldsP (hdQ b).kind) (hdS b)).2.1.end_ (bdS (fieldsP (hdQ b).kind) (hdS b)).1.ok) (bdS (fieldsP (hdQ b).kind) (hdS b)).1 pkZero, endP (bdS (fieldsP (hdQ b).kind) (hdS b)).2.1.end_ (bdS (fieldsP (hdQ b).kind) (hdS b)).1.ok) := by
  unfold parsePk
  unfold hdE at h
  by_cases c : (hdR b).e = 0 ∧ fieldsP (hdQ b).kind = 0
  · rw [if_pos c] at h; cases h
  · rw [if_neg c, pkS_bd, if_neg (fun hh => hh h2)]
/-- where the head is read, the kind is one of the fourteen -/
theorem hd_in {b : List UInt8} (h : hdE b = 0) : 1 ≤ (hdQ b).kind ∧ (hdQ b).kind ≤ 14 := by
  by_cases hc : 1 ≤ (hdQ b).kind ∧ (hdQ b).kind ≤ 14
  · exact hc
  exfalso
  have hf := (has_bitsA (hd_kind b)).2.2.2.2.2 (inP_no hc)
  have hs : hdS b = (hdQ b, hdR b, 0) := by
    unfold hdS
    rw [hf]
    unfold f4 f3 f2 f1
    rw [if_pos (show bitA 0 1 = 0 by kernel_rfl), if_pos (show bitA 0 2 = 0 by kernel_rfl), if_pos (show bitA 0 4 = 0 by kernel_rfl), if_pos (show bitA 0 8 = 0 by kernel_rfl)]
  unfold hdE at h
  by_cases c : (hdR b).e = 0 ∧ fieldsP (hdQ b).kind = 0
  · rw [if_pos c] at h; cases h
  · rw [if_neg c, hs] at h
    unfold firstP at h
    rw [if_pos rfl] at h
    exact c ⟨h, hf⟩
end Go.Proofs.YthfdkonhjpdflaaGreatDoor
end

section
namespace Go.Proofs.YthfdkonhjpdflaaGreatDoor
open Go.RowKit
set_option linter.unusedVariables false
set_option maxRecDepth 100000
set_option linter.unusedSimpArgs false

theorem cnt_most {most : Int} (hm : 0 ≤ most) : ∀ (l : List UInt8) (s n : Nat), (cnt most l s n).1 ≤ most
  | [], s, n => hm
  | b :: t, s, n => by
    unfold cnt
    split
    · exact hm
    · split
      · split
        · exact hm
        · split
          · exact hm
          · rename_i h; exact Int.not_lt.1 h
      · split
        · exact hm
        · exact cnt_most hm t _ _
theorem count_most (r : RS) {n : Int} (hn : 0 ≤ n) : (r.count n).1 ≤ n := by
  unfold RS.count; split
  · exact cnt_most hn _ _ _
  · exact hn
theorem text_most (r : RS) (n : Int) (hn : 0 ≤ n) : (r.text n).1.length ≤ n.toNat := by
  have h := RS.count_range r n
  have h2 := count_most r hn
  unfold RS.text RS.raw
  split
  · simp
  · unfold RS.take
    split
    · rw [List.length_take]; omega
    · simp
theorem f5_left {h : Int} {s : SF} (hl : (f5 h s).2.1.l ≠ []) : s.2.1.l ≠ [] := by
  unfold f5 at hl; split at hl
  · exact hl
  · exact rpRq_left hl
theorem f6_left {h : Int} {s : SF} (hl : (f6 h s).2.1.l ≠ []) : s.2.1.l ≠ [] := by
  unfold f6 at hl; split at hl
  · exact hl
  · exact rpAn_left hl
theorem f7_left {h : Int} {s : SF} (hl : (f7 h s).2.1.l ≠ []) : s.2.1.l ≠ [] := by
  unfold f7 at hl; split at hl
  · exact hl
  · exact rpCf_left hl
theorem f8_left {h : Int} {s : SF} (hl : (f8 h s).2.1.l ≠ []) : s.2.1.l ≠ [] := by
  unfold f8 at hl; split at hl
  · exact hl
  · exact rvAll_left hl
theorem f9_left {h : Int} {s : SF} (hl : (f9 h s).2.1.l ≠ []) : s.2.1.l ≠ [] := by
  unfold f9 at hl; split at hl
  · exact hl
  · exact text_left hl
theorem bdS_left {h : Int} {s : SF} (hl : (bdS h s).2.1.l ≠ []) : s.2.1.l ≠ [] := f5_left (f6_left (f7_left (f8_left (f9_left hl))))
theorem rpRq_env (r : RS) (part : Int) : (rpRq r part).1.env.length ≤ 1024 := by
  unfold rpRq
  split
  · unfold parseRq eL
    dsimp only
    split
    · exact text_most _ 1024 (by decide)
    · simp [rqZero]
  · simp [rqZero]
theorem rpAn_env (r : RS) (part : Int) : (rpAn r part).1.env.length ≤ 1024 := by
  unfold rpAn
  split
  · unfold parseAn eL
    dsimp only
    split
    · exact text_most _ 1024 (by decide)
    · simp [anZero]
  · simp [anZero]
theorem rpCf_chain (r : RS) (part : Int) : (rpCf r part).1.chain.length ≤ 5 := by
  unfold rpCf
  split
  · unfold parseCf eL
    dsimp only
    split
    · show (rdN _ _).1.length ≤ 5
      rw [rdN_len]; unfold cfN cfK; split <;> omega
    · simp [cfZero]
  · simp [cfZero]
theorem rdVs_short : ∀ (k : Nat) (acc : List VT) (r : RS) (part : Int), (∀ v ∈ acc, v.conf.chain.length ≤ 5) → (rdVs k acc r part).1.length ≤ acc.length + k ∧ ∀ v ∈ (rdVs k acc r part).1, v.conf.chain.length ≤ 5
  | 0, acc, r, part, h => ⟨Nat.le_refl _, h⟩
  | k + 1, acc, r, part, h => by
    unfold rdVs
    split
    · have := rdVs_short k (acc ++ [⟨(r.count 9007199254740991).1, (rpCf (r.count 9007199254740991).2 part).1⟩]) (rpCf (r.count 9007199254740991).2 part).2.1 (rpCf (r.count 9007199254740991).2 part).2.2 (fun v hv => by
        rcases List.mem_append.1 hv with hv | hv
        · exact h v hv
        · rw [List.mem_singleton.1 hv]; exact rpCf_chain _ _)
      refine ⟨by have h1 := this.1; simp at h1; omega, this.2⟩
    · exact ⟨by simp, by simp⟩
theorem rvAll_short (r : RS) (part : Int) : (rvAll r part).1.length ≤ 9 ∧ ∀ v ∈ (rvAll r part).1, v.conf.chain.length ≤ 5 := by
  have h := rdVs_short (vtK (r.num 1).1) [] (r.num 1).2 part (by simp)
  refine ⟨Nat.le_trans h.1 ?_, h.2⟩
  unfold vtK
  simp
  split <;> omega
theorem pkZero_fits : pkZero.fits := ⟨by simp [pkZero, rqZero], by simp [pkZero, anZero], by simp [pkZero, cfZero], by simp [pkZero], by simp [pkZero], by simp [pkZero]⟩
theorem hdQ_fits (b : List UInt8) : (hdQ b).fits := ⟨pkZero_fits.e, pkZero_fits.a, pkZero_fits.c, pkZero_fits.v, pkZero_fits.vc, pkZero_fits.b⟩
theorem f1_fits {h : Int} {s : SF} (hf : s.1.fits) : (f1 h s).1.fits := by
  unfold f1; split
  · exact hf
  · exact ⟨hf.e, hf.a, hf.c, hf.v, hf.vc, hf.b⟩
theorem f2_fits {h : Int} {s : SF} (hf : s.1.fits) : (f2 h s).1.fits := by
  unfold f2; split
  · exact hf
  · exact ⟨hf.e, hf.a, hf.c, hf.v, hf.vc, hf.b⟩
theorem f3_fits {h : Int} {s : SF} (hf : s.1.fits) : (f3 h s).1.fits := by
  unfold f3; split
  · exact hf
  · exact ⟨hf.e, hf.a, hf.c, hf.v, hf.vc, hf.b⟩
theorem f4_fits {h : Int} {s : SF} (hf : s.1.fits) : (f4 h s).1.fits := by
  unfold f4; split
  · exact hf
  · exact ⟨hf.e, hf.a, hf.c, hf.v, hf.vc, hf.b⟩
theorem f5_fits {h : Int} {s : SF} (hf : s.1.fits) : (f5 h s).1.fits := by
  unfold f5; split
  · exact hf
  · exact ⟨Nat.le_trans (rpRq_env _ _) (by omega), hf.a, hf.c, hf.v, hf.vc, hf.b⟩
theorem f6_fits {h : Int} {s : SF} (hf : s.1.fits) : (f6 h s).1.fits := by
  unfold f6; split
  · exact hf
  · exact ⟨hf.e, Nat.le_trans (rpAn_env _ _) (by omega), hf.c, hf.v, hf.vc, hf.b⟩
theorem f7_fits {h : Int} {s : SF} (hf : s.1.fits) : (f7 h s).1.fits := by
  unfold f7; split
  · exact hf
  · exact ⟨hf.e, hf.a, Nat.le_trans (rpCf_chain _ _) (by omega), hf.v, hf.vc, hf.b⟩
theorem f8_fits {h : Int} {s : SF} (hf : s.1.fits) : (f8 h s).1.fits := by
  unfold f8; split
  · exact hf
  · exact ⟨hf.e, hf.a, hf.c, Nat.le_trans (rvAll_short _ _).1 (by omega), fun v hv => Nat.le_trans ((rvAll_short _ _).2 v hv) (by omega), hf.b⟩
theorem f9_fits {h : Int} {s : SF} (hf : s.1.fits) : (f9 h s).1.fits := by
  unfold f9; split
  · exact hf
  · exact ⟨hf.e, hf.a, hf.c, hf.v, hf.vc, Nat.le_trans (text_most _ 32768 (by decide)) (by decide)⟩
theorem bdS_fits {h : Int} {s : SF} (hf : s.1.fits) : (bdS h s).1.fits := f9_fits (f8_fits (f7_fits (f6_fits (f5_fits hf))))
theorem hdS_fits (b : List UInt8) : (hdS b).1.fits := f4_fits (f3_fits (f2_fits (f1_fits (hdQ_fits b))))
/-- a packet without parts: its lists are none -/
theorem hdS_plain (b : List UInt8) : (hdS b).1.kind = (hdQ b).kind ∧ ∀ w F, pkV w F (hdS b).1 nilV nilV nilV nilV nilV := by
  have p0 : ∀ s : SF, (s.1.req = rqZero ∧ s.1.ans = anZero ∧ s.1.conf = cfZero ∧ s.1.votes = [] ∧ s.1.bytes = [] ∧ s.1.kind = (hdQ b).kind) → ∀ h, ((f1 h s).1.req = rqZero ∧ (f1 h s).1.ans = anZero ∧ (f1 h s).1.conf = cfZero ∧ (f1 h s).1.votes = [] ∧ (f1 h s).1.bytes = [] ∧ (f1 h s).1.kind = (hdQ b).kind) ∧ ((f2 h s).1.req = rqZero ∧ (f2 h s).1.ans = anZero ∧ (f2 h s).1.conf = cfZero ∧ (f2 h s).1.votes = [] ∧ (f2 h s).1.bytes = [] ∧ (f2 h s).1.kind = (hdQ b).kind) ∧ ((f3 h s).1.req = rqZero ∧ (f3 h s).1.ans = anZero ∧ (f3 h s).1.conf = cfZero ∧ (f3 h s).1.votes = [] ∧ (f3 h s).1.bytes = [] ∧ (f3 h s).1.kind = (hdQ b).kind) ∧ ((f4 h s).1.req = rqZero ∧ (f4 h s).1.ans = anZero ∧ (f4 h s).1.conf = cfZero ∧ (f4 h s).1.votes = [] ∧ (f4 h s).1.bytes = [] ∧ (f4 h s).1.kind = (hdQ b).kind) := by
    intro s hs h
    refine ⟨?_, ?_, ?_, ?_⟩
    · unfold f1; split <;> exact hs
    · unfold f2; split <;> exact hs
    · unfold f3; split <;> exact hs
    · unfold f4; split <;> exact hs
  have h0 := (p0 (hdQ b, hdR b, 0) ⟨rfl, rfl, rfl, rfl, rfl, rfl⟩ (fieldsP (hdQ b).kind)).1
  have h1 := (p0 _ h0 (fieldsP (hdQ b).kind)).2.1
  have h2 := (p0 _ h1 (fieldsP (hdQ b).kind)).2.2.1
  have h3 := (p0 _ h2 (fieldsP (hdQ b).kind)).2.2.2
  obtain ⟨e1, e2, e3, e4, e5, e6⟩ : (hdS b).1.req = rqZero ∧ (hdS b).1.ans = anZero ∧ (hdS b).1.conf = cfZero ∧ (hdS b).1.votes = [] ∧ (hdS b).1.bytes = [] ∧ (hdS b).1.kind = (hdQ b).kind := h3
  have z := fun w F => pkZero_val w F
  refine ⟨e6, fun w F => ⟨by rw [e1]; exact rqZero_name, by rw [e2]; exact anZero_name, by rw [e1]; exact (z w F).re, by rw [e2]; exact (z w F).ae, by rw [e3]; exact (z w F).cc, by rw [e4]; exact (z w F).vs, by rw [e5]; exact (z w F).bs⟩⟩
/-- the parts, by kinds -/
theorem f5_no {h : Int} {s : SF} (hb : bitA h 16 = 0) : f5 h s = s := by unfold f5; rw [if_pos hb]
theorem f6_no {h : Int} {s : SF} (hb : bitA h 32 = 0) : f6 h s = s := by unfold f6; rw [if_pos hb]
theorem f7_no {h : Int} {s : SF} (hb : bitA h 64 = 0) : f7 h s = s := by unfold f7; rw [if_pos hb]
theorem f8_no {h : Int} {s : SF} (hb : bitA h 128 = 0) : f8 h s = s := by unfold f8; rw [if_pos hb]
theorem f9_no {h : Int} {s : SF} (hb : bitA h 256 = 0) : f9 h s = s := by unfold f9; rw [if_pos hb]
theorem bdS_rq {k : Int} (hk : k = 1 ∨ k = 3) (s : SF) : bdS (fieldsP k) s = ({ s.1 with req := (rpRq s.2.1 s.2.2).1 }, (rpRq s.2.1 s.2.2).2.1, (rpRq s.2.1 s.2.2).2.2) := by
  unfold bdS
  obtain rfl | rfl := hk
  all_goals
    rw [f9_no (by kernel_rfl), f8_no (by kernel_rfl), f7_no (by kernel_rfl), f6_no (by kernel_rfl)]
    unfold f5
  · rw [if_neg (by rw [show bitA (fieldsP 1) 16 = 16 by kernel_rfl]; decide)]
  · rw [if_neg (by rw [show bitA (fieldsP 3) 16 = 16 by kernel_rfl]; decide)]
theorem bdS_an (s : SF) : bdS (fieldsP 2) s = ({ s.1 with ans := (rpAn s.2.1 s.2.2).1 }, (rpAn s.2.1 s.2.2).2.1, (rpAn s.2.1 s.2.2).2.2) := by
  unfold bdS
  rw [f9_no (by kernel_rfl), f8_no (by kernel_rfl), f7_no (by kernel_rfl), f5_no (by kernel_rfl)]
  unfold f6
  rw [if_neg (by rw [show bitA (fieldsP 2) 32 = 32 by kernel_rfl]; decide)]
theorem bdS_cf {k : Int} (hk : k = 7 ∨ k = 12) (s : SF) : bdS (fieldsP k) s = ({ s.1 with conf := (rpCf s.2.1 s.2.2).1 }, (rpCf s.2.1 s.2.2).2.1, (rpCf s.2.1 s.2.2).2.2) := by
  unfold bdS
  obtain rfl | rfl := hk
  all_goals
    rw [f9_no (by kernel_rfl), f8_no (by kernel_rfl), f5_no (by kernel_rfl), f6_no (by kernel_rfl)]
    unfold f7
  · rw [if_neg (by rw [show bitA (fieldsP 7) 64 = 64 by kernel_rfl]; decide)]
  · rw [if_neg (by rw [show bitA (fieldsP 12) 64 = 64 by kernel_rfl]; decide)]
theorem bdS_vs (s : SF) : bdS (fieldsP 11) s = ({ s.1 with votes := (rvAll s.2.1 s.2.2).1 }, (rvAll s.2.1 s.2.2).2.1, (rvAll s.2.1 s.2.2).2.2) := by
  unfold bdS
  rw [f9_no (by kernel_rfl), f7_no (by kernel_rfl), f6_no (by kernel_rfl), f5_no (by kernel_rfl)]
  unfold f8
  rw [if_neg (by rw [show bitA (fieldsP 11) 128 = 128 by kernel_rfl]; decide)]
theorem bdS_bs (s : SF) : bdS (fieldsP 6) s = ({ s.1 with bytes := (s.2.1.text 32768).1 }, (s.2.1.text 32768).2, s.2.2) := by
  unfold bdS
  rw [f8_no (by kernel_rfl), f7_no (by kernel_rfl), f6_no (by kernel_rfl), f5_no (by kernel_rfl)]
  unfold f9
  rw [if_neg (by rw [show bitA (fieldsP 6) 256 = 256 by kernel_rfl]; decide)]
theorem bdS_no {k : Int} (hk : k = 4 ∨ k = 5 ∨ k = 8 ∨ k = 9 ∨ k = 10 ∨ k = 13 ∨ k = 14) (s : SF) : bdS (fieldsP k) s = s := by
  unfold bdS
  obtain rfl | rfl | rfl | rfl | rfl | rfl | rfl := hk
  all_goals rw [f9_no (by kernel_rfl), f8_no (by kernel_rfl), f7_no (by kernel_rfl), f6_no (by kernel_rfl), f5_no (by kernel_rfl)]
theorem hdE_no {b : List UInt8} (h : hdE b = 0) : (hdS b).2.2 = 0 ∧ (hdS b).2.1.e = 0 := by
  unfold hdE firstP at h
  split at h
  · cases h
  · by_cases hp : (hdS b).2.2 = 0
    · rw [if_pos hp] at h; exact ⟨hp, h⟩
    · rw [if_neg hp] at h; exact absurd h hp
theorem firstP_0 {a e : Int} (h : firstP a e = 0) : a = 0 ∧ e = 0 := by
  unfold firstP at h
  by_cases ha : a = 0
  · rw [if_pos ha] at h; exact ⟨ha, h⟩
  · rw [if_neg ha] at h; exact absurd h ha
theorem firstP_z {a e : Int} (h : e = 0) : firstP a e = a := by
  unfold firstP; split
  · rename_i h0; rw [h, h0]
  · rfl
theorem rpRq_good {r r1 : RS} {t : List UInt8} (h : r.text 2048 = (t, r1)) (he : r1.e = 0) : rpRq r 0 = ((parseRq t).1, r1, (parseRq t).2) := by
  unfold rpRq; rw [h]; exact if_pos he
theorem rpRq_bad {r r1 : RS} {t : List UInt8} (h : r.text 2048 = (t, r1)) (he : r1.e ≠ 0) : rpRq r 0 = (rqZero, r1, 0) := by
  unfold rpRq; rw [h]; exact if_neg he
theorem rpAn_good {r r1 : RS} {t : List UInt8} (h : r.text 2048 = (t, r1)) (he : r1.e = 0) : rpAn r 0 = ((parseAn t).1, r1, (parseAn t).2) := by
  unfold rpAn; rw [h]; exact if_pos he
theorem rpAn_bad {r r1 : RS} {t : List UInt8} (h : r.text 2048 = (t, r1)) (he : r1.e ≠ 0) : rpAn r 0 = (anZero, r1, 0) := by
  unfold rpAn; rw [h]; exact if_neg he
theorem rpCf_good {r r1 : RS} {t : List UInt8} (h : r.text 2048 = (t, r1)) (he : r1.e = 0) : rpCf r 0 = ((parseCf t).1, r1, (parseCf t).2) := by
  unfold rpCf; rw [h]; exact if_pos he
theorem rpCf_bad {r r1 : RS} {t : List UInt8} (h : r.text 2048 = (t, r1)) (he : r1.e ≠ 0) : rpCf r 0 = (cfZero, r1, 0) := by
  unfold rpCf; rw [h]; exact if_neg he
/-- votes, one after another -/
theorem rdVs_go {k : Nat} {acc : List VT} {r : RS} (h : (vtD r).2.2 = 0) : rdVs (k + 1) acc r 0 = rdVs k (acc ++ [(vtD r).1]) (vtD r).2.1 0 := by
  have h2 : firstP (rpCf (r.count 9007199254740991).2 0).2.2 (rpCf (r.count 9007199254740991).2 0).2.1.e = 0 := h
  rw [rdVs, if_pos h2, (firstP_0 h2).1]
  rfl
theorem rdVs_halt {k : Nat} {acc : List VT} {r : RS} (h : (vtD r).2.2 ≠ 0) : firstP (rdVs (k + 1) acc r 0).2.2 (rdVs (k + 1) acc r 0).2.1.e = (vtD r).2.2 := by
  have h2 : ¬ firstP (rpCf (r.count 9007199254740991).2 0).2.2 (rpCf (r.count 9007199254740991).2 0).2.1.e = 0 := h
  rw [rdVs, if_neg h2]
  rfl
theorem vtD_left {r : RS} (h : (vtD r).2.1.l ≠ []) : r.l ≠ [] := count_left (rpCf_left h)
theorem vtD_short (r : RS) : (vtD r).2.1.l.length ≤ r.l.length := by
  show (rpCf (r.count 9007199254740991).2 0).2.1.l.length ≤ _
  refine Nat.le_trans ?_ (RS.count_short r 9007199254740991)
  unfold rpCf
  split <;> exact text_short _ _
end Go.Proofs.YthfdkonhjpdflaaGreatDoor
end
