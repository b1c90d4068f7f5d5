/-
  PACK: the round trip, what was laid, and what a packet has.
-/
import Derived.Test.YthfdkonhjpdflaaDoorPkA
import Derived.ProofKit
import Derived.LaidMore
import Derived.OpenShut
import Derived.Stop.Joined
import Derived.Test.YthfdkonhjpdflaaDoorPk33
import Derived.Test.YthfdkonhjpdflaaDoorLow3
section
namespace Go.Proofs.YthfdkonhjpdflaaDoor
open Go.ChangeShapes Go.WideShapes Go.ChangeAt Go.WideMaps Go.WideElems Go.RowKit
set_option linter.unusedVariables false

abbrev laidL : List (String × DataW Unit) := [("sealchain/pack.fields", Rows.laid_sealchain_pack_fields)]
theorem gFields : Tryd.prog.globalNamed "sealchain/pack.fields" = some 0 := by kernel_rfl
theorem tFields : (Tryd.prog.globals[0]?).map (·.type) = some 111 := by kernel_rfl
theorem cIntL : Tryd.prog.cellsOf 3 = 1 := by kernel_rfl

theorem door_met (os : Os) (args : Array Value) : laidMetH Tryd.prog laidL ((World.doorLaid Tryd.prog 400 os).forCall (fun _ _ => 0) ⟨#[], args, []⟩).memory :=
  laidMetH_of_parts3 (fuel := 8) (laidMet_of_run' 8 (by kernel_rfl) (by kernel_rfl)) (by kernel_rfl) (by kernel_rfl)

theorem lits_at {H : Type} : ∀ k : Nat, k < 15 → ([.lit (.int .i64 0), .lit (.int .i64 16), .lit (.int .i64 32), .lit (.int .i64 19), .lit (.int .i64 3), .lit (.int .i64 3), .lit (.int .i64 259), .lit (.int .i64 64), .lit (.int .i64 9), .lit (.int .i64 1024), .lit (.int .i64 6), .lit (.int .i64 134), .lit (.int .i64 70), .lit (.int .i64 6), .lit (.int .i64 4)] : List (DataW H))[k]? = some (.lit (.int .i64 (fieldsT k)))
  | 0, _ => rfl
  | 1, _ => rfl
  | 2, _ => rfl
  | 3, _ => rfl
  | 4, _ => rfl
  | 5, _ => rfl
  | 6, _ => rfl
  | 7, _ => rfl
  | 8, _ => rfl
  | 9, _ => rfl
  | 10, _ => rfl
  | 11, _ => rfl
  | 12, _ => rfl
  | 13, _ => rfl
  | 14, _ => rfl
  | k + 15, h => by omega
theorem fields_of_laid {W : World} (h : laidMetH Tryd.prog laidL W) : fieldsAt W := by
  rw [MakeChecks.laidMetH_plain _ _ _ (by kernel_rfl)] at h
  obtain ⟨ps, ⟨g0, t0, cs0, f0, p0, q0, hg0, ht0, hv0, hd0, _⟩, _⟩ := h
  obtain rfl := Option.some.inj (gFields.symm.trans hg0)
  obtain rfl := Option.some.inj (tFields.symm.trans ht0)
  obtain ⟨xs, m1, rfl, hx1, hlen, hn3, hel⟩ := DataW.trod_array Tryd.underlying111 hd0
  simp only [Prod.mk.injEq, Rows.laid_sealchain_pack_fields, DataW.agg.injEq] at hx1
  intro k hk
  have hc := World.var?_cell hg0 hv0 k
  obtain ⟨x, hx⟩ : ∃ x, xs[k]? = some x := ⟨_, List.getElem?_eq_getElem (by omega)⟩
  have h0 := hel k hk
  rw [cIntL, hx, Nat.mul_one] at h0
  obtain ⟨n, hn, hxn, _⟩ := DataW.trod_int Tryd.underlying3 h0
  have hm : (xs.map (·.1))[k]? = some (.lit (.int .i64 n)) := by rw [List.getElem?_map, hx, hxn]; rfl
  rw [← hx1.1, lits_at k hk] at hm
  simp only [Option.some.injEq, DataW.lit.injEq, Lit.int.injEq, true_and] at hm
  have hv : cs0.toList[k]? = some (.int .i64 n) := by
    have := congrArg (fun l => l[0]?) hn
    simpa [List.getElem?_take, List.getElem?_drop] using this
  rw [hc, hm, ← hv]
  simp
end Go.Proofs.YthfdkonhjpdflaaDoor
end

section
namespace Go.Proofs.YthfdkonhjpdflaaDoor
open Go.RowKit
set_option linter.unusedVariables false
set_option maxRecDepth 100000
set_option linter.unusedSimpArgs false

/-! what is read, is what would be written -/
theorem cnt_inv (most : Int) : ∀ (l : List UInt8) (s n : Nat), s = (cbHi n).length → (cnt most l s n).2.e = 0 → ∃ v : Nat, (cnt most l s n).1 = (v : Int) ∧ cbHi n ++ l = cb v ++ (cnt most l s n).2.l := by
  intro l
  induction l with
  | nil => intro s n hs he; rw [cnt_nil] at he; exact absurd he (by decide)
  | cons b t ih =>
    intro s n hs he
    have hb := b.toNat_lt
    have hz := cbHi_nil n
    unfold cnt at he ⊢
    by_cases c1 : s = 0 ∧ b.toNat = 128
    · rw [if_pos c1] at he; exact absurd he (by decide)
    · rw [if_neg c1] at he ⊢
      by_cases c2 : b.toNat < 128
      · rw [if_pos c2] at he ⊢
        by_cases c3 : mxN < n * 128 + b.toNat % 128
        · rw [if_pos c3] at he; exact absurd he (by decide)
        · rw [if_neg c3] at he ⊢
          by_cases c4 : most < ((n * 128 + b.toNat % 128 : Nat) : Int)
          · rw [if_pos c4] at he; exact absurd he (by decide)
          · rw [if_neg c4]
            refine ⟨n * 128 + b.toNat % 128, rfl, ?_⟩
            show cbHi n ++ b :: t = cb _ ++ t
            unfold cb
            rw [show (n * 128 + b.toNat % 128) / 128 = n by omega, show (n * 128 + b.toNat % 128) % 128 = b.toNat by omega]
            simp
      · rw [if_neg c2] at he ⊢
        by_cases c5 : s = 7
        · rw [if_pos c5] at he; exact absurd he (by decide)
        · rw [if_neg c5] at he ⊢
          have hpos : 0 < n * 128 + b.toNat % 128 := by omega
          have hc : cbHi (n * 128 + b.toNat % 128) = cbHi n ++ [b] := by
            rw [cbHi_pos _ hpos, show (n * 128 + b.toNat % 128) / 128 = n by omega, show 128 + (n * 128 + b.toNat % 128) % 128 = b.toNat by omega]
            simp
          obtain ⟨v, h1, h2⟩ := ih (s + 1) (n * 128 + b.toNat % 128) (by rw [hc]; simp [hs]) he
          refine ⟨v, h1, ?_⟩
          rw [← h2, hc]
          simp
theorem count_inv (r : RS) (he : r.e = 0) (most : Int) (h : (r.count most).2.e = 0) : ∃ v : Nat, (r.count most).1 = (v : Int) ∧ r.l = cb v ++ (r.count most).2.l := by
  unfold RS.count at h ⊢
  rw [if_pos he] at h ⊢
  obtain ⟨v, h1, h2⟩ := cnt_inv most r.l 0 0 (by rw [cbHi_zero]; rfl) h
  rw [cbHi_zero] at h2
  exact ⟨v, h1, h2⟩
theorem num1_inv (r : RS) (he : r.e = 0) (h : (r.num 1).2.e = 0) : ∃ v : Nat, v < 256 ∧ (r.num 1).1 = (v : Int) ∧ r.l = beBytes 1 v ++ (r.num 1).2.l := by
  obtain ⟨l, e⟩ := r
  simp only at he
  subst he
  cases l with
  | nil => exact absurd h (by decide)
  | cons b t =>
    have hb := b.toNat_lt
    have hn : (RS.mk (b :: t) 0).num 1 = ((b.toNat : Int), ⟨t, 0⟩) := by
      have e1 : beBytes 1 b.toNat = [b] := by
        show [UInt8.ofNat (b.toNat / 256 ^ 0 % 256)] = [b]
        rw [show b.toNat / 256 ^ 0 % 256 = b.toNat by omega]
        simp
      have := num_back 1 b.toNat t rfl (by omega) (by unfold mxN; omega)
      rw [e1] at this
      exact this
    rw [hn]
    refine ⟨b.toNat, by omega, rfl, ?_⟩
    show b :: t = [UInt8.ofNat (b.toNat / 256 ^ 0 % 256)] ++ t
    rw [show b.toNat / 256 ^ 0 % 256 = b.toNat by omega]
    simp
theorem raw_inv (r : RS) (he : r.e = 0) (n : Nat) (h : (r.raw (n : Int)).2.e = 0) : (r.raw (n : Int)).1.length = n ∧ r.l = (r.raw (n : Int)).1 ++ (r.raw (n : Int)).2.l := by
  obtain ⟨l, e⟩ := r
  simp only at he
  subst he
  unfold RS.raw at h ⊢
  rw [if_neg (by omega)] at h ⊢
  simp only [Int.toNat_natCast] at h ⊢
  unfold RS.past at h ⊢
  unfold RS.take
  simp only [if_pos] at h ⊢
  by_cases c : n ≤ l.length
  · simp only [c, if_pos, and_self] at h ⊢
    exact ⟨by rw [List.length_take]; omega, (List.take_append_drop n l).symm⟩
  · simp only [c, if_false] at h
    exact absurd h (by decide)
theorem count_stick (r : RS) (he : r.e ≠ 0) (m : Int) : (r.count m).2.e ≠ 0 := by unfold RS.count; rw [if_neg he]; exact he
theorem past_stick (r : RS) (he : r.e ≠ 0) (n : Nat) : (r.past n).e ≠ 0 := by unfold RS.past; rw [if_neg he]; exact he
theorem fail_stick (r : RS) (he : r.e ≠ 0) (x : Int) : (r.fail x).e ≠ 0 := by unfold RS.fail; rw [if_neg he]; exact he
theorem num_stick (r : RS) (he : r.e ≠ 0) (n : Int) : (r.num n).2.e ≠ 0 := by
  unfold RS.num
  split
  · split
    · split
      · exact fail_stick _ (past_stick r he _) _
      · exact past_stick r he _
    · exact past_stick r he _
  · exact fail_stick r he _
theorem raw_stick (r : RS) (he : r.e ≠ 0) (n : Int) : (r.raw n).2.e ≠ 0 := by
  unfold RS.raw
  split
  · exact fail_stick r he _
  · exact past_stick r he _
theorem text_inv (r : RS) (he : r.e = 0) (m : Int) (h : (r.text m).2.e = 0) : r.l = cb (r.text m).1.length ++ ((r.text m).1 ++ (r.text m).2.l) := by
  unfold RS.text at h ⊢
  have hc : (r.count m).2.e = 0 := by
    by_cases c : (r.count m).2.e = 0
    · exact c
    · exact absurd h (raw_stick _ c _)
  obtain ⟨v, h1, h2⟩ := count_inv r he m hc
  rw [h1] at h ⊢
  obtain ⟨h3, h4⟩ := raw_inv _ hc v h
  rw [h3, ← h4]
  exact h2
theorem text_stick (r : RS) (he : r.e ≠ 0) (m : Int) : (r.text m).2.e ≠ 0 := raw_stick _ (count_stick r he m) _
theorem num_e {r : RS} {n : Int} (h : (r.num n).2.e = 0) : r.e = 0 := Classical.byContradiction fun c => num_stick r c n h
theorem count_e {r : RS} {n : Int} (h : (r.count n).2.e = 0) : r.e = 0 := Classical.byContradiction fun c => count_stick r c n h
theorem raw_e {r : RS} {n : Int} (h : (r.raw n).2.e = 0) : r.e = 0 := Classical.byContradiction fun c => raw_stick r c n h
theorem text_e {r : RS} {n : Int} (h : (r.text n).2.e = 0) : r.e = 0 := Classical.byContradiction fun c => text_stick r c n h
theorem num1_is {r : RS} (h : (r.num 1).2.e = 0) : r.l = beBytes 1 (r.num 1).1.toNat ++ (r.num 1).2.l := by
  obtain ⟨v, _, h1, h2⟩ := num1_inv r (num_e h) h
  rw [h1, Int.toNat_natCast]; exact h2
theorem count_is {r : RS} {m : Int} (h : (r.count m).2.e = 0) : r.l = cb (r.count m).1.toNat ++ (r.count m).2.l := by
  obtain ⟨v, h1, h2⟩ := count_inv r (count_e h) m h
  rw [h1, Int.toNat_natCast]; exact h2
theorem raw32_is {r : RS} (h : (r.raw 32).2.e = 0) : (r.raw 32).1.length = 32 ∧ r.l = (r.raw 32).1 ++ (r.raw 32).2.l := raw_inv r (raw_e h) 32 h
theorem num1_back {n : Int} (h0 : 0 ≤ n) (h1 : n < 256) (rest : List UInt8) : (RS.mk (beBytes 1 n.toNat ++ rest) 0).num 1 = (n, ⟨rest, 0⟩) := by
  have := num_back 1 n.toNat rest rfl (by omega) (by unfold mxN; omega)
  rw [show ((n.toNat : Nat) : Int) = n by omega] at this
  exact this
theorem cnt_back {n : Int} (h0 : 0 ≤ n) (h1 : n ≤ 9007199254740991) (rest : List UInt8) : (RS.mk (cb n.toNat ++ rest) 0).count 9007199254740991 = (n, ⟨rest, 0⟩) := by
  have := count_back n.toNat 9007199254740991 rest (by unfold mxN; omega) (by omega)
  rw [show ((n.toNat : Nat) : Int) = n by omega] at this
  exact this
theorem txt_back {t : List UInt8} {most : Int} (h0 : (t.length : Int) ≤ most) (h1 : t.length ≤ 1000000) (rest : List UInt8) : (RS.mk (cb t.length ++ (t ++ rest)) 0).text most = (t, ⟨rest, 0⟩) := by
  have := text_back t rest most (by unfold mxN; omega) h0
  rw [List.append_assoc] at this
  exact this
theorem name_back {t : List UInt8} (h : t.length = 32) (rest : List UInt8) : (RS.mk (t ++ rest) 0).raw 32 = (t, ⟨rest, 0⟩) := by
  have := raw_back t rest
  rw [h] at this
  exact this
theorem endP_zero {e : Int} {ok : Bool} (h : endP e ok = 0) : e = 0 ∧ ok = true := by
  unfold endP at h
  split at h
  · rename_i he
    cases ok
    · exact absurd h (by decide)
    · exact ⟨he, rfl⟩
  · rename_i he; exact absurd h he
theorem end_zero {r : RS} (h : r.end_ = 0) : r.e = 0 ∧ r.l = [] := by
  unfold RS.end_ at h
  split at h
  · rename_i he
    split at h
    · rename_i hl; exact ⟨he, hl⟩
    · exact absurd h (by decide)
  · rename_i he; exact absurd h he
theorem parseRq_back {q : RQ} (hok : q.ok = true) (hn : q.name.length = 32) : parseRq (reqB q) = (q, 0) := by
  obtain ⟨h1, h2, h3, h4, h5⟩ := q.ok_facts hok
  have e0 : reqB q = beBytes 1 q.client.toNat ++ (cb q.num.toNat ++ (beBytes 1 q.kind.toNat ++ (cb q.version.toNat ++ (q.name ++ (cb q.env.length ++ (q.env ++ [])))))) := by unfold reqB; simp only [List.append_assoc, List.nil_append, List.append_nil]
  have a1 := num1_back (n := q.client) (by omega) (by omega) (cb q.num.toNat ++ (beBytes 1 q.kind.toNat ++ (cb q.version.toNat ++ (q.name ++ (cb q.env.length ++ (q.env ++ []))))))
  have a2 := cnt_back (n := q.num) (by omega) (by omega) (beBytes 1 q.kind.toNat ++ (cb q.version.toNat ++ (q.name ++ (cb q.env.length ++ (q.env ++ [])))))
  have a3 := num1_back (n := q.kind) (by omega) (by omega) (cb q.version.toNat ++ (q.name ++ (cb q.env.length ++ (q.env ++ []))))
  have a4 := cnt_back (n := q.version) (by omega) (by omega) (q.name ++ (cb q.env.length ++ (q.env ++ [])))
  have a5 := name_back hn (cb q.env.length ++ (q.env ++ []))
  have a6 := txt_back (t := q.env) (most := 1024) (by omega) (by omega) []
  rw [← e0] at a1
  have rd : rqRd ⟨reqB q, 0⟩ = q := by simp only [rqRd, rqR5, rqR4, rqR3, rqR2, rqR1, rqR0, a1, a2, a3, a4, a5, a6, nmOf_all hn]
  have r6 : rqR6 ⟨reqB q, 0⟩ = ⟨[], 0⟩ := by simp only [rqR6, rqR5, rqR4, rqR3, rqR2, rqR1, rqR0, a1, a2, a3, a4, a5, a6]
  unfold parseRq
  rw [r6, rd, hok]
  rfl
theorem parseAn_back {q : AN} (hok : q.ok = true) (hn : q.name.length = 32) : parseAn (ansB q) = (q, 0) := by
  obtain ⟨h1, h2, h3, h4, h5, h6⟩ := q.ok_facts hok
  have e0 : ansB q = beBytes 1 q.client.toNat ++ (cb q.num.toNat ++ (beBytes 1 q.code.toNat ++ (cb q.version.toNat ++ (beBytes 1 q.epoch.toNat ++ (q.name ++ (cb q.env.length ++ (q.env ++ []))))))) := by unfold ansB; simp only [List.append_assoc, List.nil_append, List.append_nil]
  have a1 := num1_back (n := q.client) (by omega) (by omega) (cb q.num.toNat ++ (beBytes 1 q.code.toNat ++ (cb q.version.toNat ++ (beBytes 1 q.epoch.toNat ++ (q.name ++ (cb q.env.length ++ (q.env ++ [])))))))
  have a2 := cnt_back (n := q.num) (by omega) (by omega) (beBytes 1 q.code.toNat ++ (cb q.version.toNat ++ (beBytes 1 q.epoch.toNat ++ (q.name ++ (cb q.env.length ++ (q.env ++ []))))))
  have a3 := num1_back (n := q.code) (by omega) (by omega) (cb q.version.toNat ++ (beBytes 1 q.epoch.toNat ++ (q.name ++ (cb q.env.length ++ (q.env ++ [])))))
  have a4 := cnt_back (n := q.version) (by omega) (by omega) (beBytes 1 q.epoch.toNat ++ (q.name ++ (cb q.env.length ++ (q.env ++ []))))
  have a4b := num1_back (n := q.epoch) (by omega) (by omega) (q.name ++ (cb q.env.length ++ (q.env ++ [])))
  have a5 := name_back hn (cb q.env.length ++ (q.env ++ []))
  have a6 := txt_back (t := q.env) (most := 1024) (by omega) (by omega) []
  rw [← e0] at a1
  have rd : anRd ⟨ansB q, 0⟩ = q := by simp only [anRd, anR6, anR5, anR4, anR3, anR2, anR1, anR0, a1, a2, a3, a4, a4b, a5, a6, nmOf_all hn]
  have r7 : anR7 ⟨ansB q, 0⟩ = ⟨[], 0⟩ := by simp only [anR7, anR6, anR5, anR4, anR3, anR2, anR1, anR0, a1, a2, a3, a4, a4b, a5, a6]
  unfold parseAn
  rw [r7, rd, hok]
  rfl
theorem parseRq_inv {b : List UInt8} (h : (parseRq b).2 = 0) : (parseRq b).1.ok = true ∧ (parseRq b).1.name.length = 32 ∧ reqB (parseRq b).1 = b := by
  have hz : endP (rqR6 ⟨b, 0⟩).end_ (rqRd ⟨b, 0⟩).ok = 0 := h
  have hp : (parseRq b).1 = rqRd ⟨b, 0⟩ := by unfold parseRq; rw [hz]; rfl
  obtain ⟨h1, hok⟩ := endP_zero hz
  obtain ⟨h6, hl⟩ := end_zero h1
  have t6 : ((rqR5 ⟨b, 0⟩).text 1024).2.e = 0 := h6
  have h5 := text_e t6
  have t5 : ((rqR4 ⟨b, 0⟩).raw 32).2.e = 0 := h5
  have h4 := raw_e t5
  have t4 : ((rqR3 ⟨b, 0⟩).count 9007199254740991).2.e = 0 := h4
  have h3 := count_e t4
  have t3 : ((rqR2 ⟨b, 0⟩).num 1).2.e = 0 := h3
  have h2 := num_e t3
  have t2 : ((rqR1 ⟨b, 0⟩).count 9007199254740991).2.e = 0 := h2
  have h1' := count_e t2
  have t1 : ((rqR0 ⟨b, 0⟩).num 1).2.e = 0 := h1'
  have i1 := num1_is t1
  have i2 := count_is t2
  have i3 := num1_is t3
  have i4 := count_is t4
  obtain ⟨n5, i5⟩ := raw32_is t5
  have i6 := text_inv (rqR5 ⟨b, 0⟩) h5 1024 t6
  have hn : nmOf ((rqR4 ⟨b, 0⟩).raw 32).1 = ((rqR4 ⟨b, 0⟩).raw 32).1 := nmOf_all n5
  rw [hp]
  refine ⟨hok, by show (nmOf _).length = 32; rw [hn]; exact n5, ?_⟩
  have i6' : (rqR5 ⟨b, 0⟩).l = cb ((rqR5 ⟨b, 0⟩).text 1024).1.length ++ (((rqR5 ⟨b, 0⟩).text 1024).1 ++ []) := by rw [i6]; congr 2
  show reqB ⟨_, _, _, _, nmOf _, _⟩ = b
  rw [hn]
  show reqB ⟨_, _, _, _, _, _⟩ = (rqR0 ⟨b, 0⟩).l
  rw [i1]
  show _ = _ ++ (rqR1 ⟨b, 0⟩).l
  rw [i2]
  show _ = _ ++ (_ ++ (rqR2 ⟨b, 0⟩).l)
  rw [i3]
  show _ = _ ++ (_ ++ (_ ++ (rqR3 ⟨b, 0⟩).l))
  rw [i4]
  show _ = _ ++ (_ ++ (_ ++ (_ ++ (rqR4 ⟨b, 0⟩).l)))
  rw [i5]
  show _ = _ ++ (_ ++ (_ ++ (_ ++ (_ ++ (rqR5 ⟨b, 0⟩).l))))
  rw [i6']
  unfold reqB
  simp only [List.append_assoc, List.nil_append, List.append_nil]
theorem parseAn_inv {b : List UInt8} (h : (parseAn b).2 = 0) : (parseAn b).1.ok = true ∧ (parseAn b).1.name.length = 32 ∧ ansB (parseAn b).1 = b := by
  have hz : endP (anR7 ⟨b, 0⟩).end_ (anRd ⟨b, 0⟩).ok = 0 := h
  have hp : (parseAn b).1 = anRd ⟨b, 0⟩ := by unfold parseAn; rw [hz]; rfl
  obtain ⟨h1, hok⟩ := endP_zero hz
  obtain ⟨h7, hl⟩ := end_zero h1
  have t7 : ((anR6 ⟨b, 0⟩).text 1024).2.e = 0 := h7
  have h6 := text_e t7
  have t6 : ((anR5 ⟨b, 0⟩).raw 32).2.e = 0 := h6
  have h5 := raw_e t6
  have t5 : ((anR4 ⟨b, 0⟩).num 1).2.e = 0 := h5
  have h4 := num_e t5
  have t4 : ((anR3 ⟨b, 0⟩).count 9007199254740991).2.e = 0 := h4
  have h3 := count_e t4
  have t3 : ((anR2 ⟨b, 0⟩).num 1).2.e = 0 := h3
  have h2 := num_e t3
  have t2 : ((anR1 ⟨b, 0⟩).count 9007199254740991).2.e = 0 := h2
  have h1' := count_e t2
  have t1 : ((anR0 ⟨b, 0⟩).num 1).2.e = 0 := h1'
  have i1 := num1_is t1
  have i2 := count_is t2
  have i3 := num1_is t3
  have i4 := count_is t4
  have i5 := num1_is t5
  obtain ⟨n6, i6⟩ := raw32_is t6
  have i7 := text_inv (anR6 ⟨b, 0⟩) h6 1024 t7
  have hn : nmOf ((anR5 ⟨b, 0⟩).raw 32).1 = ((anR5 ⟨b, 0⟩).raw 32).1 := nmOf_all n6
  rw [hp]
  refine ⟨hok, by show (nmOf _).length = 32; rw [hn]; exact n6, ?_⟩
  have i7' : (anR6 ⟨b, 0⟩).l = cb ((anR6 ⟨b, 0⟩).text 1024).1.length ++ (((anR6 ⟨b, 0⟩).text 1024).1 ++ []) := by rw [i7]; congr 2
  show ansB ⟨_, _, _, _, _, nmOf _, _⟩ = b
  rw [hn]
  show ansB ⟨_, _, _, _, _, _, _⟩ = (anR0 ⟨b, 0⟩).l
  rw [i1]
  show _ = _ ++ (anR1 ⟨b, 0⟩).l
  rw [i2]
  show _ = _ ++ (_ ++ (anR2 ⟨b, 0⟩).l)
  rw [i3]
  show _ = _ ++ (_ ++ (_ ++ (anR3 ⟨b, 0⟩).l))
  rw [i4]
  show _ = _ ++ (_ ++ (_ ++ (_ ++ (anR4 ⟨b, 0⟩).l)))
  rw [i5]
  show _ = _ ++ (_ ++ (_ ++ (_ ++ (_ ++ (anR5 ⟨b, 0⟩).l))))
  rw [i6]
  show _ = _ ++ (_ ++ (_ ++ (_ ++ (_ ++ (_ ++ (anR6 ⟨b, 0⟩).l)))))
  rw [i7']
  unfold ansB
  simp only [List.append_assoc, List.nil_append, List.append_nil]
end Go.Proofs.YthfdkonhjpdflaaDoor
end

section
namespace Go.Proofs.YthfdkonhjpdflaaDoor
open Go.RowKit
set_option linter.unusedVariables false
set_option maxRecDepth 100000
set_option linter.unusedSimpArgs false

theorem chB_drop {l : List Int} {k : Nat} {a : Int} (h : l[k]? = some a) : chB (l.drop k) = beBytes 1 a.toNat ++ chB (l.drop (k + 1)) := by
  obtain ⟨hl, ha⟩ := List.getElem?_eq_some_iff.1 h
  rw [List.drop_eq_getElem_cons hl, ha]
  rfl
theorem rdN_back (l : List Int) (hl : ∀ n ∈ l, 10 ≤ n ∧ n ≤ 13) (rest : List UInt8) : ∀ k, k ≤ l.length → rdN k ⟨chB l ++ rest, 0⟩ = (l.take k, ⟨chB (l.drop k) ++ rest, 0⟩)
  | 0, _ => rfl
  | k + 1, hk => by
    obtain ⟨a, ha⟩ : ∃ a, l[k]? = some a := ⟨_, List.getElem?_eq_getElem (by omega)⟩
    have hb := hl a (List.mem_of_getElem? ha)
    have h1 := num1_back (n := a) (by omega) (by omega) (chB (l.drop (k + 1)) ++ rest)
    unfold rdN
    rw [rdN_back l hl rest k (by omega), chB_drop ha, List.append_assoc]
    simp only [h1]
    rw [List.take_add_one, ha]
    rfl
theorem rdN_inv : ∀ (k : Nat) (r : RS), (rdN k r).2.e = 0 → r.e = 0 ∧ r.l = chB (rdN k r).1 ++ (rdN k r).2.l
  | 0, r, h => ⟨h, rfl⟩
  | k + 1, r, h => by
    have h1 : ((rdN k r).2.num 1).2.e = 0 := h
    obtain ⟨e, i⟩ := rdN_inv k r (num_e h1)
    refine ⟨e, ?_⟩
    have h2 := num1_is h1
    show r.l = chB ((rdN k r).1 ++ [((rdN k r).2.num 1).1]) ++ ((rdN k r).2.num 1).2.l
    rw [i, h2, chB_append, List.append_assoc]
    simp [chB]
theorem parseCf_back {c : CF} (hok : c.ok = true) : parseCf (cfB c) = (c, 0) := by
  obtain ⟨h1, h2, h3, h4⟩ := c.ok_facts hok
  have e0 : cfB c = cb c.num.toNat ++ (beBytes 1 c.full.toNat ++ (beBytes 1 (c.chain.length : Int).toNat ++ (chB c.chain ++ []))) := by unfold cfB; rw [Int.toNat_natCast]; simp only [List.append_assoc, List.nil_append, List.append_nil]
  have a1 := cnt_back (n := c.num) (by omega) (by omega) (beBytes 1 c.full.toNat ++ (beBytes 1 (c.chain.length : Int).toNat ++ (chB c.chain ++ [])))
  have a2 := num1_back (n := c.full) (by omega) (by omega) (beBytes 1 (c.chain.length : Int).toNat ++ (chB c.chain ++ []))
  have a3 := num1_back (n := (c.chain.length : Int)) (by omega) (by omega) (chB c.chain ++ [])
  have a4 := rdN_back c.chain h4 [] c.chain.length (Nat.le_refl _)
  rw [List.take_length, List.drop_length] at a4
  rw [← e0] at a1
  have hk : cfK (c.chain.length : Int) = c.chain.length := by unfold cfK; rw [if_pos (by omega)]; omega
  have rd : cfRd ⟨cfB c, 0⟩ = c := by simp only [cfRd, cfN, cfR3, cfR2, cfR1, a1, a2, a3, hk, a4]
  have re : cfREnd ⟨cfB c, 0⟩ = ⟨[], 0⟩ := by simp only [cfREnd, cfN, cfR3, cfR2, cfR1, a1, a2, a3, hk, a4]; rfl
  unfold parseCf
  rw [re, rd, hok]
  rfl
theorem parseCf_inv {b : List UInt8} (h : (parseCf b).2 = 0) : (parseCf b).1.ok = true ∧ cfB (parseCf b).1 = b := by
  have hz : endP (cfREnd ⟨b, 0⟩).end_ (cfRd ⟨b, 0⟩).ok = 0 := h
  have hp : (parseCf b).1 = cfRd ⟨b, 0⟩ := by unfold parseCf; rw [hz]; rfl
  obtain ⟨h1, hok⟩ := endP_zero hz
  obtain ⟨h4, hl⟩ := end_zero h1
  obtain ⟨h3, i4⟩ := rdN_inv _ _ h4
  have t3 : ((cfR2 ⟨b, 0⟩).num 1).2.e = 0 := h3
  have h2 := num_e t3
  have t2 : ((cfR1 ⟨b, 0⟩).num 1).2.e = 0 := h2
  have h1' := num_e t2
  have t1 : ((RS.mk b 0).count 9007199254740991).2.e = 0 := h1'
  have i1 := count_is t1
  have i2 := num1_is t2
  have i3 := num1_is t3
  rw [hp]
  refine ⟨hok, ?_⟩
  have hf := (cfRd ⟨b, 0⟩).ok_facts hok
  have hlen : (cfRd ⟨b, 0⟩).chain.length = cfN ⟨b, 0⟩ := rdN_len _ _
  have hr := num1_range (cfR2 ⟨b, 0⟩)
  have hn : ((cfR2 ⟨b, 0⟩).num 1).1.toNat = (cfRd ⟨b, 0⟩).chain.length := by
    have h5 := hf.2.1.2
    rw [hlen] at h5 ⊢
    unfold cfN cfK at h5 ⊢
    split at h5
    · rename_i hc; rw [if_pos hc]
    · exact absurd h5 (by decide)
  have i4' : (cfR3 ⟨b, 0⟩).l = chB (cfRd ⟨b, 0⟩).chain := by rw [i4]; show _ ++ (cfREnd ⟨b, 0⟩).l = _; rw [hl, List.append_nil]; rfl
  rw [hn] at i3
  show cfB ⟨_, _, (cfRd ⟨b, 0⟩).chain⟩ = (RS.mk b 0).l
  rw [i1]
  show _ = _ ++ (cfR1 ⟨b, 0⟩).l
  rw [i2]
  show _ = _ ++ (_ ++ (cfR2 ⟨b, 0⟩).l)
  rw [i3]
  show _ = _ ++ (_ ++ (_ ++ (cfR3 ⟨b, 0⟩).l))
  rw [i4']
  unfold cfB
  simp only [List.append_assoc, List.nil_append]
theorem firstP_zero {a b : Int} (h : firstP a b = 0) : a = 0 ∧ b = 0 := by
  unfold firstP at h
  split at h
  · rename_i ha; exact ⟨ha, h⟩
  · rename_i ha; exact absurd h ha
theorem rpRq_back {c : RQ} (hok : c.ok = true) (hn : c.name.length = 32) (rest : List UInt8) : rpRq ⟨cb (reqB c).length ++ (reqB c ++ rest), 0⟩ 0 = (c, ⟨rest, 0⟩, 0) := by
  have hl := reqB_len hok hn
  have a1 := txt_back (t := reqB c) (most := 2048) (by omega) (by omega) rest
  unfold rpRq
  rw [a1]
  simp only [show firstP 0 0 = (0 : Int) from rfl, if_true, parseRq_back hok hn]
theorem rpRq_inv {r : RS} {part : Int} (h1 : (rpRq r part).2.1.e = 0) (h2 : (rpRq r part).2.2 = 0) : part = 0 ∧ r.e = 0 ∧ (rpRq r part).1.ok = true ∧ (rpRq r part).1.name.length = 32 ∧ r.l = cb (reqB (rpRq r part).1).length ++ (reqB (rpRq r part).1 ++ (rpRq r part).2.1.l) := by
  by_cases hf : firstP part (r.text 2048).2.e = 0
  · obtain ⟨hp, he⟩ := firstP_zero hf
    have e : rpRq r part = ((parseRq (r.text 2048).1).1, (r.text 2048).2, (parseRq (r.text 2048).1).2) := by unfold rpRq; rw [if_pos hf]
    rw [e] at h1 h2 ⊢
    have hr := text_e he
    have ht := text_inv r hr 2048 he
    obtain ⟨hok, hnm, hb⟩ := parseRq_inv h2
    exact ⟨hp, hr, hok, hnm, by show r.l = cb (reqB (parseRq (r.text 2048).1).1).length ++ (reqB (parseRq (r.text 2048).1).1 ++ (r.text 2048).2.l); rw [hb]; exact ht⟩
  · have e : rpRq r part = (rqZero, (r.text 2048).2, part) := by unfold rpRq; rw [if_neg hf]
    rw [e] at h1 h2
    exact absurd (show firstP part (r.text 2048).2.e = 0 by unfold firstP; rw [if_pos h2]; exact h1) hf
theorem rpAn_back {c : AN} (hok : c.ok = true) (hn : c.name.length = 32) (rest : List UInt8) : rpAn ⟨cb (ansB c).length ++ (ansB c ++ rest), 0⟩ 0 = (c, ⟨rest, 0⟩, 0) := by
  have hl := ansB_len hok hn
  have a1 := txt_back (t := ansB c) (most := 2048) (by omega) (by omega) rest
  unfold rpAn
  rw [a1]
  simp only [show firstP 0 0 = (0 : Int) from rfl, if_true, parseAn_back hok hn]
theorem rpAn_inv {r : RS} {part : Int} (h1 : (rpAn r part).2.1.e = 0) (h2 : (rpAn r part).2.2 = 0) : part = 0 ∧ r.e = 0 ∧ (rpAn r part).1.ok = true ∧ (rpAn r part).1.name.length = 32 ∧ r.l = cb (ansB (rpAn r part).1).length ++ (ansB (rpAn r part).1 ++ (rpAn r part).2.1.l) := by
  by_cases hf : firstP part (r.text 2048).2.e = 0
  · obtain ⟨hp, he⟩ := firstP_zero hf
    have e : rpAn r part = ((parseAn (r.text 2048).1).1, (r.text 2048).2, (parseAn (r.text 2048).1).2) := by unfold rpAn; rw [if_pos hf]
    rw [e] at h1 h2 ⊢
    have hr := text_e he
    have ht := text_inv r hr 2048 he
    obtain ⟨hok, hnm, hb⟩ := parseAn_inv h2
    exact ⟨hp, hr, hok, hnm, by show r.l = cb (ansB (parseAn (r.text 2048).1).1).length ++ (ansB (parseAn (r.text 2048).1).1 ++ (r.text 2048).2.l); rw [hb]; exact ht⟩
  · have e : rpAn r part = (anZero, (r.text 2048).2, part) := by unfold rpAn; rw [if_neg hf]
    rw [e] at h1 h2
    exact absurd (show firstP part (r.text 2048).2.e = 0 by unfold firstP; rw [if_pos h2]; exact h1) hf
theorem rpCf_back {c : CF} (hok : c.ok = true) (rest : List UInt8) : rpCf ⟨cb (cfB c).length ++ (cfB c ++ rest), 0⟩ 0 = (c, ⟨rest, 0⟩, 0) := by
  have hl := cfB_len hok
  have a1 := txt_back (t := cfB c) (most := 2048) (by omega) (by omega) rest
  unfold rpCf
  rw [a1]
  simp only [show firstP 0 0 = (0 : Int) from rfl, if_true, parseCf_back hok]
theorem rpCf_inv {r : RS} {part : Int} (h1 : (rpCf r part).2.1.e = 0) (h2 : (rpCf r part).2.2 = 0) : part = 0 ∧ r.e = 0 ∧ (rpCf r part).1.ok = true ∧ r.l = cb (cfB (rpCf r part).1).length ++ (cfB (rpCf r part).1 ++ (rpCf r part).2.1.l) := by
  by_cases hf : firstP part (r.text 2048).2.e = 0
  · obtain ⟨hp, he⟩ := firstP_zero hf
    have e : rpCf r part = ((parseCf (r.text 2048).1).1, (r.text 2048).2, (parseCf (r.text 2048).1).2) := by unfold rpCf; rw [if_pos hf]
    rw [e] at h1 h2 ⊢
    have hr := text_e he
    have ht := text_inv r hr 2048 he
    obtain ⟨hok, hb⟩ := parseCf_inv h2
    exact ⟨hp, hr, hok, by show r.l = cb (cfB (parseCf (r.text 2048).1).1).length ++ (cfB (parseCf (r.text 2048).1).1 ++ (r.text 2048).2.l); rw [hb]; exact ht⟩
  · have e : rpCf r part = (cfZero, (r.text 2048).2, part) := by unfold rpCf; rw [if_neg hf]
    rw [e] at h1 h2
    exact absurd (show firstP part (r.text 2048).2.e = 0 by unfold firstP; rw [if_pos h2]; exact h1) hf
theorem vt_ok {v : VT} (h : v.ok = true) : (1 ≤ v.ballot ∧ v.ballot ≤ 9007199254740991) ∧ v.conf.ok = true := by
  unfold VT.ok at h
  rwa [Bool.and_eq_true, inP_iff] at h
theorem rdVs_back (rest : List UInt8) : ∀ (l : List VT) (acc : List VT), vtsB l = true → rdVs l.length acc ⟨vtsE l ++ rest, 0⟩ 0 = (acc ++ l, ⟨rest, 0⟩, 0)
  | [], acc, _ => by simp [rdVs, vtsE]
  | v :: l, acc, h => by
    unfold vtsB at h
    rw [Bool.and_eq_true] at h
    obtain ⟨hb, hc⟩ := vt_ok h.1
    have e : vtsE (v :: l) ++ rest = cb v.ballot.toNat ++ (cb (cfB v.conf).length ++ (cfB v.conf ++ (vtsE l ++ rest))) := by simp only [vtsE, vtB, List.append_assoc]
    have a1 := cnt_back (n := v.ballot) (by omega) (by omega) (cb (cfB v.conf).length ++ (cfB v.conf ++ (vtsE l ++ rest)))
    have a2 := rpCf_back hc (vtsE l ++ rest)
    rw [e, List.length_cons]
    unfold rdVs
    rw [a1]
    simp only [a2]
    rw [if_pos (show firstP 0 0 = (0 : Int) from rfl), rdVs_back rest l _ h.2, List.append_assoc]
    rfl
theorem rdVs_inv : ∀ (k : Nat) (acc : List VT) (r : RS) (part : Int), (rdVs k acc r part).2.1.e = 0 → (rdVs k acc r part).2.2 = 0 → part = 0 ∧ r.e = 0 ∧ ∃ l, (rdVs k acc r part).1 = acc ++ l ∧ l.length = k ∧ r.l = vtsE l ++ (rdVs k acc r part).2.1.l
  | 0, acc, r, part, h1, h2 => ⟨h2, h1, [], by simp [rdVs], rfl, by simp [rdVs, vtsE]⟩
  | k + 1, acc, r, part, h1, h2 => by
    obtain ⟨x, hx⟩ : ∃ x, rpCf (r.count 9007199254740991).2 part = x := ⟨_, rfl⟩
    by_cases hf : firstP x.2.2 x.2.1.e = 0
    · have e : rdVs (k + 1) acc r part = rdVs k (acc ++ [⟨(r.count 9007199254740991).1, x.1⟩]) x.2.1 x.2.2 := by rw [rdVs, hx, if_pos hf]
      rw [e] at h1 h2 ⊢
      obtain ⟨p1, e1, l, hl1, hl2, hl3⟩ := rdVs_inv k _ _ _ h1 h2
      have hi := rpCf_inv (r := (r.count 9007199254740991).2) (part := part) (by rw [hx]; exact e1) (by rw [hx]; exact p1)
      rw [hx] at hi
      obtain ⟨q1, q2, _, q4⟩ := hi
      have hr := count_e q2
      refine ⟨q1, hr, ⟨(r.count 9007199254740991).1, x.1⟩ :: l, by rw [hl1, List.append_assoc]; rfl, by rw [List.length_cons, hl2], ?_⟩
      have hc := count_is q2
      rw [hc, q4, hl3]
      simp only [vtsE, vtB, List.append_assoc]
    · have e : rdVs (k + 1) acc r part = ([], x.2.1, x.2.2) := by rw [rdVs, hx, if_neg hf]
      rw [e] at h1 h2
      exact absurd (show firstP x.2.2 x.2.1.e = 0 by unfold firstP; rw [if_pos h2]; exact h1) hf
theorem rvAll_back {l : List VT} (h : vtsOk l = true) (rest : List UInt8) : rvAll ⟨beBytes 1 l.length ++ (vtsE l ++ rest), 0⟩ 0 = (l, ⟨rest, 0⟩, 0) := by
  unfold vtsOk at h
  rw [Bool.and_eq_true, decide_eq_true_eq] at h
  have a1 := num1_back (n := (l.length : Int)) (by omega) (by omega) (vtsE l ++ rest)
  rw [Int.toNat_natCast] at a1
  have hk : vtK (l.length : Int) = l.length := by unfold vtK; rw [if_pos (by omega)]; omega
  unfold rvAll
  simp only [a1, hk]
  rw [rdVs_back rest l [] h.2, List.nil_append]
theorem rvAll_inv {r : RS} {part : Int} (h1 : (rvAll r part).2.1.e = 0) (h2 : (rvAll r part).2.2 = 0) (h8 : (rvAll r part).1.length ≤ 8) : part = 0 ∧ r.e = 0 ∧ r.l = beBytes 1 (rvAll r part).1.length ++ (vtsE (rvAll r part).1 ++ (rvAll r part).2.1.l) := by
  obtain ⟨p1, e1, l, hl1, hl2, hl3⟩ := rdVs_inv _ _ _ _ h1 h2
  have hr := num_e e1
  have hn := num1_is e1
  have e : (rvAll r part).1 = l := by show (rdVs _ _ _ _).1 = l; rw [hl1]; rfl
  rw [e] at h8 ⊢
  have hrg := num1_range r
  have hk : (r.num 1).1.toNat = l.length := by
    rw [hl2] at h8 ⊢
    unfold vtK at h8 ⊢
    split at h8
    · rename_i hc; rw [if_pos hc]
    · exact absurd h8 (by decide)
  refine ⟨p1, hr, ?_⟩
  rw [hn, hk, hl3]
  rfl
/-! packets -/
def oL (b : Int) (m : List UInt8) : List UInt8 := if b = 0 then [] else m
theorem aI_oL (b : Int) (l m : List UInt8) : aI b l m = l ++ oL b m := by unfold aI oL; split <;> simp
theorem oL_off {b : Int} (m : List UInt8) (h : b = 0) : oL b m = [] := by unfold oL; rw [if_pos h]
theorem oL_on {b : Int} (m : List UInt8) (h : b ≠ 0) : oL b m = m := by unfold oL; rw [if_neg h]
def tl9 (p : PK) (h : Int) : List UInt8 := oL (bitA h 256) (cb p.bytes.length ++ p.bytes) ++ []
def tl8 (p : PK) (h : Int) : List UInt8 := oL (bitA h 128) (beBytes 1 p.votes.length ++ vtsE p.votes) ++ tl9 p h
def tl7 (p : PK) (h : Int) : List UInt8 := oL (bitA h 64) (cb (cfB p.conf).length ++ cfB p.conf) ++ tl8 p h
def tl6 (p : PK) (h : Int) : List UInt8 := oL (bitA h 32) (cb (ansB p.ans).length ++ ansB p.ans) ++ tl7 p h
def tl5 (p : PK) (h : Int) : List UInt8 := oL (bitA h 16) (cb (reqB p.req).length ++ reqB p.req) ++ tl6 p h
def tl4 (p : PK) (h : Int) : List UInt8 := oL (bitA h 8) (beBytes 1 (if p.ready then 1 else 0)) ++ tl5 p h
def tl3 (p : PK) (h : Int) : List UInt8 := oL (bitA h 4) (cb p.ballot.toNat) ++ tl4 p h
def tl2 (p : PK) (h : Int) : List UInt8 := oL (bitA h 2) (cb (p.seq + 1).toNat) ++ tl3 p h
def tl1 (p : PK) (h : Int) : List UInt8 := oL (bitA h 1) (cb p.num.toNat) ++ tl2 p h
theorem pkB_split (p : PK) : pkB p = beBytes 1 p.kind.toNat ++ (beBytes 1 p.frm.toNat ++ (beBytes 1 p.dst.toNat ++ tl1 p (fieldsP p.kind))) := by
  unfold pkB pk9 pk8 pk7 pk6 pk5 pk4 pk3 pk2 pk1 pkH
  simp only [aI_oL, tl1, tl2, tl3, tl4, tl5, tl6, tl7, tl8, tl9, List.append_assoc, List.nil_append, List.append_nil]
theorem RQ.same_iff (c d : RQ) : c.same d = true ↔ c = d := by
  obtain ⟨a1, a2, a3, a4, a5, a6⟩ := c
  obtain ⟨b1, b2, b3, b4, b5, b6⟩ := d
  simp [RQ.same]
theorem AN.same_iff (c d : AN) : c.same d = true ↔ c = d := by
  obtain ⟨a1, a2, a3, a4, a5, a6, a7⟩ := c
  obtain ⟨b1, b2, b3, b4, b5, b6, b7⟩ := d
  simp [AN.same]
theorem PK.same_iff (c d : PK) : c.same d = true ↔ c = d := by
  obtain ⟨a1, a2, a3, a4, a5, a6, a7, a8, a9, a10, a11, a12⟩ := c
  obtain ⟨b1, b2, b3, b4, b5, b6, b7, b8, b9, b10, b11, b12⟩ := d
  simp [PK.same, RQ.same_iff, AN.same_iff, CF.same_iff, vEq_iff]
theorem cut_facts {p : PK} {h : Int} (hc : p.same (p.cut h) = true) : (bitA h 1 = 0 → p.num = 0) ∧ (bitA h 2 = 0 → p.seq = 0) ∧ (bitA h 4 = 0 → p.ballot = 0) ∧ (bitA h 8 = 0 → p.ready = false) ∧ (bitA h 16 = 0 → p.req = rqZero) ∧ (bitA h 32 = 0 → p.ans = anZero) ∧ (bitA h 64 = 0 → p.conf = cfZero) ∧ (bitA h 128 = 0 → p.votes = []) ∧ (bitA h 256 = 0 → p.bytes = []) := by
  have e := (PK.same_iff _ _).1 hc
  refine ⟨fun hb => ?_, fun hb => ?_, fun hb => ?_, fun hb => ?_, fun hb => ?_, fun hb => ?_, fun hb => ?_, fun hb => ?_, fun hb => ?_⟩
  · have := congrArg PK.num e; rw [this]; show oI (bitA h 1) p.num = _; unfold oI; rw [if_pos hb]
  · have := congrArg PK.seq e; rw [this]; show oI (bitA h 2) p.seq = _; unfold oI; rw [if_pos hb]
  · have := congrArg PK.ballot e; rw [this]; show oI (bitA h 4) p.ballot = _; unfold oI; rw [if_pos hb]
  · have := congrArg PK.ready e; rw [this]; show oB (bitA h 8) p.ready = _; unfold oB; rw [if_pos hb]
  · have := congrArg PK.req e; rw [this]; show oV (bitA h 16) rqZero p.req = _; unfold oV; rw [if_pos hb]
  · have := congrArg PK.ans e; rw [this]; show oV (bitA h 32) anZero p.ans = _; unfold oV; rw [if_pos hb]
  · have := congrArg PK.conf e; rw [this]; show oV (bitA h 64) cfZero p.conf = _; unfold oV; rw [if_pos hb]
  · have := congrArg PK.votes e; rw [this]; show oV (bitA h 128) [] p.votes = _; unfold oV; rw [if_pos hb]
  · have := congrArg PK.bytes e; rw [this]; show oV (bitA h 256) [] p.bytes = _; unfold oV; rw [if_pos hb]
theorem f1_back {p : PK} {h : Int} (c : bitA h 1 = 0 → p.num = 0) (h5 : 0 ≤ p.num ∧ p.num ≤ 9007199254740991) (rest : List UInt8) : f1 h (⟨p.kind, p.frm, p.dst, 0, 0, 0, false, rqZero, anZero, cfZero, [], []⟩, ⟨tl1 p h ++ rest, 0⟩, 0) = (⟨p.kind, p.frm, p.dst, p.num, 0, 0, false, rqZero, anZero, cfZero, [], []⟩, ⟨tl2 p h ++ rest, 0⟩, 0) := by
  by_cases hb : bitA h 1 = 0
  · have e : tl1 p h = tl2 p h := by unfold tl1; rw [oL_off _ hb, List.nil_append]
    unfold f1
    rw [if_pos hb, c hb, e]
  · have e : tl1 p h ++ rest = cb p.num.toNat ++ (tl2 p h ++ rest) := by unfold tl1; rw [oL_on _ hb]; simp only [List.append_assoc, List.nil_append]
    unfold f1
    rw [if_neg hb, e]
    have a := cnt_back (n := p.num) h5.1 h5.2 (tl2 p h ++ rest)
    simp only [a]
theorem f2_back {p : PK} {h : Int} (c : bitA h 2 = 0 → p.seq = 0) (hs : -1 ≤ p.seq ∧ p.seq ≤ 9007199254740990) (rest : List UInt8) : f2 h (⟨p.kind, p.frm, p.dst, p.num, 0, 0, false, rqZero, anZero, cfZero, [], []⟩, ⟨tl2 p h ++ rest, 0⟩, 0) = (⟨p.kind, p.frm, p.dst, p.num, p.seq, 0, false, rqZero, anZero, cfZero, [], []⟩, ⟨tl3 p h ++ rest, 0⟩, 0) := by
  by_cases hb : bitA h 2 = 0
  · have e : tl2 p h = tl3 p h := by unfold tl2; rw [oL_off _ hb, List.nil_append]
    unfold f2
    rw [if_pos hb, c hb, e]
  · have e : tl2 p h ++ rest = cb (p.seq + 1).toNat ++ (tl3 p h ++ rest) := by unfold tl2; rw [oL_on _ hb]; simp only [List.append_assoc, List.nil_append]
    unfold f2
    rw [if_neg hb, e]
    have a := cnt_back (n := p.seq + 1) (by omega) (by omega) (tl3 p h ++ rest)
    simp only [a]
    rw [show p.seq + 1 - 1 = p.seq by omega]
theorem f3_back {p : PK} {h : Int} (c : bitA h 4 = 0 → p.ballot = 0) (h6 : 0 ≤ p.ballot ∧ p.ballot ≤ 9007199254740991) (rest : List UInt8) : f3 h (⟨p.kind, p.frm, p.dst, p.num, p.seq, 0, false, rqZero, anZero, cfZero, [], []⟩, ⟨tl3 p h ++ rest, 0⟩, 0) = (⟨p.kind, p.frm, p.dst, p.num, p.seq, p.ballot, false, rqZero, anZero, cfZero, [], []⟩, ⟨tl4 p h ++ rest, 0⟩, 0) := by
  by_cases hb : bitA h 4 = 0
  · have e : tl3 p h = tl4 p h := by unfold tl3; rw [oL_off _ hb, List.nil_append]
    unfold f3
    rw [if_pos hb, c hb, e]
  · have e : tl3 p h ++ rest = cb p.ballot.toNat ++ (tl4 p h ++ rest) := by unfold tl3; rw [oL_on _ hb]; simp only [List.append_assoc, List.nil_append]
    unfold f3
    rw [if_neg hb, e]
    have a := cnt_back (n := p.ballot) h6.1 h6.2 (tl4 p h ++ rest)
    simp only [a]
theorem f4_back {p : PK} {h : Int} (c : bitA h 8 = 0 → p.ready = false) (rest : List UInt8) : f4 h (⟨p.kind, p.frm, p.dst, p.num, p.seq, p.ballot, false, rqZero, anZero, cfZero, [], []⟩, ⟨tl4 p h ++ rest, 0⟩, 0) = (⟨p.kind, p.frm, p.dst, p.num, p.seq, p.ballot, p.ready, rqZero, anZero, cfZero, [], []⟩, ⟨tl5 p h ++ rest, 0⟩, 0) := by
  by_cases hb : bitA h 8 = 0
  · have e : tl4 p h = tl5 p h := by unfold tl4; rw [oL_off _ hb, List.nil_append]
    unfold f4
    rw [if_pos hb, c hb, e]
  · have e : tl4 p h ++ rest = beBytes 1 (if p.ready then 1 else 0) ++ (tl5 p h ++ rest) := by unfold tl4; rw [oL_on _ hb]; simp only [List.append_assoc, List.nil_append]
    unfold f4
    rw [if_neg hb, e]
    cases p.ready
    · have a := num1_back (n := 0) (by omega) (by omega) (tl5 p h ++ rest)
      rw [show (if false = true then 1 else 0 : Nat) = (0 : Int).toNat from rfl]
      simp only [rdyR, rdyP, a]
      rfl
    · have a := num1_back (n := 1) (by omega) (by omega) (tl5 p h ++ rest)
      rw [show (if true = true then 1 else 0 : Nat) = (1 : Int).toNat from rfl]
      simp only [rdyR, rdyP, a]
      rfl
theorem f5_back {p : PK} {h : Int} (c : bitA h 16 = 0 → p.req = rqZero) (hrn : p.req.name.length = 32) (h9 : bitA h 16 = 0 ∨ p.req.ok = true) (rest : List UInt8) : f5 h (⟨p.kind, p.frm, p.dst, p.num, p.seq, p.ballot, p.ready, rqZero, anZero, cfZero, [], []⟩, ⟨tl5 p h ++ rest, 0⟩, 0) = (⟨p.kind, p.frm, p.dst, p.num, p.seq, p.ballot, p.ready, p.req, anZero, cfZero, [], []⟩, ⟨tl6 p h ++ rest, 0⟩, 0) := by
  by_cases hb : bitA h 16 = 0
  · have e : tl5 p h = tl6 p h := by unfold tl5; rw [oL_off _ hb, List.nil_append]
    unfold f5
    rw [if_pos hb, c hb, e]
  · have e : tl5 p h ++ rest = cb (reqB p.req).length ++ (reqB p.req ++ (tl6 p h ++ rest)) := by unfold tl5; rw [oL_on _ hb]; simp only [List.append_assoc, List.nil_append]
    unfold f5
    rw [if_neg hb, e]
    have a := rpRq_back (h9.resolve_left hb) hrn (tl6 p h ++ rest)
    simp only [a]
theorem f6_back {p : PK} {h : Int} (c : bitA h 32 = 0 → p.ans = anZero) (han : p.ans.name.length = 32) (h10 : bitA h 32 = 0 ∨ p.ans.ok = true) (rest : List UInt8) : f6 h (⟨p.kind, p.frm, p.dst, p.num, p.seq, p.ballot, p.ready, p.req, anZero, cfZero, [], []⟩, ⟨tl6 p h ++ rest, 0⟩, 0) = (⟨p.kind, p.frm, p.dst, p.num, p.seq, p.ballot, p.ready, p.req, p.ans, cfZero, [], []⟩, ⟨tl7 p h ++ rest, 0⟩, 0) := by
  by_cases hb : bitA h 32 = 0
  · have e : tl6 p h = tl7 p h := by unfold tl6; rw [oL_off _ hb, List.nil_append]
    unfold f6
    rw [if_pos hb, c hb, e]
  · have e : tl6 p h ++ rest = cb (ansB p.ans).length ++ (ansB p.ans ++ (tl7 p h ++ rest)) := by unfold tl6; rw [oL_on _ hb]; simp only [List.append_assoc, List.nil_append]
    unfold f6
    rw [if_neg hb, e]
    have a := rpAn_back (h10.resolve_left hb) han (tl7 p h ++ rest)
    simp only [a]
theorem f7_back {p : PK} {h : Int} (c : bitA h 64 = 0 → p.conf = cfZero) (h11 : bitA h 64 = 0 ∨ p.conf.ok = true) (rest : List UInt8) : f7 h (⟨p.kind, p.frm, p.dst, p.num, p.seq, p.ballot, p.ready, p.req, p.ans, cfZero, [], []⟩, ⟨tl7 p h ++ rest, 0⟩, 0) = (⟨p.kind, p.frm, p.dst, p.num, p.seq, p.ballot, p.ready, p.req, p.ans, p.conf, [], []⟩, ⟨tl8 p h ++ rest, 0⟩, 0) := by
  by_cases hb : bitA h 64 = 0
  · have e : tl7 p h = tl8 p h := by unfold tl7; rw [oL_off _ hb, List.nil_append]
    unfold f7
    rw [if_pos hb, c hb, e]
  · have e : tl7 p h ++ rest = cb (cfB p.conf).length ++ (cfB p.conf ++ (tl8 p h ++ rest)) := by unfold tl7; rw [oL_on _ hb]; simp only [List.append_assoc, List.nil_append]
    unfold f7
    rw [if_neg hb, e]
    have a := rpCf_back (h11.resolve_left hb) (tl8 p h ++ rest)
    simp only [a]
theorem f8_back {p : PK} {h : Int} (c : bitA h 128 = 0 → p.votes = []) (h12 : vtsOk p.votes = true) (rest : List UInt8) : f8 h (⟨p.kind, p.frm, p.dst, p.num, p.seq, p.ballot, p.ready, p.req, p.ans, p.conf, [], []⟩, ⟨tl8 p h ++ rest, 0⟩, 0) = (⟨p.kind, p.frm, p.dst, p.num, p.seq, p.ballot, p.ready, p.req, p.ans, p.conf, p.votes, []⟩, ⟨tl9 p h ++ rest, 0⟩, 0) := by
  by_cases hb : bitA h 128 = 0
  · have e : tl8 p h = tl9 p h := by unfold tl8; rw [oL_off _ hb, List.nil_append]
    unfold f8
    rw [if_pos hb, c hb, e]
  · have e : tl8 p h ++ rest = beBytes 1 p.votes.length ++ (vtsE p.votes ++ (tl9 p h ++ rest)) := by unfold tl8; rw [oL_on _ hb]; simp only [List.append_assoc, List.nil_append]
    unfold f8
    rw [if_neg hb, e]
    have a := rvAll_back h12 (tl9 p h ++ rest)
    simp only [a]
theorem f9_back {p : PK} {h : Int} (c : bitA h 256 = 0 → p.bytes = []) (h8 : p.bytes.length ≤ 32768) (rest : List UInt8) : f9 h (⟨p.kind, p.frm, p.dst, p.num, p.seq, p.ballot, p.ready, p.req, p.ans, p.conf, p.votes, []⟩, ⟨tl9 p h ++ rest, 0⟩, 0) = (⟨p.kind, p.frm, p.dst, p.num, p.seq, p.ballot, p.ready, p.req, p.ans, p.conf, p.votes, p.bytes⟩, ⟨rest, 0⟩, 0) := by
  by_cases hb : bitA h 256 = 0
  · have e : tl9 p h = [] := by unfold tl9; rw [oL_off _ hb, List.nil_append]
    unfold f9
    rw [if_pos hb, c hb, e]
    rfl
  · have e : tl9 p h ++ rest = cb p.bytes.length ++ (p.bytes ++ (rest)) := by unfold tl9; rw [oL_on _ hb]; simp only [List.append_assoc, List.nil_append]
    unfold f9
    rw [if_neg hb, e]
    have a := txt_back (t := p.bytes) (most := 32768) (by omega) (by omega) (rest)
    simp only [a]
theorem fAll_back {p : PK} (hok : p.ok = true) (hrn : p.req.name.length = 32) (han : p.ans.name.length = 32) (rest : List UInt8) :
    fAll (fieldsP p.kind) (⟨p.kind, p.frm, p.dst, 0, 0, 0, false, rqZero, anZero, cfZero, [], []⟩, ⟨tl1 p (fieldsP p.kind) ++ rest, 0⟩, 0) = (p, ⟨rest, 0⟩, 0) := by
  obtain ⟨h1, h2, h3, h4, h5, h6, h7, h8, h9, h10, h11, h12⟩ := p.ok_facts hok
  have hs := seqP_range h7
  obtain ⟨c1, c2, c3, c4, c5, c6, c7, c8, c9⟩ := cut_facts h4
  unfold fAll
  rw [f1_back c1 h5, f2_back c2 hs, f3_back c3 h6, f4_back c4, f5_back c5 hrn h9, f6_back c6 han h10, f7_back c7 h11, f8_back c8 h12, f9_back c9 h8]
theorem hd_back {p : PK} (hok : p.ok = true) (rest : List UInt8) : hdQ (pkB p ++ rest) = ⟨p.kind, p.frm, p.dst, 0, 0, 0, false, rqZero, anZero, cfZero, [], []⟩ ∧ hdR (pkB p ++ rest) = ⟨tl1 p (fieldsP p.kind) ++ rest, 0⟩ := by
  obtain ⟨h1, h2, h3, _⟩ := p.ok_facts hok
  have k1 := fieldsP_kind h1
  have k2 := nodeP_range h2
  have k3 := nodeP_range h3
  have a1 := num1_back (n := p.kind) (by omega) (by omega) (beBytes 1 p.frm.toNat ++ (beBytes 1 p.dst.toNat ++ (tl1 p (fieldsP p.kind) ++ rest)))
  have a2 := num1_back (n := p.frm) (by omega) (by omega) (beBytes 1 p.dst.toNat ++ (tl1 p (fieldsP p.kind) ++ rest))
  have a3 := num1_back (n := p.dst) (by omega) (by omega) (tl1 p (fieldsP p.kind) ++ rest)
  have e : pkB p ++ rest = beBytes 1 p.kind.toNat ++ (beBytes 1 p.frm.toNat ++ (beBytes 1 p.dst.toNat ++ (tl1 p (fieldsP p.kind) ++ rest))) := by rw [pkB_split]; simp only [List.append_assoc]
  rw [e]
  constructor
  · simp only [hdQ, a1, a2, a3]; rfl
  · simp only [hdR, a1, a2, a3]
theorem pkS_back {p : PK} (hok : p.ok = true) (hrn : p.req.name.length = 32) (han : p.ans.name.length = 32) (rest : List UInt8) : pkS (pkB p ++ rest) = (p, ⟨rest, 0⟩, 0) := by
  obtain ⟨h1, h2⟩ := hd_back hok rest
  unfold pkS
  rw [h1, h2]
  exact fAll_back hok hrn han rest
theorem parsePk_rest {p : PK} (hok : p.ok = true) (hrn : p.req.name.length = 32) (han : p.ans.name.length = 32) (rest : List UInt8) : parsePk (pkB p ++ rest) = (if rest = [] then (p, 0) else (pkZero, 4)) := by
  obtain ⟨h1, h2⟩ := hd_back hok rest
  have h3 := pkS_back hok hrn han rest
  have h4 := (p.ok_facts hok).1
  unfold parsePk
  rw [h1, h2, h3]
  rw [if_neg (fun h => h4 h.2), if_neg (by simp [firstP])]
  show (eL (endP (RS.end_ ⟨rest, 0⟩) p.ok) p pkZero, endP (RS.end_ ⟨rest, 0⟩) p.ok) = _
  rw [hok]
  by_cases hr : rest = []
  · subst hr; rfl
  · have e : (RS.mk rest 0).end_ = 4 := by unfold RS.end_; rw [if_pos rfl, if_neg hr]
    rw [e, if_neg hr]
    rfl
theorem parsePk_back {p : PK} (hok : p.ok = true) (hrn : p.req.name.length = 32) (han : p.ans.name.length = 32) : parsePk (pkB p) = (p, 0) := by
  have := parsePk_rest hok hrn han []
  rwa [List.append_nil, if_pos rfl] at this
/-! what could be read -/
def goodS (s : SF) : Prop := s.2.1.e = 0 ∧ s.2.2 = 0
theorem f1_inv {h : Int} {s : SF} (hg : goodS (f1 h s)) : goodS s ∧ s.2.1.l = oL (bitA h 1) (cb (f1 h s).1.num.toNat) ++ (f1 h s).2.1.l := by
  by_cases hb : bitA h 1 = 0
  · have e : f1 h s = s := by unfold f1; rw [if_pos hb]
    rw [e] at hg ⊢
    rw [oL_off _ hb]
    exact ⟨hg, rfl⟩
  · have e : f1 h s = ({ s.1 with num := (s.2.1.count 9007199254740991).1 }, (s.2.1.count 9007199254740991).2, s.2.2) := by unfold f1; rw [if_neg hb]
    rw [e] at hg ⊢
    rw [oL_on _ hb]
    exact ⟨⟨count_e hg.1, hg.2⟩, count_is hg.1⟩
theorem f2_inv {h : Int} {s : SF} (hg : goodS (f2 h s)) : goodS s ∧ s.2.1.l = oL (bitA h 2) (cb ((f2 h s).1.seq + 1).toNat) ++ (f2 h s).2.1.l := by
  by_cases hb : bitA h 2 = 0
  · have e : f2 h s = s := by unfold f2; rw [if_pos hb]
    rw [e] at hg ⊢
    rw [oL_off _ hb]
    exact ⟨hg, rfl⟩
  · have e : f2 h s = ({ s.1 with seq := (s.2.1.count 9007199254740991).1 - 1 }, (s.2.1.count 9007199254740991).2, s.2.2) := by unfold f2; rw [if_neg hb]
    rw [e] at hg ⊢
    rw [oL_on _ hb]
    refine ⟨⟨count_e hg.1, hg.2⟩, ?_⟩
    show s.2.1.l = cb ((s.2.1.count 9007199254740991).1 - 1 + 1).toNat ++ _
    rw [show (s.2.1.count 9007199254740991).1 - 1 + 1 = (s.2.1.count 9007199254740991).1 by omega]
    exact count_is hg.1
theorem f3_inv {h : Int} {s : SF} (hg : goodS (f3 h s)) : goodS s ∧ s.2.1.l = oL (bitA h 4) (cb (f3 h s).1.ballot.toNat) ++ (f3 h s).2.1.l := by
  by_cases hb : bitA h 4 = 0
  · have e : f3 h s = s := by unfold f3; rw [if_pos hb]
    rw [e] at hg ⊢
    rw [oL_off _ hb]
    exact ⟨hg, rfl⟩
  · have e : f3 h s = ({ s.1 with ballot := (s.2.1.count 9007199254740991).1 }, (s.2.1.count 9007199254740991).2, s.2.2) := by unfold f3; rw [if_neg hb]
    rw [e] at hg ⊢
    rw [oL_on _ hb]
    exact ⟨⟨count_e hg.1, hg.2⟩, count_is hg.1⟩
theorem f4_inv {h : Int} {s : SF} (hg : goodS (f4 h s)) : goodS s ∧ s.2.1.l = oL (bitA h 8) (beBytes 1 (if (f4 h s).1.ready then 1 else 0)) ++ (f4 h s).2.1.l := by
  by_cases hb : bitA h 8 = 0
  · have e : f4 h s = s := by unfold f4; rw [if_pos hb]
    rw [e] at hg ⊢
    rw [oL_off _ hb]
    exact ⟨hg, rfl⟩
  · have e : f4 h s = ({ s.1 with ready := decide ((s.2.1.num 1).1 = 1) }, rdyR s.2.1, rdyP s.2.1 s.2.2) := by unfold f4; rw [if_neg hb]
    rw [e] at hg ⊢
    rw [oL_on _ hb]
    have he : (s.2.1.num 1).2.e = 0 := hg.1
    have hp : rdyP s.2.1 s.2.2 = 0 := hg.2
    have hr := num1_range s.2.1
    have hle : ¬ 1 < (s.2.1.num 1).1 := fun hc => by unfold rdyP at hp; rw [if_pos hc] at hp; exact absurd hp (by decide)
    have hp2 : s.2.2 = 0 := by unfold rdyP at hp; rwa [if_neg hle] at hp
    refine ⟨⟨num_e he, hp2⟩, ?_⟩
    have hi := num1_is he
    show s.2.1.l = beBytes 1 (if decide ((s.2.1.num 1).1 = 1) = true then 1 else 0) ++ (s.2.1.num 1).2.l
    have hv : (if decide ((s.2.1.num 1).1 = 1) = true then 1 else 0 : Nat) = (s.2.1.num 1).1.toNat := by
      by_cases h1 : (s.2.1.num 1).1 = 1
      · rw [if_pos (decide_eq_true h1), h1]; rfl
      · rw [if_neg (by simp [h1])]; omega
    rw [hv]
    exact hi
theorem f5_inv {h : Int} {s : SF} (hg : goodS (f5 h s)) (hz : s.1.req.name.length = 32) : goodS s ∧ s.2.1.l = oL (bitA h 16) (cb (reqB (f5 h s).1.req).length ++ reqB (f5 h s).1.req) ++ (f5 h s).2.1.l ∧ (f5 h s).1.req.name.length = 32 := by
  by_cases hb : bitA h 16 = 0
  · have e : f5 h s = s := by unfold f5; rw [if_pos hb]
    rw [e] at hg ⊢
    rw [oL_off _ hb]
    exact ⟨hg, rfl, hz⟩
  · have e : f5 h s = ({ s.1 with req := (rpRq s.2.1 s.2.2).1 }, (rpRq s.2.1 s.2.2).2.1, (rpRq s.2.1 s.2.2).2.2) := by unfold f5; rw [if_neg hb]
    rw [e] at hg ⊢
    rw [oL_on _ hb]
    obtain ⟨q1, q2, _, q3, q4⟩ := rpRq_inv hg.1 hg.2
    exact ⟨⟨q2, q1⟩, by rw [List.append_assoc]; exact q4, q3⟩
theorem f6_inv {h : Int} {s : SF} (hg : goodS (f6 h s)) (hz : s.1.ans.name.length = 32) : goodS s ∧ s.2.1.l = oL (bitA h 32) (cb (ansB (f6 h s).1.ans).length ++ ansB (f6 h s).1.ans) ++ (f6 h s).2.1.l ∧ (f6 h s).1.ans.name.length = 32 := by
  by_cases hb : bitA h 32 = 0
  · have e : f6 h s = s := by unfold f6; rw [if_pos hb]
    rw [e] at hg ⊢
    rw [oL_off _ hb]
    exact ⟨hg, rfl, hz⟩
  · have e : f6 h s = ({ s.1 with ans := (rpAn s.2.1 s.2.2).1 }, (rpAn s.2.1 s.2.2).2.1, (rpAn s.2.1 s.2.2).2.2) := by unfold f6; rw [if_neg hb]
    rw [e] at hg ⊢
    rw [oL_on _ hb]
    obtain ⟨q1, q2, _, q3, q4⟩ := rpAn_inv hg.1 hg.2
    exact ⟨⟨q2, q1⟩, by rw [List.append_assoc]; exact q4, q3⟩
theorem f7_inv {h : Int} {s : SF} (hg : goodS (f7 h s)) : goodS s ∧ s.2.1.l = oL (bitA h 64) (cb (cfB (f7 h s).1.conf).length ++ cfB (f7 h s).1.conf) ++ (f7 h s).2.1.l := by
  by_cases hb : bitA h 64 = 0
  · have e : f7 h s = s := by unfold f7; rw [if_pos hb]
    rw [e] at hg ⊢
    rw [oL_off _ hb]
    exact ⟨hg, rfl⟩
  · have e : f7 h s = ({ s.1 with conf := (rpCf s.2.1 s.2.2).1 }, (rpCf s.2.1 s.2.2).2.1, (rpCf s.2.1 s.2.2).2.2) := by unfold f7; rw [if_neg hb]
    rw [e] at hg ⊢
    rw [oL_on _ hb]
    obtain ⟨q1, q2, _, q4⟩ := rpCf_inv hg.1 hg.2
    exact ⟨⟨q2, q1⟩, by rw [List.append_assoc]; exact q4⟩
theorem f8_inv {h : Int} {s : SF} (hg : goodS (f8 h s)) (h8 : (f8 h s).1.votes.length ≤ 8) : goodS s ∧ s.2.1.l = oL (bitA h 128) (beBytes 1 (f8 h s).1.votes.length ++ vtsE (f8 h s).1.votes) ++ (f8 h s).2.1.l := by
  by_cases hb : bitA h 128 = 0
  · have e : f8 h s = s := by unfold f8; rw [if_pos hb]
    rw [e] at hg ⊢
    rw [oL_off _ hb]
    exact ⟨hg, rfl⟩
  · have e : f8 h s = ({ s.1 with votes := (rvAll s.2.1 s.2.2).1 }, (rvAll s.2.1 s.2.2).2.1, (rvAll s.2.1 s.2.2).2.2) := by unfold f8; rw [if_neg hb]
    rw [e] at hg h8 ⊢
    rw [oL_on _ hb]
    obtain ⟨q1, q2, q4⟩ := rvAll_inv hg.1 hg.2 h8
    exact ⟨⟨q2, q1⟩, by rw [List.append_assoc]; exact q4⟩
theorem f9_inv {h : Int} {s : SF} (hg : goodS (f9 h s)) : goodS s ∧ s.2.1.l = oL (bitA h 256) (cb (f9 h s).1.bytes.length ++ (f9 h s).1.bytes) ++ (f9 h s).2.1.l := by
  by_cases hb : bitA h 256 = 0
  · have e : f9 h s = s := by unfold f9; rw [if_pos hb]
    rw [e] at hg ⊢
    rw [oL_off _ hb]
    exact ⟨hg, rfl⟩
  · have e : f9 h s = ({ s.1 with bytes := (s.2.1.text 32768).1 }, (s.2.1.text 32768).2, s.2.2) := by unfold f9; rw [if_neg hb]
    rw [e] at hg ⊢
    rw [oL_on _ hb]
    exact ⟨⟨text_e hg.1, hg.2⟩, by rw [List.append_assoc]; exact text_inv s.2.1 (text_e hg.1) 32768 hg.1⟩
theorem f1_seq (h : Int) (s : SF) : (f1 h s).1.seq = s.1.seq := by unfold f1; split <;> rfl
theorem f1_ballot (h : Int) (s : SF) : (f1 h s).1.ballot = s.1.ballot := by unfold f1; split <;> rfl
theorem f1_ready (h : Int) (s : SF) : (f1 h s).1.ready = s.1.ready := by unfold f1; split <;> rfl
theorem f1_req (h : Int) (s : SF) : (f1 h s).1.req = s.1.req := by unfold f1; split <;> rfl
theorem f1_ans (h : Int) (s : SF) : (f1 h s).1.ans = s.1.ans := by unfold f1; split <;> rfl
theorem f1_conf (h : Int) (s : SF) : (f1 h s).1.conf = s.1.conf := by unfold f1; split <;> rfl
theorem f1_votes (h : Int) (s : SF) : (f1 h s).1.votes = s.1.votes := by unfold f1; split <;> rfl
theorem f1_bytes (h : Int) (s : SF) : (f1 h s).1.bytes = s.1.bytes := by unfold f1; split <;> rfl
theorem f2_num (h : Int) (s : SF) : (f2 h s).1.num = s.1.num := by unfold f2; split <;> rfl
theorem f2_ballot (h : Int) (s : SF) : (f2 h s).1.ballot = s.1.ballot := by unfold f2; split <;> rfl
theorem f2_ready (h : Int) (s : SF) : (f2 h s).1.ready = s.1.ready := by unfold f2; split <;> rfl
theorem f2_req (h : Int) (s : SF) : (f2 h s).1.req = s.1.req := by unfold f2; split <;> rfl
theorem f2_ans (h : Int) (s : SF) : (f2 h s).1.ans = s.1.ans := by unfold f2; split <;> rfl
theorem f2_conf (h : Int) (s : SF) : (f2 h s).1.conf = s.1.conf := by unfold f2; split <;> rfl
theorem f2_votes (h : Int) (s : SF) : (f2 h s).1.votes = s.1.votes := by unfold f2; split <;> rfl
theorem f2_bytes (h : Int) (s : SF) : (f2 h s).1.bytes = s.1.bytes := by unfold f2; split <;> rfl
theorem f3_num (h : Int) (s : SF) : (f3 h s).1.num = s.1.num := by unfold f3; split <;> rfl
theorem f3_seq (h : Int) (s : SF) : (f3 h s).1.seq = s.1.seq := by unfold f3; split <;> rfl
theorem f3_ready (h : Int) (s : SF) : (f3 h s).1.ready = s.1.ready := by unfold f3; split <;> rfl
theorem f3_req (h : Int) (s : SF) : (f3 h s).1.req = s.1.req := by unfold f3; split <;> rfl
theorem f3_ans (h : Int) (s : SF) : (f3 h s).1.ans = s.1.ans := by unfold f3; split <;> rfl
theorem f3_conf (h : Int) (s : SF) : (f3 h s).1.conf = s.1.conf := by unfold f3; split <;> rfl
theorem f3_votes (h : Int) (s : SF) : (f3 h s).1.votes = s.1.votes := by unfold f3; split <;> rfl
theorem f3_bytes (h : Int) (s : SF) : (f3 h s).1.bytes = s.1.bytes := by unfold f3; split <;> rfl
theorem f4_num (h : Int) (s : SF) : (f4 h s).1.num = s.1.num := by unfold f4; split <;> rfl
theorem f4_seq (h : Int) (s : SF) : (f4 h s).1.seq = s.1.seq := by unfold f4; split <;> rfl
theorem f4_ballot (h : Int) (s : SF) : (f4 h s).1.ballot = s.1.ballot := by unfold f4; split <;> rfl
theorem f4_req (h : Int) (s : SF) : (f4 h s).1.req = s.1.req := by unfold f4; split <;> rfl
theorem f4_ans (h : Int) (s : SF) : (f4 h s).1.ans = s.1.ans := by unfold f4; split <;> rfl
theorem f4_conf (h : Int) (s : SF) : (f4 h s).1.conf = s.1.conf := by unfold f4; split <;> rfl
theorem f4_votes (h : Int) (s : SF) : (f4 h s).1.votes = s.1.votes := by unfold f4; split <;> rfl
theorem f4_bytes (h : Int) (s : SF) : (f4 h s).1.bytes = s.1.bytes := by unfold f4; split <;> rfl
theorem f5_num (h : Int) (s : SF) : (f5 h s).1.num = s.1.num := by unfold f5; split <;> rfl
theorem f5_seq (h : Int) (s : SF) : (f5 h s).1.seq = s.1.seq := by unfold f5; split <;> rfl
theorem f5_ballot (h : Int) (s : SF) : (f5 h s).1.ballot = s.1.ballot := by unfold f5; split <;> rfl
theorem f5_ready (h : Int) (s : SF) : (f5 h s).1.ready = s.1.ready := by unfold f5; split <;> rfl
theorem f5_ans (h : Int) (s : SF) : (f5 h s).1.ans = s.1.ans := by unfold f5; split <;> rfl
theorem f5_conf (h : Int) (s : SF) : (f5 h s).1.conf = s.1.conf := by unfold f5; split <;> rfl
theorem f5_votes (h : Int) (s : SF) : (f5 h s).1.votes = s.1.votes := by unfold f5; split <;> rfl
theorem f5_bytes (h : Int) (s : SF) : (f5 h s).1.bytes = s.1.bytes := by unfold f5; split <;> rfl
theorem f6_num (h : Int) (s : SF) : (f6 h s).1.num = s.1.num := by unfold f6; split <;> rfl
theorem f6_seq (h : Int) (s : SF) : (f6 h s).1.seq = s.1.seq := by unfold f6; split <;> rfl
theorem f6_ballot (h : Int) (s : SF) : (f6 h s).1.ballot = s.1.ballot := by unfold f6; split <;> rfl
theorem f6_ready (h : Int) (s : SF) : (f6 h s).1.ready = s.1.ready := by unfold f6; split <;> rfl
theorem f6_req (h : Int) (s : SF) : (f6 h s).1.req = s.1.req := by unfold f6; split <;> rfl
theorem f6_conf (h : Int) (s : SF) : (f6 h s).1.conf = s.1.conf := by unfold f6; split <;> rfl
theorem f6_votes (h : Int) (s : SF) : (f6 h s).1.votes = s.1.votes := by unfold f6; split <;> rfl
theorem f6_bytes (h : Int) (s : SF) : (f6 h s).1.bytes = s.1.bytes := by unfold f6; split <;> rfl
theorem f7_num (h : Int) (s : SF) : (f7 h s).1.num = s.1.num := by unfold f7; split <;> rfl
theorem f7_seq (h : Int) (s : SF) : (f7 h s).1.seq = s.1.seq := by unfold f7; split <;> rfl
theorem f7_ballot (h : Int) (s : SF) : (f7 h s).1.ballot = s.1.ballot := by unfold f7; split <;> rfl
theorem f7_ready (h : Int) (s : SF) : (f7 h s).1.ready = s.1.ready := by unfold f7; split <;> rfl
theorem f7_req (h : Int) (s : SF) : (f7 h s).1.req = s.1.req := by unfold f7; split <;> rfl
theorem f7_ans (h : Int) (s : SF) : (f7 h s).1.ans = s.1.ans := by unfold f7; split <;> rfl
theorem f7_votes (h : Int) (s : SF) : (f7 h s).1.votes = s.1.votes := by unfold f7; split <;> rfl
theorem f7_bytes (h : Int) (s : SF) : (f7 h s).1.bytes = s.1.bytes := by unfold f7; split <;> rfl
theorem f8_num (h : Int) (s : SF) : (f8 h s).1.num = s.1.num := by unfold f8; split <;> rfl
theorem f8_seq (h : Int) (s : SF) : (f8 h s).1.seq = s.1.seq := by unfold f8; split <;> rfl
theorem f8_ballot (h : Int) (s : SF) : (f8 h s).1.ballot = s.1.ballot := by unfold f8; split <;> rfl
theorem f8_ready (h : Int) (s : SF) : (f8 h s).1.ready = s.1.ready := by unfold f8; split <;> rfl
theorem f8_req (h : Int) (s : SF) : (f8 h s).1.req = s.1.req := by unfold f8; split <;> rfl
theorem f8_ans (h : Int) (s : SF) : (f8 h s).1.ans = s.1.ans := by unfold f8; split <;> rfl
theorem f8_conf (h : Int) (s : SF) : (f8 h s).1.conf = s.1.conf := by unfold f8; split <;> rfl
theorem f8_bytes (h : Int) (s : SF) : (f8 h s).1.bytes = s.1.bytes := by unfold f8; split <;> rfl
theorem f9_num (h : Int) (s : SF) : (f9 h s).1.num = s.1.num := by unfold f9; split <;> rfl
theorem f9_seq (h : Int) (s : SF) : (f9 h s).1.seq = s.1.seq := by unfold f9; split <;> rfl
theorem f9_ballot (h : Int) (s : SF) : (f9 h s).1.ballot = s.1.ballot := by unfold f9; split <;> rfl
theorem f9_ready (h : Int) (s : SF) : (f9 h s).1.ready = s.1.ready := by unfold f9; split <;> rfl
theorem f9_req (h : Int) (s : SF) : (f9 h s).1.req = s.1.req := by unfold f9; split <;> rfl
theorem f9_ans (h : Int) (s : SF) : (f9 h s).1.ans = s.1.ans := by unfold f9; split <;> rfl
theorem f9_conf (h : Int) (s : SF) : (f9 h s).1.conf = s.1.conf := by unfold f9; split <;> rfl
theorem f9_votes (h : Int) (s : SF) : (f9 h s).1.votes = s.1.votes := by unfold f9; split <;> rfl
theorem parsePk_inv {b : List UInt8} (hz : (parsePk b).2 = 0) : (parsePk b).1.ok = true ∧ (parsePk b).1.req.name.length = 32 ∧ (parsePk b).1.ans.name.length = 32 ∧ pkB (parsePk b).1 = b := by
  by_cases hA : (hdR b).e = 0 ∧ fieldsP (hdQ b).kind = 0
  · unfold parsePk at hz; rw [if_pos hA] at hz; exact absurd hz (by decide)
  · by_cases hB : firstP (pkS b).2.2 (pkS b).2.1.e ≠ 0
    · unfold parsePk at hz; rw [if_neg hA, if_pos hB] at hz; exact absurd hz hB
    · have e : parsePk b = (eL (endP (pkS b).2.1.end_ (pkS b).1.ok) (pkS b).1 pkZero, endP (pkS b).2.1.end_ (pkS b).1.ok) := by unfold parsePk; rw [if_neg hA, if_neg hB]
      rw [e] at hz
      have hz' : endP (pkS b).2.1.end_ (pkS b).1.ok = 0 := hz
      have hp : (parsePk b).1 = (pkS b).1 := by rw [e, hz']; rfl
      obtain ⟨h1, hok⟩ := endP_zero hz'
      obtain ⟨he, hl⟩ := end_zero h1
      have hpart : (pkS b).2.2 = 0 := (firstP_zero (by simpa using hB)).1
      rw [hp]
      obtain ⟨h, hh⟩ : ∃ h, fieldsP (hdQ b).kind = h := ⟨_, rfl⟩
      obtain ⟨s0, hs0⟩ : ∃ s : SF, s = (hdQ b, hdR b, 0) := ⟨_, rfl⟩
      obtain ⟨s1, hs1⟩ : ∃ s, s = f1 h s0 := ⟨_, rfl⟩
      obtain ⟨s2, hs2⟩ : ∃ s, s = f2 h s1 := ⟨_, rfl⟩
      obtain ⟨s3, hs3⟩ : ∃ s, s = f3 h s2 := ⟨_, rfl⟩
      obtain ⟨s4, hs4⟩ : ∃ s, s = f4 h s3 := ⟨_, rfl⟩
      obtain ⟨s5, hs5⟩ : ∃ s, s = f5 h s4 := ⟨_, rfl⟩
      obtain ⟨s6, hs6⟩ : ∃ s, s = f6 h s5 := ⟨_, rfl⟩
      obtain ⟨s7, hs7⟩ : ∃ s, s = f7 h s6 := ⟨_, rfl⟩
      obtain ⟨s8, hs8⟩ : ∃ s, s = f8 h s7 := ⟨_, rfl⟩
      obtain ⟨s9, hs9⟩ : ∃ s, s = f9 h s8 := ⟨_, rfl⟩
      have hS : pkS b = s9 := by unfold pkS fAll; rw [hh, ← hs0, ← hs1, ← hs2, ← hs3, ← hs4, ← hs5, ← hs6, ← hs7, ← hs8, ← hs9]
      rw [hS] at he hl hok hpart ⊢
      have hg9 : goodS (f9 h s8) := by rw [← hs9]; exact ⟨he, hpart⟩
      have hvl : s9.1.votes.length ≤ 8 := by have := (s9.1.ok_facts hok).2.2.2.2.2.2.2.2.2.2.2; unfold vtsOk at this; rw [Bool.and_eq_true, decide_eq_true_eq] at this; exact this.1
      have v8 : s8.1.votes.length ≤ 8 := by have := f9_votes h s8; rw [← hs9] at this; rwa [← this]
      obtain ⟨g8, i9⟩ := f9_inv hg9
      rw [← hs9] at i9
      have hg8 : goodS (f8 h s7) := by rw [← hs8]; exact g8
      obtain ⟨g7, i8⟩ := f8_inv hg8 (by rw [← hs8]; exact v8)
      rw [← hs8] at i8
      have hg7 : goodS (f7 h s6) := by rw [← hs7]; exact g7
      obtain ⟨g6, i7⟩ := f7_inv hg7
      rw [← hs7] at i7
      have hg6 : goodS (f6 h s5) := by rw [← hs6]; exact g6
      obtain ⟨g5, i6, nm6⟩ := f6_inv hg6 (by rw [hs5, f5_ans, hs4, f4_ans, hs3, f3_ans, hs2, f2_ans, hs1, f1_ans, hs0]; exact anZero_name)
      rw [← hs6] at i6 nm6
      have hg5 : goodS (f5 h s4) := by rw [← hs5]; exact g5
      obtain ⟨g4, i5, nm5⟩ := f5_inv hg5 (by rw [hs4, f4_req, hs3, f3_req, hs2, f2_req, hs1, f1_req, hs0]; exact rqZero_name)
      rw [← hs5] at i5 nm5
      have hg4 : goodS (f4 h s3) := by rw [← hs4]; exact g4
      obtain ⟨g3, i4⟩ := f4_inv hg4
      rw [← hs4] at i4
      have hg3 : goodS (f3 h s2) := by rw [← hs3]; exact g3
      obtain ⟨g2, i3⟩ := f3_inv hg3
      rw [← hs3] at i3
      have hg2 : goodS (f2 h s1) := by rw [← hs2]; exact g2
      obtain ⟨g1, i2⟩ := f2_inv hg2
      rw [← hs2] at i2
      have hg1 : goodS (f1 h s0) := by rw [← hs1]; exact g1
      obtain ⟨g0, i1⟩ := f1_inv hg1
      rw [← hs1] at i1
      rw [hs0] at g0 i1
      have e3 : ((((RS.mk b 0).num 1).2.num 1).2.num 1).2.e = 0 := g0.1
      have e2 := num_e e3
      have e1 := num_e e2
      have j1 := num1_is e1
      have j2 := num1_is e2
      have j3 := num1_is e3
      have p1 : s9.1.num = s1.1.num := by rw [hs9, f9_num, hs8, f8_num, hs7, f7_num, hs6, f6_num, hs5, f5_num, hs4, f4_num, hs3, f3_num, hs2, f2_num]
      have p2 : s9.1.seq = s2.1.seq := by rw [hs9, f9_seq, hs8, f8_seq, hs7, f7_seq, hs6, f6_seq, hs5, f5_seq, hs4, f4_seq, hs3, f3_seq]
      have p3 : s9.1.ballot = s3.1.ballot := by rw [hs9, f9_ballot, hs8, f8_ballot, hs7, f7_ballot, hs6, f6_ballot, hs5, f5_ballot, hs4, f4_ballot]
      have p4 : s9.1.ready = s4.1.ready := by rw [hs9, f9_ready, hs8, f8_ready, hs7, f7_ready, hs6, f6_ready, hs5, f5_ready]
      have p5 : s9.1.req = s5.1.req := by rw [hs9, f9_req, hs8, f8_req, hs7, f7_req, hs6, f6_req]
      have p6 : s9.1.ans = s6.1.ans := by rw [hs9, f9_ans, hs8, f8_ans, hs7, f7_ans]
      have p7 : s9.1.conf = s7.1.conf := by rw [hs9, f9_conf, hs8, f8_conf]
      have p8 : s9.1.votes = s8.1.votes := by rw [hs9, f9_votes]
      have hd := f_head h s0
      have hfs : fAll h s0 = s9 := by unfold fAll; rw [← hs1, ← hs2, ← hs3, ← hs4, ← hs5, ← hs6, ← hs7, ← hs8, ← hs9]
      rw [hfs, hs0] at hd
      have hkd : fieldsP s9.1.kind = h := by rw [hd.1]; exact hh
      refine ⟨hok, ?_, ?_, ?_⟩
      · rw [p5]; exact nm5
      · rw [p6]; exact nm6
      · rw [pkB_split, hkd]
        have hb : b = beBytes 1 s9.1.kind.toNat ++ (beBytes 1 s9.1.frm.toNat ++ (beBytes 1 s9.1.dst.toNat ++ (hdR b).l)) := by
          rw [hd.1, hd.2.1, hd.2.2]
          show (RS.mk b 0).l = _
          rw [j1, j2, j3]
          rfl
        rw [hb]
        refine congrArg (fun x => beBytes 1 s9.1.kind.toNat ++ (beBytes 1 s9.1.frm.toNat ++ (beBytes 1 s9.1.dst.toNat ++ x))) ?_
        have i1' : (hdR b).l = _ := i1
        rw [i1', i2, i3, i4, i5, i6, i7, i8, i9, hl]
        unfold tl1 tl2 tl3 tl4 tl5 tl6 tl7 tl8 tl9
        rw [p1, p2, p3, p4, p5, p6, p7, p8]
theorem parsePk_zero {b : List UInt8} (hz : (parsePk b).2 ≠ 0) : (parsePk b).1 = pkZero := by
  unfold parsePk at hz ⊢
  split
  · rfl
  · split
    · rfl
    · rename_i h1 h2
      rw [if_neg h1, if_neg h2] at hz
      exact eL_no _ _ hz
theorem parsePk_prefix {p : PK} (hok : p.ok = true) (hrn : p.req.name.length = 32) (han : p.ans.name.length = 32) {n : Nat} (hn : n < (pkB p).length) : (parsePk ((pkB p).take n)).2 ≠ 0 := fun hz => by
  obtain ⟨h1, h2, h3, h4⟩ := parsePk_inv hz
  have hr : (pkB p).drop n ≠ [] := by intro h; have := congrArg List.length h; simp at this; omega
  have h5 := parsePk_rest h1 h2 h3 ((pkB p).drop n)
  rw [h4, List.take_append_drop, if_neg hr, parsePk_back hok hrn han] at h5
  exact absurd (congrArg Prod.snd h5) (by show ¬ ((0 : Int) = 4); decide)
end Go.Proofs.YthfdkonhjpdflaaDoor
end

section
namespace Go.Proofs.YthfdkonhjpdflaaDoor
open Go.RowKit
set_option linter.unusedVariables false
set_option maxRecDepth 100000
set_option linter.unusedSimpArgs false

theorem PK.same_refl (p : PK) : p.same p = true := (PK.same_iff p p).2 rfl
set_option maxHeartbeats 16000000 in
theorem has_any (F G : List Nat) (p : PK) (ev av cv vv bw wv : Value) (w : World) (h : pkV w F p ev av cv vv bw) (hw : bytesV w G wv (pkB p)) (hfl : fieldsAt w) (hb1 : i64P p.frm) (hb2 : i64P p.dst) (hok : p.ok = true) :
    Calls Tryd.prog 22 #[.agg (pkL p ev av cv vv bw).toArray, wv] w fun e w' => e = .returned (.bool true) ∧ keepBut [] w w' := by
  have k1 := (keepBut.refl [] w).alloc (.cells (pkL p ev av cv vv bw).toArray 38)
  have r1 := rowAt.new w 38 (pkL p ev av cv vv bw).toArray
  obtain ⟨w1, hw1⟩ : ∃ w1, w.alloc (.cells (pkL p ev av cv vv bw).toArray 38) = w1 := ⟨_, rfl⟩
  rw [hw1] at k1 r1
  have hI : (Tryd.prog.info? 38).map (·.size) = some (pkL p ev av cv vv bw).length := by rw [pkL_len h.rn h.an]; exact info_pk
  have hpl : (pkB p).length ≤ 1000000 := by have := (pk_lens hok h.rn h.an).2.2.2.2.2.2.2.2.2; unfold pkB; omega
  have hpb := parsePk_back hok h.rn h.an
  have hone := pkL_one h.re.one h.ae.one h.cc.one h.vs.one h.bs.one (p := p)
  obtain ⟨WA, wc, wg, rfl, _, _, hsw, _⟩ := id hw
  have HS := Lib.hid (And.intro r1 (And.intro hI (And.intro k1 (And.intro (h.keep k1 (by simp)) (And.intro (hw.keep k1 (by simp)) (hfl.keep k1 (by simp)))))))
  have HP := Lib.hid (And.intro hpl (And.intro hpb (And.intro hone (And.intro h.rn (And.intro h.an hsw)))))
  have HW := Lib.hid hw1
  clear k1 r1 hw1 h hI hfl hpl hpb hone hw hsw
  go_enter Tryd.func22, Tryd.ntmps22
  go_upto_region 1 with (with_reducible refine wpList_box_agg _ rfl 38 (.tmp 0) rfl _ rfl ?_)
  rw [HW.out]
  go_upto_region 2 with (first
    | (refine wpList_load_mid rfl 38 (.tmp 2) rfl w.heap.size 0 rfl (pkL p ev av cv vv bw) _ HS.out.1.rangeAll Tryd.underlying38 rfl HS.out.2.1 ?_)
    | (go_at_call 8; refine (bytes_any F p ev av cv vv bw _ HS.out.2.2.2.1 HS.out.2.2.2.2.2 hb1 hb2 hok).mono ?_; rintro e w2 ⟨u, G2, rfl, ⟨A2, c2, g2, rfl, _, _, sn2, _⟩, nw2, kk2⟩; have H2 := Lib.hid (And.intro sn2 kk2); clear sn2 nw2 kk2))
  have K2 := Lib.hid (HS.out.2.2.1.then H2.out.2 (by simp))
  have zv := zv_pk
  obtain ⟨Z, hZ⟩ : ∃ Z, pkL pkZero nilV nilV nilV nilV nilV = Z := ⟨_, rfl⟩
  have zl := pkZ_len
  rw [hZ] at zv zl
  have HZ := Lib.hid (And.intro zv zl)
  clear zv zl hZ
  go_upto_region 3 with (first
    | (go_at_call 9; refine (parsePk_any G (pkB p) _ _ (HS.out.2.2.2.2.1.keep H2.out.2 (by simp)) HP.out.1 (HS.out.2.2.2.2.2.keep H2.out.2 (by simp))).mono ?_; rintro e w3 ⟨ev', av', cv', vv', bw', G3, rfl, hv3, _, kk3⟩; rw [HP.out.2.1] at *; have H3 := Lib.hid (And.intro hv3 kk3); clear hv3 kk3)
    | (with_reducible refine wpList_alloc_to _ _ rfl 38 rfl _ HZ.out.1 rfl ?_)
    | (refine wpList_store_mid rfl 38 (.tmp 7) (.tmp 17) rfl w3.heap.size 0 (pkL p ev' av' cv' vv' bw').toArray rfl rfl ((rowAt.new w3 38 Z.toArray).there (by simp only [List.size_toArray]; have h1 := HZ.out.2; have h2 := pkL_len (p := p) (ev := ev') (av := av') (cv := cv') (vv := vv') (bw := bw') HP.out.2.2.2.1 HP.out.2.2.2.2.1; omega)) (by rw [List.size_toArray, pkL_len HP.out.2.2.2.1 HP.out.2.2.2.2.1]; exact info_pk) (all_oneCell_toArray (pkL_one H3.out.1.re.one H3.out.1.ae.one H3.out.1.cc.one H3.out.1.vs.one H3.out.1.bs.one)) ?_))
  have k4a := (keepBut.refl [] w3).alloc (.cells Z.toArray 38)
  have hl2 := pkL_len (p := p) (ev := ev') (av := av') (cv := cv') (vv := vv') (bw := bw') HP.out.2.2.2.1 HP.out.2.2.2.2.1
  have r4 := (rowAt.new w3 38 Z.toArray).setL (vs := pkL p ev' av' cv' vv' bw') (o := 0)
  rw [putL_all (by simp only [List.size_toArray]; have h1 := HZ.out.2; omega)] at r4
  have k4 : keepBut [] w3 ((w3.alloc (.cells Z.toArray 38)).setCells w3.heap.size 0 (pkL p ev' av' cv' vv' bw')) := k4a.setL (.inr (Nat.le_refl _))
  obtain ⟨w4, hw4⟩ : ∃ w4, (w3.alloc (.cells Z.toArray 38)).setCells w3.heap.size 0 (pkL p ev' av' cv' vv' bw') = w4 := ⟨_, rfl⟩
  rw [hw4] at r4 k4 ⊢
  obtain ⟨tq, htq⟩ : ∃ t, w3.heap.size = t := ⟨_, rfl⟩
  rw [htq] at r4 ⊢
  have k24 := H3.out.2.then k4 (by simp)
  have k14 := H2.out.2.then k24 (by simp)
  have H4 := Lib.hid (And.intro r4 (And.intro (k14.row HS.out.1 (by simp)) (And.intro (HS.out.2.2.1.then k14 (by simp)) (And.intro (H2.out.1.keep k24 (by simp)) (And.intro (HP.out.2.2.2.2.2.keep (HS.out.2.2.1.then k14 (by simp)) (by simp)) (And.intro (HS.out.2.2.2.1.keep k14 (by simp)) (And.intro (H3.out.1.keep k4 (by simp)) (by rw [hl2]; exact info_pk : (Tryd.prog.info? 38).map (·.size) = some (pkL p ev' av' cv' vv' bw').length))))))))
  have hbeq : (pkB p == pkB p) = true := by simp
  clear k4a hl2 r4 k4 hw4 htq k24 k14
  go_wp2_with (first
    | (go_at_call 13; refine (eqBytes_any A2 WA g2 wg c2 wc (pkB p) (pkB p) _ H4.out.2.2.2.1 H4.out.2.2.2.2.1).mono ?_; rintro e w9 ⟨rfl, rfl⟩; rw [hbeq])
    | (refine wpList_load_mid_g 38 (.tmp 2) rfl w.heap.size 0 rfl (pkL p ev av cv vv bw) _ H4.out.2.1.rangeAll Tryd.underlying38 rfl HS.out.2.1 ?_ ?_; · rfl)
    | (refine wpList_load_mid_g 38 (.tmp 7) rfl tq 0 rfl (pkL p ev' av' cv' vv' bw') _ H4.out.1.rangeAll Tryd.underlying38 rfl H4.out.2.2.2.2.2.2.2 ?_ ?_; · rfl)
    | (go_at_call 11; refine (pkSame_any F G3 p p _ _ _ _ _ _ _ _ _ _ _ H4.out.2.2.2.2.2.1 H4.out.2.2.2.2.2.2.1).mono ?_; rintro e w10 ⟨rfl, k10⟩; rw [PK.same_refl]; have K10 := Lib.hid k10; clear k10))
  go_ret
  exact ⟨rfl, H4.out.2.2.1.then K10.out (by simp)⟩
end Go.Proofs.YthfdkonhjpdflaaDoor
end

section
namespace Go.Proofs.YthfdkonhjpdflaaDoor
open Go.RowKit
set_option linter.unusedVariables false
set_option maxRecDepth 100000
set_option linter.unusedSimpArgs false

theorem wpList_build_c {P : Program} (w : World) {ops : Array Oper} {rest : List Oper} {o : Oper} {a : Act} {Q : Exit → Act → World → Prop} (t : TypeId) (parts : Array (Nat × Operand)) (ho : o.op = .build t parts) (cells : Array Value)
    (hb : P.built t (parts.map fun (i, x) => (i, a.eval x)).toList = some cells) (hw : Region.wanted o (yielded ops a.tmps) = true) (h : wpList P ops Q rest (a.put o.dst (.agg cells)) w) : wpList P ops Q (o :: rest) a w :=
  wpList_wantedP hw fun K hK => by
    have hK' := hK _ _ h
    unfold Oper.wp execOp
    simp only [ho, Sem.run_bind, run_build w t _ cells hb, Result.andThen_ok]
    exact hK'
theorem cb_small (n : Nat) (h : n < 128) : cb n = [UInt8.ofNat n] := by
  unfold cb
  rw [show n / 128 = 0 by omega, cbHi_zero, show n % 128 = n by omega]
  rfl
theorem cb_two (n : Nat) (h1 : 128 ≤ n) (h2 : n < 16384) : cb n = [UInt8.ofNat (128 + n / 128), UInt8.ofNat (n % 128)] := by
  unfold cb
  rw [cbHi_pos (n / 128) (by omega), show n / 128 / 128 = 0 by omega, cbHi_zero, show n / 128 % 128 = n / 128 by omega]
  rfl
def pkE1 : PK := ⟨4, 11, 10, 3, 200, 0, false, rqZero, anZero, cfZero, [], []⟩
def pkE2 : PK := ⟨5, 12, 11, 300, -1, 0, false, rqZero, anZero, cfZero, [], []⟩
def pkE3 : PK := ⟨8, 10, 2, 0, 0, 0, true, rqZero, anZero, cfZero, [], []⟩
def pkE4 : PK := ⟨9, 0, 0, 1, 0, 0, false, rqZero, anZero, cfZero, [], []⟩
def pkE5 : PK := ⟨7, 0, 0, 0, 0, 0, false, rqZero, anZero, ⟨0, 1, [10, 10]⟩, [], []⟩
def cfE : CF := ⟨2, 1, [11, 10]⟩
theorem pkE1_ok : pkE1.ok = true := by kernel_rfl
theorem pkE2_ok : pkE2.ok = true := by kernel_rfl
theorem pkE3_ok : pkE3.ok = true := by kernel_rfl
theorem pkE4_ok : pkE4.ok = false := by kernel_rfl
theorem pkE5_ok : pkE5.ok = false := by kernel_rfl
theorem cfE_ok : cfE.ok = true := by kernel_rfl
theorem pkE1_b : pkB pkE1 = [4, 11, 10, 3, 129, 73] := by
  rw [pkB_split, show fieldsP pkE1.kind = 3 from rfl]
  unfold tl1 tl2 tl3 tl4 tl5 tl6 tl7 tl8 tl9
  rw [oL_on _ (show bitA 3 1 ≠ 0 by decide), oL_on _ (show bitA 3 2 ≠ 0 by decide), oL_off _ (show bitA 3 4 = 0 by decide), oL_off _ (show bitA 3 8 = 0 by decide), oL_off _ (show bitA 3 16 = 0 by decide), oL_off _ (show bitA 3 32 = 0 by decide), oL_off _ (show bitA 3 64 = 0 by decide), oL_off _ (show bitA 3 128 = 0 by decide), oL_off _ (show bitA 3 256 = 0 by decide)]
  rw [show pkE1.num.toNat = 3 from rfl, show (pkE1.seq + 1).toNat = 201 from rfl, cb_small 3 (by omega), cb_two 201 (by omega) (by omega)]
  rfl
theorem pkE2_b : pkB pkE2 = [5, 12, 11, 130, 44, 0] := by
  rw [pkB_split, show fieldsP pkE2.kind = 3 from rfl]
  unfold tl1 tl2 tl3 tl4 tl5 tl6 tl7 tl8 tl9
  rw [oL_on _ (show bitA 3 1 ≠ 0 by decide), oL_on _ (show bitA 3 2 ≠ 0 by decide), oL_off _ (show bitA 3 4 = 0 by decide), oL_off _ (show bitA 3 8 = 0 by decide), oL_off _ (show bitA 3 16 = 0 by decide), oL_off _ (show bitA 3 32 = 0 by decide), oL_off _ (show bitA 3 64 = 0 by decide), oL_off _ (show bitA 3 128 = 0 by decide), oL_off _ (show bitA 3 256 = 0 by decide)]
  rw [show pkE2.num.toNat = 300 from rfl, show (pkE2.seq + 1).toNat = 0 from rfl, cb_small 0 (by omega), cb_two 300 (by omega) (by omega)]
  rfl
theorem pkE3_b : pkB pkE3 = [8, 10, 2, 0, 1] := by
  rw [pkB_split, show fieldsP pkE3.kind = 9 from rfl]
  unfold tl1 tl2 tl3 tl4 tl5 tl6 tl7 tl8 tl9
  rw [oL_on _ (show bitA 9 1 ≠ 0 by decide), oL_off _ (show bitA 9 2 = 0 by decide), oL_off _ (show bitA 9 4 = 0 by decide), oL_on _ (show bitA 9 8 ≠ 0 by decide), oL_off _ (show bitA 9 16 = 0 by decide), oL_off _ (show bitA 9 32 = 0 by decide), oL_off _ (show bitA 9 64 = 0 by decide), oL_off _ (show bitA 9 128 = 0 by decide), oL_off _ (show bitA 9 256 = 0 by decide)]
  rw [show pkE3.num.toNat = 0 from rfl, cb_small 0 (by omega)]
  rfl
theorem cfE_b : cfB cfE = [2, 1, 2, 11, 10] := by
  unfold cfB
  rw [show cfE.num.toNat = 2 from rfl, cb_small 2 (by omega)]
  rfl
theorem eqE1 : (((((Tryd.zeroCells38.setIfInBounds 0 (.int .i64 4)).setIfInBounds 1 (.int .i64 11)).setIfInBounds 2 (.int .i64 10)).setIfInBounds 3 (.int .i64 3)).setIfInBounds 4 (.int .i64 200)) = (pkL pkE1 nilV nilV nilV nilV nilV).toArray := by kernel_rfl
theorem eqE2 : (((((Tryd.zeroCells38.setIfInBounds 0 (.int .i64 5)).setIfInBounds 1 (.int .i64 12)).setIfInBounds 2 (.int .i64 11)).setIfInBounds 3 (.int .i64 300)).setIfInBounds 4 (.int .i64 (-1))) = (pkL pkE2 nilV nilV nilV nilV nilV).toArray := by kernel_rfl
theorem eqE3 : ((((Tryd.zeroCells38.setIfInBounds 0 (.int .i64 8)).setIfInBounds 1 (.int .i64 10)).setIfInBounds 2 (.int .i64 2)).setIfInBounds 6 (.bool true)) = (pkL pkE3 nilV nilV nilV nilV nilV).toArray := by kernel_rfl
theorem eqE4 : ((Tryd.zeroCells38.setIfInBounds 0 (.int .i64 9)).setIfInBounds 3 (.int .i64 1)) = (pkL pkE4 nilV nilV nilV nilV nilV).toArray := by kernel_rfl
theorem eqE5 (A : Option Addr) (n c : Nat) : ((((Tryd.zeroCells38.setIfInBounds 0 (.int .i64 7)).setIfInBounds 82 (.int .i64 0)).setIfInBounds 83 (.int .i64 1)).setIfInBounds 84 (.slice A n c)) = (pkL pkE5 nilV nilV (.slice A n c) nilV nilV).toArray := by kernel_rfl
theorem val_E (w : World) (p : PK) (hr : p.req = rqZero) (ha : p.ans = anZero) (hc : p.conf = cfZero) (hv : p.votes = []) (hb : p.bytes = []) : pkV w [] p nilV nilV nilV nilV nilV := by
  obtain ⟨a1, a2, a3, a4, a5, a6, a7, a8, a9, a10, a11, a12⟩ := p
  dsimp only at hr ha hc hv hb
  subst hr ha hc hv hb
  exact ⟨rqZero_name, anZero_name, bytesV.nil _ _, bytesV.nil _ _, intsV.nil _ _, votesV.nil _ _, bytesV.nil _ _⟩
/-- a row of bytes that was just made -/
theorem bytesV.row {w : World} {g : Nat} {t : TypeId} {l : List UInt8} (h : rowAt w g t (l.map bv).toArray) (hm : l.length ≤ maxLen) : bytesV w [g] (.slice (some ⟨g, 0, none⟩) l.length l.length) l :=
  ⟨_, _, g, rfl, Nat.le_refl _, hm, fun hne => ⟨0, rfl, h.lt, fun j b hb => by rw [h.cell]; simp [hb]⟩, fun _ => by simp⟩
theorem intsV.row {w : World} {g : Nat} {t : TypeId} {l : List Int} (h : rowAt w g t (l.map (Value.int .i64)).toArray) (hm : l.length ≤ maxLen) : intsV w [g] (.slice (some ⟨g, 0, none⟩) l.length l.length) l :=
  ⟨_, _, g, rfl, Nat.le_refl _, hm, ⟨by simp, fun hne => ⟨0, rfl, h.lt, fun j u hu => by rw [h.cell]; simpa using hu⟩⟩, fun _ => by simp⟩
theorem row5 (j : Nat) (b : UInt8) (hb : ([2, 1, 2, 11, 10] : List UInt8)[j]? = some b) : (#[Value.int .u8 2, .int .u8 1, .int .u8 2, .int .u8 11, .int .u8 10] : Array Value)[0 + j]? = some (bv b) := by
  rw [Nat.zero_add]
  match j, hb with
  | 0, hb => injection hb with hb; subst hb; rfl
  | 1, hb => injection hb with hb; subst hb; rfl
  | 2, hb => injection hb with hb; subst hb; rfl
  | 3, hb => injection hb with hb; subst hb; rfl
  | 4, hb => injection hb with hb; subst hb; rfl
set_option maxHeartbeats 16000000 in
theorem works_any (w : World) (hfl : fieldsAt w) :
    Calls Tryd.prog 6 #[] w fun e w' => e = .returned (.bool true) ∧ keepBut [] w w' := by
  have H0 := Lib.hid hfl
  clear hfl
  go_enter Tryd.func6, Tryd.ntmps6
  go_upto_region 1 with fail
  go_upto_region 2 with (first
    | (go_at_call 22; rw [eqE1]; refine (has_any [] [w.heap.size] pkE1 _ _ _ _ _ _ _ (val_E _ pkE1 rfl rfl rfl rfl rfl) (by rw [pkE1_b]; exact bytesV.row (l := [4, 11, 10, 3, 129, 73]) (rowAt.new w _ _) (by unfold maxLen; decide)) (H0.out.keep ((keepBut.refl [] w).alloc _) (by simp)) (by unfold i64P; decide) (by unfold i64P; decide) pkE1_ok).mono ?_; rintro e w1 ⟨rfl, k1⟩; have K1 := Lib.hid (((keepBut.refl [] w).alloc _).then k1 (by simp)); clear k1)
    | (go_at_call 22; rw [eqE2]; refine (has_any [] [w1.heap.size] pkE2 _ _ _ _ _ _ _ (val_E _ pkE2 rfl rfl rfl rfl rfl) (by rw [pkE2_b]; exact bytesV.row (l := [5, 12, 11, 130, 44, 0]) (rowAt.new w1 _ _) (by unfold maxLen; decide)) (H0.out.keep (K1.out.then ((keepBut.refl [] w1).alloc _) (by simp)) (by simp)) (by unfold i64P; decide) (by unfold i64P; decide) pkE2_ok).mono ?_; rintro e w2 ⟨rfl, k1⟩; have K2 := Lib.hid ((K1.out.then ((keepBut.refl [] w1).alloc _) (by simp)).then k1 (by simp)); clear k1)
    | (go_at_call 22; rw [eqE3]; refine (has_any [] [w2.heap.size] pkE3 _ _ _ _ _ _ _ (val_E _ pkE3 rfl rfl rfl rfl rfl) (by rw [pkE3_b]; exact bytesV.row (l := [8, 10, 2, 0, 1]) (rowAt.new w2 _ _) (by unfold maxLen; decide)) (H0.out.keep (K2.out.then ((keepBut.refl [] w2).alloc _) (by simp)) (by simp)) (by unfold i64P; decide) (by unfold i64P; decide) pkE3_ok).mono ?_; rintro e w3 ⟨rfl, k1⟩; have K3 := Lib.hid ((K2.out.then ((keepBut.refl [] w2).alloc _) (by simp)).then k1 (by simp)); clear k1))
  go_upto_region 3 with (first
    | (go_at_call 19; refine (bytesConf_any [w3.heap.size] cfE _ _ (intsV.row (l := [11, 10]) (rowAt.new w3 _ _) (by unfold maxLen; decide)) cfE_ok).mono ?_; rintro e w4 ⟨u, G4, rfl, ⟨A4, c4, g4, rfl, _, _, sn4, _⟩, nw4, kk4⟩; have K4 := Lib.hid ((K3.out.then ((keepBut.refl [] w3).alloc _) (by simp)).then kk4 (by simp)); have H4 := Lib.hid sn4; clear sn4 nw4 kk4))
  have hbe : (cfB cfE == [2, 1, 2, 11, 10]) = true := by rw [cfE_b]; rfl
  go_wp2_with (first
    | (go_at_call 13; refine (eqBytes_any A4 (some ⟨w4.heap.size, 0, none⟩) g4 w4.heap.size c4 5 (cfB cfE) [2, 1, 2, 11, 10] _ (H4.out.keep ((keepBut.refl [] w4).alloc _) (by simp)) (fun _ => ⟨0, rfl, (rowAt.new w4 _ _).lt, fun j b hb => by rw [(rowAt.new w4 _ _).cell]; exact row5 j b hb⟩)).mono ?_; rintro e w5 ⟨rfl, rfl⟩; rw [hbe])
    | (go_at_call 10; rw [eqE4]; refine (check_any [] pkE4 _ _ _ _ _ _ (val_E _ pkE4 rfl rfl rfl rfl rfl) (H0.out.keep (K4.out.then ((keepBut.refl [] w4).alloc _) (by simp)) (by simp)) (by unfold i64P; decide) (by unfold i64P; decide)).mono ?_; rintro e w6 ⟨rfl, k1⟩; rw [pkE4_ok]; have K6 := Lib.hid ((K4.out.then ((keepBut.refl [] w4).alloc _) (by simp)).then k1 (by simp)); clear k1)
    | (go_at_call 10; rw [eqE5]; refine (check_any [w6.heap.size] pkE5 _ _ _ _ _ _ ⟨rqZero_name, anZero_name, bytesV.nil _ _, bytesV.nil _ _, intsV.row (l := [10, 10]) (rowAt.new w6 _ _) (by unfold maxLen; decide), votesV.nil _ _, bytesV.nil _ _⟩ (H0.out.keep (K6.out.then ((keepBut.refl [] w6).alloc _) (by simp)) (by simp)) (by unfold i64P; decide) (by unfold i64P; decide)).mono ?_; rintro e w7 ⟨rfl, k1⟩; rw [pkE5_ok]; have K7 := Lib.hid ((K6.out.then ((keepBut.refl [] w6).alloc _) (by simp)).then k1 (by simp)); clear k1))
  go_ret
  exact ⟨rfl, K7.out⟩
end Go.Proofs.YthfdkonhjpdflaaDoor
end
