/-
  RC, 12: which packets may be: the document's answer is the program's.
-/
import Derived.Test.YthfdkonhjpdflaaGreatDoorRC10
import Derived.Test.YthfdkonhjpdflaaGreatDoorPk16
namespace Go.Proofs.YthfdkonhjpdflaaGreatDoor
open Go.RowKit
set_option linter.unusedVariables false
set_option maxRecDepth 100000
set_option linter.unusedSimpArgs false

/-- which packets may be, as the document says it -/
def PK.headD (p : PK) : Bool := inP p.kind 1 14 && (nodeP p.frm && nodeP p.dst)
def PK.numD (p : PK) : Bool := (numK.contains p.kind && inP p.num 0 9007199254740991) || (p.num == 0)
def PK.seqD (p : PK) : Bool := (seqK.contains p.kind && inP p.seq (leastP p.kind) 9007199254740990) || (p.seq == 0)
def PK.balD (p : PK) : Bool := (ballotK.contains p.kind && inP p.ballot 0 9007199254740991) || (p.ballot == 0)
def PK.okD (p : PK) : Bool := ((p.headD && (p.numD && (p.seqD && p.balD))) && ((p.kind == 8) || !p.ready)) && p.partsD

structure kindB (k n : Int) : Prop where
  f : fieldsP k = n
  nz : (n == 0) = false
  hd : inP k 1 14 = true
  b1 : numK.contains k = !(bitA n 1 == 0)
  b2 : seqK.contains k = !(bitA n 2 == 0)
  b3 : ballotK.contains k = !(bitA n 4 == 0)
  b4 : (k == 8) = !(bitA n 8 == 0)
  b5 : reqK.contains k = !(bitA n 16 == 0)
  b6 : decide (k = 2) = !(bitA n 32 == 0)
  b7 : confK2.contains k = !(bitA n 64 == 0)
  b8 : decide (k = 11) = !(bitA n 128 == 0)
  b9 : decide (k = 6) = !(bitA n 256 == 0)
theorem kinds {k : Int} (h : 1 ≤ k ∧ k ≤ 14) : ∃ n, kindB k n := by
  have : k = 1 ∨ k = 2 ∨ k = 3 ∨ k = 4 ∨ k = 5 ∨ k = 6 ∨ k = 7 ∨ k = 8 ∨ k = 9 ∨ k = 10 ∨ k = 11 ∨ k = 12 ∨ k = 13 ∨ k = 14 := by omega
  rcases this with rfl | rfl | rfl | rfl | rfl | rfl | rfl | rfl | rfl | rfl | rfl | rfl | rfl | rfl
  · exact ⟨16, by decide +kernel, by decide +kernel, by decide +kernel, by decide +kernel, by decide +kernel, by decide +kernel, by decide +kernel, by decide +kernel, by decide +kernel, by decide +kernel, by decide +kernel, by decide +kernel⟩
  · exact ⟨32, by decide +kernel, by decide +kernel, by decide +kernel, by decide +kernel, by decide +kernel, by decide +kernel, by decide +kernel, by decide +kernel, by decide +kernel, by decide +kernel, by decide +kernel, by decide +kernel⟩
  · exact ⟨19, by decide +kernel, by decide +kernel, by decide +kernel, by decide +kernel, by decide +kernel, by decide +kernel, by decide +kernel, by decide +kernel, by decide +kernel, by decide +kernel, by decide +kernel, by decide +kernel⟩
  · exact ⟨3, by decide +kernel, by decide +kernel, by decide +kernel, by decide +kernel, by decide +kernel, by decide +kernel, by decide +kernel, by decide +kernel, by decide +kernel, by decide +kernel, by decide +kernel, by decide +kernel⟩
  · exact ⟨3, by decide +kernel, by decide +kernel, by decide +kernel, by decide +kernel, by decide +kernel, by decide +kernel, by decide +kernel, by decide +kernel, by decide +kernel, by decide +kernel, by decide +kernel, by decide +kernel⟩
  · exact ⟨259, by decide +kernel, by decide +kernel, by decide +kernel, by decide +kernel, by decide +kernel, by decide +kernel, by decide +kernel, by decide +kernel, by decide +kernel, by decide +kernel, by decide +kernel, by decide +kernel⟩
  · exact ⟨64, by decide +kernel, by decide +kernel, by decide +kernel, by decide +kernel, by decide +kernel, by decide +kernel, by decide +kernel, by decide +kernel, by decide +kernel, by decide +kernel, by decide +kernel, by decide +kernel⟩
  · exact ⟨9, by decide +kernel, by decide +kernel, by decide +kernel, by decide +kernel, by decide +kernel, by decide +kernel, by decide +kernel, by decide +kernel, by decide +kernel, by decide +kernel, by decide +kernel, by decide +kernel⟩
  · exact ⟨1024, by decide +kernel, by decide +kernel, by decide +kernel, by decide +kernel, by decide +kernel, by decide +kernel, by decide +kernel, by decide +kernel, by decide +kernel, by decide +kernel, by decide +kernel, by decide +kernel⟩
  · exact ⟨6, by decide +kernel, by decide +kernel, by decide +kernel, by decide +kernel, by decide +kernel, by decide +kernel, by decide +kernel, by decide +kernel, by decide +kernel, by decide +kernel, by decide +kernel, by decide +kernel⟩
  · exact ⟨134, by decide +kernel, by decide +kernel, by decide +kernel, by decide +kernel, by decide +kernel, by decide +kernel, by decide +kernel, by decide +kernel, by decide +kernel, by decide +kernel, by decide +kernel, by decide +kernel⟩
  · exact ⟨70, by decide +kernel, by decide +kernel, by decide +kernel, by decide +kernel, by decide +kernel, by decide +kernel, by decide +kernel, by decide +kernel, by decide +kernel, by decide +kernel, by decide +kernel, by decide +kernel⟩
  · exact ⟨6, by decide +kernel, by decide +kernel, by decide +kernel, by decide +kernel, by decide +kernel, by decide +kernel, by decide +kernel, by decide +kernel, by decide +kernel, by decide +kernel, by decide +kernel, by decide +kernel⟩
  · exact ⟨4, by decide +kernel, by decide +kernel, by decide +kernel, by decide +kernel, by decide +kernel, by decide +kernel, by decide +kernel, by decide +kernel, by decide +kernel, by decide +kernel, by decide +kernel, by decide +kernel⟩
theorem intC (b x lo hi : Int) (h0 : lo ≤ 0) (h1 : 0 ≤ hi) : (((!(b == 0)) && inP x lo hi) || (x == 0)) = ((x == oI b x) && inP x lo hi) := by
  unfold oI
  by_cases hx : x = 0
  · subst hx
    rw [inP_yes ⟨h0, h1⟩]
    simp
  · have e : (x == 0) = false := by simpa using hx
    by_cases hb : b = 0
    · subst hb; simp [e]
    · have hb' : (b == 0) = false := by simpa using hb
      rw [if_neg hb]; simp [e, hb']
theorem boolC (b : Int) (x : Bool) : ((!(b == 0)) || !x) = (x == oB b x) := by
  unfold oB
  by_cases hb : b = 0
  · subst hb; cases x <;> rfl
  · have hb' : (b == 0) = false := by simpa using hb
    rw [if_neg hb]; cases x <;> simp [hb']
theorem RQ.same_self (r : RQ) : r.same r = true := by simp [RQ.same]
theorem AN.same_self (r : AN) : r.same r = true := by simp [AN.same]
theorem CF.same_self (r : CF) : r.same r = true := by simp [CF.same]
theorem vEq_self : ∀ l : List VT, vEq l l = true
  | [] => rfl
  | v :: r => by simp [vEq, VT.same, CF.same_self, vEq_self r]
theorem vEq_nil (l : List VT) : vEq l [] = decide (l.length = 0) := by cases l <;> simp [vEq]
theorem partC {α : Type} (b : Int) (x z : α) (same : α → α → Bool) (ok : α → Bool) (hs : same x x = true) : (if (!(b == 0)) = true then ok x else same x z) = (same x (oV b z x) && ((b == 0) || ok x)) := by
  unfold oV
  by_cases hb : b = 0
  · subst hb; simp
  · have hb' : (b == 0) = false := by simpa using hb
    rw [if_neg hb]; simp [hs, hb']
theorem votesC (b : Int) (l : List VT) : (((!(b == 0)) && vtsOk l) || decide (l.length = 0)) = (vEq l (oV b [] l) && vtsOk l) := by
  unfold oV
  by_cases hb : b = 0
  · subst hb
    rw [if_pos rfl, vEq_nil]
    cases l with
    | nil => simp [vtsOk, vtsB]
    | cons a r => simp
  · have hb' : (b == 0) = false := by simpa using hb
    rw [if_neg hb, vEq_self, hb']
    cases l with
    | nil => simp [vtsOk, vtsB]
    | cons a r => simp
theorem bytesC (b : Int) (l : List UInt8) : (((!(b == 0)) && decide (l.length ≤ 32768)) || decide (l.length = 0)) = ((l == oV b [] l) && decide (l.length ≤ 32768)) := by
  unfold oV
  by_cases hb : b = 0
  · subst hb
    rw [if_pos rfl]
    cases l with
    | nil => simp
    | cons a r => simp
  · have hb' : (b == 0) = false := by simpa using hb
    rw [if_neg hb, hb']
    cases l with
    | nil => simp
    | cons a r => simp
theorem okD_ok (p : PK) : p.okD = p.ok := by
  by_cases hk : 1 ≤ p.kind ∧ p.kind ≤ 14
  · obtain ⟨n, h⟩ := kinds hk
    have e1 : p.numD = ((p.num == oI (bitA n 1) p.num) && inP p.num 0 9007199254740991) := by unfold PK.numD; rw [h.b1]; exact intC _ _ _ _ (by omega) (by omega)
    have e2 : p.seqD = ((p.seq == oI (bitA n 2) p.seq) && seqP p.kind p.seq) := by
      unfold PK.seqD
      rw [h.b2, intC _ _ _ _ (by unfold leastP; split <;> omega) (by omega)]
      rfl
    have e3 : p.balD = ((p.ballot == oI (bitA n 4) p.ballot) && inP p.ballot 0 9007199254740991) := by unfold PK.balD; rw [h.b3]; exact intC _ _ _ _ (by omega) (by omega)
    have e4 : ((p.kind == 8) || !p.ready) = (p.ready == oB (bitA n 8) p.ready) := by rw [h.b4]; exact boolC _ _
    have e5 : (if reqK.contains p.kind then p.req.ok else p.req.same rqZero) = (p.req.same (oV (bitA n 16) rqZero p.req) && ((bitA n 16 == 0) || p.req.ok)) := by rw [h.b5]; exact partC _ p.req rqZero RQ.same RQ.ok (RQ.same_self _)
    have e6 : (if p.kind = 2 then p.ans.ok else p.ans.same anZero) = (p.ans.same (oV (bitA n 32) anZero p.ans) && ((bitA n 32 == 0) || p.ans.ok)) := by
      rw [← partC _ p.ans anZero AN.same AN.ok (AN.same_self _), ← h.b6]
      simp only [decide_eq_true_eq]
    have e7 : (if confK2.contains p.kind then p.conf.ok else p.conf.same cfZero) = (p.conf.same (oV (bitA n 64) cfZero p.conf) && ((bitA n 64 == 0) || p.conf.ok)) := by rw [h.b7]; exact partC _ p.conf cfZero CF.same CF.ok (CF.same_self _)
    have e8 : ((decide (p.kind = 11) && vtsOk p.votes) || decide (p.votes.length = 0)) = (vEq p.votes (oV (bitA n 128) [] p.votes) && vtsOk p.votes) := by rw [h.b8]; exact votesC _ _
    have e9 : ((decide (p.kind = 6) && decide (p.bytes.length ≤ 32768)) || decide (p.bytes.length = 0)) = ((p.bytes == oV (bitA n 256) [] p.bytes) && decide (p.bytes.length ≤ 32768)) := by rw [h.b9]; exact bytesC _ _
    unfold PK.okD PK.partsD PK.headD PK.ok PK.parts
    rw [e1, e2, e3, e4, e5, e6, e7, e8, e9, h.f, h.nz, h.hd]
    unfold PK.same PK.cut
    dsimp only
    rw [show (p.kind == p.kind) = true by simp, show (p.frm == p.frm) = true by simp, show (p.dst == p.dst) = true by simp]
    simp only [Bool.true_and, Bool.not_false]
    generalize nodeP p.frm = a1
    generalize nodeP p.dst = a2
    generalize (p.num == oI (bitA n 1) p.num) = a3
    generalize inP p.num 0 9007199254740991 = a4
    generalize (p.seq == oI (bitA n 2) p.seq) = a5
    generalize seqP p.kind p.seq = a6
    generalize (p.ballot == oI (bitA n 4) p.ballot) = a7
    generalize inP p.ballot 0 9007199254740991 = a8
    generalize (p.ready == oB (bitA n 8) p.ready) = a9
    generalize p.req.same (oV (bitA n 16) rqZero p.req) = b1
    generalize (bitA n 16 == 0 || p.req.ok) = b2
    generalize p.ans.same (oV (bitA n 32) anZero p.ans) = b3
    generalize (bitA n 32 == 0 || p.ans.ok) = b4
    generalize p.conf.same (oV (bitA n 64) cfZero p.conf) = b5
    generalize (bitA n 64 == 0 || p.conf.ok) = b6
    generalize vEq p.votes (oV (bitA n 128) [] p.votes) = b7
    generalize vtsOk p.votes = b8
    generalize (p.bytes == oV (bitA n 256) [] p.bytes) = b9
    generalize decide (p.bytes.length ≤ 32768) = c1
    ac_rfl
  · have h1 : inP p.kind 1 14 = false := inP_no hk
    have h2 : (fieldsP p.kind == 0) = true := by
      unfold fieldsP
      by_cases h : 0 ≤ p.kind ∧ p.kind ≤ 14
      · rw [if_pos h]
        obtain h0 : p.kind = 0 := by omega
        rw [h0]; rfl
      · rw [if_neg h]; rfl
    unfold PK.okD PK.headD PK.ok
    rw [h1, h2]
    simp
end Go.Proofs.YthfdkonhjpdflaaGreatDoor
