/-
  MEMCOPY: make with a size that the walk does not know, and the builtin copy, in the words of Base.
-/
import Derived.Test.YtbjonlfjfjlelaaCopies
import Derived.Laws.CopyOwn
import Derived.Deep.OwnRows
namespace Go.Proofs.Ytbjonlfjfjlelaa
open Go.RowKit
set_option linter.unusedVariables false

/-- n zero bytes, as a new row has them -/
def zeroRow (n : Nat) : Array Value := madeCells #[.int .u8 0] n
theorem zeroRow_size (n : Nat) : (zeroRow n).size = n := size_madeCells _ _
theorem zeroRow_list (n : Nat) : (zeroRow n).toList = (List.replicate n (0 : UInt8)).map bv := by
  unfold zeroRow madeCells
  simp only [Array.toList_map, Array.toList_range, List.map_replicate]
  apply List.ext_getElem (by simp)
  intro i h1 h2
  simp [bv, Nat.mod_one]
theorem zeroRow_eq (n : Nat) : zeroRow n = ((List.replicate n (0 : UInt8)).map bv).toArray := by
  rw [← zeroRow_list]
theorem make_bytes (n : Nat) (h : n ≤ 281474976710656) (w : World) :
    (Instr.makeSlice 28 (.int .i64 (n : Int)) (.int .i64 (n : Int))).run Try.prog w = .ok (.slice (some ⟨w.heap.size, 0, none⟩) n n) (w.alloc (.cells (zeroRow n) 5)) :=
  run_make_row' 28 5 (.int .u8 0) 1 Try.underlying28 infoU8 rfl .i64 .i64 n (by omega) (by omega) w

theorem run_copy {P : Program} (w : World) (dT sT ty e : TypeId) (hu : P.underlying dT = some (.slice e)) (hsz : (P.info? e).map (·.size) = some 1)
    (g off dLen dCap : Nat) (A : Option Addr) (gs c : Nat) (l : List UInt8) (cur : Array Value) (t : TypeId) (hg : rowAt w g t cur) (hsrc : seen w A gs l)
    (hn : l.length ≤ dLen) (hfit : off + l.length ≤ cur.size) :
    ∃ w', (Builtin.copy_ #[dT, sT] ty #[.slice (some ⟨g, off, none⟩) dLen dCap, .slice A l.length c]).run P w = .ok (.int .i64 (l.length : Int)) w' ∧
      rowAt w' g t (splice cur.toList off (l.map bv)).toArray ∧ keepBut [g] w w' := by
  by_cases h0 : l.length = 0
  · obtain rfl : l = [] := List.eq_nil_of_length_eq_zero h0
    have hr := run_copy_none (P := P) w dT sT ty e (some ⟨g, off, none⟩) A dLen dCap 0 c hu hsz (by simp)
    exact ⟨w, hr, by simpa [splice] using hg, keepBut.refl _ _⟩
  · obtain ⟨o, rfl, hlt, hc⟩ := hsrc (by rintro rfl; simp at h0)
    have hr := run_copy_row (P := P) w dT sT ty e g off dLen dCap ⟨gs, o, none⟩ l.length c cur t (l.map bv) hu hsz hg (by rw [List.length_map]; exact (Nat.min_eq_left hn).symm)
      (fun j v hj => by
        obtain ⟨b, hb, rfl⟩ : ∃ b, l[j]? = some b ∧ bv b = v := by simpa using hj
        rw [add_plain]; exact hc j b hb)
      (by simpa using hfit) (by intro u hu; simp at hu; obtain ⟨b, _, rfl⟩ := hu; rfl)
    rw [goInt, List.length_map] at hr
    refine ⟨_, hr, ?_, ⟨rfl, rfl, rfl, by simp [World.setRow], fun k hk hS => setRow_other w g k _ (fun e => hS (by simp [e]))⟩⟩
    have := setRow_heap w g cur (cur.toList.take off ++ l.map bv ++ cur.toList.drop (off + l.length)).toArray t _ hg
    unfold rowAt
    rw [this]
    simp [splice]

theorem wp_copy {P : Program} (w : World) {ops : Array Oper} {rest : List Oper} {o : Oper} {a : Act} {Q : Exit → Act → World → Prop} (hgd : o.guard = none) (d s : Operand) (dT sT : TypeId)
    (ho : o.op = .call { callee := .builtin .copy, args := #[d, s], argTypes := #[dT, sT] }) (e : TypeId) (hu : P.underlying dT = some (.slice e)) (hsz : (P.info? e).map (·.size) = some 1)
    (g off dLen dCap : Nat) (A : Option Addr) (gs c : Nat) (l : List UInt8) (hd : a.eval d = .slice (some ⟨g, off, none⟩) dLen dCap) (hs : a.eval s = .slice A l.length c)
    (cur : Array Value) (t : TypeId) (hg : rowAt w g t cur) (hsrc : seen w A gs l) (hn : l.length ≤ dLen) (hfit : off + l.length ≤ cur.size)
    (h : ∀ w', rowAt w' g t (splice cur.toList off (l.map bv)).toArray → keepBut [g] w w' → wpList P ops Q rest (a.put o.dst (.int .i64 (l.length : Int))) w') :
    wpList P ops Q (o :: rest) a w := by
  refine wpList_plain hgd fun K hK => ?_
  obtain ⟨w', hrun, h1, h2⟩ := run_copy (P := P) w dT sT o.type e hu hsz g off dLen dCap A gs c l cur t hg hsrc hn hfit
  unfold Oper.wp
  simp [execOp, ho, resolve, invoke, builtin, hd, hs, hrun, Result.andThen]
  exact hK _ _ (h w' h1 h2)

/-- a row that is laid over whole -/
theorem splice_whole {l : List UInt8} {L : List Value} (h : L.length = l.length) : splice L 0 (l.map bv) = l.map bv := by
  simp [splice, List.drop_eq_nil_of_le (Nat.le_of_eq h)]
theorem infoSize1 : (Try.prog.info? 5).map (·.size) = some 1 := by kernel_rfl

/-- a row of bytes, from its head on, is owned -/
theorem owns_row {w : World} {g c : Nat} {l : List UInt8} {cur : Array Value} (hr : rowAt w g 5 cur) (hc : l.length ≤ c) (hm : c ≤ maxLen) (hs : cur.size = c) (ht : cur.toList.take l.length = l.map bv) :
    owns w 5 1 (.slice (some ⟨g, 0, none⟩) l.length c) l.length (l.map bv) :=
  ⟨by simp, .inr ⟨g, c, cur, rfl, hr, hc, hm, by omega, by simpa using ht⟩⟩
theorem owns_row_all {w : World} {g : Nat} {l : List UInt8} (hr : rowAt w g 5 (l.map bv).toArray) (hm : l.length ≤ maxLen) :
    owns w 5 1 (.slice (some ⟨g, 0, none⟩) l.length l.length) l.length (l.map bv) :=
  owns_row hr (Nat.le_refl _) hm (by simp) (by simp [List.take_of_length_le])
theorem seen_row {w : World} {g : Nat} {l : List UInt8} {cur : Array Value} (hr : rowAt w g 5 cur) (ht : cur.toList.take l.length = l.map bv) : seen w (some ⟨g, 0, none⟩) g l := by
  intro hne
  refine ⟨0, rfl, hr.lt, fun j b hb => ?_⟩
  rw [hr.cell]
  have hj : (cur.toList.take l.length)[j]? = some (bv b) := by rw [ht]; simp [hb]
  rw [List.getElem?_take] at hj
  split at hj
  · simpa using hj
  · cases hj

/-- an operation whose guard holds -/
theorem wpList_wanted {P : Program} {ops : Array Oper} {rest : List Oper} {o : Oper} {a : Act} {w : World} {Q : Exit → Act → World → Prop} (hw : Region.wanted o (yielded ops a.tmps) = true)
    (h : ∀ K : Act → World → Prop, (∀ a w, wpList P ops Q rest a w → K a w) → o.wp P a w K Q) : wpList P ops Q (o :: rest) a w :=
  wpList_step fun K hK => by rw [if_pos hw]; exact h K hK
theorem wp_append_g {P : Program} (w : World) {ops : Array Oper} {rest : List Oper} {o : Oper} {a : Act} {Q : Exit → Act → World → Prop} (s x : Operand) (t : TypeId)
    (ho : o.op = .call { callee := .builtin .append, args := #[s, x], argTypes := #[t, t] })
    (e : TypeId) (i : TypeInfo) (z : Value) (sz bytes : Nat) (ht : P.underlying t = some (.slice e)) (hi : P.info? e = some i) (hz : i.zero = some z)
    (hsize : i.size = sz) (hby : i.bytes = bytes) (hzs : z.cells.size = sz) (hsz : 0 < sz)
    (v : Value) (n : Nat) (xs : List Value) (hs : a.eval s = v) (hown : owns w e sz v n xs)
    (A : Option Addr) (g m c : Nat) (news : List Value) (hx : a.eval x = .slice A m c) (hr : reads w A g m sz news) (h1 : ∀ u ∈ news, u.oneCell' = true)
    (hbytes : (n + m) * bytes ≤ 140737488355328) (hlen : n + m ≤ maxLen)
    (h : ∀ A' c' w', owns w' e sz (.slice A' (n + m) c') (n + m) (xs ++ news) → keepBut (homes v) w w' → (∀ x ∈ homes (.slice A' (n + m) c'), x ∈ homes v ∨ w.heap.size ≤ x) → wpList P ops Q rest (a.put o.dst (.slice A' (n + m) c')) w')
    (hw : Region.wanted o (yielded ops a.tmps) = true) : wpList P ops Q (o :: rest) a w :=
  wpList_wanted hw fun K hK => by
    obtain ⟨v', w', hr2, h2, h3, h4⟩ := run_append (P := P) w t o.type e i z sz bytes ht hi hz hsize hby hzs hsz v n xs hown A g m c news hr h1 hbytes hlen
    unfold Oper.wp execOp
    simp only [ho, resolve, invoke, builtin, Sem.run_bind, Sem.run_pure, Result.andThen_ok, List.map_toArray, List.map_cons, List.map_nil, hs, hx, hr2]
    obtain ⟨A', c', rfl, _⟩ := h2.form
    exact hK _ _ (h A' c' w' h2 h3 (fun x hx => (homes_after h4 hx).imp id (by omega)))
end Go.Proofs.Ytbjonlfjfjlelaa
