/-
  LEAD, 3: what a leader is in memory; none, isMaster, add, copied.
-/
import Derived.Test.YtbjonlfjfjlelaaLeadCount2
import Derived.Test.YtbjonlfjfjlelaaIntMap
import Derived.Test.YtbjonlfjfjlelaaOpen
import Derived.Test.YtbjonlfjfjlelaaCopies
import Derived.Laws.EntriesVeiled
import Derived.Outline
import Derived.BigRegion
import Derived.Deep.RegionLaw
import Derived.Deep.DeepCutAuto
namespace Go.Proofs.Ytbjonlfjfjlelaa
open Go.RowKit
set_option linter.unusedVariables false
set_option maxRecDepth 100000

structure CS where
  num : Int
  full : Int
  chain : List Int
structure VS where
  bal : Int
  c : CS
structure LS where
  id : Int
  ph : Int
  bal : Int
  frm : Int
  prom : Nat
  bound : List (Int × VS)
  pend : Bool
  prop : CS
  acc : Nat

/-- the value v is a slice that reads as the numbers l, in the blocks F -/
def held (w : World) (F : List Nat) (v : Value) (l : List Int) : Prop :=
  ∃ (A : Option Addr) (c g : Nat), v = .slice A l.length c ∧ l.length ≤ c ∧ c ≤ maxLen ∧ l.length ≤ 1000000 ∧ reads w A g l.length 1 (cellsK .i64 l) ∧ (l ≠ [] → g ∈ F)
theorem reads.keep {S : List Nat} {w w' : World} {A : Option Addr} {g n sz : Nat} {xs : List Value} (h : reads w A g n sz xs) (hk : keepBut S w w') (hg : 0 < n → g ∉ S) : reads w' A g n sz xs := by
  refine ⟨h.1, fun hn => ?_⟩
  obtain ⟨o, hA, hlt, hc⟩ := h.2 hn
  exact ⟨o, hA, Nat.lt_of_lt_of_le hlt hk.size, fun j u hu => (hk.cell (p := ⟨g, o + j, none⟩) hlt (hg hn)).trans (hc j u hu)⟩
theorem held.keep {S F : List Nat} {w w' : World} {v : Value} {l : List Int} (h : held w F v l) (hk : keepBut S w w') (hS : ∀ y ∈ F, y ∉ S) : held w' F v l := by
  obtain ⟨A, c, g, h1, h2, h3, h4, h5, h6⟩ := h
  exact ⟨A, c, g, h1, h2, h3, h4, h5.keep hk (fun hn => hS g (h6 (by rintro rfl; simp at hn))), h6⟩
theorem held.more {F G : List Nat} {w : World} {v : Value} {l : List Int} (h : held w F v l) (hF : ∀ y ∈ F, y ∈ G) : held w G v l := by
  obtain ⟨A, c, g, h1, h2, h3, h4, h5, h6⟩ := h
  exact ⟨A, c, g, h1, h2, h3, h4, h5, fun hl => hF g (h6 hl)⟩
theorem held.nil (w : World) (F : List Nat) : held w F (.slice none 0 0) [] := ⟨none, 0, 0, rfl, by simp, by simp [maxLen], by simp, ⟨rfl, fun h => absurd h (by simp)⟩, fun h => absurd rfl h⟩

def voteV (w : World) (F : List Nat) (v : Value) (d : VS) : Prop := ∃ cv, v = .agg #[.int .i64 d.bal, .int .i64 d.c.num, .int .i64 d.c.full, cv] ∧ held w F cv d.c.chain
def entsOk (w : World) (F : List Nat) : List (Int × Value) → List (Int × VS) → Prop
  | [], [] => True
  | (k, v) :: r, (k', d) :: r' => k = k' ∧ voteV w F v d ∧ entsOk w F r r'
  | _, _ => False
def findV : List (Int × VS) → Int → Option VS
  | [], _ => none
  | p :: r, k => if p.1 = k then some p.2 else findV r k
def putV : List (Int × VS) → Int → VS → List (Int × VS)
  | [], k, v => [(k, v)]
  | p :: r, k, v => if p.1 = k then (k, v) :: r else p :: putV r k v

theorem entsOk.keep {S F : List Nat} {w w' : World} (hk : keepBut S w w') (hS : ∀ y ∈ F, y ∉ S) : ∀ {a : List (Int × Value)} {b : List (Int × VS)}, entsOk w F a b → entsOk w' F a b
  | [], [], _ => trivial
  | [], _ :: _, h => h.elim
  | _ :: _, [], h => h.elim
  | (k, v) :: r, (k', d) :: r', ⟨h1, ⟨cv, h2, h3⟩, h4⟩ => ⟨h1, ⟨cv, h2, h3.keep hk hS⟩, entsOk.keep hk hS h4⟩
theorem entsOk.more {F G : List Nat} {w : World} (hF : ∀ y ∈ F, y ∈ G) : ∀ {a : List (Int × Value)} {b : List (Int × VS)}, entsOk w F a b → entsOk w G a b
  | [], [], _ => trivial
  | [], _ :: _, h => h.elim
  | _ :: _, [], h => h.elim
  | (k, v) :: r, (k', d) :: r', ⟨h1, ⟨cv, h2, h3⟩, h4⟩ => ⟨h1, ⟨cv, h2, h3.more hF⟩, entsOk.more hF h4⟩
theorem entsOk.find {F : List Nat} {w : World} (k : Int) : ∀ {a : List (Int × Value)} {b : List (Int × VS)}, entsOk w F a b →
    (findI a k = none ∧ findV b k = none) ∨ (∃ v d, findI a k = some v ∧ findV b k = some d ∧ voteV w F v d)
  | [], [], _ => .inl ⟨rfl, rfl⟩
  | [], _ :: _, h => h.elim
  | _ :: _, [], h => h.elim
  | (k', v) :: r, (k'', d) :: r', ⟨h1, h2, h4⟩ => by
    subst h1
    by_cases hk : k' = k
    · exact .inr ⟨v, d, by simp [findI, hk], by simp [findV, hk], h2⟩
    · rcases entsOk.find k h4 with ⟨e1, e2⟩ | ⟨v', d', e1, e2, e3⟩
      · exact .inl ⟨by simp [findI, hk, e1], by simp [findV, hk, e2]⟩
      · exact .inr ⟨v', d', by simp [findI, hk, e1], by simp [findV, hk, e2], e3⟩
theorem entsOk.put {F : List Nat} {w : World} (k : Int) {v : Value} {d : VS} (hv : voteV w F v d) : ∀ {a : List (Int × Value)} {b : List (Int × VS)}, entsOk w F a b → entsOk w F (putI a k v) (putV b k d)
  | [], [], _ => ⟨rfl, hv, trivial⟩
  | [], _ :: _, h => h.elim
  | _ :: _, [], h => h.elim
  | (k', u) :: r, (k'', e) :: r', ⟨h1, h2, h4⟩ => by
    subst h1
    by_cases hk : k' = k
    · simp only [putI, putV, hk, if_pos]; exact ⟨rfl, hv, h4⟩
    · simp only [putI, putV, hk, if_neg, not_false_eq_true]; exact ⟨rfl, h2, entsOk.put k hv h4⟩

/-- the row of a leader -/
def rowL (s : LS) (g : Nat) (cv : Value) : Array Value :=
  #[.bool true, .int .i64 s.id, .int .i64 s.ph, .int .i64 s.bal, .int .i64 s.frm, .int .u8 (s.prom : Int), .map (some g), .bool s.pend, .int .i64 s.prop.num, .int .i64 s.prop.full, cv, .int .u8 (s.acc : Int)]
/-- block p is the leader s; what hangs on it lies in the blocks F -/
def isL (w : World) (p : Nat) (F : List Nat) (s : LS) : Prop :=
  ∃ (g : Nat) (cv : Value) (ents : List (Int × Value)) (C : List Nat),
    rowAt w p 99 (rowL s g cv) ∧
    mapAt w g ents ∧ entsOk w C ents s.bound ∧ held w C cv s.prop.chain ∧ p ∈ F ∧ g ∈ F ∧ (∀ y ∈ C, y ∈ F) ∧ p ∉ C ∧ g ∉ C ∧ ∀ y ∈ F, y < w.heap.size
structure LS.ok (s : LS) : Prop where
  i0 : 0 ≤ s.id
  i1 : s.id < 3
  b0 : 0 ≤ s.bal
  b1 : s.bal ≤ 9007199254750000
  p7 : s.prom ≤ 7
  a7 : s.acc ≤ 7

theorem isL.keep {S : List Nat} {w w' : World} {p : Nat} {F : List Nat} {s : LS} (h : isL w p F s) (hk : keepBut S w w') (hS : ∀ y ∈ F, y ∉ S) : isL w' p F s := by
  obtain ⟨g, cv, ents, C, h1, h2, h3, h4, h5, h6, h7, h8, h9, h10⟩ := h
  have hC : ∀ y ∈ C, y ∉ S := fun y hy => hS y (h7 y hy)
  exact ⟨g, cv, ents, C, hk.row h1 (hS _ h5), h2.keep hk (hS _ h6), entsOk.keep hk hC h3, h4.keep hk hC, h5, h6, h7, h8, h9, fun y hy => Nat.lt_of_lt_of_le (h10 y hy) hk.size⟩
/-- the leader's own cells are turned -/
theorem isL.poke {w w' : World} {p : Nat} {F : List Nat} {s s' : LS} (h : isL w p F s) (hk : keepBut [p] w w') (hb : s'.bound = s.bound)
    (hr : ∀ g cv, rowAt w p 99 (rowL s g cv) → ∃ cv', rowAt w' p 99 (rowL s' g cv') ∧ ((cv' = cv ∧ s'.prop.chain = s.prop.chain) ∨ (cv' = .slice none 0 0 ∧ s'.prop.chain = []))) : isL w' p F s' := by
  obtain ⟨g, cv, ents, C, h1, h2, h3, h4, h5, h6, h7, h8, h9, h10⟩ := h
  obtain ⟨cv', r1, r2⟩ := hr g cv h1
  have hC : ∀ y ∈ C, y ∉ [p] := fun y hy hm => h8 (by rw [← List.mem_singleton.1 hm]; exact hy)
  have hg : g ∉ [p] := fun hm => h2.apart h1 (List.mem_singleton.1 hm)
  refine ⟨g, cv', ents, C, r1, h2.keep hk hg, by rw [hb]; exact entsOk.keep hk hC h3, ?_, h5, h6, h7, h8, h9, fun y hy => Nat.lt_of_lt_of_le (h10 y hy) hk.size⟩
  rcases r2 with ⟨rfl, e⟩ | ⟨rfl, e⟩
  · rw [e]; exact h4.keep hk hC
  · rw [e]; exact held.nil _ _
theorem isL.over {w w' : World} {p : Nat} {F : List Nat} {s : LS} (h : isL w p F s) (hk : keepBut [] w w') : isL w' p F s := h.keep hk (by simp)

/-- what is left of a call: a leader, and nothing else turned -/
def lPost (p : Nat) (F : List Nat) (s' : LS) (w w' : World) : Prop := ∃ F', isL w' p F' s' ∧ keepBut F w w' ∧ ∀ y ∈ F', y ∈ F ∨ w.heap.size ≤ y

set_option maxHeartbeats 400000 in
theorem noneL_any (p : Nat) (F : List Nat) (s : LS) (w : World) (h : isL w p F s) :
    Calls Try.prog 72 #[.pointer (some ⟨p, 0, none⟩)] w fun e w' => e = .returned (.bool false) ∧ w = w' := by
  obtain ⟨g, cv, ents, C, h1, h2⟩ := h
  have hc0 : w.cell? ⟨p, 0, none⟩ = some (.bool true) := h1.cell 0
  clear h1 h2
  go_enter Try.func72, Try.ntmps72
  go_wp2
  go_ret
  exact ⟨rfl, rfl⟩
set_option maxHeartbeats 400000 in
theorem isMaster_yes (n : Int) (w : World) (h0 : 0 ≤ n) (h1 : n < 3) :
    Calls Try.prog 63 #[.int .i64 n] w fun e w' => e = .returned (.bool true) ∧ w = w' := by
  go_enter Try.func63, Try.ntmps63
  go_wp2
  go_ret
  exact ⟨rfl, rfl⟩
set_option maxHeartbeats 400000 in
theorem isMaster_no (n : Int) (w : World) (h : n < 0 ∨ 3 ≤ n) :
    Calls Try.prog 63 #[.int .i64 n] w fun e w' => e = .returned (.bool false) ∧ w = w' := by
  rcases h with h | h
  · have h' : ¬ 0 ≤ n := by omega
    go_enter Try.func63, Try.ntmps63
    go_wp2
    go_ret
    exact ⟨rfl, rfl⟩
  · have h' : 0 ≤ n := by omega
    have h2 : ¬ n < 3 := by omega
    go_enter Try.func63, Try.ntmps63
    go_wp2
    go_ret
    exact ⟨rfl, rfl⟩

/-- a set and one more -/
def orB (b n : Nat) : Nat := b ||| 2 ^ n
theorem orB_le : ∀ b : Nat, b ≤ 7 → ∀ n : Nat, n < 3 → orB b n ≤ 7 := by decide
theorem bits_or : ∀ n : Nat, n < 3 → ∀ b : Nat, b ≤ 7 → bits .or .u8 (b : Int) ((2 ^ n : Nat) : Int) = (orB b n : Int) := by decide
def addPost (S o : Nat) (v : Int) (w : World) (e : Ending) (w' : World) : Prop := e = .returned (.tuple #[]) ∧ w' = (w.setCell ⟨S, o, none⟩ (.int .u8 v)).drew

set_option maxHeartbeats 1000000 in
theorem add_any (S o b n : Nat) (hb : b ≤ 7) (hn : n < 3) (w : World) (hS : w.cell? ⟨S, o, none⟩ = some (.int .u8 (b : Int))) (hf : w.frozen? ⟨S, o, none⟩ = false) :
    Calls Try.prog 76 #[.pointer (some ⟨S, o, none⟩), .int .i64 (n : Int)] w (addPost S o (orB b n) w) := by
  have hn' : n = 0 ∨ n = 1 ∨ n = 2 := by omega
  have hbt := bits_or n hn b hb
  rcases hn' with rfl | rfl | rfl
  · have hbt' : bits .or .u8 (b : Int) 1 = (orB b 0 : Int) := hbt
    clear hbt
    go_enter Try.func76, Try.ntmps76
    go_region
    go_wp2
    go_end0
    exact ⟨rfl, rfl⟩
  · have hbt' : bits .or .u8 (b : Int) 2 = (orB b 1 : Int) := hbt
    clear hbt
    go_enter Try.func76, Try.ntmps76
    go_region
    go_wp2
    go_end0
    exact ⟨rfl, rfl⟩
  · have hbt' : bits .or .u8 (b : Int) 4 = (orB b 2 : Int) := hbt
    clear hbt
    go_enter Try.func76, Try.ntmps76
    go_region
    go_wp2
    go_end0
    exact ⟨rfl, rfl⟩

/-- a copy of numbers in memory of its own -/
def heldNew (l : List Int) (w : World) (v : Value) (w' : World) : Prop := ∃ G, held w' G v l ∧ (∀ y ∈ G, w.heap.size ≤ y ∧ y < w'.heap.size) ∧ keepBut [] w w'
def clonePost (l : List Int) (w : World) (e : Ending) (w' : World) : Prop := ∃ v, e = .returned v ∧ heldNew l w v w'
theorem infoInt : (Try.prog.info? 3).map (fun i => (i.zero, i.size, i.bytes)) = some (some (.int .i64 0), 1, 8) := by kernel_rfl

theorem run_equalIn_sl {P : Program} (w : World) (n : Nat) {t e : TypeId} (ht : P.underlying t = some (.slice e)) (A : Option Addr) (l c : Nat) :
    (Op.equalIn (n + 1) t (.slice A l c) (.slice none 0 0)).run P w = .ok A.isNone w := by
  cases A <;> simp [Op.equalIn, run_underlying ht]
theorem run_eql_sl {P : Program} (w : World) {t e : TypeId} (ht : P.underlying t = some (.slice e)) (A : Option Addr) (l c : Nat) :
    (binOp .eql t (.slice A l c) (.slice none 0 0)).run P w = .ok (.bool A.isNone) w := by
  simp only [binOp]
  simp [Op.equal, Op.maxDepth, run_equalIn_sl w 9999 ht]

set_option maxHeartbeats 1000000 in
theorem clone_any (F : List Nat) (v : Value) (l : List Int) (w : World) (h : held w F v l) :
    Calls Try.prog 85 #[v] w (clonePost l w) := by
  obtain ⟨A, c, g, rfl, h2, h3, h4, h5, h6⟩ := h
  obtain ⟨i0, hi0, hz0, hz1, hz2⟩ := info_parts infoInt
  cases A with
  | none =>
    have hl : l = [] := by
      cases l with
      | nil => rfl
      | cons x r => obtain ⟨o, ho, _⟩ := h5.2 (by simp); cases ho
    subst hl
    have hq := run_eql_sl (P := Try.prog) w Try.underlying53 none 0 c
    simp only [Option.isNone_none] at hq
    simp only [List.length_nil]
    go_enter Try.func85, Try.ntmps85
    go_wp2
    go_ret
    exact ⟨_, rfl, [], held.nil _ _, by simp, keepBut.refl _ _⟩
  | some a =>
    have h7 := h5.keep ((keepBut.refl [] w).alloc (.cells #[] 3)) (by simp)
    have ho : owns (w.alloc (.cells #[] 3)) 3 1 (.slice (some ⟨w.heap.size, 0, none⟩) 0 0) 0 [] := ⟨rfl, .inr ⟨w.heap.size, 0, #[], rfl, rowAt.new _ _ _, by omega, by simp [maxLen], rfl, rfl⟩⟩
    have H := Lib.hid (And.intro h7 (And.intro ho ((keepBut.refl [] w).alloc (.cells #[] 3))))
    have hq := run_eql_sl (P := Try.prog) w Try.underlying53 (some a) l.length c
    simp only [Option.isNone_some] at hq
    clear h5 h6 h7 ho h3
    go_enter Try.func85, Try.ntmps85
    go_wp2_with (at_builtin; refine wp_append _ rfl _ _ 53 rfl 3 i0 (.int .i64 0) 1 8 Try.underlying53 hi0 hz0 hz1 hz2 rfl (by decide) (.slice (some ⟨w.heap.size, 0, none⟩) 0 0) 0 [] rfl H.out.2.1 (some a) g l.length c _ (by simp [Act.eval]) H.out.1 (by intro u hu; simp [cellsK] at hu; obtain ⟨b, _, rfl⟩ := hu; rfl) (by omega) (by unfold maxLen; omega) ?_; intro A2 c2 w2 hown2 hkb2 hloc2)
    go_ret
    have hkk := H.out.2.2.then hkb2 (by simp [homes_some])
    simp only [Nat.zero_add, List.nil_append] at hown2 hloc2 ⊢
    obtain ⟨A3, c3, e3, h31, h32, h33, h34⟩ := hown2.form
    injection e3 with e3a e3b e3c
    subst e3a e3c
    obtain ⟨g3, hg3⟩ := homes_one (.slice A2 l.length c2)
    refine ⟨_, rfl, homes (.slice A2 l.length c2), ⟨A2, c2, g3, rfl, h31, h32, h4, h34 g3 hg3, fun hne => ?_⟩, fun y hy => ⟨?_, h33 y hy⟩, hkk⟩
    · obtain ⟨o, hA, _⟩ := (h34 g3 hg3).2 (List.length_pos_iff.2 hne)
      rw [hA]; simp [homes_some]
    · rcases hloc2 y hy with h | h
      · simp [homes_some] at h; omega
      · simp at h; omega

def confV (c : CS) (cv : Value) : Value := .agg #[.int .i64 c.num, .int .i64 c.full, cv]
def confPost (c : CS) (w : World) (e : Ending) (w' : World) : Prop := ∃ cv, e = .returned (confV c cv) ∧ heldNew c.chain w cv w'

set_option maxHeartbeats 1000000 in
theorem copiedL_any (F : List Nat) (c : CS) (cv : Value) (w : World) (h : held w F cv c.chain) :
    Calls Try.prog 73 #[confV c cv] w (confPost c w) := by
  unfold confV
  have hr0 := rowAt.new w 55 #[.int .i64 c.num, .int .i64 c.full, cv]
  have hr1 := rowAt.new (w.alloc (.cells #[.int .i64 c.num, .int .i64 c.full, cv] 55)) 55 #[.int .i64 0, .int .i64 0, .slice none 0 0]
  have hk0 := (keepBut.refl [] w).alloc (.cells #[.int .i64 c.num, .int .i64 c.full, cv] 55)
  have hk1 := (keepBut.refl [] (w.alloc (.cells #[.int .i64 c.num, .int .i64 c.full, cv] 55))).alloc (.cells #[.int .i64 0, .int .i64 0, .slice none 0 0] 55)
  have hr0' := hk1.row hr0 (by simp)
  have h' := (h.keep hk0 (by simp)).keep hk1 (by simp)
  have hk := hk0.then hk1 (by simp)
  rw [World.size_alloc] at hr1
  obtain ⟨A, cc, g, rfl, h2⟩ := h
  generalize hW : (w.alloc (.cells #[.int .i64 c.num, .int .i64 c.full, .slice A c.chain.length cc] 55)).alloc (.cells #[.int .i64 0, .int .i64 0, .slice none 0 0] 55) = w1 at *
  have c2 : w1.cell? ⟨w.heap.size, 2, none⟩ = some (.slice A c.chain.length cc) := hr0'.cell 2
  have H := Lib.hid (And.intro hr0' (And.intro hr1 (And.intro h' hk)))
  have HW := Lib.hid hW
  clear hr0 hr1 hk0 hk1 hr0' h' hk hW h2
  go_enter Try.func73, Try.ntmps73
  go_upto_region 1 with fail
  rw [HW.out]
  go_wp2_with fail
  refine (clone_any F _ _ _ H.out.2.2.1).mono ?_; rintro e w2 ⟨v, rfl, G, ⟨A2, n2, g2, rfl, i2, i3, i4, i5, i6⟩, hG, hk2⟩
  have r0 := hk2.row H.out.1 (by simp)
  have r1 := hk2.row H.out.2.1 (by simp)
  have a0 : w2.cell? ⟨w.heap.size, 0, none⟩ = some (.int .i64 c.num) := r0.cell 0
  have a1 : w2.cell? ⟨w.heap.size, 1, none⟩ = some (.int .i64 c.full) := r0.cell 1
  have a2 : w2.cell? ⟨w.heap.size, 2, none⟩ = some (.slice A c.chain.length cc) := r0.cell 2
  have f2 : w2.frozen? ⟨w.heap.size, 2, none⟩ = false := r0.free 2
  have b0 : w2.cell? ⟨w.heap.size + 1, 0, none⟩ = some (.int .i64 0) := r1.cell 0
  have b1 : w2.cell? ⟨w.heap.size + 1, 1, none⟩ = some (.int .i64 0) := r1.cell 1
  have b2 : w2.cell? ⟨w.heap.size + 1, 2, none⟩ = some (.slice none 0 0) := r1.cell 2
  have e0 : w2.frozen? ⟨w.heap.size + 1, 0, none⟩ = false := r1.free 0
  have e1 : w2.frozen? ⟨w.heap.size + 1, 1, none⟩ = false := r1.free 1
  have e2 : w2.frozen? ⟨w.heap.size + 1, 2, none⟩ = false := r1.free 2
  have hgg := H.out.1.lt
  have H2 := Lib.hid (And.intro hG (And.intro hk2 (And.intro i2 (And.intro i3 (And.intro i4 (And.intro i5 i6))))))
  clear r0 r1 hG hk2 i2 i3 i4 i5 i6 c2 hgg
  go_wp2
  refine bodyPost_ret (v := .agg #[.int .i64 c.num, .int .i64 c.full, .slice A2 c.chain.length n2]) (by simp [results, Try.results73, go_sem, *]) rfl ?_
  obtain ⟨hG, hk2, i2, i3, i4, i5, i6⟩ := H2.out
  have hs1 := H.out.2.1.lt
  have k4 := ((((keepBut.refl [w.heap.size, w.heap.size + 1] w2).setCell ⟨w.heap.size, 2, none⟩ (.slice A2 c.chain.length n2) (by simp)).setCell ⟨w.heap.size + 1, 0, none⟩ (.int .i64 c.num) (by simp)).setCell ⟨w.heap.size + 1, 1, none⟩ (.int .i64 c.full) (by simp)).setCell ⟨w.heap.size + 1, 2, none⟩ (.slice A2 c.chain.length n2) (by simp)
  have hh : held w2 G (.slice A2 c.chain.length n2) c.chain := ⟨A2, n2, g2, rfl, i2, i3, i4, i5, i6⟩
  have hkk := (H.out.2.2.2.then hk2 (by simp)).then k4 (by simp)
  refine ⟨_, rfl, G, hh.keep k4 (fun y hy => ?_), fun y hy => ⟨?_, Nat.lt_of_lt_of_le (hG y hy).2 k4.size⟩, hkk⟩
  · have := (hG y hy).1; simp; omega
  · have := (hG y hy).1; omega
end Go.Proofs.Ytbjonlfjfjlelaa
