/-
  NumFirst: who has met an error keeps it, and does nothing more.
-/
import Derived.Test.YtgbobdlaahcjoaaNumAgain
import Derived.Test.YtgbobdlaahcjoaaOpen
import Derived.Deep.RegionHeld3
import Derived.Deep.DeepCutAuto
import Derived.Deep.CutBlock
namespace Go.Proofs.Ytgbobdlaahcjoaa
open Go.RowKit
set_option linter.unusedVariables false

theorem WS.num_shut (s : WS) (h : s.e ≠ 0) (a b : Int) : s.num a b = s := by unfold WS.num; rw [if_neg h]
theorem WS.count_shut (s : WS) (h : s.e ≠ 0) (a : Int) : s.count a = s := by unfold WS.count; rw [if_neg h]
theorem WS.text_shut (s : WS) (h : s.e ≠ 0) (b : List UInt8) : s.text b = s := by unfold WS.text WS.raw; rw [WS.count_shut s h, if_neg h]
theorem RS.num_shut (x : Int) (h : x ≠ 0) (a : Int) : (RS.mk [] x).num a = (0, ⟨[], x⟩) := by
  unfold RS.num
  split
  · rw [if_neg (by simp [RS.took, h])]
    simp [RS.past, h]
  · simp [RS.fail, h]
theorem RS.count_shut (x : Int) (h : x ≠ 0) (a : Int) : (RS.mk [] x).count a = (0, ⟨[], x⟩) := by unfold RS.count; rw [if_neg h]
theorem RS.raw_shut (x : Int) (h : x ≠ 0) (a : Int) : (RS.mk [] x).raw a = ([], ⟨[], x⟩) := by
  unfold RS.raw
  split
  · simp [RS.fail, h]
  · simp [RS.take, RS.past, h]
theorem RS.text_shut (x : Int) (h : x ≠ 0) (a : Int) : (RS.mk [] x).text a = ([], ⟨[], x⟩) := by
  unfold RS.text; rw [RS.count_shut x h]; exact RS.raw_shut x h _

/-! a reader that has met an error answers nothing -/
theorem num0 (p g : Nat) (y a : Int) (w : World) (hy : y ≠ 0) (h : isR w p g ⟨[], y⟩) :
    Calls Try.prog 27 #[.pointer (some ⟨p, 0, none⟩), .int .i64 a] w fun e w' => e = .returned (.int .i64 0) ∧ isR w' p g ⟨[], y⟩ ∧ keepBut [p] w w' := by
  refine (num_any p g _ a w h).mono ?_
  rintro e w' ⟨rfl, h1, h2⟩
  rw [RS.num_shut y hy] at h1
  exact ⟨by rw [RS.num_shut y hy], h1, h2⟩
theorem count0 (p g : Nat) (y a : Int) (w : World) (hy : y ≠ 0) (h : isR w p g ⟨[], y⟩) :
    Calls Try.prog 29 #[.pointer (some ⟨p, 0, none⟩), .int .i64 a] w fun e w' => e = .returned (.int .i64 0) ∧ isR w' p g ⟨[], y⟩ ∧ keepBut [p] w w' := by
  refine (count_any p g _ a w h).mono ?_
  rintro e w' ⟨rfl, h1, h2⟩
  rw [RS.count_shut y hy] at h1
  exact ⟨by rw [RS.count_shut y hy], h1, h2⟩
theorem text0 (p g : Nat) (y a : Int) (w : World) (hy : y ≠ 0) (h : isR w p g ⟨[], y⟩) :
    Calls Try.prog 31 #[.pointer (some ⟨p, 0, none⟩), .int .i64 a] w fun e w' => ∃ A c, e = .returned (.slice A 0 c) ∧ isR w' p g ⟨[], y⟩ ∧ keepBut [p] w w' := by
  refine (text_any p g _ a w h (by simp)).mono ?_
  rintro e w' ⟨v, rfl, hf, h1, h2⟩
  rw [RS.text_shut y hy] at h1 hf
  obtain ⟨A, c, _, rfl, _⟩ := hf.1.seen
  exact ⟨A, c, rfl, h1, h2⟩
theorem raw0 (p g : Nat) (y a : Int) (w : World) (hy : y ≠ 0) (h : isR w p g ⟨[], y⟩) :
    Calls Try.prog 33 #[.pointer (some ⟨p, 0, none⟩), .int .i64 a] w fun e w' => ∃ A c, e = .returned (.slice A 0 c) ∧ isR w' p g ⟨[], y⟩ ∧ keepBut [p] w w' := by
  refine (raw_any p g _ a w h (by simp)).mono ?_
  rintro e w' ⟨v, rfl, hf, h1, h2⟩
  rw [RS.raw_shut y hy] at h1 hf
  obtain ⟨A, c, _, rfl, _⟩ := hf.1.seen
  exact ⟨A, c, rfl, h1, h2⟩

/-- a writer and a reader side by side -/
def duo (w0 w : World) (p : Nat) (v : Value) (s : WS) (q r : Nat) (x : RS) : Prop :=
  wrOn w0 w p v s ∧ isR w q r x ∧ w0.heap.size ≤ q ∧ q ≠ p ∧ q ∉ homes v ∧ (x.l ≠ [] → r ≠ p ∧ r ∉ homes v ∧ r < w.heap.size)
theorem duo.write {w0 w w' : World} {p q r : Nat} {v : Value} {s s' : WS} {x : RS} {e : Ending} (h : duo w0 w p v s q r x) (hp : wrPost p v s' w e w') :
    e = .returned (.pointer (some ⟨p, 0, none⟩)) ∧ ∃ v', duo w0 w' p v' s' q r x := by
  obtain ⟨h1, h2, h3, h4, h5, h6⟩ := h
  obtain ⟨he, v', hw, hk, hh⟩ := hp
  have hqlt := h2.lt
  refine ⟨he, v', ⟨hw, h1.2.1, fun y hy => ?_, h1.2.2.2.then hk (fun y hy => .inr ?_)⟩, h2.keep hk ?_ ?_, h3, h4, fun hm => ?_, fun hx => ⟨(h6 hx).1, fun hm => ?_, ?_⟩⟩
  · rcases hh y hy with h | h
    · exact h1.2.2.1 y h
    · have := h1.2.2.2.size; omega
  · rcases List.mem_cons.1 hy with rfl | hy
    · exact h1.2.1
    · exact h1.2.2.1 y hy
  · simp [h4, h5]
  · intro hx; simp [(h6 hx).1, (h6 hx).2.1]
  · rcases hh q hm with h | h
    · exact h5 h
    · omega
  · rcases hh r hm with h | h
    · exact (h6 hx).2.1 h
    · have := (h6 hx).2.2; omega
  · have := (h6 hx).2.2; have := hk.size; omega
theorem duo.read {w0 w w' : World} {p q r : Nat} {v : Value} {s : WS} {x x' : RS} (h : duo w0 w p v s q r x) (hr : isR w' q r x') (hk : keepBut [q] w w') (hl : x'.l ≠ [] → x.l ≠ []) : duo w0 w' p v s q r x' := by
  obtain ⟨h1, h2, h3, h4, h5, h6⟩ := h
  refine ⟨h1.over hk (fun y hy => ?_), hr, h3, h4, h5, fun hx => ⟨(h6 (hl hx)).1, (h6 (hl hx)).2.1, by have := (h6 (hl hx)).2.2; have := hk.size; omega⟩⟩
  have hy : y = q := by simpa using hy
  subst hy
  exact .inr ⟨h3, h4, h5⟩
theorem duo.keep {w0 w w' : World} {p q r : Nat} {v : Value} {s : WS} {x : RS} (h : duo w0 w p v s q r x) (hk : keepBut [] w w') : duo w0 w' p v s q r x := by
  obtain ⟨h1, h2, h3, h4, h5, h6⟩ := h
  exact ⟨h1.over hk (by simp), h2.keep hk (by simp) (by simp), h3, h4, h5, fun hx => ⟨(h6 hx).1, (h6 hx).2.1, by have := (h6 hx).2.2; have := hk.size; omega⟩⟩
theorem duo.old {w0 w : World} {p q r : Nat} {v : Value} {s : WS} {x : RS} (h : duo w0 w p v s q r x) : keepBut [] w0 w := h.1.2.2.2
theorem duo.start {w0 w w' : World} {p q r : Nat} {v : Value} {s : WS} {l : List UInt8} (h : wrOn w0 w p v s) (hr : isR w' q r ⟨l, 0⟩) (hq : w.heap.size ≤ q) (hg : w.heap.size ≤ r) (hk : keepBut [] w w') : duo w0 w' p v s q r ⟨l, 0⟩ := by
  have h1 := h.2.2.2.size
  have h2 := h.1.1.lt
  have h3 := h.1.2.lt
  refine ⟨h.over hk (by simp), hr, by omega, by omega, fun hm => by have := h3 _ hm; omega, fun hx => ⟨by omega, fun hm => by have := h3 _ hm; omega, ?_⟩⟩
  obtain ⟨A, c, _, _, _, hs, _⟩ := hr
  obtain ⟨o, _, hlt, _⟩ := hs hx
  exact hlt

/-- what holds behind the switch -/
def afterSwitch (w0 : World) (b : List UInt8) (p q r : Nat) (want got : Value) (w : World) : Prop :=
  ∃ (v : Value) (x y : Int), want = .int .i64 x ∧ got = .int .i64 y ∧ x ≠ 0 ∧ y ≠ 0 ∧ duo w0 w p v ⟨b, x⟩ q r ⟨[], y⟩
theorem raw_past (b : List UInt8) (n : Int) (hn : n = (b.length : Int) + 2) : ((RS.mk (b ++ [128]) 0).raw n) = ([], ⟨[], 3⟩) := by
  subst hn
  unfold RS.raw
  rw [if_neg (by omega), show ((b.length : Int) + 2).toNat = b.length + 2 by omega]
  simp [RS.take, RS.past]
theorem raw_upto (b : List UInt8) (n : Int) (hn : n = (b.length : Int)) : ((RS.mk (b ++ [128]) 0).raw n) = (b, ⟨[128], 0⟩) := by
  subst hn
  unfold RS.raw
  rw [if_neg (by omega), Int.toNat_natCast]
  simp [RS.take, RS.past]

/-- what holds at the head of each round -/
def firstRel (w0 : World) (b : List UInt8) (p q r : Nat) (want got : Int) (k : Nat) (i : Value) (wr : World) : Prop :=
  ∃ (j : Nat) (v : Value), i = .int .i64 j ∧ j ≤ k ∧ duo w0 wr p v ⟨b, want⟩ q r ⟨[], got⟩

set_option maxRecDepth 100000 in
set_option maxHeartbeats 4000000 in
theorem numFirst_law (A : Option Addr) (g c : Nat) (l : List UInt8) (a : Int) (B : Option Addr) (k n d : Nat) (xs : List Int) (w : World)
    (hs : seen w A g l) (hn : l.length ≤ c) (hc : c ≤ maxLen) (ha : (Lit.int .i64 a).wf = true) (rd : reads w B k n 1 (cellsK .i64 xs)) (hnd : n ≤ d) (hd : d ≤ maxLen) (hx : ∀ x ∈ xs, (Lit.int .i64 x).wf = true) :
    Calls Try.prog 8 #[.slice A l.length c, .int .i64 a, .slice B n d] w (yesPost w) := by
  unfold maxLen at hc hd
  obtain ⟨b, hb⟩ : ∃ b, b = l.take 60 := ⟨_, rfl⟩
  have sb : seen w A g b := by rw [hb]; exact hs.take 60
  have hlen : b.length = min 60 l.length := by rw [hb, List.length_take]
  have hb60 : b.length ≤ 60 := by omega
  obtain ⟨i0, hi0, hz0, hz1, hz2⟩ := info_parts infoU8
  have ha' := bd_i64 ha
  have HB := Lib.hid hb
  clear hb
  have cases : (b.length = l.length ∧ l.length ≤ 60) ∨ (b.length = 60 ∧ ¬ l.length ≤ 60) := by omega
  rcases cases with ⟨hl, h60⟩ | ⟨hl, h60⟩
  all_goals
    have HL := Lib.hid hl
    clear hl hlen
    go_enter Try.func8, Try.ntmps8
    go_wp2_with fail
    refine (write_any _).mono ?_; rintro e w1 ⟨p, rfl, hw1, hp1, hk1⟩
    have h1 := wrOn.start (keepBut.refl [] w) hw1 hp1 hk1; clear hw1 hp1 hk1
    go_wp2_with fail
    refine (wraw_n p _ _ A g c _ b _ HL.out h1.1 (sb.keep h1.2.2.2 (by simp)) (by simp <;> omega)).mono ?_; intro e w2 hq; obtain ⟨rfl, v2, h2⟩ := h1.step hq; clear hq h1
    rw [show (WS.mk [] 0).raw b = ⟨b, 0⟩ from by simp [WS.raw]] at h2
    go_wp2_with fail
    refine (copyBytes_n A g c _ b _ HL.out (sb.keep h2.2.2.2 (by simp)) (by omega)).mono ?_; rintro e w3 ⟨v3, rfl, ho3, hf3, hk3⟩
    go_wp2_with (at_builtin; refine wp_append _ rfl _ _ 27 rfl 5 i0 (.int .u8 0) 1 1 Try.underlying27 hi0 hz0 hz1 hz2 rfl (by decide) v3 b.length (b.map bv) (by simp [Act.eval]) (ho3.alloc _) _ _ 1 1 [bv 128] (by simp [Act.eval]) (reads_one _ _ _) (by intro u hu; simp at hu; subst hu; rfl) (by omega) (by unfold maxLen; omega) ?_; intro A4 c4 w4 ho4 hk4 hl4)
    have k24 := (hk3.alloc (.cells #[bv 128] 5)).then hk4 (fun x hx => .inr (hf3 x hx))
    have h4 := h2.over k24 (by simp)
    have ho4' : owns w4 5 1 (.slice A4 (b.length + 1) c4) (b ++ [128]).length ((b ++ [128]).map bv) := by
      rw [List.length_append, List.map_append]; exact ho4
    obtain ⟨A5, c5, g5, he5, _, _, hs5, _⟩ := ho4'.seen
    obtain ⟨rfl, _, rfl⟩ : A4 = A5 ∧ True ∧ c4 = c5 := by injection he5 with a b c; exact ⟨a, trivial, c⟩
    clear ho3 hf3 hk3 ho4 hk4 hl4 k24 h2 ho4' he5
    go_wp2_with fail
    refine (read_n A4 g5 c4 _ (b ++ [128]) _ (by simp) hs5 (by omega)).mono ?_; rintro e w5 ⟨q, r, rfl, hr5, hq5, hg5, hk5⟩
    have h5 := duo.start h4 hr5 hq5 hg5 hk5
    clear h4 hr5 hk5 hs5 hq5 hg5
    go_wp2_with fail
    refine (bring_any _ _ ha'.1 ha'.2 (by omega) (by omega) _).mono ?_; rintro e w' ⟨rfl, rfl⟩
    have cs : a % 4 = 0 ∨ a % 4 = 1 ∨ a % 4 = 2 ∨ a % 4 = 3 := by omega
    generalize a % 4 = ma at cs ⊢
    go_upto_block 0 with fail
    go_cut [9, 10] (fun want got wx => afterSwitch w b p q r want got wx)
    case first =>
      rcases cs with rfl | rfl | rfl | rfl
      · go_wp2_with fail
        refine (wnum_any _ _ _ _ _ _ h5.1.1 (by simp; omega)).mono ?_; intro e w6 hq; obtain ⟨rfl, v6, h6⟩ := h5.write hq
        rw [show (WS.mk b 0).num 1 300 = ⟨b, 9⟩ from rfl] at h6
        clear h5 hq
        go_wp2_with fail
        refine (raw_any _ _ _ _ _ h6.2.1 (by simp; omega)).mono ?_; rintro e w7 ⟨v7, rfl, _, hr7, hk7⟩
        rw [raw_past b _ (by have := HL.out; omega)] at hr7
        have h7 := h6.read hr7 hk7 (fun h => absurd rfl h)
        clear h6 hr7 hk7
        go_wp2_with fail
        go_meet
        exact ⟨v6, 9, 3, rfl, rfl, by decide, by decide, h7⟩
      · go_wp2_with fail
        refine (wnum_any _ _ _ _ _ _ h5.1.1 (by simp; omega)).mono ?_; intro e w6 hq; obtain ⟨rfl, v6, h6⟩ := h5.write hq
        rw [show (WS.mk b 0).num 5 1 = ⟨b, 2⟩ from rfl] at h6
        clear h5 hq
        go_wp2_with fail
        refine (num_any _ _ _ _ _ h6.2.1).mono ?_; rintro e w7 ⟨rfl, hr7, hk7⟩
        rw [show (RS.mk (b ++ [128]) 0).num 5 = (0, ⟨[], 2⟩) from rfl] at hr7
        have h7 := h6.read hr7 hk7 (fun h => absurd rfl h)
        clear h6 hr7 hk7
        go_wp2_with fail
        go_meet
        exact ⟨v6, 2, 2, rfl, rfl, by decide, by decide, h7⟩
      · go_wp2_with fail
        refine (wcount_any _ _ _ _ _ h5.1.1 (by simp; omega)).mono ?_; intro e w6 hq; obtain ⟨rfl, v6, h6⟩ := h5.write hq
        rw [show (WS.mk b 0).count 9007199254740992 = ⟨b, 9⟩ from rfl] at h6
        clear h5 hq
        go_wp2_with fail
        refine (raw_any _ _ _ _ _ h6.2.1 (by simp; omega)).mono ?_; rintro e w7 ⟨v7, rfl, _, hr7, hk7⟩
        rw [raw_upto b _ (by have := HL.out; omega)] at hr7
        have h7 := h6.read hr7 hk7 (fun _ => by simp)
        clear h6 hr7 hk7
        go_wp2_with fail
        refine (count_any _ _ _ _ _ h7.2.1).mono ?_; rintro e w8 ⟨rfl, hr8, hk8⟩
        rw [show (RS.mk [128] 0).count 5 = (0, ⟨[], 4⟩) from rfl] at hr8
        have h8 := h7.read hr8 hk8 (fun h => absurd rfl h)
        clear h7 hr8 hk8
        go_wp2_with fail
        go_meet
        exact ⟨v6, 9, 4, rfl, rfl, by decide, by decide, h8⟩
      · go_wp2_with fail
        refine (wnum_any _ _ _ _ _ _ h5.1.1 (by simp; omega)).mono ?_; intro e w6 hq; obtain ⟨rfl, v6, h6⟩ := h5.write hq
        rw [show (WS.mk b 0).num 8 (-1) = ⟨b, 9⟩ from rfl] at h6
        clear h5 hq
        go_wp2_with fail
        refine (raw_any _ _ _ _ _ h6.2.1 (by simp; omega)).mono ?_; rintro e w7 ⟨v7, rfl, _, hr7, hk7⟩
        rw [show (RS.mk (b ++ [128]) 0).raw (-1) = ([], ⟨[], 2⟩) from rfl] at hr7
        have h7 := h6.read hr7 hk7 (fun h => absurd rfl h)
        clear h6 hr7 hk7
        go_wp2_with fail
        go_meet
        exact ⟨v6, 9, 2, rfl, rfl, by decide, by decide, h7⟩
    case rest =>
      clear h5
      obtain ⟨v5, x, y, rfl, rfl, hx0, hy0, h5⟩ := hcut
      have hx0' := Lib.hid hx0; have hy0' := Lib.hid hy0
      clear hx0 hy0
      go_wp2_with fail
      go_loopw [11] (fun i wr => firstRel w b p q r x y n i wr) (fun i _ => n - (intOf i).toNat)
      case atStart => exact ⟨0, v5, rfl, by omega, h5⟩
      case round =>
        clear h5
        obtain ⟨j, v6, rfl, hj, h6⟩ := hrel
        by_cases hjn : j < n ∧ j < 20
        · obtain ⟨hj1, hj2⟩ := hjn
          obtain ⟨o, hB, hk, hcells⟩ := rd.2 (by omega)
          obtain ⟨z, hz⟩ : ∃ z, xs[j]? = some z := ⟨xs[j]'(by have := rd.1; simp [cellsK] at this; omega), by simp⟩
          have hcell0 := hcells j (.int .i64 z) (by simp [cellsK, hz])
          subst hB
          have hold : ∀ W, keepBut [] w W → W.cell? ⟨k, o + j, none⟩ = some (.int .i64 z) := fun W hW => (hW.cell (p := ⟨k, o + j, none⟩) hk (by simp)).trans hcell0
          have HOLD := Lib.hid hold
          have hc6 := HOLD.out _ h6.old
          have h6d := h6.keep ((keepBut.refl [] wr).drew)
          clear hcells hcell0 hold
          go_upto_region 23 with fail
          go_region_held3 (fun W => W.cell? ⟨k, o + j, none⟩ = some (.int .i64 z)) (first | go_keep)
            (first
              | (go_at_call 13; refine (wnum_any _ _ _ _ _ _ h6d.1.1 (by simp; omega)).mono ?_; intro e w7 hq; obtain ⟨rfl, v7, h7⟩ := h6d.write hq; rw [WS.num_shut _ hx0'.out] at h7; have hc7 := HOLD.out _ h7.old)
              | (go_at_call 15; refine (wcount_any _ _ _ _ _ h7.1.1 (by simp; omega)).mono ?_; intro e w8 hq8; obtain ⟨rfl, v8, h8⟩ := h7.write hq8; rw [WS.count_shut _ hx0'.out] at h8; have hc8 := HOLD.out _ h8.old)
              | (go_at_call 17; refine (wtext_n _ _ _ A g c _ b _ HL.out h8.1.1 (sb.keep h8.old (by simp)) (fun hne => by obtain ⟨_, _, hgl, _⟩ := sb hne; have := h8.1.2.1; exact ⟨by omega, fun hm => by have := h8.1.2.2.1 _ hm; omega⟩) (by simp; omega) (by omega)).mono ?_; intro e w9 hq9; obtain ⟨rfl, v9, h9⟩ := h8.write hq9; rw [WS.text_shut _ hx0'.out] at h9; have hc9 := HOLD.out _ h9.old))
          have h9d := h9.keep ((keepBut.refl [] w9).drew)
          clear hq hq8 hq9 h6 h6d h7 h8 hc6 hc7 hc8
          go_upto_region 24 with fail
          go_region_held3 (fun W => W.cell? ⟨k, o + j, none⟩ = some (.int .i64 z)) (first | go_keep)
            (first
              | (go_at_call 27; refine (num0 _ _ _ _ _ hy0'.out h9d.2.1).mono ?_; rintro e w10 ⟨rfl, hr10, hk10⟩; have h10 := h9d.read hr10 hk10 (fun h => h); have hc10 := HOLD.out _ h10.old)
              | (go_at_call 29; refine (count0 _ _ _ _ _ hy0'.out h10.2.1).mono ?_; rintro e w11 ⟨rfl, hr11, hk11⟩; have h11 := h10.read hr11 hk11 (fun h => h); have hc11 := HOLD.out _ h11.old)
              | (go_at_call 31; refine (text0 _ _ _ _ _ hy0'.out h11.2.1).mono ?_; rintro e w12 ⟨A12, c12, rfl, hr12, hk12⟩; have h12 := h11.read hr12 hk12 (fun h => h); have hc12 := HOLD.out _ h12.old)
              | (go_at_call 33; refine (raw0 _ _ _ _ _ hy0'.out h12.2.1).mono ?_; rintro e w13 ⟨A13, c13, rfl, hr13, hk13⟩; have h13 := h12.read hr13 hk13 (fun h => h); have hc13 := HOLD.out _ h13.old))
          clear hr10 hk10 hr11 hk11 hr12 hk12 hr13 hk13 h9 h9d h10 h11 h12 hc9 hc10 hc11 hc12 hc13
          go_wp2_with fail
          go_roundw
          case rel => exact ⟨j + 1, _, by go_num, by omega, h13⟩
          case measure => simp [intOf]; omega
        · have hye : (RS.mk [] y).end_ = y := by have := hy0'.out; simp [RS.end_, this]
          have hxb : (WS.mk b x).bytes = [] := by have := hx0'.out; simp [WS.bytes, this]
          have HYE := Lib.hid hye
          have HXB := Lib.hid hxb
          clear hye hxb
          have hex : (¬ j < n) ∨ (j < n ∧ ¬ j < 20) := by omega
          clear hjn
          rcases hex with hjn | ⟨hjn, hj20⟩
          all_goals
            go_wp2_with fail
            refine (wbytes_any _ _ _ _ h6.1.1 (by simp; omega)).mono ?_; rintro e w7 ⟨v7, rfl, ho7, _, hk7⟩
            rw [HXB.out] at ho7
            obtain ⟨A7, c7, g7, rfl, _⟩ := ho7.seen
            have h7 := h6.keep hk7
            clear ho7 hk7 h6
            go_wp2_with fail
            refine (err_any _ _ _ _ h7.2.1).mono ?_; rintro e w' ⟨rfl, rfl⟩
            go_wp2_with fail
            refine (end_any _ _ _ _ h7.2.1).mono ?_; rintro e w' ⟨rfl, rfl⟩
            rw [HYE.out]
            go_wp2_with fail
            refine (left_any _ _ _ _ h7.2.1).mono ?_; rintro e w' ⟨rfl, rfl⟩
            go_wp2_with fail
            refine (works_any _).mono ?_; rintro e w8 ⟨rfl, hk8⟩
            go_wp2_with fail
            go_ret
            exact ⟨rfl, h7.old.then hk8 (by simp)⟩
end Go.Proofs.Ytgbobdlaahcjoaa
