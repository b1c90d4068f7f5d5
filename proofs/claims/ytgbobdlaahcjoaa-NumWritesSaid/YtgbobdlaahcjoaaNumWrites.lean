/-
  NumWrites: what the writer has, thing by thing, is what the document's writer has.
-/
import Derived.Test.YtgbobdlaahcjoaaNumReads
import Derived.Test.YtgbobdlaahcjoaaRefWrite
namespace Go.Proofs.Ytgbobdlaahcjoaa
open Go.RowKit
set_option linter.unusedVariables false

/-- the two writers, side by side -/
def duoW (w0 w : World) (p : Nat) (v : Value) (s : WS) (q : Nat) (u : Value) (z : WS) : Prop :=
  isWr w p v s ∧ isWr2 w q u z ∧ w0.heap.size ≤ p ∧ w0.heap.size ≤ q ∧ (∀ y ∈ homes v, w0.heap.size ≤ y ∧ y ∉ homes u) ∧ (∀ y ∈ homes u, w0.heap.size ≤ y) ∧ keepBut [] w0 w
theorem duoW.ne {w0 w : World} {p q : Nat} {v u : Value} {s z : WS} (d : duoW w0 w p v s q u z) : p ≠ q ∧ p ∉ homes u ∧ q ∉ homes v :=
  ⟨d.1.1.apart d.2.1.1 (by decide), d.2.1.2.apart d.1.1 (by decide), d.1.2.apart d.2.1.1 (by decide)⟩
theorem duoW.lt {w0 w : World} {p q : Nat} {v u : Value} {s z : WS} (d : duoW w0 w p v s q u z) : p < w.heap.size ∧ q < w.heap.size ∧ (∀ y ∈ homes v, y < w.heap.size) ∧ ∀ y ∈ homes u, y < w.heap.size :=
  ⟨d.1.1.lt, d.2.1.1.lt, d.1.2.lt, d.2.1.2.lt⟩
theorem duoW.old {w0 w : World} {p q : Nat} {v u : Value} {s z : WS} (d : duoW w0 w p v s q u z) : keepBut [] w0 w := d.2.2.2.2.2.2
theorem duoW.over {S : List Nat} {w0 w w' : World} {p q : Nat} {v u : Value} {s z : WS} (d : duoW w0 w p v s q u z) (hk : keepBut S w w') (hS : ∀ y ∈ S, w0.heap.size ≤ y ∧ y ≠ p ∧ y ≠ q ∧ y ∉ homes v ∧ y ∉ homes u) : duoW w0 w' p v s q u z := by
  obtain ⟨d1, d2, d3, d4, d5, d6, d7⟩ := d
  exact ⟨d1.keep hk (fun hm => (hS _ hm).2.1 rfl) (fun y hy hm => (hS _ hm).2.2.2.1 hy), d2.keep hk (fun hm => (hS _ hm).2.2.1 rfl) (fun y hy hm => (hS _ hm).2.2.2.2 hy), d3, d4, d5, d6, d7.then hk (fun y hy => .inr (hS y hy).1)⟩
theorem duoW.keep {w0 w w' : World} {p q : Nat} {v u : Value} {s z : WS} (d : duoW w0 w p v s q u z) (hk : keepBut [] w w') : duoW w0 w' p v s q u z := d.over hk (by simp)
theorem duoW.fresh {S : List Nat} {w0 wb w w' : World} {p q : Nat} {v u : Value} {s z s' z' : WS} (b : duoW w0 wb p v s q u z) (d : duoW w0 w p v s' q u z') (hk : keepBut S w w') (hS : ∀ y ∈ S, wb.heap.size ≤ y) : duoW w0 w' p v s' q u z' := by
  obtain ⟨b1, b2, b3, b4⟩ := b.lt
  have b0 := b.old.size
  refine d.over hk (fun y hy => ?_)
  have := hS y hy
  exact ⟨by omega, by omega, by omega, fun hm => by have := b3 y hm; omega, fun hm => by have := b4 y hm; omega⟩
/-- behind the program's writer, the document's writer stands where it stood -/
theorem duoW.mid {w0 w w1 : World} {p q : Nat} {v u : Value} {s z s' : WS} {e : Ending} (d : duoW w0 w p v s q u z) (h : wrPost p v s' w e w1) : isWr2 w1 q u z ∧ keepBut [] w0 w1 := by
  obtain ⟨n1, n2, n3⟩ := d.ne
  obtain ⟨d1, d2, d3, d4, d5, d6, d7⟩ := d
  obtain ⟨_, v', hw, hk, hh⟩ := h
  refine ⟨d2.keep hk (by simp [n3, Ne.symm n1]) (fun y hy hm => ?_), d7.then hk (fun y hy => .inr ?_)⟩
  · rcases List.mem_cons.1 hm with rfl | hm
    · exact n2 hy
    · exact (d5 y hm).2 hy
  · rcases List.mem_cons.1 hy with rfl | hy
    · exact d3
    · exact (d5 y hy).1
theorem duoW.two {H : List Nat} {w0 w w1 w2 : World} {p q : Nat} {v u : Value} {s z s' z' : WS} {e e2 : Ending} (d : duoW w0 w p v s q u z) (h : wrPost p v s' w e w1) (h2 : wrPost2 q u z' w1 e2 w2)
    (hH : ∀ y ∈ H, y < w.heap.size ∧ y ≠ p ∧ y ≠ q ∧ y ∉ homes v ∧ y ∉ homes u) :
    ∃ v' u', duoW w0 w2 p v' s' q u' z' ∧ (∀ y ∈ H, y ≠ p ∧ y ≠ q ∧ y ∉ homes v' ∧ y ∉ homes u') ∧ keepBut (p :: homes v ++ q :: homes u) w w2 := by
  have hm := d.mid h
  obtain ⟨n1, n2, n3⟩ := d.ne
  obtain ⟨l1, l2, l3, l4⟩ := d.lt
  obtain ⟨d1, d2, d3, d4, d5, d6, d7⟩ := d
  obtain ⟨_, v', hw, hk, hh⟩ := h
  obtain ⟨_, u', hw2, hk2, hh2⟩ := h2
  have k0 := d7.size
  have k1 := hk.size
  have k2 := hk2.size
  have m1 : ∀ y, y < w.heap.size → y ∉ homes v → y ∉ homes v' := fun y hy h0 hx => by
    rcases hh y hx with h3 | h3
    · exact h0 h3
    · omega
  have m2 : ∀ y, y < w1.heap.size → y ∉ homes u → y ∉ homes u' := fun y hy h0 hx => by
    rcases hh2 y hx with h3 | h3
    · exact h0 h3
    · omega
  have vu : ∀ y ∈ homes v', y ∉ homes u := fun y hy hx => by
    rcases hh y hy with h3 | h3
    · exact (d5 y h3).2 hx
    · have := l4 y hx; omega
  have vlt := hw.2.lt
  refine ⟨v', u', ⟨hw.keep hk2 ?_ ?_, hw2, d3, d4, fun y hy => ⟨?_, m2 y (vlt y hy) (vu y hy)⟩, fun y hy => ?_, hm.2.then hk2 (fun y hy => .inr ?_)⟩,
    fun y hy => ⟨(hH y hy).2.1, (hH y hy).2.2.1, m1 y (hH y hy).1 (hH y hy).2.2.2.1, m2 y (by have := (hH y hy).1; omega) (hH y hy).2.2.2.2⟩,
    (hk.more (T := p :: homes v ++ q :: homes u) (fun y hy => List.mem_append_left _ hy)).then hk2 (fun y hy => .inl (List.mem_append_right _ hy))⟩
  · simp [n1, n2]
  · intro y hy hx
    rcases List.mem_cons.1 hx with rfl | hx
    · exact m1 y l2 n3 hy
    · exact vu y hy hx
  · rcases hh y hy with h3 | h3
    · exact (d5 y h3).1
    · omega
  · rcases hh2 y hy with h3 | h3
    · exact d6 y h3
    · omega
  · rcases List.mem_cons.1 hy with rfl | hy
    · exact d4
    · exact d6 y hy

theorem num_b_le (s : WS) (a b : Int) (h : isW a = true → a ≤ 8) : (s.num a b).b.length ≤ s.b.length + 8 := by
  unfold WS.num
  split
  · split
    · rename_i h1 h2
      have := h h2
      split
      · simp only [List.length_append, beBytes_length]; omega
      · simp
    · simp
  · omega
theorem isW_le (a : Int) (h : isW a = true) : a ≤ 8 := by rcases isW_cases h with h | h | h | h <;> omega
theorem raw_b_le (s : WS) (l : List UInt8) : (s.raw l).b.length ≤ s.b.length + l.length := by
  unfold WS.raw; split
  · simp
  · omega
theorem text_b_le (s : WS) (l : List UInt8) : (s.text l).b.length ≤ s.b.length + 8 + l.length := by
  have h1 := raw_b_le (s.count l.length) l
  have h2 := count_b_le s l.length
  show ((s.count l.length).raw l).b.length ≤ _
  omega
theorem bytes_b_le (s : WS) : s.bytes.length ≤ s.b.length := by unfold WS.bytes; split <;> simp

/-- what holds at the head of each round -/
def writesRel (w0 : World) (p q n : Nat) (pv i : Value) (wr : World) : Prop :=
  ∃ (j : Nat) (v u : Value) (s : WS), i = .int .i64 j ∧ pv = .pointer (some ⟨p, 0, none⟩) ∧ j ≤ n ∧ j ≤ 40 ∧ duoW w0 wr p v s q u s ∧ s.b.length ≤ 210 * j
/-- what holds behind the switch -/
def writesCut (w0 : World) (p q k : Nat) (A : Option Addr) (n c : Nat) (pv : Value) (w : World) : Prop :=
  pv = .pointer (some ⟨p, 0, none⟩) ∧ ∃ (v u : Value) (s : WS), duoW w0 w p v s q u s ∧ s.b.length ≤ k + 208 ∧ scrib w A n ∧ ∀ y ∈ homes (.slice A n c), y ≠ p ∧ y ≠ q ∧ y ∉ homes v ∧ y ∉ homes u

set_option maxRecDepth 100000 in
set_option maxHeartbeats 4000000 in
theorem numWrites_law (B : Option Addr) (n d : Nat) (w : World) (ps : puts w B n) (hnd : n ≤ d) (hd : d ≤ maxLen) :
    Calls Try.prog 3 #[.slice B n d] w (yesPost w) := by
  unfold maxLen at hd
  go_enter Try.func3, Try.ntmps3
  go_wp2_with fail
  refine (write_any _).mono ?_; rintro e w1 ⟨p, rfl, hw1, hp1, hk1⟩
  go_wp2_with fail
  refine (write_any2 _).mono ?_; rintro e w2 ⟨q, rfl, hw2, hp2, hk2⟩
  have hd2 : duoW w w2 p (.slice none 0 0) ⟨[], 0⟩ q (.slice none 0 0) ⟨[], 0⟩ :=
    ⟨hw1.keep hk2 (by simp) (by simp), hw2, hp1, by have := hk1.size; omega, by simp [homes_none], by simp [homes_none], hk1.then hk2 (by simp)⟩
  clear hw1 hp1 hk1 hw2 hp2 hk2
  go_wp2_with fail
  go_loopw [3, 5] (fun pv i wr => writesRel w p q n pv i wr) (fun _ i _ => n - (intOf i).toNat)
  case atStart => exact ⟨0, _, _, _, rfl, rfl, by omega, by omega, hd2, by simp⟩
  case round =>
    clear hd2
    obtain ⟨j, v, u, s, rfl, rfl, hj, hj40, hd3, hsb⟩ := hrel
    by_cases hjn : j < n ∧ j < 40
    · obtain ⟨hj1, hj2⟩ := hjn
      obtain ⟨k0, o, rfl, hkl, hput⟩ := ps (by omega)
      obtain ⟨kk, dd, nn, A2, h2, c2, l2, f0, f1, f2, f3, wk, wd, wn, hl2, hc2, hs20, hh2⟩ := hput j hj1
      have wk' := bd_i64 wk
      have hcl := fun x => hd3.old.cell (p := ⟨k0, x, none⟩) hkl (by simp)
      have e0 : wr.cell? ⟨k0, o + j * 4, none⟩ = some (.int .i64 kk) := (hcl _).trans f0
      have e1 : wr.cell? ⟨k0, o + j * 4 + 1, none⟩ = some (.int .i64 dd) := (hcl _).trans f1
      have e2 : wr.cell? ⟨k0, o + j * 4 + 2, none⟩ = some (.int .i64 nn) := (hcl _).trans f2
      have e3 : wr.cell? ⟨k0, o + j * 4 + 3, none⟩ = some (.slice A2 l2.length c2) := (hcl _).trans f3
      clear hcl f0 f1 f2 f3 hput
      unfold maxLen at hc2
      go_upto_region 6 with fail
      have hd4 : duoW w (wr.alloc (.cells #[.int .i64 kk, .int .i64 dd, .int .i64 nn, .slice A2 l2.length c2] 29)) p v s q u s := hd3.keep ((keepBut.refl [] wr).alloc _)
      have hrow4 := rowAt.new wr 29 #[.int .i64 kk, .int .i64 dd, .int .i64 nn, .slice A2 l2.length c2]
      have ht0 : w.heap.size ≤ wr.heap.size := hd3.old.size
      clear e0 e1 e2 e3 hd3
      generalize wr.alloc (.cells #[.int .i64 kk, .int .i64 dd, .int .i64 nn, .slice A2 l2.length c2] 29) = wa at *
      generalize wr.heap.size = t at *
      have tp : t ≠ p := hrow4.apart hd4.1.1 (by decide)
      have tq : t ≠ q := hrow4.apart hd4.2.1.1 (by decide)
      have tv : t ∉ homes v := hd4.1.2.apart hrow4 (by decide)
      have tu : t ∉ homes u := hd4.2.1.2.apart hrow4 (by decide)
      have hc3 : wa.cell? ⟨t, 3, none⟩ = some (.slice A2 l2.length c2) := hrow4.cell 3
      have hf3 := hrow4.free 3
      obtain ⟨b, hb⟩ : ∃ b, b = l2.take 200 := ⟨_, rfl⟩
      have sb0 : seen w A2 h2 b := by rw [hb]; exact hs20.take 200
      have hh2b : b ≠ [] → h2 < w.heap.size := fun hne => hh2 (by rintro rfl; rw [hb] at hne; simp at hne)
      have hlen : b.length = min 200 l2.length := by rw [hb, List.length_take]
      have hb200 : b.length ≤ 200 := by omega
      clear hb hh2 hs20
      have hmin : (if 200 < (l2.length : Int) then 200 else (l2.length : Int)).toNat = b.length := by split <;> omega
      have HM := Lib.hid hmin
      clear hmin hlen
      go_upto_region 7 with fail
      simp only [HM.out]
      generalize (if 200 < (l2.length : Int) then 200 else (l2.length : Int)) = zz
      have hd5 : duoW w (wa.setCell ⟨t, 3, none⟩ (.slice A2 b.length c2)) p v s q u s := hd4.over ((keepBut.refl [t] wa).setCell _ _ (.inl (by simp))) (fun y hy => by
        obtain rfl : y = t := by simpa using hy
        exact ⟨ht0, tp, tq, tv, tu⟩)
      have hrow5 : rowAt (wa.setCell ⟨t, 3, none⟩ (.slice A2 b.length c2)) t 29 #[.int .i64 kk, .int .i64 dd, .int .i64 nn, .slice A2 b.length c2] := by
        simpa using hrow4.set 3 (.slice A2 b.length c2)
      clear hd4 hrow4 hc3 hf3
      generalize wa.setCell ⟨t, 3, none⟩ (.slice A2 b.length c2) = wb at *
      have hc3 : wb.cell? ⟨t, 3, none⟩ = some (.slice A2 b.length c2) := hrow5.cell 3
      go_wp2_with fail
      refine (copyBytes_any A2 h2 c2 b _ (sb0.keep hd5.old (by simp)) (by omega)).mono ?_; rintro e w3 ⟨v3, rfl, ho3, hf3, hk3⟩
      obtain ⟨A3, c3, g3, rfl, _, _, hs3, hin3⟩ := ho3.seen
      have hsc3 := scrib_of_owns ho3
      have hd6 := hd5.keep hk3
      have hrow6 := hk3.row hrow5 (by simp)
      have hH : ∀ y ∈ homes (.slice A3 b.length c3), y < w3.heap.size ∧ y ≠ p ∧ y ≠ q ∧ y ∉ homes v ∧ y ∉ homes u := fun y hy => by
        obtain ⟨l1, l2, l3, l4⟩ := hd5.lt
        have h1 := hf3 y hy
        have h2 := ho3.lt y hy
        exact ⟨h2, by omega, by omega, fun hm => by have := l3 y hm; omega, fun hm => by have := l4 y hm; omega⟩
      have hfi : ∀ y ∈ homes (.slice A3 b.length c3), w.heap.size ≤ y := fun y hy => by have := hf3 y hy; have := hd5.old.size; omega
      have hc0 : w3.cell? ⟨t, 0, none⟩ = some (.int .i64 kk) := hrow6.cell 0
      clear hd5 hrow5 hc3 hf3 hk3 ho3
      go_wp2_with fail
      refine (bring_any _ _ wk'.1 wk'.2 (by omega) (by omega) _).mono ?_; rintro e w' ⟨rfl, rfl⟩
      have cs : kk % 4 = 0 ∨ kk % 4 = 1 ∨ kk % 4 = 2 ∨ kk % 4 = 3 := by omega
      have hrow : ∀ {s' e w4}, wrPost p v s' w3 e w4 → rowAt w4 t 29 #[.int .i64 kk, .int .i64 dd, .int .i64 nn, .slice A2 b.length c2] := fun ⟨_, _, _, hk, _⟩ => hk.row hrow6 (by simp [tp, tv])
      clear hc0
      generalize kk % 4 = ma at cs ⊢
      go_upto_block 2 with fail
      have hsb2 : s.b.length ≤ 8400 := by omega
      have hH2 : ∀ y ∈ homes (.slice A3 b.length c3), y ∉ p :: homes v ++ q :: homes u := fun y hy hm => by
        obtain ⟨_, h1, h2, h3, h4⟩ := hH y hy
        simp [h1, h2, h3, h4] at hm
      go_cut [3] (fun pv wx => writesCut w p q s.b.length A3 b.length c3 pv wx)
      case first =>
        have hr61 : w3.cell? ⟨t, 1, none⟩ = some (.int .i64 dd) := hrow6.cell 1
        have hr62 : w3.cell? ⟨t, 2, none⟩ = some (.int .i64 nn) := hrow6.cell 2
        rcases cs with rfl | rfl | rfl | rfl
        · go_wp2_with fail
          refine (wnum_any _ _ _ _ _ _ hd6.1 (by omega)).mono ?_; intro e w4 hw4; obtain rfl := hw4.1
          have hm4 := hd6.mid hw4
          have hr4 := hrow hw4
          have hr41 : w4.cell? ⟨t, 1, none⟩ = some (.int .i64 dd) := hr4.cell 1
          have hr42 : w4.cell? ⟨t, 2, none⟩ = some (.int .i64 nn) := hr4.cell 2
          have hr43 : w4.cell? ⟨t, 3, none⟩ = some (.slice A2 b.length c2) := hr4.cell 3
          go_wp2_with fail
          refine (wnum_any2 _ _ _ _ _ _ hm4.1 (by omega)).mono ?_; intro e w5 hw5; obtain rfl := hw5.1
          obtain ⟨v5, u5, hd7, hav, hkb⟩ := hd6.two hw4 hw5 hH
          go_wp2_with fail
          go_meet
          exact ⟨rfl, v5, u5, _, hd7, by have := num_b_le s dd nn (isW_le dd); omega, hsc3.keep (c := c3) hkb hH2, hav⟩
        · go_wp2_with fail
          refine (wcount_any _ _ _ _ _ hd6.1 (by omega)).mono ?_; intro e w4 hw4; obtain rfl := hw4.1
          have hm4 := hd6.mid hw4
          have hr4 := hrow hw4
          have hr41 : w4.cell? ⟨t, 1, none⟩ = some (.int .i64 dd) := hr4.cell 1
          have hr42 : w4.cell? ⟨t, 2, none⟩ = some (.int .i64 nn) := hr4.cell 2
          have hr43 : w4.cell? ⟨t, 3, none⟩ = some (.slice A2 b.length c2) := hr4.cell 3
          go_wp2_with fail
          refine (wcount_any2 _ _ _ _ _ hm4.1 (by omega)).mono ?_; intro e w5 hw5; obtain rfl := hw5.1
          obtain ⟨v5, u5, hd7, hav, hkb⟩ := hd6.two hw4 hw5 hH
          go_wp2_with fail
          go_meet
          exact ⟨rfl, v5, u5, _, hd7, by have := count_b_le s nn; omega, hsc3.keep (c := c3) hkb hH2, hav⟩
        · go_wp2_with fail
          refine (wtext_any _ _ _ A3 g3 c3 b _ hd6.1 hs3 (fun hne => ⟨(hH g3 (hin3 hne)).2.1, (hH g3 (hin3 hne)).2.2.2.1⟩) (by omega) (by omega)).mono ?_; intro e w4 hw4; obtain rfl := hw4.1
          have hm4 := hd6.mid hw4
          have hr4 := hrow hw4
          have hr41 : w4.cell? ⟨t, 1, none⟩ = some (.int .i64 dd) := hr4.cell 1
          have hr42 : w4.cell? ⟨t, 2, none⟩ = some (.int .i64 nn) := hr4.cell 2
          have hr43 : w4.cell? ⟨t, 3, none⟩ = some (.slice A2 b.length c2) := hr4.cell 3
          go_wp2_with fail
          refine (wtext_any2 _ _ _ A2 h2 c2 b _ hm4.1 (sb0.keep hm4.2 (by simp)) (fun hne => ⟨by have := hh2b hne; have := hd6.2.2.2.1; omega, fun hm => by have := hh2b hne; have := hd6.2.2.2.2.2.1 _ hm; omega⟩) (by omega) (by omega)).mono ?_; intro e w5 hw5; obtain rfl := hw5.1
          obtain ⟨v5, u5, hd7, hav, hkb⟩ := hd6.two hw4 hw5 hH
          go_wp2_with fail
          go_meet
          exact ⟨rfl, v5, u5, _, hd7, by have := text_b_le s b; omega, hsc3.keep (c := c3) hkb hH2, hav⟩
        · go_wp2_with fail
          refine (wraw_any _ _ _ A3 g3 c3 b _ hd6.1 hs3 (by omega)).mono ?_; intro e w4 hw4; obtain rfl := hw4.1
          have hm4 := hd6.mid hw4
          have hr4 := hrow hw4
          have hr41 : w4.cell? ⟨t, 1, none⟩ = some (.int .i64 dd) := hr4.cell 1
          have hr42 : w4.cell? ⟨t, 2, none⟩ = some (.int .i64 nn) := hr4.cell 2
          have hr43 : w4.cell? ⟨t, 3, none⟩ = some (.slice A2 b.length c2) := hr4.cell 3
          go_wp2_with fail
          refine (wraw_any2 _ _ _ A2 h2 c2 b _ hm4.1 (sb0.keep hm4.2 (by simp)) (by omega)).mono ?_; intro e w5 hw5; obtain rfl := hw5.1
          obtain ⟨v5, u5, hd7, hav, hkb⟩ := hd6.two hw4 hw5 hH
          go_wp2_with fail
          go_meet
          exact ⟨rfl, v5, u5, _, hd7, by have := raw_b_le s b; omega, hsc3.keep (c := c3) hkb hH2, hav⟩
      case rest =>
        obtain ⟨rfl, v7, u7, s7, hd7, hs7b, hsc7, hav⟩ := hcut
        clear hd6 hrow6 hH hrow hH2 hs3 hin3 hsc3
        go_wp2_with fail
        go_loopw [8] (fun i wr => scribRel wc A3 b.length c3 i wr) (fun i _ => b.length - (intOf i).toNat)
        case atStart => exact ⟨0, rfl, by omega, keepBut.refl _ _, hsc7⟩
        case round =>
          obtain ⟨k, rfl, hk, hkb, hsc1⟩ := hrel
          by_cases hkn : k < b.length
          · obtain ⟨g0, rfl, cur, hrow, hcur⟩ := hsc1 (by omega)
            obtain ⟨z, hz⟩ := hcur k hkn
            have hc0 : wr.cell? ⟨g0, k, none⟩ = some (.int .u8 z) := by rw [hrow.cell]; exact hz
            have hf0 := hrow.free k
            have hbr : bytesRow wr g0 b.length := ⟨cur, hrow, hcur⟩
            clear hrow hcur hz hsc7 hsc1 hd7 hav hfi
            go_wp2
            go_roundw
            case rel => exact ⟨k + 1, by go_num, by omega, hkb.setCell _ _ (.inl (by simp [homes_some])), fun _ => ⟨g0, rfl, hbr.set _ _⟩⟩
            case measure => simp [intOf]; omega
          · have hd8 : duoW w wr p v7 s7 q u7 s7 := hd7.over hkb (fun y hy => ⟨hfi y hy, hav y hy⟩)
            clear hsc7 hsc1 hkb hd7 hav hfi
            obtain rfl : k = b.length := by omega
            go_wp2_with fail
            refine (wbytes_any _ _ _ _ hd8.1 (by omega)).mono ?_; rintro e w9 ⟨va, rfl, hoa, hfa, hka⟩
            obtain ⟨A9, c9, g9, rfl, _, _, hs9, hin9⟩ := hoa.seen
            have hsc9 := scrib_of_owns hoa
            have hd9 := hd8.keep hka
            clear hoa hka
            go_wp2_with fail
            refine (wbytes_any2 _ _ _ _ hd9.2.1 (by omega)).mono ?_; rintro e w10 ⟨vb, rfl, hob, hfb, hkb'⟩
            obtain ⟨A10, c10, g10, rfl, _, _, hs10, _⟩ := hob.seen
            have hd10 := hd9.keep hkb'
            have hsc10 := hsc9.keep (c := c9) hkb' (by simp)
            have hs9' := hs9.keep hkb' (by simp)
            clear hob hkb' hfb hd9 hsc9 hs9
            go_wp2_with fail
            refine (eqBytes_any A9 A10 g9 g10 c9 c10 _ _ _ hs9' hs10).mono ?_; rintro e w' ⟨rfl, rfl⟩
            have hba := bytes_b_le s7
            clear hs9' hs10 hin9
            generalize s7.bytes = l9 at *
            go_wp2_with fail
            go_loopw [13] (fun i wr => scribRel w10 A9 l9.length c9 i wr) (fun i _ => l9.length - (intOf i).toNat)
            case atStart => exact ⟨0, rfl, by omega, keepBut.refl _ _, hsc10⟩
            case round =>
              obtain ⟨k, rfl, hk, hkb, hsc1⟩ := hrel
              by_cases hkn : k < l9.length
              · obtain ⟨g0, rfl, cur, hrow, hcur⟩ := hsc1 (by omega)
                obtain ⟨z, hz⟩ := hcur k hkn
                have hc0 : wr.cell? ⟨g0, k, none⟩ = some (.int .u8 z) := by rw [hrow.cell]; exact hz
                have hf0 := hrow.free k
                have hbr : bytesRow wr g0 l9.length := ⟨cur, hrow, hcur⟩
                clear hrow hcur hz hsc10 hsc1 hd8 hd10 hfa
                go_wp2
                go_roundw
                case rel => exact ⟨k + 1, by go_num, by omega, hkb.setCell _ _ (.inl (by simp [homes_some])), fun _ => ⟨g0, rfl, hbr.set _ _⟩⟩
                case measure => simp [intOf]; omega
              · have hd11 := hd8.fresh hd10 hkb hfa
                clear hsc10 hsc1 hkb hd8 hd10 hfa
                obtain rfl : k = l9.length := by omega
                go_wp2_with fail
                go_roundw
                case rel => exact ⟨j + 1, _, _, _, by go_num, rfl, by omega, by omega, hd11, by omega⟩
                case measure => simp [intOf]; omega
    · have hex : (¬ j < n) ∨ (j < n ∧ ¬ j < 40) := by omega
      rcases hex with hj1 | ⟨hj1, hj2⟩
      all_goals
        go_wp2_with fail
        refine (works_any _).mono ?_; rintro e w9 ⟨rfl, hk9⟩
        go_wp2_with fail
        go_ret
        exact ⟨rfl, hd3.old.then hk9 (by simp)⟩
end Go.Proofs.Ytgbobdlaahcjoaa
