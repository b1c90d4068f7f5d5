/-
  NumReads: what the reader answers, call by call, is what the document's reader answers.
-/
import Derived.Test.YtgbobdlaahcjoaaNumFirst
import Derived.Test.YtgbobdlaahcjoaaRefRead
import Derived.Test.YtgbobdlaahcjoaaPuts
namespace Go.Proofs.Ytgbobdlaahcjoaa
open Go.RowKit
set_option linter.unusedVariables false

/-- block g holds n bytes, and more perhaps -/
def bytesRow (w : World) (g n : Nat) : Prop := ∃ cur, rowAt w g 5 cur ∧ ∀ j, j < n → ∃ z : Int, cur[j]? = some (.int .u8 z)
/-- a slice of n bytes that may be written over -/
def scrib (w : World) (A : Option Addr) (n : Nat) : Prop := 0 < n → ∃ g, A = some ⟨g, 0, none⟩ ∧ bytesRow w g n
theorem scrib_of_owns {w : World} {A : Option Addr} {c : Nat} {l : List UInt8} (h : owns w 5 1 (.slice A l.length c) l.length (l.map bv)) : scrib w A l.length := by
  intro hn
  rcases h.2 with ⟨_, h0⟩ | ⟨g, cap, cur, he, hr, h1, h2, h3, h4⟩
  · omega
  · injection he with ha _ _
    refine ⟨g, ha, cur, hr, fun j hj => ?_⟩
    have : (cur.toList.take (l.length * 1))[j]? = (l.map bv)[j]? := by rw [h4]
    rw [List.getElem?_take, if_pos (by omega), List.getElem?_map, List.getElem?_eq_getElem hj] at this
    exact ⟨_, by simpa [bv] using this⟩
theorem bytesRow.set {w : World} {g n : Nat} (h : bytesRow w g n) (k : Nat) (z : Int) : bytesRow (w.setCell ⟨g, k, none⟩ (.int .u8 z)) g n := by
  obtain ⟨cur, hr, hc⟩ := h
  refine ⟨_, hr.set k _, fun j hj => ?_⟩
  obtain ⟨y, hy⟩ := hc j hj
  rw [Array.getElem?_setIfInBounds]
  split
  · subst_vars
    rw [if_pos (by have := (Array.getElem?_eq_some_iff.1 hy).1; assumption)]
    exact ⟨z, rfl⟩
  · exact ⟨y, hy⟩
theorem scrib.keep {S : List Nat} {w w' : World} {A : Option Addr} {n c : Nat} (h : scrib w A n) (hk : keepBut S w w') (hS : ∀ x ∈ homes (.slice A n c), x ∉ S) : scrib w' A n := by
  intro hn
  obtain ⟨g, rfl, cur, hr, hc⟩ := h hn
  exact ⟨g, rfl, cur, hk.row hr (hS g (by simp [homes_some])), hc⟩

/-- the head of a round of writing over -/
def scribRel (wa : World) (A : Option Addr) (n c : Nat) (i : Value) (wr : World) : Prop :=
  ∃ k : Nat, i = .int .i64 k ∧ k ≤ n ∧ keepBut (homes (.slice A n c)) wa wr ∧ scrib wr A n

/-- the two readers, side by side -/
def duo2 (w0 w : World) (p g q h : Nat) (x : RS) : Prop :=
  isR w p g x ∧ isR2 w q h x ∧ w0.heap.size ≤ p ∧ w0.heap.size ≤ q ∧ (x.l ≠ [] → g ≠ q ∧ h ≠ p) ∧ keepBut [] w0 w ∧ x.l.length ≤ 600
theorem isR.row1 {w : World} {p g : Nat} {r : RS} (h : isR w p g r) : ∃ cs, rowAt w p 64 cs := by obtain ⟨A, c, h1, _⟩ := h; exact ⟨_, h1⟩
theorem isR2.row1 {w : World} {p g : Nat} {r : RS} (h : isR2 w p g r) : ∃ cs, rowAt w p 65 cs := by obtain ⟨⟨A, c, h1, _⟩, _⟩ := h; exact ⟨_, h1⟩
theorem duo2.ne {w0 w : World} {p g q h : Nat} {x : RS} (d : duo2 w0 w p g q h x) : p ≠ q := by
  obtain ⟨cs, h1⟩ := d.1.row1
  obtain ⟨cs', h2⟩ := d.2.1.row1
  exact h1.apart h2 (by decide)
theorem duo2.keep {w0 w w' : World} {p g q h : Nat} {x : RS} (d : duo2 w0 w p g q h x) (hk : keepBut [] w w') : duo2 w0 w' p g q h x := by
  obtain ⟨d1, d2, d3, d4, d5, d6, d7⟩ := d
  exact ⟨d1.keep hk (by simp) (by simp), d2.keep hk (by simp) (by simp), d3, d4, d5, d6.then hk (by simp), d7⟩
/-- behind the program's reader, the document's reader stands where it stood -/
theorem duo2.half {w0 w w1 : World} {p g q h : Nat} {x : RS} (d : duo2 w0 w p g q h x) (hk : keepBut [p] w w1) : isR2 w1 q h x ∧ keepBut [] w0 w1 := by
  have hne := d.ne
  obtain ⟨d1, d2, d3, d4, d5, d6, d7⟩ := d
  exact ⟨d2.keep hk (by simpa using fun e => hne e.symm) (fun hx => by simpa using (d5 hx).2), d6.then hk (by simpa using d3)⟩
theorem duo2.both {w0 w w1 w2 : World} {p g q h : Nat} {x x' : RS} (d : duo2 w0 w p g q h x) (hr : isR w1 p g x') (hk : keepBut [p] w w1) (hr2 : isR2 w2 q h x') (hk2 : keepBut [q] w1 w2) (hl : x'.l.length ≤ x.l.length) : duo2 w0 w2 p g q h x' := by
  have hne := d.ne
  have hold := (d.half hk).2
  obtain ⟨d1, d2, d3, d4, d5, d6, d7⟩ := d
  have hl' : x'.l ≠ [] → x.l ≠ [] := fun h0 h1 => by rw [h1] at hl; simp at hl; exact h0 hl
  exact ⟨hr.keep hk2 (by simpa using hne) (fun hx => by simpa using (d5 (hl' hx)).1), hr2, d3, d4, fun hx => d5 (hl' hx), hold.then hk2 (by simpa using d4), by omega⟩

theorem RS.past_short (r : RS) (n : Nat) : (r.past n).l.length ≤ r.l.length := by
  unfold RS.past; split
  · split
    · simp
    · simp
  · exact Nat.le_refl _
theorem RS.fail_short (r : RS) (x : Int) : (r.fail x).l.length ≤ r.l.length := by
  unfold RS.fail; split <;> simp
theorem RS.raw_short (r : RS) (n : Int) : (r.raw n).2.l.length ≤ r.l.length := by
  unfold RS.raw; split
  · exact r.fail_short _
  · exact r.past_short _
theorem RS.raw_out (r : RS) (n : Int) : (r.raw n).1.length ≤ r.l.length := by
  unfold RS.raw; split
  · simp
  · unfold RS.take; dsimp only; split
    · rw [List.length_take]; omega
    · simp
theorem RS.num_short (r : RS) (n : Int) : (r.num n).2.l.length ≤ r.l.length := by
  unfold RS.num; split
  · split
    · split
      · exact Nat.le_trans (RS.fail_short _ _) (r.past_short _)
      · exact r.past_short _
    · exact r.past_short _
  · exact r.fail_short _
theorem RS.text_short (r : RS) (n : Int) : (r.text n).2.l.length ≤ r.l.length := Nat.le_trans (RS.raw_short _ _) (RS.count_short _ _)

theorem duo2.below {w0 w : World} {p g q h : Nat} {x : RS} (d : duo2 w0 w p g q h x) : p < w.heap.size ∧ q < w.heap.size ∧ (x.l ≠ [] → g < w.heap.size ∧ h < w.heap.size) := by
  refine ⟨d.1.lt, d.2.1.lt, fun hx => ⟨?_, ?_⟩⟩
  · obtain ⟨_, _, _, _, _, hs, _⟩ := d.1
    obtain ⟨_, _, hl, _⟩ := hs hx
    exact hl
  · obtain ⟨⟨_, _, _, _, _, hs, _⟩, _⟩ := d.2.1
    obtain ⟨_, _, hl, _⟩ := hs hx
    exact hl
theorem duo2.old {w0 w : World} {p g q h : Nat} {x : RS} (d : duo2 w0 w p g q h x) : keepBut [] w0 w := d.2.2.2.2.2.1
theorem duo2.over {S : List Nat} {w0 wb w w' : World} {p g q h : Nat} {x x' : RS} (b : duo2 w0 wb p g q h x) (d : duo2 w0 w p g q h x') (hl : x'.l.length ≤ x.l.length) (hk : keepBut S w w') (hS : ∀ y ∈ S, wb.heap.size ≤ y) : duo2 w0 w' p g q h x' := by
  obtain ⟨b1, b2, b3⟩ := b.below
  have b0 := b.old.size
  obtain ⟨e1, e2, e3, e4, e5, e6, e7⟩ := d
  have hl' : x'.l ≠ [] → x.l ≠ [] := fun h0 h1 => by rw [h1] at hl; simp at hl; exact h0 hl
  refine ⟨e1.keep hk (fun hm => ?_) (fun hx hm => ?_), e2.keep hk (fun hm => ?_) (fun hx hm => ?_), e3, e4, e5, e6.then hk (fun y hy => .inr ?_), e7⟩
  · have := hS _ hm; omega
  · have := hS _ hm; have := (b3 (hl' hx)).1; omega
  · have := hS _ hm; omega
  · have := hS _ hm; have := (b3 (hl' hx)).2; omega
  · have := hS _ hy; omega

/-- what holds at the head of each round -/
def readsRel (w0 : World) (p g q h n : Nat) (i : Value) (wr : World) : Prop :=
  ∃ (j : Nat) (x : RS), i = .int .i64 j ∧ j ≤ n ∧ duo2 w0 wr p g q h x

/-- what holds behind the switch -/
def readsCut (w0 : World) (p g q h : Nat) (okv : Value) (w : World) : Prop := okv = .bool true ∧ ∃ x : RS, duo2 w0 w p g q h x

set_option maxRecDepth 100000 in
set_option maxHeartbeats 4000000 in
theorem numReads_law (A : Option Addr) (g c : Nat) (l : List UInt8) (B : Option Addr) (n d : Nat) (w : World)
    (hs : seen w A g l) (hn : l.length ≤ c) (hc : c ≤ maxLen) (ps : puts w B n) (hnd : n ≤ d) (hd : d ≤ maxLen) :
    Calls Try.prog 4 #[.slice A l.length c, .slice B n d] w (yesPost w) := by
  unfold maxLen at hc hd
  obtain ⟨b, hb⟩ : ∃ b, b = l.take 600 := ⟨_, rfl⟩
  have sb : seen w A g b := by rw [hb]; exact hs.take 600
  have hlen : b.length = min 600 l.length := by rw [hb, List.length_take]
  have hb600 : b.length ≤ 600 := by omega
  have HB := Lib.hid hb
  clear hb
  have cases : (b.length = l.length ∧ l.length ≤ 600) ∨ (b.length = 600 ∧ ¬ l.length ≤ 600) := by omega
  rcases cases with ⟨hl, h600⟩ | ⟨hl, h600⟩
  all_goals
    have HL := Lib.hid hl
    clear hl hlen
    go_enter Try.func4, Try.ntmps4
    go_wp2_with fail
    refine (copyBytes_n A g c _ b _ HL.out sb (by omega)).mono ?_; rintro e w1 ⟨v1, rfl, ho1, hf1, hk1⟩
    obtain ⟨A1, c1, g1, rfl, _, _, hs1, hin1⟩ := ho1.seen
    go_wp2_with fail
    refine (read_n A1 g1 c1 _ b _ rfl hs1 (by omega)).mono ?_; rintro e w2 ⟨p, gp, rfl, hr2, hp2, hg2, hk2⟩
    go_wp2_with fail
    refine (read2_any A g c _ b _ HL.out (sb.keep (hk1.then hk2 (by simp)) (by simp)) (by omega)).mono ?_; rintro e w3 ⟨q, gq, rfl, hr3, hq3, hg3, hk3⟩
    have hsc : scrib w3 A1 b.length := (scrib_of_owns ho1).keep (c := c1) (hk2.then hk3 (by simp)) (by simp)
    have hfr : ∀ x ∈ homes (.slice A1 b.length c1), w.heap.size ≤ x ∧ x < w1.heap.size := fun x hx => ⟨hf1 x hx, ho1.lt x hx⟩
    have hd3 : duo2 w w3 p gp q gq ⟨b, 0⟩ := by
      have := hk1.size
      have := hk2.size
      have hpl := hr2.lt
      refine ⟨hr2.keep hk3 (by simp) (by simp), hr3, by omega, by omega, fun hx => ⟨?_, ?_⟩, (hk1.then hk2 (by simp)).then hk3 (by simp), hb600⟩
      · obtain ⟨_, _, _, _, _, hss, _⟩ := hr2
        obtain ⟨_, _, hgl, _⟩ := hss hx
        omega
      · have := hg3 hx; omega
    have hp3 : w1.heap.size ≤ p := hp2
    have hq3' : w1.heap.size ≤ q := by have := hk2.size; omega
    have hgp3 : w1.heap.size ≤ gp := hg2
    have hgq3 : b ≠ [] → w1.heap.size ≤ gq := fun hx => by have := hk2.size; have := hg3 hx; omega
    clear hk3 hr3 hr2 hk2 hs1 hin1 ho1 hf1 hk1 hp2 hg2 hg3 hq3
    go_wp2_with fail
    go_loopw [8] (fun i wr => scribRel w3 A1 b.length c1 i wr) (fun i _ => b.length - (intOf i).toNat)
    case atStart => exact ⟨0, rfl, by omega, keepBut.refl _ _, hsc⟩
    case round =>
      obtain ⟨k, rfl, hk, hkb, hsc1⟩ := hrel
      by_cases hkn : k < b.length
      · obtain ⟨g0, rfl, cur, hrow, hcur⟩ := hsc1 (by omega)
        obtain ⟨z, hz⟩ := hcur k hkn
        have hc0 : wr.cell? ⟨g0, k, none⟩ = some (.int .u8 z) := by rw [hrow.cell]; exact hz
        have hf0 := hrow.free k
        have hbr : bytesRow wr g0 b.length := ⟨cur, hrow, hcur⟩
        clear hrow hcur hz hsc hsc1 hd3
        go_wp2
        go_roundw
        case rel => exact ⟨k + 1, by go_num, by omega, hkb.setCell _ _ (.inl (by simp [homes_some])), fun _ => ⟨g0, rfl, hbr.set _ _⟩⟩
        case measure => simp [intOf]; omega
      · have hd4 : duo2 w wr p gp q gq ⟨b, 0⟩ := by
          obtain ⟨e1, e2, e3, e4, e5, e6, e7⟩ := hd3
          refine ⟨e1.keep hkb (fun hm => ?_) (fun hx hm => ?_), e2.keep hkb (fun hm => ?_) (fun hx hm => ?_), e3, e4, e5, e6.then hkb (fun x hx => .inr (hfr x hx).1), e7⟩
          · have := hfr _ hm; omega
          · have := hfr _ hm; omega
          · have := hfr _ hm; omega
          · have := hfr _ hm; have := hgq3 hx; omega
        clear hd3 hsc hsc1 hfr hp3 hq3' hgp3 hgq3 hkb
        obtain rfl : k = b.length := by omega
        go_wp2_with fail
        go_loopw [9] (fun i wr => readsRel w p gp q gq n i wr) (fun i _ => n - (intOf i).toNat)
        case atStart => exact ⟨0, _, rfl, by omega, hd4⟩
        case round =>
          clear hd4
          obtain ⟨j, x, rfl, hj, hd5⟩ := hrel
          by_cases hjn : j < n ∧ j < 40
          · obtain ⟨hj1, hj2⟩ := hjn
            obtain ⟨k0, o, rfl, hkl, hput⟩ := ps (by omega)
            have hold := hd5.2.2.2.2.2.1
            obtain ⟨kk, dd, nn, A2, h2, c2, l2, e0, e1, e2, e3, wk, wd, wn, hl2, hc2, _, _⟩ := (hput j hj1).keep hkl hold
            have wk' := bd_i64 wk
            go_wp2_with fail
            have hd6 : duo2 w (wr.alloc (.cells #[.int .i64 kk, .int .i64 dd, .int .i64 nn, .slice A2 l2.length c2] 29)) p gp q gq x := hd5.keep ((keepBut.refl [] wr).alloc _)
            have hrow6 := rowAt.new wr 29 #[.int .i64 kk, .int .i64 dd, .int .i64 nn, .slice A2 l2.length c2]
            clear e0 e1 e2 e3 hold hd5
            refine (bring_any _ _ wk'.1 wk'.2 (by omega) (by omega) _).mono ?_; rintro e w' ⟨rfl, rfl⟩
            generalize wr.alloc (.cells #[.int .i64 kk, .int .i64 dd, .int .i64 nn, .slice A2 l2.length c2] 29) = wa at *
            generalize wr.heap.size = t at *
            have tp : t ≠ p := by obtain ⟨_, hp⟩ := hd6.1.row1; exact hrow6.apart hp (by decide)
            have tq : t ≠ q := by obtain ⟨_, hq⟩ := hd6.2.1.row1; exact hrow6.apart hq (by decide)
            have hx6 : x.l.length ≤ 140737488355328 := by have := hd6.2.2.2.2.2.2; omega
            have cs : kk % 4 = 0 ∨ kk % 4 = 1 ∨ kk % 4 = 2 ∨ kk % 4 = 3 := by omega
            generalize kk % 4 = ma at cs ⊢
            go_upto_block 4 with fail
            go_cut [11] (fun okv wx => readsCut w p gp q gq okv wx)
            case first =>
              have hk0 : keepBut [] wa wa.drew := (keepBut.refl [] wa).drew
              have hd6d := hd6.keep hk0
              have hrowd := hk0.row hrow6 (by simp)
              have hc1 : wa.cell? ⟨t, 1, none⟩ = some (.int .i64 dd) := hrow6.cell 1
              have hc2 : wa.cell? ⟨t, 2, none⟩ = some (.int .i64 nn) := hrow6.cell 2
              rcases cs with rfl | rfl | rfl | rfl
              · go_upto_region 21 with fail
                go_region_held3 (fun W => W.cell? ⟨t, 1, none⟩ = some (.int .i64 dd)) (first | go_keep)
                  (first
                    | (go_at_call 27; refine (num_any _ _ _ _ _ hd6d.1).mono ?_; rintro e w7 ⟨rfl, hr7, hk7⟩; have hf7 := hd6d.half hk7; have hrow7 := hk7.row hrowd (by simpa using tp); have hc7 : w7.cell? ⟨t, 1, none⟩ = some (.int .i64 dd) := hrow7.cell 1)
                    | (go_at_call 28; refine (num2_any _ _ _ _ _ hf7.1 hx6).mono ?_; rintro e w8 ⟨rfl, hr8, hk8⟩; have hd8 := hd6d.both hr7 hk7 hr8 hk8 (RS.num_short _ _); have hc8 : w8.cell? ⟨t, 1, none⟩ = some (.int .i64 dd) := (hk8.row hrow7 (by simpa using tq)).cell 1))
                go_wp2_with fail
                go_meet
                exact ⟨by simp, _, hd8⟩
              · go_upto_region 23 with fail
                go_region_held3 (fun W => W.cell? ⟨t, 2, none⟩ = some (.int .i64 nn)) (first | go_keep)
                  (first
                    | (go_at_call 29; refine (count_any _ _ _ _ _ hd6d.1).mono ?_; rintro e w7 ⟨rfl, hr7, hk7⟩; have hf7 := hd6d.half hk7; have hrow7 := hk7.row hrowd (by simpa using tp); have hc7 : w7.cell? ⟨t, 2, none⟩ = some (.int .i64 nn) := hrow7.cell 2)
                    | (go_at_call 30; refine (count2_any _ _ _ _ _ hf7.1 hx6).mono ?_; rintro e w8 ⟨rfl, hr8, hk8⟩; have hd8 := hd6d.both hr7 hk7 hr8 hk8 (RS.count_short _ _); have hc8 : w8.cell? ⟨t, 2, none⟩ = some (.int .i64 nn) := (hk8.row hrow7 (by simpa using tq)).cell 2))
                go_wp2_with fail
                go_meet
                exact ⟨by simp, _, hd8⟩
              · go_upto_region 25 with fail
                go_region_held3 (fun W => W.cell? ⟨t, 2, none⟩ = some (.int .i64 nn)) (first | go_keep)
                  (first
                    | (go_at_call 31; refine (text_any _ _ _ _ _ hd6d.1 hx6).mono ?_; rintro e w7 ⟨v7, rfl, hv7, hr7, hk7⟩; have hf7 := hd6d.half hk7; have hrow7 := hk7.row hrowd (by simpa using tp); have hc7 : w7.cell? ⟨t, 2, none⟩ = some (.int .i64 nn) := hrow7.cell 2; obtain ⟨A7, c7, g7, rfl, _, _, hs7, hin7⟩ := hv7.1.seen)
                    | (go_at_call 32; refine (text2_any _ _ _ _ _ hf7.1 hx6).mono ?_; rintro e w8 ⟨v8, rfl, hv8, hr8, hk8⟩; have hd8 := hd6d.both hr7 hk7 hr8 hk8 (RS.text_short _ _); have hc8 : w8.cell? ⟨t, 2, none⟩ = some (.int .i64 nn) := (hk8.row hrow7 (by simpa using tq)).cell 2; obtain ⟨A8, c8, g8, rfl, _, _, hs8, hin8⟩ := hv8.1.seen)
                    | (go_at_call 23; refine (eqBytes_any A7 A8 g7 g8 c7 c8 _ _ _ (hs7.keep hk8 (fun hne hm => by have := hv7.2 _ (hin7 hne); have := hd6d.below.2.1; simp at hm; omega)) hs8).mono ?_; rintro e w' ⟨rfl, rfl⟩))
                go_wp2_with fail
                go_meet
                exact ⟨by simp, _, hd8⟩
              · go_wp2_with fail
                refine (raw_any _ _ _ _ _ hd6.1 hx6).mono ?_; rintro e w7 ⟨v7, rfl, hv7, hr7, hk7⟩
                have hf7 := hd6.half hk7
                have hrow7 := hk7.row hrow6 (by simpa using tp)
                have hc7 : w7.cell? ⟨t, 2, none⟩ = some (.int .i64 nn) := hrow7.cell 2
                obtain ⟨A7, c7, g7, rfl, _, _, hs7, hin7⟩ := hv7.1.seen
                have hsc7 := scrib_of_owns hv7.1
                go_wp2_with fail
                refine (raw2_any _ _ _ _ _ hf7.1 hx6).mono ?_; rintro e w8 ⟨v8, rfl, hv8, hr8, hk8⟩
                have hd8 := hd6.both hr7 hk7 hr8 hk8 (RS.raw_short _ _)
                obtain ⟨A8, c8, g8, rfl, _, _, hs8, hin8⟩ := hv8.1.seen
                have hq7 : ∀ y ∈ homes (.slice A7 (x.raw nn).1.length c7), y ∉ [q] := fun y hy hm => by have := hv7.2 _ hy; have := hd6.below.2.1; simp at hm; omega
                have hsc8 := hsc7.keep (c := c7) hk8 hq7
                go_wp2_with fail
                refine (eqBytes_any A7 A8 g7 g8 c7 c8 _ _ _ (hs7.keep hk8 (fun hne => hq7 _ (hin7 hne))) hs8).mono ?_; rintro e w' ⟨rfl, rfl⟩
                have hS := hv7.2
                have hsh := RS.raw_short x nn
                have h7l := Nat.le_trans (RS.raw_out x nn) hd6.2.2.2.2.2.2
                clear hq7 hsc7 hs7 hs8 hv8 hv7 hin7 hin8 hr7 hr8 hk7 hk8 hf7 hrow7 hc7
                generalize (x.raw nn).2 = x' at *
                generalize (x.raw nn).1 = l7 at *
                go_wp2_with fail
                go_loopw [13] (fun i wr => scribRel w8 A7 l7.length c7 i wr) (fun i _ => l7.length - (intOf i).toNat)
                case atStart => exact ⟨0, rfl, by omega, keepBut.refl _ _, hsc8⟩
                case round =>
                  obtain ⟨k, rfl, hk, hkb, hsc1⟩ := hrel
                  by_cases hkn : k < l7.length
                  · obtain ⟨g0, rfl, cur, hrow, hcur⟩ := hsc1 (by omega)
                    obtain ⟨z, hz⟩ := hcur k hkn
                    have hc0 : wr.cell? ⟨g0, k, none⟩ = some (.int .u8 z) := by rw [hrow.cell]; exact hz
                    have hf0 := hrow.free k
                    have hbr : bytesRow wr g0 l7.length := ⟨cur, hrow, hcur⟩
                    clear hrow hcur hz hsc8 hsc1 hd6 hd8
                    go_wp2
                    go_roundw
                    case rel => exact ⟨k + 1, by go_num, by omega, hkb.setCell _ _ (.inl (by simp [homes_some])), fun _ => ⟨g0, rfl, hbr.set _ _⟩⟩
                    case measure => simp [intOf]; omega
                  · have hd9 := hd6.over hd8 hsh hkb hS
                    obtain rfl : k = l7.length := by omega
                    clear hsc8 hsc1 hkb hd8 hd6
                    go_wp2_with fail
                    go_meet
                    exact ⟨by simp, _, hd9⟩
            case rest =>
              obtain ⟨rfl, x', hd7⟩ := hcut
              clear hd6 hrow6 hx6
              go_wp2_with fail
              refine (left_any _ _ _ _ hd7.1).mono ?_; rintro e w' ⟨rfl, rfl⟩
              go_wp2_with fail
              refine (left2_any _ _ _ _ hd7.2.1).mono ?_; rintro e w' ⟨rfl, rfl⟩
              go_wp2_with fail
              refine (err_any _ _ _ _ hd7.1).mono ?_; rintro e w' ⟨rfl, rfl⟩
              go_wp2_with fail
              refine (err2_any _ _ _ _ hd7.2.1).mono ?_; rintro e w' ⟨rfl, rfl⟩
              go_wp2_with fail
              refine (end_any _ _ _ _ hd7.1).mono ?_; rintro e w' ⟨rfl, rfl⟩
              go_wp2_with fail
              refine (end2_any _ _ _ _ hd7.2.1).mono ?_; rintro e w' ⟨rfl, rfl⟩
              go_wp2_with fail
              go_roundw
              case rel => exact ⟨j + 1, _, by go_num, by omega, hd7⟩
              case measure => simp [intOf]; omega
          · have hex : (¬ j < n) ∨ (j < n ∧ ¬ j < 40) := by omega
            rcases hex with hj1 | ⟨hj1, hj2⟩
            all_goals
              go_wp2_with fail
              refine (end_any _ _ _ _ hd5.1).mono ?_; rintro e w' ⟨rfl, rfl⟩
              go_wp2_with fail
              refine (end2_any _ _ _ _ hd5.2.1).mono ?_; rintro e w' ⟨rfl, rfl⟩
              go_wp2_with fail
              refine (works_any _).mono ?_; rintro e w9 ⟨rfl, hk9⟩
              go_wp2_with fail
              go_ret
              exact ⟨rfl, hd5.old.then hk9 (by simp)⟩
end Go.Proofs.Ytgbobdlaahcjoaa
