/-
  VIEW: Open.
-/
import Derived.Test.YtjipokilidhnoaaView10
namespace Go.Proofs.Ytjipokilidhnoaa
open Go.RowKit
set_option linter.unusedVariables false
set_option maxRecDepth 100000

set_option maxHeartbeats 400000 in
theorem read_any (A : Option Addr) (g c : Nat) (l : List UInt8) (w : World) (h : seen w A g l) (hb : l.length ≤ 140737488355328) :
    Calls Try.prog 21 #[.slice A l.length c] w fun e w' => ∃ p g', e = .returned (.pointer (some ⟨p, 0, none⟩)) ∧ isR w' p g' ⟨l, 0⟩ ∧ w.heap.size ≤ p ∧ w.heap.size ≤ g' ∧ keepBut [] w w' := by
  obtain ⟨i0, hi0, hz0, hz1, hz2⟩ := info_parts infoU8
  have HS := Lib.hid h.reads
  go_enter Try.func21, Try.ntmps21
  go_wp2_with (at_builtin; refine wp_append _ rfl _ _ 22 rfl 5 i0 (.int .u8 0) 1 1 Try.underlying22 hi0 hz0 hz1 hz2 rfl (by decide) (.slice none 0 0) 0 [] rfl (owns.nil _ _ _) A g l.length c _ (by simp [Act.eval]) HS.out (by intro u hu; simp at hu; obtain ⟨b, _, rfl⟩ := hu; rfl) (by omega) (by unfold maxLen; omega) ?_; intro A2 c2 w2 hown2 hkb2 hloc2)
  go_ret
  simp only [Nat.zero_add, List.nil_append] at hown2 hloc2
  have hfr : ∀ x ∈ homes (.slice A2 l.length c2), w.heap.size ≤ x := fun x hx => by
    rcases hloc2 x hx with h1 | h1
    · simp [homes_none] at h1
    · exact h1
  obtain ⟨A3, c3, g3, he, h1, h2, h3, h4⟩ := hown2.seen
  obtain ⟨rfl, _, rfl⟩ : A2 = A3 ∧ True ∧ c2 = c3 := by injection he with a b c; exact ⟨a, trivial, c⟩
  have hkA : keepBut [] w2 (w2.alloc (.cells #[.slice A2 l.length c2, .int .i64 0] 83)) := (keepBut.refl [] w2).alloc _
  by_cases hl : l = []
  · subst hl
    exact ⟨w2.heap.size, w2.heap.size + 1, rfl, ⟨A2, c2, rowAt.new _ _ _, h1, h2, seen.nil _ _ _, fun h => absurd rfl h⟩, hkb2.size, by have := hkb2.size; omega, hkb2.then hkA (by simp)⟩
  · have hin := h4 hl
    have hg3 : g3 < w2.heap.size := hown2.lt g3 hin
    exact ⟨w2.heap.size, g3, rfl, ⟨A2, c2, rowAt.new _ _ _, h1, h2, h3.keep hkA (by simp), fun _ => by omega⟩, hkb2.size, hfr g3 hin, hkb2.then hkA (by simp)⟩

theorem isR.base {w : World} {p g : Nat} {r : RS} (h : isR w p g r) : ∃ g', isR w p g' r ∧ g' < w.heap.size ∧ (g' = g ∨ g' = p) := by
  obtain ⟨A, c, h1, h2, h3, h4, h5⟩ := id h
  by_cases hl : r.l = []
  · exact ⟨p, ⟨A, c, h1, h2, h3, fun hne => absurd hl hne, fun hne => absurd hl hne⟩, h1.lt, .inr rfl⟩
  · obtain ⟨o, _, hg, _⟩ := h4 hl
    exact ⟨g, h, hg, .inl rfl⟩
theorem cnt_most (most : Int) (h0 : 0 ≤ most) : ∀ (l : List UInt8) (s n : Nat), (cnt most l s n).1 ≤ most := by
  intro l
  induction l with
  | nil => intro s n; simp [cnt, h0]
  | cons b t ih =>
    intro s n
    unfold cnt
    split
    · simp [h0]
    · split
      · split
        · simp [h0]
        · split
          · simp [h0]
          · simp only; omega
      · split
        · simp [h0]
        · exact ih _ _
theorem RS.count_most (r : RS) (most : Int) (h0 : 0 ≤ most) : (r.count most).1 ≤ most := by
  unfold RS.count; split
  · exact cnt_most _ h0 _ _ _
  · simp [h0]
theorem RS.text_len (r : RS) : (r.text 65536).1.length ≤ 65536 := by
  have h := r.count_most 65536 (by omega)
  unfold RS.text RS.raw
  split
  · simp
  · simp only
    unfold RS.take
    split
    · rw [List.length_take]; omega
    · simp
theorem RS.fail_short (r : RS) (x : Int) : (r.fail x).l.length ≤ r.l.length := by unfold RS.fail; split <;> simp
theorem RS.past_short (r : RS) (n : Nat) : (r.past n).l.length ≤ r.l.length := by
  unfold RS.past
  split
  · split
    · simp only [List.length_drop]; omega
    · simp
  · exact Nat.le_refl _
theorem RS.num_short (r : RS) (n : Int) : (r.num n).2.l.length ≤ r.l.length := by
  have h1 := fun x => r.fail_short x
  have h2 := fun k => r.past_short k
  have h3 := fun k x => Nat.le_trans ((r.past k).fail_short x) (r.past_short k)
  unfold RS.num
  repeat' split
  all_goals first | exact h1 _ | exact h2 _ | exact h3 _ _ | exact Nat.le_refl _
theorem RS.text_short (r : RS) (m : Int) : (r.text m).2.l.length ≤ r.l.length := by
  have h1 := r.count_short m
  unfold RS.text RS.raw
  split
  · exact Nat.le_trans ((r.count m).2.fail_short 2) h1
  · exact Nat.le_trans ((r.count m).2.past_short _) h1
/-- where Open stands -/
structure OS where
  step : Int
  formed : Bool
  rd : RS
  rows : List VR
def openStep (x : OS) : OS :=
  ⟨IntKind.i64.wrap (x.step + (x.rd.count 9007199254740991).1),
   x.formed && VR.okay ⟨IntKind.i64.wrap (x.step + (x.rd.count 9007199254740991).1), ((x.rd.count 9007199254740991).2.num 1).1, (((x.rd.count 9007199254740991).2.num 1).2.num 1).1, ((((x.rd.count 9007199254740991).2.num 1).2.num 1).2.text 65536).1⟩,
   ((((x.rd.count 9007199254740991).2.num 1).2.num 1).2.text 65536).2,
   x.rows ++ [⟨IntKind.i64.wrap (x.step + (x.rd.count 9007199254740991).1), ((x.rd.count 9007199254740991).2.num 1).1, (((x.rd.count 9007199254740991).2.num 1).2.num 1).1, ((((x.rd.count 9007199254740991).2.num 1).2.num 1).2.text 65536).1⟩]⟩
def openTo (b : List UInt8) : Nat → OS
  | 0 => ⟨0, true, ((RS.mk b 0).count 20000).2, []⟩
  | k + 1 => openStep (openTo b k)
def openN (b : List UInt8) : Nat := ((RS.mk b 0).count 20000).1.toNat
theorem openTo_len (b : List UInt8) : ∀ k, (openTo b k).rows.length = k
  | 0 => rfl
  | k + 1 => by
    show (openStep (openTo b k)).rows.length = k + 1
    simp [openStep, openTo_len b k]
theorem openTo_short (b : List UInt8) : ∀ k, (openTo b k).rd.l.length ≤ b.length
  | 0 => (RS.mk b 0).count_short 20000
  | k + 1 => by
    have h0 := openTo_short b k
    have h1 := (openTo b k).rd.count_short 9007199254740991
    have h2 := ((openTo b k).rd.count 9007199254740991).2.num_short 1
    have h3 := (((openTo b k).rd.count 9007199254740991).2.num 1).2.num_short 1
    have h4 := ((((openTo b k).rd.count 9007199254740991).2.num 1).2.num 1).2.text_short 65536
    show (openStep (openTo b k)).rd.l.length ≤ b.length
    unfold openStep
    dsimp only
    omega
/-- the reader, and the view that grows -/
structure openAt (w0 w : World) (rp rg : Nat) (r : RS) (p : Nat) (F : List Nat) (l : List VR) : Prop where
  rd : isR w rp rg r
  vw : isV w p F l
  rpF : rp ∉ F
  rgF : rg ∉ F
  rgL : rg < w.heap.size
  rp0 : w0.heap.size ≤ rp
  rg0 : w0.heap.size ≤ rg
  F0 : ∀ y ∈ F, w0.heap.size ≤ y
  kept : keepBut [] w0 w
theorem openAt.read {w0 w w' : World} {rp rg p : Nat} {r r' : RS} {F : List Nat} {l : List VR} (h : openAt w0 w rp rg r p F l) (hr : isR w' rp rg r') (hk : keepBut [rp] w w') : openAt w0 w' rp rg r' p F l :=
  ⟨hr, h.vw.keep hk (fun y hy hm => h.rpF (List.mem_singleton.1 hm ▸ hy)), h.rpF, h.rgF, Nat.lt_of_lt_of_le h.rgL hk.size, h.rp0, h.rg0, h.F0, h.kept.then hk (fun y hy => .inr (by rw [List.mem_singleton.1 hy]; exact h.rp0))⟩
theorem openAt.over {w0 w w' : World} {rp rg p : Nat} {r : RS} {F : List Nat} {l : List VR} (h : openAt w0 w rp rg r p F l) (hk : keepBut [] w w') : openAt w0 w' rp rg r p F l :=
  ⟨h.rd.keep hk (by simp) (by simp), h.vw.over hk, h.rpF, h.rgF, Nat.lt_of_lt_of_le h.rgL hk.size, h.rp0, h.rg0, h.F0, h.kept.then hk (by simp)⟩
theorem openAt.grow {w0 w w' : World} {rp rg p : Nat} {r : RS} {F G F' : List Nat} {l l' : List VR} (h : openAt w0 w rp rg r p F l) (hv : isV w' p F' l') (hk : keepBut F w w') (hF : ∀ y ∈ F', y ∈ F ∨ y ∈ G ∨ w.heap.size ≤ y) (hG : ∀ y ∈ G, w0.heap.size ≤ y ∧ y ≠ rp ∧ y ≠ rg) : openAt w0 w' rp rg r p F' l' := by
  have hpl := h.rd.lt
  have hs := h.kept.size
  have hrl := h.rgL
  refine ⟨h.rd.keep hk h.rpF (fun _ => h.rgF), hv, fun hm => ?_, fun hm => ?_, Nat.lt_of_lt_of_le h.rgL hk.size, h.rp0, h.rg0, fun y hy => ?_, h.kept.then hk (fun y hy => .inr (h.F0 y hy))⟩
  · rcases hF rp hm with q | q | q
    · exact h.rpF q
    · exact (hG rp q).2.1 rfl
    · omega
  · rcases hF rg hm with q | q | q
    · exact h.rgF q
    · exact (hG rg q).2.2 rfl
    · omega
  · rcases hF y hy with q | q | q
    · exact h.F0 y q
    · exact (hG y q).1
    · omega
def openRel (w : World) (b : List UInt8) (rp rg p : Nat) (v15 v7 v6 : Value) (wx : World) : Prop := ∃ (k : Nat) (F : List Nat), k ≤ openN b ∧ v15 = .int .i64 (k : Int) ∧ v7 = .int .i64 (openTo b k).step ∧ v6 = .bool (openTo b k).formed ∧ openAt w wx rp rg (openTo b k).rd p F (openTo b k).rows
def openPost (b : List UInt8) (w : World) (e : Ending) (w' : World) : Prop := keepBut [] w w' ∧
  (((openTo b (openN b)).rd.end_ ≠ 0 ∧ e = .returned (.tuple #[.pointer none, .int .i64 (openTo b (openN b)).rd.end_])) ∨
   ((openTo b (openN b)).rd.end_ = 0 ∧ (openTo b (openN b)).formed = false ∧ e = .returned (.tuple #[.pointer none, .int .i64 4])) ∨
   ((openTo b (openN b)).rd.end_ = 0 ∧ (openTo b (openN b)).formed = true ∧ ∃ p F, e = .returned (.tuple #[.pointer (some ⟨p, 0, none⟩), .int .i64 0]) ∧ isV w' p F (openTo b (openN b)).rows ∧ ∀ y ∈ F, w.heap.size ≤ y))
set_option maxHeartbeats 4000000 in
theorem openV_any (A : Option Addr) (g c : Nat) (b : List UInt8) (w : World) (h : seen w A g b) (hb : b.length ≤ 140737488355328) :
    Calls Try.prog 6 #[.slice A b.length c] w (openPost b w) := by
  have HH := Lib.hid h
  clear h
  go_enter Try.func6, Try.ntmps6
  go_wp2_with fail
  refine (read_any A g c b _ HH.out hb).mono ?_; rintro e w1 ⟨rp, rg0, rfl, hr, hrp, hrg, k1⟩
  obtain ⟨rg, hr', hrl, hrr⟩ := hr.base
  have hrg' : w.heap.size ≤ rg := by rcases hrr with rfl | rfl <;> assumption
  have H1 := Lib.hid (And.intro hr' (And.intro hrl (And.intro hrp (And.intro hrg' k1))))
  clear hr hr' hrl hrr hrp hrg hrg' k1
  go_wp2_with fail
  refine (newV_any _).mono ?_; rintro e w2 ⟨p, F, rfl, h2, hF, k2⟩
  have hA : openAt w w2 rp rg ⟨b, 0⟩ p F [] := by
    obtain ⟨a1, a2, a3, a4, a5⟩ := H1.out
    have hl := a1.lt
    have hs := a5.size
    exact ⟨a1.keep k2 (by simp) (by simp), h2, fun hm => by have := hF rp hm; omega, fun hm => by have := hF rg hm; omega, Nat.lt_of_lt_of_le a2 k2.size, a3, a4, fun y hy => Nat.le_trans hs (hF y hy), a5.then k2 (by simp)⟩
  have H2 := Lib.hid hA
  clear h2 hF k2 hA H1
  go_wp2_with fail
  refine (count_any rp rg ⟨b, 0⟩ 20000 _ H2.out.rd).mono ?_; rintro e w3 ⟨rfl, r3, k3⟩
  have hN0 := (RS.mk b 0).count_range 20000
  have hN1 := (RS.mk b 0).count_most 20000 (by omega)
  have hNN : ((RS.mk b 0).count 20000).1 = (openN b : Int) := by unfold openN; omega
  have hNb : openN b ≤ 20000 := by omega
  have H3 := Lib.hid (show openAt w w3 rp rg (openTo b 0).rd p F (openTo b 0).rows from H2.out.read r3 k3)
  rw [hNN]
  clear r3 k3 H2 hN0 hN1 hNN
  go_wp2_with fail
  go_loopw [15, 7, 6, 8] (fun v15 v7 v6 _ wx => openRel w b rp rg p v15 v7 v6 wx) (fun v15 _ _ _ _ => openN b - (intOf v15).toNat)
  case atStart => exact ⟨0, F, by omega, rfl, rfl, rfl, H3.out⟩
  case round =>
    obtain ⟨k, F, hk, rfl, rfl, rfl, ho⟩ := hrel
    clear H3
    by_cases hlt : k < openN b
    · have hlt' : (k : Int) < (openN b : Int) := by omega
      have hsh := openTo_short b k
      have hlen := openTo_len b k
      have hll : (openTo b k).rows.length ≤ 1000000 := by omega
      have HS0 := Lib.hid (show openTo b (k + 1) = openStep (openTo b k) from rfl)
      clear hlen
      generalize openTo b k = x at *
      obtain ⟨st, fm, rd, rows⟩ := x
      dsimp only at ho hll hsh ⊢
      have HO := Lib.hid ho
      clear ho
      obtain ⟨q1, hq1⟩ : ∃ q1, rd.count 9007199254740991 = q1 := ⟨_, rfl⟩
      obtain ⟨cn, rd1⟩ := q1
      obtain ⟨q2, hq2⟩ : ∃ q2, rd1.num 1 = q2 := ⟨_, rfl⟩
      obtain ⟨nd, rd2⟩ := q2
      obtain ⟨q3, hq3⟩ : ∃ q3, rd2.num 1 = q3 := ⟨_, rfl⟩
      obtain ⟨kd, rd3⟩ := q3
      obtain ⟨q4, hq4⟩ : ∃ q4, rd3.text 65536 = q4 := ⟨_, rfl⟩
      obtain ⟨bs, rd4⟩ := q4
      have hbs : bs.length ≤ 65536 := by have := rd3.text_len; rw [hq4] at this; exact this
      obtain ⟨ns, hns⟩ : ∃ ns, IntKind.i64.wrap (st + cn) = ns := ⟨_, rfl⟩
      have HS := Lib.hid (show openTo b (k + 1) = ⟨ns, fm && VR.okay ⟨ns, nd, kd, bs⟩, rd4, rows ++ [⟨ns, nd, kd, bs⟩]⟩ by rw [HS0.out]; simp only [openStep, hq1, hq2, hq3, hq4, hns])
      have HC1 := Lib.hid (fun (W : World) h => count_any rp rg rd 9007199254740991 W h)
      have HC2 := Lib.hid (fun (W : World) h => num_any rp rg rd1 1 W h)
      have HC3 := Lib.hid (fun (W : World) h => num_any rp rg rd2 1 W h)
      have HC4 := Lib.hid (fun (W : World) h hb => text_any rp rg rd3 65536 W h hb)
      unfold countPost at HC1
      unfold numPost at HC2 HC3
      unfold textPost at HC4
      rw [hq1] at HC1
      rw [hq2] at HC2
      rw [hq3] at HC3
      rw [hq4] at HC4
      dsimp only at HC1 HC2 HC3 HC4
      have HQQ := Lib.hid (And.intro hq1 (And.intro hq2 (And.intro hq3 hq4)))
      clear hq1 hq2 hq3 hq4 HS0
      go_wp2_with fail
      refine (HC1.out _ HO.out.rd).mono ?_; rintro e w4 ⟨rfl, r4, k4⟩
      have H4 := Lib.hid (HO.out.read r4 k4)
      clear r4 k4
      go_wp2_with fail
      refine (HC2.out _ H4.out.rd).mono ?_; rintro e w5 ⟨rfl, r5, k5⟩
      have H5 := Lib.hid (H4.out.read r5 k5)
      clear r5 k5
      go_wp2_with fail
      refine (HC3.out _ H5.out.rd).mono ?_; rintro e w6 ⟨rfl, r6, k6⟩
      have H6 := Lib.hid (H5.out.read r6 k6)
      clear r6 k6
      have hrl : rd3.l.length ≤ 140737488355328 := by
        have h1 := rd.count_short 9007199254740991
        rw [HQQ.out.1] at h1
        have h2 := rd1.num_short 1
        rw [HQQ.out.2.1] at h2
        have h3 := rd2.num_short 1
        rw [HQQ.out.2.2.1] at h3
        dsimp only at h1 h2 h3
        omega
      go_wp2_with fail
      refine (HC4.out _ H6.out.rd hrl).mono ?_; rintro e w7 ⟨tv, rfl, hfr, r7, k7⟩
      have hbh := hfr.1.heldB (by omega)
      obtain ⟨A', n, gb, rfl, -⟩ := id hbh
      have H7 := Lib.hid (And.intro (H6.out.read r7 k7) (And.intro hbh (And.intro hfr.2 (And.intro H6.out.rd.lt (And.intro H6.out.rgL (And.intro H6.out.kept.size hfr.1.ltV))))))
      clear r7 k7 hbh hfr hrl
      go_upto_region 9 with fail
      have ka := (keepBut.refl [] w7).alloc (.cells #[.int .i64 ns, .int .i64 nd, .int .i64 kd, .slice A' bs.length n] 46)
      have ra := rowAt.new w7 46 #[.int .i64 ns, .int .i64 nd, .int .i64 kd, .slice A' bs.length n]
      have HQa := Lib.hid (And.intro (H7.out.1.over ka) (And.intro (H7.out.2.1.keep ka (by simp)) ka))
      have htF : w7.heap.size ∉ F := fun hm => Nat.lt_irrefl _ (H7.out.1.vw.lt _ hm)
      have hGv7 : ∀ y ∈ homes (.slice A' bs.length n), y ∉ F ∧ y < w7.heap.size := fun y hy => ⟨fun hm => by
        have h1 := H6.out.vw.lt y hm; have h2 := H7.out.2.2.1 y hy; omega, H7.out.2.2.2.2.2.2 y hy⟩
      have HGG := Lib.hid (show ∀ y ∈ homes (.slice A' bs.length n), w.heap.size ≤ y ∧ y ≠ rp ∧ y ≠ rg from fun y hy => by
        have h2 := H7.out.2.2.1 y hy; have h3 := H7.out.2.2.2.1; have h4 := H7.out.2.2.2.2.1; have h5 := H7.out.2.2.2.2.2.1
        exact ⟨by omega, by omega, by omega⟩)
      have hGva : ∀ y ∈ homes (.slice A' bs.length n), y ∉ F ∧ y < (w7.alloc (.cells #[.int .i64 ns, .int .i64 nd, .int .i64 kd, .slice A' bs.length n] 46)).heap.size := fun y hy => ⟨(hGv7 y hy).1, Nat.lt_of_lt_of_le (hGv7 y hy).2 ka.size⟩
      clear ka hGv7
      obtain ⟨wa, hwa⟩ : ∃ wa, w7.alloc (.cells #[.int .i64 ns, .int .i64 nd, .int .i64 kd, .slice A' bs.length n] 46) = wa := ⟨_, rfl⟩
      rw [hwa] at HQa ra hGva ⊢
      obtain ⟨tb, htb⟩ : ∃ tb, w7.heap.size = tb := ⟨_, rfl⟩
      rw [htb] at ra htF ⊢
      clear hwa htb
      have hta := ra.lt
      have sya : wa.cell? ⟨tb, 0, none⟩ = some (.int .i64 ns) ∧ wa.cell? ⟨tb, 1, none⟩ = some (.int .i64 nd) ∧ wa.cell? ⟨tb, 2, none⟩ = some (.int .i64 kd) ∧ wa.cell? ⟨tb, 3, none⟩ = some (.slice A' bs.length n) := ⟨ra.cell 0, ra.cell 1, ra.cell 2, ra.cell 3⟩
      clear ra
      have HV := Lib.hid (fun (W : World) => valid_any ⟨ns, nd, kd, bs⟩ A' n W (by show bs.length ≤ _; omega))
      dsimp only at HV
      generalize VR.okay ⟨ns, nd, kd, bs⟩ = okv at *
      cases fm with
      | true =>
          go_wp2_with fail
          refine (HV.out _).mono ?_; rintro e w8 ⟨rfl, k8⟩
          have sy8' := four_keep k8 hta (by simp) sya
          have HO8 := Lib.hid (HQa.out.1.over k8)
          have HBV := Lib.hid (HQa.out.2.1.keep k8 (by simp))
          have HGW := Lib.hid (show ∀ y ∈ homes (.slice A' bs.length n), y ∉ F ∧ y < w8.heap.size from fun y hy => ⟨(hGva y hy).1, Nat.lt_of_lt_of_le (hGva y hy).2 k8.size⟩)
          have HTB := Lib.hid (show tb < w8.heap.size from Nat.lt_of_lt_of_le hta k8.size)
          clear k8 sya hGva hta
          have SY : w8.drew.cell? ⟨tb, 0, none⟩ = some (.int .i64 ns) ∧ w8.drew.cell? ⟨tb, 1, none⟩ = some (.int .i64 nd) ∧ w8.drew.cell? ⟨tb, 2, none⟩ = some (.int .i64 kd) ∧ w8.drew.cell? ⟨tb, 3, none⟩ = some (.slice A' bs.length n) := sy8'
          have HQ := Lib.hid (openAt.over HO8.out ((keepBut.refl [] w8).drew))
          have iv := HQ.out.vw
          have hbv := HBV.out.keep ((keepBut.refl [] w8).drew) (by simp)
          have hGv : ∀ y ∈ homes (.slice A' bs.length n), y ∉ F ∧ y < w8.drew.heap.size := HGW.out
          have htb9 : tb < w8.drew.heap.size := HTB.out
          go_upto_region 10 with fail
          go_region_held3 (fun w' => w'.cell? ⟨tb, 0, none⟩ = some (.int .i64 ns) ∧ w'.cell? ⟨tb, 1, none⟩ = some (.int .i64 nd) ∧ w'.cell? ⟨tb, 2, none⟩ = some (.int .i64 kd) ∧ w'.cell? ⟨tb, 3, none⟩ = some (.slice A' bs.length n)) (first | exact SY | exact sy8)
            (first
              | (go_at_call 27; (with_reducible refine (addR_n p F (homes (.slice A' bs.length n)) rows ns nd kd bs A' n _ iv hbv hGv hll).mono ?_); rintro e w9 ⟨rfl, F9, i9, k9, f9⟩; have sy8 := four_keep k9 htb9 htF SY; have H9 := Lib.hid (And.intro i9 (And.intro k9 f9)); clear i9 k9 f9)
              | fail)
          clear SY sy8
          go_wp2_with fail
          go_roundw
          case rel => exact ⟨k + 1, F9, by omega, by go_num, by rw [HS.out], by rw [HS.out]; simp, by rw [HS.out]; exact HQ.out.grow (G := homes (.slice A' bs.length n)) H9.out.1 H9.out.2.1 H9.out.2.2 HGG.out⟩
          case measure => simp [intOf]; omega
      | false =>
          have HBV := Lib.hid (HQa.out.2.1)
          have HGW := Lib.hid (show ∀ y ∈ homes (.slice A' bs.length n), y ∉ F ∧ y < wa.heap.size from hGva)
          have HTB := Lib.hid (show tb < wa.heap.size from hta)
          clear hGva hta
          have SY : wa.drew.cell? ⟨tb, 0, none⟩ = some (.int .i64 ns) ∧ wa.drew.cell? ⟨tb, 1, none⟩ = some (.int .i64 nd) ∧ wa.drew.cell? ⟨tb, 2, none⟩ = some (.int .i64 kd) ∧ wa.drew.cell? ⟨tb, 3, none⟩ = some (.slice A' bs.length n) := sya
          have HQ := Lib.hid (openAt.over HQa.out.1 ((keepBut.refl [] wa).drew))
          have iv := HQ.out.vw
          have hbv := HBV.out.keep ((keepBut.refl [] wa).drew) (by simp)
          have hGv : ∀ y ∈ homes (.slice A' bs.length n), y ∉ F ∧ y < wa.drew.heap.size := HGW.out
          have htb9 : tb < wa.drew.heap.size := HTB.out
          go_upto_region 10 with fail
          go_region_held3 (fun w' => w'.cell? ⟨tb, 0, none⟩ = some (.int .i64 ns) ∧ w'.cell? ⟨tb, 1, none⟩ = some (.int .i64 nd) ∧ w'.cell? ⟨tb, 2, none⟩ = some (.int .i64 kd) ∧ w'.cell? ⟨tb, 3, none⟩ = some (.slice A' bs.length n)) (first | exact SY | exact sy8)
            (first
              | (go_at_call 27; (with_reducible refine (addR_n p F (homes (.slice A' bs.length n)) rows ns nd kd bs A' n _ iv hbv hGv hll).mono ?_); rintro e w9 ⟨rfl, F9, i9, k9, f9⟩; have sy8 := four_keep k9 htb9 htF SY; have H9 := Lib.hid (And.intro i9 (And.intro k9 f9)); clear i9 k9 f9)
              | fail)
          clear SY sy8
          go_wp2_with fail
          go_roundw
          case rel => exact ⟨k + 1, F9, by omega, by go_num, by rw [HS.out], by rw [HS.out]; simp, by rw [HS.out]; exact HQ.out.grow (G := homes (.slice A' bs.length n)) H9.out.1 H9.out.2.1 H9.out.2.2 HGG.out⟩
          case measure => simp [intOf]; omega
    · obtain rfl : k = openN b := by omega
      have hend := Lib.hid (fun (W : World) h => end_any rp rg (openTo b (openN b)).rd W h)
      obtain ⟨x, hx⟩ : ∃ x, openTo b (openN b) = x := ⟨_, rfl⟩
      rw [hx] at ho hend ⊢
      obtain ⟨st, fm, rd, rows⟩ := x
      dsimp only at ho hend ⊢
      have HO := Lib.hid ho
      clear ho
      obtain ⟨er, her⟩ : ∃ er, rd.end_ = er := ⟨_, rfl⟩
      rw [her] at hend
      have HX := Lib.hid (And.intro hx her)
      clear hx her
      go_wp2_with fail
      refine (hend.out _ HO.out.rd).mono ?_; rintro e w4 ⟨rfl, rfl⟩
      by_cases he : er = 0
      · subst he
        cases fm with
        | true =>
          go_wp2
          go_ret2
          unfold openPost
          rw [HX.out.1]
          exact ⟨HO.out.kept, .inr (.inr ⟨HX.out.2, rfl, p, F, rfl, HO.out.vw, HO.out.F0⟩)⟩
        | false =>
          go_wp2
          go_ret2
          unfold openPost
          rw [HX.out.1]
          exact ⟨HO.out.kept, .inr (.inl ⟨HX.out.2, rfl, rfl⟩)⟩
      · have he' : (er != 0) = true := by simpa using he
        have HE := Lib.hid he
        clear he
        go_wp2
        go_ret2
        unfold openPost
        rw [HX.out.1]
        dsimp only
        rw [HX.out.2]
        exact ⟨HO.out.kept, .inl ⟨HE.out, rfl⟩⟩
end Go.Proofs.Ytjipokilidhnoaa
