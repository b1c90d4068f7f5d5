/-
  DiskKeeps: what was synced lasts, what was not is lost from its end alone.
-/
import Derived.Test.YtaclpogcedgojaaDiskKeepsPure
namespace Go.Proofs.Ytaclpogcedgojaa
open Go.RowKit
set_option linter.unusedVariables false

/-- the disk, and beside it a slice that shows all -/
def keepsAt (w0 wx : World) (p : Nat) (F : List Nat) (d : DS) (A : Option Addr) (g c : Nat) (all : List UInt8) : Prop :=
  dOn w0 wx p F d ∧ seen wx A g all ∧ (all ≠ [] → g ∉ F) ∧ all.length ≤ c ∧ c ≤ maxLen
theorem keepsAt.over {w0 wx wy : World} {p : Nat} {F : List Nat} {d : DS} {A : Option Addr} {g c : Nat} {all : List UInt8} (h : keepsAt w0 wx p F d A g c all) (hk : keepBut [] wx wy) : keepsAt w0 wy p F d A g c all :=
  ⟨h.1.over hk, h.2.1.keep hk (by simp), h.2.2⟩
theorem keepsAt.step {w0 w w' : World} {p : Nat} {F : List Nat} {d d' : DS} {A : Option Addr} {g c : Nat} {all : List UInt8} {r : Int} {e : Ending} (h : keepsAt w0 w p F d A g c all) (hp : dPost p F d' r w e w') :
    e = .returned (.int .i64 r) ∧ ∃ F', keepsAt w0 w' p F' d' A g c all := by
  obtain ⟨he, F', hd, hk, hF⟩ := h.1.step hp
  refine ⟨he, F', hd, h.2.1.keep hk h.2.2.1, fun hne hm => ?_, h.2.2.2⟩
  rcases hF g hm with h1 | h1
  · exact h.2.2.1 hne h1
  · obtain ⟨o, _, hlt, _⟩ := h.2.1 hne; omega
theorem keepsAt.take {w0 wx : World} {p : Nat} {F : List Nat} {d : DS} {A : Option Addr} {g c : Nat} {all : List UInt8} (h : keepsAt w0 wx p F d A g c all) (k : Nat) : keepsAt w0 wx p F d A g c (all.take k) :=
  ⟨h.1, h.2.1.take k, fun hne => h.2.2.1 (by rintro rfl; simp at hne), by have := h.2.2.2.1; rw [List.length_take]; omega, h.2.2.2.2⟩
/-- a slice of the call's own, made behind the disk -/
theorem keepsAt.fresh {w0 wx wy : World} {p : Nat} {F : List Nat} {d : DS} {v : Value} {l : List UInt8} (h : dOn w0 wx p F d) (hk : keepBut [] wx wy) (ho : owns wy 5 1 v l.length (l.map bv)) (hf : ∀ x ∈ homes v, wx.heap.size ≤ x) :
    ∃ A g c, v = .slice A l.length c ∧ keepsAt w0 wy p F d A g c l := by
  obtain ⟨A, c, g, rfl, hc, hm, hs, hg⟩ := ho.seen
  exact ⟨A, g, c, rfl, h.over hk, hs, fun hne hm => by have := hf g (hg hne); have := h.1.lt g hm; omega, hc, hm⟩

theorem keeps_append {w0 wq w4 w5 : World} {p : Nat} {F : List Nat} {d : DS} {A4 A5 : Option Addr} {c4 c5 : Nat} {l b : List UInt8} (hd : dOn w0 wq p F d) (hk4 : keepBut [] wq w4) (hf4 : ∀ x ∈ homes (.slice A4 l.length c4), wq.heap.size ≤ x)
    (hown5 : owns w5 5 1 (.slice A5 (l.length + b.length) c5) (l.length + b.length) (l.map bv ++ b.map bv)) (hkb5 : keepBut (homes (.slice A4 l.length c4)) w4 w5)
    (hloc5 : ∀ y ∈ homes (.slice A5 (l.length + b.length) c5), y ∈ homes (.slice A4 l.length c4) ∨ w4.heap.size ≤ y) : ∃ g, keepsAt w0 w5 p F d A5 g c5 (l ++ b) := by
  have ho : owns w5 5 1 (.slice A5 (l ++ b).length c5) (l ++ b).length ((l ++ b).map bv) := by rw [List.length_append, List.map_append]; exact hown5
  obtain ⟨A, c, g, he, hc, hm, hs, hg⟩ := ho.seen
  obtain ⟨rfl, rfl⟩ : A5 = A ∧ c5 = c := by injection he with e1 e2 e3; exact ⟨e1, e3⟩
  have hlt := hd.1.lt
  have h4 := hk4.size
  rw [List.length_append] at hg
  refine ⟨g, (hd.over hk4).keepOff2 hkb5 (fun y hy hm => by have := hlt y hy; have := hf4 y hm; omega) (fun y hy => by have := hf4 y hy; have := hd.2.2.size; omega), hs, fun hne hm => ?_, hc, hm⟩
  have := hlt g hm
  rcases hloc5 g (hg hne) with h1 | h1
  · have := hf4 g h1; omega
  · omega

def keepsMid (w0 : World) (p i : Nat) (v4 v5 : Value) (wx : World) : Prop :=
  ∃ (F : List Nat) (d : DS) (A : Option Addr) (g c : Nat) (all : List UInt8) (s : Nat), v4 = .slice A all.length c ∧ v5 = .int .i64 (s : Int) ∧ keepsAt w0 wx p F d A g c all ∧ kP d all s ∧ all.length ≤ 300 * (i + 1) ∧ d.t.length ≤ i + 1
def keepsRel (w0 : World) (p n : Nat) (v4 v5 v6 : Value) (wx : World) : Prop :=
  ∃ (i : Nat) (F : List Nat) (d : DS) (A : Option Addr) (g c s : Nat), v6 = .int .i64 (i : Int) ∧ i ≤ n ∧ i ≤ 80 ∧ v4 = .slice A d.b.length c ∧ v5 = .int .i64 (s : Int) ∧ keepsAt w0 wx p F d A g c d.b ∧ kH d s ∧ d.b.length ≤ 300 * i ∧ d.t.length ≤ i

set_option maxRecDepth 100000 in
set_option maxHeartbeats 4000000 in
theorem diskKeeps_law (B : Option Addr) (n c : Nat) (w : World) (ps : dos w B n) (hn : n ≤ c) (hc : c ≤ maxLen) :
    Calls Try.prog 4 #[.slice B n c] w (yesPost w) := by
  unfold maxLen at hc
  have PS := Lib.hid ps
  clear ps
  go_enter Try.func4, Try.ntmps4
  go_wp2_with fail
  refine (works_any _).mono ?_; rintro e w7 ⟨rfl, k7⟩
  go_wp2_with fail
  refine (newD_any _).mono ?_; intro e w1 hq; obtain ⟨p, F1, rfl, h1⟩ := dOn.start k7 hq; clear hq k7
  go_wp2_with fail
  go_loopw [4, 5, 6] (fun v4 v5 v6 wr => keepsRel w p n v4 v5 v6 wr) (fun _ _ v6 _ => n - (intOf v6).toNat)
  case atStart => exact ⟨0, F1, DS.new, none, 0, 0, 0, rfl, Nat.zero_le _, by omega, rfl, rfl, ⟨h1, seen.nil _ _ _, fun h => absurd rfl h, Nat.le_refl _, by simp [maxLen]⟩, ⟨Nat.le_refl _, Nat.le_refl _, fun h => by simp [DS.new] at h⟩, by simp [DS.new], by simp [DS.new]⟩
  case round =>
    clear h1
    obtain ⟨i, F, d, A, g, ca, s, rfl, hin, hi80, rfl, rfl, hK, hH, hbl, htl⟩ := hrel
    by_cases hlt : i < n ∧ i < 80
    · obtain ⟨hi1, hi2⟩ := hlt
      obtain ⟨k0, o, rfl, hkl, hput⟩ := PS.out (by omega)
      obtain ⟨x0, x1, x2, A3, h3, c3, l3, e0, e1, e2, e3, q0, q1, a3, b3, s3, z3⟩ := hput i hi1
      have q0' := bd_int q0
      have q1' := bd_int q1
      have hcl := fun x => hK.1.2.2.cell (p := ⟨k0, x, none⟩) hkl (by simp)
      have f0 := (hcl _).trans e0
      have f1 := (hcl _).trans e1
      have f2 := (hcl _).trans e2
      have f3 := (hcl _).trans e3
      unfold maxLen at b3
      have hi1' : (i : Int) < (n : Int) := by omega
      have hi2' : (i : Int) < 80 := by omega
      obtain ⟨b, hb⟩ : ∃ b, b = l3.take 300 := ⟨_, rfl⟩
      have sb : seen w A3 h3 b := by rw [hb]; exact s3.take 300
      have hb300 : b.length ≤ 300 := by rw [hb, List.length_take]; omega
      have hbc : b.length ≤ c3 := by rw [hb, List.length_take]; omega
      have hmin : (if 300 < (l3.length : Int) then 300 else (l3.length : Int)).toNat = b.length := by rw [hb, List.length_take]; split <;> omega
      have HM := Lib.hid hmin
      have HK := Lib.hid (And.intro hK hH)
      clear hcl e0 e1 e2 e3 hput hb s3 z3 hmin hK hH q0 q1
      go_upto_region 11 with fail
      simp only [HM.out]
      generalize (if 300 < (l3.length : Int) then 300 else (l3.length : Int)) = zz
      obtain ⟨hK, hH⟩ := HK.out
      have hka := (keepBut.refl [] wr).alloc (.cells #[.int .i64 x0, .int .i64 x1, .bool x2, .slice A3 l3.length c3] 30)
      have hKa := hK.over hka
      have hra := rowAt.new wr 30 #[.int .i64 x0, .int .i64 x1, .bool x2, .slice A3 l3.length c3]
      clear hK HK f0 f1 f2 f3 hka
      generalize wr.alloc (.cells #[.int .i64 x0, .int .i64 x1, .bool x2, .slice A3 l3.length c3] 30) = wa at *
      generalize wr.heap.size = ta at *
      have c0 : wa.cell? ⟨ta, 0, none⟩ = some (.int .i64 x0) := hra.cell 0
      have c1 : wa.cell? ⟨ta, 1, none⟩ = some (.int .i64 x1) := hra.cell 1
      have HAB := Lib.hid (hKa.1.arg2 sb)
      have hbl2 : d.b.length ≤ 24000 := by omega
      clear hra
      go_wp2_with fail
      refine (bring_any _ _ q1'.1 q1'.2 (by omega) (by omega) _).mono ?_; rintro e w' ⟨rfl, rfl⟩
      obtain ⟨k, hk⟩ : ∃ k : Nat, x1 % ((d.b.length : Int) + 3) = (k : Int) := ⟨(x1 % ((d.b.length : Int) + 3)).toNat, by have := Int.emod_nonneg x1 (show (d.b.length : Int) + 3 ≠ 0 by omega); omega⟩
      have hk3 : k < d.b.length + 3 := by have := Int.emod_lt_of_pos x1 (show (0 : Int) < (d.b.length : Int) + 3 by omega); omega
      rw [hk]
      clear hk
      go_wp2_with fail
      refine (dead_any p F d _ hKa.1.1).mono ?_; rintro e w' ⟨rfl, rfl⟩
      go_wp2_with fail
      refine (bring_any _ _ q0'.1 q0'.2 (by omega) (by omega) _).mono ?_; rintro e w' ⟨rfl, rfl⟩
      have cs : x0 % 10 = 0 ∨ x0 % 10 = 1 ∨ x0 % 10 = 2 ∨ x0 % 10 = 3 ∨ x0 % 10 = 4 ∨ x0 % 10 = 5 ∨ x0 % 10 = 6 ∨ x0 % 10 = 7 ∨ x0 % 10 = 8 ∨ x0 % 10 = 9 := by omega
      generalize x0 % 10 = ma at cs ⊢
      obtain ⟨i0, hi0, hz0, hz1, hz2⟩ := info_parts infoU8
      have HH := Lib.hid hH
      clear hH
      go_upto_block 2 with fail
      go_cut [4, 5, 10, 43] (fun v4 v5 _ _ wx => keepsMid w p i v4 v5 wx)
      case first =>
        rcases cs with rfl | rfl | rfl | rfl | rfl | rfl | rfl | rfl | rfl | rfl
        · go_wp2_with fail
          refine (writeD_any p F d A3 h3 c3 b _ hKa.1.1 HAB.out.1 HAB.out.2 (by omega) (by omega)).mono ?_; intro e wq hq
          obtain ⟨rfl, F', hK'⟩ := hKa.step hq
          have ht : (d.write b).2.t.length ≤ i + 1 := by rcases write_t d b with ⟨_, h⟩ | ⟨_, h⟩ <;> rw [h] <;> (try simp only [List.length_append, List.length_cons, List.length_nil]) <;> omega
          have sb' := (hK'.1.arg2 sb).1
          clear hq hKa HAB c0 c1
          rcases k_write HH.out b (by omega) with ⟨hd, hr, hp⟩ | ⟨hd, hr, hp⟩
          · have hr' : ((d.write b).1 == 0) = false := by simpa using hr
            have HF := Lib.hid (show keepsMid w p i (.slice A d.b.length ca) (.int .i64 (s : Int)) wq from ⟨F', _, A, g, ca, d.b, s, rfl, rfl, hK', hp, by omega, ht⟩)
            clear hK' hp ht sb'
            rw [hd]
            generalize (d.write b).1 = r at *
            go_wp2_with fail
            go_meet
            exact HF.out
          · rw [hd, hr]
            have hs' := hK'.2.1
            have HP := Lib.hid (And.intro hK'.1 (And.intro hp ht))
            clear hr hp ht hK'
            generalize (d.write b).2 = d' at HP
            go_wp2_with fail
            refine (copyBytes_n _ g _ d.b.length d.b _ rfl hs' (by omega)).mono ?_; rintro e w4 ⟨v4, rfl, ho4, hf4, hk4⟩
            obtain ⟨A4, c4, rfl, _, _, _, _⟩ := ho4.form
            have HO := Lib.hid (And.intro ho4 (sb'.keep hk4 (by simp)).reads)
            have HF := Lib.hid (And.intro hf4 hk4)
            clear ho4 hf4 hk4 hs' sb'
            go_wp2_with (at_builtin; refine wp_append _ rfl (.tmp 56) (.tmp 57) 28 rfl 5 i0 (.int .u8 0) 1 1 Try.underlying28 hi0 hz0 hz1 hz2 rfl (by decide) (.slice A4 d.b.length c4) d.b.length _ rfl HO.out.1 A3 h3 b.length c3 _ rfl HO.out.2 (by intro u hu; simp at hu; obtain ⟨b, _, rfl⟩ := hu; rfl) (by omega) (by unfold maxLen; omega) ?_; intro A5 c5 w5 hown5 hkb5 hloc5)
            go_meet
            obtain ⟨g5, hK5⟩ := keeps_append HP.out.1 HF.out.2 HF.out.1 hown5 hkb5 hloc5
            exact ⟨F', d', A5, g5, c5, d.b ++ b, s, by rw [List.length_append], rfl, hK5, HP.out.2.1, by rw [List.length_append]; omega, HP.out.2.2⟩
        · go_wp2_with fail
          refine (writeD_any p F d A3 h3 c3 b _ hKa.1.1 HAB.out.1 HAB.out.2 (by omega) (by omega)).mono ?_; intro e wq hq
          obtain ⟨rfl, F', hK'⟩ := hKa.step hq
          have ht : (d.write b).2.t.length ≤ i + 1 := by rcases write_t d b with ⟨_, h⟩ | ⟨_, h⟩ <;> rw [h] <;> (try simp only [List.length_append, List.length_cons, List.length_nil]) <;> omega
          have sb' := (hK'.1.arg2 sb).1
          clear hq hKa HAB c0 c1
          rcases k_write HH.out b (by omega) with ⟨hd, hr, hp⟩ | ⟨hd, hr, hp⟩
          · have hr' : ((d.write b).1 == 0) = false := by simpa using hr
            have HF := Lib.hid (show keepsMid w p i (.slice A d.b.length ca) (.int .i64 (s : Int)) wq from ⟨F', _, A, g, ca, d.b, s, rfl, rfl, hK', hp, by omega, ht⟩)
            clear hK' hp ht sb'
            rw [hd]
            generalize (d.write b).1 = r at *
            go_wp2_with fail
            go_meet
            exact HF.out
          · rw [hd, hr]
            have hs' := hK'.2.1
            have HP := Lib.hid (And.intro hK'.1 (And.intro hp ht))
            clear hr hp ht hK'
            generalize (d.write b).2 = d' at HP
            go_wp2_with fail
            refine (copyBytes_n _ g _ d.b.length d.b _ rfl hs' (by omega)).mono ?_; rintro e w4 ⟨v4, rfl, ho4, hf4, hk4⟩
            obtain ⟨A4, c4, rfl, _, _, _, _⟩ := ho4.form
            have HO := Lib.hid (And.intro ho4 (sb'.keep hk4 (by simp)).reads)
            have HF := Lib.hid (And.intro hf4 hk4)
            clear ho4 hf4 hk4 hs' sb'
            go_wp2_with (at_builtin; refine wp_append _ rfl (.tmp 56) (.tmp 57) 28 rfl 5 i0 (.int .u8 0) 1 1 Try.underlying28 hi0 hz0 hz1 hz2 rfl (by decide) (.slice A4 d.b.length c4) d.b.length _ rfl HO.out.1 A3 h3 b.length c3 _ rfl HO.out.2 (by intro u hu; simp at hu; obtain ⟨b, _, rfl⟩ := hu; rfl) (by omega) (by unfold maxLen; omega) ?_; intro A5 c5 w5 hown5 hkb5 hloc5)
            go_meet
            obtain ⟨g5, hK5⟩ := keeps_append HP.out.1 HF.out.2 HF.out.1 hown5 hkb5 hloc5
            exact ⟨F', d', A5, g5, c5, d.b ++ b, s, by rw [List.length_append], rfl, hK5, HP.out.2.1, by rw [List.length_append]; omega, HP.out.2.2⟩
        · go_wp2_with fail
          refine (writeD_any p F d A3 h3 c3 b _ hKa.1.1 HAB.out.1 HAB.out.2 (by omega) (by omega)).mono ?_; intro e wq hq
          obtain ⟨rfl, F', hK'⟩ := hKa.step hq
          have ht : (d.write b).2.t.length ≤ i + 1 := by rcases write_t d b with ⟨_, h⟩ | ⟨_, h⟩ <;> rw [h] <;> (try simp only [List.length_append, List.length_cons, List.length_nil]) <;> omega
          have sb' := (hK'.1.arg2 sb).1
          clear hq hKa HAB c0 c1
          rcases k_write HH.out b (by omega) with ⟨hd, hr, hp⟩ | ⟨hd, hr, hp⟩
          · have hr' : ((d.write b).1 == 0) = false := by simpa using hr
            have HF := Lib.hid (show keepsMid w p i (.slice A d.b.length ca) (.int .i64 (s : Int)) wq from ⟨F', _, A, g, ca, d.b, s, rfl, rfl, hK', hp, by omega, ht⟩)
            clear hK' hp ht sb'
            rw [hd]
            generalize (d.write b).1 = r at *
            go_wp2_with fail
            go_meet
            exact HF.out
          · rw [hd, hr]
            have hs' := hK'.2.1
            have HP := Lib.hid (And.intro hK'.1 (And.intro hp ht))
            clear hr hp ht hK'
            generalize (d.write b).2 = d' at HP
            go_wp2_with fail
            refine (copyBytes_n _ g _ d.b.length d.b _ rfl hs' (by omega)).mono ?_; rintro e w4 ⟨v4, rfl, ho4, hf4, hk4⟩
            obtain ⟨A4, c4, rfl, _, _, _, _⟩ := ho4.form
            have HO := Lib.hid (And.intro ho4 (sb'.keep hk4 (by simp)).reads)
            have HF := Lib.hid (And.intro hf4 hk4)
            clear ho4 hf4 hk4 hs' sb'
            go_wp2_with (at_builtin; refine wp_append _ rfl (.tmp 56) (.tmp 57) 28 rfl 5 i0 (.int .u8 0) 1 1 Try.underlying28 hi0 hz0 hz1 hz2 rfl (by decide) (.slice A4 d.b.length c4) d.b.length _ rfl HO.out.1 A3 h3 b.length c3 _ rfl HO.out.2 (by intro u hu; simp at hu; obtain ⟨b, _, rfl⟩ := hu; rfl) (by omega) (by unfold maxLen; omega) ?_; intro A5 c5 w5 hown5 hkb5 hloc5)
            go_meet
            obtain ⟨g5, hK5⟩ := keeps_append HP.out.1 HF.out.2 HF.out.1 hown5 hkb5 hloc5
            exact ⟨F', d', A5, g5, c5, d.b ++ b, s, by rw [List.length_append], rfl, hK5, HP.out.2.1, by rw [List.length_append]; omega, HP.out.2.2⟩
        · go_wp2_with fail
          refine (sync_any p F d _ hKa.1.1).mono ?_; intro e wq hq
          obtain ⟨rfl, F', hK'⟩ := hKa.step hq
          have ht : d.sync.2.t.length ≤ i + 1 := by rw [sync_t]; omega
          clear hq hKa HAB c0 c1
          rcases k_sync HH.out with ⟨hr, hp⟩ | ⟨hr, hp⟩
          · have HF := Lib.hid (show keepsMid w p i (.slice A d.b.length ca) (.int .i64 (d.b.length : Int)) wq from ⟨F', _, A, g, ca, d.b, d.b.length, rfl, rfl, hK', hp, by omega, ht⟩)
            rw [hr]
            clear hK' hp ht hr
            go_wp2_with fail
            go_meet
            exact HF.out
          · have hr' : (d.sync.1 == 0) = false := by simpa using hr
            have HF := Lib.hid (show keepsMid w p i (.slice A d.b.length ca) (.int .i64 (s : Int)) wq from ⟨F', _, A, g, ca, d.b, s, rfl, rfl, hK', hp, by omega, ht⟩)
            clear hK' hp ht
            generalize d.sync.1 = r at *
            go_wp2_with fail
            go_meet
            exact HF.out
        · go_wp2_with fail
          refine (sync_any p F d _ hKa.1.1).mono ?_; intro e wq hq
          obtain ⟨rfl, F', hK'⟩ := hKa.step hq
          have ht : d.sync.2.t.length ≤ i + 1 := by rw [sync_t]; omega
          clear hq hKa HAB c0 c1
          rcases k_sync HH.out with ⟨hr, hp⟩ | ⟨hr, hp⟩
          · have HF := Lib.hid (show keepsMid w p i (.slice A d.b.length ca) (.int .i64 (d.b.length : Int)) wq from ⟨F', _, A, g, ca, d.b, d.b.length, rfl, rfl, hK', hp, by omega, ht⟩)
            rw [hr]
            clear hK' hp ht hr
            go_wp2_with fail
            go_meet
            exact HF.out
          · have hr' : (d.sync.1 == 0) = false := by simpa using hr
            have HF := Lib.hid (show keepsMid w p i (.slice A d.b.length ca) (.int .i64 (s : Int)) wq from ⟨F', _, A, g, ca, d.b, s, rfl, rfl, hK', hp, by omega, ht⟩)
            clear hK' hp ht
            generalize d.sync.1 = r at *
            go_wp2_with fail
            go_meet
            exact HF.out
        · go_wp2_with fail
          refine (swapD_any p F d A3 h3 c3 b _ hKa.1.1 HAB.out.1 HAB.out.2 (by omega) (by omega)).mono ?_; intro e wq hq
          obtain ⟨rfl, F', hK'⟩ := hKa.step hq
          have ht : (d.swap b).2.t.length ≤ i + 1 := by rcases swap_t d b with ⟨_, h⟩ | ⟨_, h⟩ <;> rw [h] <;> (try simp only [List.length_append, List.length_cons, List.length_nil]) <;> omega
          have sb' := (hK'.1.arg2 sb).1
          clear hq hKa HAB c0 c1
          rcases k_swap HH.out b with ⟨hr, hp⟩ | ⟨hr, hp⟩
          · rw [hr]
            have HP := Lib.hid (And.intro hK'.1 (And.intro hp ht))
            clear hr hp ht hK'
            generalize (d.swap b).2 = d' at HP
            go_wp2_with fail
            refine (copyBytes_n _ h3 _ b.length b _ rfl sb' (by omega)).mono ?_; rintro e w4 ⟨v4, rfl, ho4, hf4, hk4⟩
            obtain ⟨A4, g4, c4, rfl, hK4⟩ := keepsAt.fresh HP.out.1 hk4 ho4 hf4
            have HF := Lib.hid (show keepsMid w p i (.slice A4 b.length c4) (.int .i64 (b.length : Int)) w4 from ⟨F', _, A4, g4, c4, b, b.length, rfl, rfl, hK4, HP.out.2.1, by omega, HP.out.2.2⟩)
            clear ho4 hf4 hk4 sb' hK4
            go_wp2_with fail
            go_meet
            exact HF.out
          · have hr' : ((d.swap b).1 == 0) = false := by simpa using hr
            have HF := Lib.hid (show keepsMid w p i (.slice A d.b.length ca) (.int .i64 (s : Int)) wq from ⟨F', _, A, g, ca, d.b, s, rfl, rfl, hK', hp, by omega, ht⟩)
            clear hK' hp ht sb'
            generalize (d.swap b).1 = r at *
            go_wp2_with fail
            go_meet
            exact HF.out
        · go_wp2_with fail
          refine (cutD_any p F d (k : Int) _ hKa.1.1 (by omega)).mono ?_; intro e wq hq
          obtain ⟨rfl, F', hK'⟩ := hKa.step hq
          have ht : (d.cut (k : Int)).2.t.length ≤ i + 1 := by rw [cut_t]; omega
          clear hq hKa HAB c0 c1
          rcases k_cut HH.out k with ⟨hr, hkb, hp⟩ | ⟨hr, hp⟩
          · rw [hr]
            have hkc : (k : Int) ≤ (ca : Int) := by have := hK'.2.2.2.1; omega
            have hln : (d.b.take k).length = k := by rw [List.length_take]; omega
            have HF := Lib.hid (show keepsMid w p i (.slice A k ca) (.int .i64 (k : Int)) wq from ⟨F', _, A, g, ca, d.b.take k, k, by rw [hln], rfl, hK'.take k, hp, by rw [hln]; omega, ht⟩)
            clear hK' hp ht hr hln
            go_wp2_with fail
            go_meet
            exact HF.out
          · have hr' : ((d.cut (k : Int)).1 == 0) = false := by simpa using hr
            have HF := Lib.hid (show keepsMid w p i (.slice A d.b.length ca) (.int .i64 (s : Int)) wq from ⟨F', _, A, g, ca, d.b, s, rfl, rfl, hK', hp, by omega, ht⟩)
            clear hK' hp ht
            generalize (d.cut (k : Int)).1 = r at *
            go_wp2_with fail
            go_meet
            exact HF.out
        · go_wp2_with fail
          refine (arm_any p F d (k : Int) _ hKa.1.1 (by omega)).mono ?_; intro e wq hq
          obtain ⟨rfl, F', hK'⟩ := hKa.step hq
          have ht : (d.armed (k : Int)).2.t.length ≤ i + 1 := by rw [armed_t]; omega
          have HF := Lib.hid (show keepsMid w p i (.slice A d.b.length ca) (.int .i64 (s : Int)) wq from ⟨F', _, A, g, ca, d.b, s, rfl, rfl, hK', k_armed HH.out _, by omega, ht⟩)
          clear hq hKa HAB c0 c1 hK' ht
          generalize (d.armed (k : Int)).1 = r at *
          go_wp2_with fail
          go_meet
          exact HF.out
        · go_wp2_with fail
          refine (crash_any p F d (k : Int) _ hKa.1.1 (by omega)).mono ?_; intro e wq hq
          obtain ⟨rfl, F', hK'⟩ := hKa.step hq
          have ht : (d.crash (k : Int)).2.t.length ≤ i + 1 := by rw [crash_t]; omega
          obtain ⟨hr, hd2, hp⟩ := k_crash HH.out (k : Int) (by omega)
          have HF := Lib.hid (show keepsMid w p i (.slice A d.b.length ca) (.int .i64 (s : Int)) wq from ⟨F', _, A, g, ca, d.b, s, rfl, rfl, hK', hp, by omega, ht⟩)
          have hdi := hK'.1.1
          clear hq hKa HAB c0 c1 hK' ht hp
          rw [hr]
          generalize (d.crash (k : Int)).2 = d' at *
          clear hr
          go_wp2_with fail
          refine (dead_any p F' d' _ hdi).mono ?_; rintro e w' ⟨rfl, rfl⟩
          rw [hd2]
          go_wp2_with fail
          go_meet
          exact HF.out
        · go_wp2_with fail
          refine (revive_any p F d _ hKa.1.1).mono ?_; intro e wq hq
          obtain ⟨rfl, F', hK'⟩ := hKa.step hq
          have ht : d.revive.t.length ≤ i + 1 := by show d.t.length ≤ i + 1; omega
          have hp := k_revive HH.out
          have hd2 : d.revive.dead = false := rfl
          have HF := Lib.hid (show keepsMid w p i (.slice A d.b.length ca) (.int .i64 (s : Int)) wq from ⟨F', _, A, g, ca, d.b, s, rfl, rfl, hK', hp, by omega, ht⟩)
          have hdi := hK'.1.1
          clear hq hKa HAB c0 c1 hK' ht hp
          generalize d.revive = d' at *
          go_wp2_with fail
          refine (dead_any p F' d' _ hdi).mono ?_; rintro e w' ⟨rfl, rfl⟩
          rw [hd2]
          go_wp2_with fail
          go_meet
          exact HF.out
      case rest =>
        obtain ⟨F', d', A', g', c', all, s', rfl, rfl, hK', hp', hal, htl'⟩ := hcut
        generalize wc = wb at *
        have hdi := hK'.1.1
        have hnb : d'.n ≤ d'.b.length := by obtain ⟨_, _, _, _, _, _, _, h3, _⟩ := id hdi; exact h3
        have hbm : d'.b.length ≤ 1048576 := by obtain ⟨_, _, _, _, _, _, _, _, h4, _⟩ := id hdi; exact h4
        have i1 : (s' : Int) ≤ (d'.b.length : Int) := by have := hp'.2.2.1; omega
        have i3 : (s' : Int) ≤ (d'.n : Int) := by have := hp'.2.2.1; omega
        have i4 : (d'.n : Int) ≤ (d'.b.length : Int) := by omega
        have i2 : (d'.b.length : Int) ≤ (all.length : Int) := by have := hp'.2.1; omega
        have i5 : (d'.b.length : Int) ≤ (c' : Int) := by have := hp'.2.1; have := hK'.2.2.2.1; omega
        have HK' := Lib.hid (And.intro hK' (And.intro hp' (And.intro hal htl')))
        clear hK' hp' hal htl' hKa HAB c0 c1 cs sb
        go_upto_region 38 with fail
        go_wp2_with fail
        refine (readD_any p F' d' _ hdi).mono ?_; rintro e w2 ⟨rfl, hr2, hk2⟩
        have hd2 := hdi.keep hk2 (by simp)
        have sn : seen w2 (some ⟨wb.heap.size, 0, none⟩) wb.heap.size d'.b := seen_row hr2 (by simp [List.take_of_length_le])
        have HK2 := Lib.hid hk2
        clear hdi hk2 hr2
        have gb : wb.heap.size ≤ wb.heap.size := Nat.le_refl _
        cases hdd : d'.dead with
        | false =>
          obtain ⟨hK', hp', hal, htl'⟩ := HK'.out
          have hfull := hp'.full hdd
          clear hK' hp' hal htl'
          subst hfull
          have hsa : seen w2 A' g' d'.b := HK'.out.1.2.1.keep HK2.out (by simp)
          go_wp2_with fail
          refine (eqBytes_n _ _ _ g' _ _ d'.b.length d'.b.length d'.b d'.b _ rfl rfl sn hsa).mono ?_; rintro e w' ⟨rfl, rfl⟩
          rw [show (d'.b == d'.b) = true by simp]
          go_wp2_with fail
          refine (synced_any p F' d' _ hd2).mono ?_; rintro e w' ⟨rfl, rfl⟩
          go_wp2_with fail
          refine (synced_any p F' d' _ hd2).mono ?_; rintro e w' ⟨rfl, rfl⟩
          go_wp2_with fail
          refine (dead_any p F' d' _ hd2).mono ?_; rintro e w' ⟨rfl, rfl⟩
          rw [hdd]
          go_wp2_with fail
          refine (dead_any p F' d' _ hd2).mono ?_; rintro e w' ⟨rfl, rfl⟩
          rw [hdd]
          go_wp2_with fail
          go_roundw
          case rel =>
            obtain ⟨hK', hp', hal, htl'⟩ := HK'.out
            have hh := hp'.head hnb
            rw [hdd] at hh
            exact ⟨i + 1, F', d', A', g', c', s', by go_num, by omega, by omega, rfl, rfl, hK'.over HK2.out, by simpa using hh, hal, htl'⟩
          case measure => simp [intOf]; omega
        | true =>
          obtain ⟨hK', hp', hal, htl'⟩ := HK'.out
          have hsa : seen w2 A' g' (all.take d'.b.length) := (hK'.2.1.take _).keep HK2.out (by simp)
          have hln : (all.take d'.b.length).length = d'.b.length := by rw [List.length_take]; have := hp'.2.1; omega
          have heq : (d'.b == all.take d'.b.length) = true := by rw [← hp'.1]; simp
          have HE := Lib.hid heq
          have HL := Lib.hid hln
          clear hK' hp' hal htl' heq hln
          go_wp2_with fail
          refine (eqBytes_n _ _ _ g' _ _ d'.b.length d'.b.length d'.b _ _ rfl HL.out sn hsa).mono ?_; rintro e w' ⟨rfl, rfl⟩
          rw [HE.out]
          clear hsa
          go_wp2_with fail
          refine (synced_any p F' d' _ hd2).mono ?_; rintro e w' ⟨rfl, rfl⟩
          go_wp2_with fail
          refine (synced_any p F' d' _ hd2).mono ?_; rintro e w' ⟨rfl, rfl⟩
          go_wp2_with fail
          refine (dead_any p F' d' _ hd2).mono ?_; rintro e w' ⟨rfl, rfl⟩
          rw [hdd]
          go_wp2_with fail
          refine (dead_any p F' d' _ hd2).mono ?_; rintro e w' ⟨rfl, rfl⟩
          rw [hdd]
          go_wp2_with fail
          refine (copyBytes_n _ _ _ d'.b.length d'.b _ rfl sn (by omega)).mono ?_; rintro e w4 ⟨v4, rfl, ho4, hf4, hk4⟩
          obtain ⟨A4, g4, c4, rfl, hK4⟩ := keepsAt.fresh (HK'.out.1.1.over HK2.out) hk4 ho4 hf4
          have HK4 := Lib.hid hK4
          clear ho4 hf4 hk4 hK4 hd2 sn
          go_wp2_with fail
          go_roundw
          case rel =>
            obtain ⟨hK', hp', hal, htl'⟩ := HK'.out
            have hh := hp'.head hnb
            rw [hdd] at hh
            exact ⟨i + 1, F', d', A4, g4, c4, d'.b.length, by go_num, by omega, by omega, rfl, rfl, HK4.out, by simpa using hh, by have := hp'.2.1; omega, htl'⟩
          case measure => simp [intOf]; omega
    · have HD := Lib.hid hK.1.2.2
      have hx : ¬ (i : Int) < (n : Int) ∨ ((i : Int) < (n : Int) ∧ ¬ (i : Int) < 80) := by omega
      clear hK hH
      rcases hx with h1 | ⟨h1, h2⟩
      all_goals
        go_wp2_with fail
        go_ret
        exact ⟨rfl, HD.out⟩
end Go.Proofs.Ytaclpogcedgojaa
