/-
  RWIDE: RefWide, RefWrite, joined.
-/
import Derived.Test.YthfdkonhjpdflaaGreatDoorPkD
import Derived.Test.YthfdkonhjpdflaaGreatDoorCopyB
import Derived.Lib.SlBytesConst
import Derived.Laws.BytesArg
import Derived.Deep.RegionHeld3
import Derived.Deep.DeepCutAuto
import Derived.Deep.CutBlock
section
namespace Go.Proofs.YthfdkonhjpdflaaGreatDoor
open Go.RowKit
set_option linter.unusedVariables false

/-- what an append onto nil leaves: a copy of its own -/
def copyPost2 (l : List UInt8) (w : World) (e : Ending) (w' : World) : Prop :=
  ∃ v, e = .returned v ∧ owns w' 5 1 v l.length (l.map bv) ∧ (∀ x ∈ homes v, w.heap.size ≤ x) ∧ keepBut [] w w'

set_option maxHeartbeats 400000 in
theorem copyBytes2_any (A : Option Addr) (g c : Nat) (l : List UInt8) (w : World) (h : seen w A g l) (hb : l.length ≤ 140737488355328) :
    Calls Tryz.prog 27 #[.slice A l.length c] w (copyPost2 l w) := by
  obtain ⟨i0, hi0, hz0, hz1, hz2⟩ := info_parts infoU8
  have HS := Lib.hid h.reads
  go_enter Tryz.func27, Tryz.ntmps27
  go_wp2_with (at_builtin; refine wp_append _ rfl _ _ 24 rfl 5 i0 (.int .u8 0) 1 1 Tryz.underlying24 hi0 hz0 hz1 hz2 rfl (by decide) (.slice none 0 0) 0 [] rfl (owns.nil _ _ _) A g l.length c _ (by simp [Act.eval]) HS.out (by intro u hu; simp at hu; obtain ⟨b, _, rfl⟩ := hu; rfl) (by omega) (by unfold maxLen; omega) ?_; intro A2 c2 w2 hown2 hkb2 hloc2)
  go_ret
  refine ⟨_, rfl, by simpa using hown2, fun x hx => ?_, hkb2⟩
  rcases hloc2 x (by simpa using hx) with h1 | h1
  · simp [homes_none] at h1
  · exact h1
theorem copyBytes2_n (A : Option Addr) (g c n : Nat) (l : List UInt8) (w : World) (hn : l.length = n) (h : seen w A g l) (hb : n ≤ 140737488355328) :
    Calls Tryz.prog 27 #[.slice A n c] w (copyPost2 l w) := by
  subst hn; exact copyBytes2_any A g c l w h hb
set_option maxHeartbeats 400000 in
theorem wide_any (n : Int) (w : World) : Calls Tryz.prog 122 #[.int .i64 n] w fun e w' => e = .returned (.bool (isW n)) ∧ w = w' := by
  by_cases h1 : n = 1
  · subst h1
    go_enter Tryz.func122, Tryz.ntmps122
    go_wp2
    go_ret
    exact ⟨rfl, rfl⟩
  by_cases h2 : n = 2
  · subst h2
    go_enter Tryz.func122, Tryz.ntmps122
    go_wp2
    go_ret
    exact ⟨rfl, rfl⟩
  by_cases h4 : n = 4
  · subst h4
    go_enter Tryz.func122, Tryz.ntmps122
    go_wp2
    go_ret
    exact ⟨rfl, rfl⟩
  · have e1 : (n == 1) = false := by simp [h1]
    have e2 : (n == 2) = false := by simp [h2]
    have e4 : (n == 4) = false := by simp [h4]
    have HW := Lib.hid (show isW n = (n == 8) from by simp [isW, h1, h2, h4])
    go_enter Tryz.func122, Tryz.ntmps122
    go_wp2
    go_ret
    exact ⟨by rw [HW.out]; rfl, rfl⟩
end Go.Proofs.YthfdkonhjpdflaaGreatDoor
end

section
namespace Go.Proofs.YthfdkonhjpdflaaGreatDoor
open Go.RowKit
set_option linter.unusedVariables false

/-- block p is a writer that stands at s; v is its slice -/
def isWr2 (w : World) (p : Nat) (v : Value) (s : WS) : Prop :=
  rowAt w p 129 #[v, .int .i64 s.e] ∧ owns w 5 1 v s.b.length (s.b.map bv)

theorem isWr2.apart {w : World} {p : Nat} {v : Value} {s : WS} (h : isWr2 w p v s) : p ∉ homes v := h.2.apart h.1 (by decide)
theorem isWr2.keep {S : List Nat} {w w' : World} {p : Nat} {v : Value} {s : WS} (h : isWr2 w p v s) (hk : keepBut S w w') (hp : p ∉ S) (hS : ∀ x ∈ homes v, x ∉ S) : isWr2 w' p v s :=
  ⟨hk.row h.1 hp, h.2.keep hk hS⟩

/-- what every method of a writer leaves -/
def wrPost2 (p : Nat) (v : Value) (s : WS) (w : World) (e : Ending) (w' : World) : Prop :=
  e = .returned (.pointer (some ⟨p, 0, none⟩)) ∧ ∃ v', isWr2 w' p v' s ∧ keepBut (p :: homes v) w w' ∧ ∀ x ∈ homes v', x ∈ homes v ∨ w.heap.size ≤ x

/-- a new slice is stored into the writer -/
theorem wr_store2 {w W w2 : World} {p n : Nat} {v' : Value} {A2 : Option Addr} {c2 : Nat} {b1 l : List UInt8} {e : Int} (h : isWr2 w p v' ⟨b1, e⟩) (hW : keepBut [] w W) (hk : keepBut (homes v') W w2)
    (hown : owns w2 5 1 (.slice A2 n c2) n ((b1 ++ l).map bv)) (hloc : ∀ x ∈ homes (.slice A2 n c2), x ∈ homes v' ∨ W.heap.size ≤ x) :
    isWr2 (w2.setCell ⟨p, 0, none⟩ (.slice A2 n c2)) p (.slice A2 n c2) ⟨b1 ++ l, e⟩ ∧ keepBut (p :: homes v') w (w2.setCell ⟨p, 0, none⟩ (.slice A2 n c2)) ∧
      ∀ x ∈ homes (.slice A2 n c2), x ∈ homes v' ∨ w.heap.size ≤ x := by
  have hp2 := hk.row (hW.row h.1 (by simp)) h.apart
  have hap := hown.apart hp2 (by decide)
  have hn : n = (b1 ++ l).length := by have := hown.1; simp only [List.length_map] at this; omega
  have hk2 : keepBut (p :: homes v') w w2 := (hW.more (T := p :: homes v') (by simp)).then hk (fun x hx => .inl (by simp [hx]))
  refine ⟨⟨hp2.set 0 _, ?_⟩, hk2.setCell _ _ (.inl (by simp)), fun x hx => (hloc x hx).imp id (fun h => by have := hW.size; omega)⟩
  rw [← hn]
  exact hown.keep ((keepBut.refl [p] w2).setCell _ _ (.inl (by simp))) (fun x hx hxp => hap (by simp at hxp; rw [← hxp]; exact hx))

theorem wr_fail2 {w : World} {p : Nat} {v : Value} {s : WS} (h : isWr2 w p v s) (x : Int) : isWr2 (w.setCell ⟨p, 1, none⟩ (.int .i64 x)) p v ⟨s.b, x⟩ :=
  ⟨h.1.set 1 _, h.2.keep ((keepBut.refl [p] w).setCell _ _ (.inl (by simp))) (fun x hx hxp => h.apart (by simp at hxp; rw [← hxp]; exact hx))⟩

set_option maxHeartbeats 400000 in
theorem write_any2 (w : World) :
    Calls Tryz.prog 51 #[] w fun e w' => ∃ p, e = .returned (.pointer (some ⟨p, 0, none⟩)) ∧ isWr2 w' p (.slice none 0 0) ⟨[], 0⟩ ∧ w.heap.size ≤ p ∧ keepBut [] w w' := by
  go_enter Tryz.func51, Tryz.ntmps51
  go_wp2
  go_ret
  exact ⟨w.heap.size, rfl, ⟨rowAt.new _ _ _, owns.nil _ _ _⟩, Nat.le_refl _, (keepBut.refl _ _).alloc _⟩
set_option maxHeartbeats 1000000 in
theorem wraw_any2 (p : Nat) (v : Value) (s : WS) (A : Option Addr) (g c : Nat) (l : List UInt8) (w : World) (h : isWr2 w p v s) (hs : seen w A g l) (hb : s.b.length + l.length ≤ 140737488355328) :
    Calls Tryz.prog 81 #[.pointer (some ⟨p, 0, none⟩), .slice A l.length c] w (wrPost2 p v (s.raw l) w) := by
  have hc0 : w.cell? ⟨p, 0, none⟩ = some v := h.1.cell 0
  have hc1 : w.cell? ⟨p, 1, none⟩ = some (.int .i64 s.e) := h.1.cell 1
  have hf0 := h.1.free 0
  by_cases he : s.e = 0
  · have he' : (s.e == 0) = true := by simp [he]
    have HE := Lib.hid he
    obtain ⟨sb, se⟩ := s
    simp only at he
    subst he
    have hfin : WS.raw ⟨sb, 0⟩ l = ⟨sb ++ l, 0⟩ := by simp [WS.raw]
    have HFin := Lib.hid hfin
    clear hfin
    obtain ⟨i0, hi0, hz0, hz1, hz2⟩ := info_parts infoU8w
    have HD := Lib.hid h
    have hplt := h.1.lt
    have HO := Lib.hid (show owns w 5 1 v sb.length (sb.map bv) from h.2)
    have hb' : sb.length + l.length ≤ 140737488355328 := hb
    have HS := Lib.hid hs.reads
    go_enter Tryz.func81, Tryz.ntmps81
    go_wp2_with (first | (at_builtin; refine wp_append _ rfl (.tmp 14) (.tmp 15) 24 rfl 5 i0 (.int .u8 0) 1 1 Tryz.underlying24 hi0 hz0 hz1 hz2 rfl (by decide) v sb.length _ (by simp [Act.eval]) HO.out A g l.length c _ (by simp [Act.eval]) HS.out (by intro u hu; simp at hu; obtain ⟨b, _, rfl⟩ := hu; rfl) (by omega) (by unfold maxLen; omega) ?_; intro A2 c2 w2 hown2 hkb2 hloc2; have hW2 := hkb2.row HD.out.1 HD.out.apart; have hcell2 : w2.cell? ⟨p, 0, none⟩ = some v := hW2.cell 0; have hfree2 := hW2.free 0))
    go_ret
    have hst := wr_store2 HD.out (keepBut.refl [] w) hkb2 (l := l) (by rw [List.map_append]; exact hown2) hloc2
    exact ⟨rfl, _, by rw [HFin.out]; exact hst.1, hst.2.1, hst.2.2⟩
  · have hfin : s.raw l = s := by
      unfold WS.raw
      rw [if_neg he]
    have he' : (s.e == 0) = false := by simp [he]
    have HFin := Lib.hid hfin
    clear hfin he
    go_enter Tryz.func81, Tryz.ntmps81
    go_wp2
    go_ret
    exact ⟨rfl, v, by rw [HFin.out]; exact h, keepBut.refl _ _, fun x hx => .inl hx⟩


theorem fits2_any (width n : Int) (w : World) (hw : isW width = true) :
    Calls Tryz.prog 123 #[.int .i64 width, .int .i64 n] w fun e w' => e = .returned (.bool (fitsP width n)) ∧ w = w' := by
  by_cases h0 : 0 ≤ n
  · by_cases hm : n ≤ 9007199254740991
    · have hm8 : n ≤ (mxN : Int) := by unfold mxN; omega
      rcases isW_cases hw with rfl | rfl | rfl | rfl
      · have HF := Lib.hid (show fitsP 1 n = decide (n < 256) by simp [fitsP, h0])
        go_enter Tryz.func123, Tryz.ntmps123
        go_wp2
        go_ret
        exact ⟨by rw [HF.out]; rfl, rfl⟩
      · have HF := Lib.hid (show fitsP 2 n = decide (n < 65536) by simp [fitsP, h0])
        go_enter Tryz.func123, Tryz.ntmps123
        go_wp2
        go_ret
        exact ⟨by rw [HF.out]; rfl, rfl⟩
      · have HF := Lib.hid (show fitsP 4 n = decide (n < 4294967296) by simp [fitsP, h0])
        go_enter Tryz.func123, Tryz.ntmps123
        go_wp2
        go_ret
        exact ⟨by rw [HF.out]; rfl, rfl⟩
      · have HF := Lib.hid (show fitsP 8 n = true by simp [fitsP, h0, hm8])
        go_enter Tryz.func123, Tryz.ntmps123
        go_wp2
        go_ret
        exact ⟨by rw [HF.out]; rfl, rfl⟩
    · have HF := Lib.hid (show fitsP width n = false by
        rcases isW_cases hw with rfl | rfl | rfl | rfl
        all_goals
          have : ¬ n ≤ (mxN : Int) := by unfold mxN; omega
          simp [fitsP, this]
          try omega)
      go_enter Tryz.func123, Tryz.ntmps123
      go_wp2
      go_ret
      exact ⟨by rw [HF.out]; rfl, rfl⟩
  · have HF := Lib.hid (show fitsP width n = false by simp [fitsP, h0])
    go_enter Tryz.func123, Tryz.ntmps123
    go_wp2
    go_ret
    exact ⟨by rw [HF.out]; rfl, rfl⟩

def bytesPost2 (s : WS) (w : World) (e : Ending) (w' : World) : Prop :=
  ∃ v, e = .returned (.tuple #[v, .int .i64 s.e]) ∧ owns w' 5 1 v s.bytes.length (s.bytes.map bv) ∧ (∀ x ∈ homes v, w.heap.size ≤ x) ∧ keepBut [] w w'

set_option maxHeartbeats 1000000 in
theorem wbytes_any2 (p : Nat) (v : Value) (s : WS) (w : World) (h : isWr2 w p v s) (hb : s.b.length ≤ 140737488355328) :
    Calls Tryz.prog 60 #[.pointer (some ⟨p, 0, none⟩)] w (bytesPost2 s w) := by
  have hc1 : w.cell? ⟨p, 1, none⟩ = some (.int .i64 s.e) := h.1.cell 1
  have hc0 : w.cell? ⟨p, 0, none⟩ = some v := h.1.cell 0
  by_cases he : s.e = 0
  · have he' : (s.e != 0) = false := by simp [he]
    have HFin := Lib.hid (show s.bytes = s.b by simp [WS.bytes, he])
    have HE := Lib.hid he
    clear he
    obtain ⟨A, c, g, rfl, _, _, hs, _⟩ := h.2.seen
    go_enter Tryz.func60, Tryz.ntmps60
    go_wp2_with fail
    refine (copyBytes2_any A g c s.b _ hs hb).mono ?_; rintro e w1 ⟨v1, rfl, ho1, hf1, hk1⟩
    go_wp2_with fail
    go_ret2
    exact ⟨v1, by rw [HE.out]; rfl, by rw [HFin.out]; exact ho1, hf1, hk1⟩
  · have he' : (s.e != 0) = true := by simp [he]
    have HFin := Lib.hid (show s.bytes = [] by simp [WS.bytes, he])
    clear he
    go_enter Tryz.func60, Tryz.ntmps60
    go_wp2
    go_region
    all_goals
      try go_wp2
      go_ret2
      exact ⟨.slice none 0 0, rfl, by rw [HFin.out]; exact owns.nil _ _ _, by simp [homes_none], (keepBut.refl _ _).drew⟩

/-- what holds at the head of each round of Num -/
def numRel2 (p : Nat) (v : Value) (s : WS) (m k : Nat) (w : World) (i : Value) (wr : World) : Prop :=
  ∃ (j : Nat) (a : Int) (v' : Value), i = .int .i64 a ∧ a = (m : Int) - 1 - j ∧ j ≤ m ∧ isWr2 wr p v' ⟨s.b ++ (beBytes m k).take j, 0⟩ ∧ keepBut (p :: homes v) w wr ∧ ∀ x ∈ homes v', x ∈ homes v ∨ w.heap.size ≤ x

set_option maxRecDepth 100000 in
set_option maxHeartbeats 1000000 in
theorem wnum_any2 (p : Nat) (v : Value) (s : WS) (width n : Int) (w : World) (h : isWr2 w p v s) (hb : s.b.length ≤ 1000000000) :
    Calls Tryz.prog 52 #[.pointer (some ⟨p, 0, none⟩), .int .i64 width, .int .i64 n] w (wrPost2 p v (s.num width n) w) := by
  have hc1 : w.cell? ⟨p, 1, none⟩ = some (.int .i64 s.e) := h.1.cell 1
  have hf1 := h.1.free 1
  by_cases he : s.e = 0
  · have he' : (s.e != 0) = false := by simp [he]
    have HE := Lib.hid he
    clear he
    by_cases hw : isW width = true
    · by_cases hfit : fitsP width n = true
      · obtain ⟨m, rfl⟩ : ∃ m : Nat, width = (m : Int) := ⟨width.toNat, by rcases isW_cases hw with h | h | h | h <;> omega⟩
        have hm : 1 ≤ m ∧ m ≤ 8 := by rcases isW_cases hw with h | h | h | h <;> omega
        obtain ⟨k, rfl⟩ : ∃ k : Nat, n = (k : Int) := ⟨n.toNat, by have : 0 ≤ n := (by simp [fitsP] at hfit; exact hfit.1)
                                                                   omega⟩
        have HFit := Lib.hid hfit
        have HW := Lib.hid hw
        clear hfit hw
        obtain ⟨a0, ha0⟩ : ∃ a : Int, a = (m : Int) - 1 := ⟨_, rfl⟩
        have hA : IntKind.i64.wrap ((m : Int) - 1) = a0 := by rw [ha0]; exact wraps_i64 _ (by omega) (by omega)
        go_enter Tryz.func52, Tryz.ntmps52
        go_wp2_with fail
        refine (wide_any _ _).mono ?_; rintro e w' ⟨rfl, rfl⟩
        rw [HW.out]
        go_wp2_with fail
        refine (fits2_any _ _ _ HW.out).mono ?_; rintro e w' ⟨rfl, rfl⟩
        rw [HFit.out]
        go_wp2_with fail
        obtain ⟨i0, hi0, hz0, hz1, hz2⟩ := info_parts infoU8w
        go_loopw [7] (fun i wr => numRel2 p v s m k w i wr) (fun i _ => (intOf i + 1).toNat)
        case atStart => exact ⟨0, _, v, rfl, by omega, by omega, by have := HE.out; simp only [List.take_zero, List.append_nil, ← this]; exact h, keepBut.refl _ _, fun x hx => .inl hx⟩
        case round =>
          obtain ⟨j, b, v', rfl, hbj, hi, hwr, hkb, hhm⟩ := hrel
          have hcell0 : wr.cell? ⟨p, 0, none⟩ = some v' := hwr.1.cell 0
          have hfree0 := hwr.1.free 0
          have hown := hwr.2
          have hN : (s.b ++ (beBytes m k).take j).length ≤ 1000000008 := by
            have := List.length_take_le j (beBytes m k)
            rw [List.length_append]; omega
          generalize hxs : (s.b ++ (beBytes m k).take j).map bv = xs at hown
          generalize hnn : (s.b ++ (beBytes m k).take j).length = N at hown hN
          have HXS := Lib.hid (And.intro hxs hnn)
          clear hxs hnn
          by_cases hlt : j < m
          · have HO := Lib.hid hown
            clear hown
            have HD := Lib.hid hwr
            clear hwr
            have hb0 : ¬ b < 0 := by omega
            obtain ⟨c, hc⟩ : ∃ c : Int, c = 8 * b := ⟨_, rfl⟩
            have hC : IntKind.i64.wrap (8 * b) = c := by rw [hc]; exact wraps_i64 _ (by omega) (by omega)
            have hc0 : 0 ≤ c := by omega
            have hb7 : b ≤ 7 := by omega
            have HH := Lib.hid (And.intro hbj hc)
            clear hbj hc
            have hplt := HD.out.1.lt
            go_wp2
            go_region_law (refine step_append _ rfl (.tmp 18) (.tmp 24) 24 rfl 5 i0 (.int .u8 0) 1 1 Tryz.underlying24 hi0 hz0 hz1 hz2 rfl (by decide) v' N xs (by simp [Act.eval]) (by first | exact (HO.out.alloc _) | exact HO.out.drew.alloc _ | exact (HO.out.alloc _).drew) _ _ 1 1 _ (by simp [Act.eval]) (reads_one _ _ _) (by intro u hu; simp at hu; subst hu; rfl) (by omega) (by unfold maxLen; omega) ?_; intro A2 c2 w2 hown2 hkb2 hloc2; have hW2 := hkb2.row (by first | exact ((keepBut.refl [] wr).drew.alloc _).row HD.out.1 (by simp) | exact ((keepBut.refl [] wr).alloc _).drew.row HD.out.1 (by simp)) HD.out.apart; have hcell2 : w2.cell? ⟨p, 0, none⟩ = some v' := hW2.cell 0; have hfree2 := hW2.free 0)
            all_goals
              obtain ⟨hbj, hc3⟩ := HH.out
              have hbyte := shift_byte k (m - 1 - j) c (by omega) (by omega)
              have hx := beBytes_at m k j hlt
              rw [hbyte, ← HXS.out.1] at hown2
              have hst := wr_store2 HD.out (by first | exact (keepBut.refl [] wr).drew.alloc _ | exact ((keepBut.refl [] wr).alloc _).drew) hkb2 (l := [UInt8.ofNat (k / 256 ^ (m - 1 - j) % 256)]) (by rw [List.map_append]; exact hown2) hloc2
              have hbs : s.b ++ (beBytes m k).take j ++ [UInt8.ofNat (k / 256 ^ (m - 1 - j) % 256)] = s.b ++ (beBytes m k).take (j + 1) := by
                rw [List.take_add_one, hx, List.append_assoc]; rfl
              rw [hbs] at hst
              have HST := Lib.hid hst
              have hbj1 : b - 1 = (m : Int) - 1 - ((j + 1 : Nat) : Int) := by omega
              have HBJ := Lib.hid hbj1
              clear hst hown2 hbyte hx hbs hbj hbj1 hc3 hC hc0 hkb2 hloc2 hW2 hcell2 hfree2
              go_wp2
              go_roundw
              case rel => exact ⟨j + 1, _, _, rfl, by rw [← HBJ.out], by omega, HST.out.1, hkb.then HST.out.2.1 (fun x hx => by rcases List.mem_cons.1 hx with rfl | hx; exact .inl (by simp); exact (hhm x hx).imp (fun h => by simp [h]) id), fun x hx => by rcases HST.out.2.2 x hx with h | h; exact hhm x h; have := hkb.size; exact .inr (by omega)⟩
              case measure => simp [intOf]; omega
          · obtain rfl : j = m := by omega
            have hb0 : b < 0 := by omega
            have hfin : s.num (j : Int) (k : Int) = ⟨s.b ++ beBytes j k, 0⟩ := by
              unfold WS.num
              rw [if_pos HE.out, if_pos HW.out, if_pos HFit.out]; rfl
            have hall : (beBytes j k).take j = beBytes j k := List.take_of_length_le (by rw [beBytes_length]; exact Nat.le_refl _)
            rw [hall] at hwr
            have HFin := Lib.hid hfin
            clear hfin hall
            have HD := Lib.hid hwr
            clear hwr hown
            go_wp2
            go_ret
            exact ⟨rfl, v', by rw [HFin.out]; exact HD.out, hkb, hhm⟩
      · have HFin := Lib.hid (show s.num width n = ⟨s.b, 9⟩ by
          unfold WS.num
          rw [if_pos HE.out, if_pos hw, if_neg hfit])
        have HF := Lib.hid (show fitsP width n = false by simpa using hfit)
        have HW := Lib.hid hw
        clear hfit hw
        go_enter Tryz.func52, Tryz.ntmps52
        go_wp2_with fail
        refine (wide_any _ _).mono ?_; rintro e w' ⟨rfl, rfl⟩
        rw [HW.out]
        go_wp2_with fail
        refine (fits2_any _ _ _ HW.out).mono ?_; rintro e w' ⟨rfl, rfl⟩
        rw [HF.out]
        go_wp2_with fail
        go_ret
        exact ⟨rfl, v, by rw [HFin.out]; exact wr_fail2 h 9, (keepBut.refl _ _).setCell _ _ (.inl (by simp)), fun x hx => .inl hx⟩
    · have HFin := Lib.hid (show s.num width n = ⟨s.b, 2⟩ by
        unfold WS.num
        rw [if_pos HE.out, if_neg hw])
      have HW := Lib.hid (show isW width = false by simpa using hw)
      clear hw
      go_enter Tryz.func52, Tryz.ntmps52
      go_wp2_with fail
      refine (wide_any _ _).mono ?_; rintro e w' ⟨rfl, rfl⟩
      rw [HW.out]
      go_wp2_with fail
      go_ret
      exact ⟨rfl, v, by rw [HFin.out]; exact wr_fail2 h 2, (keepBut.refl _ _).setCell _ _ (.inl (by simp)), fun x hx => .inl hx⟩
  · have he' : (s.e != 0) = true := by simp [he]
    have HFin := Lib.hid (show s.num width n = s by unfold WS.num; rw [if_neg he])
    clear he
    go_enter Tryz.func52, Tryz.ntmps52
    go_wp2
    go_ret
    exact ⟨rfl, v, by rw [HFin.out]; exact h, keepBut.refl _ _, fun x hx => .inl hx⟩

theorem owns_one (w : World) (e : TypeId) (u : Value) : owns (w.alloc (.cells #[u] e)) e 1 (.slice (some ⟨w.heap.size, 0, none⟩) 1 1) 1 [u] :=
  ⟨by simp, .inr ⟨w.heap.size, 1, #[u], rfl, rowAt.new _ _ _, Nat.le_refl _, by simp [maxLen], by simp, by simp⟩⟩

/-- the groups of a count, in a slice of their own -/
def groupsPost (n : Nat) (w : World) (e : Ending) (w' : World) : Prop :=
  ∃ v, e = .returned v ∧ owns w' 5 1 v (cb n).length ((cb n).map bv) ∧ (∀ x ∈ homes v, w.heap.size ≤ x) ∧ keepBut [] w w'
/-- what holds at the head of each round -/
def groupsRel (N : Nat) (w : World) (n v : Value) (wr : World) : Prop :=
  ∃ (k : Nat) (l : List UInt8), n = .int .i64 k ∧ k ≤ mxN ∧ owns wr 5 1 v l.length (l.map bv) ∧ (∀ x ∈ homes v, w.heap.size ≤ x) ∧ keepBut [] w wr ∧ cb N = cbHi (k / 128) ++ l

set_option maxRecDepth 100000 in
set_option maxHeartbeats 1000000 in
theorem groups_any (n : Nat) (hn : n ≤ mxN) (w : World) : Calls Tryz.prog 125 #[.int .i64 (n : Int)] w (groupsPost n w) := by
  obtain ⟨i0, hi0, hz0, hz1, hz2⟩ := info_parts infoU8w
  have hn' : n ≤ 9007199254740991 := hn
  go_enter Tryz.func125, Tryz.ntmps125
  go_wp2_with fail
  go_loopw [0, 3] (fun a v wr => groupsRel n w a v wr) (fun a _ _ => (intOf a).toNat)
  case atStart =>
    refine ⟨n, [UInt8.ofNat (n % 128)], rfl, hn, ?_, by simp [homes_some], (keepBut.refl [] w).alloc _, by unfold cb; rfl⟩
    have hv : Value.int .u8 ((n : Int) % 128) = bv (UInt8.ofNat (n % 128)) := by
      unfold bv; rw [UInt8.toNat_ofNat']; congr 1; omega
    rw [hv]
    exact owns_one _ _ _
  case round =>
    obtain ⟨k, l, rfl, hk, hown, hhm, hkb, hcb⟩ := hrel
    have hk' : k ≤ 9007199254740991 := hk
    by_cases h : 128 ≤ k
    · have hl8 : l.length ≤ 8 := by
        have := cb_len_le n hn
        rw [hcb, List.length_append] at this; omega
      have hcb2 : cb n = cbHi (k / 128 / 128) ++ (UInt8.ofNat (128 + k / 128 % 128) :: l) := by
        rw [hcb, cbHi_pos (k / 128) (by omega), List.append_assoc]; rfl
      have HCB := Lib.hid hcb2
      have hv : Value.int .u8 (128 + (k : Int) / 128 % 128) = bv (UInt8.ofNat (128 + k / 128 % 128)) := by
        unfold bv; rw [UInt8.toNat_ofNat']; congr 1; omega
      have HV := Lib.hid hv
      obtain ⟨A, c, g, rfl, hlc, hcm, hs, _⟩ := hown.seen
      have HS := Lib.hid hs
      clear hcb hcb2 hv hs hown
      go_wp2_with (at_builtin; refine wp_append _ rfl (.tmp 16) (.tmp 17) 24 rfl 5 i0 (.int .u8 0) 1 1 Tryz.underlying24 hi0 hz0 hz1 hz2 rfl (by decide) (.slice (some ⟨wr.heap.size, 0, none⟩) 1 1) 1 _ (by simp [Act.eval]) (owns_one _ _ _) A g l.length c _ (by simp [Act.eval]) (HS.out.keep ((keepBut.refl [] wr).alloc _) (by simp)).reads (by intro u hu; simp at hu; obtain ⟨b, _, rfl⟩ := hu; rfl) (by omega) (by unfold maxLen; omega) ?_; intro A2 c2 w2 hown2 hkb2 hloc2)
      rw [HV.out] at hown2
      have hw2 : owns w2 5 1 (.slice A2 (1 + l.length) c2) (UInt8.ofNat (128 + k / 128 % 128) :: l).length ((UInt8.ofNat (128 + k / 128 % 128) :: l).map bv) := by
        rw [List.length_cons, List.map_cons, Nat.add_comm l.length 1]; exact hown2
      have hks := hkb.size
      go_roundw
      case rel => exact ⟨k / 128, _, by go_num, by unfold mxN; omega, hw2, fun x hx => by
        rcases hloc2 x hx with h1 | h1
        · simp [homes_some] at h1; omega
        · simp at h1; omega, (hkb.alloc _).then hkb2 (fun x hx => by simp [homes_some] at hx; exact .inr (by omega)), HCB.out⟩
      case measure => simp [intOf]; omega
    · go_wp2_with fail
      go_ret
      have hl : cb n = l := by rw [hcb, show k / 128 = 0 by omega, cbHi_zero]; rfl
      exact ⟨_, rfl, by rw [hl]; exact hown, hhm, hkb⟩

set_option maxRecDepth 100000 in
set_option maxHeartbeats 2000000 in
theorem wcount_any2 (p : Nat) (v : Value) (s : WS) (n : Int) (w : World) (h : isWr2 w p v s) (hb : s.b.length ≤ 1000000000) :
    Calls Tryz.prog 54 #[.pointer (some ⟨p, 0, none⟩), .int .i64 n] w (wrPost2 p v (s.count n) w) := by
  have hc1 : w.cell? ⟨p, 1, none⟩ = some (.int .i64 s.e) := h.1.cell 1
  have hc0 : w.cell? ⟨p, 0, none⟩ = some v := h.1.cell 0
  have hf1 := h.1.free 1
  by_cases he : s.e = 0
  · have he' : (s.e != 0) = false := by simp [he]
    by_cases hr : n < 0 ∨ 9007199254740991 < n
    · have HFin := Lib.hid (show s.count n = ⟨s.b, 9⟩ by
        unfold WS.count
        rw [if_pos he, if_pos (hr.imp id (fun h => by unfold mxN; omega))])
      clear he
      rcases hr with hr | hr
      all_goals
        go_enter Tryz.func54, Tryz.ntmps54
        go_wp2_with fail
        go_ret
        exact ⟨rfl, v, by rw [HFin.out]; exact wr_fail2 h 9, (keepBut.refl _ _).setCell _ _ (.inl (by simp)), fun x hx => .inl hx⟩
    · obtain ⟨k, rfl⟩ : ∃ k : Nat, n = (k : Int) := ⟨n.toNat, by omega⟩
      have hk : k ≤ mxN := by unfold mxN; omega
      have hk' : k ≤ 9007199254740991 := hk
      have HFin := Lib.hid (show s.count (k : Int) = ⟨s.b ++ cb k, 0⟩ by
        unfold WS.count
        rw [if_pos he, if_neg (by unfold mxN; omega)]; rfl)
      obtain ⟨sb, se⟩ := s
      simp only at he
      subst he
      have hcl := cb_len_le k hk
      obtain ⟨i0, hi0, hz0, hz1, hz2⟩ := info_parts infoU8w
      have hd := h.keep ((keepBut.refl [] w).drew) (by simp) (by simp)
      have hd0 : w.drew.cell? ⟨p, 0, none⟩ = some v := hd.1.cell 0
      have hb' : sb.length ≤ 1000000000 := hb
      clear hr hb
      go_enter Tryz.func54, Tryz.ntmps54
      go_upto_region 1 with fail
      go_region_law
        (first
          | (refine step_append _ rfl (.tmp 9) (.tmp 11) 24 rfl 5 i0 (.int .u8 0) 1 1 Tryz.underlying24 hi0 hz0 hz1 hz2 rfl (by decide) v sb.length _ (by simp [Act.eval]) hr1.2 A1 g1 (cb k).length c1 _ (by simp [Act.eval]) hs1.reads (by intro u hu; simp at hu; obtain ⟨b, _, rfl⟩ := hu; rfl) (by omega) (by unfold maxLen; omega) ?_; intro A2 c2 w2 hown2 hkb2 hloc2; have hW2 := hkb2.row hr1.1 hr1.apart; have hcell2 : w2.cell? ⟨p, 0, none⟩ = some v := hW2.cell 0; have hfree2 := hW2.free 0)
          | (go_simp; go_at_call 125; refine (groups_any k hk _).mono ?_; rintro e w1 ⟨v1, rfl, ho1, hf1', hk1⟩; have hr1 := hd.keep hk1 (by simp) (by simp); have hr10 : w1.cell? ⟨p, 0, none⟩ = some v := hr1.1.cell 0; obtain ⟨A1, c1, g1, rfl, _, _, hs1, hin1⟩ := ho1.seen))
      all_goals
        have hk0 : keepBut [] w w1 := ((keepBut.refl [] w).drew).then hk1 (by simp)
        have hst := wr_store2 hr1 (keepBut.refl [] w1) hkb2 (l := cb k) (by rw [List.map_append]; exact hown2) hloc2
        have hsz := hk0.size
        clear hown2 hkb2 hloc2 hW2 hcell2 hfree2 hd hd0 hr10 hs1 hin1 ho1
        go_wp2
        go_ret
        exact ⟨rfl, _, by rw [HFin.out]; exact hst.1, (hk0.more (T := p :: homes v) (by simp)).then hst.2.1 (fun x hx => .inl hx), fun x hx => (hst.2.2 x hx).imp id (fun h => by omega)⟩
  · have he' : (s.e != 0) = true := by simp [he]
    have HFin := Lib.hid (show s.count n = s by unfold WS.count; rw [if_neg he])
    clear he
    go_enter Tryz.func54, Tryz.ntmps54
    go_wp2
    go_ret
    exact ⟨rfl, v, by rw [HFin.out]; exact h, keepBut.refl _ _, fun x hx => .inl hx⟩

set_option maxHeartbeats 1000000 in
theorem wtext_any2 (p : Nat) (v : Value) (s : WS) (A : Option Addr) (g c : Nat) (l : List UInt8) (w : World) (h : isWr2 w p v s) (hs : seen w A g l) (hg : l ≠ [] → g ≠ p ∧ g ∉ homes v) (hb : s.b.length ≤ 1000000000) (hb2 : l.length ≤ 1000000000) :
    Calls Tryz.prog 58 #[.pointer (some ⟨p, 0, none⟩), .slice A l.length c] w (wrPost2 p v (s.text l) w) := by
  have hcb := count_b_le s (l.length : Int)
  go_enter Tryz.func58, Tryz.ntmps58
  go_wp2_with (first | (go_at_call 54; refine (wcount_any2 p v s _ _ h hb).mono ?_; rintro e w1 ⟨rfl, v1, hw1, hk1, hl1⟩) | (go_at_call 81; refine (wraw_any2 p _ _ A g c l _ (by assumption) (hs.keep (by assumption) (fun hl hm => by rcases List.mem_cons.1 hm with h1 | h1; exact (hg hl).1 h1; exact (hg hl).2 h1)) (by omega)).mono ?_; rintro e w2 ⟨rfl, v2, hw2, hk2, hl2⟩))
  go_ret
  exact ⟨rfl, v2, hw2, hk1.then hk2 (fun x hx => by rcases List.mem_cons.1 hx with rfl | hx; exact .inl (by simp); exact (hl1 x hx).imp (fun h => by simp [h]) id), fun x hx => by rcases hl2 x hx with h | h; exact hl1 x h; have := hk1.size; exact .inr (by omega)⟩
end Go.Proofs.YthfdkonhjpdflaaGreatDoor
end
