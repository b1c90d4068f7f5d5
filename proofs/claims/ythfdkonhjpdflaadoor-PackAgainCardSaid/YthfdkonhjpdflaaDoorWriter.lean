/-
  THE WRITER of package num: each method does what the pure function says.
-/
import Derived.Test.YthfdkonhjpdflaaDoorReader2
import Derived.Test.YthfdkonhjpdflaaDoorAppend
namespace Go.Proofs.YthfdkonhjpdflaaDoor
open Go.RowKit
set_option linter.unusedVariables false

/-- block p is a writer that stands at s; v is its slice -/
def isWr (w : World) (p : Nat) (v : Value) (s : WS) : Prop :=
  rowAt w p 113 #[v, .int .i64 s.e] ∧ owns w 5 1 v s.b.length (s.b.map bv)

theorem isWr.apart {w : World} {p : Nat} {v : Value} {s : WS} (h : isWr w p v s) : p ∉ homes v := h.2.apart h.1 (by decide)
theorem isWr.keep {S : List Nat} {w w' : World} {p : Nat} {v : Value} {s : WS} (h : isWr w p v s) (hk : keepBut S w w') (hp : p ∉ S) (hS : ∀ x ∈ homes v, x ∉ S) : isWr w' p v s :=
  ⟨hk.row h.1 hp, h.2.keep hk hS⟩

/-- what every method of a writer leaves -/
def wrPost (p : Nat) (v : Value) (s : WS) (w : World) (e : Ending) (w' : World) : Prop :=
  e = .returned (.pointer (some ⟨p, 0, none⟩)) ∧ ∃ v', isWr w' p v' s ∧ keepBut (p :: homes v) w w' ∧ ∀ x ∈ homes v', x ∈ homes v ∨ w.heap.size ≤ x

theorem infoU8w : (Tryd.prog.info? 5).map (fun i => (i.zero, i.size, i.bytes)) = some (some (.int .u8 0), 1, 1) := by kernel_rfl

set_option maxHeartbeats 400000 in
theorem closed_any (p : Nat) (v : Value) (s : WS) (w : World) (h : isWr w p v s) :
    Calls Tryd.prog 68 #[.pointer (some ⟨p, 0, none⟩)] w fun e w' => e = .returned (.bool (s.e != 0)) ∧ w = w' := by
  have hc1 : w.cell? ⟨p, 1, none⟩ = some (.int .i64 s.e) := h.1.cell 1
  by_cases he : s.e = 0
  · have he' : (s.e != 0) = false := by simp [he]
    clear he
    go_enter Tryd.func68, Tryd.ntmps68
    go_wp2
    go_ret
    exact ⟨by rw [he']; rfl, rfl⟩
  · have he' : (s.e != 0) = true := by simp [he]
    clear he
    go_enter Tryd.func68, Tryd.ntmps68
    go_wp2
    go_ret
    exact ⟨by rw [he']; rfl, rfl⟩

theorem fits_shift (m : Nat) (hm : m ≤ 8) : IntKind.i64.wrap (2 ^ (8 * m)) = if m = 8 then 0 else (2 : Int) ^ (8 * m) := by
  have : m = 0 ∨ m = 1 ∨ m = 2 ∨ m = 3 ∨ m = 4 ∨ m = 5 ∨ m = 6 ∨ m = 7 ∨ m = 8 := by omega
  rcases this with h | h | h | h | h | h | h | h | h <;> subst h <;> decide

set_option maxHeartbeats 400000 in
theorem fits_any (width n : Int) (w : World) (hw : isW width = true) :
    Calls Tryd.prog 70 #[.int .i64 width, .int .i64 n] w fun e w' => e = .returned (.bool (fitsP width n)) ∧ w = w' := by
  by_cases h0 : 0 ≤ n
  · rcases isW_cases hw with rfl | rfl | rfl | rfl
    · have hf : fitsP 1 n = decide (n < 256) := by simp [fitsP, h0]
      have HF := Lib.hid hf
      clear hf
      go_enter Tryd.func70, Tryd.ntmps70
      go_wp2
      go_ret
      exact ⟨by rw [HF.out]; rfl, rfl⟩
    · have hf : fitsP 2 n = decide (n < 65536) := by simp [fitsP, h0]
      have HF := Lib.hid hf
      clear hf
      go_enter Tryd.func70, Tryd.ntmps70
      go_wp2
      go_ret
      exact ⟨by rw [HF.out]; rfl, rfl⟩
    · have hf : fitsP 4 n = decide (n < 4294967296) := by simp [fitsP, h0]
      have HF := Lib.hid hf
      clear hf
      go_enter Tryd.func70, Tryd.ntmps70
      go_wp2
      go_ret
      exact ⟨by rw [HF.out]; rfl, rfl⟩
    · have hf : fitsP 8 n = decide (n ≤ 9007199254740991) := by (simp [fitsP, h0, mxN]; rfl)
      have HF := Lib.hid hf
      clear hf
      go_enter Tryd.func70, Tryd.ntmps70
      go_wp2
      go_ret
      exact ⟨by rw [HF.out]; rfl, rfl⟩
  · have hf : fitsP width n = false := by simp [fitsP, h0]
    have HF := Lib.hid hf
    clear hf
    rcases isW_cases hw with rfl | rfl | rfl | rfl
    all_goals
      go_enter Tryd.func70, Tryd.ntmps70
      go_wp2
      go_ret
      exact ⟨by rw [HF.out]; rfl, rfl⟩

/-- a new slice is stored into the writer -/
theorem wr_store {w W w2 : World} {p n : Nat} {v' : Value} {A2 : Option Addr} {c2 : Nat} {b1 l : List UInt8} {e : Int} (h : isWr w p v' ⟨b1, e⟩) (hW : keepBut [] w W) (hk : keepBut (homes v') W w2)
    (hown : owns w2 5 1 (.slice A2 n c2) n ((b1 ++ l).map bv)) (hloc : ∀ x ∈ homes (.slice A2 n c2), x ∈ homes v' ∨ W.heap.size ≤ x) :
    isWr (w2.setCell ⟨p, 0, none⟩ (.slice A2 n c2)) p (.slice A2 n c2) ⟨b1 ++ l, e⟩ ∧ keepBut (p :: homes v') w (w2.setCell ⟨p, 0, none⟩ (.slice A2 n c2)) ∧
      ∀ x ∈ homes (.slice A2 n c2), x ∈ homes v' ∨ w.heap.size ≤ x := by
  have hp2 := hk.row (hW.row h.1 (by simp)) h.apart
  have hap := hown.apart hp2 (by decide)
  have hn : n = (b1 ++ l).length := by have := hown.1; simp only [List.length_map] at this; omega
  have hk2 : keepBut (p :: homes v') w w2 := (hW.more (T := p :: homes v') (by simp)).then hk (fun x hx => .inl (by simp [hx]))
  refine ⟨⟨hp2.set 0 _, ?_⟩, hk2.setCell _ _ (.inl (by simp)), fun x hx => (hloc x hx).imp id (fun h => by have := hW.size; omega)⟩
  rw [← hn]
  exact hown.keep ((keepBut.refl [p] w2).setCell _ _ (.inl (by simp))) (fun x hx hxp => hap (by simp at hxp; rw [← hxp]; exact hx))

theorem wr_fail {w : World} {p : Nat} {v : Value} {s : WS} (h : isWr w p v s) (x : Int) : isWr (w.setCell ⟨p, 1, none⟩ (.int .i64 x)) p v ⟨s.b, x⟩ :=
  ⟨h.1.set 1 _, h.2.keep ((keepBut.refl [p] w).setCell _ _ (.inl (by simp))) (fun x hx hxp => h.apart (by simp at hxp; rw [← hxp]; exact hx))⟩

theorem beBytes_length (m k : Nat) : (beBytes m k).length = m := by simp [beBytes]
theorem beBytes_at (m k i : Nat) (h : i < m) : (beBytes m k)[i]? = some (UInt8.ofNat (k / 256 ^ (m - 1 - i) % 256)) := by
  simp [beBytes, h]
theorem shift_byte (k d : Nat) (c : Int) (hd : d ≤ 7) (hc : c = 8 * (d : Int)) :
    Value.int .u8 (IntKind.u8.wrap ((k : Int) / 2 ^ min c.toNat 64)) = bv (UInt8.ofNat (k / 256 ^ d % 256)) := by
  have h1 : min c.toNat 64 = 8 * d := by omega
  have h3 : (2 : Int) ^ (8 * d) = ((256 ^ d : Nat) : Int) := by
    rw [show (256 : Nat) ^ d = 2 ^ (8 * d) from by rw [Nat.pow_mul]]
    simp
  rw [h1, h3, IntKind.wrap_u8]
  unfold bv
  have h2 : (UInt8.ofNat (k / 256 ^ d % 256)).toNat = k / 256 ^ d % 256 := by
    rw [UInt8.toNat_ofNat']
    omega
  rw [h2]
  simp

/-- what holds at the head of each round of Num -/
def numRel (p : Nat) (v : Value) (s : WS) (m k : Nat) (w : World) (i : Value) (wr : World) : Prop :=
  ∃ (j : Nat) (v' : Value), i = .int .i64 j ∧ j ≤ m ∧ isWr wr p v' ⟨s.b ++ (beBytes m k).take j, 0⟩ ∧ keepBut (p :: homes v) w wr ∧ ∀ x ∈ homes v', x ∈ homes v ∨ w.heap.size ≤ x

set_option maxRecDepth 100000 in
set_option maxHeartbeats 1000000 in
theorem wnum_any (p : Nat) (v : Value) (s : WS) (width n : Int) (w : World) (h : isWr w p v s) (hb : s.b.length ≤ 1000000000) :
    Calls Tryd.prog 29 #[.pointer (some ⟨p, 0, none⟩), .int .i64 width, .int .i64 n] w (wrPost p v (s.num width n) w) := by
  have hc1 : w.cell? ⟨p, 1, none⟩ = some (.int .i64 s.e) := h.1.cell 1
  have hf1 := h.1.free 1
  by_cases he : s.e = 0
  · have he' : (s.e != 0) = false := by simp [he]
    have HE := Lib.hid he
    clear he
    by_cases hw : isW width = true
    · by_cases hfit : fitsP width n = true
      · obtain ⟨m, rfl⟩ : ∃ m : Nat, width = (m : Int) := ⟨width.toNat, by rcases isW_cases hw with h | h | h | h <;> omega⟩
        have hm : 1 ≤ m ∧ m ≤ 8 := by rcases isW_cases hw with h | h | h | h <;> omega
        obtain ⟨k, rfl⟩ : ∃ k : Nat, n = (k : Int) := ⟨n.toNat, by have : 0 ≤ n := (by simp [fitsP] at hfit; exact hfit.1)
                                                                   omega⟩
        have HFit := Lib.hid hfit
        have HW := Lib.hid hw
        go_enter Tryd.func29, Tryd.ntmps29
        go_wp2_with (first | (go_at_call 68; refine (closed_any p v s _ h).mono ?_; rintro e w' ⟨rfl, rfl⟩) | (go_at_call 69; refine (isWidth_any _ _).mono ?_; rintro e w' ⟨rfl, rfl⟩) | (go_at_call 70; refine (fits_any _ _ _ HW.out).mono ?_; rintro e w' ⟨rfl, rfl⟩))
        obtain ⟨i0, hi0, hz0, hz1, hz2⟩ := info_parts infoU8w
        go_loopw [27] (fun i wr => numRel p v s m k w i wr) (fun i _ => m - (intOf i).toNat)
        case atStart => exact ⟨0, v, rfl, by omega, by have := HE.out; simp only [List.take_zero, List.append_nil, ← this]; exact h, keepBut.refl _ _, fun x hx => .inl hx⟩
        case round =>
          obtain ⟨i, v', rfl, hi, hwr, hkb, hhm⟩ := hrel
          have hcell0 : wr.cell? ⟨p, 0, none⟩ = some v' := hwr.1.cell 0
          have hfree0 := hwr.1.free 0
          have hown := hwr.2
          have hN : (s.b ++ (beBytes m k).take i).length ≤ 1000000008 := by
            have := List.length_take_le i (beBytes m k)
            rw [List.length_append]; omega
          generalize hxs : (s.b ++ (beBytes m k).take i).map bv = xs at hown
          generalize hnn : (s.b ++ (beBytes m k).take i).length = N at hown hN
          have HXS := Lib.hid (And.intro hxs hnn)
          clear hxs hnn
          by_cases hlt : i < m
          · have HO := Lib.hid hown
            clear hown
            have HD := Lib.hid hwr
            clear hwr
            obtain ⟨a, ha⟩ : ∃ a : Int, a = (m : Int) - 1 := ⟨_, rfl⟩
            have hA : IntKind.i64.wrap ((m : Int) - 1) = a := by rw [ha]; exact wraps_i64 _ (by omega) (by omega)
            obtain ⟨b, hb2⟩ : ∃ b : Int, b = a - i := ⟨_, rfl⟩
            have hB : IntKind.i64.wrap (a - (i : Int)) = b := by rw [hb2]; exact wraps_i64 _ (by omega) (by omega)
            obtain ⟨c, hc⟩ : ∃ c : Int, c = 8 * b := ⟨_, rfl⟩
            have hC : IntKind.i64.wrap (8 * b) = c := by rw [hc]; exact wraps_i64 _ (by omega) (by omega)
            have hc0 : 0 ≤ c := by omega
            have HH := Lib.hid (And.intro ha (And.intro hb2 hc))
            clear ha hb2 hc
            have hplt := HD.out.1.lt
            go_wp2
            go_region_law (refine step_append _ rfl (.tmp 34) (.tmp 43) 23 rfl 5 i0 (.int .u8 0) 1 1 Tryd.underlying23 hi0 hz0 hz1 hz2 rfl (by decide) v' N xs (by simp [Act.eval]) (by first | exact (HO.out.alloc _) | exact HO.out.drew.alloc _ | exact (HO.out.alloc _).drew) _ _ 1 1 _ (by simp [Act.eval]) (reads_one _ _ _) (by intro u hu; simp at hu; subst hu; rfl) (by omega) (by unfold maxLen; omega) ?_; intro A2 c2 w2 hown2 hkb2 hloc2; have hW2 := hkb2.row (by first | exact ((keepBut.refl [] wr).drew.alloc _).row HD.out.1 (by simp) | exact ((keepBut.refl [] wr).alloc _).drew.row HD.out.1 (by simp)) HD.out.apart; have hcell2 : w2.cell? ⟨p, 0, none⟩ = some v' := hW2.cell 0; have hfree2 := hW2.free 0)
            all_goals
              obtain ⟨ha, hb3, hc3⟩ := HH.out
              have hbyte := shift_byte k (m - 1 - i) c (by omega) (by omega)
              have hx := beBytes_at m k i hlt
              rw [hbyte, ← HXS.out.1] at hown2
              have hst := wr_store HD.out (by first | exact (keepBut.refl [] wr).drew.alloc _ | exact ((keepBut.refl [] wr).alloc _).drew) hkb2 (l := [UInt8.ofNat (k / 256 ^ (m - 1 - i) % 256)]) (by rw [List.map_append]; exact hown2) hloc2
              have hbs : s.b ++ (beBytes m k).take i ++ [UInt8.ofNat (k / 256 ^ (m - 1 - i) % 256)] = s.b ++ (beBytes m k).take (i + 1) := by
                rw [List.take_add_one, hx, List.append_assoc]; rfl
              rw [hbs] at hst
              have HST := Lib.hid hst
              clear hst hown2 hbyte hx hbs ha hb3 hc3 hA hB hC hc0 hkb2 hloc2 hW2 hcell2 hfree2
              go_wp2
              go_roundw
              case rel => exact ⟨i + 1, _, by go_num, by omega, HST.out.1, hkb.then HST.out.2.1 (fun x hx => by rcases List.mem_cons.1 hx with rfl | hx; exact .inl (by simp); exact (hhm x hx).imp (fun h => by simp [h]) id), fun x hx => by rcases HST.out.2.2 x hx with h | h; exact hhm x h; have := hkb.size; exact .inr (by omega)⟩
              case measure => simp [intOf]; omega
          · obtain rfl : i = m := by omega
            have hfin : s.num (i : Int) (k : Int) = ⟨s.b ++ beBytes i k, 0⟩ := by
              unfold WS.num
              rw [if_pos HE.out, if_pos HW.out, if_pos HFit.out]; rfl
            have hall : (beBytes i k).take i = beBytes i k := List.take_of_length_le (by rw [beBytes_length]; exact Nat.le_refl _)
            rw [hall] at hwr
            have HFin := Lib.hid hfin
            clear hfin hall
            have HD := Lib.hid hwr
            clear hwr hown
            go_wp2
            go_ret
            exact ⟨rfl, v', by rw [HFin.out]; exact HD.out, hkb, hhm⟩
      · have hfin : s.num width n = ⟨s.b, 9⟩ := by
          unfold WS.num
          rw [if_pos HE.out, if_pos hw, if_neg hfit]
        have hfit' : fitsP width n = false := by simpa using hfit
        have HFin := Lib.hid hfin
        have HF := Lib.hid hfit'
        have HW := Lib.hid hw
        clear hfin hfit hfit' hw
        go_enter Tryd.func29, Tryd.ntmps29
        go_wp2_with (first | (go_at_call 68; refine (closed_any p v s _ h).mono ?_; rintro e w' ⟨rfl, rfl⟩) | (go_at_call 69; refine (isWidth_any _ _).mono ?_; rintro e w' ⟨rfl, rfl⟩; rw [HW.out]) | (go_at_call 70; refine (fits_any _ _ _ HW.out).mono ?_; rintro e w' ⟨rfl, rfl⟩; rw [HF.out]))
        go_ret
        exact ⟨rfl, v, by rw [HFin.out]; exact wr_fail h 9, (keepBut.refl _ _).setCell _ _ (.inl (by simp)), fun x hx => .inl hx⟩
    · have hfin : s.num width n = ⟨s.b, 2⟩ := by
        unfold WS.num
        rw [if_pos HE.out, if_neg hw]
      have hw' : isW width = false := by simpa using hw
      have HFin := Lib.hid hfin
      have HW := Lib.hid hw'
      clear hfin hw hw'
      go_enter Tryd.func29, Tryd.ntmps29
      go_wp2_with (first | (go_at_call 68; refine (closed_any p v s _ h).mono ?_; rintro e w' ⟨rfl, rfl⟩) | (go_at_call 69; refine (isWidth_any _ _).mono ?_; rintro e w' ⟨rfl, rfl⟩; rw [HW.out]))
      go_ret
      exact ⟨rfl, v, by rw [HFin.out]; exact wr_fail h 2, (keepBut.refl _ _).setCell _ _ (.inl (by simp)), fun x hx => .inl hx⟩
  · have hfin : s.num width n = s := by
      unfold WS.num
      rw [if_neg he]
    have he' : (s.e != 0) = true := by simp [he]
    have HFin := Lib.hid hfin
    clear hfin he
    go_enter Tryd.func29, Tryd.ntmps29
    go_wp2_with (first | (go_at_call 68; refine (closed_any p v s _ h).mono ?_; rintro e w' ⟨rfl, rfl⟩))
    go_ret
    exact ⟨rfl, v, by rw [HFin.out]; exact h, keepBut.refl _ _, fun x hx => .inl hx⟩
end Go.Proofs.YthfdkonhjpdflaaDoor
