/-
  LOW4: Writer, Writer2, joined.
-/
import Derived.Test.YtmlmhnhilemjhaaDoorLow2
import Derived.Test.YtmlmhnhilemjhaaDoorLow1
section
namespace Go.Proofs.YtmlmhnhilemjhaaDoor
open Go.RowKit
set_option linter.unusedVariables false

/-- block p is a writer that stands at s; v is its slice -/
def isWr (w : World) (p : Nat) (v : Value) (s : WS) : Prop :=
  rowAt w p 109 #[v, .int .i64 s.e] ∧ owns w 5 1 v s.b.length (s.b.map bv)

theorem isWr.apart {w : World} {p : Nat} {v : Value} {s : WS} (h : isWr w p v s) : p ∉ homes v := h.2.apart h.1 (by decide)
theorem isWr.keep {S : List Nat} {w w' : World} {p : Nat} {v : Value} {s : WS} (h : isWr w p v s) (hk : keepBut S w w') (hp : p ∉ S) (hS : ∀ x ∈ homes v, x ∉ S) : isWr w' p v s :=
  ⟨hk.row h.1 hp, h.2.keep hk hS⟩

/-- what every method of a writer leaves -/
def wrPost (p : Nat) (v : Value) (s : WS) (w : World) (e : Ending) (w' : World) : Prop :=
  e = .returned (.pointer (some ⟨p, 0, none⟩)) ∧ ∃ v', isWr w' p v' s ∧ keepBut (p :: homes v) w w' ∧ ∀ x ∈ homes v', x ∈ homes v ∨ w.heap.size ≤ x

theorem infoU8w : (Tryd.prog.info? 5).map (fun i => (i.zero, i.size, i.bytes)) = some (some (.int .u8 0), 1, 1) := by kernel_rfl

set_option maxHeartbeats 400000 in
theorem closed_any (p : Nat) (v : Value) (s : WS) (w : World) (h : isWr w p v s) :
    Calls Tryd.prog 58 #[.pointer (some ⟨p, 0, none⟩)] w fun e w' => e = .returned (.bool (s.e != 0)) ∧ w = w' := by
  have hc1 : w.cell? ⟨p, 1, none⟩ = some (.int .i64 s.e) := h.1.cell 1
  by_cases he : s.e = 0
  · have he' : (s.e != 0) = false := by simp [he]
    clear he
    go_enter Tryd.func58, Tryd.ntmps58
    go_wp2
    go_ret
    exact ⟨by rw [he']; rfl, rfl⟩
  · have he' : (s.e != 0) = true := by simp [he]
    clear he
    go_enter Tryd.func58, Tryd.ntmps58
    go_wp2
    go_ret
    exact ⟨by rw [he']; rfl, rfl⟩

theorem fits_shift (m : Nat) (hm : m ≤ 8) : IntKind.i64.wrap (2 ^ (8 * m)) = if m = 8 then 0 else (2 : Int) ^ (8 * m) := by
  have : m = 0 ∨ m = 1 ∨ m = 2 ∨ m = 3 ∨ m = 4 ∨ m = 5 ∨ m = 6 ∨ m = 7 ∨ m = 8 := by omega
  rcases this with h | h | h | h | h | h | h | h | h <;> subst h <;> decide

set_option maxHeartbeats 400000 in
theorem fits_any (width n : Int) (w : World) (hw : isW width = true) :
    Calls Tryd.prog 60 #[.int .i64 width, .int .i64 n] w fun e w' => e = .returned (.bool (fitsP width n)) ∧ w = w' := by
  by_cases h0 : 0 ≤ n
  · rcases isW_cases hw with rfl | rfl | rfl | rfl
    · have hf : fitsP 1 n = decide (n < 256) := by simp [fitsP, h0]
      have HF := Lib.hid hf
      clear hf
      go_enter Tryd.func60, Tryd.ntmps60
      go_wp2
      go_ret
      exact ⟨by rw [HF.out]; rfl, rfl⟩
    · have hf : fitsP 2 n = decide (n < 65536) := by simp [fitsP, h0]
      have HF := Lib.hid hf
      clear hf
      go_enter Tryd.func60, Tryd.ntmps60
      go_wp2
      go_ret
      exact ⟨by rw [HF.out]; rfl, rfl⟩
    · have hf : fitsP 4 n = decide (n < 4294967296) := by simp [fitsP, h0]
      have HF := Lib.hid hf
      clear hf
      go_enter Tryd.func60, Tryd.ntmps60
      go_wp2
      go_ret
      exact ⟨by rw [HF.out]; rfl, rfl⟩
    · have hf : fitsP 8 n = decide (n ≤ 9007199254740991) := by (simp [fitsP, h0, mxN]; rfl)
      have HF := Lib.hid hf
      clear hf
      go_enter Tryd.func60, Tryd.ntmps60
      go_wp2
      go_ret
      exact ⟨by rw [HF.out]; rfl, rfl⟩
  · have hf : fitsP width n = false := by simp [fitsP, h0]
    have HF := Lib.hid hf
    clear hf
    rcases isW_cases hw with rfl | rfl | rfl | rfl
    all_goals
      go_enter Tryd.func60, Tryd.ntmps60
      go_wp2
      go_ret
      exact ⟨by rw [HF.out]; rfl, rfl⟩

/-- a new slice is stored into the writer -/
theorem wr_store {w W w2 : World} {p n : Nat} {v' : Value} {A2 : Option Addr} {c2 : Nat} {b1 l : List UInt8} {e : Int} (h : isWr w p v' ⟨b1, e⟩) (hW : keepBut [] w W) (hk : keepBut (homes v') W w2)
    (hown : owns w2 5 1 (.slice A2 n c2) n ((b1 ++ l).map bv)) (hloc : ∀ x ∈ homes (.slice A2 n c2), x ∈ homes v' ∨ W.heap.size ≤ x) :
    isWr (w2.setCell ⟨p, 0, none⟩ (.slice A2 n c2)) p (.slice A2 n c2) ⟨b1 ++ l, e⟩ ∧ keepBut (p :: homes v') w (w2.setCell ⟨p, 0, none⟩ (.slice A2 n c2)) ∧
      ∀ x ∈ homes (.slice A2 n c2), x ∈ homes v' ∨ w.heap.size ≤ x := by
  have hp2 := hk.row (hW.row h.1 (by simp)) h.apart
  have hap := hown.apart hp2 (by decide)
  have hn : n = (b1 ++ l).length := by have := hown.1; simp only [List.length_map] at this; omega
  have hk2 : keepBut (p :: homes v') w w2 := (hW.more (T := p :: homes v') (by simp)).then hk (fun x hx => .inl (by simp [hx]))
  refine ⟨⟨hp2.set 0 _, ?_⟩, hk2.setCell _ _ (.inl (by simp)), fun x hx => (hloc x hx).imp id (fun h => by have := hW.size; omega)⟩
  rw [← hn]
  exact hown.keep ((keepBut.refl [p] w2).setCell _ _ (.inl (by simp))) (fun x hx hxp => hap (by simp at hxp; rw [← hxp]; exact hx))

theorem wr_fail {w : World} {p : Nat} {v : Value} {s : WS} (h : isWr w p v s) (x : Int) : isWr (w.setCell ⟨p, 1, none⟩ (.int .i64 x)) p v ⟨s.b, x⟩ :=
  ⟨h.1.set 1 _, h.2.keep ((keepBut.refl [p] w).setCell _ _ (.inl (by simp))) (fun x hx hxp => h.apart (by simp at hxp; rw [← hxp]; exact hx))⟩

theorem beBytes_length (m k : Nat) : (beBytes m k).length = m := by simp [beBytes]
theorem beBytes_at (m k i : Nat) (h : i < m) : (beBytes m k)[i]? = some (UInt8.ofNat (k / 256 ^ (m - 1 - i) % 256)) := by
  simp [beBytes, h]
theorem shift_byte (k d : Nat) (c : Int) (hd : d ≤ 7) (hc : c = 8 * (d : Int)) :
    Value.int .u8 (IntKind.u8.wrap ((k : Int) / 2 ^ min c.toNat 64)) = bv (UInt8.ofNat (k / 256 ^ d % 256)) := by
  have h1 : min c.toNat 64 = 8 * d := by omega
  have h3 : (2 : Int) ^ (8 * d) = ((256 ^ d : Nat) : Int) := by
    rw [show (256 : Nat) ^ d = 2 ^ (8 * d) from by rw [Nat.pow_mul]]
    simp
  rw [h1, h3, IntKind.wrap_u8]
  unfold bv
  have h2 : (UInt8.ofNat (k / 256 ^ d % 256)).toNat = k / 256 ^ d % 256 := by
    rw [UInt8.toNat_ofNat']
    omega
  rw [h2]
  simp

/-- what holds at the head of each round of Num -/
def numRel (p : Nat) (v : Value) (s : WS) (m k : Nat) (w : World) (i : Value) (wr : World) : Prop :=
  ∃ (j : Nat) (v' : Value), i = .int .i64 j ∧ j ≤ m ∧ isWr wr p v' ⟨s.b ++ (beBytes m k).take j, 0⟩ ∧ keepBut (p :: homes v) w wr ∧ ∀ x ∈ homes v', x ∈ homes v ∨ w.heap.size ≤ x

set_option maxRecDepth 100000 in
set_option maxHeartbeats 1000000 in
theorem wnum_any (p : Nat) (v : Value) (s : WS) (width n : Int) (w : World) (h : isWr w p v s) (hb : s.b.length ≤ 1000000000) :
    Calls Tryd.prog 32 #[.pointer (some ⟨p, 0, none⟩), .int .i64 width, .int .i64 n] w (wrPost p v (s.num width n) w) := by
  have hc1 : w.cell? ⟨p, 1, none⟩ = some (.int .i64 s.e) := h.1.cell 1
  have hf1 := h.1.free 1
  by_cases he : s.e = 0
  · have he' : (s.e != 0) = false := by simp [he]
    have HE := Lib.hid he
    clear he
    by_cases hw : isW width = true
    · by_cases hfit : fitsP width n = true
      · obtain ⟨m, rfl⟩ : ∃ m : Nat, width = (m : Int) := ⟨width.toNat, by rcases isW_cases hw with h | h | h | h <;> omega⟩
        have hm : 1 ≤ m ∧ m ≤ 8 := by rcases isW_cases hw with h | h | h | h <;> omega
        obtain ⟨k, rfl⟩ : ∃ k : Nat, n = (k : Int) := ⟨n.toNat, by have : 0 ≤ n := (by simp [fitsP] at hfit; exact hfit.1)
                                                                   omega⟩
        have HFit := Lib.hid hfit
        have HW := Lib.hid hw
        go_enter Tryd.func32, Tryd.ntmps32
        go_wp2_with (first | (go_at_call 58; refine (closed_any p v s _ h).mono ?_; rintro e w' ⟨rfl, rfl⟩) | (go_at_call 59; refine (isWidth_any _ _).mono ?_; rintro e w' ⟨rfl, rfl⟩) | (go_at_call 60; refine (fits_any _ _ _ HW.out).mono ?_; rintro e w' ⟨rfl, rfl⟩))
        obtain ⟨i0, hi0, hz0, hz1, hz2⟩ := info_parts infoU8w
        go_loopw [27] (fun i wr => numRel p v s m k w i wr) (fun i _ => m - (intOf i).toNat)
        case atStart => exact ⟨0, v, rfl, by omega, by have := HE.out; simp only [List.take_zero, List.append_nil, ← this]; exact h, keepBut.refl _ _, fun x hx => .inl hx⟩
        case round =>
          obtain ⟨i, v', rfl, hi, hwr, hkb, hhm⟩ := hrel
          have hcell0 : wr.cell? ⟨p, 0, none⟩ = some v' := hwr.1.cell 0
          have hfree0 := hwr.1.free 0
          have hown := hwr.2
          have hN : (s.b ++ (beBytes m k).take i).length ≤ 1000000008 := by
            have := List.length_take_le i (beBytes m k)
            rw [List.length_append]; omega
          generalize hxs : (s.b ++ (beBytes m k).take i).map bv = xs at hown
          generalize hnn : (s.b ++ (beBytes m k).take i).length = N at hown hN
          have HXS := Lib.hid (And.intro hxs hnn)
          clear hxs hnn
          by_cases hlt : i < m
          · have HO := Lib.hid hown
            clear hown
            have HD := Lib.hid hwr
            clear hwr
            obtain ⟨a, ha⟩ : ∃ a : Int, a = (m : Int) - 1 := ⟨_, rfl⟩
            have hA : IntKind.i64.wrap ((m : Int) - 1) = a := by rw [ha]; exact wraps_i64 _ (by omega) (by omega)
            obtain ⟨b, hb2⟩ : ∃ b : Int, b = a - i := ⟨_, rfl⟩
            have hB : IntKind.i64.wrap (a - (i : Int)) = b := by rw [hb2]; exact wraps_i64 _ (by omega) (by omega)
            obtain ⟨c, hc⟩ : ∃ c : Int, c = 8 * b := ⟨_, rfl⟩
            have hC : IntKind.i64.wrap (8 * b) = c := by rw [hc]; exact wraps_i64 _ (by omega) (by omega)
            have hc0 : 0 ≤ c := by omega
            have HH := Lib.hid (And.intro ha (And.intro hb2 hc))
            clear ha hb2 hc
            have hplt := HD.out.1.lt
            go_wp2
            go_region_law (refine step_append _ rfl (.tmp 34) (.tmp 43) 29 rfl 5 i0 (.int .u8 0) 1 1 Tryd.underlying29 hi0 hz0 hz1 hz2 rfl (by decide) v' N xs (by simp [Act.eval]) (by first | exact (HO.out.alloc _) | exact HO.out.drew.alloc _ | exact (HO.out.alloc _).drew) _ _ 1 1 _ (by simp [Act.eval]) (reads_one _ _ _) (by intro u hu; simp at hu; subst hu; rfl) (by omega) (by unfold maxLen; omega) ?_; intro A2 c2 w2 hown2 hkb2 hloc2; have hW2 := hkb2.row (by first | exact ((keepBut.refl [] wr).drew.alloc _).row HD.out.1 (by simp) | exact ((keepBut.refl [] wr).alloc _).drew.row HD.out.1 (by simp)) HD.out.apart; have hcell2 : w2.cell? ⟨p, 0, none⟩ = some v' := hW2.cell 0; have hfree2 := hW2.free 0)
            all_goals
              obtain ⟨ha, hb3, hc3⟩ := HH.out
              have hbyte := shift_byte k (m - 1 - i) c (by omega) (by omega)
              have hx := beBytes_at m k i hlt
              rw [hbyte, ← HXS.out.1] at hown2
              have hst := wr_store HD.out (by first | exact (keepBut.refl [] wr).drew.alloc _ | exact ((keepBut.refl [] wr).alloc _).drew) hkb2 (l := [UInt8.ofNat (k / 256 ^ (m - 1 - i) % 256)]) (by rw [List.map_append]; exact hown2) hloc2
              have hbs : s.b ++ (beBytes m k).take i ++ [UInt8.ofNat (k / 256 ^ (m - 1 - i) % 256)] = s.b ++ (beBytes m k).take (i + 1) := by
                rw [List.take_add_one, hx, List.append_assoc]; rfl
              rw [hbs] at hst
              have HST := Lib.hid hst
              clear hst hown2 hbyte hx hbs ha hb3 hc3 hA hB hC hc0 hkb2 hloc2 hW2 hcell2 hfree2
              go_wp2
              go_roundw
              case rel => exact ⟨i + 1, _, by go_num, by omega, HST.out.1, hkb.then HST.out.2.1 (fun x hx => by rcases List.mem_cons.1 hx with rfl | hx; exact .inl (by simp); exact (hhm x hx).imp (fun h => by simp [h]) id), fun x hx => by rcases HST.out.2.2 x hx with h | h; exact hhm x h; have := hkb.size; exact .inr (by omega)⟩
              case measure => simp [intOf]; omega
          · obtain rfl : i = m := by omega
            have hfin : s.num (i : Int) (k : Int) = ⟨s.b ++ beBytes i k, 0⟩ := by
              unfold WS.num
              rw [if_pos HE.out, if_pos HW.out, if_pos HFit.out]; rfl
            have hall : (beBytes i k).take i = beBytes i k := List.take_of_length_le (by rw [beBytes_length]; exact Nat.le_refl _)
            rw [hall] at hwr
            have HFin := Lib.hid hfin
            clear hfin hall
            have HD := Lib.hid hwr
            clear hwr hown
            go_wp2
            go_ret
            exact ⟨rfl, v', by rw [HFin.out]; exact HD.out, hkb, hhm⟩
      · have hfin : s.num width n = ⟨s.b, 9⟩ := by
          unfold WS.num
          rw [if_pos HE.out, if_pos hw, if_neg hfit]
        have hfit' : fitsP width n = false := by simpa using hfit
        have HFin := Lib.hid hfin
        have HF := Lib.hid hfit'
        have HW := Lib.hid hw
        clear hfin hfit hfit' hw
        go_enter Tryd.func32, Tryd.ntmps32
        go_wp2_with (first | (go_at_call 58; refine (closed_any p v s _ h).mono ?_; rintro e w' ⟨rfl, rfl⟩) | (go_at_call 59; refine (isWidth_any _ _).mono ?_; rintro e w' ⟨rfl, rfl⟩; rw [HW.out]) | (go_at_call 60; refine (fits_any _ _ _ HW.out).mono ?_; rintro e w' ⟨rfl, rfl⟩; rw [HF.out]))
        go_ret
        exact ⟨rfl, v, by rw [HFin.out]; exact wr_fail h 9, (keepBut.refl _ _).setCell _ _ (.inl (by simp)), fun x hx => .inl hx⟩
    · have hfin : s.num width n = ⟨s.b, 2⟩ := by
        unfold WS.num
        rw [if_pos HE.out, if_neg hw]
      have hw' : isW width = false := by simpa using hw
      have HFin := Lib.hid hfin
      have HW := Lib.hid hw'
      clear hfin hw hw'
      go_enter Tryd.func32, Tryd.ntmps32
      go_wp2_with (first | (go_at_call 58; refine (closed_any p v s _ h).mono ?_; rintro e w' ⟨rfl, rfl⟩) | (go_at_call 59; refine (isWidth_any _ _).mono ?_; rintro e w' ⟨rfl, rfl⟩; rw [HW.out]))
      go_ret
      exact ⟨rfl, v, by rw [HFin.out]; exact wr_fail h 2, (keepBut.refl _ _).setCell _ _ (.inl (by simp)), fun x hx => .inl hx⟩
  · have hfin : s.num width n = s := by
      unfold WS.num
      rw [if_neg he]
    have he' : (s.e != 0) = true := by simp [he]
    have HFin := Lib.hid hfin
    clear hfin he
    go_enter Tryd.func32, Tryd.ntmps32
    go_wp2_with (first | (go_at_call 58; refine (closed_any p v s _ h).mono ?_; rintro e w' ⟨rfl, rfl⟩))
    go_ret
    exact ⟨rfl, v, by rw [HFin.out]; exact h, keepBut.refl _ _, fun x hx => .inl hx⟩
end Go.Proofs.YtmlmhnhilemjhaaDoor
end

section
namespace Go.Proofs.YtmlmhnhilemjhaaDoor
open Go.RowKit
set_option linter.unusedVariables false

theorem cbHi_zero : cbHi 0 = [] := by rw [cbHi]; simp
theorem cbHi_pos (n : Nat) (h : 0 < n) : cbHi n = cbHi (n / 128) ++ [UInt8.ofNat (128 + n % 128)] := by
  rw [cbHi, dif_neg (by omega)]
theorem cbHi_len : ∀ (j n : Nat), (cbHi n).length ≤ j ↔ n < 128 ^ j := by
  intro j
  induction j with
  | zero =>
    intro n
    rcases Nat.eq_zero_or_pos n with rfl | h
    · simp [cbHi_zero]
    · rw [cbHi_pos n h]; simp; omega
  | succ j ih =>
    intro n
    rcases Nat.eq_zero_or_pos n with rfl | h
    · simp [cbHi_zero]; exact Nat.pos_of_ne_zero (by simp)
    · rw [cbHi_pos n h]
      have := ih (n / 128)
      simp only [List.length_append, List.length_cons, List.length_nil, Nat.zero_add, Nat.add_le_add_iff_right, this, Nat.pow_succ]
      rw [Nat.div_lt_iff_lt_mul (by decide)]
theorem cbHi_at : ∀ (m n i : Nat), n ≤ m → i < (cbHi n).length → (cbHi n)[i]? = some (UInt8.ofNat (128 + n / 128 ^ ((cbHi n).length - 1 - i) % 128)) := by
  intro m
  induction m with
  | zero =>
    intro n i hn hi
    obtain rfl : n = 0 := by omega
    simp [cbHi_zero] at hi
  | succ m ih =>
    intro n i hn hi
    rcases Nat.eq_zero_or_pos n with rfl | h
    · simp [cbHi_zero] at hi
    · rw [cbHi_pos n h] at hi ⊢
      simp only [List.length_append, List.length_cons, List.length_nil, Nat.zero_add] at hi ⊢
      by_cases hlast : i < (cbHi (n / 128)).length
      · rw [List.getElem?_append_left hlast, ih (n / 128) i (by omega) hlast]
        have : (cbHi (n / 128)).length + 1 - 1 - i = ((cbHi (n / 128)).length - 1 - i) + 1 := by omega
        rw [this, Nat.pow_succ, Nat.mul_comm, ← Nat.div_div_eq_div_mul]
      · obtain rfl : i = (cbHi (n / 128)).length := by omega
        simp
theorem cb_more (n g : Nat) (hg : 1 ≤ g) : 0 < n / 128 ^ g ↔ g < (cb n).length := by
  unfold cb
  have := cbHi_len (g - 1) (n / 128)
  simp only [List.length_append, List.length_cons, List.length_nil, Nat.zero_add]
  rw [Nat.div_lt_iff_lt_mul (by decide), ← Nat.pow_succ, show (g - 1).succ = g by omega] at this
  have hp : 0 < 128 ^ g := Nat.pos_of_ne_zero (by simp)
  rw [Nat.div_pos_iff]
  omega
theorem cb_len_le (n : Nat) (h : n ≤ mxN) : (cb n).length ≤ 8 := by
  unfold cb
  have := (cbHi_len 7 (n / 128)).2 (by unfold mxN at h; have : (128 : Nat) ^ 7 = 562949953421312 := by decide
                                       omega)
  simp; omega
theorem cb_pos (n : Nat) : 1 ≤ (cb n).length := by unfold cb; simp
theorem cb_at (n i : Nat) (h : i < (cb n).length) :
    (cb n)[i]? = some (UInt8.ofNat (n / 128 ^ ((cb n).length - 1 - i) % 128 + if i + 1 < (cb n).length then 128 else 0)) := by
  have hl : (cb n).length = (cbHi (n / 128)).length + 1 := by simp [cb]
  rw [hl] at h ⊢
  unfold cb
  by_cases hi : i < (cbHi (n / 128)).length
  · rw [List.getElem?_append_left hi, cbHi_at _ _ _ (Nat.le_refl _) hi, if_pos (by omega)]
    have : (cbHi (n / 128)).length + 1 - 1 - i = ((cbHi (n / 128)).length - 1 - i) + 1 := by omega
    rw [this, Nat.pow_succ, Nat.mul_comm, ← Nat.div_div_eq_div_mul, Nat.add_comm]
  · obtain rfl : i = (cbHi (n / 128)).length := by omega
    simp

theorem shr_seven (k j : Nat) : (k : Int) / 2 ^ (7 * j) = ((k / 128 ^ j : Nat) : Int) := by
  have h3 : (2 : Int) ^ (7 * j) = ((128 ^ j : Nat) : Int) := by
    rw [show (128 : Nat) ^ j = 2 ^ (7 * j) from by rw [Nat.pow_mul]]
    simp
  rw [h3]; simp

theorem and_seven (k d : Nat) : bits .and .u8 ((k : Int) / 2 ^ (7 * d) % 256) 127 = ((k / 128 ^ d % 128 : Nat) : Int) := by
  rw [shr_seven]
  have := and_u8_127 (k / 128 ^ d % 256) (by omega)
  rw [show (((k / 128 ^ d : Nat) : Int) % 256) = ((k / 128 ^ d % 256 : Nat) : Int) from by omega, this]
  omega
theorem byte_hi (k d : Nat) : Value.int .u8 (bits .or .u8 (bits .and .u8 ((k : Int) / 2 ^ (7 * d) % 256) 127) 128) = bv (UInt8.ofNat (k / 128 ^ d % 128 + 128)) := by
  rw [and_seven, or_u8_128 _ (by omega)]
  unfold bv
  rw [UInt8.toNat_ofNat']
  congr 1
  omega
theorem byte_lo (k d : Nat) : Value.int .u8 (bits .and .u8 ((k : Int) / 2 ^ (7 * d) % 256) 127) = bv (UInt8.ofNat (k / 128 ^ d % 128 + 0)) := by
  rw [and_seven]
  unfold bv
  rw [UInt8.toNat_ofNat']
  congr 1
  omega

/-- the round's end, for whichever byte -/
theorem wc_step {p : Nat} {v v' : Value} {s : WS} {k i N : Nat} {w wr W w2 : World} {xs : List Value} {A2 : Option Addr} {c2 : Nat} {b : UInt8} (hD : isWr wr p v' ⟨s.b ++ (cb k).take i, 0⟩) (hb : (cb k)[i]? = some b)
    (hxs : (s.b ++ (cb k).take i).map bv = xs) (hkb : keepBut (p :: homes v) w wr) (hhm : ∀ x ∈ homes v', x ∈ homes v ∨ w.heap.size ≤ x) (hW : keepBut [] wr W)
    (hkb2 : keepBut (homes v') W w2) (hown2 : owns w2 5 1 (.slice A2 (N + 1) c2) (N + 1) (xs ++ [bv b])) (hloc2 : ∀ x ∈ homes (.slice A2 (N + 1) c2), x ∈ homes v' ∨ W.heap.size ≤ x) :
    isWr (w2.setCell ⟨p, 0, none⟩ (.slice A2 (N + 1) c2)) p (.slice A2 (N + 1) c2) ⟨s.b ++ (cb k).take (i + 1), 0⟩ ∧ keepBut (p :: homes v) w (w2.setCell ⟨p, 0, none⟩ (.slice A2 (N + 1) c2)) ∧
      ∀ x ∈ homes (.slice A2 (N + 1) c2), x ∈ homes v ∨ w.heap.size ≤ x := by
  have hst := wr_store hD hW hkb2 (l := [b]) (by rw [List.map_append, hxs]; exact hown2) hloc2
  have hbs : s.b ++ (cb k).take i ++ [b] = s.b ++ (cb k).take (i + 1) := by
    rw [List.take_add_one, hb, List.append_assoc]; rfl
  rw [hbs] at hst
  exact ⟨hst.1, hkb.then hst.2.1 (fun x hx => by rcases List.mem_cons.1 hx with rfl | hx; exact .inl (by simp); exact (hhm x hx).imp (fun h => by simp [h]) id), fun x hx => by rcases hst.2.2 x hx with h | h; exact hhm x h; have := hkb.size; exact .inr (by omega)⟩

/-- what holds at the head of each round of Count -/
def wcRel (p : Nat) (v : Value) (s : WS) (k : Nat) (w : World) (i : Value) (wr : World) : Prop :=
  ∃ (j : Nat) (v' : Value), i = .int .i64 j ∧ j ≤ (cb k).length ∧ isWr wr p v' ⟨s.b ++ (cb k).take j, 0⟩ ∧ keepBut (p :: homes v) w wr ∧ ∀ x ∈ homes v', x ∈ homes v ∨ w.heap.size ≤ x

set_option maxRecDepth 100000 in
set_option maxHeartbeats 1000000 in
theorem wcount_any (p : Nat) (v : Value) (s : WS) (n : Int) (w : World) (h : isWr w p v s) (hb : s.b.length ≤ 1000000000) :
    Calls Tryd.prog 33 #[.pointer (some ⟨p, 0, none⟩), .int .i64 n] w (wrPost p v (s.count n) w) := by
  have hc1 : w.cell? ⟨p, 1, none⟩ = some (.int .i64 s.e) := h.1.cell 1
  have hf1 := h.1.free 1
  by_cases he : s.e = 0
  · have he' : (s.e != 0) = false := by simp [he]
    have HE := Lib.hid he
    clear he
    by_cases hn : n < 0 ∨ (mxN : Int) < n
    · have hfin : s.count n = ⟨s.b, 9⟩ := by
        unfold WS.count
        rw [if_pos HE.out, if_pos hn]
      have hn' : n < 0 ∨ (9007199254740991 : Int) < n := by unfold mxN at hn; omega
      have HFin := Lib.hid hfin
      clear hfin hn
      rcases hn' with h0 | h0
      · go_enter Tryd.func33, Tryd.ntmps33
        go_wp2_with (first | (go_at_call 58; refine (closed_any p v s _ h).mono ?_; rintro e w' ⟨rfl, rfl⟩))
        go_ret
        exact ⟨rfl, v, by rw [HFin.out]; exact wr_fail h 9, (keepBut.refl _ _).setCell _ _ (.inl (by simp)), fun x hx => .inl hx⟩
      · have h1 : ¬ n < 0 := by omega
        go_enter Tryd.func33, Tryd.ntmps33
        go_wp2_with (first | (go_at_call 58; refine (closed_any p v s _ h).mono ?_; rintro e w' ⟨rfl, rfl⟩))
        go_ret
        exact ⟨rfl, v, by rw [HFin.out]; exact wr_fail h 9, (keepBut.refl _ _).setCell _ _ (.inl (by simp)), fun x hx => .inl hx⟩
    · obtain ⟨k, rfl⟩ : ∃ k : Nat, n = (k : Int) := ⟨n.toNat, by omega⟩
      have hk : k ≤ 9007199254740991 := by unfold mxN at hn; omega
      have hl8 := cb_len_le k hk
      have hl1 := cb_pos k
      have HM := Lib.hid (cb_more k)
      obtain ⟨G, hG⟩ : ∃ G, G = (cb k).length := ⟨_, rfl⟩
      rw [← hG] at hl8 hl1
      have HG := Lib.hid hG
      clear hG
      go_enter Tryd.func33, Tryd.ntmps33
      go_wp2_with (first | (go_at_call 58; refine (closed_any p v s _ h).mono ?_; rintro e w' ⟨rfl, rfl⟩))
      go_loop [5] (fun g => ∃ j : Nat, g = .int .i64 j ∧ 1 ≤ j ∧ j ≤ G) (fun g => G - (intOf g).toNat)
      case atStart => exact ⟨1, rfl, by omega, by omega⟩
      case round =>
        obtain ⟨j, rfl, hj1, hj2⟩ := hrel
        by_cases hjG : j < G
        · have hpos : (0 : Int) < (k : Int) / 2 ^ (7 * j) := by
            rw [shr_seven]; have := (HM.out j hj1).2 (by rw [← HG.out]; exact hjG); omega
          go_wp2
          go_round
          case rel => exact ⟨j + 1, by go_num, by omega, by omega⟩
          case measure => simp [intOf]; omega
        · obtain rfl : j = G := by omega
          have hpos : (k : Int) / 2 ^ (7 * j) ≤ 0 := by
            rw [shr_seven]; have := mt (HM.out j hj1).1 (by rw [← HG.out]; exact hjG); omega
          go_wp2
          obtain ⟨i0, hi0, hz0, hz1, hz2⟩ := info_parts infoU8w
          go_loopw [29] (fun i wr => wcRel p v s k w i wr) (fun i _ => j - (intOf i).toNat)
          case atStart => exact ⟨0, v, rfl, by omega, by have := HE.out; simp only [List.take_zero, List.append_nil, ← this]; exact h, keepBut.refl _ _, fun x hx => .inl hx⟩
          case round =>
            obtain ⟨i, v', rfl, hi, hwr, hkb, hhm⟩ := hrel
            rw [← HG.out] at hi
            have hcell0 : wr.cell? ⟨p, 0, none⟩ = some v' := hwr.1.cell 0
            have hfree0 := hwr.1.free 0
            have hown := hwr.2
            have hN : (s.b ++ (cb k).take i).length ≤ 1000000008 := by
              have := List.length_take_le i (cb k)
              rw [List.length_append]; omega
            generalize hxs : (s.b ++ (cb k).take i).map bv = xs at hown
            generalize hnn : (s.b ++ (cb k).take i).length = N at hown hN
            have HXS := Lib.hid (And.intro hxs hnn)
            clear hxs hnn
            have HO := Lib.hid hown
            clear hown
            have HD := Lib.hid hwr
            clear hwr
            by_cases hlt : i < j
            · have hplt := HD.out.1.lt
              by_cases hlast : i + 1 < j
              · go_wp2_with (at_builtin; refine wp_append _ rfl (.tmp 51) (.tmp 53) 29 rfl 5 i0 (.int .u8 0) 1 1 Tryd.underlying29 hi0 hz0 hz1 hz2 rfl (by decide) v' N xs (by simp [Act.eval]) (by first | exact (HO.out.alloc _) | exact HO.out.drew.alloc _ | exact (HO.out.alloc _).drew) _ _ 1 1 _ (by simp [Act.eval]) (reads_one _ _ _) (by intro u hu; simp at hu; subst hu; rfl) (by omega) (by unfold maxLen; omega) ?_; intro A2 c2 w2 hown2 hkb2 hloc2; have hW2 := hkb2.row (by first | exact ((keepBut.refl [] wr).drew.alloc _).row HD.out.1 (by simp) | exact ((keepBut.refl [] wr).alloc _).row HD.out.1 (by simp)) HD.out.apart; have hcell2 : w2.cell? ⟨p, 0, none⟩ = some v' := hW2.cell 0; have hfree2 := hW2.free 0)
                have hat := cb_at k i (by rw [← HG.out]; exact hlt)
                rw [← HG.out, if_pos hlast] at hat
                rw [byte_hi] at hown2
                have R := Lib.hid (wc_step HD.out hat HXS.out.1 hkb hhm ((keepBut.refl [] wr).alloc _) hkb2 hown2 hloc2)
                go_roundw
                case rel => exact ⟨i + 1, _, by go_num, by rw [← HG.out]; omega, R.out.1, R.out.2.1, R.out.2.2⟩
                case measure => simp [intOf]; omega
              · go_wp2_with (at_builtin; refine wp_append _ rfl (.tmp 51) (.tmp 53) 29 rfl 5 i0 (.int .u8 0) 1 1 Tryd.underlying29 hi0 hz0 hz1 hz2 rfl (by decide) v' N xs (by simp [Act.eval]) (by first | exact (HO.out.alloc _) | exact HO.out.drew.alloc _ | exact (HO.out.alloc _).drew) _ _ 1 1 _ (by simp [Act.eval]) (reads_one _ _ _) (by intro u hu; simp at hu; subst hu; rfl) (by omega) (by unfold maxLen; omega) ?_; intro A2 c2 w2 hown2 hkb2 hloc2; have hW2 := hkb2.row (by first | exact ((keepBut.refl [] wr).drew.alloc _).row HD.out.1 (by simp) | exact ((keepBut.refl [] wr).alloc _).row HD.out.1 (by simp)) HD.out.apart; have hcell2 : w2.cell? ⟨p, 0, none⟩ = some v' := hW2.cell 0; have hfree2 := hW2.free 0)
                have hat := cb_at k i (by rw [← HG.out]; exact hlt)
                rw [← HG.out, if_neg hlast] at hat
                rw [byte_lo] at hown2
                have R := Lib.hid (wc_step HD.out hat HXS.out.1 hkb hhm ((keepBut.refl [] wr).alloc _) hkb2 hown2 hloc2)
                go_roundw
                case rel => exact ⟨i + 1, _, by go_num, by rw [← HG.out]; omega, R.out.1, R.out.2.1, R.out.2.2⟩
                case measure => simp [intOf]; omega
            · obtain rfl : i = j := by omega
              have hfin : s.count (k : Int) = ⟨s.b ++ cb k, 0⟩ := by
                unfold WS.count
                rw [if_pos HE.out, if_neg hn]; rfl
              have hall : (cb k).take i = cb k := List.take_of_length_le (by rw [← HG.out]; exact Nat.le_refl _)
              rw [hall] at HD
              have HFin := Lib.hid hfin
              clear hfin hall
              go_wp2
              go_ret
              exact ⟨rfl, v', by rw [HFin.out]; exact HD.out, hkb, hhm⟩
  · have hfin : s.count n = s := by
      unfold WS.count
      rw [if_neg he]
    have he' : (s.e != 0) = true := by simp [he]
    have HFin := Lib.hid hfin
    clear hfin he
    go_enter Tryd.func33, Tryd.ntmps33
    go_wp2_with (first | (go_at_call 58; refine (closed_any p v s _ h).mono ?_; rintro e w' ⟨rfl, rfl⟩))
    go_ret
    exact ⟨rfl, v, by rw [HFin.out]; exact h, keepBut.refl _ _, fun x hx => .inl hx⟩

set_option maxHeartbeats 1000000 in
theorem wraw_any (p : Nat) (v : Value) (s : WS) (A : Option Addr) (g c : Nat) (l : List UInt8) (w : World) (h : isWr w p v s) (hs : seen w A g l) (hb : s.b.length + l.length ≤ 140737488355328) :
    Calls Tryd.prog 35 #[.pointer (some ⟨p, 0, none⟩), .slice A l.length c] w (wrPost p v (s.raw l) w) := by
  have hc0 : w.cell? ⟨p, 0, none⟩ = some v := h.1.cell 0
  have hf0 := h.1.free 0
  by_cases he : s.e = 0
  · have he' : (s.e != 0) = false := by simp [he]
    have HE := Lib.hid he
    obtain ⟨sb, se⟩ := s
    simp only at he
    subst he
    have hfin : WS.raw ⟨sb, 0⟩ l = ⟨sb ++ l, 0⟩ := by simp [WS.raw]
    have HFin := Lib.hid hfin
    clear hfin
    obtain ⟨i0, hi0, hz0, hz1, hz2⟩ := info_parts infoU8w
    have HD := Lib.hid h
    have hplt := h.1.lt
    have HO := Lib.hid (show owns w 5 1 v sb.length (sb.map bv) from h.2)
    have hb' : sb.length + l.length ≤ 140737488355328 := hb
    have HS := Lib.hid hs.reads
    go_enter Tryd.func35, Tryd.ntmps35
    go_wp2_with (first | (go_at_call 58; refine (closed_any p v _ _ h).mono ?_; rintro e w' ⟨rfl, rfl⟩) | (at_builtin; refine wp_append _ rfl (.tmp 12) (.tmp 13) 29 rfl 5 i0 (.int .u8 0) 1 1 Tryd.underlying29 hi0 hz0 hz1 hz2 rfl (by decide) v sb.length _ (by simp [Act.eval]) HO.out A g l.length c _ (by simp [Act.eval]) HS.out (by intro u hu; simp at hu; obtain ⟨b, _, rfl⟩ := hu; rfl) (by omega) (by unfold maxLen; omega) ?_; intro A2 c2 w2 hown2 hkb2 hloc2; have hW2 := hkb2.row HD.out.1 HD.out.apart; have hcell2 : w2.cell? ⟨p, 0, none⟩ = some v := hW2.cell 0; have hfree2 := hW2.free 0))
    go_ret
    have hst := wr_store HD.out (keepBut.refl [] w) hkb2 (l := l) (by rw [List.map_append]; exact hown2) hloc2
    exact ⟨rfl, _, by rw [HFin.out]; exact hst.1, hst.2.1, hst.2.2⟩
  · have hfin : s.raw l = s := by
      unfold WS.raw
      rw [if_neg he]
    have he' : (s.e != 0) = true := by simp [he]
    have HFin := Lib.hid hfin
    clear hfin he
    go_enter Tryd.func35, Tryd.ntmps35
    go_wp2_with (first | (go_at_call 58; refine (closed_any p v s _ h).mono ?_; rintro e w' ⟨rfl, rfl⟩))
    go_ret
    exact ⟨rfl, v, by rw [HFin.out]; exact h, keepBut.refl _ _, fun x hx => .inl hx⟩

theorem count_b_le (s : WS) (n : Int) : (s.count n).b.length ≤ s.b.length + 8 := by
  unfold WS.count
  split
  · split
    · simp
    · rename_i h1 h2
      have := cb_len_le n.toNat (by omega)
      simp only [List.length_append]; omega
  · omega

set_option maxHeartbeats 1000000 in
theorem wtext_any (p : Nat) (v : Value) (s : WS) (A : Option Addr) (g c : Nat) (l : List UInt8) (w : World) (h : isWr w p v s) (hs : seen w A g l) (hg : l ≠ [] → g ≠ p ∧ g ∉ homes v) (hb : s.b.length ≤ 1000000000) (hb2 : l.length ≤ 1000000000) :
    Calls Tryd.prog 36 #[.pointer (some ⟨p, 0, none⟩), .slice A l.length c] w (wrPost p v (s.text l) w) := by
  have hcb := count_b_le s (l.length : Int)
  go_enter Tryd.func36, Tryd.ntmps36
  go_wp2_with (first | (go_at_call 33; refine (wcount_any p v s _ _ h hb).mono ?_; rintro e w1 ⟨rfl, v1, hw1, hk1, hl1⟩) | (go_at_call 35; refine (wraw_any p _ _ A g c l _ (by assumption) (hs.keep (by assumption) (fun hl hm => by rcases List.mem_cons.1 hm with h1 | h1; exact (hg hl).1 h1; exact (hg hl).2 h1)) (by omega)).mono ?_; rintro e w2 ⟨rfl, v2, hw2, hk2, hl2⟩))
  go_ret
  exact ⟨rfl, v2, hw2, hk1.then hk2 (fun x hx => by rcases List.mem_cons.1 hx with rfl | hx; exact .inl (by simp); exact (hl1 x hx).imp (fun h => by simp [h]) id), fun x hx => by rcases hl2 x hx with h | h; exact hl1 x h; have := hk1.size; exact .inr (by omega)⟩

/-- what Bytes leaves: a copy of its own -/
def bytesPost (s : WS) (w : World) (e : Ending) (w' : World) : Prop :=
  ∃ v, e = .returned (.tuple #[v, .int .i64 s.e]) ∧ owns w' 5 1 v s.bytes.length (s.bytes.map bv) ∧ (∀ x ∈ homes v, w.heap.size ≤ x) ∧ keepBut [] w w'

set_option maxHeartbeats 1000000 in
theorem wbytes_any (p : Nat) (v : Value) (s : WS) (w : World) (h : isWr w p v s) (hb : s.b.length ≤ 140737488355328) :
    Calls Tryd.prog 38 #[.pointer (some ⟨p, 0, none⟩)] w (bytesPost s w) := by
  have hc1 : w.cell? ⟨p, 1, none⟩ = some (.int .i64 s.e) := h.1.cell 1
  have hc0 : w.cell? ⟨p, 0, none⟩ = some v := h.1.cell 0
  by_cases he : s.e = 0
  · have he' : (s.e != 0) = false := by simp [he]
    have hfin : s.bytes = s.b := by simp [WS.bytes, he]
    have HFin := Lib.hid hfin
    have HE := Lib.hid he
    clear hfin he
    obtain ⟨i0, hi0, hz0, hz1, hz2⟩ := info_parts infoU8w
    obtain ⟨A, c, rfl, _, _, _, hrd⟩ := h.2.form
    obtain ⟨g, hg⟩ : ∃ g, homes (.slice A s.b.length c) = [] ∨ homes (.slice A s.b.length c) = [g] := by
      unfold homes
      cases Value.ownBlock (.slice A s.b.length c) with
      | none => exact ⟨0, .inl rfl⟩
      | some g => exact ⟨g, .inr rfl⟩
    have HS := Lib.hid (hrd g hg)
    clear hrd hg
    go_enter Tryd.func38, Tryd.ntmps38
    go_wp2_with (at_builtin; refine wp_append _ rfl _ (.tmp 18) 29 rfl 5 i0 (.int .u8 0) 1 1 Tryd.underlying29 hi0 hz0 hz1 hz2 rfl (by decide) (.slice none 0 0) 0 [] rfl (owns.nil _ _ _) A g s.b.length c _ (by simp [Act.eval]) HS.out (by intro u hu; simp at hu; obtain ⟨b, _, rfl⟩ := hu; rfl) (by omega) (by unfold maxLen; omega) ?_; intro A2 c2 w2 hown2 hkb2 hloc2)
    go_ret2
    refine ⟨_, by rw [HE.out]; rfl, ?_, fun x hx => ?_, hkb2⟩
    · rw [HFin.out]; simpa using hown2
    · rcases hloc2 x (by simpa using hx) with h1 | h1
      · simp [homes_none] at h1
      · exact h1
  · have he' : (s.e != 0) = true := by simp [he]
    have hfin : s.bytes = [] := by simp [WS.bytes, he]
    have HFin := Lib.hid hfin
    clear hfin he
    go_enter Tryd.func38, Tryd.ntmps38
    go_wp2
    go_region
    all_goals
      try go_wp2
      go_ret2
      exact ⟨.slice none 0 0, rfl, by rw [HFin.out]; exact owns.nil _ _ _, by simp [homes_none], (keepBut.refl _ _).drew⟩

set_option maxHeartbeats 400000 in
theorem write_any (w : World) :
    Calls Tryd.prog 31 #[] w fun e w' => ∃ p, e = .returned (.pointer (some ⟨p, 0, none⟩)) ∧ isWr w' p (.slice none 0 0) ⟨[], 0⟩ ∧ w.heap.size ≤ p ∧ keepBut [] w w' := by
  go_enter Tryd.func31, Tryd.ntmps31
  go_wp2
  go_ret
  exact ⟨w.heap.size, rfl, ⟨rowAt.new _ _ _, owns.nil _ _ _⟩, Nat.le_refl _, (keepBut.refl _ _).alloc _⟩
end Go.Proofs.YtmlmhnhilemjhaaDoor
end
