/-
  NumBack: what was written is read as it was, and what stands behind it is left.
-/
import Derived.Test.YtgbobdlaahcjoaaNumBackPure
import Derived.Test.YtgbobdlaahcjoaaNumFirst
namespace Go.Proofs.Ytgbobdlaahcjoaa
open Go.RowKit
set_option linter.unusedVariables false

theorem num_write (bs : List UInt8) (k a : Nat) (hw : isW (k : Int) = true) (hf : fitsP (k : Int) (a : Int) = true) : (WS.mk bs 0).num (k : Int) (a : Int) = ⟨bs ++ beBytes k a, 0⟩ := by
  unfold WS.num; rw [if_pos rfl, if_pos hw, if_pos hf]; rfl
theorem count_write (bs : List UInt8) (a : Nat) (h : a ≤ mxN) : (WS.mk bs 0).count (a : Int) = ⟨bs ++ cb a, 0⟩ := by
  unfold WS.count; rw [if_pos rfl, if_neg (by omega)]; rfl
theorem text_write (bs t : List UInt8) (h : t.length ≤ mxN) : (WS.mk bs 0).text t = ⟨bs ++ (cb t.length ++ t), 0⟩ := by
  unfold WS.text; rw [count_write bs t.length h]; unfold WS.raw; rw [if_pos rfl, List.append_assoc]

theorem fits_top (j : Nat) (z : Int) : fitsP (wd j : Int) (aOf j z : Int) = true := by
  have h1 := aOf_lt j z
  have h2 : j % 4 = 0 ∨ j % 4 = 1 ∨ j % 4 = 2 ∨ j % 4 = 3 := by omega
  unfold fitsP
  rcases h2 with h | h | h | h
  · have e : wd j = 1 := by simp [wd, h]
    have t : topOf j = 256 := by simp [topOf, h]
    rw [e]; simp; omega
  · have e : wd j = 2 := by simp [wd, h]
    have t : topOf j = 65536 := by simp [topOf, h]
    rw [e]; simp; omega
  · have e : wd j = 4 := by simp [wd, h]
    have t : topOf j = 4294967296 := by simp [topOf, h]
    rw [e]; simp; omega
  · have e : wd j = 8 := by simp [wd, h]
    have t : topOf j = 9007199254740992 := by simp [topOf, h]
    rw [e]; simp; unfold mxN; omega
theorem num_row (E : List UInt8) (j : Nat) (z : Int) : (WS.mk E 0).num (wd j : Int) (z % (topOf j : Int)) = ⟨E ++ beBytes (wd j) (aOf j z), 0⟩ := by
  rw [aOf_eq]; exact num_write E (wd j) (aOf j z) (wd_ok j) (fits_top j z)
theorem enc_next (b : List UInt8) (ys : List Int) (j : Nat) (z : Int) (h : ys[j]? = some z) :
    encAll b 0 (ys.take j) ++ beBytes (wd j) (aOf j z) ++ cb (cOf z) ++ (cb (tOf b z).length ++ tOf b z) = encAll b 0 (ys.take (j + 1)) := by
  have hl : (ys.take j).length = j := by
    have := (List.getElem?_eq_some_iff.1 h).1
    rw [List.length_take]; omega
  rw [List.take_add_one, h, Option.toList_some, encAll_snoc, hl, Nat.zero_add]
  simp [encOne, List.append_assoc]

/-- the writer, and the row of widths, at the head of a round -/
def wbRel (w0 : World) (b : List UInt8) (ys : List Int) (p q m : Nat) (i : Value) (wr : World) : Prop :=
  ∃ (j : Nat) (v : Value), i = .int .i64 j ∧ j ≤ m ∧ wrOn w0 wr p v ⟨encAll b 0 (ys.take j), 0⟩ ∧ rowAt wr q 3 #[.int .i64 1, .int .i64 2, .int .i64 4, .int .i64 8]
theorem row_keep {w0 w w' : World} {p q : Nat} {v : Value} {s s' : WS} {e : Ending} {cs : Array Value} (h : wrOn w0 w p v s) (hr : rowAt w q 3 cs) (hp : wrPost p v s' w e w') : rowAt w' q 3 cs := by
  obtain ⟨_, v', _, hk, _⟩ := hp
  refine hk.row hr (fun hm => ?_)
  rcases List.mem_cons.1 hm with h1 | h1
  · exact (rowAt.apart hr h.1.1 (by decide)) h1
  · exact (h.1.2.apart hr (by decide)) h1

theorem num_row_back (j : Nat) (z : Int) (rest : List UInt8) : (RS.mk (beBytes (wd j) (aOf j z) ++ rest) 0).num (wd j : Int) = ((aOf j z : Int), ⟨rest, 0⟩) :=
  num_back _ _ _ (wd_ok j) (by have := aOf_lt j z; have := (top_ok j).1; omega) (by have := aOf_lt j z; have := (top_ok j).2.1; omega)
theorem enc_here (b : List UInt8) (ys : List Int) (j : Nat) (z : Int) (h : ys[j]? = some z) :
    encAll b j (ys.drop j) ++ b = beBytes (wd j) (aOf j z) ++ (cb (cOf z) ++ (cb (tOf b z).length ++ tOf b z ++ (encAll b (j + 1) (ys.drop (j + 1)) ++ b))) := by
  have hlt := (List.getElem?_eq_some_iff.1 h).1
  have hz := (List.getElem?_eq_some_iff.1 h).2
  rw [List.drop_eq_getElem_cons hlt, hz, encAll]
  simp [encOne, List.append_assoc]

/-- the reader, and the row of widths, at the head of a round -/
def rbRel (w0 : World) (b : List UInt8) (ys : List Int) (r g q m : Nat) (i : Value) (wr : World) : Prop :=
  ∃ (j : Nat), i = .int .i64 j ∧ j ≤ m ∧ isR wr r g ⟨encAll b j (ys.drop j) ++ b, 0⟩ ∧ keepBut [] w0 wr ∧ rowAt wr q 3 #[.int .i64 1, .int .i64 2, .int .i64 4, .int .i64 8]
theorem isR.row {w : World} {p g : Nat} {r : RS} (h : isR w p g r) : ∃ cs, rowAt w p 64 cs := by obtain ⟨A, c, h1, _⟩ := h; exact ⟨_, h1⟩
/-- a step of the reader leaves the row of widths, and what was there -/
theorem rb_step {w0 w w' : World} {r g q : Nat} {x : RS} {cs : Array Value} (h : isR w r g x) (hr : rowAt w q 3 cs) (h0 : keepBut [] w0 w) (hw : w0.heap.size ≤ r) (hk : keepBut [r] w w') : rowAt w' q 3 cs ∧ keepBut [] w0 w' := by
  obtain ⟨cs', hp⟩ := h.row
  exact ⟨hk.row hr (by simpa using rowAt.apart hr hp (by decide)), h0.then hk (by simpa using hw)⟩

set_option maxRecDepth 100000 in
set_option maxHeartbeats 40000000 in
theorem numBack_law (B : Option Addr) (k n d : Nat) (xs : List Int) (A : Option Addr) (g c : Nat) (l : List UInt8) (w : World)
    (rd : reads w B k n 1 (cellsK .i64 xs)) (hnd : n ≤ d) (hd : d ≤ maxLen) (hx : ∀ x ∈ xs, (Lit.int .i64 x).wf = true) (hs : seen w A g l) (hn : l.length ≤ c) (hc : c ≤ maxLen) :
    Calls Try.prog 5 #[.slice B n d, .slice A l.length c] w (yesPost w) := by
  unfold maxLen at hc hd
  obtain ⟨b, hb⟩ : ∃ b, b = l.take 50 := ⟨_, rfl⟩
  have sb : seen w A g b := by rw [hb]; exact hs.take 50
  obtain ⟨nb, hnb⟩ : ∃ nb, nb = min 50 l.length := ⟨_, rfl⟩
  have hlen : b.length = nb := by rw [hb, List.length_take, hnb]
  obtain ⟨nn, hnn⟩ : ∃ nn, nn = min 30 n := ⟨_, rfl⟩
  have hnb' : nb ≤ 50 ∧ nb ≤ l.length := by omega
  have hnn' : nn ≤ 30 ∧ nn ≤ n := by omega
  have HB := Lib.hid hb; have HNB := Lib.hid hnb; have HNN := Lib.hid hnn; have HLen := Lib.hid hlen
  clear hb hnb hnn hlen
  go_enter Try.func5, Try.ntmps5
  go_wp2_with fail
  refine (works_any _).mono ?_; rintro e w0 ⟨rfl, hk0⟩
  go_upto_region 3 with fail
  go_cut [1] (fun s wx => s = .slice A nb c ∧ wx = w0)
  case first =>
    by_cases h : l.length ≤ 50
    · have : nb = l.length := by have := HNB.out; omega
      subst this
      go_wp2_with fail
      go_meet
      exact ⟨rfl, rfl⟩
    · have : nb = 50 := by have := HNB.out; omega
      subst this
      go_wp2_with fail
      go_meet
      exact ⟨rfl, rfl⟩
  case rest =>
    obtain ⟨rfl, rfl⟩ := hcut
    go_upto_region 4 with fail
    go_cut [0] (fun s wx => s = .slice B nn d ∧ wx = wc)
    case first =>
      by_cases h : n ≤ 30
      · have : nn = n := by have := HNN.out; omega
        subst this
        go_wp2_with fail
        go_meet
        exact ⟨rfl, rfl⟩
      · have : nn = 30 := by have := HNN.out; omega
        subst this
        go_wp2_with fail
        go_meet
        exact ⟨rfl, rfl⟩
    case rest =>
      obtain ⟨rfl, rfl⟩ := hcut
      obtain ⟨ys, hys⟩ : ∃ ys, ys = xs.take nn := ⟨_, rfl⟩
      have hyl : ys.length = nn := by have := rd.1; simp [cellsK] at this; rw [hys, List.length_take]; omega
      have HYS := Lib.hid hys; have HYL := Lib.hid hyl
      clear hys hyl
      go_wp2_with fail
      refine (write_any _).mono ?_; rintro e w1 ⟨p, rfl, hw1, hp1, hk1⟩
      have hq1 := hk1.row (rowAt.new wc 3 _) (by simp)
      have h1 := wrOn.start (hk0.alloc _) hw1 hp1 hk1
      clear hw1 hp1 hk1
      obtain ⟨q, hq⟩ : ∃ q, q = wc.heap.size := ⟨_, rfl⟩
      rw [← hq] at hq1 ⊢
      have HQ := Lib.hid hq
      clear hq
      go_wp2_with fail
      go_loopw [7] (fun i wr => wbRel w b ys p q nn i wr) (fun i _ => nn - (intOf i).toNat)
      case atStart => exact ⟨0, _, rfl, by omega, h1, hq1⟩
      case round =>
        clear h1 hq1
        obtain ⟨j, v2, rfl, hj, h2, hq2⟩ := hrel
        by_cases hjn : j < nn
        · obtain ⟨o, hB, hk, hcells⟩ := rd.2 (by omega)
          obtain ⟨z, hz⟩ : ∃ z, xs[j]? = some z := ⟨xs[j]'(by have := rd.1; simp [cellsK] at this; omega), by simp⟩
          have hzb := bd_i64 (hx z (List.mem_of_getElem? hz))
          have hcell0 := hcells j (.int .i64 z) (by simp [cellsK, hz])
          subst hB
          have hold : ∀ W, keepBut [] w W → W.cell? ⟨k, o + j, none⟩ = some (.int .i64 z) := fun W hW => (hW.cell (p := ⟨k, o + j, none⟩) hk (by simp)).trans hcell0
          have HOLD := Lib.hid hold
          have hc2 := HOLD.out _ h2.2.2.2
          have h2d := h2.over ((keepBut.refl [] wr).drew) (by simp)
          have hq2d : rowAt wr.drew q 3 #[.int .i64 1, .int .i64 2, .int .i64 4, .int .i64 8] := hq2
          obtain ⟨a2, ha2⟩ : ∃ a2, a2 = cOf z := ⟨_, rfl⟩
          obtain ⟨a3, ha3⟩ : ∃ a3, a3 = (tOf b z).length := ⟨_, rfl⟩
          have e2 : z % 9007199254740992 = (a2 : Int) := by rw [ha2]; exact cOf_eq z
          have e3 : z % ((nb : Int) + 1) = (a3 : Int) := by rw [ha3, tOf_len, HLen.out]
          have ha2m : a2 ≤ mxN := by rw [ha2]; exact cOf_le z
          have ha3m : a3 ≤ nb := by rw [ha3, ← HLen.out]; unfold tOf; rw [List.length_take]; omega
          have hel := encAll_len b (by have := HLen.out; omega) (ys.take j) 0
          have hel2 := List.length_take_le j ys
          have hlen3 : (encAll b 0 (ys.take j)).length ≤ 100000 := by have := HYL.out; omega
          have HA2 := Lib.hid ha2; have HA3 := Lib.hid ha3
          clear hcells hcell0 hold ha2 ha3 hel hel2
          have h4 : j % 4 = 0 ∨ j % 4 = 1 ∨ j % 4 = 2 ∨ j % 4 = 3 := by omega
          have hyz : ys[j]? = some z := by rw [HYS.out, List.getElem?_take, if_pos hjn]; exact hz
          have HN := Lib.hid (num_row (encAll b 0 (ys.take j)) j z)
          have HE := Lib.hid (enc_next b ys j z hyz)
          have HC := Lib.hid (count_write (encAll b 0 (ys.take j) ++ beBytes (wd j) (aOf j z)) a2 ha2m)
          have HT := Lib.hid (text_write (encAll b 0 (ys.take j) ++ beBytes (wd j) (aOf j z) ++ cb a2) (tOf b z) (by have := HA3.out; unfold mxN; omega))
          have hb8 : (encAll b 0 (ys.take j) ++ beBytes (wd j) (aOf j z)).length ≤ 100008 := by
            rw [List.length_append, beBytes_length]; have : wd j ≤ 8 := by (unfold wd; split <;> (try split) <;> (try split) <;> omega)
            omega
          have hb16 : (encAll b 0 (ys.take j) ++ beBytes (wd j) (aOf j z) ++ cb a2).length ≤ 100016 := by
            rw [List.length_append]; have := cb_len_le a2 ha2m; omega
          have xnb : IntKind.i64.wrap ((nb : Int) + 1) = (nb : Int) + 1 := wraps_i64 _ (by omega) (by omega)
          have x30 : (0 : Int) ≤ (a3 : Int) := by omega
          have x3c : (a3 : Int) ≤ (c : Int) := by omega
          clear hyz
          rcases h4 with h4 | h4 | h4 | h4
          · have i4 : (j : Int) % 4 = 0 := by omega
            have hcw : wr.cell? ⟨q, 0, none⟩ = some (.int .i64 1) := hq2.cell 0
            have hwd : wd j = 1 := by simp [wd, h4]
            have htop : topOf j = 256 := by simp [topOf, h4]
            have HN2 := Lib.hid (show (WS.mk (encAll b 0 (ys.take j)) 0).num 1 (z % 256) = ⟨encAll b 0 (ys.take j) ++ beBytes (wd j) (aOf j z), 0⟩ from by have := HN.out; rw [hwd, htop] at this; rw [hwd]; exact this)
            clear h4 hwd htop
            have x8 : IntKind.i64.wrap 8 = 8 := by decide
            have x256 : IntKind.i64.wrap 256 = 256 := by decide
            go_upto_region 11 with fail
            go_region_held3 (fun W => W.cell? ⟨k, o + j, none⟩ = some (.int .i64 z)) (first | go_keep)
              (first
                | (go_at_call 12; refine (bring_any _ _ hzb.1 hzb.2 (by omega) (by omega) _).mono ?_; rintro e w' ⟨rfl, rfl⟩; first | rw [e2] | rw [e3] | skip)
                | (go_at_call 13; refine (wnum_any _ _ _ _ _ _ h2d.1 (by show (encAll b 0 (ys.take j)).length ≤ _; omega)).mono ?_; intro e w3 hw3; obtain ⟨rfl, v3, h3⟩ := h2d.step hw3; rw [HN2.out] at h3; have hq3 := row_keep h2d hq2d hw3; have hc3 := HOLD.out _ h3.2.2.2)
                | (go_at_call 15; refine (wcount_any _ _ _ _ _ h3.1 (by show (encAll b 0 (ys.take j) ++ beBytes (wd j) (aOf j z)).length ≤ _; omega)).mono ?_; intro e w4 hw4; obtain ⟨rfl, v4, h4⟩ := h3.step hw4; rw [HC.out] at h4; have hq4 := row_keep h3 hq3 hw4; have hc4 := HOLD.out _ h4.2.2.2)
                | (go_at_call 17; refine (wtext_n _ _ _ A g c _ (tOf b z) _ HA3.out.symm h4.1 ((sb.take _).keep h4.2.2.2 (by simp)) (fun hne => by obtain ⟨_, _, hgl, _⟩ := (sb.take _) hne; have := h4.2.1; exact ⟨by omega, fun hm => by have := h4.2.2.1 _ hm; omega⟩) (by show (encAll b 0 (ys.take j) ++ beBytes (wd j) (aOf j z) ++ cb a2).length ≤ _; omega) (by omega)).mono ?_; intro e w5 hw5; obtain ⟨rfl, v5, h5⟩ := h4.step hw5; rw [HT.out] at h5; have hq5 := row_keep h4 hq4 hw5; have hc5 := HOLD.out _ h5.2.2.2))
            rw [HA2.out, HE.out] at h5
            clear hw3 hw4 hw5 h2 h2d h3 h4 hq2 hq2d hq3 hq4 hc2 hc3 hc4 hc5
            go_wp2_with fail
            go_roundw
            case rel => exact ⟨j + 1, _, by go_num, by omega, h5, hq5⟩
            case measure => simp [intOf]; omega
          · have i4 : (j : Int) % 4 = 1 := by omega
            have hcw : wr.cell? ⟨q, 1, none⟩ = some (.int .i64 2) := hq2.cell 1
            have hwd : wd j = 2 := by simp [wd, h4]
            have htop : topOf j = 65536 := by simp [topOf, h4]
            have HN2 := Lib.hid (show (WS.mk (encAll b 0 (ys.take j)) 0).num 2 (z % 65536) = ⟨encAll b 0 (ys.take j) ++ beBytes (wd j) (aOf j z), 0⟩ from by have := HN.out; rw [hwd, htop] at this; rw [hwd]; exact this)
            clear h4 hwd htop
            have x16 : IntKind.i64.wrap 16 = 16 := by decide
            have x65536 : IntKind.i64.wrap 65536 = 65536 := by decide
            go_upto_region 11 with fail
            go_region_held3 (fun W => W.cell? ⟨k, o + j, none⟩ = some (.int .i64 z)) (first | go_keep)
              (first
                | (go_at_call 12; refine (bring_any _ _ hzb.1 hzb.2 (by omega) (by omega) _).mono ?_; rintro e w' ⟨rfl, rfl⟩; first | rw [e2] | rw [e3] | skip)
                | (go_at_call 13; refine (wnum_any _ _ _ _ _ _ h2d.1 (by show (encAll b 0 (ys.take j)).length ≤ _; omega)).mono ?_; intro e w3 hw3; obtain ⟨rfl, v3, h3⟩ := h2d.step hw3; rw [HN2.out] at h3; have hq3 := row_keep h2d hq2d hw3; have hc3 := HOLD.out _ h3.2.2.2)
                | (go_at_call 15; refine (wcount_any _ _ _ _ _ h3.1 (by show (encAll b 0 (ys.take j) ++ beBytes (wd j) (aOf j z)).length ≤ _; omega)).mono ?_; intro e w4 hw4; obtain ⟨rfl, v4, h4⟩ := h3.step hw4; rw [HC.out] at h4; have hq4 := row_keep h3 hq3 hw4; have hc4 := HOLD.out _ h4.2.2.2)
                | (go_at_call 17; refine (wtext_n _ _ _ A g c _ (tOf b z) _ HA3.out.symm h4.1 ((sb.take _).keep h4.2.2.2 (by simp)) (fun hne => by obtain ⟨_, _, hgl, _⟩ := (sb.take _) hne; have := h4.2.1; exact ⟨by omega, fun hm => by have := h4.2.2.1 _ hm; omega⟩) (by show (encAll b 0 (ys.take j) ++ beBytes (wd j) (aOf j z) ++ cb a2).length ≤ _; omega) (by omega)).mono ?_; intro e w5 hw5; obtain ⟨rfl, v5, h5⟩ := h4.step hw5; rw [HT.out] at h5; have hq5 := row_keep h4 hq4 hw5; have hc5 := HOLD.out _ h5.2.2.2))
            rw [HA2.out, HE.out] at h5
            clear hw3 hw4 hw5 h2 h2d h3 h4 hq2 hq2d hq3 hq4 hc2 hc3 hc4 hc5
            go_wp2_with fail
            go_roundw
            case rel => exact ⟨j + 1, _, by go_num, by omega, h5, hq5⟩
            case measure => simp [intOf]; omega
          · have i4 : (j : Int) % 4 = 2 := by omega
            have hcw : wr.cell? ⟨q, 2, none⟩ = some (.int .i64 4) := hq2.cell 2
            have hwd : wd j = 4 := by simp [wd, h4]
            have htop : topOf j = 4294967296 := by simp [topOf, h4]
            have HN2 := Lib.hid (show (WS.mk (encAll b 0 (ys.take j)) 0).num 4 (z % 4294967296) = ⟨encAll b 0 (ys.take j) ++ beBytes (wd j) (aOf j z), 0⟩ from by have := HN.out; rw [hwd, htop] at this; rw [hwd]; exact this)
            clear h4 hwd htop
            have x32 : IntKind.i64.wrap 32 = 32 := by decide
            have x4294967296 : IntKind.i64.wrap 4294967296 = 4294967296 := by decide
            go_upto_region 11 with fail
            go_region_held3 (fun W => W.cell? ⟨k, o + j, none⟩ = some (.int .i64 z)) (first | go_keep)
              (first
                | (go_at_call 12; refine (bring_any _ _ hzb.1 hzb.2 (by omega) (by omega) _).mono ?_; rintro e w' ⟨rfl, rfl⟩; first | rw [e2] | rw [e3] | skip)
                | (go_at_call 13; refine (wnum_any _ _ _ _ _ _ h2d.1 (by show (encAll b 0 (ys.take j)).length ≤ _; omega)).mono ?_; intro e w3 hw3; obtain ⟨rfl, v3, h3⟩ := h2d.step hw3; rw [HN2.out] at h3; have hq3 := row_keep h2d hq2d hw3; have hc3 := HOLD.out _ h3.2.2.2)
                | (go_at_call 15; refine (wcount_any _ _ _ _ _ h3.1 (by show (encAll b 0 (ys.take j) ++ beBytes (wd j) (aOf j z)).length ≤ _; omega)).mono ?_; intro e w4 hw4; obtain ⟨rfl, v4, h4⟩ := h3.step hw4; rw [HC.out] at h4; have hq4 := row_keep h3 hq3 hw4; have hc4 := HOLD.out _ h4.2.2.2)
                | (go_at_call 17; refine (wtext_n _ _ _ A g c _ (tOf b z) _ HA3.out.symm h4.1 ((sb.take _).keep h4.2.2.2 (by simp)) (fun hne => by obtain ⟨_, _, hgl, _⟩ := (sb.take _) hne; have := h4.2.1; exact ⟨by omega, fun hm => by have := h4.2.2.1 _ hm; omega⟩) (by show (encAll b 0 (ys.take j) ++ beBytes (wd j) (aOf j z) ++ cb a2).length ≤ _; omega) (by omega)).mono ?_; intro e w5 hw5; obtain ⟨rfl, v5, h5⟩ := h4.step hw5; rw [HT.out] at h5; have hq5 := row_keep h4 hq4 hw5; have hc5 := HOLD.out _ h5.2.2.2))
            rw [HA2.out, HE.out] at h5
            clear hw3 hw4 hw5 h2 h2d h3 h4 hq2 hq2d hq3 hq4 hc2 hc3 hc4 hc5
            go_wp2_with fail
            go_roundw
            case rel => exact ⟨j + 1, _, by go_num, by omega, h5, hq5⟩
            case measure => simp [intOf]; omega
          · have i4 : (j : Int) % 4 = 3 := by omega
            have hcw : wr.cell? ⟨q, 3, none⟩ = some (.int .i64 8) := hq2.cell 3
            have hwd : wd j = 8 := by simp [wd, h4]
            have htop : topOf j = 9007199254740992 := by simp [topOf, h4]
            have HN2 := Lib.hid (show (WS.mk (encAll b 0 (ys.take j)) 0).num 8 (a2 : Int) = ⟨encAll b 0 (ys.take j) ++ beBytes (wd j) (aOf j z), 0⟩ from by have := HN.out; rw [hwd, htop] at this; rw [hwd]; rw [← e2]; exact this)
            clear h4 hwd htop
            have x64 : IntKind.i64.wrap 64 = 64 := by decide
            have x9007199254740992 : IntKind.i64.wrap 9007199254740992 = 9007199254740992 := by decide
            go_upto_region 11 with fail
            go_region_held3 (fun W => W.cell? ⟨k, o + j, none⟩ = some (.int .i64 z)) (first | go_keep)
              (first
                | (go_at_call 12; refine (bring_any _ _ hzb.1 hzb.2 (by omega) (by omega) _).mono ?_; rintro e w' ⟨rfl, rfl⟩; first | rw [e2] | rw [e3] | skip)
                | (go_at_call 13; refine (wnum_any _ _ _ _ _ _ h2d.1 (by show (encAll b 0 (ys.take j)).length ≤ _; omega)).mono ?_; intro e w3 hw3; obtain ⟨rfl, v3, h3⟩ := h2d.step hw3; rw [HN2.out] at h3; have hq3 := row_keep h2d hq2d hw3; have hc3 := HOLD.out _ h3.2.2.2)
                | (go_at_call 15; refine (wcount_any _ _ _ _ _ h3.1 (by show (encAll b 0 (ys.take j) ++ beBytes (wd j) (aOf j z)).length ≤ _; omega)).mono ?_; intro e w4 hw4; obtain ⟨rfl, v4, h4⟩ := h3.step hw4; rw [HC.out] at h4; have hq4 := row_keep h3 hq3 hw4; have hc4 := HOLD.out _ h4.2.2.2)
                | (go_at_call 17; refine (wtext_n _ _ _ A g c _ (tOf b z) _ HA3.out.symm h4.1 ((sb.take _).keep h4.2.2.2 (by simp)) (fun hne => by obtain ⟨_, _, hgl, _⟩ := (sb.take _) hne; have := h4.2.1; exact ⟨by omega, fun hm => by have := h4.2.2.1 _ hm; omega⟩) (by show (encAll b 0 (ys.take j) ++ beBytes (wd j) (aOf j z) ++ cb a2).length ≤ _; omega) (by omega)).mono ?_; intro e w5 hw5; obtain ⟨rfl, v5, h5⟩ := h4.step hw5; rw [HT.out] at h5; have hq5 := row_keep h4 hq4 hw5; have hc5 := HOLD.out _ h5.2.2.2))
            rw [HA2.out, HE.out] at h5
            clear hw3 hw4 hw5 h2 h2d h3 h4 hq2 hq2d hq3 hq4 hc2 hc3 hc4 hc5
            go_wp2_with fail
            go_roundw
            case rel => exact ⟨j + 1, _, by go_num, by omega, h5, hq5⟩
            case measure => simp [intOf]; omega
        · obtain rfl : j = nn := by omega
          have hall : ys.take j = ys := List.take_of_length_le (by rw [HYL.out]; exact Nat.le_refl _)
          rw [hall] at h2
          have hel := encAll_len b (by have := HLen.out; omega) ys 0
          have hlenE : (encAll b 0 ys).length ≤ 100000 := by have := HYL.out; omega
          have HRW := Lib.hid (show (WS.mk (encAll b 0 ys) 0).raw b = ⟨encAll b 0 ys ++ b, 0⟩ from by simp [WS.raw])
          have hlenB : (encAll b 0 ys ++ b).length ≤ 100050 := by rw [List.length_append]; have := HLen.out; omega
          have hlenB' : (encAll b 0 ys).length + b.length ≤ 100050 := by have := HLen.out; omega
          clear hall hel
          go_wp2_with fail
          refine (wraw_n _ _ _ A g c _ b _ HLen.out h2.1 (sb.keep h2.2.2.2 (by simp)) (by show (encAll b 0 ys).length + _ ≤ _; omega)).mono ?_; intro e w3 hw3; obtain ⟨rfl, v3, h3⟩ := h2.step hw3; rw [HRW.out] at h3
          have hq3 := row_keep h2 hq2 hw3
          clear hw3 h2 hq2
          go_wp2_with fail
          refine (wbytes_any _ _ _ _ h3.1 (by show (encAll b 0 ys ++ b).length ≤ _; omega)).mono ?_; rintro e w4 ⟨v4, rfl, ho4, _, hk4⟩
          rw [show (WS.mk (encAll b 0 ys ++ b) 0).bytes = encAll b 0 ys ++ b from by simp [WS.bytes]] at ho4
          have hq4 := hk4.row hq3 (by simp)
          have k4 := h3.2.2.2.then hk4 (by simp)
          obtain ⟨A4, c4, g4, rfl, _, _, hs4, _⟩ := ho4.seen
          clear ho4 hk4 hq3 h3
          go_wp2_with fail
          refine (read_n A4 g4 c4 _ (encAll b 0 ys ++ b) _ (by simp) hs4 (by omega)).mono ?_; rintro e w5 ⟨r5, g5, rfl, hr5, hp5, hg5, hk5⟩
          have hq5 := hk5.row hq4 (by simp)
          have hr5w : w.heap.size ≤ r5 := by have := k4.size; omega
          have k5 := k4.then hk5 (by simp)
          clear hs4 hk5 hq4 k4 hp5 hg5
          go_wp2_with fail
          go_loopw [12] (fun i wr => rbRel w b ys r5 g5 q j i wr) (fun i _ => j - (intOf i).toNat)
          case atStart => exact ⟨0, rfl, by omega, hr5, k5, hq5⟩
          case round =>
            clear hr5 hq5 k5
            obtain ⟨m, rfl, hm, hr6, k6, hq6⟩ := hrel
            by_cases hmj : m < j
            · obtain ⟨o, hB, hk, hcells⟩ := rd.2 (by omega)
              obtain ⟨z, hz⟩ : ∃ z, xs[m]? = some z := ⟨xs[m]'(by have := rd.1; simp [cellsK] at this; omega), by simp⟩
              have hzb := bd_i64 (hx z (List.mem_of_getElem? hz))
              have hcell0 := hcells m (.int .i64 z) (by simp [cellsK, hz])
              subst hB
              have hold : ∀ W, keepBut [] w W → W.cell? ⟨k, o + m, none⟩ = some (.int .i64 z) := fun W hW => (hW.cell (p := ⟨k, o + m, none⟩) hk (by simp)).trans hcell0
              have HOLD := Lib.hid hold
              have hyz : ys[m]? = some z := by rw [HYS.out, List.getElem?_take, if_pos hmj]; exact hz
              rw [enc_here b ys m z hyz] at hr6
              obtain ⟨a1, ha1⟩ : ∃ a1, a1 = aOf m z := ⟨_, rfl⟩
              obtain ⟨a2, ha2⟩ : ∃ a2, a2 = cOf z := ⟨_, rfl⟩
              obtain ⟨a3, ha3⟩ : ∃ a3, a3 = (tOf b z).length := ⟨_, rfl⟩
              have e1 : z % (topOf m : Int) = (a1 : Int) := by rw [ha1]; exact aOf_eq m z
              have e2 : z % 9007199254740992 = (a2 : Int) := by rw [ha2]; exact cOf_eq z
              have e3 : z % ((nb : Int) + 1) = (a3 : Int) := by rw [ha3, tOf_len, HLen.out]
              have ha2m : a2 ≤ mxN := by rw [ha2]; exact cOf_le z
              have ha3m : a3 ≤ nb := by rw [ha3, ← HLen.out]; unfold tOf; rw [List.length_take]; omega
              have HA1 := Lib.hid ha1; have HA2 := Lib.hid ha2; have HA3 := Lib.hid ha3
              obtain ⟨R, hR⟩ : ∃ R, R = encAll b (m + 1) (ys.drop (m + 1)) ++ b := ⟨_, rfl⟩
              rw [← hR] at hr6
              have hRl : R.length ≤ 100000 := by
                have := encAll_len b (by have := HLen.out; omega) (ys.drop (m + 1)) (m + 1)
                have := List.length_drop (i := m + 1) (l := ys)
                rw [hR, List.length_append]; have := HLen.out; have := HYL.out; omega
              rw [← ha2] at hr6
              have HN := Lib.hid (num_row_back m z (cb a2 ++ (cb (tOf b z).length ++ tOf b z ++ R)))
              have HC := Lib.hid (count_back a2 (a2 : Int) (cb (tOf b z).length ++ tOf b z ++ R) ha2m (Int.le_refl _))
              have HT := Lib.hid (text_back (tOf b z) R 50 (by unfold mxN; have := HLen.out; omega) (by omega))
              have HR := Lib.hid hR
              have htl : (cb (tOf b z).length ++ tOf b z ++ R).length ≤ 140737488355328 := by
                have := cb_len_le (tOf b z).length (by unfold mxN; omega)
                simp only [List.length_append]; omega
              have hc6 := HOLD.out _ k6
              have k6d := k6.drew
              have hr6d := hr6.keep ((keepBut.refl [] wr).drew) (by simp) (by simp)
              have hq6d : rowAt wr.drew q 3 #[.int .i64 1, .int .i64 2, .int .i64 4, .int .i64 8] := hq6
              have xnb : IntKind.i64.wrap ((nb : Int) + 1) = (nb : Int) + 1 := wraps_i64 _ (by omega) (by omega)
              have x30 : (0 : Int) ≤ (a3 : Int) := by omega
              have x3c : (a3 : Int) ≤ (c : Int) := by omega
              have h4 : m % 4 = 0 ∨ m % 4 = 1 ∨ m % 4 = 2 ∨ m % 4 = 3 := by omega
              clear hcells hcell0 hold hyz ha1 ha2 ha3 hR
              rcases h4 with h4 | h4 | h4 | h4
              · have i4 : (m : Int) % 4 = 0 := by omega
                have hcw : wr.cell? ⟨q, 0, none⟩ = some (.int .i64 1) := hq6.cell 0
                have hwd : wd m = 1 := by simp [wd, h4]
                have htop : topOf m = 256 := by simp [topOf, h4]
                have HN2 := Lib.hid (show (RS.mk (beBytes (wd m) (aOf m z) ++ (cb a2 ++ (cb (tOf b z).length ++ tOf b z ++ R))) 0).num 1 = ((a1 : Int), ⟨cb a2 ++ (cb (tOf b z).length ++ tOf b z ++ R), 0⟩) from by have := HN.out; rw [HA1.out]; rw [hwd] at this ⊢; exact this)
                rw [htop] at e1
                rw [show ((256 : Nat) : Int) = 256 from rfl] at e1
                clear h4 hwd htop
                have x8 : IntKind.i64.wrap 8 = 8 := by decide
                have x256 : IntKind.i64.wrap 256 = 256 := by decide
                go_wp2_with fail
                refine (bring_any _ _ hzb.1 hzb.2 (by omega) (by omega) _).mono ?_; rintro e w' ⟨rfl, rfl⟩
                rw [e2]
                go_upto_region 21 with fail
                go_region_held3 (fun W => W.cell? ⟨k, o + m, none⟩ = some (.int .i64 z)) (first | go_keep)
                  (first
                    | (go_at_call 12; refine (bring_any _ _ hzb.1 hzb.2 (by omega) (by omega) _).mono ?_; rintro e w' ⟨rfl, rfl⟩; first | rw [e1] | rw [e2] | rw [e3])
                    | (go_at_call 27; refine (num_any _ _ _ _ _ hr6d).mono ?_; rintro e w7 ⟨rfl, hr7, hk7⟩; rw [HN2.out] at hr7 ⊢; have h7 := rb_step hr6d hq6d k6d hr5w hk7; have hc7 := HOLD.out _ h7.2)
                    | (go_at_call 29; refine (count_any _ _ _ _ _ hr7).mono ?_; rintro e w8 ⟨rfl, hr8, hk8⟩; rw [HC.out] at hr8 ⊢; have h8 := rb_step hr7 h7.1 h7.2 hr5w hk8; have hc8 := HOLD.out _ h8.2)
                    | (go_at_call 31; refine (text_any _ _ _ _ _ hr8 htl).mono ?_; rintro e w9 ⟨v9, rfl, hf9, hr9, hk9⟩; rw [HT.out] at hr9 hf9; have h9 := rb_step hr8 h8.1 h8.2 hr5w hk9; have hc9 := HOLD.out _ h9.2; obtain ⟨A9, c9, g9, rfl, _, _, hs9, _⟩ := hf9.1.seen)
                    | (go_at_call 23; refine (eqBytes_n _ _ g9 g _ _ _ _ (tOf b z) (tOf b z) _ rfl HA3.out.symm hs9 ((sb.take _).keep h9.2 (by simp))).mono ?_; rintro e w' ⟨rfl, rfl⟩))
                all_goals
                  rw [HR.out] at hr9
                  clear hr7 hk7 h7 hr8 hk8 h8 hk9 hf9 hr6 hr6d hq6 hq6d k6 k6d hc6 hc7 hc8 hc9 hcw
                  go_wp2_with fail
                  go_roundw
                  case rel => exact ⟨m + 1, by go_num, by omega, hr9, h9.2, h9.1⟩
                  case measure => simp [intOf]; omega
              · have i4 : (m : Int) % 4 = 1 := by omega
                have hcw : wr.cell? ⟨q, 1, none⟩ = some (.int .i64 2) := hq6.cell 1
                have hwd : wd m = 2 := by simp [wd, h4]
                have htop : topOf m = 65536 := by simp [topOf, h4]
                have HN2 := Lib.hid (show (RS.mk (beBytes (wd m) (aOf m z) ++ (cb a2 ++ (cb (tOf b z).length ++ tOf b z ++ R))) 0).num 2 = ((a1 : Int), ⟨cb a2 ++ (cb (tOf b z).length ++ tOf b z ++ R), 0⟩) from by have := HN.out; rw [HA1.out]; rw [hwd] at this ⊢; exact this)
                rw [htop] at e1
                rw [show ((65536 : Nat) : Int) = 65536 from rfl] at e1
                clear h4 hwd htop
                have x16 : IntKind.i64.wrap 16 = 16 := by decide
                have x65536 : IntKind.i64.wrap 65536 = 65536 := by decide
                go_wp2_with fail
                refine (bring_any _ _ hzb.1 hzb.2 (by omega) (by omega) _).mono ?_; rintro e w' ⟨rfl, rfl⟩
                rw [e2]
                go_upto_region 21 with fail
                go_region_held3 (fun W => W.cell? ⟨k, o + m, none⟩ = some (.int .i64 z)) (first | go_keep)
                  (first
                    | (go_at_call 12; refine (bring_any _ _ hzb.1 hzb.2 (by omega) (by omega) _).mono ?_; rintro e w' ⟨rfl, rfl⟩; first | rw [e1] | rw [e2] | rw [e3])
                    | (go_at_call 27; refine (num_any _ _ _ _ _ hr6d).mono ?_; rintro e w7 ⟨rfl, hr7, hk7⟩; rw [HN2.out] at hr7 ⊢; have h7 := rb_step hr6d hq6d k6d hr5w hk7; have hc7 := HOLD.out _ h7.2)
                    | (go_at_call 29; refine (count_any _ _ _ _ _ hr7).mono ?_; rintro e w8 ⟨rfl, hr8, hk8⟩; rw [HC.out] at hr8 ⊢; have h8 := rb_step hr7 h7.1 h7.2 hr5w hk8; have hc8 := HOLD.out _ h8.2)
                    | (go_at_call 31; refine (text_any _ _ _ _ _ hr8 htl).mono ?_; rintro e w9 ⟨v9, rfl, hf9, hr9, hk9⟩; rw [HT.out] at hr9 hf9; have h9 := rb_step hr8 h8.1 h8.2 hr5w hk9; have hc9 := HOLD.out _ h9.2; obtain ⟨A9, c9, g9, rfl, _, _, hs9, _⟩ := hf9.1.seen)
                    | (go_at_call 23; refine (eqBytes_n _ _ g9 g _ _ _ _ (tOf b z) (tOf b z) _ rfl HA3.out.symm hs9 ((sb.take _).keep h9.2 (by simp))).mono ?_; rintro e w' ⟨rfl, rfl⟩))
                all_goals
                  rw [HR.out] at hr9
                  clear hr7 hk7 h7 hr8 hk8 h8 hk9 hf9 hr6 hr6d hq6 hq6d k6 k6d hc6 hc7 hc8 hc9 hcw
                  go_wp2_with fail
                  go_roundw
                  case rel => exact ⟨m + 1, by go_num, by omega, hr9, h9.2, h9.1⟩
                  case measure => simp [intOf]; omega
              · have i4 : (m : Int) % 4 = 2 := by omega
                have hcw : wr.cell? ⟨q, 2, none⟩ = some (.int .i64 4) := hq6.cell 2
                have hwd : wd m = 4 := by simp [wd, h4]
                have htop : topOf m = 4294967296 := by simp [topOf, h4]
                have HN2 := Lib.hid (show (RS.mk (beBytes (wd m) (aOf m z) ++ (cb a2 ++ (cb (tOf b z).length ++ tOf b z ++ R))) 0).num 4 = ((a1 : Int), ⟨cb a2 ++ (cb (tOf b z).length ++ tOf b z ++ R), 0⟩) from by have := HN.out; rw [HA1.out]; rw [hwd] at this ⊢; exact this)
                rw [htop] at e1
                rw [show ((4294967296 : Nat) : Int) = 4294967296 from rfl] at e1
                clear h4 hwd htop
                have x32 : IntKind.i64.wrap 32 = 32 := by decide
                have x4294967296 : IntKind.i64.wrap 4294967296 = 4294967296 := by decide
                go_wp2_with fail
                refine (bring_any _ _ hzb.1 hzb.2 (by omega) (by omega) _).mono ?_; rintro e w' ⟨rfl, rfl⟩
                rw [e2]
                go_upto_region 21 with fail
                go_region_held3 (fun W => W.cell? ⟨k, o + m, none⟩ = some (.int .i64 z)) (first | go_keep)
                  (first
                    | (go_at_call 12; refine (bring_any _ _ hzb.1 hzb.2 (by omega) (by omega) _).mono ?_; rintro e w' ⟨rfl, rfl⟩; first | rw [e1] | rw [e2] | rw [e3])
                    | (go_at_call 27; refine (num_any _ _ _ _ _ hr6d).mono ?_; rintro e w7 ⟨rfl, hr7, hk7⟩; rw [HN2.out] at hr7 ⊢; have h7 := rb_step hr6d hq6d k6d hr5w hk7; have hc7 := HOLD.out _ h7.2)
                    | (go_at_call 29; refine (count_any _ _ _ _ _ hr7).mono ?_; rintro e w8 ⟨rfl, hr8, hk8⟩; rw [HC.out] at hr8 ⊢; have h8 := rb_step hr7 h7.1 h7.2 hr5w hk8; have hc8 := HOLD.out _ h8.2)
                    | (go_at_call 31; refine (text_any _ _ _ _ _ hr8 htl).mono ?_; rintro e w9 ⟨v9, rfl, hf9, hr9, hk9⟩; rw [HT.out] at hr9 hf9; have h9 := rb_step hr8 h8.1 h8.2 hr5w hk9; have hc9 := HOLD.out _ h9.2; obtain ⟨A9, c9, g9, rfl, _, _, hs9, _⟩ := hf9.1.seen)
                    | (go_at_call 23; refine (eqBytes_n _ _ g9 g _ _ _ _ (tOf b z) (tOf b z) _ rfl HA3.out.symm hs9 ((sb.take _).keep h9.2 (by simp))).mono ?_; rintro e w' ⟨rfl, rfl⟩))
                all_goals
                  rw [HR.out] at hr9
                  clear hr7 hk7 h7 hr8 hk8 h8 hk9 hf9 hr6 hr6d hq6 hq6d k6 k6d hc6 hc7 hc8 hc9 hcw
                  go_wp2_with fail
                  go_roundw
                  case rel => exact ⟨m + 1, by go_num, by omega, hr9, h9.2, h9.1⟩
                  case measure => simp [intOf]; omega
              · have i4 : (m : Int) % 4 = 3 := by omega
                have hcw : wr.cell? ⟨q, 3, none⟩ = some (.int .i64 8) := hq6.cell 3
                have hwd : wd m = 8 := by simp [wd, h4]
                have htop : topOf m = 9007199254740992 := by simp [topOf, h4]
                have HN2 := Lib.hid (show (RS.mk (beBytes (wd m) (aOf m z) ++ (cb a2 ++ (cb (tOf b z).length ++ tOf b z ++ R))) 0).num 8 = ((a1 : Int), ⟨cb a2 ++ (cb (tOf b z).length ++ tOf b z ++ R), 0⟩) from by have := HN.out; rw [HA1.out]; rw [hwd] at this ⊢; exact this)
                rw [htop] at e1
                rw [show ((9007199254740992 : Nat) : Int) = 9007199254740992 from rfl, e2] at e1
                obtain rfl : a2 = a1 := by omega
                clear e1
                clear h4 hwd htop
                have x64 : IntKind.i64.wrap 64 = 64 := by decide
                have x9007199254740992 : IntKind.i64.wrap 9007199254740992 = 9007199254740992 := by decide
                go_wp2_with fail
                refine (bring_any _ _ hzb.1 hzb.2 (by omega) (by omega) _).mono ?_; rintro e w' ⟨rfl, rfl⟩
                rw [e2]
                go_upto_region 21 with fail
                go_region_held3 (fun W => W.cell? ⟨k, o + m, none⟩ = some (.int .i64 z)) (first | go_keep)
                  (first
                    | (go_at_call 12; refine (bring_any _ _ hzb.1 hzb.2 (by omega) (by omega) _).mono ?_; rintro e w' ⟨rfl, rfl⟩; first | rw [e2] | rw [e3])
                    | (go_at_call 27; refine (num_any _ _ _ _ _ hr6d).mono ?_; rintro e w7 ⟨rfl, hr7, hk7⟩; rw [HN2.out] at hr7 ⊢; have h7 := rb_step hr6d hq6d k6d hr5w hk7; have hc7 := HOLD.out _ h7.2)
                    | (go_at_call 29; refine (count_any _ _ _ _ _ hr7).mono ?_; rintro e w8 ⟨rfl, hr8, hk8⟩; rw [HC.out] at hr8 ⊢; have h8 := rb_step hr7 h7.1 h7.2 hr5w hk8; have hc8 := HOLD.out _ h8.2)
                    | (go_at_call 31; refine (text_any _ _ _ _ _ hr8 htl).mono ?_; rintro e w9 ⟨v9, rfl, hf9, hr9, hk9⟩; rw [HT.out] at hr9 hf9; have h9 := rb_step hr8 h8.1 h8.2 hr5w hk9; have hc9 := HOLD.out _ h9.2; obtain ⟨A9, c9, g9, rfl, _, _, hs9, _⟩ := hf9.1.seen)
                    | (go_at_call 23; refine (eqBytes_n _ _ g9 g _ _ _ _ (tOf b z) (tOf b z) _ rfl HA3.out.symm hs9 ((sb.take _).keep h9.2 (by simp))).mono ?_; rintro e w' ⟨rfl, rfl⟩))
                all_goals
                  rw [HR.out] at hr9
                  clear hr7 hk7 h7 hr8 hk8 h8 hk9 hf9 hr6 hr6d hq6 hq6d k6 k6d hc6 hc7 hc8 hc9 hcw
                  go_wp2_with fail
                  go_roundw
                  case rel => exact ⟨m + 1, by go_num, by omega, hr9, h9.2, h9.1⟩
                  case measure => simp [intOf]; omega
            · obtain rfl : m = j := by omega
              have hdr : ys.drop m = [] := List.drop_eq_nil_of_le (by rw [HYL.out]; exact Nat.le_refl _)
              rw [hdr] at hr6
              simp only [encAll, List.nil_append] at hr6
              have hraw : ∀ n : Int, n = (b.length : Int) → (RS.mk b 0).raw n = (b, ⟨[], 0⟩) := by
                intro n hn
                have := raw_back b []
                rw [List.append_nil, ← hn] at this
                exact this
              have HRAW := Lib.hid hraw
              clear hdr hraw
              have hb50 : b.length ≤ 50 := by have := HLen.out; omega
              rcases Nat.eq_zero_or_pos nb with h0 | h0
              · have hbn : b = [] := List.eq_nil_of_length_eq_zero (by have := HLen.out; omega)
                have HEN := Lib.hid (show (RS.mk b 0).end_ = 0 from by rw [hbn]; rfl)
                subst h0
                clear hbn
                go_wp2_with fail
                refine (err_any _ _ _ _ hr6).mono ?_; rintro e w' ⟨rfl, rfl⟩
                go_wp2_with fail
                refine (left_any _ _ _ _ hr6).mono ?_; rintro e w' ⟨rfl, rfl⟩
                simp only []
                rw [HLen.out]
                go_wp2_with fail
                refine (end_any _ _ _ _ hr6).mono ?_; rintro e w' ⟨rfl, rfl⟩
                rw [HEN.out]
                go_wp2_with fail
                refine (raw_any _ _ _ _ _ hr6 (by show b.length ≤ _; omega)).mono ?_; rintro e w7 ⟨v7, rfl, hf7, hr7, hk7⟩
                rw [HRAW.out _ (by have := HLen.out; omega)] at hf7
                have k7 := k6.then hk7 (by simpa using hr5w)
                obtain ⟨A7, c7, g7, rfl, _, _, hs7, _⟩ := hf7.1.seen
                clear hf7 hr7 hk7 hr6 k6 hq6
                go_wp2_with fail
                refine (eqBytes_n A7 A g7 g _ _ _ _ b b _ (by first | rfl | simp [HLen.out]) HLen.out hs7 (sb.keep k7 (by simp))).mono ?_; rintro e w' ⟨rfl, rfl⟩
                rw [show (b == b) = true from by simp]
                go_wp2_with fail
                go_ret
                exact ⟨rfl, k7⟩
              · have hbn : b ≠ [] := by rintro rfl; have := HLen.out; simp at this; omega
                have HEN := Lib.hid (show (RS.mk b 0).end_ = 4 from by simp [RS.end_, hbn])
                have hnz : ((nb : Int) == 0) = false := by simp; omega
                clear hbn
                go_wp2_with fail
                refine (err_any _ _ _ _ hr6).mono ?_; rintro e w' ⟨rfl, rfl⟩
                go_wp2_with fail
                refine (left_any _ _ _ _ hr6).mono ?_; rintro e w' ⟨rfl, rfl⟩
                simp only []
                rw [HLen.out]
                go_wp2_with fail
                refine (end_any _ _ _ _ hr6).mono ?_; rintro e w' ⟨rfl, rfl⟩
                rw [HEN.out]
                go_wp2_with fail
                refine (raw_any _ _ _ _ _ hr6 (by show b.length ≤ _; omega)).mono ?_; rintro e w7 ⟨v7, rfl, hf7, hr7, hk7⟩
                rw [HRAW.out _ (by have := HLen.out; omega)] at hf7
                have k7 := k6.then hk7 (by simpa using hr5w)
                obtain ⟨A7, c7, g7, rfl, _, _, hs7, _⟩ := hf7.1.seen
                clear hf7 hr7 hk7 hr6 k6 hq6
                go_wp2_with fail
                refine (eqBytes_n A7 A g7 g _ _ _ _ b b _ (by first | rfl | simp [HLen.out]) HLen.out hs7 (sb.keep k7 (by simp))).mono ?_; rintro e w' ⟨rfl, rfl⟩
                rw [show (b == b) = true from by simp]
                go_wp2_with fail
                go_ret
                exact ⟨rfl, k7⟩
end Go.Proofs.Ytgbobdlaahcjoaa
