/-
  VIEW, 9: Bytes.
-/
import Derived.Test.YtjipokilidhnoaaView8
namespace Go.Proofs.Ytjipokilidhnoaa
open Go.RowKit
set_option linter.unusedVariables false
set_option maxRecDepth 100000

/-- a writer that was made since w0, when nothing that was there in w0 has changed -/
def wrOn (w0 w : World) (p : Nat) (v : Value) (s : WS) : Prop :=
  isWr w p v s ∧ w0.heap.size ≤ p ∧ (∀ x ∈ homes v, w0.heap.size ≤ x) ∧ keepBut [] w0 w
theorem wrOn.step {w0 w w' : World} {p : Nat} {v : Value} {s s' : WS} {e : Ending} (h : wrOn w0 w p v s) (hp : wrPost p v s' w e w') :
    e = .returned (.pointer (some ⟨p, 0, none⟩)) ∧ ∃ v', wrOn w0 w' p v' s' := by
  obtain ⟨he, v', hw, hk, hh⟩ := hp
  refine ⟨he, v', hw, h.2.1, fun x hx => ?_, h.2.2.2.then hk (fun x hx => .inr ?_)⟩
  · rcases hh x hx with h1 | h1
    · exact h.2.2.1 x h1
    · have := h.2.2.2.size; omega
  · rcases List.mem_cons.1 hx with rfl | hx
    · exact h.2.1
    · exact h.2.2.1 x hx
theorem wrOn.start {w0 w w' : World} {p : Nat} (hk : keepBut [] w0 w) (h : isWr w' p (.slice none 0 0) ⟨[], 0⟩) (hp : w.heap.size ≤ p) (hk' : keepBut [] w w') : wrOn w0 w' p (.slice none 0 0) ⟨[], 0⟩ :=
  ⟨h, by have := hk.size; omega, by simp [homes_none], hk.then hk' (by simp)⟩


def encStep (last : Int) (x : WS) (r : VR) : WS := (((x.count (r.step - last)).num 1 r.node).num 1 r.kind).text r.bytes
def encTo (l : List VR) : Nat → WS
  | 0 => (WS.mk [] 0).count (l.length : Int)
  | k + 1 => match l[k]? with | none => encTo l k | some r => encStep (lastOf (l.take k)) (encTo l k) r
theorem encTo_at {l : List VR} {k : Nat} {r : VR} (h : l[k]? = some r) : encTo l (k + 1) = encStep (lastOf (l.take k)) (encTo l k) r := by
  rw [encTo, h]
theorem lastOf_at {l : List VR} {k : Nat} {r : VR} (h : l[k]? = some r) : lastOf (l.take (k + 1)) = r.step := by
  unfold lastOf
  rw [List.take_add_one, h]
  simp
theorem okay_step {r : VR} (h : r.okay = true) : 0 ≤ r.step ∧ r.step ≤ 9007199254740991 := by
  unfold VR.okay at h
  simp at h
  omega
theorem goodV.last {l : List VR} (h : goodV l) (k : Nat) (hk : k ≤ l.length) : 0 ≤ lastOf (l.take k) ∧ lastOf (l.take k) ≤ 9007199254740991 := by
  cases k with
  | zero => simp [lastOf]
  | succ k =>
    obtain ⟨r, hr⟩ : ∃ r, l[k]? = some r := ⟨_, List.getElem?_eq_getElem (by omega)⟩
    rw [lastOf_at hr]
    exact okay_step (h.2 k r hr).1
/-- a writer, and a block tb that is not the writer's -/
def wrT (w0 w : World) (p : Nat) (v : Value) (s : WS) (tb : Nat) : Prop := wrOn w0 w p v s ∧ tb ∉ (p :: homes v) ∧ tb < w.heap.size
theorem wrT.step {w0 w w' : World} {p tb : Nat} {v : Value} {s s' : WS} {e : Ending} (h : wrT w0 w p v s tb) (hp : wrPost p v s' w e w') :
    e = .returned (.pointer (some ⟨p, 0, none⟩)) ∧ ∃ v', wrT w0 w' p v' s' tb ∧ keepBut (p :: homes v) w w' := by
  obtain ⟨he, v', hw, hk, hh⟩ := id hp
  refine ⟨he, v', ⟨?_, fun hm => ?_, Nat.lt_of_lt_of_le h.2.2 hk.size⟩, hk⟩
  · refine ⟨hw, h.1.2.1, fun x hx => ?_, h.1.2.2.2.then hk (fun x hx => .inr ?_)⟩
    · rcases hh x hx with h1 | h1
      · exact h.1.2.2.1 x h1
      · have := h.1.2.2.2.size; omega
    · rcases List.mem_cons.1 hx with rfl | hx
      · exact h.1.2.1
      · exact h.1.2.2.1 x hx
  · rcases List.mem_cons.1 hm with h1 | h1
    · exact h.2.1 (by rw [h1]; simp)
    · rcases hh tb h1 with h2 | h2
      · exact h.2.1 (List.mem_cons.2 (.inr h2))
      · have := h.2.2; omega
theorem wrT.drew {w0 w : World} {p tb : Nat} {v : Value} {s : WS} (h : wrT w0 w p v s tb) : wrT w0 w.drew p v s tb :=
  ⟨⟨h.1.1.keep ((keepBut.refl [] w).drew) (by simp) (by simp), h.1.2.1, h.1.2.2.1, h.1.2.2.2.drew⟩, h.2.1, h.2.2⟩
theorem num1_le (s : WS) (n : Int) : (s.num 1 n).b.length ≤ s.b.length + 1 := by
  unfold WS.num
  split
  · split
    · split
      · simp [beBytes]
      · simp
    · simp
  · simp
def bytesRel (w : World) (l : List VR) (p : Nat) (v23 v4 : Value) (wx : World) : Prop := ∃ (k : Nat) (v : Value), k ≤ l.length ∧ v23 = .int .i64 (k : Int) ∧ v4 = .int .i64 (lastOf (l.take k)) ∧ wrOn w wx p v (encTo l k)
def bytesVPost (l : List VR) (w : World) (e : Ending) (w' : World) : Prop := ∃ v, e = .returned v ∧ owns w' 5 1 v (encTo l l.length).bytes.length ((encTo l l.length).bytes.map bv) ∧ (∀ x ∈ homes v, w.heap.size ≤ x) ∧ keepBut [] w w'
set_option maxHeartbeats 4000000 in
theorem bytesV_any (p : Nat) (F : List Nat) (l : List VR) (w : World) (h : isV w p F l) (hg : goodV l) (hB : ∀ k, k ≤ l.length → (encTo l k).b.length ≤ 100000000) :
    Calls Try.prog 8 #[.pointer (some ⟨p, 0, none⟩)] w (bytesVPost l w) := by
  obtain ⟨A, c, c1, hc1, hc2, hr1⟩ := h.rows
  have c1d : w.drew.cell? ⟨p, 1, none⟩ = some (.slice A l.length c) := c1
  have hpl := h.lt p h.mem
  have HH := Lib.hid (And.intro h (And.intro hg (And.intro hr1 hB)))
  have hl := hg.1
  clear h hg hr1 hB
  go_enter Try.func8, Try.ntmps8
  go_upto_region 3 with (go_at_call 29; refine (noneV_any _ _ _ _ HH.out.1).mono ?_; rintro e w' ⟨rfl, rfl⟩)
  go_region_held3 (fun w' => w'.cell? ⟨p, 1, none⟩ = some (.slice A l.length c)) (first | exact c1 | exact c2 | exact c3)
    (first
      | (go_at_call 30; (with_reducible refine (write_any _).mono ?_); rintro e w2 ⟨wp, rfl, hw, hwp, k2⟩; have K2 := Lib.hid (((keepBut.refl [] w).drew).then k2 (by simp)); have H2 := Lib.hid (And.intro hw hwp); have c2 := (K2.out.cell (p := ⟨p, 1, none⟩) hpl (by simp)).trans c1; clear hw hwp k2)
      | (go_at_call 32; (with_reducible refine (countR_any _ _ _ _ _ _ c2).mono ?_); rintro e w' ⟨rfl, rfl⟩)
      | (go_at_call 31; (with_reducible refine (wcount_any wp (.slice none 0 0) ⟨[], 0⟩ _ _ H2.out.1 (by simp)).mono ?_); intro e w3 hq; have hon : wrOn w w2 wp (.slice none 0 0) ⟨[], 0⟩ := ⟨H2.out.1, H2.out.2, by simp [homes_none], K2.out⟩; obtain ⟨rfl, v3, h3⟩ := hon.step hq; have H3 := Lib.hid h3; have c3 := (h3.2.2.2.cell (p := ⟨p, 1, none⟩) hpl (by simp)).trans c1; clear hq hon h3)
      | fail)
  have H4 : Hid (wrOn w w3 wp v3 (encTo l 0)) := H3
  clear H3 c2
  go_wp2_with fail
  go_loopw [23, 4, 6, 27, 28, 29, 30, 31, 32, 33, 34, 35, 36, 37, 38, 39, 40, 41] (fun v23 v4 _ _ _ _ _ _ _ _ _ _ _ _ _ _ _ _ wx => bytesRel w l wp v23 v4 wx) (fun v23 _ _ _ _ _ _ _ _ _ _ _ _ _ _ _ _ _ _ => l.length - (intOf v23).toNat)
  case atStart => exact ⟨0, v3, by omega, rfl, by simp [lastOf], H4.out⟩
  case round =>
    obtain ⟨k, v, hk, rfl, rfl, hon⟩ := hrel
    have HO := Lib.hid hon
    clear hon c3 H4
    by_cases hlt : k < l.length
    · have hlt' : (k : Int) < (l.length : Int) := by omega
      obtain ⟨r, hr⟩ : ∃ r, l[k]? = some r := ⟨_, List.getElem?_eq_getElem hlt⟩
      obtain ⟨g, o, rfl, hgl, hgG, hall⟩ := HH.out.2.2.1 (by rintro rfl; simp at hlt)
      obtain ⟨A', n, hb, y0, y1, y2, y3⟩ := hall k r hr
      have e := fun x => HO.out.2.2.2.cell (p := ⟨g, x, none⟩) hgl (by simp)
      rw [← e] at y0 y1 y2 y3
      have hlast := HH.out.2.1.last k hk
      obtain ⟨hok, hst⟩ := HH.out.2.1.2 k r hr
      have hst2 := okay_step hok
      have HE := Lib.hid (And.intro (encTo_at hr) (lastOf_at hr))
      have hbk := HH.out.2.2.2 k hk
      obtain ⟨s, nd, kd, b⟩ := r
      dsimp only at hb y0 y1 y2 y3 hst hst2
      obtain ⟨la, hla⟩ : ∃ la, lastOf (l.take k) = la := ⟨_, rfl⟩
      rw [hla] at hlast hst HE ⊢
      have hw : IntKind.i64.wrap (s - la) = s - la := wraps_i64 _ (by omega) (by omega)
      have HR := Lib.hid hb
      have HBK := Lib.hid hbk
      clear hb hr hall e hok hla hbk hlast
      go_upto_region 8 with fail
      have ka := (keepBut.refl [] wr).alloc (.cells #[.int .i64 s, .int .i64 nd, .int .i64 kd, .slice A' b.length n] 46)
      have ra := rowAt.new wr 46 #[.int .i64 s, .int .i64 nd, .int .i64 kd, .slice A' b.length n]
      have hon := HO.out
      have hol := hon.1.2.ltV
      have hop := hon.1.1.lt
      have hT : wrT w (wr.alloc (.cells #[.int .i64 s, .int .i64 nd, .int .i64 kd, .slice A' b.length n] 46)) wp v (encTo l k) wr.heap.size :=
        ⟨⟨hon.1.keep ka (by simp) (by simp), hon.2.1, hon.2.2.1, hon.2.2.2.then ka (by simp)⟩, fun hm => by rcases List.mem_cons.1 hm with q | q; omega; have := hol _ q; omega, ra.lt⟩
      clear ka hon hol hop y0 y1 y2 y3
      obtain ⟨wa, hwa⟩ : ∃ wa, wr.alloc (.cells #[.int .i64 s, .int .i64 nd, .int .i64 kd, .slice A' b.length n] 46) = wa := ⟨_, rfl⟩
      rw [hwa] at hT ra ⊢
      clear hwa
      obtain ⟨tb, htb⟩ : ∃ tb, wr.heap.size = tb := ⟨_, rfl⟩
      rw [htb] at hT ra ⊢
      clear htb
      have sy : wa.cell? ⟨tb, 0, none⟩ = some (.int .i64 s) ∧ wa.cell? ⟨tb, 1, none⟩ = some (.int .i64 nd) ∧ wa.cell? ⟨tb, 2, none⟩ = some (.int .i64 kd) ∧ wa.cell? ⟨tb, 3, none⟩ = some (.slice A' b.length n) := ⟨ra.cell 0, ra.cell 1, ra.cell 2, ra.cell 3⟩
      have HT := Lib.hid hT.drew
      clear ra hT
      have hb0 : (encTo l k).b.length ≤ 1000000000 := by have := HBK.out; omega
      have hb1 : ((encTo l k).count (s - la)).b.length ≤ 1000000000 := (by have := HBK.out; have := count_b_le (encTo l k) (s - la); omega)
      have hb2 : (((encTo l k).count (s - la)).num 1 nd).b.length ≤ 1000000000 := (by have := HBK.out; have := count_b_le (encTo l k) (s - la); have := num1_le ((encTo l k).count (s - la)) nd; omega)
      have hb3 : ((((encTo l k).count (s - la)).num 1 nd).num 1 kd).b.length ≤ 1000000000 := (by have := HBK.out; have := count_b_le (encTo l k) (s - la); have := num1_le ((encTo l k).count (s - la)) nd; have := num1_le (((encTo l k).count (s - la)).num 1 nd) kd; omega)
      have HES := Lib.hid (show encStep la (encTo l k) ⟨s, nd, kd, b⟩ = ((((encTo l k).count (s - la)).num 1 nd).num 1 kd).text b from rfl)
      obtain ⟨_, _, gb, eb, _, _, hbl, hbs, hbG⟩ := HR.out
      injection eb with eb1 _ eb3
      subst eb1 eb3
      have hbl2 : b.length ≤ 1000000000 := by omega
      have HBS := Lib.hid (And.intro hbs hbG)
      clear hbs hbG
      have iw0 : isWr wa.drew wp v (encTo l k) := HT.out.1.1
      have syd : wa.drew.cell? ⟨tb, 0, none⟩ = some (.int .i64 s) ∧ wa.drew.cell? ⟨tb, 1, none⟩ = some (.int .i64 nd) ∧ wa.drew.cell? ⟨tb, 2, none⟩ = some (.int .i64 kd) ∧ wa.drew.cell? ⟨tb, 3, none⟩ = some (.slice A' b.length n) := sy
      have HFl := Lib.hid (HH.out.1.lt)
      go_region_held3 (fun w' => w'.cell? ⟨tb, 0, none⟩ = some (.int .i64 s) ∧ w'.cell? ⟨tb, 1, none⟩ = some (.int .i64 nd) ∧ w'.cell? ⟨tb, 2, none⟩ = some (.int .i64 kd) ∧ w'.cell? ⟨tb, 3, none⟩ = some (.slice A' b.length n)) (first | exact sy | exact sy5 | exact sy6 | exact sy7 | exact sy8)
        (first
          | (go_at_call 31; (with_reducible refine (wcount_any wp v _ (s - la) _ iw0 hb0).mono ?_); intro e w5 hq; obtain ⟨rfl, v5, h5, k5⟩ := HT.out.step hq; have sy5 := four_keep k5 HT.out.2.2 HT.out.2.1 syd; have iw5 := h5.1.1; have H5 := Lib.hid h5; clear hq h5 k5)
          | (go_at_call 33; (with_reducible refine (wnum_any wp v5 _ 1 nd w5 iw5 hb1).mono ?_); intro e w6 hq; obtain ⟨rfl, v6, h6, k6⟩ := H5.out.step hq; have sy6 := four_keep k6 H5.out.2.2 H5.out.2.1 sy5; have iw6 := h6.1.1; have H6 := Lib.hid h6; clear hq h6 k6)
          | (go_at_call 33; (with_reducible refine (wnum_any wp v6 _ 1 kd w6 iw6 hb2).mono ?_); intro e w7 hq; obtain ⟨rfl, v7, h7, k7⟩ := H6.out.step hq; have sy7 := four_keep k7 H6.out.2.2 H6.out.2.1 sy6; have iw7 := h7.1.1; have H7 := Lib.hid h7; clear hq h7 k7)
          | (go_at_call 34; have hsn := HBS.out.1.keep H7.out.1.2.2.2 (fun _ => by simp); have hgg : b ≠ [] → gb ≠ wp ∧ gb ∉ homes v7 := fun hne => ⟨fun q => by have h1 := HFl.out gb (HBS.out.2 hne); have h2 := H7.out.1.2.1; omega, fun q => by have h1 := HFl.out gb (HBS.out.2 hne); have h2 := H7.out.1.2.2.1 gb q; omega⟩; (with_reducible refine (wtext_any wp v7 _ A' gb n b w7 iw7 hsn hgg hb3 hbl2).mono ?_); intro e w8 hq; obtain ⟨rfl, v8, h8, k8⟩ := H7.out.step hq; have sy8 := four_keep k8 H7.out.2.2 H7.out.2.1 sy7; have H8 := Lib.hid h8; clear hq h8 k8 hsn hgg)
          | fail)
      obtain ⟨x0, x1, x2, x3⟩ := sy8
      clear sy syd sy5 sy6 sy7 iw0 iw5 iw6 iw7 hb0 hb1 hb2 hb3
      go_wp2_with fail
      go_roundw
      case rel => exact ⟨k + 1, v8, by omega, by go_num, by rw [HE.out.2], by rw [HE.out.1, HES.out]; exact H8.out.1⟩
      case measure => simp [intOf]; omega
    · obtain rfl : k = l.length := by omega
      have hbk := HH.out.2.2.2 l.length (by omega)
      have hbk2 : (encTo l l.length).b.length ≤ 140737488355328 := by omega
      clear hbk
      go_wp2_with fail
      refine (wbytes_any wp v _ _ HO.out.1 hbk2).mono ?_; rintro e w5 ⟨v5, rfl, ho5, hh5, k5⟩
      have H5 := Lib.hid (And.intro ho5 (And.intro hh5 k5))
      clear ho5 hh5 k5
      go_wp2
      go_ret
      have hs := HO.out.2.2.2.size
      exact ⟨v5, rfl, H5.out.1, fun x hx => Nat.le_trans hs (H5.out.2.1 x hx), HO.out.2.2.2.then H5.out.2.2 (by simp)⟩
end Go.Proofs.Ytjipokilidhnoaa
