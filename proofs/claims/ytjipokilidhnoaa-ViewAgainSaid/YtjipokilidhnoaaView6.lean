/-
  VIEW, 6: rows that come in; Of; the statements' own 'of'; items.
-/
import Derived.Test.YtjipokilidhnoaaView5
namespace Go.Proofs.Ytjipokilidhnoaa
open Go.RowKit
set_option linter.unusedVariables false
set_option maxRecDepth 100000

/-- at A stand the rows l; they and their bytes lie in G -/
def rowsV (w : World) (G : List Nat) (A : Option Addr) (l : List VR) : Prop :=
  l ≠ [] → ∃ g o, A = some ⟨g, o, none⟩ ∧ g < w.heap.size ∧ g ∈ G ∧ ∀ (i : Nat) (r : VR), l[i]? = some r → ∃ A' n, heldB w G (.slice A' r.bytes.length n) r.bytes ∧
    w.cell? ⟨g, o + i * 4, none⟩ = some (.int .i64 r.step) ∧ w.cell? ⟨g, o + i * 4 + 1, none⟩ = some (.int .i64 r.node) ∧ w.cell? ⟨g, o + i * 4 + 2, none⟩ = some (.int .i64 r.kind) ∧ w.cell? ⟨g, o + i * 4 + 3, none⟩ = some (.slice A' r.bytes.length n)
theorem rowsV.keep {S G : List Nat} {w w' : World} {A : Option Addr} {l : List VR} (h : rowsV w G A l) (hk : keepBut S w w') (hS : ∀ y ∈ G, y ∉ S) : rowsV w' G A l := by
  intro hl
  obtain ⟨g, o, e1, e2, e3, e4⟩ := h hl
  refine ⟨g, o, e1, Nat.lt_of_lt_of_le e2 hk.size, e3, fun i r hr => ?_⟩
  obtain ⟨A', n, q1, q2, q3, q4, q5⟩ := e4 i r hr
  have e := fun x => hk.cell (p := ⟨g, x, none⟩) e2 (hS g e3)
  exact ⟨A', n, q1.keep hk hS, (e _).trans q2, (e _).trans q3, (e _).trans q4, (e _).trans q5⟩
/-- the rows of a view -/
theorem isV.rows {w : World} {p : Nat} {F : List Nat} {l : List VR} (h : isV w p F l) : ∃ A c, w.cell? ⟨p, 1, none⟩ = some (.slice A l.length c) ∧ l.length ≤ c ∧ c ≤ maxLen ∧ rowsV w F A l := by
  obtain ⟨A, c, c1, h1, h2⟩ := h.c1
  refine ⟨A, c, c1, h1, h2, fun hl => ?_⟩
  obtain ⟨r0, hr0⟩ : ∃ r, l[0]? = some r := ⟨_, List.getElem?_eq_getElem (List.length_pos_iff.2 hl)⟩
  obtain ⟨g, c', _, _, _, c1', _, _, hg, _, _, _, _, _, _, hlt⟩ := h.at hr0
  rw [c1] at c1'
  injection c1' with e1
  injection e1 with ea eb ec
  refine ⟨g, 0, ea, hlt, hg, fun i r hr => ?_⟩
  obtain ⟨g2, c2, A', n, C, d1, _, _, _, y0, y1, y2, y3, hb, hC, _⟩ := h.at hr
  rw [c1] at d1
  injection d1 with d1
  injection d1 with da _ _
  rw [ea] at da
  injection da with da
  injection da with da _ _
  subst da
  exact ⟨A', n, hb.more hC, by simpa using y0, by simpa using y1, by simpa using y2, by simpa using y3⟩

/-- rows that may follow one another -/
def goodV (l : List VR) : Prop := l.length ≤ 20000 ∧ ∀ (i : Nat) (r : VR), l[i]? = some r → r.okay = true ∧ lastOf (l.take i) ≤ r.step
theorem goodV.add {l : List VR} (h : goodV l) {i : Nat} {r : VR} (hr : l[i]? = some r) : addVR (l.take i) r = (0, l.take (i + 1)) := by
  have hi : i < l.length := (List.getElem?_eq_some_iff.1 hr).1
  have h1 := h.1
  obtain ⟨h2, h3⟩ := h.2 i r hr
  unfold addVR
  rw [if_neg (by rw [h2]; simp; omega), if_neg (by rw [List.length_take]; omega), List.take_add_one, hr]
  rfl
def ofPost (l : List VR) (w : World) (e : Ending) (w' : World) : Prop := ∃ p F, e = .returned (.tuple #[.pointer (some ⟨p, 0, none⟩), .int .i64 0]) ∧ isV w' p F l ∧ (∀ y ∈ F, w.heap.size ≤ y) ∧ keepBut [] w w'
def ofRel (w : World) (p : Nat) (l : List VR) (v11 : Value) (wx : World) : Prop := ∃ (i : Nat) (F : List Nat), i ≤ l.length ∧ v11 = .int .i64 (i : Int) ∧ isV wx p F (l.take i) ∧ (∀ y ∈ F, w.heap.size ≤ y) ∧ keepBut [] w wx
set_option maxHeartbeats 2000000 in
theorem ofV_any (G : List Nat) (A : Option Addr) (c : Nat) (l : List VR) (w : World) (h : rowsV w G A l) (hg : goodV l) (hc : l.length ≤ c) :
    Calls Try.prog 36 #[.slice A l.length c] w (ofPost l w) := by
  have HH := Lib.hid (And.intro h (And.intro hg hg.1))
  have hl := hg.1
  clear h hg
  go_enter Try.func36, Try.ntmps36
  go_wp2_with fail
  refine (newV_any _).mono ?_; rintro e w1 ⟨p, F, rfl, h1, hF, k1⟩
  have H1 := Lib.hid (And.intro h1 (And.intro hF k1))
  clear h1 hF k1
  go_wp2_with fail
  go_loopw [11, 6, 7] (fun v11 _ _ wx => ofRel w p l v11 wx) (fun v11 _ _ _ => l.length - (intOf v11).toNat)
  case atStart => exact ⟨0, F, by omega, rfl, H1.out⟩
  case round =>
    obtain ⟨i, F2, hi, rfl, hv, hF2, hk⟩ := hrel
    clear H1
    by_cases hlt : i < l.length
    · have hlt' : (i : Int) < (l.length : Int) := by omega
      obtain ⟨r, hr⟩ : ∃ r, l[i]? = some r := ⟨_, List.getElem?_eq_getElem hlt⟩
      obtain ⟨g, o, rfl, hgl, hgG, hall⟩ := HH.out.1 (by rintro rfl; simp at hlt)
      obtain ⟨A', n, hb, y0, y1, y2, y3⟩ := hall i r hr
      have e := fun x => hk.cell (p := ⟨g, x, none⟩) hgl (by simp)
      rw [← e] at y0 y1 y2 y3
      have HE := Lib.hid (HH.out.2.1.add hr)
      obtain ⟨s, nd, kd, b⟩ := r
      dsimp only at hb y0 y1 y2 y3
      have HR := Lib.hid (And.intro hv (And.intro hF2 (And.intro hk (hb.keep hk (by simp)))))
      clear hv hF2 hk hb hr hall e
      go_upto_region 5 with fail
      have ka := (keepBut.refl [] wr).alloc (.cells #[.int .i64 s, .int .i64 nd, .int .i64 kd, .slice A' b.length n] 46)
      have ra := rowAt.new wr 46 #[.int .i64 s, .int .i64 nd, .int .i64 kd, .slice A' b.length n]
      have HA := Lib.hid (And.intro (HR.out.1.over ka) (And.intro ka (HR.out.2.2.2.keep ka (by simp))))
      clear ka y0 y1 y2 y3
      obtain ⟨wa, hwa⟩ : ∃ wa, wr.alloc (.cells #[.int .i64 s, .int .i64 nd, .int .i64 kd, .slice A' b.length n] 46) = wa := ⟨_, rfl⟩
      rw [hwa] at HA ra ⊢
      clear hwa
      have x0 : wa.cell? ⟨wr.heap.size, 0, none⟩ = some (.int .i64 s) := ra.cell 0
      have x1 : wa.cell? ⟨wr.heap.size, 1, none⟩ = some (.int .i64 nd) := ra.cell 1
      have x2 : wa.cell? ⟨wr.heap.size, 2, none⟩ = some (.int .i64 kd) := ra.cell 2
      have x3 : wa.cell? ⟨wr.heap.size, 3, none⟩ = some (.slice A' b.length n) := ra.cell 3
      clear ra
      go_wp2_with fail
      refine (addV_any p F2 G (l.take i) s nd kd b A' n _ HA.out.1 HA.out.2.2 (by rw [List.length_take]; omega)).mono ?_; rw [HE.out]; rintro e w5 ⟨rfl, F5, i5, k5, f5⟩
      have H5 := Lib.hid (And.intro i5 (And.intro k5 f5))
      clear i5 k5 f5 x0 x1 x2 x3
      go_wp2_with fail
      go_roundw
      case rel =>
        have hs := HA.out.2.1.size
        have hks := HR.out.2.2.1.size
        refine ⟨i + 1, F5, by omega, by go_num, H5.out.1, fun y hy => ?_, (HR.out.2.2.1.then HA.out.2.1 (by simp)).then H5.out.2.1 (fun y hy => .inr (HR.out.2.1 y hy))⟩
        rcases H5.out.2.2 y hy with q | q
        · exact HR.out.2.1 y q
        · omega
      case measure => simp [intOf]; omega
    · obtain rfl : i = l.length := by omega
      rw [List.take_length] at hv
      have HR := Lib.hid (And.intro hv (And.intro hF2 hk))
      clear hv hF2 hk
      go_wp2
      go_ret2
      exact ⟨p, F2, rfl, HR.out⟩
def ofLPost (l : List VR) (w : World) (e : Ending) (w' : World) : Prop := ∃ p F, e = .returned (.pointer (some ⟨p, 0, none⟩)) ∧ isV w' p F l ∧ (∀ y ∈ F, w.heap.size ≤ y) ∧ keepBut [] w w'
set_option maxHeartbeats 1000000 in
theorem ofL_any (G : List Nat) (A : Option Addr) (c : Nat) (l : List VR) (w : World) (h : rowsV w G A l) (hg : goodV l) (hc : l.length ≤ c) :
    Calls Try.prog 9 #[.slice A l.length c] w (ofLPost l w) := by
  go_enter Try.func9, Try.ntmps9
  go_wp2_with fail
  refine (ofV_any G A c l w h hg hc).mono ?_; rintro e w1 ⟨p, F, rfl, h1⟩
  have H1 := Lib.hid h1
  clear h1
  go_wp2
  go_ret
  exact ⟨p, F, rfl, H1.out⟩
set_option maxHeartbeats 400000 in
theorem items_any (p : Nat) (F : List Nat) (l : List VR) (A : Option Addr) (c : Nat) (w : World) (h : isV w p F l) (c1 : w.cell? ⟨p, 1, none⟩ = some (.slice A l.length c)) :
    Calls Try.prog 37 #[.pointer (some ⟨p, 0, none⟩)] w fun e w' => e = .returned (.slice A l.length c) ∧ w = w' := by
  have H := Lib.hid h
  clear h
  go_enter Try.func37, Try.ntmps37
  go_wp2_with (go_at_call 29; refine (noneV_any _ _ _ _ H.out).mono ?_; rintro e w' ⟨rfl, rfl⟩)
  go_ret
  exact ⟨rfl, rfl⟩
end Go.Proofs.Ytjipokilidhnoaa
