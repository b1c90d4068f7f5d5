/-
  LEAD, 13: the statements' helpers EqInts, conf, is.
-/
import Derived.Test.YtbjonlfjfjlelaaLead10
namespace Go.Proofs.Ytbjonlfjfjlelaa
open Go.RowKit
set_option linter.unusedVariables false
set_option maxRecDepth 100000

theorem held.cell {w : World} {F : List Nat} {A : Option Addr} {n c : Nat} {l : List Int} (h : held w F (.slice A n c) l) (i : Nat) (hi : i < l.length) :
    n = l.length ∧ n ≤ c ∧ ∃ g o x, A = some ⟨g, o, none⟩ ∧ l[i]? = some x ∧ w.cell? ⟨g, o + i, none⟩ = some (.int .i64 x) := by
  obtain ⟨A', c', g, e, h2, h3, h4, h5, h6⟩ := h
  injection e with e1 e2 e3
  subst e1 e2 e3
  obtain ⟨o, rfl, _, hc⟩ := h5.2 (by omega)
  exact ⟨rfl, h2, g, o, l[i], rfl, List.getElem?_eq_getElem hi, hc i _ (by simp [cellsK, List.getElem?_eq_getElem hi])⟩

def eqRel (w : World) (l m : List Int) (v5 : Value) (wx : World) : Prop := ∃ k : Nat, k ≤ l.length ∧ v5 = .int .i64 (k : Int) ∧ l.take k = m.take k ∧ keepBut [] w wx

set_option maxHeartbeats 2000000 in
theorem eqInts_any (F G : List Nat) (u v : Value) (l m : List Int) (w : World) (hl : held w F u l) (hm : held w G v m) :
    Calls Try.prog 74 #[u, v] w fun e w' => e = .returned (.bool (decide (l = m))) ∧ keepBut [] w w' := by
  obtain ⟨A, c, g, rfl, h2, h3, h4, h5, h6⟩ := id hl
  obtain ⟨B, d, k0, rfl, g2, g3, g4, g5, g6⟩ := id hm
  clear h5 h6 g5 g6
  by_cases hlen : l.length = m.length
  · have t1 : ((l.length : Int) == (m.length : Int)) = true := by simp [hlen]
    have t2 : ((l.length : Int) != (m.length : Int)) = false := by simp [hlen]
    have HL := Lib.hid (And.intro hl (And.intro hm hlen))
    clear hl hm hlen
    unfold maxLen at h3 g3
    go_enter Try.func74, Try.ntmps74
    go_upto_region 4 with fail
    go_loopw [5] (fun v5 wx => eqRel w l m v5 wx) (fun v5 _ => l.length - (intOf v5).toNat)
    case atStart => exact ⟨0, by omega, rfl, by simp, keepBut.refl _ _⟩
    case round =>
      obtain ⟨k, hk, rfl, htk, kk⟩ := hrel
      have hlen := HL.out.2.2
      by_cases hlt : k < l.length
      · obtain ⟨-, -, ga, oa, x, rfl, hx, cx⟩ := (HL.out.1.keep kk (by simp)).cell k hlt
        obtain ⟨-, -, gb, ob, y, rfl, hy, cy⟩ := (HL.out.2.1.keep kk (by simp)).cell k (by omega)
        have h1 : (k : Int) < (l.length : Int) := by omega
        have h2 : (k : Int) < (m.length : Int) := by omega
        have HT := Lib.hid (And.intro htk (And.intro kk (And.intro hx (And.intro hy hlen))))
        clear htk kk hx hy hlen
        go_upto_region 6 with fail
        go_quiet (fail)
        by_cases hxy : x = y
        · have t3 : (x == y) = true := by simpa using hxy
          have t4 : (x != y) = false := by simpa using hxy
          have HXY := Lib.hid hxy
          clear hxy
          go_wp2
          go_roundw
          case rel => exact ⟨k + 1, by omega, by go_num, by rw [List.take_add_one, List.take_add_one, HT.out.1, HT.out.2.2.1, HT.out.2.2.2.1, HXY.out], HT.out.2.1.drewN _⟩
          case measure => simp [intOf]; omega
        · have t3 : (x == y) = false := by simpa using hxy
          have t4 : (x != y) = true := by simpa using hxy
          have HXY := Lib.hid hxy
          clear hxy
          go_wp2
          go_ret
          have hne : decide (l = m) = false := by
            simp
            intro e
            have e1 := HT.out.2.2.1
            rw [e, HT.out.2.2.2.1] at e1
            exact HXY.out (by injection e1 with e1; exact e1.symm)
          rw [hne]
          exact ⟨rfl, HT.out.2.1.drewN _⟩
      · obtain rfl : k = l.length := by omega
        have he : decide (l = m) = true := by
          simp
          rw [List.take_length] at htk
          rw [htk, hlen, List.take_length]
        have HE := Lib.hid (And.intro he kk)
        clear he kk htk hlen
        go_wp2
        go_ret
        rw [HE.out.1]
        exact ⟨rfl, HE.out.2⟩
  · have t1 : ((l.length : Int) == (m.length : Int)) = false := by simp; omega
    have t2 : ((l.length : Int) != (m.length : Int)) = true := by simp; omega
    have HE := Lib.hid (show decide (l = m) = false by simp; intro e; exact hlen (by rw [e]))
    clear hl hm hlen
    go_enter Try.func74, Try.ntmps74
    go_wp2
    go_ret
    rw [HE.out]
    exact ⟨rfl, keepBut.refl _ _⟩

set_option maxHeartbeats 1000000 in
theorem conf_any (num who : Int) (w : World) :
    Calls Try.prog 42 #[.int .i64 num, .int .i64 who] w (confPost ⟨num, 1, [who]⟩ w) := by
  have k1 := (keepBut.refl [] w).alloc (.cells #[.int .i64 0, .int .i64 0, .slice none 0 0] 55)
  have k2 := k1.alloc (.cells #[.int .i64 who] 3)
  have r2 := rowAt.new (w.alloc (.cells #[.int .i64 0, .int .i64 0, .slice none 0 0] 55)) 3 #[.int .i64 who]
  have hs : (w.alloc (.cells #[.int .i64 0, .int .i64 0, .slice none 0 0] 55)).heap.size = w.heap.size + 1 := by simp
  rw [hs] at r2
  have H := Lib.hid (And.intro k1 (And.intro k2 (And.intro r2 hs)))
  clear k1 k2 r2 hs
  go_enter Try.func42, Try.ntmps42
  go_wp2
  refine bodyPost_ret (v := .agg #[.int .i64 num, .int .i64 1, .slice (some ⟨w.heap.size + 1, 0, none⟩) 1 1]) (by simp [results, Try.results42, go_sem, *]) rfl ?_
  have k3 : keepBut [] w ((w.alloc (.cells #[.int .i64 num, .int .i64 1, .slice (some ⟨w.heap.size + 1, 0, none⟩) 1 1] 55)).alloc (.cells #[.int .i64 who] 3)) := ((keepBut.refl [] w).alloc _).alloc _
  have r3 := rowAt.new (w.alloc (.cells #[.int .i64 num, .int .i64 1, .slice (some ⟨w.heap.size + 1, 0, none⟩) 1 1] 55)) 3 #[.int .i64 who]
  have hs : (w.alloc (.cells #[.int .i64 num, .int .i64 1, .slice (some ⟨w.heap.size + 1, 0, none⟩) 1 1] 55)).heap.size = w.heap.size + 1 := by simp
  rw [hs] at r3
  refine ⟨_, rfl, [w.heap.size + 1], ⟨_, 1, w.heap.size + 1, rfl, by simp, by simp [maxLen], by simp, ⟨rfl, fun _ => ⟨0, rfl, r3.lt, fun j u hu => ?_⟩⟩, by simp⟩, fun y hy => ?_, k3⟩
  · rw [r3.cell]
    simpa [cellsK] using hu
  · have := List.mem_singleton.1 hy
    have := r3.lt
    omega

set_option maxHeartbeats 1000000 in
theorem is_any (F : List Nat) (c : CS) (cv : Value) (num who : Int) (w : World) (hc : held w F cv c.chain) (he : c = ⟨num, 1, [who]⟩) :
    Calls Try.prog 44 #[confV c cv, .int .i64 num, .int .i64 who] w fun e w' => e = .returned (.bool true) ∧ keepBut [] w w' := by
  subst he
  unfold confV
  obtain ⟨A, n, g, rfl, h2⟩ := id hc
  have k1 := (keepBut.refl [] w).alloc (.cells #[.int .i64 num, .int .i64 1, .slice A [who].length n] 55)
  have h1 := hc.keep k1 (by simp)
  have k2 := (keepBut.refl [] (w.alloc (.cells #[.int .i64 num, .int .i64 1, .slice A [who].length n] 55))).alloc (.cells #[.int .i64 who] 3)
  have h3 := h1.keep k2 (by simp)
  have r2 := rowAt.new (w.alloc (.cells #[.int .i64 num, .int .i64 1, .slice A [who].length n] 55)) 3 #[.int .i64 who]
  have hw : held ((w.alloc (.cells #[.int .i64 num, .int .i64 1, .slice A [who].length n] 55)).alloc (.cells #[.int .i64 who] 3)) [(w.alloc (.cells #[.int .i64 num, .int .i64 1, .slice A [who].length n] 55)).heap.size]
      (.slice (some ⟨(w.alloc (.cells #[.int .i64 num, .int .i64 1, .slice A [who].length n] 55)).heap.size, 0, none⟩) 1 1) [who] :=
    ⟨_, 1, _, rfl, by simp, by simp [maxLen], by simp, ⟨rfl, fun _ => ⟨0, rfl, r2.lt, fun j u hu => by rw [r2.cell]; simpa [cellsK] using hu⟩⟩, by simp⟩
  have HE := Lib.hid (eqInts_any F _ _ _ _ _ _ h3 hw)
  have HK := Lib.hid (k1.then k2 (by simp))
  have hs : (w.alloc (.cells #[.int .i64 num, .int .i64 1, .slice A [who].length n] 55)).heap.size = w.heap.size + 1 := by simp
  rw [hs] at HE
  clear k1 k2 h1 h3 r2 hw hc h2 hs
  simp only [List.length_cons, List.length_nil, Nat.zero_add] at HE HK ⊢
  go_enter Try.func44, Try.ntmps44
  go_wp2_with (go_at_call 74; refine HE.out.mono ?_; rintro e w' ⟨rfl, k3⟩)
  go_ret
  exact ⟨by simp, HK.out.then k3 (by simp)⟩
end Go.Proofs.Ytbjonlfjfjlelaa
