/-
  DISK, 7: Swap.
-/
import Derived.Test.YtbjonlfjfjlelaaDisk6
namespace Go.Proofs.Ytbjonlfjfjlelaa
open Go.RowKit
set_option linter.unusedVariables false
set_option maxRecDepth 100000

def DS.swap (d : DS) (l : List UInt8) : Int × DS :=
  if d.dead then (130, d) else if 1048576 < l.length then (5, d) else match d.arm with
    | some k => (130, d.die k)
    | none => (0, { d with b := l, n := l.length, t := d.t ++ [l] })

/-- other bytes are put in the place of all -/
theorem swap1 {p : Nat} {F : List Nat} {d : DS} {w w2 : World} {l : List UInt8} {gb : Nat} (h : isD w p F d) (hk : keepBut [] w w2) (hr : rowAt w2 gb 5 (l.map bv).toArray) (hgb : w.heap.size ≤ gb) (hl : l.length ≤ 1048576) :
    isD ((w2.setCell ⟨p, 0, none⟩ (.slice (some ⟨gb, 0, none⟩) l.length l.length)).setCell ⟨p, 1, none⟩ (.int .i64 (l.length : Int))) p (gb :: F) { d with b := l, n := l.length } ∧
    keepBut F w ((w2.setCell ⟨p, 0, none⟩ (.slice (some ⟨gb, 0, none⟩) l.length l.length)).setCell ⟨p, 1, none⟩ (.int .i64 (l.length : Int))) := by
  obtain ⟨vb, vs, vt, x, T, h1, h2, h3, h4, h5, h6, h7, h8, h9, h10, h11, h12, h13⟩ := h
  have hr2 := hk.row h1 (by simp)
  have hkp := ((keepBut.refl [p] w2).setCell ⟨p, 0, none⟩ (.slice (some ⟨gb, 0, none⟩) l.length l.length) (by simp)).setCell ⟨p, 1, none⟩ (.int .i64 (l.length : Int)) (by simp)
  have hgp : gb ≠ p := by have := h13 p h9; omega
  have hr3 := hkp.row hr (by simpa using hgp)
  refine ⟨⟨.slice (some ⟨gb, 0, none⟩) l.length l.length, vs, vt, x, T, by simpa using (hr2.set 0 (.slice (some ⟨gb, 0, none⟩) l.length l.length)).set 1 (.int .i64 (l.length : Int)), owns_row_all hr3 (by unfold maxLen; omega), Nat.le_refl _, hl, ?_, ?_, h7, ?_, ?_, ?_, ?_, ?_, ?_⟩, ?_⟩
  · refine syncAt.poke ?_ hkp hr2
    cases ha : d.arm with
    | none => rw [ha] at h5; exact h5
    | some k => rw [ha] at h5; exact ⟨h5.1, hk.row h5.2.1 (by simp), h5.2.2⟩
  · exact (h6.keep hk (by simp)).poke hkp hr2 (by decide)
  · exact fun y hy => ⟨hkp.row (hk.row (h8 y hy).1 (by simp)) (fun hm => ((h8 y hy).1.apart h1 (by decide)) (List.mem_singleton.1 hm)), List.mem_cons_of_mem _ (h8 y hy).2.1, fun hm => by have := h13 _ (h8 y hy).2.1; simp [homes_some] at hm; omega⟩
  · exact List.mem_cons_of_mem _ h9
  · exact List.mem_cons_of_mem _ h10
  · intro y hy; simp [homes_some] at hy; simp [hy]
  · exact fun y hy => List.mem_cons_of_mem _ (h12 y hy)
  · intro y hy
    have a1 := hkp.size
    have a2 := hk.size
    rcases List.mem_cons.1 hy with rfl | hy
    · have := hr.lt; omega
    · have := h13 y hy; omega
  · exact (hk.more (T := F) (by simp)).then hkp (fun y hy => .inl (by rw [List.mem_singleton.1 hy]; exact h9))

set_option maxHeartbeats 1000000 in
theorem swapD_any (p : Nat) (F : List Nat) (d : DS) (A : Option Addr) (g c : Nat) (l : List UInt8) (w : World) (h : isD w p F d) (hs : seen w A g l) (hg : l ≠ [] → g ∉ F) (hb : l.length ≤ 140737488355328) (ht : d.t.length ≤ 1000000) :
    Calls Try.prog 17 #[.pointer (some ⟨p, 0, none⟩), .slice A l.length c] w (dPost p F (d.swap l).2 (d.swap l).1 w) := by
  cases hd : d.dead with
  | true =>
    have HR := Lib.hid (show d.ready = 130 by simp [DS.ready, hd])
    have HA := Lib.hid (show d.swap l = (130, d) by simp [DS.swap, hd])
    clear hd
    go_enter Try.func17, Try.ntmps17
    go_wp2_with (go_at_call 58; refine (ready_any _ _ _ _ h).mono ?_; rintro e w' ⟨rfl, rfl⟩; rw [HR.out])
    go_ret
    rw [HA.out]; exact dPost.same h
  | false =>
    have HR := Lib.hid (show d.ready = 0 by simp [DS.ready, hd])
    obtain ⟨vb, vs, vt, x, T, h1, h2, h3, h4, h5, h6, h7, h8, h9, h10, h11, h12, h13⟩ := id h
    have hc3 : w.cell? ⟨p, 3, none⟩ = some vs := h1.cell 3
    by_cases hbig : 1048576 < l.length
    · have HA := Lib.hid (show d.swap l = (5, d) by simp [DS.swap, hd, hbig])
      have hbig' : (1048576 : Int) < (l.length : Int) := by omega
      clear h1 h2 h5 h6 h7 h8 h9 h10 h11 h12 h13 hd hbig
      go_enter Try.func17, Try.ntmps17
      go_wp2_with (go_at_call 58; refine (ready_any _ _ _ _ h).mono ?_; rintro e w' ⟨rfl, rfl⟩; rw [HR.out])
      go_ret
      rw [HA.out]; exact dPost.same h
    · have hbig' : ¬ (1048576 : Int) < (l.length : Int) := by omega
      cases ha : d.arm with
      | some k =>
        have HA := Lib.hid (show d.swap l = (130, d.die k) by simp [DS.swap, hd, ha, hbig])
        rw [ha] at h5
        obtain ⟨rfl, hr, hk⟩ := h5
        have HR5 := Lib.hid hr
        clear h1 h2 h3 h4 h6 h7 h8 h9 h10 h11 h12 h13 hd ha hr hbig
        go_enter Try.func17, Try.ntmps17
        go_wp2_with (first | (go_at_call 58; refine (ready_any _ _ _ _ h).mono ?_; rintro e w' ⟨rfl, rfl⟩; rw [HR.out]) | (go_at_call 81; refine (failing1_any _ _ _ _ _ _ h HR5.out hk).mono ?_; rintro e w1 ⟨rfl, hq⟩))
        go_ret
        rw [HA.out]
        exact ⟨rfl, hq⟩
      | none =>
        have HA := Lib.hid (show d.swap l = (0, { d with b := l, n := l.length, t := d.t ++ [l] }) by simp [DS.swap, hd, ha, hbig])
        obtain ⟨i1, hi1, hz3, hz4, hz5⟩ := info_parts infoSl
        rw [ha] at h5
        obtain rfl := h5
        clear h1 h2 h3 h4 h6 h7 h8 h9 h10 h11 h12 h13 hd ha
        go_enter Try.func17, Try.ntmps17
        go_wp2_with (go_at_call 58; refine (ready_any _ _ _ _ h).mono ?_; rintro e w' ⟨rfl, rfl⟩; rw [HR.out])
        refine (lasting_any _ _ _ _ h).mono ?_; rintro e w1 ⟨rfl, F1, hd1, hk1, hF1⟩
        have hs1 := hs.keep hk1 hg
        have hglt : l ≠ [] → g < w.heap.size := fun hne => by obtain ⟨o, _, hlt, _⟩ := hs hne; exact hlt
        clear h hs hc3
        go_wp2_with fail
        refine (copied_any _ _ _ _ _ hs1 hb).mono ?_; rintro e w2 ⟨rfl, hr2, hk2⟩
        obtain ⟨vb2, vs2, vt2, x2, T2, r2, _⟩ := id hd1
        have hrr := hk2.row r2 (by simp)
        have hc20 : w2.cell? ⟨p, 0, none⟩ = some vb2 := hrr.cell 0
        have hc21 : w2.cell? ⟨p, 1, none⟩ = some (.int .i64 (d.last.n : Int)) := hrr.cell 1
        have hf20 := hrr.free 0
        have hf21 := hrr.free 1
        have hW := swap1 hd1 hk2 hr2 (Nat.le_refl _) (show l.length ≤ 1048576 by omega)
        have hs3 : seen ((w2.setCell ⟨p, 0, none⟩ (.slice (some ⟨w1.heap.size, 0, none⟩) l.length l.length)).setCell ⟨p, 1, none⟩ (.int .i64 (l.length : Int))) A g l := hs1.keep hW.2 (fun hne hm => by
          rcases hF1 g hm with h1 | h1
          · exact hg hne h1
          · have := hglt hne; omega)
        have HW := Lib.hid (And.intro hW hs3)
        clear hW hs3 hr2 hk2 r2 hrr
        go_wp2
        clear hc20 hc21 hf20 hf21 hs1
        generalize ((w2.setCell ⟨p, 0, none⟩ (.slice (some ⟨w1.heap.size, 0, none⟩) l.length l.length)).setCell ⟨p, 1, none⟩ (.int .i64 (l.length : Int))) = w3 at *
        obtain ⟨⟨hd3, hk3⟩, hs3⟩ := HW.out
        clear HW
        have hk03 := hk1.then hk3 hF1
        obtain ⟨vb3, vs3, vt3, x3, T3, r3, _, _, _, _, o3, t3, _⟩ := id hd3
        obtain ⟨A3, c3, rfl, _, _, _, _⟩ := o3.form
        have hc4 : w3.cell? ⟨p, 4, none⟩ = some (.slice A3 T3.length c3) := r3.cell 4
        have hn3 : T3.length = d.t.length := by have := congrArg List.length t3; simpa [DS.last] using this
        have HN := Lib.hid hn3
        have hlt3 : T3.length ≤ 1000000 := by omega
        have HO3 := Lib.hid (And.intro o3 (And.intro hs3 r3))
        clear o3 r3 t3 hn3 hs3 hg hd1
        go_region_law
          (first
            | (refine step_append _ rfl (.tmp 38) (.tmp 41) 36 rfl 28 i1 (.slice none 0 0) 1 24 Try.underlying36 hi1 hz3 hz4 hz5 rfl (by decide) (.slice A3 T3.length c3) T3.length _ (by simp [Act.eval]) ((HO3.out.1.drew.keep hk4 (by simp)).alloc _) _ _ 1 1 _ (by simp [Act.eval]) (reads_one _ _ _) (by intro u hu; simp at hu; subst hu; rfl) (by omega) (by unfold maxLen; omega) ?_; intro A5 c5 w5 hown5 hkb5 hloc5; have hW5 := hkb5.row (hk44.row hr34 (by simp)) (HO3.out.1.apart HO3.out.2.2 (by decide)); have hcell5 : w5.cell? ⟨p, 4, none⟩ = some (.slice A3 T3.length c3) := hW5.cell 4; have hfree5 := hW5.free 4)
            | (go_simp; go_at_call 59; refine (copied_any _ _ _ _ _ (HO3.out.2.1.keep ((keepBut.refl [] w3).drew) (by simp)) hb).mono ?_; rintro e w4 ⟨rfl, hr4, hk4⟩; have hr34 := hk4.row (((keepBut.refl [] w3).drew).row HO3.out.2.2 (by simp)) (by simp); have hc44 : w4.cell? ⟨p, 4, none⟩ = some (.slice A3 T3.length c3) := hr34.cell 4; have hk44 := (keepBut.refl [] w4).alloc (.cells #[.slice (some ⟨w3.heap.size, 0, none⟩) l.length l.length] 28); have hc45 : (w4.alloc (.cells #[.slice (some ⟨w3.heap.size, 0, none⟩) l.length l.length] 28)).cell? ⟨p, 4, none⟩ = some (.slice A3 T3.length c3) := (hk44.row hr34 (by simp)).cell 4))
        all_goals
          have hk0 : keepBut [] w3 (w4.alloc (.cells #[.slice (some ⟨w3.heap.size, 0, none⟩) l.length l.length] 28)) := (((keepBut.refl [] w3).drew).then hk4 (by simp)).then hk44 (by simp)
          have hP := push_end (l := l) (gb := w3.heap.size) hd3 hc4 hk0 (hk44.row hr4 (by simp)) (Nat.le_refl _) HN.out HO3.out.1 hown5 hkb5 hloc5
          have HP := Lib.hid hP
          clear hP hk0 hr4 hk4 hr34 hc44 hk44 hc45 hown5 hkb5 hloc5 hW5 hcell5 hfree5 hd3 hc4
          go_wp2
          go_ret
          rw [HA.out]
          obtain ⟨F', a, b, c⟩ := HP.out
          have hin : ∀ y ∈ w1.heap.size :: F1, y ∈ F ∨ w.heap.size ≤ y := fun y hy => by
            rcases List.mem_cons.1 hy with rfl | hy
            · exact .inr hk1.size
            · exact hF1 y hy
          exact ⟨rfl, F', a, hk03.then b hin, fun y hy => by
            rcases c y hy with h1 | h1
            · exact hin y h1
            · have := hk03.size; exact .inr (by omega)⟩
end Go.Proofs.Ytbjonlfjfjlelaa
