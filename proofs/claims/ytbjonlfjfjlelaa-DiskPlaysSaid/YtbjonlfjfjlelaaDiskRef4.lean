/-
  DISK: the document's own disk: Write, Swap.
-/
import Derived.Test.YtbjonlfjfjlelaaDiskRef3
namespace Go.Proofs.Ytbjonlfjfjlelaa
open Go.RowKit
set_option linter.unusedVariables false
set_option maxRecDepth 100000

theorem oneByte (l : List UInt8) : ∀ u ∈ l.map bv, u.oneCell' = true := by
  intro u hu; simp at hu; obtain ⟨b, _, rfl⟩ := hu; rfl

set_option maxHeartbeats 8000000 in
theorem writeR_any (q : Nat) (F : List Nat) (d : DS) (A' : Option Addr) (g' c' : Nat) (l : List UInt8) (w : World) (h : isR w q F d) (hs : seen w A' g' l) (hg : l ≠ [] → g' ∉ F) (hb : l.length ≤ 140737488355328) (ht : d.t.length ≤ 1000000) :
    Calls Try.prog 56 #[.pointer (some ⟨q, 0, none⟩), .slice A' l.length c'] w (rPost q F (d.write l).2 (.int .i64 (d.write l).1) w) := by
  have c2 := h.cells.2.1
  cases hd : d.dead with
  | true =>
    rw [hd] at c2
    have HE := Lib.hid (show d.write l = (130, d) by simp [DS.write, hd])
    have H := Lib.hid h
    clear h hd
    go_enter Try.func56, Try.ntmps56
    go_wp2_with fail
    go_ret
    rw [HE.out]
    exact rPost.same H.out (keepBut.refl _ _)
  | false =>
    rw [hd] at c2
    obtain ⟨vb, vt, T, hv⟩ := id h
    obtain ⟨A, c, g, rfl, hc1, hc2, hsn, hgm⟩ := hv.own.seen
    have c0 : w.cell? ⟨q, 0, none⟩ = some (.slice A d.b.length c) := hv.row.cell 0
    have hlen := hv.len
    by_cases hbig : 1048576 < d.b.length + l.length
    · have HE := Lib.hid (show d.write l = (5, d) by simp [DS.write, hd, hbig])
      have H := Lib.hid h
      have hbig' : (1048576 : Int) < (d.b.length : Int) + (l.length : Int) := by omega
      clear h hd hv hsn hgm
      go_enter Try.func56, Try.ntmps56
      go_wp2_with fail
      go_ret
      rw [HE.out]
      exact rPost.same H.out (keepBut.refl _ _)
    · have HE := Lib.hid (show d.write l = (0, { d with b := d.b ++ l, t := d.t ++ [l] }) by simp [DS.write, hd, hbig])
      have hbig' : ¬ (1048576 : Int) < (d.b.length : Int) + (l.length : Int) := by omega
      have hTl : T.length ≤ 1000000 := by have := hv.tr; have e : T.length = d.t.length := by rw [← this]; simp
                                          omega
      have hsum : d.b.length + l.length ≤ 1048576 := by omega
      obtain ⟨i0, hi0, hz0, hz1, hz2⟩ := info_parts infoU8
      obtain ⟨A4, c4, rfl, -⟩ := hv.ownT.form
      have HH := Lib.hid (And.intro hv (And.intro hsn (And.intro hs hg)))
      have HT := Lib.hid hTl
      clear h hd hv hsn hgm hs hg hTl
      go_enter Try.func56, Try.ntmps56
      go_upto_region 6 with (first
        | (go_at_call 49; (with_reducible refine (copyBytes_any A g c d.b _ HH.out.2.1 (by omega)).mono ?_); rintro e w1 ⟨v, rfl, ho1, hf1, hk1⟩; obtain ⟨A1, c1, rfl, -⟩ := ho1.form; have H1 := Lib.hid (And.intro ho1 (And.intro hf1 hk1)); clear ho1 hf1 hk1)
        | (at_builtin; refine wp_append _ rfl (.tmp 23) (.tmp 24) 28 rfl 5 i0 (.int .u8 0) 1 1 Try.underlying28 hi0 hz0 hz1 hz2 rfl (by decide) (.slice A1 d.b.length c1) d.b.length (d.b.map bv) rfl H1.out.1 A' g' l.length c' (l.map bv) rfl ((HH.out.2.2.1.keep H1.out.2.2 (by simp)).reads) (oneByte l) (by omega) (by unfold maxLen; omega) ?_; intro A2 c2' w2 hown2 hkb2 hloc2; have hk12 : keepBut [] w w2 := H1.out.2.2.then hkb2 (fun x hx => .inr (H1.out.2.1 x hx)); have hr2 := hk12.row HH.out.1.row (by simp); have d0 : w2.cell? ⟨q, 0, none⟩ = some (.slice A d.b.length c) := hr2.cell 0; have f0 := hr2.free 0; have H2 := Lib.hid (And.intro hown2 (And.intro hloc2 (And.intro hk12 hr2))); clear hown2 hkb2 hloc2 hk12 hr2))
      have h3 := HH.out.1.newB (d' := { d with b := d.b ++ l }) (l := d.b ++ l) (v := .slice A2 (d.b.length + l.length) c2') H2.out.2.2.1 (by simpa using H2.out.1) (fun x hx => by
          rcases H2.out.2.1 x hx with q1 | q1
          · exact H1.out.2.1 x q1
          · exact Nat.le_trans H1.out.2.2.size q1) ((keepBut.refl [q] w2).setCell ⟨q, 0, none⟩ (.slice A2 (d.b.length + l.length) c2') (by simp)) (H2.out.2.2.2.set 0 (.slice A2 (d.b.length + l.length) c2')) rfl rfl (by have := HH.out.1.nb; simp; omega) (by simpa using hsum) HH.out.1.arm
      have hF3 : ∀ y ∈ homes (.slice A2 (d.b.length + l.length) c2') ++ F, y ∈ F ∨ w.heap.size ≤ y := fun y hy => by
        rcases List.mem_append.1 hy with q1 | q1
        · rcases H2.out.2.1 y q1 with q2 | q2
          · exact .inr (H1.out.2.1 y q2)
          · exact .inr (Nat.le_trans H1.out.2.2.size q2)
        · exact .inl q1
      have H3 := Lib.hid (And.intro h3.1 (And.intro h3.2 hF3))
      clear h3 hF3 d0 f0 c0 c2
      generalize w2.setCell ⟨q, 0, none⟩ (.slice A2 (d.b.length + l.length) c2') = w3 at *
      generalize homes (.slice A2 (d.b.length + l.length) c2') ++ F = F3 at *
      have hs3 := HH.out.2.2.1.keep H3.out.2.1 HH.out.2.2.2
      have c43 : w3.cell? ⟨q, 4, none⟩ = some (.slice A4 T.length c4) := H3.out.1.row.cell 4
      have HS3 := Lib.hid hs3
      clear hs3
      obtain ⟨i1, hj0, hjz, hj1, hj2⟩ := info_parts infoSl
      go_region_law (first
        | (refine step_append _ rfl (.tmp 32) (.tmp 35) 36 rfl 28 i1 (.slice none 0 0) 1 24 Try.underlying36 hj0 hjz hj1 hj2 rfl (by decide) (.slice A4 T.length c4) T.length (T.map (·.1)) rfl ((H3.out.1.ownT.keep H7.out.2.2.1 (by simp)).alloc _) (some ⟨w7.heap.size, 0, none⟩) w7.heap.size 1 1 [.slice A7 l.length c7] rfl (reads_one w7 28 (.slice A7 l.length c7)) (by intro u hu; simp at hu; subst hu; rfl) (by have := HT.out; omega) (by have := HT.out; unfold maxLen; omega) ?_; intro A8 c8 w8 hown8 hkb8 hloc8; have hq8 : q ∉ homes (.slice A4 T.length c4) := H3.out.1.ownT.apart H3.out.1.row (by decide); have hr8 := hkb8.row (((keepBut.refl [] w7).alloc (.cells #[.slice A7 l.length c7] 28)).row H7.out.2.2.2 (by simp)) hq8; have d48 : w8.cell? ⟨q, 4, none⟩ = some (.slice A4 T.length c4) := hr8.cell 4; have f48 := hr8.free 4; have H8 := Lib.hid (And.intro hown8 (And.intro hkb8 (And.intro hloc8 hr8))); clear hown8 hkb8 hloc8 hr8)
        | (go_simp; go_at_call 49; (with_reducible refine (copyBytes_any A' g' c' l _ (HS3.out.keep ((keepBut.refl [] w3).drew) (by simp)) hb).mono ?_); rintro e w7 ⟨v7, rfl, ho7, hf7, hk7⟩; obtain ⟨A7, c7, rfl, -⟩ := ho7.form; have hk37 : keepBut [] w3 w7 := ((keepBut.refl [] w3).drew).then hk7 (by simp); have hr7 := hk37.row H3.out.1.row (by simp); have d47 : w7.cell? ⟨q, 4, none⟩ = some (.slice A4 T.length c4) := hr7.cell 4; have d47a : (w7.alloc (.cells #[.slice A7 l.length c7] 28)).cell? ⟨q, 4, none⟩ = some (.slice A4 T.length c4) := (((keepBut.refl [] w7).alloc (.cells #[.slice A7 l.length c7] 28)).row hr7 (by simp)).cell 4; have H7 := Lib.hid (And.intro ho7 (And.intro hf7 (And.intro hk37 hr7))); clear ho7 hf7 hk7 hk37 hr7))
      all_goals
        have hp := H3.out.1.pushT (v := .slice A7 l.length c7) (l := l) (o := .cells #[.slice A7 l.length c7] 28) H7.out.2.2.1 H7.out.1 (fun x hx => H7.out.2.1 x hx) H8.out.1 H8.out.2.1 H8.out.2.2.1 ((keepBut.refl [q] w8).setCell ⟨q, 4, none⟩ (.slice A8 (T.length + 1) c8) (by simp)) (H8.out.2.2.2.set 4 (.slice A8 (T.length + 1) c8))
        have HP := Lib.hid hp
        clear hp
        go_wp2_with fail
        go_ret
        rw [HE.out]
        refine ⟨rfl, _, ⟨_, _, _, HP.out.1⟩, H3.out.2.1.then HP.out.2.1 H3.out.2.2, fun y hy => ?_⟩
        rcases HP.out.2.2 y hy with q1 | q1
        · exact H3.out.2.2 y q1
        · exact .inr (Nat.le_trans H3.out.2.1.size q1)

set_option maxHeartbeats 8000000 in
theorem swapR_any (q : Nat) (F : List Nat) (d : DS) (A' : Option Addr) (g' c' : Nat) (l : List UInt8) (w : World) (h : isR w q F d) (hs : seen w A' g' l) (hg : l ≠ [] → g' ∉ F) (hb : l.length ≤ 140737488355328) (ht : d.t.length ≤ 1000000) :
    Calls Try.prog 51 #[.pointer (some ⟨q, 0, none⟩), .slice A' l.length c'] w (rPost q F (d.swap l).2 (.int .i64 (d.swap l).1) w) := by
  have c2 := h.cells.2.1
  cases hd : d.dead with
  | true =>
    rw [hd] at c2
    have HE := Lib.hid (show d.swap l = (130, d) by simp [DS.swap, hd])
    have H := Lib.hid h
    clear h hd
    go_enter Try.func51, Try.ntmps51
    go_wp2_with fail
    go_ret
    rw [HE.out]
    exact rPost.same H.out (keepBut.refl _ _)
  | false =>
    rw [hd] at c2
    by_cases hbig : 1048576 < l.length
    · have HE := Lib.hid (show d.swap l = (5, d) by simp [DS.swap, hd, hbig])
      have H := Lib.hid h
      have hbig' : (1048576 : Int) < (l.length : Int) := by omega
      clear h hd
      go_enter Try.func51, Try.ntmps51
      go_wp2_with fail
      go_ret
      rw [HE.out]
      exact rPost.same H.out (keepBut.refl _ _)
    · have hbig' : ¬ (1048576 : Int) < (l.length : Int) := by omega
      cases ha : d.arm with
      | some k =>
        have HE := Lib.hid (show d.swap l = (130, d.die k) by simp [DS.swap, hd, hbig, ha])
        have HA := Lib.hid ha
        have H := Lib.hid h
        clear h hd ha
        go_enter Try.func51, Try.ntmps51
        go_wp2_with (go_at_call 79; refine (failsR_yes q F d k _ H.out HA.out).mono ?_; rintro e w' ⟨rfl, hq⟩)
        go_ret
        rw [HE.out]
        exact ⟨rfl, hq⟩
      | none =>
       have HE := Lib.hid (show d.swap l = (0, { d with b := l, n := l.length, t := d.t ++ [l] }) by simp [DS.swap, hd, hbig, ha])
       have HA := Lib.hid ha
       have HR := Lib.hid h
       obtain ⟨vb, vt, T, hv⟩ := id h
       obtain ⟨A, c, g, rfl, hc1, hc2, hsn, hgm⟩ := hv.own.seen
       have hTl : T.length ≤ 1000000 := by have := hv.tr; have e : T.length = d.t.length := by rw [← this]; simp
                                           omega
       obtain ⟨A4, c4, rfl, -⟩ := hv.ownT.form
       have HH := Lib.hid (And.intro hv (And.intro hs hg))
       have HT := Lib.hid hTl
       clear h hd hv hsn hgm hs hg hTl ha
       go_enter Try.func51, Try.ntmps51
       go_upto_region 9 with (first
        | (go_at_call 79; (with_reducible refine (failsR_no q F d _ HR.out HA.out).mono ?_); rintro e w' ⟨rfl, rfl⟩)
        | (go_at_call 49; (with_reducible refine (copyBytes_any A' g' c' l _ HH.out.2.1 hb).mono ?_); rintro e w2 ⟨v, rfl, ho1, hf1, hk1⟩; obtain ⟨A2, c2', rfl, -⟩ := ho1.form; have hr2 := hk1.row HH.out.1.row (by simp); have d0 : w2.cell? ⟨q, 0, none⟩ = some (.slice A d.b.length c) := hr2.cell 0; have f0 := hr2.free 0; have d1 : w2.cell? ⟨q, 1, none⟩ = some (.int .i64 (d.n : Int)) := hr2.cell 1; have f1 := hr2.free 1; have H2 := Lib.hid (And.intro ho1 (And.intro hf1 (And.intro hk1 hr2))); clear ho1 hf1 hk1 hr2))
       have h3 := HH.out.1.newB (d' := { d with b := l, n := l.length }) (l := l) (v := .slice A2 l.length c2') H2.out.2.2.1 H2.out.1 (fun x hx => H2.out.2.1 x hx) (((keepBut.refl [q] w2).setCell ⟨q, 0, none⟩ (.slice A2 l.length c2') (by simp)).setCell ⟨q, 1, none⟩ (.int .i64 (l.length : Int)) (by simp)) ((H2.out.2.2.2.set 0 (.slice A2 l.length c2')).set 1 (.int .i64 (l.length : Int))) rfl rfl (Nat.le_refl _) (by omega) HH.out.1.arm
       have hF3 : ∀ y ∈ homes (.slice A2 l.length c2') ++ F, y ∈ F ∨ w.heap.size ≤ y := fun y hy => by
         rcases List.mem_append.1 hy with q1 | q1
         · exact .inr (H2.out.2.1 y q1)
         · exact .inl q1
       have H3 := Lib.hid (And.intro h3.1 (And.intro h3.2 hF3))
       clear h3 hF3 d0 f0 d1 f1 c2
       generalize (w2.setCell ⟨q, 0, none⟩ (.slice A2 l.length c2')).setCell ⟨q, 1, none⟩ (.int .i64 (l.length : Int)) = w3 at *
       generalize homes (.slice A2 l.length c2') ++ F = F3 at *
       have hs3 := HH.out.2.1.keep H3.out.2.1 HH.out.2.2
       have c43 : w3.cell? ⟨q, 4, none⟩ = some (.slice A4 T.length c4) := H3.out.1.row.cell 4
       have HS3 := Lib.hid hs3
       clear hs3
       obtain ⟨i1, hj0, hjz, hj1, hj2⟩ := info_parts infoSl
       go_region_law (first
         | (refine step_append _ rfl (.tmp 28) (.tmp 31) 36 rfl 28 i1 (.slice none 0 0) 1 24 Try.underlying36 hj0 hjz hj1 hj2 rfl (by decide) (.slice A4 T.length c4) T.length (T.map (·.1)) rfl ((H3.out.1.ownT.keep H7.out.2.2.1 (by simp)).alloc _) (some ⟨w7.heap.size, 0, none⟩) w7.heap.size 1 1 [.slice A7 l.length c7] rfl (reads_one w7 28 (.slice A7 l.length c7)) (by intro u hu; simp at hu; subst hu; rfl) (by have := HT.out; omega) (by have := HT.out; unfold maxLen; omega) ?_; intro A8 c8 w8 hown8 hkb8 hloc8; have hq8 : q ∉ homes (.slice A4 T.length c4) := H3.out.1.ownT.apart H3.out.1.row (by decide); have hr8 := hkb8.row (((keepBut.refl [] w7).alloc (.cells #[.slice A7 l.length c7] 28)).row H7.out.2.2.2 (by simp)) hq8; have d48 : w8.cell? ⟨q, 4, none⟩ = some (.slice A4 T.length c4) := hr8.cell 4; have f48 := hr8.free 4; have H8 := Lib.hid (And.intro hown8 (And.intro hkb8 (And.intro hloc8 hr8))); clear hown8 hkb8 hloc8 hr8)
         | (go_simp; go_at_call 49; (with_reducible refine (copyBytes_any A' g' c' l _ (HS3.out.keep ((keepBut.refl [] w3).drew) (by simp)) hb).mono ?_); rintro e w7 ⟨v7, rfl, ho7, hf7, hk7⟩; obtain ⟨A7, c7, rfl, -⟩ := ho7.form; have hk37 : keepBut [] w3 w7 := ((keepBut.refl [] w3).drew).then hk7 (by simp); have hr7 := hk37.row H3.out.1.row (by simp); have d47 : w7.cell? ⟨q, 4, none⟩ = some (.slice A4 T.length c4) := hr7.cell 4; have d47a : (w7.alloc (.cells #[.slice A7 l.length c7] 28)).cell? ⟨q, 4, none⟩ = some (.slice A4 T.length c4) := (((keepBut.refl [] w7).alloc (.cells #[.slice A7 l.length c7] 28)).row hr7 (by simp)).cell 4; have H7 := Lib.hid (And.intro ho7 (And.intro hf7 (And.intro hk37 hr7))); clear ho7 hf7 hk7 hk37 hr7))
       all_goals
         have hp := H3.out.1.pushT (v := .slice A7 l.length c7) (l := l) (o := .cells #[.slice A7 l.length c7] 28) H7.out.2.2.1 H7.out.1 (fun x hx => H7.out.2.1 x hx) H8.out.1 H8.out.2.1 H8.out.2.2.1 ((keepBut.refl [q] w8).setCell ⟨q, 4, none⟩ (.slice A8 (T.length + 1) c8) (by simp)) (H8.out.2.2.2.set 4 (.slice A8 (T.length + 1) c8))
         have HP := Lib.hid hp
         clear hp
         go_wp2_with fail
         go_ret
         rw [HE.out]
         refine ⟨rfl, _, ⟨_, _, _, HP.out.1⟩, H3.out.2.1.then HP.out.2.1 H3.out.2.2, fun y hy => ?_⟩
         rcases HP.out.2.2 y hy with q1 | q1
         · exact H3.out.2.2 y q1
         · exact .inr (Nat.le_trans H3.out.2.1.size q1)
end Go.Proofs.Ytbjonlfjfjlelaa
