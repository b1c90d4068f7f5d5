/-
  TABLE, 27: New, the acts, Names.
-/
import Derived.Test.YtmlmhnhilemjhaaDoorTB26
namespace Go.Proofs.YtmlmhnhilemjhaaDoor
open Go.RowKit
set_option linter.unusedVariables false
set_option maxRecDepth 100000
set_option linter.unusedSimpArgs false

def sNew : TS := ⟨0, [], [], nilV, nilV, nilV, nilV, []⟩
theorem sNew_pure : sNew.pure = ⟨0, [], []⟩ := rfl
theorem isT_new {w : World} {p : Nat} (h : rowAt w p 67 #[.int .i64 0, ordN, nilV, nilV, ordI, nilV, nilV]) : isT w p sNew :=
  ⟨h, owns.nil _ _ _, owns.nil _ _ _, owns.nil _ _ _, owns.nil _ _ _, by simp [sNew, TS.names], by simp [sNew, TS.keys], by simp [sNew, TS.names], by simp [sNew, TS.keys], by simp [sNew, TS.names], by simp [sNew, TS.keys], by simp [sNew], by simp [sNew], by simp [sNew], by simp [sNew], by simp [sNew], by simp [sNew]⟩
set_option maxHeartbeats 2000000 in
theorem new_any (w : World) :
    Calls Tryd.prog 7 #[] w fun e w' => e = .returned (.pointer (some ⟨w.heap.size, 0, none⟩)) ∧ isT w' w.heap.size sNew ∧ keepBut [] w w' := by
  go_enter Tryd.func7, Tryd.ntmps7
  go_wp2
  go_ret
  exact ⟨rfl, isT_new (rowAt.new _ _ _), (keepBut.refl [] w).alloc _⟩
theorem acts_any (w : World) :
    Calls Tryd.prog 29 #[] w fun e w' => e = .returned (.slice (some ⟨w.heap.size, 0, none⟩) 4 4) ∧ keepBut [] w w' ∧
      rowAt w' w.heap.size 82 #[.int .i64 1, .func (.func 52) #[] #[], .int .i64 2, .func (.func 53) #[] #[], .int .i64 3, .func (.func 54) #[] #[], .int .i64 4, .func (.func 55) #[] #[]] := by
  go_enter Tryd.func29, Tryd.ntmps29
  go_wp2
  go_ret
  exact ⟨rfl, (keepBut.refl [] w).alloc _, rowAt.new _ _ _⟩
theorem infoNameN : (Tryd.prog.info? 28).map (fun i => (i.size, i.bytes)) = some (32, 32) := by kernel_rfl
set_option maxHeartbeats 2000000 in
theorem cloneN_any (v : Value) (ns : List (List UInt8)) (hl : ∀ n ∈ ns, n.length = 32) (hsz : ns.length ≤ 100) (w : World) (h : owns w 28 32 v ns.length (flatN ns)) :
    Calls Tryd.prog 39 #[v] w fun e w' => ∃ v', e = .returned v' ∧ owns w' 28 32 v' ns.length (flatN ns) ∧ (∀ y ∈ homes v', w.heap.size ≤ y) ∧ keepBut [] w w' := by
  obtain ⟨i0, hi0, he⟩ := Option.map_eq_some_iff.1 infoNameN
  injection he with hz1 hz2
  have hz := zv_nm
  rw [hi0] at hz
  have hz0 : i0.zero = some (.agg (nameL nameZ).toArray) := hz
  rcases h.2 with ⟨rfl, h0⟩ | ⟨g, cap, cur, rfl, hr, _⟩
  · obtain rfl : ns = [] := List.eq_nil_of_length_eq_zero h0
    have hq := run_eql_sb (P := Tryd.prog) w Tryd.underlying47 none 0 0
    simp only [Option.isNone_none] at hq
    go_enter Tryd.func39, Tryd.ntmps39
    go_wp2
    go_ret
    exact ⟨_, rfl, owns.nil _ _ _, by simp [homes_none], keepBut.refl _ _⟩
  · obtain ⟨A, c, he', _, _, _, hrd⟩ := (h.keep ((keepBut.refl [] w).alloc (.cells #[] 28)) (by simp)).form
    injection he' with h1 h2 h3
    subst h1
    subst h3
    have h7 : reads (w.alloc (.cells #[] 28)) (some ⟨g, 0, none⟩) g ns.length 32 (flatN ns) := hrd g (by simp [homes_some])
    have ho : owns (w.alloc (.cells #[] 28)) 28 32 (.slice (some ⟨w.heap.size, 0, none⟩) 0 0) 0 [] := ⟨rfl, .inr ⟨w.heap.size, 0, #[], rfl, rowAt.new _ _ _, by omega, by simp [maxLen], rfl, rfl⟩⟩
    have H := Lib.hid (And.intro h7 (And.intro ho ((keepBut.refl [] w).alloc (.cells #[] 28))))
    have hq := run_eql_sb (P := Tryd.prog) w Tryd.underlying47 (some ⟨g, 0, none⟩) ns.length cap
    simp only [Option.isNone_some] at hq
    have HZ := Lib.hid (And.intro hz0 (And.intro hz1 (And.intro hz2 hi0)))
    clear h7 ho h hr hrd hz hz0 hz1 hz2 hi0
    go_enter Tryd.func39, Tryd.ntmps39
    go_wp2_with (at_builtin; refine wp_append _ rfl _ _ 47 rfl 28 i0 (.agg (nameL nameZ).toArray) 32 32 Tryd.underlying47 HZ.out.2.2.2 HZ.out.1 HZ.out.2.1 HZ.out.2.2.1 (by show (nameL nameZ).toArray.size = 32; rw [List.size_toArray, nameL_len, nameZ_len]) (by decide) (.slice (some ⟨w.heap.size, 0, none⟩) 0 0) 0 [] rfl H.out.2.1 (some ⟨g, 0, none⟩) g ns.length cap _ (by simp [Act.eval]) H.out.1 names_one (by omega) (by simp only [maxLen]; omega) ?_; intro A' c' w2 hown2 hkb2 hloc2)
    go_ret
    have hkk := H.out.2.2.then hkb2 (by simp [homes_some])
    simp only [Nat.zero_add, List.nil_append] at hown2 hloc2 ⊢
    refine ⟨_, rfl, hown2, fun y hy => ?_, hkk⟩
    rcases hloc2 y hy with h | h
    · simp [homes_some] at h; omega
    · simp at h; omega
set_option maxHeartbeats 2000000 in
theorem names_any (p : Nat) (s : TS) (w : World) (h : isT w p s) :
    Calls Tryd.prog 14 #[.pointer (some ⟨p, 0, none⟩)] w fun e w' => ∃ v', e = .returned v' ∧ owns w' 28 32 v' s.names.length (flatN s.names) ∧ (∀ y ∈ homes v', w.heap.size ≤ y) ∧ keepBut [] w w' := by
  have hy : w.cell? ⟨p, 2, none⟩ = some s.kv := h.row.cell 2
  have H := Lib.hid h
  obtain ⟨A, c, he, _⟩ := h.kown.form
  have hk := h.kown
  have hs := h.small
  have hn := h.names
  rw [he] at hk hy
  have HE := Lib.hid (cloneN_any _ s.names hn hs w hk)
  clear h hk hs hn he
  go_enter Tryd.func14, Tryd.ntmps14
  go_wp2_with (first
    | (go_at_call 23; refine (none_no p s _ H.out).mono ?_; rintro e w' ⟨rfl, rfl⟩)
    | (go_at_call 39; refine HE.out.mono ?_; rintro e w' ⟨v', rfl, n⟩; have N := Lib.hid n; clear n; obtain ⟨A2, c2, he2, _⟩ := N.out.1.form; subst he2))
  go_ret
  exact ⟨_, rfl, N.out⟩
end Go.Proofs.YtmlmhnhilemjhaaDoor
