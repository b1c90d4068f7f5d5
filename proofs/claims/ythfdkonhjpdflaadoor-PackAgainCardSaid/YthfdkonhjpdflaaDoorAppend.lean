/-
  APPEND: onto a row of the call's own, whatever the source is; where the new row lies.
-/
import Derived.Test.YthfdkonhjpdflaaDoorBase
import Derived.OwnWalk
import Derived.RegionTactic
import Derived.Deep.RegionLaw
namespace Go.Proofs.YthfdkonhjpdflaaDoor
open Go.RowKit
set_option linter.unusedVariables false

/-- the slice at A reads as n elements of sz cells, the cells xs, and lies in block g (if there are any) -/
def reads (w : World) (A : Option Addr) (g n sz : Nat) (xs : List Value) : Prop :=
  xs.length = n * sz ∧ (0 < n → ∃ o, A = some ⟨g, o, none⟩ ∧ g < w.heap.size ∧ ∀ j u, xs[j]? = some u → w.cell? ⟨g, o + j, none⟩ = some u)

theorem seen.reads {w : World} {A : Option Addr} {g : Nat} {l : List UInt8} (h : seen w A g l) : reads w A g l.length 1 (l.map bv) := by
  refine ⟨by simp, fun hn => ?_⟩
  obtain ⟨o, hA, hlt, hc⟩ := h (by rintro rfl; simp at hn)
  refine ⟨o, hA, hlt, fun j u hu => ?_⟩
  rw [List.getElem?_map] at hu
  cases hb : l[j]? with
  | none => rw [hb] at hu; cases hu
  | some b => rw [hb] at hu; simp at hu; subst hu; exact hc j b hb

/-- the block of a slice, as a list -/
def homes (v : Value) : List Nat := v.ownBlock.toList

theorem homes_none (n c : Nat) : homes (.slice none n c) = [] := rfl
theorem homes_some (g o n c : Nat) : homes (.slice (some ⟨g, o, none⟩) n c) = [g] := rfl

theorem homes_after {v v' : Value} {k x : Nat} (h : v'.ownBlock = v.ownBlock ∨ v'.ownBlock = some k) (hx : x ∈ homes v') : x ∈ homes v ∨ x = k := by
  unfold homes at hx ⊢
  rcases h with h | h
  · rw [h] at hx; exact .inl hx
  · rw [h] at hx; simp at hx; exact .inr hx

/-- the slice v, of n elements of type e, owns the cells xs: it is nil, or stands at the head of a row -/
def owns (w : World) (e : TypeId) (sz : Nat) (v : Value) (n : Nat) (xs : List Value) : Prop :=
  xs.length = n * sz ∧
  ((v = .slice none 0 0 ∧ n = 0) ∨
   ∃ g cap cur, v = .slice (some ⟨g, 0, none⟩) n cap ∧ rowAt w g e cur ∧ n ≤ cap ∧ cap ≤ maxLen ∧ cur.size = cap * sz ∧ cur.toList.take (n * sz) = xs)

theorem owns.nil (w : World) (e : TypeId) (sz : Nat) : owns w e sz (.slice none 0 0) 0 [] := ⟨by simp, .inl ⟨rfl, rfl⟩⟩
theorem owns.keep {S : List Nat} {w w' : World} {e : TypeId} {sz n : Nat} {v : Value} {xs : List Value} (h : owns w e sz v n xs) (hk : keepBut S w w') (hS : ∀ x ∈ homes v, x ∉ S) : owns w' e sz v n xs := by
  refine ⟨h.1, ?_⟩
  rcases h.2 with h2 | ⟨g, cap, cur, rfl, hr, rest⟩
  · exact .inl h2
  · exact .inr ⟨g, cap, cur, rfl, hk.row hr (hS g (by simp [homes_some])), rest⟩
theorem owns.form {w : World} {e : TypeId} {sz n : Nat} {v : Value} {xs : List Value} (h : owns w e sz v n xs) :
    ∃ A c, v = .slice A n c ∧ n ≤ c ∧ c ≤ maxLen ∧ (∀ x ∈ homes v, x < w.heap.size) ∧ ∀ g, (homes v = [] ∨ homes v = [g]) → reads w A g n sz xs := by
  rcases h.2 with ⟨rfl, rfl⟩ | ⟨g, cap, cur, rfl, hr, h1, h2, h3, h4⟩
  · exact ⟨none, 0, rfl, by omega, by simp [maxLen], by simp [homes_none], fun g _ => ⟨h.1, fun h0 => absurd h0 (by omega)⟩⟩
  · refine ⟨_, cap, rfl, h1, h2, by simpa [homes_some] using hr.lt, fun g' hg => ⟨h.1, fun h0 => ?_⟩⟩
    have hgg : g = g' := by simpa [homes_some] using hg
    subst hgg
    refine ⟨0, rfl, hr.lt, fun j u hu => ?_⟩
    rw [hr.cell]
    rw [← h4, List.getElem?_take] at hu
    split at hu
    · simpa using hu
    · cases hu

section
variable {P : Program} (w : World)

theorem append_none (t ty e : TypeId) (i : TypeInfo) (ht : P.underlying t = some (.slice e)) (hi : P.info? e = some i)
    (v : Value) (n sz : Nat) (xs : List Value) (hown : owns w e sz v n xs) (A : Option Addr) (c : Nat) (hA : A = none ∨ n = 0 ∨ True) :
    (Builtin.append_ #[t, t] ty #[v, .slice A 0 c]).run P w = .ok v w := by
  rcases hown.2 with ⟨rfl, rfl⟩ | ⟨g, cap, cur, rfl, _, hnc, _⟩
  · cases A <;> simp [Builtin.append_, run_underlying ht, sizeOf, typeInfo, hi, Builtin.lenOf, Builtin.firstCells, loadCells, loadCellsFrom]
  · cases A <;> simp [Builtin.append_, run_underlying ht, sizeOf, typeInfo, hi, Builtin.lenOf, Builtin.firstCells, hnc, storeCells, loadCells, loadCellsFrom]

theorem run_append (t ty e : TypeId) (i : TypeInfo) (z : Value) (sz bytes : Nat) (ht : P.underlying t = some (.slice e)) (hi : P.info? e = some i) (hz : i.zero = some z)
    (hsize : i.size = sz) (hby : i.bytes = bytes) (hzs : z.cells.size = sz) (hsz : 0 < sz)
    (v : Value) (n : Nat) (xs : List Value) (hown : owns w e sz v n xs)
    (A : Option Addr) (g m c : Nat) (news : List Value) (hr : reads w A g m sz news) (h1 : ∀ u ∈ news, u.oneCell' = true)
    (hbytes : (n + m) * bytes ≤ 140737488355328) (hlen : n + m ≤ maxLen) :
    ∃ v' w', (Builtin.append_ #[t, t] ty #[v, .slice A m c]).run P w = .ok v' w' ∧ owns w' e sz v' (n + m) (xs ++ news) ∧ keepBut (homes v) w w' ∧
      (v'.ownBlock = v.ownBlock ∨ v'.ownBlock = some w.heap.size) := by
  subst hsize
  subst hby
  have h63 : n + m ≤ maxLen := hlen
  have hall : (xs ++ news).length = (n + m) * i.size := by rw [List.length_append, hown.1, hr.1, Nat.add_mul]
  rcases Nat.eq_zero_or_pos m with hm | hm
  · subst hm
    have hn : news = [] := List.eq_nil_of_length_eq_zero (by simpa using hr.1)
    subst hn
    exact ⟨v, w, append_none w t ty e i ht hi v n i.size xs hown A c (.inr (.inr trivial)), by simpa using hown, keepBut.refl _ _, .inl rfl⟩
  · obtain ⟨o, rfl, hlt, hc⟩ := hr.2 hm
    have hcells : ∀ j u, news[j]? = some u → w.cell? ((⟨g, o, none⟩ : Addr).add j) = some u := fun j u hu => by rw [add_plain]; exact hc j u hu
    have fresh : ∀ (old : Nat), old < n + m →
        owns (w.drew.alloc (.cells (xs.toArray ++ news.toArray ++ Builtin.zeroCells z.cells (grownCap w (n + m) old e - (n + m))) e)) e i.size
          (.slice (some ⟨w.heap.size, 0, none⟩) (n + m) (grownCap w (n + m) old e)) (n + m) (xs ++ news) ∧
        keepBut (homes v) w (w.drew.alloc (.cells (xs.toArray ++ news.toArray ++ Builtin.zeroCells z.cells (grownCap w (n + m) old e - (n + m))) e)) := by
      intro old ho
      have hge := grownCap_ge w (n + m) old e
      have hcm : grownCap w (n + m) old e ≤ maxLen := grownCap_le_maxLen w (n + m) old e h63
      refine ⟨⟨hall, .inr ⟨w.heap.size, _, _, rfl, rowAt.new w.drew _ _, hge, hcm, ?_, ?_⟩⟩, ((keepBut.refl _ _).drew).alloc _⟩
      · simp only [Array.size_append, List.size_toArray, size_zeroCells, hzs, hown.1, hr.1, ← Nat.add_mul]
        congr 1
        omega
      · simp only [Array.toList_append, List.append_assoc]
        rw [← List.append_assoc, ← hall]
        exact List.take_left
    rcases hown.2 with ⟨rfl, rfl⟩ | ⟨g', cap, cur, rfl, hg, hnc, hcm, hcs, htake⟩
    · have hx : xs = [] := List.eq_nil_of_length_eq_zero (by simpa using hown.1)
      subst hx
      have hrun := run_append_nil (P := P) w t ty e i z ht hi hz ⟨g, o, none⟩ m c news hr.1 hcells hm (by simp only [maxLen] at h63; omega) (by have h := hbytes; rw [Nat.zero_add] at h; omega)
      have hf := fresh 0 (by omega)
      simp only [Nat.zero_add, List.nil_append, Array.empty_append] at hf ⊢
      exact ⟨_, _, hrun, hf.1, hf.2, .inr rfl⟩
    · by_cases hroom : n + m ≤ cap
      · have hfit : n * i.size + news.length ≤ cur.size := by rw [hr.1, hcs, ← Nat.add_mul]; exact Nat.mul_le_mul_right _ hroom
        have hrun := run_append_room (P := P) w t ty e i ht hi g' n cap cur hg ⟨g, o, none⟩ m c news hr.1 hcells h1 hroom hfit
        refine ⟨_, _, hrun, ⟨hall, .inr ⟨g', cap, _, rfl, setRow_heap w g' cur _ e _ hg, hroom, hcm, ?_, ?_⟩⟩, ⟨rfl, rfl, rfl, by simp, fun k hk hS => setRow_other w g' k _ (fun e => hS (by simp [homes_some, e]))⟩, .inl rfl⟩
        · simp only [List.size_toArray, List.length_append, List.length_take, List.length_drop, Array.length_toList]
          omega
        · rw [htake, ← hall]
          exact List.take_left
      · have holds : ∀ j u, xs[j]? = some u → w.cell? ((⟨g', 0, none⟩ : Addr).add j) = some u := by
          intro j u hu
          rw [add_plain, Nat.zero_add, rowAt.cell hg]
          rw [← htake, List.getElem?_take] at hu
          split at hu
          · simpa using hu
          · cases hu
        have hrun := run_append_grow (P := P) w t ty e i z ht hi hz ⟨g', 0, none⟩ n cap xs hown.1 holds ⟨g, o, none⟩ m c news hr.1 hcells (by omega) (by simp only [maxLen] at h63; omega) (growslice_fits (by omega) hbytes)
        have hf := fresh cap (by omega)
        exact ⟨_, _, hrun, hf.1, hf.2, .inr rfl⟩

theorem wp_append {ops : Array Oper} {rest : List Oper} {o : Oper} {a : Act} {Q : Exit → Act → World → Prop} (hgd : o.guard = none) (s x : Operand) (t : TypeId)
    (ho : o.op = .call { callee := .builtin .append, args := #[s, x], argTypes := #[t, t] })
    (e : TypeId) (i : TypeInfo) (z : Value) (sz bytes : Nat) (ht : P.underlying t = some (.slice e)) (hi : P.info? e = some i) (hz : i.zero = some z)
    (hsize : i.size = sz) (hby : i.bytes = bytes) (hzs : z.cells.size = sz) (hsz : 0 < sz)
    (v : Value) (n : Nat) (xs : List Value) (hs : a.eval s = v) (hown : owns w e sz v n xs)
    (A : Option Addr) (g m c : Nat) (news : List Value) (hx : a.eval x = .slice A m c) (hr : reads w A g m sz news) (h1 : ∀ u ∈ news, u.oneCell' = true)
    (hbytes : (n + m) * bytes ≤ 140737488355328) (hlen : n + m ≤ maxLen)
    (h : ∀ A' c' w', owns w' e sz (.slice A' (n + m) c') (n + m) (xs ++ news) → keepBut (homes v) w w' → (∀ x ∈ homes (.slice A' (n + m) c'), x ∈ homes v ∨ w.heap.size ≤ x) → wpList P ops Q rest (a.put o.dst (.slice A' (n + m) c')) w') : wpList P ops Q (o :: rest) a w :=
  wpList_plain hgd fun K hK => by
    obtain ⟨v', w', hr2, h2, h3, h4⟩ := run_append (P := P) w t o.type e i z sz bytes ht hi hz hsize hby hzs hsz v n xs hown A g m c news hr h1 hbytes hlen
    unfold Oper.wp execOp
    simp only [ho, resolve, invoke, builtin, Sem.run_bind, Sem.run_pure, Result.andThen_ok, List.map_toArray, List.map_cons, List.map_nil, hs, hx, hr2]
    obtain ⟨A', c', rfl, _⟩ := h2.form
    exact hK _ _ (h A' c' w' h2 h3 (fun x hx => (homes_after h4 hx).imp id (by omega)))

theorem step_append {ops : Array Oper} {o : Oper} {a : Act} {K : Act → World → Prop} {Q : Exit → Act → World → Prop} {E : Prop} (hgd : o.guard = none) (s x : Operand) (t : TypeId)
    (ho : o.op = .call { callee := .builtin .append, args := #[s, x], argTypes := #[t, t] })
    (e : TypeId) (i : TypeInfo) (z : Value) (sz bytes : Nat) (ht : P.underlying t = some (.slice e)) (hi : P.info? e = some i) (hz : i.zero = some z)
    (hsize : i.size = sz) (hby : i.bytes = bytes) (hzs : z.cells.size = sz) (hsz : 0 < sz)
    (v : Value) (n : Nat) (xs : List Value) (hs : a.eval s = v) (hown : owns w e sz v n xs)
    (A : Option Addr) (g m c : Nat) (news : List Value) (hx : a.eval x = .slice A m c) (hr : reads w A g m sz news) (h1 : ∀ u ∈ news, u.oneCell' = true)
    (hbytes : (n + m) * bytes ≤ 140737488355328) (hlen : n + m ≤ maxLen)
    (h : ∀ A' c' w', owns w' e sz (.slice A' (n + m) c') (n + m) (xs ++ news) → keepBut (homes v) w w' → (∀ x ∈ homes (.slice A' (n + m) c'), x ∈ homes v ∨ w.heap.size ≤ x) → K (a.put o.dst (.slice A' (n + m) c')) w') :
    if Region.wanted o (yielded ops a.tmps) = true then Oper.wp P o a w K Q else E := by
  have hw : Region.wanted o (yielded ops a.tmps) = true := by simp [Region.wanted, hgd]
  rw [if_pos hw]
  obtain ⟨v', w', hr2, h2, h3, h4⟩ := run_append (P := P) w t o.type e i z sz bytes ht hi hz hsize hby hzs hsz v n xs hown A g m c news hr h1 hbytes hlen
  unfold Oper.wp execOp
  simp only [ho, resolve, invoke, builtin, Sem.run_bind, Sem.run_pure, Result.andThen_ok, List.map_toArray, List.map_cons, List.map_nil, hs, hx, hr2]
  obtain ⟨A', c', rfl, _⟩ := h2.form
  exact h A' c' w' h2 h3 (fun x hx => (homes_after h4 hx).imp id (by omega))
end
theorem reads_one (w : World) (e : TypeId) (u : Value) : reads (w.alloc (.cells #[u] e)) (some ⟨w.heap.size, 0, none⟩) w.heap.size 1 1 [u] := by
  refine ⟨rfl, fun _ => ⟨0, rfl, by simp, fun j x hx => ?_⟩⟩
  rw [(rowAt.new w e #[u]).cell]
  match j, hx with
  | 0, hx => simpa using hx
theorem owns.alloc {w : World} {e : TypeId} {sz n : Nat} {v : Value} {xs : List Value} (h : owns w e sz v n xs) (o : Obj) : owns (w.alloc o) e sz v n xs :=
  h.keep ((keepBut.refl [] w).alloc o) (by simp)
theorem owns.drew {w : World} {e : TypeId} {sz n : Nat} {v : Value} {xs : List Value} (h : owns w e sz v n xs) : owns w.drew e sz v n xs :=
  h.keep ((keepBut.refl [] w).drew) (by simp)
theorem owns.apart {w : World} {e t : TypeId} {sz n p : Nat} {v : Value} {xs : List Value} {cs : Array Value} (h : owns w e sz v n xs) (hp : rowAt w p t cs) (hne : t ≠ e) : p ∉ homes v := by
  rcases h.2 with ⟨rfl, _⟩ | ⟨g, cap, cur, rfl, hr, _⟩
  · simp [homes_none]
  · simp only [homes_some, List.mem_singleton]
    exact hp.apart hr hne
theorem owns.lt {w : World} {e : TypeId} {sz n : Nat} {v : Value} {xs : List Value} (h : owns w e sz v n xs) : ∀ x ∈ homes v, x < w.heap.size := by
  obtain ⟨_, _, _, _, _, h5, _⟩ := h.form; exact h5
end Go.Proofs.YthfdkonhjpdflaaDoor
