/-
  OWNO: a slice that owns its cells, and may stand behind the head of its row; append onto it.
-/
import Derived.Test.YtcnlnkkdcofphaaDoorLow1
import Derived.Test.YtcnlnkkdcofphaaDoorLow3
import Derived.Deep.AppendSrc
namespace Go.Proofs.YtcnlnkkdcofphaaDoor
open Go.RowKit
set_option linter.unusedVariables false

/-- the slice v, of n elements of type e, owns the cells xs: it is nil, or stands somewhere in a row -/
def ownsO (w : World) (e : TypeId) (sz : Nat) (v : Value) (n : Nat) (xs : List Value) : Prop :=
  xs.length = n * sz ∧
  ((v = .slice none 0 0 ∧ n = 0) ∨
   ∃ g off cap cur, v = .slice (some ⟨g, off, none⟩) n cap ∧ rowAt w g e cur ∧ n ≤ cap ∧ cap ≤ maxLen ∧ off + cap * sz ≤ cur.size ∧ ∀ j, j < n * sz → cur[off + j]? = xs[j]?)

theorem owns.toO {w : World} {e : TypeId} {sz n : Nat} {v : Value} {xs : List Value} (h : owns w e sz v n xs) : ownsO w e sz v n xs := by
  refine ⟨h.1, ?_⟩
  rcases h.2 with h2 | ⟨g, cap, cur, rfl, hr, h1, h2, h3, h4⟩
  · exact .inl h2
  · refine .inr ⟨g, 0, cap, cur, rfl, hr, h1, h2, by omega, fun j hj => ?_⟩
    rw [← h4, List.getElem?_take, if_pos hj]
    simp
theorem ownsO.nil (w : World) (e : TypeId) (sz : Nat) : ownsO w e sz (.slice none 0 0) 0 [] := ⟨by simp, .inl ⟨rfl, rfl⟩⟩
theorem ownsO.keep {S : List Nat} {w w' : World} {e : TypeId} {sz n : Nat} {v : Value} {xs : List Value} (h : ownsO w e sz v n xs) (hk : keepBut S w w') (hS : ∀ x ∈ homes v, x ∉ S) : ownsO w' e sz v n xs := by
  refine ⟨h.1, ?_⟩
  rcases h.2 with h2 | ⟨g, off, cap, cur, rfl, hr, rest⟩
  · exact .inl h2
  · exact .inr ⟨g, off, cap, cur, rfl, hk.row hr (hS g (by simp [homes_some])), rest⟩
theorem ownsO.drew {w : World} {e : TypeId} {sz n : Nat} {v : Value} {xs : List Value} (h : ownsO w e sz v n xs) : ownsO w.drew e sz v n xs :=
  h.keep ((keepBut.refl [] w).drew) (by simp)
theorem ownsO.lt {w : World} {e : TypeId} {sz n : Nat} {v : Value} {xs : List Value} (h : ownsO w e sz v n xs) : ∀ x ∈ homes v, x < w.heap.size := by
  rcases h.2 with ⟨rfl, _⟩ | ⟨g, off, cap, cur, rfl, hr, _⟩
  · simp [homes_none]
  · simpa [homes_some] using hr.lt
theorem ownsO.apart {w : World} {e t : TypeId} {sz n p : Nat} {v : Value} {xs : List Value} {cs : Array Value} (h : ownsO w e sz v n xs) (hp : rowAt w p t cs) (hne : t ≠ e) : p ∉ homes v := by
  rcases h.2 with ⟨rfl, _⟩ | ⟨g, off, cap, cur, rfl, hr, _⟩
  · simp [homes_none]
  · simp only [homes_some, List.mem_singleton]
    exact hp.apart hr hne
theorem ownsO.form {w : World} {e : TypeId} {sz n : Nat} {v : Value} {xs : List Value} (h : ownsO w e sz v n xs) :
    ∃ A c, v = .slice A n c ∧ n ≤ c ∧ c ≤ maxLen ∧ (∀ x ∈ homes v, x < w.heap.size) ∧ ∀ g, (homes v = [] ∨ homes v = [g]) → reads w A g n sz xs := by
  rcases h.2 with ⟨rfl, rfl⟩ | ⟨g, off, cap, cur, rfl, hr, h1, h2, h3, h4⟩
  · exact ⟨none, 0, rfl, by omega, by simp [maxLen], by simp [homes_none], fun g _ => ⟨h.1, fun h0 => absurd h0 (by omega)⟩⟩
  · refine ⟨_, cap, rfl, h1, h2, by simpa [homes_some] using hr.lt, fun g' hg => ⟨h.1, fun h0 => ?_⟩⟩
    have hgg : g = g' := by simpa [homes_some] using hg
    subst hgg
    refine ⟨off, rfl, hr.lt, fun j u hu => ?_⟩
    have hj : j < n * sz := by rw [← h.1]; exact (List.getElem?_eq_some_iff.1 hu).1
    rw [hr.cell, h4 j hj, hu]
/-- the cells of element i -/
theorem ownsO.cell {w : World} {e : TypeId} {sz n c : Nat} {A : Option Addr} {xs : List Value} (h : ownsO w e sz (.slice A n c) n xs) (hn : 0 < n) : ∃ g off, A = some ⟨g, off, none⟩ ∧ g < w.heap.size ∧ homes (.slice A n c) = [g] ∧ ∀ j u, xs[j]? = some u → w.cell? ⟨g, off + j, none⟩ = some u := by
  rcases h.2 with ⟨h1, rfl⟩ | ⟨g, off, cap, cur, h0, hr, h1, h2, h3, h4⟩
  · omega
  · injection h0 with ha _ hc
    subst ha
    refine ⟨g, off, rfl, hr.lt, homes_some .., fun j u hu => ?_⟩
    have hj : j < n * sz := by rw [← h.1]; exact (List.getElem?_eq_some_iff.1 hu).1
    rw [hr.cell, h4 j hj, hu]

section
variable {P : Program} (w : World)
theorem run_appendO (t ty e : TypeId) (i : TypeInfo) (z : Value) (sz bytes : Nat) (ht : P.underlying t = some (.slice e)) (hi : P.info? e = some i) (hz : i.zero = some z)
    (hsize : i.size = sz) (hby : i.bytes = bytes) (hzs : z.cells.size = sz) (hsz : 0 < sz)
    (v : Value) (n : Nat) (xs : List Value) (hown : ownsO w e sz v n xs)
    (A : Option Addr) (g m c : Nat) (news : List Value) (hr : reads w A g m sz news) (h1 : ∀ u ∈ news, u.oneCell' = true) (hm : 0 < m)
    (hbytes : (n + m) * bytes ≤ 140737488355328) (hlen : n + m ≤ maxLen) :
    ∃ v' w', (Builtin.append_ #[t, t] ty #[v, .slice A m c]).run P w = .ok v' w' ∧ ownsO w' e sz v' (n + m) (xs ++ news) ∧ keepBut (homes v) w w' ∧
      (v'.ownBlock = v.ownBlock ∨ v'.ownBlock = some w.heap.size) := by
  rcases hown.2 with ⟨rfl, rfl⟩ | ⟨g', off, cap, cur, rfl, hg, hnc, hcm, hcs, hat⟩
  · have hx : xs = [] := List.eq_nil_of_length_eq_zero (by simpa using hown.1)
    subst hx
    obtain ⟨v', w', h2, h3, h4, h5⟩ := run_append (P := P) w t ty e i z sz bytes ht hi hz hsize hby hzs hsz (.slice none 0 0) 0 [] (owns.nil w e sz) A g m c news hr h1 hbytes hlen
    exact ⟨v', w', h2, h3.toO, h4, h5⟩
  · subst hsize
    subst hby
    obtain ⟨o, rfl, hlt, hc⟩ := hr.2 hm
    have hcells : ∀ j u, news[j]? = some u → w.cell? ((⟨g, o, none⟩ : Addr).add j) = some u := fun j u hu => by rw [add_plain]; exact hc j u hu
    have hall : (xs ++ news).length = (n + m) * i.size := by rw [List.length_append, hown.1, hr.1, Nat.add_mul]
    have hs : Src P i.size t (.slice (some ⟨g, o, none⟩) m c) m news w := Src.ofSlice w ht ⟨g, o, none⟩ m c news hr.1 hcells h1
    by_cases hroom : n + m ≤ cap
    · have hmul : (n + m) * i.size ≤ cap * i.size := Nat.mul_le_mul_right _ hroom
      have hfit : off + n * i.size + news.length ≤ cur.size := by rw [hr.1]; rw [Nat.add_mul] at hmul; omega
      have hrun := run_append_room_src (P := P) w t t ty e i ht hi g' off n cap (.slice (some ⟨g, o, none⟩) m c) m news hs hroom
        (fun j hj => by rw [hg.cell, Array.getElem?_eq_getElem (by omega)]; rfl) (fun j hj => hg.free _)
      refine ⟨_, _, hrun, ⟨hall, .inr ⟨g', off, cap, _, rfl, hg.setL, hroom, hcm, by rw [putL_size]; exact hcs, fun j hj => ?_⟩⟩, keepBut.setL (keepBut.refl _ w) (.inl (by simp [homes_some])), .inl rfl⟩
      rw [putL_get _ _ _ _ (by omega)]
      have hxl := hown.1
      by_cases hj2 : j < n * i.size
      · rw [if_neg (by omega), List.getElem?_append_left (by omega)]
        exact hat j hj2
      · rw [if_pos (by rw [hr.1]; rw [Nat.add_mul] at hj; omega), List.getElem?_append_right (by omega), hxl]
        congr 1
        omega
    · have hold : (Builtin.firstCells i.size n (.slice (some ⟨g', off, none⟩) n cap)).run P w.drew = .ok xs.toArray w.drew :=
        run_firstCells_some w.drew i.size n ⟨g', off, none⟩ n cap xs hown.1 (fun j u hu => by
          have hj : j < n * i.size := by rw [← hown.1]; exact (List.getElem?_eq_some_iff.1 hu).1
          rw [add_plain, World.cell?_drew, hg.cell, hat j hj, hu])
      have hrun := run_append_grow_src (P := P) w t t ty e i z ht hi hz (some ⟨g', off, none⟩) n cap xs hold (.slice (some ⟨g, o, none⟩) m c) m news hs (by omega) (by simp only [maxLen] at hlen; omega) (growslice_fits (by omega) hbytes)
      have hge := grownCap_ge w (n + m) cap e
      have hgm : grownCap w (n + m) cap e ≤ maxLen := grownCap_le_maxLen w (n + m) cap e hlen
      refine ⟨_, _, hrun, ⟨hall, .inr ⟨w.heap.size, 0, _, _, rfl, rowAt.new w.drew _ _, hge, hgm, ?_, fun j hj => ?_⟩⟩, ((keepBut.refl _ _).drew).alloc _, .inr rfl⟩
      · simp only [Array.size_append, List.size_toArray, size_zeroCells, hzs, hall, ← Nat.add_mul]
        rw [Nat.zero_add]
        exact Nat.le_of_eq (by congr 1; omega)
      · rw [Array.getElem?_append_left (by simp only [List.size_toArray]; omega), List.getElem?_toArray, Nat.zero_add]

theorem wp_appendO {ops : Array Oper} {rest : List Oper} {o : Oper} {a : Act} {Q : Exit → Act → World → Prop} (hgd : o.guard = none) (s x : Operand) (t : TypeId)
    (ho : o.op = .call { callee := .builtin .append, args := #[s, x], argTypes := #[t, t] })
    (e : TypeId) (i : TypeInfo) (z : Value) (sz bytes : Nat) (ht : P.underlying t = some (.slice e)) (hi : P.info? e = some i) (hz : i.zero = some z)
    (hsize : i.size = sz) (hby : i.bytes = bytes) (hzs : z.cells.size = sz) (hsz : 0 < sz)
    (v : Value) (n : Nat) (xs : List Value) (hs : a.eval s = v) (hown : ownsO w e sz v n xs)
    (A : Option Addr) (g m c : Nat) (news : List Value) (hx : a.eval x = .slice A m c) (hr : reads w A g m sz news) (h1 : ∀ u ∈ news, u.oneCell' = true) (hm : 0 < m)
    (hbytes : (n + m) * bytes ≤ 140737488355328) (hlen : n + m ≤ maxLen)
    (h : ∀ A' c' w', ownsO w' e sz (.slice A' (n + m) c') (n + m) (xs ++ news) → keepBut (homes v) w w' → (∀ x ∈ homes (.slice A' (n + m) c'), x ∈ homes v ∨ w.heap.size ≤ x) → wpList P ops Q rest (a.put o.dst (.slice A' (n + m) c')) w') : wpList P ops Q (o :: rest) a w :=
  wpList_plain hgd fun K hK => by
    obtain ⟨v', w', hr2, h2, h3, h4⟩ := run_appendO (P := P) w t o.type e i z sz bytes ht hi hz hsize hby hzs hsz v n xs hown A g m c news hr h1 hm hbytes hlen
    unfold Oper.wp execOp
    simp only [ho, resolve, invoke, builtin, Sem.run_bind, Sem.run_pure, Result.andThen_ok, List.map_toArray, List.map_cons, List.map_nil, hs, hx, hr2]
    obtain ⟨A', c', rfl, _⟩ := h2.form
    exact hK _ _ (h A' c' w' h2 h3 (fun x hx => (homes_after h4 hx).imp id (by omega)))

theorem step_appendO {ops : Array Oper} {o : Oper} {a : Act} {K : Act → World → Prop} {Q : Exit → Act → World → Prop} {E : Prop} (hgd : o.guard = none) (s x : Operand) (t : TypeId)
    (ho : o.op = .call { callee := .builtin .append, args := #[s, x], argTypes := #[t, t] })
    (e : TypeId) (i : TypeInfo) (z : Value) (sz bytes : Nat) (ht : P.underlying t = some (.slice e)) (hi : P.info? e = some i) (hz : i.zero = some z)
    (hsize : i.size = sz) (hby : i.bytes = bytes) (hzs : z.cells.size = sz) (hsz : 0 < sz)
    (v : Value) (n : Nat) (xs : List Value) (hs : a.eval s = v) (hown : ownsO w e sz v n xs)
    (A : Option Addr) (g m c : Nat) (news : List Value) (hx : a.eval x = .slice A m c) (hr : reads w A g m sz news) (h1 : ∀ u ∈ news, u.oneCell' = true) (hm : 0 < m)
    (hbytes : (n + m) * bytes ≤ 140737488355328) (hlen : n + m ≤ maxLen)
    (h : ∀ A' c' w', ownsO w' e sz (.slice A' (n + m) c') (n + m) (xs ++ news) → keepBut (homes v) w w' → (∀ x ∈ homes (.slice A' (n + m) c'), x ∈ homes v ∨ w.heap.size ≤ x) → K (a.put o.dst (.slice A' (n + m) c')) w') :
    if Region.wanted o (yielded ops a.tmps) = true then Oper.wp P o a w K Q else E := by
  have hw : Region.wanted o (yielded ops a.tmps) = true := by simp [Region.wanted, hgd]
  rw [if_pos hw]
  obtain ⟨v', w', hr2, h2, h3, h4⟩ := run_appendO (P := P) w t o.type e i z sz bytes ht hi hz hsize hby hzs hsz v n xs hown A g m c news hr h1 hm hbytes hlen
  unfold Oper.wp execOp
  simp only [ho, resolve, invoke, builtin, Sem.run_bind, Sem.run_pure, Result.andThen_ok, List.map_toArray, List.map_cons, List.map_nil, hs, hx, hr2]
  obtain ⟨A', c', rfl, _⟩ := h2.form
  exact h A' c' w' h2 h3 (fun x hx => (homes_after h4 hx).imp id (by omega))
end
end Go.Proofs.YtcnlnkkdcofphaaDoor
