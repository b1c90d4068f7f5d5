/-
  SP1: SPlay1, SPlay2, SPlay3, SPlay4, SPlay5, SPlay6, joined.
-/
import Derived.Test.YtkpmlcgbffdloaaDoorSess23
import Derived.Deep.CutBlock
import Derived.Deep.DeepCutAuto
section
namespace Go.Proofs.YtkpmlcgbffdloaaDoor
open Go.RowKit
set_option linter.unusedVariables false
set_option maxRecDepth 100000
set_option linter.unusedSimpArgs false

def msHead (s : SS) (cv : Value) : List Value := [.int .i64 s.client, .int .i64 s.next, .int .i64 s.limit, .int .i64 s.most, .int .i64 s.conf.num, .int .i64 s.conf.full, cv]
def msTail (s : SS) : List Value := [.bool s.waits, .bool s.sent, .bool s.late, .int .i64 s.ticks, .int .i64 s.last]
def msL (s : SS) (cv ev : Value) : List Value := msHead s cv ++ (rqL s.req ev ++ msTail s)
/-- block p is the document's session -/
structure isM (w : World) (p : Nat) (s : SS) (cv ev : Value) (F : List Nat) : Prop where
  row : rowAt w p 72 (msL s cv ev).toArray
  nm : s.req.name.length = 32
  env : bytesV w F ev s.req.env
  chain : intsV w F cv s.conf.chain
  far : ∀ y ∈ F, y < w.heap.size ∧ y ≠ p
theorem msL_len (s : SS) {cv ev : Value} (h : s.req.name.length = 32) : (msL s cv ev).length = 49 := by
  have e1 : (rqL s.req ev).length = 37 := rqL_len h
  unfold msL
  simp only [List.length_append, e1]
  rfl
theorem msL_tail_at (s : SS) {cv ev : Value} (h : s.req.name.length = 32) (j : Nat) : (msL s cv ev)[44 + j]? = (msTail s)[j]? := by
  have e1 : (rqL s.req ev).length = 37 := rqL_len h
  have e2 : (msHead s cv).length = 7 := rfl
  unfold msL
  rw [List.getElem?_append_right (by omega), e2, List.getElem?_append_right (by omega), e1]
  congr 1
  omega
theorem msL_tail_set (s : SS) {cv ev : Value} (h : s.req.name.length = 32) (j : Nat) (u : Value) : (msL s cv ev).set (44 + j) u = msHead s cv ++ (rqL s.req ev ++ (msTail s).set j u) := by
  have e1 : (rqL s.req ev).length = 37 := rqL_len h
  have e2 : (msHead s cv).length = 7 := rfl
  unfold msL
  rw [List.set_append_right _ _ (by omega), e2, List.set_append_right _ _ (by omega), e1]
  congr 3
  omega
section
variable {w w' : World} {p : Nat} {s : SS} {cv ev : Value} {F : List Nat}
theorem isM.keep {S : List Nat} (h : isM w p s cv ev F) (hk : keepBut S w w') (hp : p ∉ S) (hF : ∀ y ∈ F, y ∉ S) : isM w' p s cv ev F :=
  ⟨hk.row h.row hp, h.nm, h.env.keep hk hF, h.chain.keep hk hF, fun y hy => ⟨Nat.lt_of_lt_of_le (h.far y hy).1 hk.size, (h.far y hy).2⟩⟩
theorem isM.over (h : isM w p s cv ev F) (hk : keepBut [] w w') : isM w' p s cv ev F := h.keep hk (by simp) (by simp)
theorem isM.cells (h : isM w p s cv ev F) : w.cell? ⟨p, 0, none⟩ = some (.int .i64 s.client) ∧ w.cell? ⟨p, 1, none⟩ = some (.int .i64 s.next) ∧ w.cell? ⟨p, 2, none⟩ = some (.int .i64 s.limit) ∧ w.cell? ⟨p, 3, none⟩ = some (.int .i64 s.most) ∧ w.cell? ⟨p, 4, none⟩ = some (.int .i64 s.conf.num)
    ∧ w.cell? ⟨p, 5, none⟩ = some (.int .i64 s.conf.full) ∧ w.cell? ⟨p, 6, none⟩ = some cv ∧ w.cell? ⟨p, 44, none⟩ = some (.bool s.waits) ∧ w.cell? ⟨p, 45, none⟩ = some (.bool s.sent) ∧ w.cell? ⟨p, 46, none⟩ = some (.bool s.late) ∧ w.cell? ⟨p, 47, none⟩ = some (.int .i64 s.ticks) ∧ w.cell? ⟨p, 48, none⟩ = some (.int .i64 s.last) := by
  have hc := h.row.cell
  simp only [List.getElem?_toArray] at hc
  have ht := fun j => (hc (44 + j)).trans (msL_tail_at (cv := cv) (ev := ev) s h.nm j)
  exact ⟨hc 0, hc 1, hc 2, hc 3, hc 4, hc 5, hc 6, ht 0, ht 1, ht 2, ht 3, ht 4⟩
theorem isM.poke (h : isM w p s cv ev F) {s' : SS} (i : Nat) (u : Value) (hs : (msL s cv ev).set i u = msL s' cv ev) (hr : s'.req = s.req) (hc : s'.conf = s.conf) : isM (w.setCell ⟨p, i, none⟩ u) p s' cv ev F ∧ keepBut [p] w (w.setCell ⟨p, i, none⟩ u) := by
  have hk : keepBut [p] w (w.setCell ⟨p, i, none⟩ u) := (keepBut.refl _ _).setCell _ _ (.inl (by simp))
  have r := h.row.set i u
  have e : (msL s cv ev).toArray.setIfInBounds i u = (msL s' cv ev).toArray := by rw [← hs]; simp
  rw [e] at r
  have hF : ∀ y ∈ F, y ∉ [p] := fun y hy => by simpa using (h.far y hy).2
  exact ⟨⟨r, by rw [hr]; exact h.nm, by rw [hr]; exact h.env.keep hk hF, by rw [hc]; exact h.chain.keep hk hF, fun y hy => ⟨Nat.lt_of_lt_of_le (h.far y hy).1 hk.size, (h.far y hy).2⟩⟩, hk⟩
theorem isM.next (h : isM w p s cv ev F) (n : Int) : isM (w.setCell ⟨p, 1, none⟩ (.int .i64 n)) p (s.setNext n) cv ev F ∧ keepBut [p] w (w.setCell ⟨p, 1, none⟩ (.int .i64 n)) := h.poke 1 _ rfl rfl rfl
theorem isM.waits (h : isM w p s cv ev F) (b : Bool) : isM (w.setCell ⟨p, 44, none⟩ (.bool b)) p (s.setWaits b) cv ev F ∧ keepBut [p] w (w.setCell ⟨p, 44, none⟩ (.bool b)) := h.poke 44 _ (msL_tail_set s h.nm 0 _) rfl rfl
theorem isM.sent (h : isM w p s cv ev F) (b : Bool) : isM (w.setCell ⟨p, 45, none⟩ (.bool b)) p (s.setSent b) cv ev F ∧ keepBut [p] w (w.setCell ⟨p, 45, none⟩ (.bool b)) := h.poke 45 _ (msL_tail_set s h.nm 1 _) rfl rfl
theorem isM.late (h : isM w p s cv ev F) (b : Bool) : isM (w.setCell ⟨p, 46, none⟩ (.bool b)) p (s.setLate b) cv ev F ∧ keepBut [p] w (w.setCell ⟨p, 46, none⟩ (.bool b)) := h.poke 46 _ (msL_tail_set s h.nm 2 _) rfl rfl
theorem isM.ticks (h : isM w p s cv ev F) (n : Int) : isM (w.setCell ⟨p, 47, none⟩ (.int .i64 n)) p (s.setTicks n) cv ev F ∧ keepBut [p] w (w.setCell ⟨p, 47, none⟩ (.int .i64 n)) := h.poke 47 _ (msL_tail_set s h.nm 3 _) rfl rfl
theorem isM.last (h : isM w p s cv ev F) (n : Int) : isM (w.setCell ⟨p, 48, none⟩ (.int .i64 n)) p (s.setLast n) cv ev F ∧ keepBut [p] w (w.setCell ⟨p, 48, none⟩ (.int .i64 n)) := h.poke 48 _ (msL_tail_set s h.nm 4 _) rfl rfl
theorem isM.req (h : isM w p s cv ev F) {r : RQ} {ev' : Value} {G : List Nat} (hr : rqV w G r ev') (hG : ∀ y ∈ G, y < w.heap.size ∧ y ≠ p) : isM (w.setCells p 7 (rqL r ev')) p (s.setReq r) cv ev' (F ++ G) ∧ keepBut [p] w (w.setCells p 7 (rqL r ev')) := by
  have hk : keepBut [p] w (w.setCells p 7 (rqL r ev')) := (keepBut.refl _ _).setL (.inl (by simp))
  have rr := h.row.setL (vs := rqL r ev') (o := 7)
  have e1 : (rqL s.req ev).length = (rqL r ev').length := by rw [rqL_len h.nm, rqL_len hr.1]
  have e2 : putL (msL s cv ev).toArray 7 (rqL r ev') = (msL (s.setReq r) cv ev').toArray := putL_mid (msHead s cv) (rqL s.req ev) (rqL r ev') (msTail s) e1
  rw [e2] at rr
  have hF : ∀ y ∈ F, y ∉ [p] := fun y hy => by simpa using (h.far y hy).2
  have hGp : ∀ y ∈ G, y ∉ [p] := fun y hy => by simpa using (hG y hy).2
  refine ⟨⟨rr, hr.1, (hr.2.keep hk hGp).more (by simp +contextual), (h.chain.keep hk hF).more (by simp +contextual), fun y hy => ?_⟩, hk⟩
  rcases List.mem_append.1 hy with hy | hy
  · exact ⟨Nat.lt_of_lt_of_le (h.far y hy).1 hk.size, (h.far y hy).2⟩
  · exact ⟨Nat.lt_of_lt_of_le (hG y hy).1 hk.size, (hG y hy).2⟩
theorem isM.conf (h : isM w p s cv ev F) {c : CF} {cv' : Value} {G : List Nat} (hr : intsV w G cv' c.chain) (hG : ∀ y ∈ G, y < w.heap.size ∧ y ≠ p) : isM (w.setCells p 4 (cfL c cv')) p (s.setConf c) cv' ev (F ++ G) ∧ keepBut [p] w (w.setCells p 4 (cfL c cv')) := by
  have hk : keepBut [p] w (w.setCells p 4 (cfL c cv')) := (keepBut.refl _ _).setL (.inl (by simp))
  have rr := h.row.setL (vs := cfL c cv') (o := 4)
  have e1 : msL s cv ev = [.int .i64 s.client, .int .i64 s.next, .int .i64 s.limit, .int .i64 s.most] ++ ([.int .i64 s.conf.num, .int .i64 s.conf.full, cv] ++ (rqL s.req ev ++ msTail s)) := rfl
  have e2 : msL (s.setConf c) cv' ev = [.int .i64 s.client, .int .i64 s.next, .int .i64 s.limit, .int .i64 s.most] ++ (cfL c cv' ++ (rqL s.req ev ++ msTail s)) := rfl
  have e3 : putL (msL s cv ev).toArray 4 (cfL c cv') = (msL (s.setConf c) cv' ev).toArray := by rw [e1, e2]; exact putL_mid [.int .i64 s.client, .int .i64 s.next, .int .i64 s.limit, .int .i64 s.most] _ _ _ rfl
  rw [e3] at rr
  have hF : ∀ y ∈ F, y ∉ [p] := fun y hy => by simpa using (h.far y hy).2
  have hGp : ∀ y ∈ G, y ∉ [p] := fun y hy => by simpa using (hG y hy).2
  refine ⟨⟨rr, h.nm, (h.env.keep hk hF).more (by simp +contextual), (hr.keep hk hGp).more (by simp +contextual), fun y hy => ?_⟩, hk⟩
  rcases List.mem_append.1 hy with hy | hy
  · exact ⟨Nat.lt_of_lt_of_le (h.far y hy).1 hk.size, (h.far y hy).2⟩
  · exact ⟨Nat.lt_of_lt_of_le (hG y hy).1 hk.size, (hG y hy).2⟩
end
section
variable (p : Nat) (s : SS) (cv ev : Value) (F : List Nat) (w : World) (h : isM w p s cv ev F)
include h
theorem waitsM_any : Calls Tryd.prog 38 #[.pointer (some ⟨p, 0, none⟩)] w fun e w' => e = .returned (.bool s.waits) ∧ w = w' := by
  obtain ⟨_, _, _, _, _, _, _, hc, _⟩ := h.cells
  go_enter Tryd.func38, Tryd.ntmps38
  go_wp2
  go_ret
  exact ⟨rfl, rfl⟩
theorem lateM_any : Calls Tryd.prog 39 #[.pointer (some ⟨p, 0, none⟩)] w fun e w' => e = .returned (.bool s.late) ∧ w = w' := by
  obtain ⟨_, _, _, _, _, _, _, _, _, hc, _⟩ := h.cells
  go_enter Tryd.func39, Tryd.ntmps39
  go_wp2
  go_ret
  exact ⟨rfl, rfl⟩
theorem numM_any : Calls Tryd.prog 40 #[.pointer (some ⟨p, 0, none⟩)] w fun e w' => e = .returned (.int .i64 s.last) ∧ w = w' := by
  obtain ⟨_, _, _, _, _, _, _, _, _, _, _, hc⟩ := h.cells
  go_enter Tryd.func40, Tryd.ntmps40
  go_wp2
  go_ret
  exact ⟨rfl, rfl⟩
end
theorem newM_any (c f l m : Int) (w : World) (hc : 0 ≤ c ∧ c ≤ 2) (hf : 1 ≤ f ∧ f ≤ 9007199254740991) (hl : 1 ≤ l ∧ l ≤ 1000) (hm : 1 ≤ m ∧ m ≤ 100000) :
    Calls Tryd.prog 10 #[.int .i64 c, .int .i64 f, .int .i64 l, .int .i64 m] w fun e w' => ∃ p, e = .returned (.tuple #[.pointer (some ⟨p, 0, none⟩), .int .i64 0]) ∧ isM w' p (SS.start c f l m) (.slice none 0 0) (.slice none 0 0) [] ∧ keepBut [] w w' ∧ w.heap.size ≤ p := by
  obtain ⟨c0, c1⟩ := hc
  obtain ⟨f0, f1⟩ := hf
  obtain ⟨l0, l1⟩ := hl
  obtain ⟨m0, m1⟩ := hm
  go_enter Tryd.func10, Tryd.ntmps10
  go_wp2
  go_ret2
  have r1 := rowAt.new w 72 (msL (SS.start c f l m) (.slice none 0 0) (.slice none 0 0)).toArray
  exact ⟨_, rfl, ⟨r1, rqZero_name, bytesV.nil _ _, intsV.nil _ _, by simp⟩, (keepBut.refl [] w).alloc _, Nat.le_refl _⟩
theorem newM_no (c f l m : Int) (w : World) (h : ¬ (0 ≤ c ∧ c ≤ 2 ∧ 1 ≤ f ∧ f ≤ 9007199254740991 ∧ 1 ≤ l ∧ l ≤ 1000 ∧ 1 ≤ m ∧ m ≤ 100000)) :
    Calls Tryd.prog 10 #[.int .i64 c, .int .i64 f, .int .i64 l, .int .i64 m] w fun e w' => e = .returned (.tuple #[.pointer none, .int .i64 2]) ∧ w = w' := by
  have h' : c < 0 ∨ 0 ≤ c ∧ (3 ≤ c ∨ c < 3 ∧ (f < 1 ∨ 1 ≤ f ∧ (9007199254740991 < f ∨ f ≤ 9007199254740991 ∧ (l < 1 ∨ 1 ≤ l ∧ (1000 < l ∨ l ≤ 1000 ∧ (m < 1 ∨ 1 ≤ m ∧ 100000 < m)))))) := by omega
  clear h
  rcases h' with a | ⟨b1, a | ⟨b2, a | ⟨b3, a | ⟨b4, a | ⟨b5, a | ⟨b6, a | ⟨b7, a⟩⟩⟩⟩⟩⟩⟩
  all_goals
    go_enter Tryd.func10, Tryd.ntmps10
    go_wp2
    go_ret2
    exact ⟨rfl, rfl⟩
end Go.Proofs.YtkpmlcgbffdloaaDoor
end

section
namespace Go.Proofs.YtkpmlcgbffdloaaDoor
open Go.RowKit
set_option linter.unusedVariables false
set_option maxRecDepth 100000
set_option linter.unusedSimpArgs false

set_option maxHeartbeats 1000000 in
theorem copyB_any (F : List Nat) (v : Value) (l : List UInt8) (w : World) (h : bytesV w F v l) (hn : l.length ≤ 1000000) :
    Calls Tryd.prog 51 #[v] w (cloneBP l w) := by
  obtain ⟨A, c, g, rfl, h2, h3, h5, h6⟩ := h
  have h4 := hn
  obtain ⟨i0, hi0, hz0, hz1, hz2⟩ := info_parts infoU8c
  have H := Lib.hid h5.reads
  clear h5 h6 h3
  go_enter Tryd.func51, Tryd.ntmps51
  go_wp2_with (at_builtin; refine wp_append _ rfl _ _ 35 rfl 5 i0 (.int .u8 0) 1 1 Tryd.underlying35 hi0 hz0 hz1 hz2 rfl (by decide) (.slice none 0 0) 0 [] rfl (owns.nil _ _ _) A g l.length c _ (by simp [Act.eval]) H.out (by intro u hu; obtain ⟨b, _, rfl⟩ := List.mem_map.1 hu; rfl) (by omega) (by unfold maxLen; omega) ?_; intro A2 c2 w2 hown2 hkb2 hloc2)
  go_ret
  simp only [Nat.zero_add, List.nil_append, homes_none] at hown2 hloc2 hkb2 ⊢
  obtain ⟨A3, c3, e3, h31, h32, h33, h34⟩ := hown2.form
  injection e3 with e3a e3b e3c
  subst e3a e3c
  obtain ⟨g3, hg3⟩ := homes_oneS (.slice A2 l.length c2)
  refine ⟨_, rfl, homes (.slice A2 l.length c2), ⟨A2, c2, g3, rfl, h31, h32, (fun hl => by obtain ⟨o, hA, hlt, hc⟩ := (h34 g3 hg3).2 (List.length_pos_iff.2 hl); exact ⟨o, hA, hlt, fun j b hb => hc j (bv b) (by simp [hb])⟩), fun hne => ?_⟩, fun y hy => ⟨?_, h33 y hy⟩, hkb2⟩
  · obtain ⟨o, hA, _⟩ := (h34 g3 hg3).2 (List.length_pos_iff.2 hne)
    rw [hA]; simp [homes_some]
  · rcases hloc2 y hy with h | h
    · simp at h
    · omega
set_option maxHeartbeats 1000000 in
theorem copyI_any (F : List Nat) (v : Value) (l : List Int) (w : World) (h : intsV w F v l) (hn : l.length ≤ 1000000) :
    Calls Tryd.prog 57 #[v] w (cloneIP l w) := by
  obtain ⟨A, c, g, rfl, h2, h3, h5, h6⟩ := h
  have h4 := hn
  obtain ⟨i0, hi0, hz0, hz1, hz2⟩ := info_parts infoIntc
  have H := Lib.hid h5
  clear h5 h6 h3
  go_enter Tryd.func57, Tryd.ntmps57
  go_wp2_with (at_builtin; refine wp_append _ rfl _ _ 32 rfl 3 i0 (.int .i64 0) 1 8 Tryd.underlying32 hi0 hz0 hz1 hz2 rfl (by decide) (.slice none 0 0) 0 [] rfl (owns.nil _ _ _) A g l.length c _ (by simp [Act.eval]) H.out (by intro u hu; obtain ⟨b, _, rfl⟩ := List.mem_map.1 hu; rfl) (by omega) (by unfold maxLen; omega) ?_; intro A2 c2 w2 hown2 hkb2 hloc2)
  go_ret
  simp only [Nat.zero_add, List.nil_append, homes_none] at hown2 hloc2 hkb2 ⊢
  obtain ⟨A3, c3, e3, h31, h32, h33, h34⟩ := hown2.form
  injection e3 with e3a e3b e3c
  subst e3a e3c
  obtain ⟨g3, hg3⟩ := homes_oneS (.slice A2 l.length c2)
  refine ⟨_, rfl, homes (.slice A2 l.length c2), ⟨A2, c2, g3, rfl, h31, h32, h34 g3 hg3, fun hne => ?_⟩, fun y hy => ⟨?_, h33 y hy⟩, hkb2⟩
  · obtain ⟨o, hA, _⟩ := (h34 g3 hg3).2 (List.length_pos_iff.2 hne)
    rw [hA]; simp [homes_some]
  · rcases hloc2 y hy with h | h
    · simp at h
    · omega
theorem copyReqD_any (F : List Nat) (r : RQ) (ev : Value) (w : World) (h : rqV w F r ev) (hn : r.env.length ≤ 1000000) :
    Calls Tryd.prog 26 #[.agg (rqL r ev).toArray] w (copiedP r w) := by
  obtain ⟨hnm, he⟩ := h
  have hXl : (rqL r ev).length = 37 := rqL_len hnm
  have x36 := rqL_env (ev := ev) hnm
  obtain ⟨X, hX⟩ : ∃ X, rqL r ev = X := ⟨_, rfl⟩
  rw [hX] at hXl x36 ⊢
  have r1 := rowAt.new w 37 X.toArray
  have k1 := (keepBut.refl [] w).alloc (.cells X.toArray 37)
  obtain ⟨w1, hw1⟩ : ∃ w1, w.alloc (.cells X.toArray 37) = w1 := ⟨_, rfl⟩
  rw [hw1] at r1 k1
  obtain ⟨Z, hZ⟩ : ∃ Z, rqL rqZero nilV = Z := ⟨_, rfl⟩
  have hzv := zv_rq
  rw [hZ] at hzv
  have hZl : Z.length = 37 := by rw [← hZ]; exact rqL_len rqZero_name
  have r2 := rowAt.new w1 37 Z.toArray
  have k2 := (keepBut.refl [] w1).alloc (.cells Z.toArray 37)
  have hs1 : w1.heap.size = w.heap.size + 1 := by rw [← hw1]; exact World.size_alloc ..
  obtain ⟨w2, hw2⟩ : ∃ w2, w1.alloc (.cells Z.toArray 37) = w2 := ⟨_, rfl⟩
  have hs2 : w2.heap.size = w1.heap.size + 1 := by rw [← hw2]; exact World.size_alloc ..
  rw [hw2] at r2 k2
  have r1b := k2.row r1 (by simp)
  have c36 : w2.cell? ⟨w.heap.size, 36, none⟩ = some ev := by rw [r1b.cell]; exact x36
  have HW := Lib.hid (And.intro hw1 (And.intro hw2 (And.intro hzv (And.intro hs1 hs2))))
  have HX := Lib.hid (And.intro hX (And.intro hXl (And.intro hZl hnm)))
  have HR := Lib.hid (And.intro r1b (And.intro r2 (k1.then k2 (by simp))))
  have HE := Lib.hid (copyB_any F ev r.env w2 (he.keep (k1.then k2 (by simp)) (by simp)) hn)
  clear hw1 hw2 hzv hs1 hs2 hX hXl hZl hnm r1 r2 r1b k1 k2 hZ he x36
  go_enter Tryd.func26, Tryd.ntmps26
  go_upto_region 1 with (first | (with_reducible refine wpList_box_to _ _ rfl 37 (.tmp 0) rfl _ rfl HW.out.1 ?_) | (with_reducible refine wpList_alloc_to _ _ rfl 37 rfl _ HW.out.2.2.1 HW.out.2.1 ?_))
  go_upto_region 2 with (first | (go_at_call 51; (with_reducible refine HE.out.mono ?_); rintro e w3 ⟨v, rfl, G, hv, hG, k3⟩; obtain ⟨A3, c3, g3, hve, _⟩ := id hv; subst hve; have r3 := k3.row HR.out.1 (by simp); obtain ⟨y36, hy36⟩ : ∃ y, X.toArray[36]? = some y := ⟨_, Array.getElem?_eq_getElem (by rw [List.size_toArray, HX.out.2.1]; decide)⟩; have y3 := (r3.cell 36).trans hy36; have f3 := r3.free 36; have H3 := Lib.hid (And.intro hv (And.intro hG (And.intro k3 r3))); clear hv hG k3 r3 hy36))
  have hr4 : rowAt (w3.setCell ⟨w.heap.size, 36, none⟩ (.slice A3 r.env.length c3)) w.heap.size 37 (rqL r (.slice A3 r.env.length c3)).toArray := by
    have h := H3.out.2.2.2.set 36 (.slice A3 r.env.length c3)
    have e : X.toArray.setIfInBounds 36 (.slice A3 r.env.length c3) = (rqL r (.slice A3 r.env.length c3)).toArray := by rw [← HX.out.1, ← rqL_set (ev := ev) (ev' := .slice A3 r.env.length c3) HX.out.2.2.2]; simp
    rw [e] at h
    exact h
  have hk4 : keepBut [] w (w3.setCell ⟨w.heap.size, 36, none⟩ (.slice A3 r.env.length c3)) := (HR.out.2.2.then H3.out.2.2.1 (by simp)).setCell _ _ (.inr (Nat.le_refl _))
  have hne : w1.heap.size ≠ w.heap.size := by have := HW.out.2.2.2.1; omega
  have hz4 : rowAt (w3.setCell ⟨w.heap.size, 36, none⟩ (.slice A3 r.env.length c3)) w1.heap.size 37 Z.toArray := ((keepBut.refl [w.heap.size] w3).setCell _ _ (.inl (by simp))).row (H3.out.2.2.1.row HR.out.2.1 (by simp)) (by simpa using hne)
  have hb4 : bytesV (w3.setCell ⟨w.heap.size, 36, none⟩ (.slice A3 r.env.length c3)) G (.slice A3 r.env.length c3) r.env := H3.out.1.keep ((keepBut.refl [w.heap.size] w3).setCell _ _ (.inl (by simp))) (fun y hy hm => by
    have h1 := (H3.out.2.1 y hy).1
    have h2 := HW.out.2.2.2.1
    have h3 := HW.out.2.2.2.2
    simp only [List.mem_singleton] at hm
    omega)
  have hs4 : w3.heap.size ≤ (w3.setCell ⟨w.heap.size, 36, none⟩ (.slice A3 r.env.length c3)).heap.size := ((keepBut.refl [w.heap.size] w3).setCell _ _ (.inl (by simp))).size
  generalize hw4 : w3.setCell ⟨w.heap.size, 36, none⟩ (.slice A3 r.env.length c3) = w4 at hr4 hk4 hz4 hb4 hs4 ⊢
  have hYl : (rqL r (.slice A3 r.env.length c3)).length = 37 := rqL_len HX.out.2.2.2
  have hYo : ∀ u ∈ rqL r (.slice A3 r.env.length c3), u.oneCell' = true := rqL_one r rfl
  generalize hv : Value.slice A3 r.env.length c3 = v at *
  generalize hY : rqL r v = Y at *
  have r6 := hz4.setL (vs := Y) (o := 0)
  rw [putL_all (by rw [List.size_toArray, hYl, HX.out.2.2.1])] at r6
  have HZ := Lib.hid (And.intro hr4 (And.intro hk4 (And.intro hz4 (And.intro hb4 (And.intro hs4 (And.intro hYl (And.intro hYo (And.intro hY (And.intro hw4 hv)))))))))
  have R6 := Lib.hid r6
  clear hr4 hk4 hz4 hb4 hs4 hYl hYo hY hw4 hv r6 y3 f3 c36
  go_wp2_with (first | (refine wpList_load_mid rfl 37 (.tmp 1) rfl w.heap.size 0 rfl Y _ HZ.out.1.rangeAll Tryd.underlying37 rfl (by rw [HZ.out.2.2.2.2.2.1]; exact info_rqS) ?_) | (refine wpList_store_mid rfl 37 (.tmp 2) (.tmp 7) rfl w1.heap.size 0 Y.toArray rfl rfl (HZ.out.2.2.1.there (by simp only [List.size_toArray]; rw [HZ.out.2.2.2.2.2.1, HX.out.2.2.1]; decide)) (by rw [List.size_toArray, HZ.out.2.2.2.2.2.1]; exact info_rqS) (by simpa using HZ.out.2.2.2.2.2.2.1) ?_))
  refine bodyPost_end (results_cell_row rfl _ _ w1.heap.size 37 _ (0, 0) _ rfl R6.out Tryd.underlying37 rfl (by rw [List.size_toArray, HZ.out.2.2.2.2.2.1]; exact info_rqS)) rfl ?_
  have k6 : keepBut [] w (w4.setCells w1.heap.size 0 Y) := HZ.out.2.1.setL (.inr (by have := HW.out.2.2.2.1; omega))
  have k46 : keepBut [w1.heap.size] w4 (w4.setCells w1.heap.size 0 Y) := (keepBut.refl _ _).setL (.inl (by simp))
  refine ⟨v, by rw [HZ.out.2.2.2.2.2.2.2.1], G, ⟨HX.out.2.2.2, HZ.out.2.2.2.1.keep k46 (fun y hy hm => ?_)⟩, fun y hy => ?_, k6⟩
  · have h1 := (H3.out.2.1 y hy).1
    have h2 := HW.out.2.2.2.2
    simp only [List.mem_singleton] at hm
    omega
  · have h1 := H3.out.2.1 y hy
    have h2 := HR.out.2.2.size
    have h3 := k46.size
    have h4 := HZ.out.2.2.2.2.1
    omega
def copiedAP (r : AN) (w : World) (e : Ending) (w' : World) : Prop := ∃ ev, e = .returned (.agg (anL r ev).toArray) ∧ ∃ G, anV w' G r ev ∧ newIn w w' G ∧ keepBut [] w w'
theorem copyAnsD_any (F : List Nat) (r : AN) (ev : Value) (w : World) (h : anV w F r ev) (hn : r.env.length ≤ 1000000) :
    Calls Tryd.prog 34 #[.agg (anL r ev).toArray] w (copiedAP r w) := by
  obtain ⟨hnm, he⟩ := h
  have hXl : (anL r ev).length = 38 := anL_len hnm
  have x37 := anL_env (ev := ev) hnm
  obtain ⟨X, hX⟩ : ∃ X, anL r ev = X := ⟨_, rfl⟩
  rw [hX] at hXl x37 ⊢
  have r1 := rowAt.new w 39 X.toArray
  have k1 := (keepBut.refl [] w).alloc (.cells X.toArray 39)
  obtain ⟨w1, hw1⟩ : ∃ w1, w.alloc (.cells X.toArray 39) = w1 := ⟨_, rfl⟩
  rw [hw1] at r1 k1
  obtain ⟨Z, hZ⟩ : ∃ Z, anL anZero nilV = Z := ⟨_, rfl⟩
  have hzv := zv_an
  rw [hZ] at hzv
  have hZl : Z.length = 38 := by rw [← hZ]; exact anL_len anZero_name
  have r2 := rowAt.new w1 39 Z.toArray
  have k2 := (keepBut.refl [] w1).alloc (.cells Z.toArray 39)
  have hs1 : w1.heap.size = w.heap.size + 1 := by rw [← hw1]; exact World.size_alloc ..
  obtain ⟨w2, hw2⟩ : ∃ w2, w1.alloc (.cells Z.toArray 39) = w2 := ⟨_, rfl⟩
  have hs2 : w2.heap.size = w1.heap.size + 1 := by rw [← hw2]; exact World.size_alloc ..
  rw [hw2] at r2 k2
  have r1b := k2.row r1 (by simp)
  have c37 : w2.cell? ⟨w.heap.size, 37, none⟩ = some ev := by rw [r1b.cell]; exact x37
  have HW := Lib.hid (And.intro hw1 (And.intro hw2 (And.intro hzv (And.intro hs1 hs2))))
  have HX := Lib.hid (And.intro hX (And.intro hXl (And.intro hZl hnm)))
  have HR := Lib.hid (And.intro r1b (And.intro r2 (k1.then k2 (by simp))))
  have HE := Lib.hid (copyB_any F ev r.env w2 (he.keep (k1.then k2 (by simp)) (by simp)) hn)
  clear hw1 hw2 hzv hs1 hs2 hX hXl hZl hnm r1 r2 r1b k1 k2 hZ he x37
  go_enter Tryd.func34, Tryd.ntmps34
  go_upto_region 1 with (first | (with_reducible refine wpList_box_to _ _ rfl 39 (.tmp 0) rfl _ rfl HW.out.1 ?_) | (with_reducible refine wpList_alloc_to _ _ rfl 39 rfl _ HW.out.2.2.1 HW.out.2.1 ?_))
  go_upto_region 2 with (first | (go_at_call 51; (with_reducible refine HE.out.mono ?_); rintro e w3 ⟨v, rfl, G, hv, hG, k3⟩; obtain ⟨A3, c3, g3, hve, _⟩ := id hv; subst hve; have r3 := k3.row HR.out.1 (by simp); obtain ⟨y37, hy37⟩ : ∃ y, X.toArray[37]? = some y := ⟨_, Array.getElem?_eq_getElem (by rw [List.size_toArray, HX.out.2.1]; decide)⟩; have y3 := (r3.cell 37).trans hy37; have f3 := r3.free 37; have H3 := Lib.hid (And.intro hv (And.intro hG (And.intro k3 r3))); clear hv hG k3 r3 hy37))
  have hr4 : rowAt (w3.setCell ⟨w.heap.size, 37, none⟩ (.slice A3 r.env.length c3)) w.heap.size 39 (anL r (.slice A3 r.env.length c3)).toArray := by
    have h := H3.out.2.2.2.set 37 (.slice A3 r.env.length c3)
    have e : X.toArray.setIfInBounds 37 (.slice A3 r.env.length c3) = (anL r (.slice A3 r.env.length c3)).toArray := by rw [← HX.out.1, ← anL_set (ev := ev) (ev' := .slice A3 r.env.length c3) HX.out.2.2.2]; simp
    rw [e] at h
    exact h
  have hk4 : keepBut [] w (w3.setCell ⟨w.heap.size, 37, none⟩ (.slice A3 r.env.length c3)) := (HR.out.2.2.then H3.out.2.2.1 (by simp)).setCell _ _ (.inr (Nat.le_refl _))
  have hne : w1.heap.size ≠ w.heap.size := by have := HW.out.2.2.2.1; omega
  have hz4 : rowAt (w3.setCell ⟨w.heap.size, 37, none⟩ (.slice A3 r.env.length c3)) w1.heap.size 39 Z.toArray := ((keepBut.refl [w.heap.size] w3).setCell _ _ (.inl (by simp))).row (H3.out.2.2.1.row HR.out.2.1 (by simp)) (by simpa using hne)
  have hb4 : bytesV (w3.setCell ⟨w.heap.size, 37, none⟩ (.slice A3 r.env.length c3)) G (.slice A3 r.env.length c3) r.env := H3.out.1.keep ((keepBut.refl [w.heap.size] w3).setCell _ _ (.inl (by simp))) (fun y hy hm => by
    have h1 := (H3.out.2.1 y hy).1
    have h2 := HW.out.2.2.2.1
    have h3 := HW.out.2.2.2.2
    simp only [List.mem_singleton] at hm
    omega)
  have hs4 : w3.heap.size ≤ (w3.setCell ⟨w.heap.size, 37, none⟩ (.slice A3 r.env.length c3)).heap.size := ((keepBut.refl [w.heap.size] w3).setCell _ _ (.inl (by simp))).size
  generalize hw4 : w3.setCell ⟨w.heap.size, 37, none⟩ (.slice A3 r.env.length c3) = w4 at hr4 hk4 hz4 hb4 hs4 ⊢
  have hYl : (anL r (.slice A3 r.env.length c3)).length = 38 := anL_len HX.out.2.2.2
  have hYo : ∀ u ∈ anL r (.slice A3 r.env.length c3), u.oneCell' = true := anL_one r rfl
  generalize hv : Value.slice A3 r.env.length c3 = v at *
  generalize hY : anL r v = Y at *
  have r6 := hz4.setL (vs := Y) (o := 0)
  rw [putL_all (by rw [List.size_toArray, hYl, HX.out.2.2.1])] at r6
  have HZ := Lib.hid (And.intro hr4 (And.intro hk4 (And.intro hz4 (And.intro hb4 (And.intro hs4 (And.intro hYl (And.intro hYo (And.intro hY (And.intro hw4 hv)))))))))
  have R6 := Lib.hid r6
  clear hr4 hk4 hz4 hb4 hs4 hYl hYo hY hw4 hv r6 y3 f3 c37
  go_wp2_with (first | (refine wpList_load_mid rfl 39 (.tmp 1) rfl w.heap.size 0 rfl Y _ HZ.out.1.rangeAll Tryd.underlying39 rfl (by rw [HZ.out.2.2.2.2.2.1]; exact info_anS) ?_) | (refine wpList_store_mid rfl 39 (.tmp 2) (.tmp 7) rfl w1.heap.size 0 Y.toArray rfl rfl (HZ.out.2.2.1.there (by simp only [List.size_toArray]; rw [HZ.out.2.2.2.2.2.1, HX.out.2.2.1]; decide)) (by rw [List.size_toArray, HZ.out.2.2.2.2.2.1]; exact info_anS) (by simpa using HZ.out.2.2.2.2.2.2.1) ?_))
  refine bodyPost_end (results_cell_row rfl _ _ w1.heap.size 39 _ (0, 0) _ rfl R6.out Tryd.underlying39 rfl (by rw [List.size_toArray, HZ.out.2.2.2.2.2.1]; exact info_anS)) rfl ?_
  have k6 : keepBut [] w (w4.setCells w1.heap.size 0 Y) := HZ.out.2.1.setL (.inr (by have := HW.out.2.2.2.1; omega))
  have k46 : keepBut [w1.heap.size] w4 (w4.setCells w1.heap.size 0 Y) := (keepBut.refl _ _).setL (.inl (by simp))
  refine ⟨v, by rw [HZ.out.2.2.2.2.2.2.2.1], G, ⟨HX.out.2.2.2, HZ.out.2.2.2.1.keep k46 (fun y hy hm => ?_)⟩, fun y hy => ?_, k6⟩
  · have h1 := (H3.out.2.1 y hy).1
    have h2 := HW.out.2.2.2.2
    simp only [List.mem_singleton] at hm
    omega
  · have h1 := H3.out.2.1 y hy
    have h2 := HR.out.2.2.size
    have h3 := k46.size
    have h4 := HZ.out.2.2.2.2.1
    omega
end Go.Proofs.YtkpmlcgbffdloaaDoor
end

section
namespace Go.Proofs.YtkpmlcgbffdloaaDoor
open Go.RowKit
set_option linter.unusedVariables false
set_option maxRecDepth 100000
set_option linter.unusedSimpArgs false

def copiedCP (c : CF) (w : World) (e : Ending) (w' : World) : Prop := ∃ cv, e = .returned (.agg (cfL c cv).toArray) ∧ ∃ G, intsV w' G cv c.chain ∧ newIn w w' G ∧ keepBut [] w w'
set_option maxHeartbeats 4000000 in
theorem copyConfD_any (F : List Nat) (c : CF) (xv : Value) (w : World) (h : intsV w F xv c.chain) (hl : c.chain.length ≤ 1000000) :
    Calls Tryd.prog 33 #[.agg (cfL c xv).toArray] w (copiedCP c w) := by
  obtain ⟨Z, hZ⟩ : ∃ Z, cfL cfZero nilV = Z := ⟨_, rfl⟩
  have hzv := zv_cf
  have hZl : Z.length = 3 := by rw [← hZ]; rfl
  rw [hZ] at hzv
  obtain ⟨X, hX⟩ : ∃ X, cfL c xv = X := ⟨_, rfl⟩
  have hXl : X.length = 3 := by rw [← hX]; rfl
  rw [hX]
  have k1 := (keepBut.refl [] w).alloc (.cells X.toArray 41)
  have r1 := rowAt.new w 41 X.toArray
  have hs1 : (w.alloc (.cells X.toArray 41)).heap.size = w.heap.size + 1 := World.size_alloc ..
  obtain ⟨w1, hw1⟩ : ∃ w1, w.alloc (.cells X.toArray 41) = w1 := ⟨_, rfl⟩
  rw [hw1] at k1 r1 hs1
  have k2 := (keepBut.refl [] w1).alloc (.cells Z.toArray 41)
  have r2 := rowAt.new w1 41 Z.toArray
  obtain ⟨w2, hw2⟩ : ∃ w2, w1.alloc (.cells Z.toArray 41) = w2 := ⟨_, rfl⟩
  rw [hw2] at k2 r2
  obtain ⟨b, hb⟩ : ∃ b, w.heap.size = b := ⟨_, rfl⟩
  obtain ⟨d, hd⟩ : ∃ d, w1.heap.size = d := ⟨_, rfl⟩
  have r1' := k2.row r1 (by simp)
  rw [hb] at r1'
  rw [hd] at r2
  have HS := Lib.hid (And.intro hb (And.intro hd (show d = b + 1 by omega)))
  have HW := Lib.hid (And.intro hw1 (And.intro hw2 (And.intro hzv hZl)))
  have HX := Lib.hid (And.intro hX hXl)
  have HR := Lib.hid (And.intro r1' (And.intro r2 (k1.then k2 (by simp))))
  have HCl := Lib.hid (copyI_any F xv c.chain w2 (h.keep (k1.then k2 (by simp)) (by simp)) hl)
  have u2 : w2.cell? ⟨b, 2, none⟩ = some xv := by rw [r1'.cell, ← hX]; rfl
  clear h k1 k2 r1 r1' r2 hw1 hw2 hzv hZ hX hXl hZl hs1 hl
  go_enter Tryd.func33, Tryd.ntmps33
  go_upto_region 1 with (first
    | (with_reducible refine wpList_box_to _ _ rfl 41 (.tmp 0) rfl _ rfl HW.out.1 ?_)
    | (with_reducible refine wpList_alloc_to _ _ rfl 41 rfl _ HW.out.2.2.1 HW.out.2.1 ?_))
  try simp only [hb, hd]
  go_upto_region 2 with (first
    | (go_at_call 57; (with_reducible refine HCl.out.mono ?_); rintro e w3 ⟨v, rfl, G', hv, hG', k3⟩; obtain ⟨A3, c3, g3, hve, _⟩ := id hv; subst hve; have r3 := k3.row HR.out.1 (by simp); have u3 := r3.cell 2; rw [← HX.out.1] at u3; replace u3 : w3.cell? ⟨b, 2, none⟩ = some xv := u3; have f3 := r3.free 2; have H3 := Lib.hid (And.intro hv (And.intro hG' (And.intro k3 r3))); clear hv hG' k3 r3))
  have r4 := H3.out.2.2.2.set 2 (.slice A3 c.chain.length c3)
  have e4 : X.toArray.setIfInBounds 2 (.slice A3 c.chain.length c3) = (cfL c (.slice A3 c.chain.length c3)).toArray := by rw [← HX.out.1]; simp [cfL]
  rw [e4] at r4
  have k4 : keepBut [b] w3 (w3.setCell ⟨b, 2, none⟩ (.slice A3 c.chain.length c3)) := (keepBut.refl _ _).setCell _ _ (.inl (by simp))
  have hne : d ≠ b := by have := HS.out; omega
  have q4 := k4.row (H3.out.2.2.1.row HR.out.2.1 (by simp)) (by simpa using hne)
  have hb2 := HR.out.1.lt
  have hd2 := HR.out.2.1.lt
  have hv4 := H3.out.1.keep k4 (fun y hy hm => by
    have h1 := (H3.out.2.1 y hy).1
    simp only [List.mem_singleton] at hm
    omega)
  have k34 := (HR.out.2.2.then H3.out.2.2.1 (by simp)).then k4 (fun y hy => .inr (by simp only [List.mem_singleton] at hy; have := HS.out; omega))
  have hs4 := k4.size
  generalize hw4 : w3.setCell ⟨b, 2, none⟩ (.slice A3 c.chain.length c3) = w4 at r4 k4 q4 hv4 k34 hs4 ⊢
  obtain ⟨Y, hY⟩ : ∃ Y, cfL c (.slice A3 c.chain.length c3) = Y := ⟨_, rfl⟩
  have hYl : Y.length = 3 := by rw [← hY]; rfl
  have hYo : ∀ u ∈ Y, u.oneCell' = true := by rw [← hY]; exact cfL_one _ rfl
  rw [hY] at r4
  have HY := Lib.hid (And.intro hY (And.intro hYl hYo))
  have hth := q4.there (o := 0) (n := 3) (by rw [List.size_toArray, HW.out.2.2.2]; decide)
  have H4 := Lib.hid (And.intro r4.rangeAll (And.intro q4 (And.intro hv4 (And.intro k34 (And.intro hs4 (And.intro hb2 (And.intro hth hd2)))))))
  clear r4 k4 q4 hv4 k34 hs4 hY hYl hYo hth hw4 e4 u3 f3 hne hb2 u2 hd2
  go_wp2_with (first
    | (refine wpList_load_mid rfl 41 (.tmp 1) rfl b 0 rfl Y _ H4.out.1 Tryd.underlying41 rfl (by rw [HY.out.2.1]; exact info_cf) ?_)
    | (refine wpList_store_mid rfl 41 (.tmp 2) (.tmp 7) rfl d 0 Y.toArray rfl rfl (by rw [List.size_toArray, HY.out.2.1]; exact H4.out.2.2.2.2.2.2.1) (by rw [List.size_toArray, HY.out.2.1]; exact info_cf) (by simpa using HY.out.2.2) ?_))
  have r9 := set0 H4.out.2.1 (show Y.length = Z.length by rw [HY.out.2.1, HW.out.2.2.2])
  have k5 : keepBut [d] w4 (w4.setCells d 0 Y) := (keepBut.refl _ _).setL (.inl (by simp))
  refine bodyPost_end (results_cell_row rfl _ _ d 41 _ (0, 0) _ rfl r9 Tryd.underlying41 rfl (by rw [List.size_toArray, HY.out.2.1]; exact info_cf)) rfl ?_
  refine ⟨.slice A3 c.chain.length c3, by rw [HY.out.1], G', H4.out.2.2.1.keep k5 (fun y hy hm => ?_), fun y hy => ⟨?_, ?_⟩, H4.out.2.2.2.1.then k5 (fun y hy => .inr ?_)⟩
  · have h1 := (H3.out.2.1 y hy).1
    have h2 := H4.out.2.2.2.2.2.2.2
    simp only [List.mem_singleton] at hm
    omega
  · have h1 := (H3.out.2.1 y hy).1
    have h2 := HR.out.2.2.size
    omega
  · have h1 := (H3.out.2.1 y hy).2
    have h2 := H4.out.2.2.2.2.1
    have h3 := k5.size
    omega
  · have := HS.out
    simp only [List.mem_singleton] at hy
    omega
end Go.Proofs.YtkpmlcgbffdloaaDoor
end

section
namespace Go.Proofs.YtkpmlcgbffdloaaDoor
open Go.RowKit
set_option linter.unusedVariables false
set_option maxRecDepth 100000
set_option linter.unusedSimpArgs false

theorem sized9_any (n : Int) (w : World) : Calls Tryd.prog 65 #[.int .i64 n] w fun e w' => e = .returned (.bool (sizedP n)) ∧ w = w' := by
  have cs : (n = 45 ∧ sizedP n = true) ∨ ((n == 45) = false ∧ n = 93 ∧ sizedP n = true) ∨ ((n == 45) = false ∧ (n == 93) = false ∧ n = 285 ∧ sizedP n = true) ∨ ((n == 45) = false ∧ (n == 93) = false ∧ (n == 285) = false ∧ sizedP n = false) := by
    unfold sizedP
    by_cases a : n = 45
    · subst a; exact .inl ⟨rfl, rfl⟩
    · have a' : (n == 45) = false := by simp [a]
      by_cases b : n = 93
      · subst b; exact .inr (.inl ⟨rfl, rfl, rfl⟩)
      · have b' : (n == 93) = false := by simp [b]
        by_cases c : n = 285
        · subst c; exact .inr (.inr (.inl ⟨rfl, rfl, rfl, rfl⟩))
        · have c' : (n == 285) = false := by simp [c]
          exact .inr (.inr (.inr ⟨a', b', c', by simp [a', b', c']⟩))
  rcases cs with ⟨a, hp⟩ | ⟨a, b, hp⟩ | ⟨a, b, c, hp⟩ | ⟨a, b, c, hp⟩
  all_goals
    have HP := Lib.hid hp
    clear hp
    try subst b
    try subst c
    try subst a
    go_enter Tryd.func65, Tryd.ntmps65
    go_wp2
    go_ret
    exact ⟨by rw [HP.out]; rfl, rfl⟩
set_option maxHeartbeats 16000000 in
theorem check18_any (F : List Nat) (r : RQ) (ev : Value) (w : World) (h : rqV w F r ev) :
    Calls Tryd.prog 54 #[.agg (rqL r ev).toArray] w fun e w' => e = .returned (.int .i64 (toldP r.tok)) ∧ keepBut [] w w' := by
  obtain ⟨hn, A, c, g, rfl, _, hcm, _, _⟩ := h
  have hlm : r.env.length ≤ 9223372036854775807 := by unfold maxLen at hcm; omega
  have k1 := (keepBut.refl [] w).alloc (.cells (rqL r (.slice A r.env.length c)).toArray 37)
  have r1 := rowAt.new w 37 (rqL r (.slice A r.env.length c)).toArray
  obtain ⟨w1, hw1⟩ : ∃ w1, w.alloc (.cells (rqL r (.slice A r.env.length c)).toArray 37) = w1 := ⟨_, rfl⟩
  rw [hw1] at k1 r1
  have HW := Lib.hid (And.intro hw1 k1)
  have x0 : w1.cell? ⟨w.heap.size, 0, none⟩ = some (.int .i64 r.client) := r1.cell 0
  have x1 : w1.cell? ⟨w.heap.size, 1, none⟩ = some (.int .i64 r.num) := r1.cell 1
  have x2 : w1.cell? ⟨w.heap.size, 2, none⟩ = some (.int .i64 r.kind) := r1.cell 2
  have x3 : w1.cell? ⟨w.heap.size, 3, none⟩ = some (.int .i64 r.version) := r1.cell 3
  have x5 := (r1.cell 36).trans (rqL_env hn)
  have HX := Lib.hid (r1.range (rqL_name r (.slice A r.env.length c)))
  have HQ := Lib.hid (name_eql r.name nameZ hn nameZ_len w1)
  have HI := Lib.hid (show (Tryd.prog.info? 34).map (·.size) = some (nameL r.name).length by rw [nameL_len, hn]; exact infoName)
  have HS0 := Lib.hid (show r.tok = (inP r.client 0 2 && (inP r.num 1 9007199254740991 && (if r.kind = 1 ∨ r.kind = 3 then (r.version == 0) && (r.env.length == 0) else if r.kind = 2 then inP r.version 1 9007199254740991 && sizedP (r.env.length : Int) else if r.kind = 4 then inP r.version 1 255 && (decide (r.name = nameZ) && (r.env.length == 0)) else false))) from rfl)
  generalize r.tok = ok at *
  obtain ⟨a0, a1, a2, a3, nr, er⟩ := r
  dsimp only at hlm x0 x1 x2 x3 x5 HX HQ HI HS0 HW hn ⊢
  obtain ⟨L, hL⟩ : ∃ L, er.length = L := ⟨_, rfl⟩
  rw [hL] at hlm x5 HS0 HW ⊢
  clear k1 r1 hw1 hn hL
  go_enter Tryd.func54, Tryd.ntmps54
  go_upto_region 1 with (first
    | (with_reducible refine wpList_box_to _ _ rfl 37 (.tmp 0) rfl _ rfl HW.out.1 ?_))
  obtain ⟨B, hB⟩ : ∃ B, (inP a0 0 2 && inP a1 1 9007199254740991) = B := ⟨_, rfl⟩
  have HBB := Lib.hid hB
  go_cut [3] (fun v3 wx => v3 = .bool B ∧ wx = w1)
  case first =>
    have cs : (a0 < 0 ∧ B = false) ∨ (0 ≤ a0 ∧ 3 ≤ a0 ∧ B = false) ∨ (0 ≤ a0 ∧ a0 < 3 ∧ a1 < 1 ∧ B = false) ∨ (0 ≤ a0 ∧ a0 < 3 ∧ 1 ≤ a1 ∧ 9007199254740991 < a1 ∧ B = false) ∨ (0 ≤ a0 ∧ a0 < 3 ∧ 1 ≤ a1 ∧ a1 ≤ 9007199254740991 ∧ B = true) := by
      have hh : B = true ↔ ((0 ≤ a0 ∧ a0 ≤ 2) ∧ (1 ≤ a1 ∧ a1 ≤ 9007199254740991)) := by rw [← hB, Bool.and_eq_true, inP_iff, inP_iff]
      cases B with
      | true =>
        obtain ⟨⟨x1, x2⟩, y1, y2⟩ := hh.1 rfl
        exact .inr (.inr (.inr (.inr ⟨x1, by omega, y1, y2, rfl⟩)))
      | false =>
        have hn : ¬ ((0 ≤ a0 ∧ a0 ≤ 2) ∧ (1 ≤ a1 ∧ a1 ≤ 9007199254740991)) := fun h => by have := hh.2 h; cases this
        by_cases z1 : a0 < 0
        · exact .inl ⟨z1, rfl⟩
        · by_cases z2 : 3 ≤ a0
          · exact .inr (.inl ⟨by omega, z2, rfl⟩)
          · by_cases z3 : a1 < 1
            · exact .inr (.inr (.inl ⟨by omega, by omega, z3, rfl⟩))
            · by_cases z4 : 9007199254740991 < a1
              · exact .inr (.inr (.inr (.inl ⟨by omega, by omega, by omega, z4, rfl⟩)))
              · exact absurd ⟨⟨by omega, by omega⟩, by omega, by omega⟩ hn
    clear hB
    rcases cs with ⟨q1, rfl⟩ | ⟨q1, q2, rfl⟩ | ⟨q1, q2, q3, rfl⟩ | ⟨q1, q2, q3, q4, rfl⟩ | ⟨q1, q2, q3, q4, rfl⟩
    all_goals
      go_wp2
      go_meet
      exact ⟨by first | rfl | (simp only [Value.bool.injEq, decide_eq_false_iff_not, decide_eq_true_eq]; omega), rfl⟩
  case rest =>
    obtain ⟨rfl, rfl⟩ := hcut
    clear x0 x1
    have hB2 : ok = (B && (if a2 = 1 ∨ a2 = 3 then (a3 == 0) && (L == 0) else if a2 = 2 then inP a3 1 9007199254740991 && sizedP (L : Int) else if a2 = 4 then inP a3 1 255 && (decide (nr = nameZ) && (L == 0)) else false)) := by rw [HS0.out, ← hB, Bool.and_assoc]
    clear HS0 hB
    have HS0 := Lib.hid hB2
    clear hB2
    cases B
    · have hB : True := trivial
      by_cases k1 : a2 = 1
      · subst k1
        have HS := Lib.hid (show ok = false by rw [HS0.out]; simp [hB])
        clear HS0
        go_wp2_with (first
          | (go_at_call 65; refine (sized9_any _ _).mono ?_; rintro e w' ⟨rfl, rfl⟩))
        go_ret
        exact ⟨by rw [HS.out]; first | rfl | simp_all, HW.out.2⟩
      · have k1b : (a2 == 1) = false := by simp [k1]
        by_cases k3 : a2 = 3
        · clear k1
          subst k3
          have HS := Lib.hid (show ok = false by rw [HS0.out]; simp [hB])
          clear HS0
          go_wp2_with (first
            | (go_at_call 65; refine (sized9_any _ _).mono ?_; rintro e w' ⟨rfl, rfl⟩))
          go_ret
          exact ⟨by rw [HS.out]; first | rfl | simp_all, HW.out.2⟩
        · have k3b : (a2 == 3) = false := by simp [k3]
          by_cases k2 : a2 = 2
          · subst k2
            have HS := Lib.hid (show ok = false by rw [HS0.out]; simp [hB])
            clear HS0
            go_wp2_with (first
              | (go_at_call 65; refine (sized9_any _ _).mono ?_; rintro e w' ⟨rfl, rfl⟩))
            go_ret
            exact ⟨by rw [HS.out]; first | rfl | simp_all, HW.out.2⟩
          · have k2b : (a2 == 2) = false := by simp [k2]
            by_cases k4 : a2 = 4
            · subst k4
              have HS := Lib.hid (show ok = false by rw [HS0.out]; simp [hB])
              clear HS0
              go_wp2_with (first
                | (go_at_call 65; refine (sized9_any _ _).mono ?_; rintro e w' ⟨rfl, rfl⟩))
              go_ret
              exact ⟨by rw [HS.out]; first | rfl | simp_all, HW.out.2⟩
            · have k4b : (a2 == 4) = false := by simp [k4]
              have HS := Lib.hid (show ok = false by rw [HS0.out]; simp [hB, k1, k2, k3, k4])
              clear HS0
              go_wp2_with (first
                | (go_at_call 65; refine (sized9_any _ _).mono ?_; rintro e w' ⟨rfl, rfl⟩))
              go_ret
              exact ⟨by rw [HS.out]; first | rfl | simp_all, HW.out.2⟩
    · have hB : True := trivial
      by_cases k1 : a2 = 1
      · subst k1
        by_cases v0 : a3 = 0
        · subst v0
          by_cases e0 : L = 0
          · subst e0
            have HS := Lib.hid (show ok = true by rw [HS0.out]; simp [hB])
            clear HS0
            go_wp2_with (first
              | (go_at_call 65; refine (sized9_any _ _).mono ?_; rintro e w' ⟨rfl, rfl⟩))
            go_ret
            exact ⟨by rw [HS.out]; first | rfl | simp_all, HW.out.2⟩
          · have e1 : ((L : Int) == 0) = false := by simp [e0]
            have e2 : (L == 0) = false := by simp [e0]
            have HS := Lib.hid (show ok = false by rw [HS0.out]; simp [hB, e0])
            clear HS0
            go_wp2_with (first
              | (go_at_call 65; refine (sized9_any _ _).mono ?_; rintro e w' ⟨rfl, rfl⟩))
            go_ret
            exact ⟨by rw [HS.out]; first | rfl | simp_all, HW.out.2⟩
        · have v1 : (a3 == 0) = false := by simp [v0]
          have HS := Lib.hid (show ok = false by rw [HS0.out]; simp [hB, v0])
          clear HS0
          go_wp2_with (first
            | (go_at_call 65; refine (sized9_any _ _).mono ?_; rintro e w' ⟨rfl, rfl⟩))
          go_ret
          exact ⟨by rw [HS.out]; first | rfl | simp_all, HW.out.2⟩
      · have k1b : (a2 == 1) = false := by simp [k1]
        by_cases k3 : a2 = 3
        · clear k1
          subst k3
          by_cases v0 : a3 = 0
          · subst v0
            by_cases e0 : L = 0
            · subst e0
              have HS := Lib.hid (show ok = true by rw [HS0.out]; simp [hB])
              clear HS0
              go_wp2_with (first
                | (go_at_call 65; refine (sized9_any _ _).mono ?_; rintro e w' ⟨rfl, rfl⟩))
              go_ret
              exact ⟨by rw [HS.out]; first | rfl | simp_all, HW.out.2⟩
            · have e1 : ((L : Int) == 0) = false := by simp [e0]
              have e2 : (L == 0) = false := by simp [e0]
              have HS := Lib.hid (show ok = false by rw [HS0.out]; simp [hB, e0])
              clear HS0
              go_wp2_with (first
                | (go_at_call 65; refine (sized9_any _ _).mono ?_; rintro e w' ⟨rfl, rfl⟩))
              go_ret
              exact ⟨by rw [HS.out]; first | rfl | simp_all, HW.out.2⟩
          · have v1 : (a3 == 0) = false := by simp [v0]
            have HS := Lib.hid (show ok = false by rw [HS0.out]; simp [hB, v0])
            clear HS0
            go_wp2_with (first
              | (go_at_call 65; refine (sized9_any _ _).mono ?_; rintro e w' ⟨rfl, rfl⟩))
            go_ret
            exact ⟨by rw [HS.out]; first | rfl | simp_all, HW.out.2⟩
        · have k3b : (a2 == 3) = false := by simp [k3]
          by_cases k2 : a2 = 2
          · subst k2
            by_cases v1 : 1 ≤ a3
            · by_cases v2 : a3 ≤ 9007199254740991
              · have i1 := inP_yes (n := a3) (lo := 1) (hi := 9007199254740991) ⟨v1, v2⟩
                have d1 := decide_eq_true v1
                have d2 := decide_eq_true v2
                rcases Bool.eq_false_or_eq_true (sizedP (L : Int)) with e1 | e1
                · have HS := Lib.hid (show ok = true by rw [HS0.out]; simp [hB, i1, e1])
                  clear HS0
                  go_wp2_with (first
                    | (go_at_call 65; refine (sized9_any _ _).mono ?_; rintro e w' ⟨rfl, rfl⟩))
                  go_ret
                  exact ⟨by rw [HS.out]; first | rfl | simp_all, HW.out.2⟩
                · have HS := Lib.hid (show ok = false by rw [HS0.out]; simp [hB, i1, e1])
                  clear HS0
                  go_wp2_with (first
                    | (go_at_call 65; refine (sized9_any _ _).mono ?_; rintro e w' ⟨rfl, rfl⟩))
                  go_ret
                  exact ⟨by rw [HS.out]; first | rfl | simp_all, HW.out.2⟩
              · have i1 := inP_no (n := a3) (lo := 1) (hi := 9007199254740991) (fun h => v2 h.2)
                have d1 := decide_eq_true v1
                have d2 := decide_eq_false v2
                have HS := Lib.hid (show ok = false by rw [HS0.out]; simp [hB, i1])
                clear HS0
                go_wp2_with (first
                  | (go_at_call 65; refine (sized9_any _ _).mono ?_; rintro e w' ⟨rfl, rfl⟩))
                go_ret
                exact ⟨by rw [HS.out]; first | rfl | simp_all, HW.out.2⟩
            · have i1 := inP_no (n := a3) (lo := 1) (hi := 9007199254740991) (fun h => v1 h.1)
              have d1 := decide_eq_false v1
              have HS := Lib.hid (show ok = false by rw [HS0.out]; simp [hB, i1])
              clear HS0
              go_wp2_with (first
                | (go_at_call 65; refine (sized9_any _ _).mono ?_; rintro e w' ⟨rfl, rfl⟩))
              go_ret
              exact ⟨by rw [HS.out]; first | rfl | simp_all, HW.out.2⟩
          · have k2b : (a2 == 2) = false := by simp [k2]
            by_cases k4 : a2 = 4
            · subst k4
              by_cases v1 : 1 ≤ a3
              · by_cases v2 : a3 ≤ 255
                · have i1 := inP_yes (n := a3) (lo := 1) (hi := 255) ⟨v1, v2⟩
                  have d1 := decide_eq_true v1
                  have d2 := decide_eq_true v2
                  by_cases nz : nr = nameZ
                  · have dn : decide (nr = nameZ) = true := by simp [nz]
                    rw [dn] at HQ
                    by_cases e0 : L = 0
                    · subst e0
                      have HS := Lib.hid (show ok = true by rw [HS0.out]; simp [hB, i1, nz])
                      clear HS0
                      go_wp2_with (first
                        | (go_at_call 65; refine (sized9_any _ _).mono ?_; rintro e w' ⟨rfl, rfl⟩)
                        | (refine wpList_load_mid_g 34 (.tmp 72) rfl w.heap.size 4 rfl (nameL nr) _ HX.out Tryd.underlying34 rfl HI.out ?_ ?_; · rfl)
                        | (refine wpList_build_v_g _ 34 rfl _ (build_nameZ _) ?_ ?_; · rfl)
                        | (refine wpList_bin_agg_g _ .eql 34 34 (.tmp 73) (.tmp 74) rfl guardName (nameL nr).toArray (nameL nameZ).toArray rfl rfl _ HQ.out ?_ ?_; · rfl))
                      go_ret
                      exact ⟨by rw [HS.out]; first | rfl | simp_all, HW.out.2⟩
                    · have e1 : ((L : Int) == 0) = false := by simp [e0]
                      have HS := Lib.hid (show ok = false by rw [HS0.out]; simp [hB, i1, nz, e0])
                      clear HS0
                      go_wp2_with (first
                        | (go_at_call 65; refine (sized9_any _ _).mono ?_; rintro e w' ⟨rfl, rfl⟩)
                        | (refine wpList_load_mid_g 34 (.tmp 72) rfl w.heap.size 4 rfl (nameL nr) _ HX.out Tryd.underlying34 rfl HI.out ?_ ?_; · rfl)
                        | (refine wpList_build_v_g _ 34 rfl _ (build_nameZ _) ?_ ?_; · rfl)
                        | (refine wpList_bin_agg_g _ .eql 34 34 (.tmp 73) (.tmp 74) rfl guardName (nameL nr).toArray (nameL nameZ).toArray rfl rfl _ HQ.out ?_ ?_; · rfl))
                      go_ret
                      exact ⟨by rw [HS.out]; first | rfl | simp_all, HW.out.2⟩
                  · have dn : decide (nr = nameZ) = false := by simp [nz]
                    rw [dn] at HQ
                    have HS := Lib.hid (show ok = false by rw [HS0.out]; simp [hB, i1, nz])
                    clear HS0
                    go_wp2_with (first
                      | (go_at_call 65; refine (sized9_any _ _).mono ?_; rintro e w' ⟨rfl, rfl⟩)
                      | (refine wpList_load_mid_g 34 (.tmp 72) rfl w.heap.size 4 rfl (nameL nr) _ HX.out Tryd.underlying34 rfl HI.out ?_ ?_; · rfl)
                      | (refine wpList_build_v_g _ 34 rfl _ (build_nameZ _) ?_ ?_; · rfl)
                      | (refine wpList_bin_agg_g _ .eql 34 34 (.tmp 73) (.tmp 74) rfl guardName (nameL nr).toArray (nameL nameZ).toArray rfl rfl _ HQ.out ?_ ?_; · rfl))
                    go_ret
                    exact ⟨by rw [HS.out]; first | rfl | simp_all, HW.out.2⟩
                · have i1 := inP_no (n := a3) (lo := 1) (hi := 255) (fun h => v2 h.2)
                  have d1 := decide_eq_true v1
                  have d2 := decide_eq_false v2
                  have HS := Lib.hid (show ok = false by rw [HS0.out]; simp [hB, i1])
                  clear HS0
                  go_wp2_with (first
                    | (go_at_call 65; refine (sized9_any _ _).mono ?_; rintro e w' ⟨rfl, rfl⟩))
                  go_ret
                  exact ⟨by rw [HS.out]; first | rfl | simp_all, HW.out.2⟩
              · have i1 := inP_no (n := a3) (lo := 1) (hi := 255) (fun h => v1 h.1)
                have d1 := decide_eq_false v1
                have HS := Lib.hid (show ok = false by rw [HS0.out]; simp [hB, i1])
                clear HS0
                go_wp2_with (first
                  | (go_at_call 65; refine (sized9_any _ _).mono ?_; rintro e w' ⟨rfl, rfl⟩))
                go_ret
                exact ⟨by rw [HS.out]; first | rfl | simp_all, HW.out.2⟩
            · have k4b : (a2 == 4) = false := by simp [k4]
              have HS := Lib.hid (show ok = false by rw [HS0.out]; simp [hB, k1, k2, k3, k4])
              clear HS0
              go_wp2_with (first
                | (go_at_call 65; refine (sized9_any _ _).mono ?_; rintro e w' ⟨rfl, rfl⟩))
              go_ret
              exact ⟨by rw [HS.out]; first | rfl | simp_all, HW.out.2⟩
end Go.Proofs.YtkpmlcgbffdloaaDoor
end

section
namespace Go.Proofs.YtkpmlcgbffdloaaDoor
open Go.RowKit
set_option linter.unusedVariables false
set_option maxRecDepth 100000
set_option linter.unusedSimpArgs false
set_option linter.unusedSectionVars false

def askMPost (p : Nat) (a : (Int × Int) × SS) (cv : Value) (F : List Nat) (w : World) (e : Ending) (w' : World) : Prop :=
  e = .returned (.tuple #[.int .i64 a.1.1, .int .i64 a.1.2]) ∧ ∃ ev' G', isM w' p a.2 cv ev' (F ++ G') ∧ newIn w w' G' ∧ keepBut [p] w w'
theorem tookM_eq (s : SS) (r : RQ) : ((((((s.setReq (r.as s.client s.next)).setLast s.next).setNext (s.next + 1)).setWaits true).setSent false).setLate false).setTicks 0 = s.took r := by
  obtain ⟨a, b, c, d, e, f, g, h, i, j, k⟩ := s
  simp only [SS.took, SS.setReq, SS.setWaits, SS.setLate, SS.setSent, SS.setTicks, SS.setLast, SS.setNext]
section
variable (p : Nat) (s : SS) (cv ev : Value) (F : List Nat) (r : RQ) (rv : Value) (w : World) (h : isM w p s cv ev F)
include h
theorem askM_stay (a : Int × Int) {w' : World} (k : keepBut [] w w') : askMPost p (a, s) cv F w (.returned (.tuple #[.int .i64 a.1, .int .i64 a.2])) w' :=
  ⟨rfl, ev, [], by rw [List.append_nil]; exact h.over k, by simp [newIn], k.more (by simp)⟩
set_option maxHeartbeats 1000000 in
theorem askM_state (hw : s.waits = true) :
    Calls Tryd.prog 29 #[.pointer (some ⟨p, 0, none⟩), .agg (rqL r rv).toArray] w (askMPost p ((0, 170), s) cv F w) := by
  have k1 := (keepBut.refl [] w).alloc (.cells (rqL r rv).toArray 37)
  obtain ⟨X, hX⟩ : ∃ X, rqL r rv = X := ⟨_, rfl⟩
  rw [hX] at k1 ⊢
  obtain ⟨w1, hw1⟩ : ∃ w1, w.alloc (.cells X.toArray 37) = w1 := ⟨_, rfl⟩
  rw [hw1] at k1
  have h1 := h.over k1
  obtain ⟨_, _, _, _, _, _, _, x9, _⟩ := h1.cells
  rw [hw] at x9
  have HW := Lib.hid hw1
  have H0 := Lib.hid (And.intro h k1)
  clear h k1 h1 hw1 hX hw
  go_enter Tryd.func29, Tryd.ntmps29
  go_wp2_with (first
    | (with_reducible refine wpList_box_to _ _ rfl 37 (.tmp 1) rfl _ rfl HW.out ?_))
  go_ret2
  exact askM_stay p s cv ev F w H0.out.1 (0, 170) H0.out.2
set_option maxHeartbeats 1000000 in
theorem askM_limit (hw : s.waits = false) (hn : 9007199254740991 < s.next) :
    Calls Tryd.prog 29 #[.pointer (some ⟨p, 0, none⟩), .agg (rqL r rv).toArray] w (askMPost p ((0, 5), s) cv F w) := by
  have k1 := (keepBut.refl [] w).alloc (.cells (rqL r rv).toArray 37)
  obtain ⟨X, hX⟩ : ∃ X, rqL r rv = X := ⟨_, rfl⟩
  rw [hX] at k1 ⊢
  obtain ⟨w1, hw1⟩ : ∃ w1, w.alloc (.cells X.toArray 37) = w1 := ⟨_, rfl⟩
  rw [hw1] at k1
  have h1 := h.over k1
  obtain ⟨_, x1, _, _, _, _, _, x9, _⟩ := h1.cells
  rw [hw] at x9
  have HW := Lib.hid hw1
  have H0 := Lib.hid (And.intro h k1)
  clear h k1 h1 hw1 hX hw
  go_enter Tryd.func29, Tryd.ntmps29
  go_wp2_with (first
    | (with_reducible refine wpList_box_to _ _ rfl 37 (.tmp 1) rfl _ rfl HW.out ?_))
  go_ret2
  exact askM_stay p s cv ev F w H0.out.1 (0, 5) H0.out.2
/-- what both the yes and the no begin with -/
theorem askM_pre (w1 : World) (b : Nat) (k1 : keepBut [] w w1) (r1 : rowAt w1 b 37 (rqL r rv).toArray) (hb : w.heap.size = b) :
    rowAt ((w1.setCell ⟨b, 0, none⟩ (.int .i64 s.client)).setCell ⟨b, 1, none⟩ (.int .i64 s.next)) b 37 (rqL (r.as s.client s.next) rv).toArray ∧ keepBut [] w ((w1.setCell ⟨b, 0, none⟩ (.int .i64 s.client)).setCell ⟨b, 1, none⟩ (.int .i64 s.next)) := by
  have hr := (r1.set 0 (.int .i64 s.client)).set 1 (.int .i64 s.next)
  have e : ((rqL r rv).toArray.setIfInBounds 0 (.int .i64 s.client)).setIfInBounds 1 (.int .i64 s.next) = (rqL (r.as s.client s.next) rv).toArray := by simp only [List.setIfInBounds_toArray]; rfl
  rw [e] at hr
  exact ⟨hr, (k1.setCell _ _ (.inr (Nat.le_of_eq hb))).setCell _ _ (.inr (Nat.le_of_eq hb))⟩
set_option maxHeartbeats 2000000 in
theorem askM_no (G : List Nat) (hr : rqV w G r rv) (hw : s.waits = false) (hn : s.next ≤ 9007199254740991) (ht : (r.as s.client s.next).tok = false) :
    Calls Tryd.prog 29 #[.pointer (some ⟨p, 0, none⟩), .agg (rqL r rv).toArray] w (askMPost p ((0, 2), s) cv F w) := by
  have k1 := (keepBut.refl [] w).alloc (.cells (rqL r rv).toArray 37)
  have r1 := rowAt.new w 37 (rqL r rv).toArray
  obtain ⟨w1, hw1⟩ : ∃ w1, w.alloc (.cells (rqL r rv).toArray 37) = w1 := ⟨_, rfl⟩
  rw [hw1] at k1 r1
  have h1 := h.over k1
  obtain ⟨x0, x7, _, _, _, _, _, x9, _⟩ := h1.cells
  rw [hw] at x9
  have hpb : p ≠ w.heap.size := by have := h.row.lt; omega
  obtain ⟨b, hb⟩ : ∃ b, w.heap.size = b := ⟨_, rfl⟩
  rw [hb] at hpb r1
  obtain ⟨r2, k2⟩ := askM_pre p s cv ev F r rv w h w1 b k1 r1 hb
  have y0 : w1.cell? ⟨b, 0, none⟩ = some (.int .i64 r.client) := r1.cell 0
  have y1 : w1.cell? ⟨b, 1, none⟩ = some (.int .i64 r.num) := r1.cell 1
  have f0 := r1.free 0
  have f1 := r1.free 1
  have HW := Lib.hid hw1
  have HV := Lib.hid (show rqV _ G (r.as s.client s.next) rv from ⟨hr.1, hr.2.keep k2 (by simp)⟩)
  have HX := Lib.hid (And.intro r2.rangeAll (show (Tryd.prog.info? 37).map (·.size) = some (rqL (r.as s.client s.next) rv).length by rw [rqL_len HV.out.1]; exact info_rqS))
  have H0 := Lib.hid (And.intro h k2)
  have HT := Lib.hid ht
  have HC := Lib.hid (fun W => check18_any G (r.as s.client s.next) rv W)
  clear h k1 h1 hw1 hw r1 hr ht r2 k2
  go_enter Tryd.func29, Tryd.ntmps29
  go_upto_region 7 with (first
    | (with_reducible refine wpList_box_to _ _ rfl 37 (.tmp 1) rfl _ rfl HW.out ?_))
  generalize ((w1.setCell ⟨b, 0, none⟩ (.int .i64 s.client)).setCell ⟨b, 1, none⟩ (.int .i64 s.next)) = w2 at HV HX H0 ⊢
  generalize hY : rqL (r.as s.client s.next) rv = Y at *
  clear y0 y1 f0 f1 x0 x7 x9
  go_wp2_with (first
    | (refine wpList_load_mid rfl 37 (.tmp 3) rfl b 0 rfl Y _ HX.out.1 Tryd.underlying37 rfl HX.out.2 ?_)
    | (go_at_call 54; (with_reducible refine (HC.out _ HV.out).mono ?_); rintro e w3 ⟨rfl, k3⟩; rw [HT.out]; have H3 := Lib.hid k3; clear k3; simp only [toldP, Bool.false_eq_true, if_false]))
  go_ret2
  exact askM_stay p s cv ev F w H0.out.1 (0, 2) (H0.out.2.then H3.out (by simp))
set_option maxHeartbeats 2000000 in
theorem askM_yes (G : List Nat) (hr : rqV w G r rv) (hw : s.waits = false) (hn : s.next ≤ 9007199254740991) (hn0 : 1 ≤ s.next) (ht : (r.as s.client s.next).tok = true) :
    Calls Tryd.prog 29 #[.pointer (some ⟨p, 0, none⟩), .agg (rqL r rv).toArray] w (askMPost p ((s.next, 0), s.took r) cv F w) := by
  have k1 := (keepBut.refl [] w).alloc (.cells (rqL r rv).toArray 37)
  have r1 := rowAt.new w 37 (rqL r rv).toArray
  obtain ⟨w1, hw1⟩ : ∃ w1, w.alloc (.cells (rqL r rv).toArray 37) = w1 := ⟨_, rfl⟩
  rw [hw1] at k1 r1
  have h1 := h.over k1
  obtain ⟨x0, x7, _, _, _, _, _, x9, _⟩ := h1.cells
  rw [hw] at x9
  have hpb : p ≠ w.heap.size := by have := h.row.lt; omega
  obtain ⟨b, hb⟩ : ∃ b, w.heap.size = b := ⟨_, rfl⟩
  rw [hb] at hpb r1
  obtain ⟨r2, k2⟩ := askM_pre p s cv ev F r rv w h w1 b k1 r1 hb
  have y0 : w1.cell? ⟨b, 0, none⟩ = some (.int .i64 r.client) := r1.cell 0
  have y1 : w1.cell? ⟨b, 1, none⟩ = some (.int .i64 r.num) := r1.cell 1
  have f0 := r1.free 0
  have f1 := r1.free 1
  have HW := Lib.hid hw1
  have HV := Lib.hid (show rqV _ G (r.as s.client s.next) rv from ⟨hr.1, hr.2.keep k2 (by simp)⟩)
  have HX := Lib.hid (And.intro r2.rangeAll (show (Tryd.prog.info? 37).map (·.size) = some (rqL (r.as s.client s.next) rv).length by rw [rqL_len HV.out.1]; exact info_rqS))
  have H0 := Lib.hid (And.intro h (And.intro k2 r2))
  have HT := Lib.hid ht
  have HC := Lib.hid (fun W => check18_any G (r.as s.client s.next) rv W)
  have hwr : IntKind.i64.wrap (s.next + 1) = s.next + 1 := by rw [IntKind.wrap_i64]; omega
  clear h k1 h1 hw1 hw r1 hr ht r2 k2
  go_enter Tryd.func29, Tryd.ntmps29
  go_upto_region 7 with (first
    | (with_reducible refine wpList_box_to _ _ rfl 37 (.tmp 1) rfl _ rfl HW.out ?_))
  generalize ((w1.setCell ⟨b, 0, none⟩ (.int .i64 s.client)).setCell ⟨b, 1, none⟩ (.int .i64 s.next)) = w2 at HV HX H0 ⊢
  generalize hY : rqL (r.as s.client s.next) rv = Y at *
  clear y0 y1 f0 f1 x0 x7 x9
  have HN := Lib.hid (And.intro hn hn0)
  clear hn hn0
  go_upto_region 10 with (first
    | (refine wpList_load_mid rfl 37 (.tmp 3) rfl b 0 rfl Y _ HX.out.1 Tryd.underlying37 rfl HX.out.2 ?_)
    | (go_at_call 54; (with_reducible refine (HC.out _ HV.out).mono ?_); rintro e w3 ⟨rfl, k3⟩; rw [HT.out]; have H3 := Lib.hid k3; clear k3; simp only [toldP, if_true]))
  have h3 := (H0.out.1.over H0.out.2.1).over H3.out
  have r3 := H3.out.row H0.out.2.2 (by simp)
  have k3 := H0.out.2.1.then H3.out (by simp)
  have HX3 := Lib.hid (And.intro r3.rangeAll HX.out.2)
  have hlen : (r.as s.client s.next).env.length ≤ 1000000 := tok_len HT.out
  have HD := Lib.hid (copyReqD_any G (r.as s.client s.next) rv w3 ⟨HV.out.1, HV.out.2.keep H3.out (by simp)⟩ hlen)
  rw [hY] at HD
  have H4 := Lib.hid (And.intro h3 k3)
  clear h3 r3 k3 hlen
  go_upto_region 11 with (first
    | (refine wpList_load_mid rfl 37 (.tmp 3) rfl b 0 rfl Y _ HX3.out.1 Tryd.underlying37 rfl HX3.out.2 ?_)
    | (go_at_call 26; (with_reducible refine HD.out.mono ?_); rintro e w4 ⟨ev', rfl, G', hv', hG', k4⟩; have h4 := H4.out.1.over k4; have H5 := Lib.hid (And.intro hv' (And.intro hG' (And.intro k4 h4))); clear hv' hG' k4 h4)
    | (refine wpList_store_mid rfl 37 (.tmp 35) (.tmp 33) rfl p 7 (rqL (r.as s.client s.next) ev').toArray rfl rfl (H5.out.2.2.2.row.there (by rw [List.size_toArray, rqL_len HV.out.1, List.size_toArray, msL_len _ H5.out.2.2.2.nm]; decide)) (by rw [List.size_toArray, rqL_len HV.out.1]; exact info_rqS) (by simpa using rqL_one _ H5.out.1.2.one) ?_))
  have hF : ∀ y ∈ G', y < w4.heap.size ∧ y ≠ p := fun y hy => by
    have h1 := H5.out.2.1 y hy
    have h2 := H4.out.1.row.lt
    omega
  obtain ⟨h5, k5⟩ := H5.out.2.2.2.req H5.out.1 hF
  generalize w4.setCells p 7 (rqL (r.as s.client s.next) ev') = w5 at h5 k5 ⊢
  obtain ⟨_, x1, _, _, _, _, _, z44, z45, z46, z47, z48⟩ := h5.cells
  replace x1 : w5.cell? ⟨p, 1, none⟩ = some (.int .i64 s.next) := x1
  have g1 := h5.row.free 1
  have g44 := h5.row.free 44
  have g45 := h5.row.free 45
  have g46 := h5.row.free 46
  have g47 := h5.row.free 47
  have g48 := h5.row.free 48
  have H6 := Lib.hid (And.intro h5 k5)
  clear h5 k5 hF
  go_wp2_with fail
  go_ret2
  have hw64 : wrap64 (s.next + 1) = s.next + 1 := by have := HN.out; unfold wrap64; omega
  try rw [hw64]
  have a1 := H6.out.1.last s.next
  have a2 := a1.1.next (s.next + 1)
  have a3 := a2.1.waits true
  have a4 := a3.1.sent false
  have a5 := a4.1.late false
  have a6 := a5.1.ticks 0
  have kk := ((((((H6.out.2.then a1.2 (fun x hx => .inl hx)).then a2.2 (fun x hx => .inl hx)).then a3.2 (fun x hx => .inl hx)).then a4.2 (fun x hx => .inl hx)).then a5.2 (fun x hx => .inl hx)).then a6.2 (fun x hx => .inl hx))
  have k4 := H4.out.2.then H5.out.2.2.1 (by simp)
  refine ⟨rfl, ev', G', (by have h := a6.1; rw [tookM_eq] at h; exact h), fun y hy => ⟨?_, ?_⟩, (k4.more (by simp)).then kk (fun x hx => .inl hx)⟩
  · have h1 := (H5.out.2.1 y hy).1
    have h2 := H4.out.2.size
    omega
  · have h1 := (H5.out.2.1 y hy).2
    have h2 := kk.size
    omega
theorem askM_any (G : List Nat) (hr : rqV w G r rv) (hn0 : 1 ≤ s.next) :
    Calls Tryd.prog 29 #[.pointer (some ⟨p, 0, none⟩), .agg (rqL r rv).toArray] w (askMPost p (s.askP r) cv F w) := by
  unfold SS.askP
  cases hw : s.waits with
  | true => simpa using askM_state p s cv ev F r rv w h hw
  | false =>
    rw [if_neg (by simp)]
    by_cases hn : 9007199254740991 < s.next
    · rw [if_pos hn]; exact askM_limit p s cv ev F r rv w h hw hn
    · rw [if_neg hn]
      cases ht : (r.as s.client s.next).tok with
      | true => rw [if_pos rfl]; exact askM_yes p s cv ev F r rv w h G hr hw (by omega) hn0 ht
      | false => rw [if_neg (by simp)]; exact askM_no p s cv ev F r rv w h G hr hw (by omega) ht
end
end Go.Proofs.YtkpmlcgbffdloaaDoor
end

section
namespace Go.Proofs.YtkpmlcgbffdloaaDoor
open Go.RowKit
set_option linter.unusedVariables false
set_option maxRecDepth 100000
set_option linter.unusedSimpArgs false

set_option maxHeartbeats 4000000 in
theorem confM_any (p : Nat) (s : SS) (cv ev : Value) (F : List Nat) (w : World) (h : isM w p s cv ev F) (hl : s.conf.chain.length ≤ 1000000) :
    Calls Tryd.prog 37 #[.pointer (some ⟨p, 0, none⟩)] w (confQPost s w) := by
  obtain ⟨Z, hZ⟩ : ∃ Z, cfL cfZero nilV = Z := ⟨_, rfl⟩
  have hzv := zv_cf
  have hZl : Z.length = 3 := by rw [← hZ]; rfl
  rw [hZ] at hzv
  have k1 := (keepBut.refl [] w).alloc (.cells Z.toArray 41)
  have r1 := rowAt.new w 41 Z.toArray
  obtain ⟨w1, hw1⟩ : ∃ w1, w.alloc (.cells Z.toArray 41) = w1 := ⟨_, rfl⟩
  rw [hw1] at k1 r1
  have h1 := h.over k1
  obtain ⟨X, hX⟩ : ∃ X, cfL s.conf cv = X := ⟨_, rfl⟩
  have hXl : X.length = 3 := by rw [← hX]; rfl
  have rX : w1.rangeAt p 4 X := fun j v hv => by
    rw [← hX] at hv
    obtain ⟨_, _, _, _, y4, y5, y6, _⟩ := h1.cells
    match j, hv with
    | 0, hv => simp [cfL] at hv; subst hv; exact y4
    | 1, hv => simp [cfL] at hv; subst hv; exact y5
    | 2, hv => simp [cfL] at hv; subst hv; exact y6
  obtain ⟨d, hd⟩ : ∃ d, w.heap.size = d := ⟨_, rfl⟩
  rw [hd] at r1
  have HD := Lib.hid hd
  have HW := Lib.hid (And.intro hw1 (And.intro hzv hZl))
  have HX := Lib.hid (And.intro hX (And.intro hXl rX))
  have HR := Lib.hid (And.intro r1 k1)
  have HC := Lib.hid (copyConfD_any F s.conf cv w1 (h.chain.keep k1 (by simp)) hl)
  rw [hX] at HC
  clear h h1 k1 r1 hw1 hzv hZ hX hXl hZl rX hl
  go_enter Tryd.func37, Tryd.ntmps37
  go_upto_region 1 with (first
    | (with_reducible refine wpList_alloc_to _ _ rfl 41 rfl _ HW.out.2.1 HW.out.1 ?_))
  try simp only [hd]
  go_wp2_with (first
    | (refine wpList_load_mid rfl 41 (.tmp 5) rfl p 4 rfl X _ HX.out.2.2 Tryd.underlying41 rfl (by rw [HX.out.2.1]; exact info_cf) ?_)
    | (go_at_call 33; (with_reducible refine HC.out.mono ?_); rintro e w2 ⟨cv', rfl, G', hv', hG', k2⟩; obtain ⟨Y, hY⟩ : ∃ Y, cfL s.conf cv' = Y := ⟨_, rfl⟩; have HY := Lib.hid (And.intro hY (And.intro (show Y.length = 3 by rw [← hY]; rfl) (show ∀ u ∈ Y, u.oneCell' = true by rw [← hY]; exact cfL_one _ hv'.one))); have q2 := k2.row HR.out.1 (by simp); have H2 := Lib.hid (And.intro hv' (And.intro hG' (And.intro k2 q2))); have HT := Lib.hid (q2.there (o := 0) (n := 3) (by rw [List.size_toArray, HW.out.2.2]; decide)); rw [hY]; clear hv' hG' k2 q2 hY)
    | (refine wpList_store_mid rfl 41 (.tmp 2) (.tmp 7) rfl d 0 Y.toArray rfl rfl (by rw [List.size_toArray, HY.out.2.1]; exact HT.out) (by rw [List.size_toArray, HY.out.2.1]; exact info_cf) (by simpa using HY.out.2.2) ?_))
  have r9 := set0 H2.out.2.2.2 (show Y.length = Z.length by rw [HY.out.2.1, HW.out.2.2])
  have k5 : keepBut [d] w2 (w2.setCells d 0 Y) := (keepBut.refl _ _).setL (.inl (by simp))
  have hd1 := HR.out.1.lt
  refine bodyPost_ret (results_cell_row rfl _ _ d 41 _ (0, 0) _ rfl r9 Tryd.underlying41 rfl (by rw [List.size_toArray, HY.out.2.1]; exact info_cf)) rfl ?_
  refine ⟨cv', G', by rw [HY.out.1], H2.out.1.keep k5 (fun y hy hm => ?_), fun y hy => ⟨?_, ?_⟩, (HR.out.2.then H2.out.2.2.1 (by simp)).then k5 (fun y hy => .inr ?_)⟩
  · have h1 := (H2.out.2.1 y hy).1
    simp only [List.mem_singleton] at hm
    omega
  · have h1 := (H2.out.2.1 y hy).1
    have h2 := HR.out.2.size
    omega
  · have h1 := (H2.out.2.1 y hy).2
    have h3 := k5.size
    omega
  · have := HD.out
    simp only [List.mem_singleton] at hy
    omega
end Go.Proofs.YtkpmlcgbffdloaaDoor
end
