/-
  SESS, 10: the cells that a session's methods store into; Ask.
-/
import Derived.Test.YtkpmlcgbffdloaaDoorSess9
import Derived.RegionTactic
namespace Go.Proofs.YtkpmlcgbffdloaaDoor
open Go.RowKit
set_option linter.unusedVariables false
set_option maxRecDepth 100000

theorem putL_mid : ∀ (a b b' c : List Value), b.length = b'.length → putL (a ++ (b ++ c)).toArray a.length b' = (a ++ (b' ++ c)).toArray := fun a b b' c h => by
  refine Array.ext_getElem? (fun i => ?_)
  rw [putL_get _ _ _ _ (by simp; omega)]
  simp only [List.getElem?_toArray]
  by_cases h1 : i < a.length
  · rw [if_neg (by omega), List.getElem?_append_left h1, List.getElem?_append_left h1]
  · by_cases h2 : i - a.length < b'.length
    · rw [if_pos (by omega), List.getElem?_append_right (by omega), List.getElem?_append_left h2]
    · rw [if_neg (by omega), List.getElem?_append_right (by omega), List.getElem?_append_right (by omega), List.getElem?_append_right (by omega), List.getElem?_append_right (by omega), h]
/-- a request, as the client asks it under a number -/
def RQ.as (r : RQ) (c n : Int) : RQ := ⟨c, n, r.kind, r.version, r.name, r.env⟩
def SS.setWaits (s : SS) (b : Bool) : SS := { s with waits := b }
def SS.setLate (s : SS) (b : Bool) : SS := { s with late := b }
def SS.setSent (s : SS) (b : Bool) : SS := { s with sent := b }
def SS.setTicks (s : SS) (n : Int) : SS := { s with ticks := n }
def SS.setLast (s : SS) (n : Int) : SS := { s with last := n }
def SS.setNext (s : SS) (n : Int) : SS := { s with next := n }
def SS.setReq (s : SS) (r : RQ) : SS := { s with req := r }
theorem ssL_tail (s : SS) {q : Nat} {cv ev : Value} (h : s.req.name.length = 32) (u : Value) : (ssL s q cv ev).set 48 u = ssHead s q cv ++ (rqL s.req ev ++ [u, .bool s.sent]) ∧ (ssL s q cv ev).set 49 u = ssHead s q cv ++ (rqL s.req ev ++ [.int .i64 s.ticks, u]) := by
  have e1 : (rqL s.req ev).length = 37 := rqL_len h
  have e2 : (ssHead s q cv).length = 11 := rfl
  unfold ssL
  constructor
  · rw [List.set_append_right _ _ (by omega), e2, List.set_append_right _ _ (by omega), e1]; rfl
  · rw [List.set_append_right _ _ (by omega), e2, List.set_append_right _ _ (by omega), e1]; rfl
section
variable {w : World} {p q : Nat} {s : SS} {cv ev : Value} {F K : List Nat} {T : List (PK × List Value)}
theorem isQ.poke (h : isQ w p q s cv ev F K T) {s' : SS} (i : Nat) (u : Value) (hs : (ssL s q cv ev).set i u = ssL s' q cv ev) (hr : s'.req = s.req) (hc : s'.conf = s.conf) : isQ (w.setCell ⟨p, i, none⟩ u) p q s' cv ev F K T ∧ keepBut [p] w (w.setCell ⟨p, i, none⟩ u) := by
  have hk : keepBut [p] w (w.setCell ⟨p, i, none⟩ u) := (keepBut.refl _ _).setCell _ _ (.inl (by simp))
  have r := h.row.set i u
  have e : (ssL s q cv ev).toArray.setIfInBounds i u = (ssL s' q cv ev).toArray := by rw [← hs]; simp
  rw [e] at r
  have hF : ∀ y ∈ F, y ∉ [p] := fun y hy => by simpa using (h.far y (by simp [hy])).2.1
  have hK : ∀ y ∈ K, y ∉ [p] := fun y hy => by simpa using (h.far y (by simp [hy])).2.1
  exact ⟨⟨r, h.ch.keep hk (by simpa using h.apart.symm), fun t ht => (h.its t ht).keep hk hK, by rw [hr]; exact h.nm, by rw [hr]; exact h.env.keep hk hF, by rw [hc]; exact h.chain.keep hk hF, fun y hy => ⟨Nat.lt_of_lt_of_le (h.far y hy).1 hk.size, (h.far y hy).2⟩⟩, hk⟩
theorem isQ.waits (h : isQ w p q s cv ev F K T) (b : Bool) : isQ (w.setCell ⟨p, 9, none⟩ (.bool b)) p q (s.setWaits b) cv ev F K T ∧ keepBut [p] w (w.setCell ⟨p, 9, none⟩ (.bool b)) := h.poke 9 _ rfl rfl rfl
theorem isQ.late (h : isQ w p q s cv ev F K T) (b : Bool) : isQ (w.setCell ⟨p, 10, none⟩ (.bool b)) p q (s.setLate b) cv ev F K T ∧ keepBut [p] w (w.setCell ⟨p, 10, none⟩ (.bool b)) := h.poke 10 _ rfl rfl rfl
theorem isQ.last (h : isQ w p q s cv ev F K T) (n : Int) : isQ (w.setCell ⟨p, 8, none⟩ (.int .i64 n)) p q (s.setLast n) cv ev F K T ∧ keepBut [p] w (w.setCell ⟨p, 8, none⟩ (.int .i64 n)) := h.poke 8 _ rfl rfl rfl
theorem isQ.next (h : isQ w p q s cv ev F K T) (n : Int) : isQ (w.setCell ⟨p, 7, none⟩ (.int .i64 n)) p q (s.setNext n) cv ev F K T ∧ keepBut [p] w (w.setCell ⟨p, 7, none⟩ (.int .i64 n)) := h.poke 7 _ rfl rfl rfl
theorem isQ.ticks (h : isQ w p q s cv ev F K T) (n : Int) : isQ (w.setCell ⟨p, 48, none⟩ (.int .i64 n)) p q (s.setTicks n) cv ev F K T ∧ keepBut [p] w (w.setCell ⟨p, 48, none⟩ (.int .i64 n)) := h.poke 48 _ (ssL_tail s h.nm _).1 rfl rfl
theorem isQ.sent (h : isQ w p q s cv ev F K T) (b : Bool) : isQ (w.setCell ⟨p, 49, none⟩ (.bool b)) p q (s.setSent b) cv ev F K T ∧ keepBut [p] w (w.setCell ⟨p, 49, none⟩ (.bool b)) := h.poke 49 _ (ssL_tail s h.nm _).2 rfl rfl
theorem ssL_req (s : SS) {q : Nat} {cv ev ev' : Value} (h : s.req.name.length = 32) (r : RQ) (h' : r.name.length = 32) : putL (ssL s q cv ev).toArray 11 (rqL r ev') = (ssL (s.setReq r) q cv ev').toArray := by
  have e1 : (rqL s.req ev).length = (rqL r ev').length := by rw [rqL_len h, rqL_len h']
  exact putL_mid (ssHead s q cv) (rqL s.req ev) (rqL r ev') [.int .i64 s.ticks, .bool s.sent] e1
theorem isQ.req (h : isQ w p q s cv ev F K T) {r : RQ} {ev' : Value} {G : List Nat} (hr : rqV w G r ev') (hG : ∀ y ∈ G, y < w.heap.size ∧ y ≠ p ∧ y ≠ q) : isQ (w.setCells p 11 (rqL r ev')) p q (s.setReq r) cv ev' (F ++ G) K T ∧ keepBut [p] w (w.setCells p 11 (rqL r ev')) := by
  have hk : keepBut [p] w (w.setCells p 11 (rqL r ev')) := (keepBut.refl _ _).setL (.inl (by simp))
  have rr := h.row.setL (vs := rqL r ev') (o := 11)
  rw [ssL_req s h.nm r hr.1] at rr
  have hF : ∀ y ∈ F, y ∉ [p] := fun y hy => by simpa using (h.far y (by simp [hy])).2.1
  have hK : ∀ y ∈ K, y ∉ [p] := fun y hy => by simpa using (h.far y (by simp [hy])).2.1
  have hGp : ∀ y ∈ G, y ∉ [p] := fun y hy => by simpa using (hG y hy).2.1
  refine ⟨⟨rr, h.ch.keep hk (by simpa using h.apart.symm), fun t ht => (h.its t ht).keep hk hK, hr.1, (hr.2.keep hk hGp).more (by simp +contextual), (h.chain.keep hk hF).more (by simp +contextual), fun y hy => ?_⟩, hk⟩
  have : y ∈ F ++ K ∨ y ∈ G := by simp only [List.mem_append] at hy ⊢; rcases hy with (hy | hy) | hy <;> simp [hy]
  rcases this with hy | hy
  · exact ⟨Nat.lt_of_lt_of_le (h.far y hy).1 hk.size, (h.far y hy).2⟩
  · exact ⟨Nat.lt_of_lt_of_le (hG y hy).1 hk.size, (hG y hy).2⟩
end
end Go.Proofs.YtkpmlcgbffdloaaDoor
