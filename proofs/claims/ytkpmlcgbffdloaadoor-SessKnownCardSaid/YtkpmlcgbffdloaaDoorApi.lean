/-
  API: requests, answers, configs, votes and packets as values: the parts of Pk1 to Pk33 that name no function of package pack (joined by gen/mkapi.py).
-/
import Derived.Test.YtkpmlcgbffdloaaDoorLow3
import Derived.Test.YtkpmlcgbffdloaaDoorLow1
import Derived.Laws.Cover1
import Derived.Deep.RegionHeld3
import Derived.Deep.CutBlock
import Derived.Deep.DeepCutAuto
import Derived.BigRegion
import Derived.Outline
import Derived.Lib.Hide
import Derived.Handy
import Derived.BigQuiet
import Derived.Laws.Tables
import Derived.Deep.MidRow
import Derived.Laws.ResultCell
namespace Go.Proofs.YtkpmlcgbffdloaaDoor
open Go.RowKit
set_option linter.unusedVariables false
set_option maxRecDepth 100000
set_option linter.unusedSimpArgs false
section


def inP (n lo hi : Int) : Bool := decide (lo ≤ n) && decide (n ≤ hi)
theorem inP_yes {n lo hi : Int} (h : lo ≤ n ∧ n ≤ hi) : inP n lo hi = true := by unfold inP; simp [h.1, h.2]
theorem inP_no {n lo hi : Int} (h : ¬ (lo ≤ n ∧ n ≤ hi)) : inP n lo hi = false := by
  cases e : inP n lo hi with
  | false => rfl
  | true => exact absurd (by simpa [inP] using e) h
theorem inP_iff {n lo hi : Int} : inP n lo hi = true ↔ lo ≤ n ∧ n ≤ hi := by simp [inP]
def mxI : Int := 9007199254740991
def nodeP (n : Int) : Bool := inP n 0 2 || (inP n 10 13 || inP n 20 22)
def seqP (kind seq : Int) : Bool := inP seq (if kind = 5 then -1 else 0) 9007199254740990
def toldP (b : Bool) : Int := if b then 0 else 2
/-- the fields of each kind -/
def fieldsT : Nat → Int
  | 0 => 0 | 1 => 16 | 2 => 32 | 3 => 19 | 4 => 3 | 5 => 3 | 6 => 259 | 7 => 64 | 8 => 9 | 9 => 1024 | 10 => 6 | 11 => 134 | 12 => 70 | 13 => 6 | _ => 4
def fieldsP (k : Int) : Int := if 0 ≤ k ∧ k ≤ 14 then fieldsT k.toNat else 0
def fieldsAt (w : World) : Prop := ∀ k : Nat, k < 15 → w.cell? ⟨0, k, none⟩ = some (.int .i64 (fieldsT k))
theorem fieldsAt.keep {S : List Nat} {w w' : World} (h : fieldsAt w) (hk : keepBut S w w') (hS : 0 ∉ S) : fieldsAt w' := fun k hk' => by
  have h1 := h k hk'
  exact (hk.cell (p := ⟨0, k, none⟩) (World.block_lt_of_cell? w _ h1) hS).trans h1

end

section


structure RQ where
  client : Int
  num : Int
  kind : Int
  version : Int
  name : List UInt8
  env : List UInt8
structure AN where
  client : Int
  num : Int
  code : Int
  version : Int
  epoch : Int
  name : List UInt8
  env : List UInt8
structure CF where
  num : Int
  full : Int
  chain : List Int
structure VT where
  ballot : Int
  conf : CF
structure PK where
  kind : Int
  frm : Int
  dst : Int
  num : Int
  seq : Int
  ballot : Int
  ready : Bool
  req : RQ
  ans : AN
  conf : CF
  votes : List VT
  bytes : List UInt8

/-- the value v is a slice that reads as the bytes l, in the blocks F -/
def bytesV (w : World) (F : List Nat) (v : Value) (l : List UInt8) : Prop :=
  ∃ (A : Option Addr) (c g : Nat), v = .slice A l.length c ∧ l.length ≤ c ∧ c ≤ maxLen ∧ seen w A g l ∧ (l ≠ [] → g ∈ F)
theorem bytesV.keep {S F : List Nat} {w w' : World} {v : Value} {l : List UInt8} (h : bytesV w F v l) (hk : keepBut S w w') (hS : ∀ y ∈ F, y ∉ S) : bytesV w' F v l := by
  obtain ⟨A, c, g, h1, h2, h3, h5, h6⟩ := h
  exact ⟨A, c, g, h1, h2, h3, h5.keep hk (fun hl => hS g (h6 hl)), h6⟩
theorem bytesV.more {F G : List Nat} {w : World} {v : Value} {l : List UInt8} (h : bytesV w F v l) (hF : ∀ y ∈ F, y ∈ G) : bytesV w G v l := by
  obtain ⟨A, c, g, h1, h2, h3, h5, h6⟩ := h
  exact ⟨A, c, g, h1, h2, h3, h5, fun hl => hF g (h6 hl)⟩
theorem bytesV.nil (w : World) (F : List Nat) : bytesV w F (.slice none 0 0) [] := ⟨none, 0, 0, rfl, by simp, by simp [maxLen], seen.nil _ _ _, fun h => absurd rfl h⟩
/-- the value v is a slice that reads as the numbers l, in the blocks F -/
def intsV (w : World) (F : List Nat) (v : Value) (l : List Int) : Prop :=
  ∃ (A : Option Addr) (c g : Nat), v = .slice A l.length c ∧ l.length ≤ c ∧ c ≤ maxLen ∧ reads w A g l.length 1 (l.map (Value.int .i64)) ∧ (l ≠ [] → g ∈ F)
theorem reads.keepS {S : List Nat} {w w' : World} {A : Option Addr} {g n sz : Nat} {xs : List Value} (h : reads w A g n sz xs) (hk : keepBut S w w') (hS : 0 < n → g ∉ S) : reads w' A g n sz xs := by
  refine ⟨h.1, fun hn => ?_⟩
  obtain ⟨o, e1, e2, e3⟩ := h.2 hn
  exact ⟨o, e1, Nat.lt_of_lt_of_le e2 hk.size, fun j u hu => (hk.cell (p := ⟨g, o + j, none⟩) e2 (hS hn)).trans (e3 j u hu)⟩
theorem intsV.keep {S F : List Nat} {w w' : World} {v : Value} {l : List Int} (h : intsV w F v l) (hk : keepBut S w w') (hS : ∀ y ∈ F, y ∉ S) : intsV w' F v l := by
  obtain ⟨A, c, g, h1, h2, h3, h5, h6⟩ := h
  exact ⟨A, c, g, h1, h2, h3, h5.keepS hk (fun hl => hS g (h6 (List.length_pos_iff.1 hl))), h6⟩
theorem intsV.more {F G : List Nat} {w : World} {v : Value} {l : List Int} (h : intsV w F v l) (hF : ∀ y ∈ F, y ∈ G) : intsV w G v l := by
  obtain ⟨A, c, g, h1, h2, h3, h5, h6⟩ := h
  exact ⟨A, c, g, h1, h2, h3, h5, fun hl => hF g (h6 hl)⟩
theorem intsV.nil (w : World) (F : List Nat) : intsV w F (.slice none 0 0) [] := ⟨none, 0, 0, rfl, by simp, by simp [maxLen], ⟨rfl, fun h => absurd h (by simp)⟩, fun h => absurd rfl h⟩

/-! their cells -/
def rqL (r : RQ) (ev : Value) : List Value := .int .i64 r.client :: .int .i64 r.num :: .int .i64 r.kind :: .int .i64 r.version :: (nameL r.name ++ [ev])
def anL (a : AN) (ev : Value) : List Value := .int .i64 a.client :: .int .i64 a.num :: .int .i64 a.code :: .int .i64 a.version :: .int .i64 a.epoch :: (nameL a.name ++ [ev])
def cfL (c : CF) (cv : Value) : List Value := [.int .i64 c.num, .int .i64 c.full, cv]
def vtL (v : VT) (cv : Value) : List Value := .int .i64 v.ballot :: cfL v.conf cv
def flatVT : List (VT × Value) → List Value
  | [] => []
  | t :: r => vtL t.1 t.2 ++ flatVT r
theorem flatVT_len : ∀ T : List (VT × Value), (flatVT T).length = T.length * 4
  | [] => rfl
  | t :: r => by simp [flatVT, vtL, cfL, flatVT_len r]; omega
def pkL (p : PK) (ev av cv vv bw : Value) : List Value :=
  .int .i64 p.kind :: .int .i64 p.frm :: .int .i64 p.dst :: .int .i64 p.num :: .int .i64 p.seq :: .int .i64 p.ballot :: .bool p.ready :: (rqL p.req ev ++ (anL p.ans av ++ (cfL p.conf cv ++ [vv, bw])))
theorem rqL_len {r : RQ} {ev : Value} (h : r.name.length = 32) : (rqL r ev).length = 37 := by simp [rqL, nameL_len, h]
theorem anL_len {a : AN} {ev : Value} (h : a.name.length = 32) : (anL a ev).length = 38 := by simp [anL, nameL_len, h]
theorem pkL_len {p : PK} {ev av cv vv bw : Value} (h : p.req.name.length = 32) (h' : p.ans.name.length = 32) : (pkL p ev av cv vv bw).length = 87 := by
  have e1 : (rqL p.req ev).length = 37 := rqL_len h
  have e2 : (anL p.ans av).length = 38 := anL_len h'
  unfold pkL
  simp only [List.length_cons, List.length_append, e1, e2]
  rfl
theorem mid_at {l m r : List Value} {k : Nat} (hk : l.length = k) : ∀ j v, m[j]? = some v → (l ++ (m ++ r))[k + j]? = some v := fun j v hv => by
  subst hk
  rw [List.getElem?_append_right (by omega), show l.length + j - l.length = j by omega, List.getElem?_append_left (List.getElem?_eq_some_iff.1 hv).1]
  exact hv
theorem rqL_name (r : RQ) (ev : Value) : ∀ j v, (nameL r.name)[j]? = some v → (rqL r ev).toArray[4 + j]? = some v := fun j v hv => by
  have := mid_at (l := [.int .i64 r.client, .int .i64 r.num, .int .i64 r.kind, .int .i64 r.version]) (r := [ev]) rfl j v hv
  simpa [rqL] using this
theorem rqL_env {r : RQ} {ev : Value} (h : r.name.length = 32) : (rqL r ev).toArray[36]? = some ev := by
  have := mid_at (l := .int .i64 r.client :: .int .i64 r.num :: .int .i64 r.kind :: .int .i64 r.version :: nameL r.name) (m := [ev]) (r := []) (k := 36) (by simp [nameL_len, h]) 0 ev rfl
  simpa [rqL] using this
theorem anL_name (a : AN) (ev : Value) : ∀ j v, (nameL a.name)[j]? = some v → (anL a ev).toArray[5 + j]? = some v := fun j v hv => by
  have := mid_at (l := [.int .i64 a.client, .int .i64 a.num, .int .i64 a.code, .int .i64 a.version, .int .i64 a.epoch]) (r := [ev]) rfl j v hv
  simpa [anL] using this
theorem anL_env {a : AN} {ev : Value} (h : a.name.length = 32) : (anL a ev).toArray[37]? = some ev := by
  have := mid_at (l := .int .i64 a.client :: .int .i64 a.num :: .int .i64 a.code :: .int .i64 a.version :: .int .i64 a.epoch :: nameL a.name) (m := [ev]) (r := []) (k := 37) (by simp [nameL_len, h]) 0 ev rfl
  simpa [anL] using this
end

section


def RQ.same (r s : RQ) : Bool := (r.client == s.client) && ((r.num == s.num) && ((r.kind == s.kind) && ((r.version == s.version) && ((decide (r.name = s.name)) && (r.env == s.env)))))
def AN.same (r s : AN) : Bool := (r.client == s.client) && ((r.num == s.num) && ((r.code == s.code) && ((r.version == s.version) && ((r.epoch == s.epoch) && ((decide (r.name = s.name)) && (r.env == s.env))))))
def rqV (w : World) (F : List Nat) (r : RQ) (ev : Value) : Prop := r.name.length = 32 ∧ bytesV w F ev r.env
def anV (w : World) (F : List Nat) (a : AN) (ev : Value) : Prop := a.name.length = 32 ∧ bytesV w F ev a.env
theorem rowAt.two (w : World) (t : TypeId) (cs ds : Array Value) : rowAt ((w.alloc (.cells cs t)).alloc (.cells ds t)) w.heap.size t cs ∧ rowAt ((w.alloc (.cells cs t)).alloc (.cells ds t)) (w.heap.size + 1) t ds ∧ keepBut [] w ((w.alloc (.cells cs t)).alloc (.cells ds t)) := by
  have k1 := (keepBut.refl [] w).alloc (.cells cs t)
  have k2 := (keepBut.refl [] (w.alloc (.cells cs t))).alloc (.cells ds t)
  have r2 := rowAt.new (w.alloc (.cells cs t)) t ds
  rw [World.size_alloc] at r2
  exact ⟨k2.row (rowAt.new w t cs) (by simp), r2, k1.then k2 (by simp)⟩
end

section


theorem take_snoc_eq {l m : List Int} {k : Nat} {a b : Int} (ha : l[k]? = some a) (hb : m[k]? = some b) (h : l.take k = m.take k) (e : a = b) : l.take (k + 1) = m.take (k + 1) := by
  rw [List.take_add_one, List.take_add_one, ha, hb, h, e]
theorem take_ne {l m : List Int} {k : Nat} {a b : Int} (ha : l[k]? = some a) (hb : m[k]? = some b) (e : a ≠ b) : ¬ l = m := fun h => by
  subst h; rw [ha] at hb; injection hb with hb; exact e hb
end

section


def CF.same (c d : CF) : Bool := (c.num == d.num) && ((c.full == d.full) && decide (c.chain = d.chain))
def VT.same (v u : VT) : Bool := (v.ballot == u.ballot) && v.conf.same u.conf
theorem CF.same_iff (c d : CF) : c.same d = true ↔ c = d := by
  obtain ⟨a, b, l⟩ := c
  obtain ⟨a', b', l'⟩ := d
  simp [CF.same]
theorem VT.same_iff (c d : VT) : c.same d = true ↔ c = d := by
  obtain ⟨a, l⟩ := c
  obtain ⟨a', l'⟩ := d
  simp [VT.same, CF.same_iff]
/-- the value v is a slice of votes that reads as l, in the blocks F -/
def votesV (w : World) (F : List Nat) (v : Value) (l : List VT) : Prop :=
  ∃ (A : Option Addr) (c g : Nat) (T : List (VT × Value)), v = .slice A l.length c ∧ l.length ≤ c ∧ c ≤ maxLen ∧ T.map (·.1) = l ∧ reads w A g l.length 4 (flatVT T) ∧ (∀ t ∈ T, intsV w F t.2 t.1.conf.chain) ∧ (l ≠ [] → g ∈ F)
theorem votesV.keep {S F : List Nat} {w w' : World} {v : Value} {l : List VT} (h : votesV w F v l) (hk : keepBut S w w') (hS : ∀ y ∈ F, y ∉ S) : votesV w' F v l := by
  obtain ⟨A, c, g, T, h1, h2, h3, h4, h5, h6, h7⟩ := h
  exact ⟨A, c, g, T, h1, h2, h3, h4, h5.keepS hk (fun hl => hS g (h7 (List.length_pos_iff.1 hl))), fun t ht => (h6 t ht).keep hk hS, h7⟩
theorem votesV.nil (w : World) (F : List Nat) : votesV w F (.slice none 0 0) [] := ⟨none, 0, 0, [], rfl, by simp, by simp [maxLen], rfl, ⟨rfl, fun h => absurd h (by simp)⟩, by simp, fun h => absurd rfl h⟩
theorem flatVT_at : ∀ (T : List (VT × Value)) (i : Nat) (t : VT × Value), T[i]? = some t → ∀ j u, (vtL t.1 t.2)[j]? = some u → (flatVT T)[i * 4 + j]? = some u
  | [], i, t, h, j, u, hu => by simp at h
  | a :: r, 0, t, h, j, u, hu => by
    simp at h
    subst h
    have hj : j < (vtL a.1 a.2).length := (List.getElem?_eq_some_iff.1 hu).1
    show (vtL a.1 a.2 ++ flatVT r)[0 * 4 + j]? = some u
    rw [show 0 * 4 + j = j by omega, List.getElem?_append_left hj]
    exact hu
  | a :: r, i + 1, t, h, j, u, hu => by
    have := flatVT_at r i t (by simpa using h) j u hu
    show (vtL a.1 a.2 ++ flatVT r)[(i + 1) * 4 + j]? = some u
    rw [List.getElem?_append_right (by simp [vtL, cfL]; omega), show (i + 1) * 4 + j - (vtL a.1 a.2).length = i * 4 + j by simp [vtL, cfL]; omega]
    exact this
/-- one vote of a list -/
theorem votesV.at {w : World} {F : List Nat} {A : Option Addr} {n c : Nat} {l : List VT} (h : votesV w F (.slice A n c) l) {i : Nat} {x : VT} (hx : l[i]? = some x) :
    ∃ g o cv, A = some ⟨g, o, none⟩ ∧ g < w.heap.size ∧ g ∈ F ∧ intsV w F cv x.conf.chain ∧ w.cell? ⟨g, o + i * 4, none⟩ = some (.int .i64 x.ballot) ∧ w.cell? ⟨g, o + i * 4 + 1, none⟩ = some (.int .i64 x.conf.num) ∧ w.cell? ⟨g, o + i * 4 + 2, none⟩ = some (.int .i64 x.conf.full) ∧ w.cell? ⟨g, o + i * 4 + 3, none⟩ = some cv := by
  obtain ⟨A', c', g, T, h1, h2, h3, h4, h5, h6, h7⟩ := h
  injection h1 with ha hb hc
  subst ha
  have hi : i < l.length := (List.getElem?_eq_some_iff.1 hx).1
  obtain ⟨o, rfl, hgl, hcell⟩ := h5.2 (by omega)
  rw [← h4, List.getElem?_map] at hx
  cases ht : T[i]? with
  | none => rw [ht] at hx; cases hx
  | some t =>
    rw [ht] at hx
    simp at hx
    subst hx
    have hf := flatVT_at T i t ht
    have hg : g ∈ F := h7 (by rintro rfl; simp at hi)
    refine ⟨g, o, t.2, rfl, hgl, hg, h6 t (List.mem_of_getElem? ht), ?_, ?_, ?_, ?_⟩
    · exact hcell _ _ (hf 0 _ rfl)
    · exact hcell _ _ (hf 1 _ rfl)
    · exact hcell _ _ (hf 2 _ rfl)
    · exact hcell _ _ (hf 3 _ rfl)

end

section


def vEq : List VT → List VT → Bool
  | [], [] => true
  | a :: l, b :: m => a.same b && vEq l m
  | [], _ :: _ => false
  | _ :: _, [] => false
theorem vEq_iff : ∀ l m : List VT, vEq l m = true ↔ l = m
  | [], [] => by simp [vEq]
  | a :: l, b :: m => by simp [vEq, VT.same_iff, vEq_iff l m]
  | [], _ :: _ => by simp [vEq]
  | _ :: _, [] => by simp [vEq]
theorem vEq_no {l m : List VT} (h : ¬ l = m) : vEq l m = false := by
  cases e : vEq l m with
  | false => rfl
  | true => exact absurd ((vEq_iff l m).1 e) h
theorem take_snocV {l m : List VT} {k : Nat} {a b : VT} (ha : l[k]? = some a) (hb : m[k]? = some b) (h : l.take k = m.take k) (e : a = b) : l.take (k + 1) = m.take (k + 1) := by
  rw [List.take_add_one, List.take_add_one, ha, hb, h, e]
theorem take_neV {l m : List VT} {k : Nat} {a b : VT} (ha : l[k]? = some a) (hb : m[k]? = some b) (e : a ≠ b) : ¬ l = m := fun h => by
  subst h; rw [ha] at hb; injection hb with hb; exact e hb
end

section


theorem rqL_one (r : RQ) {ev : Value} (he : ev.oneCell' = true) : ∀ v ∈ rqL r ev, v.oneCell' = true := by
  intro v hv
  simp only [rqL, nameL, List.mem_cons, List.mem_append, List.mem_map, List.not_mem_nil, or_false] at hv
  rcases hv with rfl | rfl | rfl | rfl | ⟨b, _, rfl⟩ | rfl
  all_goals first | rfl | exact he
def rqZero : RQ := ⟨0, 0, 0, 0, List.replicate 32 0, []⟩
theorem rqZero_cells : (rqL rqZero (.slice none 0 0)).toArray = #[.int .i64 0, .int .i64 0, .int .i64 0, .int .i64 0, .int .u8 0, .int .u8 0, .int .u8 0, .int .u8 0, .int .u8 0, .int .u8 0, .int .u8 0, .int .u8 0, .int .u8 0, .int .u8 0, .int .u8 0, .int .u8 0, .int .u8 0, .int .u8 0, .int .u8 0, .int .u8 0, .int .u8 0, .int .u8 0, .int .u8 0, .int .u8 0, .int .u8 0, .int .u8 0, .int .u8 0, .int .u8 0, .int .u8 0, .int .u8 0, .int .u8 0, .int .u8 0, .int .u8 0, .int .u8 0, .int .u8 0, .int .u8 0, .slice none 0 0] := rfl
theorem info_rq : (Tryd.prog.info? 37).map (·.size) = some 37 := by kernel_rfl
theorem anL_one (r : AN) {ev : Value} (he : ev.oneCell' = true) : ∀ v ∈ anL r ev, v.oneCell' = true := by
  intro v hv
  simp only [anL, nameL, List.mem_cons, List.mem_append, List.mem_map, List.not_mem_nil, or_false] at hv
  rcases hv with rfl | rfl | rfl | rfl | rfl | ⟨b, _, rfl⟩ | rfl
  all_goals first | rfl | exact he
def anZero : AN := ⟨0, 0, 0, 0, 0, List.replicate 32 0, []⟩
theorem anZero_cells : (anL anZero (.slice none 0 0)).toArray = #[.int .i64 0, .int .i64 0, .int .i64 0, .int .i64 0, .int .i64 0, .int .u8 0, .int .u8 0, .int .u8 0, .int .u8 0, .int .u8 0, .int .u8 0, .int .u8 0, .int .u8 0, .int .u8 0, .int .u8 0, .int .u8 0, .int .u8 0, .int .u8 0, .int .u8 0, .int .u8 0, .int .u8 0, .int .u8 0, .int .u8 0, .int .u8 0, .int .u8 0, .int .u8 0, .int .u8 0, .int .u8 0, .int .u8 0, .int .u8 0, .int .u8 0, .int .u8 0, .int .u8 0, .int .u8 0, .int .u8 0, .int .u8 0, .int .u8 0, .slice none 0 0] := rfl
theorem info_an : (Tryd.prog.info? 39).map (·.size) = some 38 := by kernel_rfl
end

section


def cfZero : CF := ⟨0, 0, []⟩
end

section


def PK.same (p q : PK) : Bool := (p.kind == q.kind) && ((p.frm == q.frm) && ((p.dst == q.dst) && ((p.num == q.num) && ((p.seq == q.seq) && ((p.ballot == q.ballot) && ((p.ready == q.ready) && (p.req.same q.req && (p.ans.same q.ans && (p.conf.same q.conf && (vEq p.votes q.votes && (p.bytes == q.bytes)))))))))))
structure pkV (w : World) (F : List Nat) (p : PK) (ev av cv vv bw : Value) : Prop where
  rn : p.req.name.length = 32
  an : p.ans.name.length = 32
  re : bytesV w F ev p.req.env
  ae : bytesV w F av p.ans.env
  cc : intsV w F cv p.conf.chain
  vs : votesV w F vv p.votes
  bs : bytesV w F bw p.bytes
theorem pkV.keep {S F : List Nat} {w w' : World} {p : PK} {ev av cv vv bw : Value} (h : pkV w F p ev av cv vv bw) (hk : keepBut S w w') (hS : ∀ y ∈ F, y ∉ S) : pkV w' F p ev av cv vv bw :=
  ⟨h.rn, h.an, h.re.keep hk hS, h.ae.keep hk hS, h.cc.keep hk hS, h.vs.keep hk hS, h.bs.keep hk hS⟩
theorem pkV.over {F : List Nat} {w w' : World} {p : PK} {ev av cv vv bw : Value} (h : pkV w F p ev av cv vv bw) (hk : keepBut [] w w') : pkV w' F p ev av cv vv bw := h.keep hk (by simp)
section
variable {p : PK} {ev av cv vv bw : Value}
theorem pkL_req : ∀ j v, (rqL p.req ev)[j]? = some v → (pkL p ev av cv vv bw).toArray[7 + j]? = some v := fun j v hv => by
  have := mid_at (l := [.int .i64 p.kind, .int .i64 p.frm, .int .i64 p.dst, .int .i64 p.num, .int .i64 p.seq, .int .i64 p.ballot, .bool p.ready]) (m := rqL p.req ev) (r := anL p.ans av ++ (cfL p.conf cv ++ [vv, bw])) rfl j v hv
  simpa [pkL] using this
theorem pkL_ans (h : p.req.name.length = 32) : ∀ j v, (anL p.ans av)[j]? = some v → (pkL p ev av cv vv bw).toArray[44 + j]? = some v := fun j v hv => by
  have := mid_at (l := [.int .i64 p.kind, .int .i64 p.frm, .int .i64 p.dst, .int .i64 p.num, .int .i64 p.seq, .int .i64 p.ballot, .bool p.ready] ++ rqL p.req ev) (m := anL p.ans av) (r := cfL p.conf cv ++ [vv, bw]) (k := 44) (by rw [List.length_append, rqL_len h]; rfl) j v hv
  simpa [pkL] using this
theorem pkL_tail (h : p.req.name.length = 32) (h' : p.ans.name.length = 32) : ∀ j v, (cfL p.conf cv ++ [vv, bw])[j]? = some v → (pkL p ev av cv vv bw).toArray[82 + j]? = some v := fun j v hv => by
  have := mid_at (l := [.int .i64 p.kind, .int .i64 p.frm, .int .i64 p.dst, .int .i64 p.num, .int .i64 p.seq, .int .i64 p.ballot, .bool p.ready] ++ rqL p.req ev ++ anL p.ans av) (m := cfL p.conf cv ++ [vv, bw]) (r := []) (k := 82) (by rw [List.length_append, List.length_append, rqL_len h, anL_len h']; rfl) j v hv
  simpa [pkL] using this
end
/-- what a block that holds a packet gives -/
structure pkAt (w : World) (g : Nat) (p : PK) (ev av cv vv bw : Value) : Prop where
  c0 : w.cell? ⟨g, 0, none⟩ = some (.int .i64 p.kind)
  c1 : w.cell? ⟨g, 1, none⟩ = some (.int .i64 p.frm)
  c2 : w.cell? ⟨g, 2, none⟩ = some (.int .i64 p.dst)
  c3 : w.cell? ⟨g, 3, none⟩ = some (.int .i64 p.num)
  c4 : w.cell? ⟨g, 4, none⟩ = some (.int .i64 p.seq)
  c5 : w.cell? ⟨g, 5, none⟩ = some (.int .i64 p.ballot)
  c6 : w.cell? ⟨g, 6, none⟩ = some (.bool p.ready)
  rq : w.rangeAt g 7 (rqL p.req ev)
  an : w.rangeAt g 44 (anL p.ans av)
  d0 : w.cell? ⟨g, 82, none⟩ = some (.int .i64 p.conf.num)
  d1 : w.cell? ⟨g, 83, none⟩ = some (.int .i64 p.conf.full)
  d2 : w.cell? ⟨g, 84, none⟩ = some cv
  d3 : w.cell? ⟨g, 85, none⟩ = some vv
  d4 : w.cell? ⟨g, 86, none⟩ = some bw
theorem rowAt.pk {w : World} {g : Nat} {t : TypeId} {p : PK} {ev av cv vv bw : Value} (h : rowAt w g t (pkL p ev av cv vv bw).toArray) (h1 : p.req.name.length = 32) (h2 : p.ans.name.length = 32) : pkAt w g p ev av cv vv bw := by
  have ht := fun j v hv => (h.cell (82 + j)).trans (pkL_tail (ev := ev) (av := av) (cv := cv) (vv := vv) (bw := bw) h1 h2 j v hv)
  exact ⟨h.cell 0, h.cell 1, h.cell 2, h.cell 3, h.cell 4, h.cell 5, h.cell 6, h.range pkL_req, h.range (pkL_ans h1), ht 0 _ rfl, ht 1 _ rfl, ht 2 _ rfl, ht 3 _ rfl, ht 4 _ rfl⟩
theorem pkAt.keep {S : List Nat} {w w' : World} {g : Nat} {p : PK} {ev av cv vv bw : Value} (h : pkAt w g p ev av cv vv bw) (hk : keepBut S w w') (hS : g ∉ S) : pkAt w' g p ev av cv vv bw := by
  have hg := World.block_lt_of_cell? w _ h.c0
  have e := fun o => hk.cell (p := ⟨g, o, none⟩) hg hS
  exact ⟨(e _).trans h.c0, (e _).trans h.c1, (e _).trans h.c2, (e _).trans h.c3, (e _).trans h.c4, (e _).trans h.c5, (e _).trans h.c6, _root_.Go.Proofs.YtkpmlcgbffdloaaDoor.rangeAt.keep h.rq hk hS, _root_.Go.Proofs.YtkpmlcgbffdloaaDoor.rangeAt.keep h.an hk hS, (e _).trans h.d0, (e _).trans h.d1, (e _).trans h.d2, (e _).trans h.d3, (e _).trans h.d4⟩
theorem wpList_box_to {P : Program} (w w' : World) {ops : Array Oper} {rest : List Oper} {o : Oper} {a : Act} {Q : Exit → Act → World → Prop} (hgd : o.guard = none) (t : TypeId) (x : Operand) (ho : o.op = .box t x)
    (bs : Array Value) (hx : a.eval x = .agg bs) (hw : w.alloc (.cells bs t) = w') (h : wpList P ops Q rest (a.put o.dst (.pointer (some ⟨w.heap.size, 0, none⟩))) w') : wpList P ops Q (o :: rest) a w := by
  subst hw
  exact wpList_box_agg w hgd t x ho bs hx h
end

section


def nameZ : List UInt8 := List.replicate 32 0
theorem nameZ_len : nameZ.length = 32 := List.length_replicate
theorem build_nameZ (w : World) : (Instr.build 34 #[]).run Tryd.prog w = .ok (.agg (nameL nameZ).toArray) w := by kernel_rfl
theorem wpList_build_v_g {P : Program} (w : World) {ops : Array Oper} {rest : List Oper} {o : Oper} {a : Act} {Q : Exit → Act → World → Prop} (t : TypeId) (ho : o.op = .build t #[])
    (v : Value) (hr : (Instr.build t #[]).run P w = .ok v w) (hw : Region.wanted o (yielded ops a.tmps) = true) (h : wpList P ops Q rest (a.put o.dst v) w) : wpList P ops Q (o :: rest) a w := by
  refine wpList_wantedP hw fun K hK => ?_
  have hK' := hK _ _ h
  unfold Oper.wp execOp
  simp only [ho, List.map_toArray, List.map_nil, Sem.run_bind, hr, Result.andThen_ok, Sem.run_pure]
  exact hK'
def RQ.ok (r : RQ) : Bool := inP r.client 0 2 && (inP r.num 1 9007199254740991 && (if r.kind = 1 ∨ r.kind = 3 then (r.version == 0) && (r.env.length == 0) else if r.kind = 2 then inP r.version 1 9007199254740991 && inP (r.env.length : Int) 1 1024 else if r.kind = 4 then inP r.version 1 255 && (decide (r.name = nameZ) && (r.env.length == 0)) else false))
def AN.ok (a : AN) : Bool := inP a.client 0 2 && (inP a.num 1 9007199254740991 && (inP a.code 0 3 && (inP a.version 0 9007199254740991 && (inP a.epoch 0 255 && decide (a.env.length ≤ 1024)))))
end

section


def chainB : List Int → List Int → Bool
  | _, [] => true
  | pre, a :: r => inP a 10 13 && (!(pre.contains a) && chainB (pre ++ [a]) r)
theorem chainB_step {l : List Int} {i : Nat} {a : Int} (h : l[i]? = some a) : chainB (l.take i) (l.drop i) = (inP a 10 13 && (!((l.take i).contains a) && chainB (l.take (i + 1)) (l.drop (i + 1)))) := by
  obtain ⟨hl, ha⟩ := List.getElem?_eq_some_iff.1 h
  rw [List.drop_eq_getElem_cons hl, ha, List.take_add_one, h]
  rfl
theorem mem_take_at {l : List Int} {i : Nat} {a : Int} : a ∈ l.take i ↔ ∃ k, k < i ∧ l[k]? = some a := by
  rw [List.mem_iff_getElem?]
  constructor
  · rintro ⟨k, h⟩
    rw [List.getElem?_take] at h
    by_cases hk : k < i
    · rw [if_pos hk] at h; exact ⟨k, hk, h⟩
    · rw [if_neg hk] at h; simp at h
  · rintro ⟨k, hk, h⟩
    exact ⟨k, by rw [List.getElem?_take, if_pos hk]; exact h⟩
def CF.ok (c : CF) : Bool := inP c.num 0 9007199254740991 && (decide (1 ≤ c.chain.length) && (decide (c.chain.length ≤ 4) && (inP c.full 1 c.chain.length && chainB [] c.chain)))
end

section


def VT.ok (v : VT) : Bool := inP v.ballot 1 9007199254740991 && v.conf.ok
def vtsB : List VT → Bool
  | [] => true
  | v :: r => v.ok && vtsB r
theorem vtsB_step {l : List VT} {i : Nat} {a : VT} (h : l[i]? = some a) : vtsB (l.drop i) = (a.ok && vtsB (l.drop (i + 1))) := by
  obtain ⟨hl, ha⟩ := List.getElem?_eq_some_iff.1 h
  rw [List.drop_eq_getElem_cons hl, ha]
  rfl
def vtsOk (l : List VT) : Bool := decide (l.length ≤ 8) && vtsB l
end

section


theorem fold_putL : ∀ (l : List Value) (k off : Nat) (cs : Array Value), (l.zipIdx k).foldl (fun cs (x : Value × Nat) => cs.setIfInBounds (off + x.2) x.1) cs = putL cs (off + k) l
  | [], _, _, _ => rfl
  | v :: r, k, off, cs => by
    rw [List.zipIdx_cons, List.foldl_cons, fold_putL r (k + 1) off, putL]
    rfl
theorem fill_cons (place : Nat → Option (Nat × Nat)) (cells : Array Value) (i : Nat) (v : Value) (rest : List (Nat × Value)) (off size : Nat) (hp : place i = some (off, size)) (hs : v.cells.size = size) (hl : off + size ≤ cells.size) :
    Instr.fill place cells ((i, v) :: rest) = Instr.fill place (putL cells off v.cells.toList) rest := by
  rw [Instr.fill, hp]
  have h1 : decide (v.cells.size ≠ size) = false := by simp [hs]
  have h2 : decide (off + v.cells.size > cells.size) = false := by simp [hs]; omega
  simp only [h1, h2]
  rw [if_neg (by simp)]
  congr 1
  rw [← Array.foldl_toList, Array.toList_zipIdx]
  exact fold_putL v.cells.toList 0 off cells
theorem putL_putL : ∀ (a b : List Value) (cs : Array Value) (o k : Nat), k = o + a.length → putL (putL cs o a) k b = putL cs o (a ++ b)
  | [], b, cs, o, k, h => by subst h; rfl
  | v :: r, b, cs, o, k, h => by
    rw [putL, putL_putL r b _ (o + 1) k (by rw [h, List.length_cons]; omega)]
    rfl
theorem cells_one {v : Value} (h : v.oneCell' = true) : v.cells = #[v] := by
  cases v <;> first | rfl | (simp [Value.oneCell'] at h)
def pkPlaces : List (Nat × Nat) := [(0, 1), (1, 1), (2, 1), (3, 1), (4, 1), (5, 1), (6, 1), (7, 37), (44, 38), (82, 3), (85, 1), (86, 1)]
theorem pk_places : (match Tryd.prog.underlying 44 with | some (.struct fields) => fields.toList.mapM (fun f => (Tryd.prog.info? f.type).map fun i => (f.offset, i.size)) | _ => none) = some pkPlaces := by kernel_rfl
theorem pk_zero : ((Tryd.prog.info? 44).bind (·.zero)).map (·.cells.size) = some 87 := by kernel_rfl
theorem info_pk : (Tryd.prog.info? 44).map (·.size) = some 87 := by kernel_rfl
theorem built_pk : ∃ z : Array Value, z.size = 87 ∧ ∀ parts, Tryd.prog.built 44 parts = Instr.fill (pkPlaces.toArray[·]?) z parts := by
  have h1 := pk_places
  have h2 := pk_zero
  cases hu : Tryd.prog.underlying 44 with
  | none => rw [hu] at h1; cases h1
  | some d =>
    rw [hu] at h1
    cases d with
    | struct fields =>
      cases hi : Tryd.prog.info? 44 with
      | none => rw [hi] at h2; cases h2
      | some it =>
        rw [hi] at h2
        cases hz : it.zero with
        | none => simp [hz] at h2
        | some z =>
          simp [hz] at h2
          refine ⟨z.cells, h2, fun parts => ?_⟩
          unfold Program.built
          simp only [hi, hu, hz, h1]
    | _ => cases h1
theorem build_pk (p : PK) (ev av cv vv bw : Value) (h1 : p.req.name.length = 32) (h2 : p.ans.name.length = 32) (hv : vv.oneCell' = true) (hb : bw.oneCell' = true) :
    Tryd.prog.built 44 [(0, .int .i64 p.kind), (1, .int .i64 p.frm), (2, .int .i64 p.dst), (3, .int .i64 p.num), (4, .int .i64 p.seq), (5, .int .i64 p.ballot), (6, .bool p.ready), (7, .agg (rqL p.req ev).toArray), (8, .agg (anL p.ans av).toArray), (9, .agg (cfL p.conf cv).toArray), (10, vv), (11, bw)] = some (pkL p ev av cv vv bw).toArray := by
  obtain ⟨z, hz, hf⟩ := built_pk
  have e1 : (rqL p.req ev).length = 37 := rqL_len h1
  have e2 : (anL p.ans av).length = 38 := anL_len h2
  have hsz : ∀ (o : Nat) (l : List Value) (c : Array Value), c.size = 87 → (putL c o l).size = 87 := fun o l c h => by rw [putL_size, h]
  rw [hf]
  rw [fill_cons _ _ 0 _ _ 0 1 rfl rfl (by rw [hz]; omega)]
  rw [fill_cons _ _ 1 _ _ 1 1 rfl rfl (by rw [hsz _ _ _ hz]; omega)]
  rw [fill_cons _ _ 2 _ _ 2 1 rfl rfl (by rw [hsz _ _ _ (hsz _ _ _ hz)]; omega)]
  rw [fill_cons _ _ 3 _ _ 3 1 rfl rfl (by simp only [putL_size, hz]; omega)]
  rw [fill_cons _ _ 4 _ _ 4 1 rfl rfl (by simp only [putL_size, hz]; omega)]
  rw [fill_cons _ _ 5 _ _ 5 1 rfl rfl (by simp only [putL_size, hz]; omega)]
  rw [fill_cons _ _ 6 _ _ 6 1 rfl rfl (by simp only [putL_size, hz]; omega)]
  rw [fill_cons _ _ 7 _ _ 7 37 rfl (by simp only [Value.cells, List.size_toArray, e1]) (by simp only [putL_size, hz]; omega)]
  rw [fill_cons _ _ 8 _ _ 44 38 rfl (by simp only [Value.cells, List.size_toArray, e2]) (by simp only [putL_size, hz]; omega)]
  rw [fill_cons _ _ 9 _ _ 82 3 rfl rfl (by simp only [putL_size, hz]; omega)]
  rw [fill_cons _ _ 10 _ _ 85 1 rfl (by rw [cells_one hv]; rfl) (by simp only [putL_size, hz]; omega)]
  rw [fill_cons _ _ 11 _ _ 86 1 rfl (by rw [cells_one hb]; rfl) (by simp only [putL_size, hz]; omega)]
  rw [Instr.fill]
  rw [cells_one hv, cells_one hb]
  have q : ∀ (a b c : List Value) (k : Nat), k = a.length → a ++ b = c → putL (putL z 0 a) k b = putL z 0 c := fun a b c k h hc => by rw [putL_putL a b z 0 k (by omega), hc]
  have hl : (pkL p ev av cv vv bw).length = z.size := by rw [pkL_len h1 h2, hz]
  rw [← putL_all hl]
  clear hl hf hsz
  obtain ⟨R, hR⟩ : ∃ R, rqL p.req ev = R := ⟨_, rfl⟩
  obtain ⟨N, hN⟩ : ∃ N, anL p.ans av = N := ⟨_, rfl⟩
  unfold pkL
  rw [hR] at e1 ⊢
  rw [hN] at e2 ⊢
  refine congrArg some ?_
  show putL (putL (putL (putL (putL (putL (putL (putL (putL (putL (putL (putL z 0 [_]) 1 [_]) 2 [_]) 3 [_]) 4 [_]) 5 [_]) 6 [_]) 7 R) 44 N) 82 (cfL p.conf cv)) 85 [vv]) 86 [bw] = _
  rw [q _ _ _ 1 rfl rfl, q _ _ _ 2 rfl rfl, q _ _ _ 3 rfl rfl, q _ _ _ 4 rfl rfl, q _ _ _ 5 rfl rfl, q _ _ _ 6 rfl rfl, q _ _ _ 7 rfl rfl]
  rw [putL_putL _ _ _ 0 44 (by simp [e1]), putL_putL _ _ _ 0 82 (by simp [e1, e2]), putL_putL _ _ _ 0 85 (by simp [e1, e2, cfL]), putL_putL _ _ _ 0 86 (by simp [e1, e2, cfL])]
  refine congrArg (putL z 0) ?_
  simp only [List.append_assoc, List.cons_append, List.nil_append]
section
variable {P : Program} {ops : Array Oper} {S : World → Prop} {o : Oper} {a : Act}
theorem yieldsIf_build (t : TypeId) (parts : Array (Nat × Operand)) (ho : o.op = .build t parts) (hw : Region.wanted o (yielded ops a.tmps) = true) (cells : Array Value) (h : P.built t (parts.map fun (i, x) => (i, a.eval x)).toList = some cells) : YieldsIf P ops S o (.agg cells) a :=
  Or.inl ⟨hw, fun w _ => by unfold execOp; simp only [ho, Sem.run_bind, run_build w t _ cells h, Result.andThen_ok]; rfl⟩
theorem yieldsIf_mid (ty : TypeId) (x : Operand) (ho : o.op = .load ty x) (b k : Nat) (hx : a.eval x = .pointer (some ⟨b, k, none⟩)) (cs : List Value) (d : TypeDesc) (hc : ∀ w, S w → w.rangeAt b k cs)
    (hu : P.underlying ty = some d) (hd : d.isRow = true) (hi : (P.info? ty).map (·.size) = some cs.length) (hw : Region.wanted o (yielded ops a.tmps) = true) : YieldsIf P ops S o (.agg cs.toArray) a :=
  Or.inl ⟨hw, fun w hS => by unfold execOp; simp only [ho, hx, Instr.loadAt, Instr.sureAddr, Sem.run_bind, Sem.run_pure, Result.andThen_ok, run_loadVar_mid w b k ty cs d (hc w hS) hu hd hi]⟩
end
def oI (bit x : Int) : Int := if bit = 0 then 0 else x
def oB (bit : Int) (x : Bool) : Bool := if bit = 0 then false else x
def oV {α : Type} (bit : Int) (z x : α) : α := if bit = 0 then z else x
def nilV : Value := .slice none 0 0
/-- what a packet would be with these fields alone -/
def bitA (n m : Int) : Int := bits .and .i64 n m
def PK.cut (p : PK) (n : Int) : PK :=
  ⟨p.kind, p.frm, p.dst, oI (bitA n 1) p.num, oI (bitA n 2) p.seq, oI (bitA n 4) p.ballot, oB (bitA n 8) p.ready, oV (bitA n 16) rqZero p.req, oV (bitA n 32) anZero p.ans, oV (bitA n 64) cfZero p.conf, oV (bitA n 128) [] p.votes, oV (bitA n 256) [] p.bytes⟩
theorem oV_bytes {w : World} {F : List Nat} {v : Value} {l : List UInt8} (b : Int) (h : bytesV w F v l) : bytesV w F (oV b nilV v) (oV b [] l) := by
  unfold oV; split
  · exact bytesV.nil w F
  · exact h
theorem pkV.cut {w : World} {F : List Nat} {p : PK} {ev av cv vv bw : Value} (h : pkV w F p ev av cv vv bw) (n : Int) :
    pkV w F (p.cut n) (oV (bitA n 16) nilV ev) (oV (bitA n 32) nilV av) (oV (bitA n 64) nilV cv) (oV (bitA n 128) nilV vv) (oV (bitA n 256) nilV bw) := by
  have hz : rqZero.name.length = 32 := by rw [show rqZero.name = List.replicate 32 0 from rfl, List.length_replicate]
  have hy : anZero.name.length = 32 := by rw [show anZero.name = List.replicate 32 0 from rfl, List.length_replicate]
  refine ⟨?_, ?_, ?_, ?_, ?_, ?_, oV_bytes _ h.bs⟩
  · show (oV (bitA n 16) rqZero p.req).name.length = 32
    unfold oV; split
    · exact hz
    · exact h.rn
  · show (oV (bitA n 32) anZero p.ans).name.length = 32
    unfold oV; split
    · exact hy
    · exact h.an
  · show bytesV w F _ (oV (bitA n 16) rqZero p.req).env
    unfold oV; split
    · exact bytesV.nil w F
    · exact h.re
  · show bytesV w F _ (oV (bitA n 32) anZero p.ans).env
    unfold oV; split
    · exact bytesV.nil w F
    · exact h.ae
  · show intsV w F _ (oV (bitA n 64) cfZero p.conf).chain
    unfold oV; split
    · exact intsV.nil w F
    · exact h.cc
  · show votesV w F _ (oV (bitA n 128) [] p.votes)
    unfold oV; split
    · exact votesV.nil w F
    · exact h.vs

end

section


theorem intsV.one {w : World} {F : List Nat} {v : Value} {l : List Int} (h : intsV w F v l) : v.oneCell' = true := by
  obtain ⟨A, c, g, rfl, _⟩ := h; rfl
theorem bytesV.one {w : World} {F : List Nat} {v : Value} {l : List UInt8} (h : bytesV w F v l) : v.oneCell' = true := by
  obtain ⟨A, c, g, rfl, _⟩ := h; rfl
theorem votesV.one {w : World} {F : List Nat} {v : Value} {l : List VT} (h : votesV w F v l) : v.oneCell' = true := by
  obtain ⟨A, c, g, T, rfl, _⟩ := h; rfl
theorem pkL_one {p : PK} {ev av cv vv bw : Value} (h1 : ev.oneCell' = true) (h2 : av.oneCell' = true) (h3 : cv.oneCell' = true) (h4 : vv.oneCell' = true) (h5 : bw.oneCell' = true) : ∀ v ∈ pkL p ev av cv vv bw, v.oneCell' = true := by
  intro v hv
  simp only [pkL, List.mem_cons, List.mem_append, cfL] at hv
  rcases hv with rfl | rfl | rfl | rfl | rfl | rfl | rfl | hv | hv | hv | hv
  · rfl
  · rfl
  · rfl
  · rfl
  · rfl
  · rfl
  · rfl
  · exact rqL_one p.req h1 v hv
  · exact anL_one p.ans h2 v hv
  · rcases hv with rfl | rfl | rfl | hv
    · rfl
    · rfl
    · exact h3
    · cases hv
  · rcases hv with rfl | rfl | hv
    · exact h4
    · exact h5
    · cases hv
theorem info_cf : (Tryd.prog.info? 41).map (·.size) = some 3 := by kernel_rfl
end

section


def PK.parts (p : PK) (h : Int) : Bool := inP p.num 0 9007199254740991 && (inP p.ballot 0 9007199254740991 && (seqP p.kind p.seq && (decide (p.bytes.length ≤ 32768) && (((bitA h 16 == 0) || p.req.ok) && (((bitA h 32 == 0) || p.ans.ok) && (((bitA h 64 == 0) || p.conf.ok) && vtsOk p.votes))))))
def PK.ok (p : PK) : Bool := !(fieldsP p.kind == 0) && (nodeP p.frm && (nodeP p.dst && (p.same (p.cut (fieldsP p.kind)) && p.parts (fieldsP p.kind))))
theorem ite_off {b : Bool} {A B : Prop} (hb : b = false) (h : B) : if b = true then A else B := by rw [if_neg (by simp [hb])]; exact h
def i64P (n : Int) : Prop := -9223372036854775808 ≤ n ∧ n ≤ 9223372036854775807
end

section


theorem reads.seenB {w : World} {A : Option Addr} {g : Nat} {l : List UInt8} (h : reads w A g l.length 1 (l.map bv)) : seen w A g l := fun hl => by
  obtain ⟨o, e1, e2, e3⟩ := h.2 (List.length_pos_iff.2 hl)
  exact ⟨o, e1, e2, fun j b hb => e3 j (bv b) (by rw [List.getElem?_map, hb]; rfl)⟩
/-- where a copy lies: in blocks that were not there -/
def newIn (w w' : World) (G : List Nat) : Prop := ∀ y ∈ G, w.heap.size ≤ y ∧ y < w'.heap.size
theorem infoU8c : (Tryd.prog.info? 5).map (fun i => (i.zero, i.size, i.bytes)) = some (some (.int .u8 0), 1, 1) := by kernel_rfl
theorem infoIntc : (Tryd.prog.info? 3).map (fun i => (i.zero, i.size, i.bytes)) = some (some (.int .i64 0), 1, 8) := by kernel_rfl
theorem flatVT_one : ∀ T : List (VT × Value), (∀ t ∈ T, t.2.oneCell' = true) → ∀ u ∈ flatVT T, u.oneCell' = true
  | [], _, u, hu => by simp [flatVT] at hu
  | t :: r, h, u, hu => by
    simp only [flatVT, List.mem_append, vtL, cfL, List.mem_cons, List.not_mem_nil, or_false] at hu
    rcases hu with (rfl | rfl | rfl | rfl) | hu
    · rfl
    · rfl
    · rfl
    · exact h t (by simp)
    · exact flatVT_one r (fun t ht => h t (by simp [ht])) u hu
theorem infoVTc : (Tryd.prog.info? 110).map (fun i => (i.zero, i.size, i.bytes)) = some (some (.agg #[.int .i64 0, .int .i64 0, .int .i64 0, .slice none 0 0]), 4, 48) := by kernel_rfl
/-- a list of votes in a row of its own: filled up to n, of the parts T -/
def votesRow (w : World) (A : Option Addr) (n c : Nat) (T : List (VT × Value)) : Prop := owns w 110 4 (.slice A n c) n (flatVT T)
theorem flatVT_get : ∀ (T : List (VT × Value)) (j : Nat), (flatVT T)[j]? = (T[j / 4]?).bind fun t => (vtL t.1 t.2)[j % 4]?
  | [], j => by simp [flatVT]
  | t :: r, j => by
    rw [flatVT]
    by_cases h : j < 4
    · rw [List.getElem?_append_left (by simp [vtL, cfL]; omega), show j / 4 = 0 by omega, show j % 4 = j by omega]
      rfl
    · have hl : (vtL t.1 t.2).length = 4 := rfl
      rw [List.getElem?_append_right (by omega), hl, flatVT_get r (j - 4), show j / 4 = (j - 4) / 4 + 1 by omega, show j % 4 = (j - 4) % 4 by omega, List.getElem?_cons_succ]
theorem flatVT_set {T : List (VT × Value)} {i : Nat} {a : VT} {old u : Value} (hT : T[i]? = some (a, old)) {cur : Array Value} {n : Nat} (hn : T.length = n) (hc : n * 4 ≤ cur.size) (hr : cur.toList.take (n * 4) = flatVT T) :
    (putL cur (i * 4 + 1) [.int .i64 a.conf.num, .int .i64 a.conf.full, u]).toList.take (n * 4) = flatVT (T.set i (a, u)) := by
  have hi : i < T.length := (List.getElem?_eq_some_iff.1 hT).1
  apply List.ext_getElem?
  intro j
  rw [flatVT_get, List.getElem?_take]
  by_cases hj : j < n * 4
  · rw [if_pos hj, Array.getElem?_toList, putL_get _ _ _ _ (by simp; omega)]
    have ho : cur[j]? = (T[j / 4]?).bind fun t => (vtL t.1 t.2)[j % 4]? := by
      rw [← flatVT_get, ← hr, List.getElem?_take, if_pos hj, Array.getElem?_toList]
    by_cases hq : j / 4 = i
    · subst hq
      rw [List.getElem?_set_self hi]
      by_cases h0 : j % 4 = 0
      · rw [if_neg (by simp only [List.length_cons, List.length_nil]; omega), ho, hT, h0]; rfl
      · rw [if_pos (by simp only [List.length_cons, List.length_nil]; omega)]
        have h3 : j % 4 < 4 := Nat.mod_lt _ (by omega)
        rw [show j - (j / 4 * 4 + 1) = j % 4 - 1 by omega]
        rcases (by omega : j % 4 = 1 ∨ j % 4 = 2 ∨ j % 4 = 3) with e | e | e <;> rw [e] <;> rfl
    · rw [if_neg (by simp only [List.length_cons, List.length_nil]; omega), ho, List.getElem?_set_ne (fun h => hq h.symm)]
  · rw [if_neg hj]
    cases hk : (T.set i (a, u))[j / 4]? with
    | none => rfl
    | some t =>
      have := (List.getElem?_eq_some_iff.1 hk).1
      rw [List.length_set] at this
      omega

end

section


theorem set_mid {l a b : List Value} {x : Value} {k : Nat} (hl : l = a ++ x :: b) (hk : a.length = k) (u : Value) : l.toArray.setIfInBounds k u = (a ++ u :: b).toArray := by
  subst hl; subst hk
  rw [List.setIfInBounds_toArray]
  congr 1
  rw [List.set_append_right _ _ (Nat.le_refl _), Nat.sub_self, List.set_cons_zero]
section
variable {p : PK} {ev av cv vv bw : Value}
theorem pkL_setE (h : p.req.name.length = 32) (u : Value) : (pkL p ev av cv vv bw).toArray.setIfInBounds 43 u = (pkL p u av cv vv bw).toArray := by
  rw [set_mid (l := pkL p ev av cv vv bw) (a := [.int .i64 p.kind, .int .i64 p.frm, .int .i64 p.dst, .int .i64 p.num, .int .i64 p.seq, .int .i64 p.ballot, .bool p.ready, .int .i64 p.req.client, .int .i64 p.req.num, .int .i64 p.req.kind, .int .i64 p.req.version] ++ nameL p.req.name) (x := ev) (b := anL p.ans av ++ (cfL p.conf cv ++ [vv, bw])) (k := 43) (by simp [pkL, rqL]) (by simp [nameL_len, h]) u]
  simp [pkL, rqL]
theorem pkL_setA (h : p.req.name.length = 32) (h' : p.ans.name.length = 32) (u : Value) : (pkL p ev av cv vv bw).toArray.setIfInBounds 81 u = (pkL p ev u cv vv bw).toArray := by
  rw [set_mid (l := pkL p ev av cv vv bw) (a := [.int .i64 p.kind, .int .i64 p.frm, .int .i64 p.dst, .int .i64 p.num, .int .i64 p.seq, .int .i64 p.ballot, .bool p.ready] ++ (rqL p.req ev ++ ([.int .i64 p.ans.client, .int .i64 p.ans.num, .int .i64 p.ans.code, .int .i64 p.ans.version, .int .i64 p.ans.epoch] ++ nameL p.ans.name))) (x := av) (b := cfL p.conf cv ++ [vv, bw]) (k := 81) (by simp [pkL, anL]) (by simp [rqL_len h, nameL_len, h']) u]
  simp [pkL, anL]
theorem pkL_setT (h : p.req.name.length = 32) (h' : p.ans.name.length = 32) (u : Value) : (pkL p ev av cv vv bw).toArray.setIfInBounds 82 (.int .i64 p.conf.num) = (pkL p ev av cv vv bw).toArray ∧ (pkL p ev av cv vv bw).toArray.setIfInBounds 83 (.int .i64 p.conf.full) = (pkL p ev av cv vv bw).toArray ∧ (pkL p ev av cv vv bw).toArray.setIfInBounds 84 u = (pkL p ev av u vv bw).toArray ∧ (pkL p ev av cv vv bw).toArray.setIfInBounds 85 u = (pkL p ev av cv u bw).toArray ∧ (pkL p ev av cv vv bw).toArray.setIfInBounds 86 u = (pkL p ev av cv vv u).toArray := by
  have hp : ([Value.int .i64 p.kind, .int .i64 p.frm, .int .i64 p.dst, .int .i64 p.num, .int .i64 p.seq, .int .i64 p.ballot, .bool p.ready] ++ (rqL p.req ev ++ anL p.ans av)).length = 82 := by simp [rqL_len h, anL_len h']
  have he : pkL p ev av cv vv bw = ([Value.int .i64 p.kind, .int .i64 p.frm, .int .i64 p.dst, .int .i64 p.num, .int .i64 p.seq, .int .i64 p.ballot, .bool p.ready] ++ (rqL p.req ev ++ anL p.ans av)) ++ [.int .i64 p.conf.num, .int .i64 p.conf.full, cv, vv, bw] := by simp [pkL, cfL]
  have hu : ∀ cv vv bw, ([Value.int .i64 p.kind, .int .i64 p.frm, .int .i64 p.dst, .int .i64 p.num, .int .i64 p.seq, .int .i64 p.ballot, .bool p.ready] ++ (rqL p.req ev ++ anL p.ans av)) ++ [.int .i64 p.conf.num, .int .i64 p.conf.full, cv, vv, bw] = pkL p ev av cv vv bw := fun cv vv bw => by simp [pkL, cfL]
  generalize [Value.int .i64 p.kind, .int .i64 p.frm, .int .i64 p.dst, .int .i64 p.num, .int .i64 p.seq, .int .i64 p.ballot, .bool p.ready] ++ (rqL p.req ev ++ anL p.ans av) = Z at *
  refine ⟨?_, ?_, ?_, ?_, ?_⟩
  · rw [set_mid he hp, ← he]
  · rw [set_mid (a := Z ++ [.int .i64 p.conf.num]) (k := 83) (x := .int .i64 p.conf.full) (b := [cv, vv, bw]) (by rw [he]; simp) (by simp [hp]), ← hu]; simp
  · rw [set_mid (a := Z ++ [.int .i64 p.conf.num, .int .i64 p.conf.full]) (k := 84) (x := cv) (b := [vv, bw]) (by rw [he]; simp) (by simp [hp]), ← hu]; simp
  · rw [set_mid (a := Z ++ [.int .i64 p.conf.num, .int .i64 p.conf.full, cv]) (k := 85) (x := vv) (b := [bw]) (by rw [he]; simp) (by simp [hp]), ← hu]; simp
  · rw [set_mid (a := Z ++ [.int .i64 p.conf.num, .int .i64 p.conf.full, cv, vv]) (k := 86) (x := bw) (b := []) (by rw [he]; simp) (by simp [hp]), ← hu]; simp
theorem pkL_e (h : p.req.name.length = 32) : (pkL p ev av cv vv bw).toArray[43]? = some ev := pkL_req 36 _ (by have := rqL_env (ev := ev) h; simpa using this)
theorem pkL_a (h : p.req.name.length = 32) (h' : p.ans.name.length = 32) : (pkL p ev av cv vv bw).toArray[81]? = some av := pkL_ans h 37 _ (by have := anL_env (ev := av) h'; simpa using this)
end
/-- where the packet that is being copied stands -/
structure cpAt (w w' : World) (g : Nat) (p : PK) (ev av cv vv bw : Value) : Prop where
  row : rowAt w' g 44 (pkL p ev av cv vv bw).toArray
  res : rowAt w' (g + 1) 44 Tryd.zeroCells44
  kp : keepBut [] w w'
theorem cpAt.over {w a b : World} {g : Nat} {p : PK} {ev av cv vv bw : Value} (h : cpAt w a g p ev av cv vv bw) (hk : keepBut [] a b) : cpAt w b g p ev av cv vv bw :=
  ⟨hk.row h.row (by simp), hk.row h.res (by simp), h.kp.then hk (by simp)⟩
theorem cpAt.set {w a : World} {g : Nat} {p : PK} {ev av cv vv bw ev' av' cv' vv' bw' : Value} (h : cpAt w a g p ev av cv vv bw) (hg : w.heap.size ≤ g) (k : Nat) (u : Value) (he : (pkL p ev av cv vv bw).toArray.setIfInBounds k u = (pkL p ev' av' cv' vv' bw').toArray) :
    cpAt w (a.setCell ⟨g, k, none⟩ u) g p ev' av' cv' vv' bw' :=
  ⟨by rw [← he]; exact h.row.set k u, (((keepBut.refl [g] a).setCell ⟨g, k, none⟩ u (.inl (by simp))).row h.res (by simp)), h.kp.setCell _ _ (.inr hg)⟩
theorem newIn.keep {w a b : World} {G : List Nat} (h : newIn w a G) (hs : a.heap.size ≤ b.heap.size) : newIn w b G := fun y hy => ⟨(h y hy).1, Nat.lt_of_lt_of_le (h y hy).2 hs⟩

end

section


/-- a packet's lists are short enough to be copied -/
structure PK.fits (p : PK) : Prop where
  e : p.req.env.length ≤ 1000000
  a : p.ans.env.length ≤ 1000000
  c : p.conf.chain.length ≤ 1000000
  v : p.votes.length ≤ 1000000
  vc : ∀ v ∈ p.votes, v.conf.chain.length ≤ 1000000
  b : p.bytes.length ≤ 1000000
theorem votesV.more {F G : List Nat} {w : World} {v : Value} {l : List VT} (h : votesV w F v l) (hF : ∀ y ∈ F, y ∈ G) : votesV w G v l := by
  obtain ⟨A, c, g, T, h1, h2, h3, h4, h5, h6, h7⟩ := h
  exact ⟨A, c, g, T, h1, h2, h3, h4, h5, fun t ht => (h6 t ht).more hF, fun hl => hF g (h7 hl)⟩
theorem pkV.more {F G : List Nat} {w : World} {p : PK} {ev av cv vv bw : Value} (h : pkV w F p ev av cv vv bw) (hF : ∀ y ∈ F, y ∈ G) : pkV w G p ev av cv vv bw :=
  ⟨h.rn, h.an, h.re.more hF, h.ae.more hF, h.cc.more hF, h.vs.more hF, h.bs.more hF⟩
def copyPost (p : PK) (w : World) (e : Ending) (w' : World) : Prop :=
  ∃ G ev av cv vv bw, e = .returned (.agg (pkL p ev av cv vv bw).toArray) ∧ pkV w' G p ev av cv vv bw ∧ newIn w w' G ∧ keepBut [] w w'
def newB (b : Nat) (W : World) (G : List Nat) : Prop := ∀ y ∈ G, b + 2 ≤ y ∧ y < W.heap.size
theorem newB.of {w a : World} {b : Nat} {G : List Nat} (h : newIn w a G) (hb : b + 1 < w.heap.size) : newB b a G := fun y hy => ⟨by have := (h y hy).1; omega, (h y hy).2⟩
theorem newB.far {b : Nat} {W : World} {G : List Nat} (h : newB b W G) : ∀ y ∈ G, y ∉ [b] := fun y hy => by have := (h y hy).1; simp; omega
theorem newB.keep {b : Nat} {W W' : World} {S G : List Nat} (h : newB b W G) (hk : keepBut S W W') : newB b W' G := fun y hy => ⟨(h y hy).1, Nat.lt_of_lt_of_le (h y hy).2 hk.size⟩
/-- bytes, numbers that were copied -/
def cpB (b : Nat) (W : World) (G : List Nat) (v : Value) (l : List UInt8) : Prop := bytesV W G v l ∧ newB b W G
def cpI (b : Nat) (W : World) (G : List Nat) (v : Value) (l : List Int) : Prop := intsV W G v l ∧ newB b W G
theorem cpB.keep {b : Nat} {W W' : World} {G : List Nat} {v : Value} {l : List UInt8} (h : cpB b W G v l) (hk : keepBut [b] W W') : cpB b W' G v l := ⟨h.1.keep hk h.2.far, h.2.keep hk⟩
theorem cpI.keep {b : Nat} {W W' : World} {G : List Nat} {v : Value} {l : List Int} (h : cpI b W G v l) (hk : keepBut [b] W W') : cpI b W' G v l := ⟨h.1.keep hk h.2.far, h.2.keep hk⟩
theorem cpB.over {b : Nat} {W W' : World} {G : List Nat} {v : Value} {l : List UInt8} (h : cpB b W G v l) (hk : keepBut [] W W') : cpB b W' G v l := h.keep (hk.more (by simp))
theorem cpI.over {b : Nat} {W W' : World} {G : List Nat} {v : Value} {l : List Int} (h : cpI b W G v l) (hk : keepBut [] W W') : cpI b W' G v l := h.keep (hk.more (by simp))
theorem kset (W : World) (b k : Nat) (u : Value) : keepBut [b] W (W.setCell ⟨b, k, none⟩ u) := (keepBut.refl [b] W).setCell ⟨b, k, none⟩ u (.inl (by simp))
theorem votesRow.gives {w : World} {V : Option Addr} {n c : Nat} {T : List (VT × Value)} (h : votesRow w V n c T) (hn : 0 < n) : ∃ g, V = some ⟨g, 0, none⟩ := by
  rcases h.2 with ⟨_, h0⟩ | ⟨g, cap, cur, he, _⟩
  · omega
  · injection he with he
    exact ⟨g, he⟩
theorem votesRow.cells {w : World} {g n c : Nat} {T : List (VT × Value)} (h : votesRow w (some ⟨g, 0, none⟩) n c T) {i : Nat} {t : VT × Value} (ht : T[i]? = some t) :
    ∃ cur, rowAt w g 110 cur ∧ cur.size = c * 4 ∧ cur.toList.take (n * 4) = flatVT T ∧ ∀ k u, (vtL t.1 t.2)[k]? = some u → w.cell? ⟨g, i * 4 + k, none⟩ = some u := by
  rcases h.2 with ⟨h0, _⟩ | ⟨g', cap, cur, he, hr, h1, h2, h3, h4⟩
  · cases h0
  · injection he with he1 _ he2
    injection he1 with he1
    injection he1 with he1
    subst he1 he2
    refine ⟨cur, hr, h3, h4, fun k u hu => ?_⟩
    rw [hr.cell]
    have := flatVT_at T i t ht k u hu
    rw [← h4, List.getElem?_take] at this
    split at this
    · simpa using this
    · cases this
/-- the votes that are being copied: those ahead of i have chains of their own -/
def cpVotes (b : Nat) (w0 W : World) (V : Option Addr) (n c : Nat) (T : List (VT × Value)) (l : List VT) (i : Nat) : Prop :=
  ∃ T' G, T'.map (·.1) = l ∧ votesRow W V n c T' ∧ keepBut (homes (.slice V n c)) w0 W ∧ newB b W G ∧ (∀ y ∈ G, y ∉ homes (.slice V n c)) ∧ (∀ j t, j < i → T'[j]? = some t → intsV W G t.2 t.1.conf.chain) ∧ (∀ j t, i ≤ j → T'[j]? = some t → T[j]? = some t)
theorem cpVotes.step {b gv n c i : Nat} {w0 wr w' : World} {T T' : List (VT × Value)} {l : List VT} {G G' : List Nat} {a : VT} {old u : Value} (hm : T'.map (·.1) = l) (hvr : votesRow wr (some ⟨gv, 0, none⟩) n c T')
    (hk : keepBut (homes (.slice (some ⟨gv, 0, none⟩) n c)) w0 wr) (hnb : newB b wr G) (hnh : ∀ y ∈ G, y ∉ homes (.slice (some ⟨gv, 0, none⟩) n c)) (hdone : ∀ j t, j < i → T'[j]? = some t → intsV wr G t.2 t.1.conf.chain)
    (hrest : ∀ j t, i ≤ j → T'[j]? = some t → T[j]? = some t) (hTn : T'.length = n) (ht : T'[i]? = some (a, old)) (k1 : keepBut [] wr w') (hu : intsV w' G' u a.conf.chain) (hG : newIn wr w' G') (hb : b + 2 ≤ wr.heap.size) :
    cpVotes b w0 (((w'.setCell ⟨gv, i * 4 + 1, none⟩ (.int .i64 a.conf.num)).setCell ⟨gv, i * 4 + 1 + 1, none⟩ (.int .i64 a.conf.full)).setCell ⟨gv, i * 4 + 1 + 2, none⟩ u) (some ⟨gv, 0, none⟩) n c T l (i + 1) := by
  have hi : i < T'.length := (List.getElem?_eq_some_iff.1 ht).1
  obtain ⟨cur, hr, hcs, hcf, _⟩ := hvr.cells ht
  have hgl := hr.lt
  have hnc : n ≤ c := by
    rcases hvr.2 with ⟨h0, _⟩ | ⟨g', cap, cur', he, _, h1, _⟩
    · cases h0
    · injection he with _ _ he; omega
  have hcm : c ≤ maxLen := by
    rcases hvr.2 with ⟨h0, _⟩ | ⟨g', cap, cur', he, _, _, h1, _⟩
    · cases h0
    · injection he with _ _ he; omega
  have r1 := k1.row hr (by simp)
  have r2 := ((r1.set (i * 4 + 1) (.int .i64 a.conf.num)).set (i * 4 + 1 + 1) (.int .i64 a.conf.full)).set (i * 4 + 1 + 2) u
  have ks := ((kset w' gv (i * 4 + 1) (.int .i64 a.conf.num)).setCell ⟨gv, i * 4 + 1 + 1, none⟩ (.int .i64 a.conf.full) (.inl (by simp))).setCell ⟨gv, i * 4 + 1 + 2, none⟩ u (.inl (by simp))
  have hf := flatVT_set (u := u) ht (cur := cur) hTn (by omega) hcf
  have hs' : ((putL cur (i * 4 + 1) [.int .i64 a.conf.num, .int .i64 a.conf.full, u])).size = c * 4 := by rw [putL_size, hcs]
  refine ⟨T'.set i (a, u), G ++ G', ?_, ⟨?_, .inr ⟨gv, c, _, rfl, r2, hnc, hcm, hs', hf⟩⟩, ?_, ?_, ?_, ?_, ?_⟩
  · rw [← hm]
    apply List.ext_getElem?
    intro j
    rw [List.getElem?_map, List.getElem?_map, List.getElem?_set]
    by_cases e : i = j
    · subst e; rw [if_pos rfl, if_pos hi, ht]; rfl
    · rw [if_neg e]
  · rw [flatVT_len, List.length_set, hTn]
  · exact (hk.then k1 (by simp)).then ks (fun x hx => .inl (by rw [homes_some]; exact hx))
  · intro y hy
    have h1 := k1.size
    have h2 := ks.size
    rcases List.mem_append.1 hy with hy | hy
    · have := hnb y hy; omega
    · have := hG y hy; omega
  · intro y hy
    rcases List.mem_append.1 hy with hy | hy
    · exact hnh y hy
    · have := hG y hy; simp [homes_some]; omega
  · intro j t hj hjt
    rw [List.getElem?_set] at hjt
    by_cases e : i = j
    · subst e
      rw [if_pos rfl, if_pos hi] at hjt
      injection hjt with hjt
      subst hjt
      exact (hu.keep ks (fun y hy => by have := hG y hy; simp; omega)).more (fun y hy => List.mem_append.2 (.inr hy))
    · rw [if_neg e] at hjt
      exact (((hdone j t (by omega) hjt).keep k1 (by simp)).keep ks (fun y hy => by have := hnh y hy; rw [homes_some] at this; exact this)).more (fun y hy => List.mem_append.2 (.inl hy))
  · intro j t hj hjt
    rw [List.getElem?_set, if_neg (by omega)] at hjt
    exact hrest j t (by omega) hjt
end

section


def outPost (w0 : World) (l : List UInt8) (e : Ending) (w' : World) : Prop := ∃ v G, e = .returned (.tuple #[v, .int .i64 0]) ∧ bytesV w' G v l ∧ newIn w0 w' G ∧ keepBut [] w0 w'
theorem RQ.ok_facts {r : RQ} (h : r.ok = true) : (0 ≤ r.client ∧ r.client ≤ 2) ∧ (1 ≤ r.num ∧ r.num ≤ 9007199254740991) ∧ (1 ≤ r.kind ∧ r.kind ≤ 4) ∧ (0 ≤ r.version ∧ r.version ≤ 9007199254740991) ∧ r.env.length ≤ 1024 := by
  unfold RQ.ok at h
  rw [Bool.and_eq_true, Bool.and_eq_true, inP_iff, inP_iff] at h
  obtain ⟨h1, h2, h3⟩ := h
  refine ⟨h1, h2, ?_⟩
  split at h3
  · rename_i hk
    simp at h3
    rw [h3.1, h3.2]
    simp; omega
  · split at h3
    · rename_i hk
      rw [Bool.and_eq_true, inP_iff, inP_iff] at h3
      omega
    · split at h3
      · rename_i hk
        rw [Bool.and_eq_true, Bool.and_eq_true, inP_iff] at h3
        have := h3.2.2
        simp at this
        rw [this]
        simp; omega
      · cases h3
theorem AN.ok_facts {r : AN} (h : r.ok = true) : (0 ≤ r.client ∧ r.client ≤ 2) ∧ (1 ≤ r.num ∧ r.num ≤ 9007199254740991) ∧ (0 ≤ r.code ∧ r.code ≤ 3) ∧ (0 ≤ r.version ∧ r.version ≤ 9007199254740991) ∧ (0 ≤ r.epoch ∧ r.epoch ≤ 255) ∧ r.env.length ≤ 1024 := by
  unfold AN.ok at h
  simp only [Bool.and_eq_true, inP_iff, decide_eq_true_eq] at h
  exact h

end

section


theorem chainB_mem : ∀ (l pre : List Int), chainB pre l = true → ∀ n ∈ l, 10 ≤ n ∧ n ≤ 13
  | [], _, _, n, hn => by simp at hn
  | a :: r, pre, h, n, hn => by
    unfold chainB at h
    rw [Bool.and_eq_true, Bool.and_eq_true, inP_iff] at h
    rcases List.mem_cons.1 hn with rfl | hn
    · exact h.1
    · exact chainB_mem r _ h.2.2 n hn
theorem CF.ok_facts {c : CF} (h : c.ok = true) : (0 ≤ c.num ∧ c.num ≤ 9007199254740991) ∧ (1 ≤ c.chain.length ∧ c.chain.length ≤ 4) ∧ (1 ≤ c.full ∧ c.full ≤ c.chain.length) ∧ ∀ n ∈ c.chain, 10 ≤ n ∧ n ≤ 13 := by
  unfold CF.ok at h
  simp only [Bool.and_eq_true, inP_iff, decide_eq_true_eq] at h
  exact ⟨h.1, ⟨h.2.1, h.2.2.1⟩, h.2.2.2.1, chainB_mem _ _ h.2.2.2.2⟩
end

section


theorem vtsB_at : ∀ {l : List VT} {i : Nat} {v : VT}, vtsB l = true → l[i]? = some v → v.ok = true
  | [], i, v, _, h => by simp at h
  | a :: r, 0, v, hb, h => by
    simp at h; subst h
    unfold vtsB at hb
    exact (Bool.and_eq_true _ _ ▸ hb).1
  | a :: r, i + 1, v, hb, h => by
    unfold vtsB at hb
    rw [Bool.and_eq_true] at hb
    exact vtsB_at (l := r) hb.2 (by simpa using h)
theorem vtsB_take {l : List VT} (h : vtsB l = true) (i : Nat) : vtsB (l.take i) = true := by
  induction l generalizing i with
  | nil => simpa using h
  | cons a r ih =>
    unfold vtsB at h
    rw [Bool.and_eq_true] at h
    cases i with
    | zero => rfl
    | succ i =>
      rw [List.take_succ_cons]
      unfold vtsB
      rw [Bool.and_eq_true]
      exact ⟨h.1, ih h.2 i⟩
end

section


theorem PK.ok_facts {p : PK} (h : p.ok = true) : fieldsP p.kind ≠ 0 ∧ nodeP p.frm = true ∧ nodeP p.dst = true ∧ p.same (p.cut (fieldsP p.kind)) = true ∧ (0 ≤ p.num ∧ p.num ≤ 9007199254740991) ∧ (0 ≤ p.ballot ∧ p.ballot ≤ 9007199254740991) ∧ seqP p.kind p.seq = true ∧ p.bytes.length ≤ 32768 ∧ (bitA (fieldsP p.kind) 16 = 0 ∨ p.req.ok = true) ∧ (bitA (fieldsP p.kind) 32 = 0 ∨ p.ans.ok = true) ∧ (bitA (fieldsP p.kind) 64 = 0 ∨ p.conf.ok = true) ∧ vtsOk p.votes = true := by
  unfold PK.ok PK.parts at h
  simpa only [Bool.and_eq_true, Bool.or_eq_true, inP_iff, decide_eq_true_eq, beq_iff_eq, Bool.not_eq_true', beq_eq_false_iff_ne, ne_eq] using h
theorem fieldsP_kind {k : Int} (h : fieldsP k ≠ 0) : 1 ≤ k ∧ k ≤ 14 := by
  unfold fieldsP at h
  split at h
  · rename_i hk
    by_cases e : k = 0
    · subst e; exact absurd rfl h
    · omega
  · exact absurd rfl h
theorem nodeP_range {n : Int} (h : nodeP n = true) : 0 ≤ n ∧ n ≤ 22 := by
  unfold nodeP at h
  simp only [Bool.or_eq_true, inP_iff] at h
  omega
theorem seqP_range {k n : Int} (h : seqP k n = true) : -1 ≤ n ∧ n ≤ 9007199254740990 := by
  unfold seqP at h
  rw [inP_iff] at h
  split at h <;> omega
end

section


theorem wpList_alloc_to {P : Program} (w w' : World) {ops : Array Oper} {rest : List Oper} {o : Oper} {a : Act} {Q : Exit → Act → World → Prop} (hgd : o.guard = none) (t : TypeId) (ho : o.op = .alloc t)
    (zs : Array Value) (hz : (P.info? t).bind (·.zero) = some (.agg zs)) (hw : w.alloc (.cells zs t) = w') (h : wpList P ops Q rest (a.put o.dst (.pointer (some ⟨w.heap.size, 0, none⟩))) w') : wpList P ops Q (o :: rest) a w := by
  subst hw
  cases hi : P.info? t with
  | none => rw [hi] at hz; cases hz
  | some i =>
    rw [hi] at hz
    have hz' : i.zero = some (.agg zs) := hz
    refine wpList_plain hgd fun K hK => ?_
    have hK' := hK _ _ h
    unfold Oper.wp execOp
    simp only [ho]
    simpa [Instr.alloc, zeroValue, typeInfo, hi, hz', newVar, newRow, Value.cells, go_sem] using hK'
theorem results_row_tmp {P : Program} {fn : Func} {p u : Tmp} {ty : TypeId} (h : fn.results = #[.cell p ty, .tmp u]) (tmps : Array Value) (w : World) (g : Nat) (t : TypeId) (cs : Array Value) (fr : Nat × Nat) (d : TypeDesc)
    (hp : tmps.getD p undef = .pointer (some ⟨g, 0, none⟩)) (hg : w.heap[g]? = some (.cells cs t fr))
    (hu : P.underlying ty = some d) (hd : (match d with | .struct _ | .array _ _ => true | _ => false) = true) (hi : (P.info? ty).map (·.size) = some cs.size) :
    (results fn tmps).run P w = .ok (.tuple #[.agg cs, tmps.getD u undef]) w := by
  rw [results_cell_tmp h, hp]
  simp [asAddr, run_loadVar_row w g t ty cs fr d hg hu hd hi]
def eL {α : Type} (E : Int) (x z : α) : α := if E = 0 then x else z
theorem eL_ok {α : Type} {E : Int} (x z : α) (h : E = 0) : eL E x z = x := by unfold eL; rw [if_pos h]
theorem eL_no {α : Type} {E : Int} (x z : α) (h : E ≠ 0) : eL E x z = z := by unfold eL; rw [if_neg h]
def endP (e : Int) (ok : Bool) : Int := if e = 0 then (if ok then 0 else 4) else e
def pkZero : PK := ⟨0, 0, 0, 0, 0, 0, false, rqZero, anZero, cfZero, [], []⟩
theorem rqZero_name : rqZero.name.length = 32 := by rw [show rqZero.name = List.replicate 32 0 from rfl, List.length_replicate]
theorem anZero_name : anZero.name.length = 32 := by rw [show anZero.name = List.replicate 32 0 from rfl, List.length_replicate]
theorem zv_rq : (Tryd.prog.info? 37).bind (·.zero) = some (.agg (rqL rqZero nilV).toArray) := by kernel_rfl
theorem zv_an : (Tryd.prog.info? 39).bind (·.zero) = some (.agg (anL anZero nilV).toArray) := by kernel_rfl
theorem zv_cf : (Tryd.prog.info? 41).bind (·.zero) = some (.agg (cfL cfZero nilV).toArray) := by kernel_rfl
theorem zv_pk : (Tryd.prog.info? 44).bind (·.zero) = some (.agg (pkL pkZero nilV nilV nilV nilV nilV).toArray) := by kernel_rfl
theorem rqZ_len : (rqL rqZero nilV).length = 37 := rqL_len rqZero_name
theorem anZ_len : (anL anZero nilV).length = 38 := anL_len anZero_name
theorem pkZ_len : (pkL pkZero nilV nilV nilV nilV nilV).length = 87 := pkL_len rqZero_name anZero_name
theorem rqZ_one : ∀ v ∈ rqL rqZero nilV, v.oneCell' = true := rqL_one rqZero rfl
theorem anZ_one : ∀ v ∈ anL anZero nilV, v.oneCell' = true := anL_one anZero rfl
theorem cfZ_one : ∀ v ∈ cfL cfZero nilV, v.oneCell' = true := by intro v hv; simp only [cfL, List.mem_cons, List.not_mem_nil, or_false] at hv; rcases hv with rfl | rfl | rfl <;> rfl
theorem pkZ_one : ∀ v ∈ pkL pkZero nilV nilV nilV nilV nilV, v.oneCell' = true := pkL_one rfl rfl rfl rfl rfl
theorem cfL_one (c : CF) {cv : Value} (h : cv.oneCell' = true) : ∀ v ∈ cfL c cv, v.oneCell' = true := by
  intro v hv; simp only [cfL, List.mem_cons, List.not_mem_nil, or_false] at hv; rcases hv with rfl | rfl | rfl
  · rfl
  · rfl
  · exact h

end

section


theorem step_load_mid {P : Program} {ops : Array Oper} {op : Oper} {a : Act} {w : World} {K : Act → World → Prop} {Q : Exit → Act → World → Prop} {E : Prop} (hgd : op.guard = none) (ty : TypeId) (x : Operand) (ho : op.op = .load ty x)
    (b o : Nat) (hx : a.eval x = .pointer (some ⟨b, o, none⟩)) (cs : List Value) (d : TypeDesc) (hc : w.rangeAt b o cs)
    (hu : P.underlying ty = some d) (hd : d.isRow = true) (hi : (P.info? ty).map (·.size) = some cs.length)
    (h : K (a.put op.dst (.agg cs.toArray)) w) : if Region.wanted op (yielded ops a.tmps) = true then Oper.wp P op a w K Q else E := by
  rw [if_pos (by simp [Region.wanted, hgd])]
  exact wp_load_mid ty x ho b o hx cs d hc hu hd hi h
theorem step_store_mid {P : Program} {ops : Array Oper} {op : Oper} {a : Act} {w : World} {K : Act → World → Prop} {Q : Exit → Act → World → Prop} {E : Prop} (hgd : op.guard = none) (ty : TypeId) (x y : Operand) (ho : op.op = .store ty x y)
    (b o : Nat) (cells : Array Value) (hx : a.eval x = .pointer (some ⟨b, o, none⟩)) (hy : a.eval y = .agg cells)
    (ht : w.there b o cells.size) (hi : (P.info? ty).map (·.size) = some cells.size) (h1 : cells.all (·.oneCell') = true)
    (h : K (a.put op.dst undef) (w.setCells b o cells.toList)) : if Region.wanted op (yielded ops a.tmps) = true then Oper.wp P op a w K Q else E := by
  rw [if_pos (by simp [Region.wanted, hgd])]
  exact wp_store_mid ty x y ho b o cells hx hy ht hi h1 h
theorem run_buildPk (w : World) : (Instr.build 44 #[]).run Tryd.prog w = .ok (.agg (pkL pkZero nilV nilV nilV nilV nilV).toArray) w :=
  run_build w 44 #[] _ (by kernel_rfl)
theorem pkZero_val (w : World) (F : List Nat) : pkV w F pkZero nilV nilV nilV nilV nilV := ⟨rqZero_name, anZero_name, bytesV.nil _ _, bytesV.nil _ _, intsV.nil _ _, votesV.nil _ _, bytesV.nil _ _⟩
theorem eL_pkV {E : Int} {w : World} {G : List Nat} {q : PK} {ev av cv vv bw : Value} (h : pkV w G q ev av cv vv bw) : pkV w G (eL E q pkZero) (eL E ev nilV) (eL E av nilV) (eL E cv nilV) (eL E vv nilV) (eL E bw nilV) := by
  unfold eL
  split
  · exact h
  · exact pkZero_val w G
theorem pkL_eL (E : Int) (q : PK) (ev av cv vv bw : Value) : eL E (pkL q ev av cv vv bw) (pkL pkZero nilV nilV nilV nilV nilV) = pkL (eL E q pkZero) (eL E ev nilV) (eL E av nilV) (eL E cv nilV) (eL E vv nilV) (eL E bw nilV) := by unfold eL; split <;> rfl
end

end Go.Proofs.YtkpmlcgbffdloaaDoor
