/-
  PKA: Pk1, Pk2, joined.
-/
import Derived.Test.YthfdkonhjpdflaaGreatDoorLow3
import Derived.Test.YthfdkonhjpdflaaGreatDoorLow1
import Derived.Laws.Cover1
import Derived.Deep.RegionHeld3
import Derived.Deep.CutBlock
import Derived.Deep.DeepCutAuto
import Derived.BigRegion
import Derived.Outline
import Derived.Lib.Hide
import Derived.Handy
section
namespace Go.Proofs.YthfdkonhjpdflaaGreatDoor
open Go.RowKit
set_option linter.unusedVariables false
set_option maxRecDepth 100000

def inP (n lo hi : Int) : Bool := decide (lo ≤ n) && decide (n ≤ hi)
theorem inP_yes {n lo hi : Int} (h : lo ≤ n ∧ n ≤ hi) : inP n lo hi = true := by unfold inP; simp [h.1, h.2]
theorem inP_no {n lo hi : Int} (h : ¬ (lo ≤ n ∧ n ≤ hi)) : inP n lo hi = false := by
  cases e : inP n lo hi with
  | false => rfl
  | true => exact absurd (by simpa [inP] using e) h
theorem inP_iff {n lo hi : Int} : inP n lo hi = true ↔ lo ≤ n ∧ n ≤ hi := by simp [inP]
def mxI : Int := 9007199254740991
def nodeP (n : Int) : Bool := inP n 0 2 || (inP n 10 13 || inP n 20 22)
def seqP (kind seq : Int) : Bool := inP seq (if kind = 5 then -1 else 0) 9007199254740990
def toldP (b : Bool) : Int := if b then 0 else 2
/-- the fields of each kind -/
def fieldsT : Nat → Int
  | 0 => 0 | 1 => 16 | 2 => 32 | 3 => 19 | 4 => 3 | 5 => 3 | 6 => 259 | 7 => 64 | 8 => 9 | 9 => 1024 | 10 => 6 | 11 => 134 | 12 => 70 | 13 => 6 | _ => 4
def fieldsP (k : Int) : Int := if 0 ≤ k ∧ k ≤ 14 then fieldsT k.toNat else 0
def fieldsAt (w : World) : Prop := ∀ k : Nat, k < 15 → w.cell? ⟨0, k, none⟩ = some (.int .i64 (fieldsT k))
theorem fieldsAt.keep {S : List Nat} {w w' : World} (h : fieldsAt w) (hk : keepBut S w w') (hS : 0 ∉ S) : fieldsAt w' := fun k hk' => by
  have h1 := h k hk'
  exact (hk.cell (p := ⟨0, k, none⟩) (World.block_lt_of_cell? w _ h1) hS).trans h1

set_option maxHeartbeats 400000 in
theorem isMaster_any (n : Int) (w : World) : Calls Tryz.prog 126 #[.int .i64 n] w fun e w' => e = .returned (.bool (inP n 0 2)) ∧ w = w' := by
  go_enter Tryz.func126, Tryz.ntmps126
  by_cases a : 0 ≤ n
  · by_cases b : n < 3
    · go_wp2
      go_ret
      exact ⟨by rw [inP_yes (by omega)]; rfl, rfl⟩
    · go_wp2
      go_ret
      exact ⟨by rw [inP_no (by omega)]; rfl, rfl⟩
  · go_wp2
    go_ret
    exact ⟨by rw [inP_no (by omega)]; rfl, rfl⟩
set_option maxHeartbeats 400000 in
theorem isReplica_any (n : Int) (w : World) : Calls Tryz.prog 86 #[.int .i64 n] w fun e w' => e = .returned (.bool (inP n 10 13)) ∧ w = w' := by
  go_enter Tryz.func86, Tryz.ntmps86
  by_cases a : 10 ≤ n
  · by_cases b : n < 14
    · go_wp2
      go_ret
      exact ⟨by rw [inP_yes (by omega)]; rfl, rfl⟩
    · go_wp2
      go_ret
      exact ⟨by rw [inP_no (by omega)]; rfl, rfl⟩
  · go_wp2
    go_ret
    exact ⟨by rw [inP_no (by omega)]; rfl, rfl⟩
set_option maxHeartbeats 400000 in
theorem isClient_any (n : Int) (w : World) : Calls Tryz.prog 84 #[.int .i64 n] w fun e w' => e = .returned (.bool (inP n 0 2)) ∧ w = w' := by
  go_enter Tryz.func84, Tryz.ntmps84
  by_cases a : 0 ≤ n
  · by_cases b : n < 3
    · go_wp2
      go_ret
      exact ⟨by rw [inP_yes (by omega)]; rfl, rfl⟩
    · go_wp2
      go_ret
      exact ⟨by rw [inP_no (by omega)]; rfl, rfl⟩
  · go_wp2
    go_ret
    exact ⟨by rw [inP_no (by omega)]; rfl, rfl⟩
set_option maxHeartbeats 400000 in
theorem isNumber_any (n : Int) (w : World) : Calls Tryz.prog 63 #[.int .i64 n] w fun e w' => e = .returned (.bool (inP n 0 9007199254740991)) ∧ w = w' := by
  go_enter Tryz.func63, Tryz.ntmps63
  by_cases a : 0 ≤ n
  · by_cases b : n ≤ 9007199254740991
    · go_wp2
      go_ret
      exact ⟨by rw [inP_yes (by omega)]; rfl, rfl⟩
    · go_wp2
      go_ret
      exact ⟨by rw [inP_no (by omega)]; rfl, rfl⟩
  · go_wp2
    go_ret
    exact ⟨by rw [inP_no (by omega)]; rfl, rfl⟩
set_option maxHeartbeats 400000 in
theorem isPositive_any (n : Int) (w : World) : Calls Tryz.prog 85 #[.int .i64 n] w fun e w' => e = .returned (.bool (inP n 1 9007199254740991)) ∧ w = w' := by
  go_enter Tryz.func85, Tryz.ntmps85
  by_cases a : 1 ≤ n
  · by_cases b : n ≤ 9007199254740991
    · go_wp2
      go_ret
      exact ⟨by rw [inP_yes (by omega)]; rfl, rfl⟩
    · go_wp2
      go_ret
      exact ⟨by rw [inP_no (by omega)]; rfl, rfl⟩
  · go_wp2
    go_ret
    exact ⟨by rw [inP_no (by omega)]; rfl, rfl⟩
set_option maxHeartbeats 1000000 in
theorem isNode_any (n : Int) (hn : -9223372036854775808 ≤ n) (hn' : n ≤ 9223372036854775807) (w : World) : Calls Tryz.prog 61 #[.int .i64 n] w fun e w' => e = .returned (.bool (nodeP n)) ∧ w = w' := by
  by_cases a : 0 ≤ n ∧ n ≤ 2
  · have h : nodeP n = true := by unfold nodeP; rw [inP_yes a]; rfl
    have H := Lib.hid h
    have ha := inP_yes a
    clear h
    go_enter Tryz.func61, Tryz.ntmps61
    go_wp2_with fail
    refine (isMaster_any n _).mono ?_; rintro e w' ⟨rfl, rfl⟩
    rw [ha]
    go_wp2_with fail
    go_ret
    exact ⟨by rw [H.out]; rfl, rfl⟩
  · have ha := inP_no a
    by_cases b : 10 ≤ n ∧ n ≤ 13
    · have hb := inP_yes b
      have h : nodeP n = true := by unfold nodeP; rw [ha, hb]; rfl
      have H := Lib.hid h
      clear h
      go_enter Tryz.func61, Tryz.ntmps61
      go_wp2_with fail
      refine (isMaster_any n _).mono ?_; rintro e w' ⟨rfl, rfl⟩
      rw [ha]
      go_wp2_with fail
      refine (isReplica_any n _).mono ?_; rintro e w' ⟨rfl, rfl⟩
      rw [hb]
      go_wp2_with fail
      go_ret
      exact ⟨by rw [H.out]; rfl, rfl⟩
    · have hb := inP_no b
      have h : nodeP n = inP (wrap64 (n - 20)) 0 2 := by
        unfold nodeP
        rw [ha, hb]
        by_cases c : 20 ≤ n ∧ n ≤ 22
        · rw [inP_yes c, inP_yes (by unfold wrap64; omega)]; rfl
        · rw [inP_no c, inP_no (by unfold wrap64; omega)]; rfl
      have H := Lib.hid h
      clear h
      go_enter Tryz.func61, Tryz.ntmps61
      go_wp2_with fail
      refine (isMaster_any n _).mono ?_; rintro e w' ⟨rfl, rfl⟩
      rw [ha]
      go_wp2_with fail
      refine (isReplica_any n _).mono ?_; rintro e w' ⟨rfl, rfl⟩
      rw [hb]
      go_wp2_with fail
      refine (isClient_any _ _).mono ?_; rintro e w' ⟨rfl, rfl⟩
      go_wp2_with fail
      go_ret
      exact ⟨by rw [H.out]; rfl, rfl⟩
set_option maxHeartbeats 400000 in
theorem told_any (b : Bool) (w : World) : Calls Tryz.prog 66 #[.bool b] w fun e w' => e = .returned (.int .i64 (toldP b)) ∧ w = w' := by
  cases b
  all_goals
    go_enter Tryz.func66, Tryz.ntmps66
    go_wp2
    go_ret
    exact ⟨rfl, rfl⟩
set_option maxHeartbeats 400000 in
theorem isSeq_any (k n : Int) (w : World) : Calls Tryz.prog 64 #[.int .i64 k, .int .i64 n] w fun e w' => e = .returned (.bool (seqP k n)) ∧ w = w' := by
  by_cases c : k = 5
  · subst c
    have h : seqP 5 n = inP n (-1) 9007199254740990 := rfl
    by_cases a : -1 ≤ n
    · by_cases b : n < 9007199254740991
      · have H := Lib.hid (h.trans (inP_yes ⟨a, by omega⟩))
        clear h
        go_enter Tryz.func64, Tryz.ntmps64
        go_wp2
        go_ret
        exact ⟨by rw [H.out]; rfl, rfl⟩
      · have H := Lib.hid (h.trans (inP_no (by omega)))
        clear h
        go_enter Tryz.func64, Tryz.ntmps64
        go_wp2
        go_ret
        exact ⟨by rw [H.out]; rfl, rfl⟩
    · have H := Lib.hid (h.trans (inP_no (by omega)))
      clear h
      go_enter Tryz.func64, Tryz.ntmps64
      go_wp2
      go_ret
      exact ⟨by rw [H.out]; rfl, rfl⟩
  · have h : seqP k n = inP n 0 9007199254740990 := by unfold seqP; rw [if_neg c]
    by_cases a : 0 ≤ n
    · by_cases b : n < 9007199254740991
      · have H := Lib.hid (h.trans (inP_yes ⟨a, by omega⟩))
        clear h
        go_enter Tryz.func64, Tryz.ntmps64
        go_wp2
        go_ret
        exact ⟨by rw [H.out]; rfl, rfl⟩
      · have H := Lib.hid (h.trans (inP_no (by omega)))
        clear h
        go_enter Tryz.func64, Tryz.ntmps64
        go_wp2
        go_ret
        exact ⟨by rw [H.out]; rfl, rfl⟩
    · have H := Lib.hid (h.trans (inP_no (by omega)))
      clear h
      go_enter Tryz.func64, Tryz.ntmps64
      go_wp2
      go_ret
      exact ⟨by rw [H.out]; rfl, rfl⟩
set_option maxHeartbeats 400000 in
theorem fieldsOf_any (k : Int) (w : World) (h : fieldsAt w) : Calls Tryz.prog 40 #[.int .i64 k] w fun e w' => e = .returned (.int .i64 (fieldsP k)) ∧ w = w' := by
  by_cases a : 0 ≤ k
  · by_cases b : k ≤ 14
    · obtain ⟨n, rfl⟩ : ∃ n : Nat, k = (n : Int) := ⟨k.toNat, by omega⟩
      have hc := h n (by omega)
      have hn15 : (n : Int) < 15 := by omega
      have H := Lib.hid (show fieldsP (n : Int) = fieldsT n by unfold fieldsP; rw [if_pos ⟨a, b⟩]; rfl)
      clear h
      go_enter Tryz.func40, Tryz.ntmps40
      go_wp2
      go_ret
      exact ⟨by rw [H.out]; rfl, rfl⟩
    · have H := Lib.hid (show fieldsP k = 0 by unfold fieldsP; rw [if_neg (by omega)])
      clear h
      go_enter Tryz.func40, Tryz.ntmps40
      go_wp2
      go_ret
      exact ⟨by rw [H.out]; rfl, rfl⟩
  · have H := Lib.hid (show fieldsP k = 0 by unfold fieldsP; rw [if_neg (by omega)])
    clear h
    go_enter Tryz.func40, Tryz.ntmps40
    go_wp2
    go_ret
    exact ⟨by rw [H.out]; rfl, rfl⟩
end Go.Proofs.YthfdkonhjpdflaaGreatDoor
end

section
namespace Go.Proofs.YthfdkonhjpdflaaGreatDoor
open Go.RowKit
set_option linter.unusedVariables false
set_option maxRecDepth 100000

structure RQ where
  client : Int
  num : Int
  kind : Int
  version : Int
  name : List UInt8
  env : List UInt8
structure AN where
  client : Int
  num : Int
  code : Int
  version : Int
  epoch : Int
  name : List UInt8
  env : List UInt8
structure CF where
  num : Int
  full : Int
  chain : List Int
structure VT where
  ballot : Int
  conf : CF
structure PK where
  kind : Int
  frm : Int
  dst : Int
  num : Int
  seq : Int
  ballot : Int
  ready : Bool
  req : RQ
  ans : AN
  conf : CF
  votes : List VT
  bytes : List UInt8

/-- the value v is a slice that reads as the bytes l, in the blocks F -/
def bytesV (w : World) (F : List Nat) (v : Value) (l : List UInt8) : Prop :=
  ∃ (A : Option Addr) (c g : Nat), v = .slice A l.length c ∧ l.length ≤ c ∧ c ≤ maxLen ∧ seen w A g l ∧ (l ≠ [] → g ∈ F)
theorem bytesV.keep {S F : List Nat} {w w' : World} {v : Value} {l : List UInt8} (h : bytesV w F v l) (hk : keepBut S w w') (hS : ∀ y ∈ F, y ∉ S) : bytesV w' F v l := by
  obtain ⟨A, c, g, h1, h2, h3, h5, h6⟩ := h
  exact ⟨A, c, g, h1, h2, h3, h5.keep hk (fun hl => hS g (h6 hl)), h6⟩
theorem bytesV.more {F G : List Nat} {w : World} {v : Value} {l : List UInt8} (h : bytesV w F v l) (hF : ∀ y ∈ F, y ∈ G) : bytesV w G v l := by
  obtain ⟨A, c, g, h1, h2, h3, h5, h6⟩ := h
  exact ⟨A, c, g, h1, h2, h3, h5, fun hl => hF g (h6 hl)⟩
theorem bytesV.nil (w : World) (F : List Nat) : bytesV w F (.slice none 0 0) [] := ⟨none, 0, 0, rfl, by simp, by simp [maxLen], seen.nil _ _ _, fun h => absurd rfl h⟩
/-- the value v is a slice that reads as the numbers l, in the blocks F -/
def intsV (w : World) (F : List Nat) (v : Value) (l : List Int) : Prop :=
  ∃ (A : Option Addr) (c g : Nat), v = .slice A l.length c ∧ l.length ≤ c ∧ c ≤ maxLen ∧ reads w A g l.length 1 (l.map (Value.int .i64)) ∧ (l ≠ [] → g ∈ F)
theorem reads.keepS {S : List Nat} {w w' : World} {A : Option Addr} {g n sz : Nat} {xs : List Value} (h : reads w A g n sz xs) (hk : keepBut S w w') (hS : 0 < n → g ∉ S) : reads w' A g n sz xs := by
  refine ⟨h.1, fun hn => ?_⟩
  obtain ⟨o, e1, e2, e3⟩ := h.2 hn
  exact ⟨o, e1, Nat.lt_of_lt_of_le e2 hk.size, fun j u hu => (hk.cell (p := ⟨g, o + j, none⟩) e2 (hS hn)).trans (e3 j u hu)⟩
theorem intsV.keep {S F : List Nat} {w w' : World} {v : Value} {l : List Int} (h : intsV w F v l) (hk : keepBut S w w') (hS : ∀ y ∈ F, y ∉ S) : intsV w' F v l := by
  obtain ⟨A, c, g, h1, h2, h3, h5, h6⟩ := h
  exact ⟨A, c, g, h1, h2, h3, h5.keepS hk (fun hl => hS g (h6 (List.length_pos_iff.1 hl))), h6⟩
theorem intsV.more {F G : List Nat} {w : World} {v : Value} {l : List Int} (h : intsV w F v l) (hF : ∀ y ∈ F, y ∈ G) : intsV w G v l := by
  obtain ⟨A, c, g, h1, h2, h3, h5, h6⟩ := h
  exact ⟨A, c, g, h1, h2, h3, h5, fun hl => hF g (h6 hl)⟩
theorem intsV.nil (w : World) (F : List Nat) : intsV w F (.slice none 0 0) [] := ⟨none, 0, 0, rfl, by simp, by simp [maxLen], ⟨rfl, fun h => absurd h (by simp)⟩, fun h => absurd rfl h⟩

/-! their cells -/
def rqL (r : RQ) (ev : Value) : List Value := .int .i64 r.client :: .int .i64 r.num :: .int .i64 r.kind :: .int .i64 r.version :: (nameL r.name ++ [ev])
def anL (a : AN) (ev : Value) : List Value := .int .i64 a.client :: .int .i64 a.num :: .int .i64 a.code :: .int .i64 a.version :: .int .i64 a.epoch :: (nameL a.name ++ [ev])
def cfL (c : CF) (cv : Value) : List Value := [.int .i64 c.num, .int .i64 c.full, cv]
def vtL (v : VT) (cv : Value) : List Value := .int .i64 v.ballot :: cfL v.conf cv
def flatVT : List (VT × Value) → List Value
  | [] => []
  | t :: r => vtL t.1 t.2 ++ flatVT r
theorem flatVT_len : ∀ T : List (VT × Value), (flatVT T).length = T.length * 4
  | [] => rfl
  | t :: r => by simp [flatVT, vtL, cfL, flatVT_len r]; omega
def pkL (p : PK) (ev av cv vv bw : Value) : List Value :=
  .int .i64 p.kind :: .int .i64 p.frm :: .int .i64 p.dst :: .int .i64 p.num :: .int .i64 p.seq :: .int .i64 p.ballot :: .bool p.ready :: (rqL p.req ev ++ (anL p.ans av ++ (cfL p.conf cv ++ [vv, bw])))
theorem rqL_len {r : RQ} {ev : Value} (h : r.name.length = 32) : (rqL r ev).length = 37 := by simp [rqL, nameL_len, h]
theorem anL_len {a : AN} {ev : Value} (h : a.name.length = 32) : (anL a ev).length = 38 := by simp [anL, nameL_len, h]
theorem pkL_len {p : PK} {ev av cv vv bw : Value} (h : p.req.name.length = 32) (h' : p.ans.name.length = 32) : (pkL p ev av cv vv bw).length = 87 := by
  have e1 : (rqL p.req ev).length = 37 := rqL_len h
  have e2 : (anL p.ans av).length = 38 := anL_len h'
  unfold pkL
  simp only [List.length_cons, List.length_append, e1, e2]
  rfl
theorem mid_at {l m r : List Value} {k : Nat} (hk : l.length = k) : ∀ j v, m[j]? = some v → (l ++ (m ++ r))[k + j]? = some v := fun j v hv => by
  subst hk
  rw [List.getElem?_append_right (by omega), show l.length + j - l.length = j by omega, List.getElem?_append_left (List.getElem?_eq_some_iff.1 hv).1]
  exact hv
theorem rqL_name (r : RQ) (ev : Value) : ∀ j v, (nameL r.name)[j]? = some v → (rqL r ev).toArray[4 + j]? = some v := fun j v hv => by
  have := mid_at (l := [.int .i64 r.client, .int .i64 r.num, .int .i64 r.kind, .int .i64 r.version]) (r := [ev]) rfl j v hv
  simpa [rqL] using this
theorem rqL_env {r : RQ} {ev : Value} (h : r.name.length = 32) : (rqL r ev).toArray[36]? = some ev := by
  have := mid_at (l := .int .i64 r.client :: .int .i64 r.num :: .int .i64 r.kind :: .int .i64 r.version :: nameL r.name) (m := [ev]) (r := []) (k := 36) (by simp [nameL_len, h]) 0 ev rfl
  simpa [rqL] using this
theorem anL_name (a : AN) (ev : Value) : ∀ j v, (nameL a.name)[j]? = some v → (anL a ev).toArray[5 + j]? = some v := fun j v hv => by
  have := mid_at (l := [.int .i64 a.client, .int .i64 a.num, .int .i64 a.code, .int .i64 a.version, .int .i64 a.epoch]) (r := [ev]) rfl j v hv
  simpa [anL] using this
theorem anL_env {a : AN} {ev : Value} (h : a.name.length = 32) : (anL a ev).toArray[37]? = some ev := by
  have := mid_at (l := .int .i64 a.client :: .int .i64 a.num :: .int .i64 a.code :: .int .i64 a.version :: .int .i64 a.epoch :: nameL a.name) (m := [ev]) (r := []) (k := 37) (by simp [nameL_len, h]) 0 ev rfl
  simpa [anL] using this
/-- bytes.Equal -/
theorem equalPk_any (A B : Option Addr) (g h c d : Nat) (l m : List UInt8) (w : World) (hl : seen w A g l) (hm : seen w B h m) :
    Calls Tryz.prog 78 #[.slice A l.length c, .slice B m.length d] w fun e w' => e = .returned (.bool (l == m)) ∧ w = w' := by
  have k1 := convert_seen (P := Tryz.prog) w 24 5 9 Tryz.underlying24 Tryz.underlying5 Tryz.underlying9 A g c l hl
  have k2 := convert_seen (P := Tryz.prog) w 24 5 9 Tryz.underlying24 Tryz.underlying5 Tryz.underlying9 B h d m hm
  go_enter Tryz.func78, Tryz.ntmps78
  go_wp2
  go_ret
  exact ⟨by rw [strOf_list, strOf_list]; rfl, rfl⟩
end Go.Proofs.YthfdkonhjpdflaaGreatDoor
end
