/-
  TABLE, 9: the table as a row; where a key stands.
-/
import Derived.Test.YtmlmhnhilemjhaaDoorTB6
import Derived.Test.YtmlmhnhilemjhaaDoorTB7
import Derived.Test.YtmlmhnhilemjhaaDoorTB8
namespace Go.Proofs.YtmlmhnhilemjhaaDoor
open Go.RowKit
set_option linter.unusedVariables false
set_option maxRecDepth 100000
set_option linter.unusedSimpArgs false

/-- an object: its name, version, envelope, and the envelope's value -/
structure OB where
  name : List UInt8
  version : Int
  env : List UInt8
  ev : Value
/-- an answer and its envelope's value -/
structure AB where
  ans : AN
  ev : Value
/-- a table -/
structure TS where
  epoch : Int
  objs : List OB
  answers : List AB
  kv : Value
  vv : Value
  iv : Value
  av : Value
  F : List Nat
def TS.names (s : TS) : List (List UInt8) := s.objs.map (·.name)
def TS.keys (s : TS) : List Int := s.answers.map (·.ans.client)
def flatO : List OB → List Value
  | [] => []
  | b :: r => .int .i64 b.version :: b.ev :: flatO r
def flatA : List AB → List Value
  | [] => []
  | b :: r => anL b.ans b.ev ++ flatA r
def posN (s : TS) (t : List UInt8) : Nat := posOf (fun n => Lib.compareBytes n t) s.names
def hitN (s : TS) (t : List UInt8) : Bool := hitOf (fun n => Lib.compareBytes n t) s.names
def posI (s : TS) (t : Int) : Nat := posOf (fun n => n - t) s.keys
def hitI (s : TS) (t : Int) : Bool := hitOf (fun n => n - t) s.keys

structure isT (w : World) (p : Nat) (s : TS) : Prop where
  row : rowAt w p 67 #[.int .i64 s.epoch, ordN, s.kv, s.vv, ordI, s.iv, s.av]
  kown : owns w 28 32 s.kv s.names.length (flatN s.names)
  vown : owns w 72 2 s.vv s.objs.length (flatO s.objs)
  iown : owns w 3 1 s.iv s.keys.length (s.keys.map (Value.int .i64))
  aown : owns w 40 38 s.av s.answers.length (flatA s.answers)
  names : ∀ n ∈ s.names, n.length = 32
  clients : ∀ c ∈ s.keys, 0 ≤ c ∧ c ≤ 1000000
  small : s.names.length ≤ 100
  few : s.keys.length ≤ 100
  sortN : s.names.Pairwise (fun a b => Lib.compareBytes a b < 0)
  sortI : s.keys.Pairwise (fun a b => a < b)
  ansN : ∀ b ∈ s.answers, b.ans.name.length = 32
  envO : ∀ b ∈ s.objs, bytesV w s.F b.ev b.env
  envA : ∀ b ∈ s.answers, bytesV w s.F b.ev b.ans.env
  blocks : ∀ y ∈ s.F, ∃ cs, rowAt w y 5 cs
  lensO : ∀ b ∈ s.objs, b.env.length ≤ 1000
  lensA : ∀ b ∈ s.answers, b.ans.env.length ≤ 1000

theorem isT.over {w w' : World} {p : Nat} {s : TS} (h : isT w p s) (k : keepBut [] w w') : isT w' p s :=
  ⟨k.row h.row (by simp), h.kown.keep k (by simp), h.vown.keep k (by simp), h.iown.keep k (by simp), h.aown.keep k (by simp), h.names, h.clients, h.small, h.few, h.sortN, h.sortI, h.ansN,
   fun b hb => (h.envO b hb).keep k (by simp), fun b hb => (h.envA b hb).keep k (by simp), fun y hy => let ⟨cs, hc⟩ := h.blocks y hy; ⟨cs, k.row hc (by simp)⟩, h.lensO, h.lensA⟩

/-! the order of names -/
theorem cmpB_refl : ∀ a : List UInt8, Lib.compareBytes a a = 0
  | [] => rfl
  | x :: a => by simp [Lib.compareBytes, cmpB_refl a, UInt8.lt_irrefl]
theorem cmpB_range : ∀ a b : List UInt8, Lib.compareBytes a b = 0 ∨ Lib.compareBytes a b = 1 ∨ Lib.compareBytes a b = -1
  | [], [] => .inl rfl
  | [], _ :: _ => .inr (.inr rfl)
  | _ :: _, [] => .inr (.inl rfl)
  | x :: a, y :: b => by
    unfold Lib.compareBytes
    split
    · exact .inr (.inr rfl)
    · split
      · exact .inr (.inl rfl)
      · exact cmpB_range a b
theorem cmpB_eq : ∀ a b : List UInt8, Lib.compareBytes a b = 0 → a = b
  | [], [], _ => rfl
  | [], _ :: _, h => by simp [Lib.compareBytes] at h
  | _ :: _, [], h => by simp [Lib.compareBytes] at h
  | x :: a, y :: b, h => by
    unfold Lib.compareBytes at h
    split at h
    · omega
    · rename_i h1
      split at h
      · omega
      · rename_i h2
        rw [cmpB_eq a b h, show x = y from UInt8.le_antisymm (UInt8.not_lt.1 h2) (UInt8.not_lt.1 h1)]
theorem cmpB_anti : ∀ a b : List UInt8, Lib.compareBytes b a = - Lib.compareBytes a b
  | [], [] => rfl
  | [], _ :: _ => rfl
  | _ :: _, [] => rfl
  | x :: a, y :: b => by
    unfold Lib.compareBytes
    by_cases h1 : x < y
    · have h2 : ¬ y < x := UInt8.not_lt.2 (UInt8.le_of_lt h1)
      simp [h1, h2]
    · by_cases h2 : y < x
      · simp [h1, h2]
      · simp [h1, h2, cmpB_anti a b]
theorem cmpB_trans : ∀ a b c : List UInt8, Lib.compareBytes a b < 0 → Lib.compareBytes b c < 0 → Lib.compareBytes a c < 0
  | [], [], _, h, _ => by simp [Lib.compareBytes] at h
  | [], _ :: _, [], _, h => by simp [Lib.compareBytes] at h
  | [], _ :: _, _ :: _, _, _ => by simp [Lib.compareBytes]
  | _ :: _, [], _, h, _ => by simp [Lib.compareBytes] at h
  | _ :: _, _ :: _, [], _, h => by simp [Lib.compareBytes] at h
  | x :: a, y :: b, z :: c, h1, h2 => by
    unfold Lib.compareBytes at h1 h2 ⊢
    by_cases xy : x < y
    · by_cases yz : y < z
      · simp [UInt8.lt_trans xy yz]
      · by_cases zy : z < y
        · simp [yz, zy] at h2
        · have : y = z := UInt8.le_antisymm (UInt8.not_lt.1 zy) (UInt8.not_lt.1 yz)
          subst this
          simp [xy]
    · by_cases yx : y < x
      · simp [xy, yx] at h1
      · have : x = y := UInt8.le_antisymm (UInt8.not_lt.1 yx) (UInt8.not_lt.1 xy)
        subst this
        simp only [UInt8.lt_irrefl, if_false] at h1
        by_cases yz : x < z
        · simp [yz]
        · by_cases zy : z < x
          · simp [yz, zy] at h2
          · simp only [yz, zy, if_false] at h2 ⊢
            exact cmpB_trans a b c h1 h2
theorem isT.monoN {w : World} {p : Nat} {s : TS} (h : isT w p s) {t : List UInt8} (ht : t.length = 32) : monoF (fun n => Lib.compareBytes n t) s.names := fun a b x y hab hx hy hlt => by
  rcases Nat.lt_or_ge a b with h1 | h1
  · obtain ⟨ha, rfl⟩ := List.getElem?_eq_some_iff.1 hx
    obtain ⟨hb, rfl⟩ := List.getElem?_eq_some_iff.1 hy
    exact cmpB_trans _ _ _ (List.pairwise_iff_getElem.1 h.sortN a b ha hb h1) hlt
  · obtain rfl : a = b := by omega
    rw [hx] at hy
    injection hy with hy
    subst hy
    exact hlt
theorem isT.monoI {w : World} {p : Nat} {s : TS} (h : isT w p s) (t : Int) : monoF (fun n => n - t) s.keys := fun a b x y hab hx hy hlt => by
  rcases Nat.lt_or_ge a b with h1 | h1
  · obtain ⟨ha, rfl⟩ := List.getElem?_eq_some_iff.1 hx
    obtain ⟨hb, rfl⟩ := List.getElem?_eq_some_iff.1 hy
    have := List.pairwise_iff_getElem.1 h.sortI a b ha hb h1
    dsimp only at hlt ⊢
    omega
  · obtain rfl : a = b := by omega
    rw [hx] at hy
    injection hy with hy
    subst hy
    exact hlt

set_option maxHeartbeats 4000000 in
theorem searchN_nil (t : List UInt8) (ht : t.length = 32) (w : World) :
    Calls Tryd.prog 72 #[.slice none 0 0, .agg (nameL t).toArray, ordN] w fun e w' => e = .returned (.tuple #[.int .i64 0, .bool false]) ∧ keepBut [] w w' := by
  obtain ⟨w1, hw1⟩ : ∃ w1, w.alloc (.cells (nameL t).toArray 28) = w1 := ⟨_, rfl⟩
  have k1 : keepBut [] w w1 := hw1 ▸ (keepBut.refl [] w).alloc _
  have HW1 := Lib.hid hw1
  have S1 := Lib.hid k1
  clear hw1 k1
  unfold ordN
  go_enter Tryd.func72, Tryd.ntmps72
  go_upto_region 1 with (with_reducible refine wpList_box_to _ _ rfl 28 (.tmp 1) rfl _ rfl HW1.out ?_)
  go_wp2
  refine wp_loop_rounds 1 ?_
  rw [rounds_succ]
  go_upto_region 8 with fail
  have KS := S1.out.drew
  refine wp_region_held_drew (S := fun W => keepBut [] w W) (by kernel_rfl) KS (fun _ => ?_)
  refine wpAnyH_take (i := 0) (oi := ⟨_, _, _, _, _, _⟩) (v := ?_) rfl (by kernel_rfl) (by kernel_rfl) (by kernel_rfl) (fun _ _ _ h => h) (Or.inl ⟨by rfl, ?_⟩) KS ?_
  rotate_left
  · intro w' hSw; (go_simp; try with_reducible rfl)
  try simp only [Act.put, List.setIfInBounds_toArray, List.set_cons_zero, List.set_cons_succ]
  refine wpAnyH_take (i := 1) (oi := ⟨_, _, _, _, _, _⟩) (v := ?_) rfl (by kernel_rfl) (by kernel_rfl) (by kernel_rfl) (fun _ _ _ h => h) (Or.inl ⟨by rfl, ?_⟩) KS ?_
  rotate_left
  · intro w' hSw; (go_simp; try with_reducible rfl)
  try simp only [Act.put, List.setIfInBounds_toArray, List.set_cons_zero, List.set_cons_succ]
  refine wpAnyH_take (i := 2) (oi := ⟨_, _, _, _, _, _⟩) (v := ?_) rfl (by kernel_rfl) (by kernel_rfl) (by kernel_rfl) (fun _ _ _ h => h) (Or.inl ⟨by rfl, ?_⟩) KS ?_
  rotate_left
  · intro w' hSw; (go_simp; try with_reducible rfl)
  try simp only [Act.put, List.setIfInBounds_toArray, List.set_cons_zero, List.set_cons_succ]
  refine wpAnyH_take (i := 3) (oi := ⟨_, _, _, _, _, _⟩) (v := ?_) rfl (by kernel_rfl) (by kernel_rfl) (by kernel_rfl) (fun _ _ _ h => h) (Or.inl ⟨by rfl, ?_⟩) KS ?_
  rotate_left
  · intro w' hSw; (go_simp; try with_reducible rfl)
  try simp only [Act.put, List.setIfInBounds_toArray, List.set_cons_zero, List.set_cons_succ]
  refine wpAnyH_take (i := 4) (oi := ⟨_, _, _, _, _, _⟩) (v := ?_) rfl (by kernel_rfl) (by kernel_rfl) (by kernel_rfl) (fun _ _ _ h => h) (Or.inl ⟨by rfl, ?_⟩) KS ?_
  rotate_left
  · intro w' hSw; (go_simp; try with_reducible rfl)
  try simp only [Act.put, List.setIfInBounds_toArray, List.set_cons_zero, List.set_cons_succ]
  refine wpAnyH_take (i := 5) (oi := ⟨_, _, _, _, _, _⟩) (v := undef) rfl (by kernel_rfl) (by kernel_rfl) (by kernel_rfl) (fun _ _ _ h => h) (Or.inr ⟨by rfl, rfl⟩) KS ?_
  try simp only [Act.put, List.setIfInBounds_toArray, List.set_cons_zero, List.set_cons_succ]
  refine wpAnyH_take (i := 6) (oi := ⟨_, _, _, _, _, _⟩) (v := undef) rfl (by kernel_rfl) (by kernel_rfl) (by kernel_rfl) (fun _ _ _ h => h) (Or.inr ⟨by rfl, rfl⟩) KS ?_
  try simp only [Act.put, List.setIfInBounds_toArray, List.set_cons_zero, List.set_cons_succ]
  refine wpAnyH_take (i := 7) (oi := ⟨_, _, _, _, _, _⟩) (v := undef) rfl (by kernel_rfl) (by kernel_rfl) (by kernel_rfl) (fun _ _ _ h => h) (Or.inr ⟨by rfl, rfl⟩) KS ?_
  try simp only [Act.put, List.setIfInBounds_toArray, List.set_cons_zero, List.set_cons_succ]
  refine wpAnyH_take (i := 8) (oi := ⟨_, _, _, _, _, _⟩) (v := undef) rfl (by kernel_rfl) (by kernel_rfl) (by kernel_rfl) (fun _ _ _ h => h) (Or.inr ⟨by rfl, rfl⟩) KS ?_
  try simp only [Act.put, List.setIfInBounds_toArray, List.set_cons_zero, List.set_cons_succ]
  refine wpAnyH_take (i := 9) (oi := ⟨_, _, _, _, _, _⟩) (v := undef) rfl (by kernel_rfl) (by kernel_rfl) (by kernel_rfl) (fun _ _ _ h => h) (Or.inr ⟨by rfl, rfl⟩) KS ?_
  try simp only [Act.put, List.setIfInBounds_toArray, List.set_cons_zero, List.set_cons_succ]
  refine wpAnyH_take (i := 10) (oi := ⟨_, _, _, _, _, _⟩) (v := undef) rfl (by kernel_rfl) (by kernel_rfl) (by kernel_rfl) (fun _ _ _ h => h) (Or.inr ⟨by rfl, rfl⟩) KS ?_
  try simp only [Act.put, List.setIfInBounds_toArray, List.set_cons_zero, List.set_cons_succ]
  refine wpAnyH_take (i := 11) (oi := ⟨_, _, _, _, _, _⟩) (v := undef) rfl (by kernel_rfl) (by kernel_rfl) (by kernel_rfl) (fun _ _ _ h => h) (Or.inr ⟨by rfl, rfl⟩) KS ?_
  try simp only [Act.put, List.setIfInBounds_toArray, List.set_cons_zero, List.set_cons_succ]
  refine wpAnyH_take (i := 12) (oi := ⟨_, _, _, _, _, _⟩) (v := undef) rfl (by kernel_rfl) (by kernel_rfl) (by kernel_rfl) (fun _ _ _ h => h) (Or.inr ⟨by rfl, rfl⟩) KS ?_
  try simp only [Act.put, List.setIfInBounds_toArray, List.set_cons_zero, List.set_cons_succ]
  refine wpAnyH_take (i := 13) (oi := ⟨_, _, _, _, _, _⟩) (v := ?_) rfl (by kernel_rfl) (by kernel_rfl) (by kernel_rfl) (fun _ _ _ h => h) (Or.inl ⟨by rfl, ?_⟩) KS ?_
  rotate_left
  · intro w' hSw; (go_simp; try with_reducible rfl)
  try simp only [Act.put, List.setIfInBounds_toArray, List.set_cons_zero, List.set_cons_succ]
  refine wpAnyH_take (i := 14) (oi := ⟨_, _, _, _, _, _⟩) (v := ?_) rfl (by kernel_rfl) (by kernel_rfl) (by kernel_rfl) (fun _ _ _ h => h) (Or.inl ⟨by rfl, ?_⟩) KS ?_
  rotate_left
  · intro w' hSw; (go_simp; try with_reducible rfl)
  try simp only [Act.put, List.setIfInBounds_toArray, List.set_cons_zero, List.set_cons_succ]
  refine wpAnyH_take (i := 15) (oi := ⟨_, _, _, _, _, _⟩) (v := ?_) rfl (by kernel_rfl) (by kernel_rfl) (by kernel_rfl) (fun _ _ _ h => h) (Or.inl ⟨by rfl, ?_⟩) KS ?_
  rotate_left
  · intro w' hSw; (go_simp; try with_reducible rfl)
  try simp only [Act.put, List.setIfInBounds_toArray, List.set_cons_zero, List.set_cons_succ]
  refine wpAnyH_done (by kernel_rfl) ?_ _
  go_wp2_with fail
  go_ret2
  exact ⟨rfl, KS⟩
set_option maxHeartbeats 4000000 in
theorem searchI_nil (t : Int) (w : World) :
    Calls Tryd.prog 73 #[.slice none 0 0, .int .i64 t, ordI] w fun e w' => e = .returned (.tuple #[.int .i64 0, .bool false]) ∧ keepBut [] w w' := by
  unfold ordI
  go_enter Tryd.func73, Tryd.ntmps73
  go_wp2
  refine wp_loop_rounds 1 ?_
  rw [rounds_succ]
  go_wp2
  go_ret2
  exact ⟨rfl, keepBut.refl _ _⟩
theorem searchN_own (v : Value) (ns : List (List UInt8)) (t : List UInt8) (w : World) (hl : ∀ n ∈ ns, n.length = 32) (ht : t.length = 32) (hown : owns w 28 32 v ns.length (flatN ns)) (hsz : ns.length ≤ 1000000)
    (hm : monoF (fun n => Lib.compareBytes n t) ns) :
    Calls Tryd.prog 72 #[v, .agg (nameL t).toArray, ordN] w
      fun e w' => e = .returned (.tuple #[.int .i64 (posOf (fun n => Lib.compareBytes n t) ns : Nat), .bool (hitOf (fun n => Lib.compareBytes n t) ns)]) ∧ keepBut [] w w' := by
  rcases hown.2 with ⟨rfl, h0⟩ | ⟨g, cap, cur, rfl, hr, _⟩
  · obtain rfl : ns = [] := List.eq_nil_of_length_eq_zero h0
    exact searchN_nil t ht w
  · obtain ⟨A, c, he, _, _, _, hrd⟩ := hown.form
    injection he with h1 h2 h3
    subst h1
    exact searchN_any g 0 cap ns t w hl ht (hrd g (by simp [homes_some])) hsz hm
theorem searchI_own (v : Value) (ns : List Int) (t : Int) (w : World) (hl : ∀ n ∈ ns, 0 ≤ n ∧ n ≤ 1000000) (ht : 0 ≤ t ∧ t ≤ 1000000) (hown : owns w 3 1 v ns.length (ns.map (Value.int .i64))) (hsz : ns.length ≤ 1000000)
    (hm : monoF (fun n => n - t) ns) :
    Calls Tryd.prog 73 #[v, .int .i64 t, ordI] w
      fun e w' => e = .returned (.tuple #[.int .i64 (posOf (fun n => n - t) ns : Nat), .bool (hitOf (fun n => n - t) ns)]) ∧ keepBut [] w w' := by
  rcases hown.2 with ⟨rfl, h0⟩ | ⟨g, cap, cur, rfl, hr, _⟩
  · obtain rfl : ns = [] := List.eq_nil_of_length_eq_zero h0
    exact searchI_nil t w
  · obtain ⟨A, c, he, _, _, _, hrd⟩ := hown.form
    injection he with h1 h2 h3
    subst h1
    exact searchI_any g 0 cap ns t w hl ht (hrd g (by simp [homes_some])) hsz hm

set_option maxHeartbeats 4000000 in
theorem findN_any (p : Nat) (s : TS) (t : List UInt8) (ht : t.length = 32) (w : World) (h : isT w p s) :
    Calls Tryd.prog 46 #[.pointer (some ⟨p, 1, none⟩), .agg (nameL t).toArray] w
      fun e w' => e = .returned (.tuple #[.int .i64 (posN s t : Nat), .bool (hitN s t)]) ∧ keepBut [] w w' := by
  obtain ⟨w1, hw1⟩ : ∃ w1, w.alloc (.cells (nameL t).toArray 28) = w1 := ⟨_, rfl⟩
  have r1 : rowAt w1 w.heap.size 28 (nameL t).toArray := hw1 ▸ rowAt.new _ _ _
  have k1 : keepBut [] w w1 := hw1 ▸ (keepBut.refl [] w).alloc _
  have HW1 := Lib.hid hw1
  have HRG : Hid (∀ W, keepBut [] w1 W → isT W p s ∧ W.rangeAt w.heap.size 0 (nameL t)) := Lib.hid (fun W k => ⟨(h.over k1).over k, (k.row r1 (by simp)).rangeAll⟩)
  have KS : keepBut [] w1 w1.drew := (keepBut.refl [] w1).drew
  have HK := Lib.hid k1
  have HT := Lib.hid (And.intro h.names (And.intro h.small ht))
  have HM := Lib.hid (h.monoN ht)
  clear hw1 r1 k1 h
  go_enter Tryd.func46, Tryd.ntmps46
  go_upto_region 1 with (with_reducible refine wpList_box_to _ _ rfl 28 (.tmp 1) rfl _ rfl HW1.out ?_)
  refine wp_region_held_drew (S := fun W => keepBut [] w1 W) (by kernel_rfl) KS (fun _ => ?_)
  refine wpAnyH_take (i := 0) (oi := ⟨_, _, _, _, _, _⟩) (v := ?_) rfl (by kernel_rfl) (by kernel_rfl) (by kernel_rfl) (fun _ _ _ h => h) (Or.inl ⟨by rfl, ?_⟩) KS ?_
  rotate_left
  · intro w' hSw; (go_simp; try with_reducible rfl)
  try simp only [Act.put, List.setIfInBounds_toArray, List.set_cons_zero, List.set_cons_succ]
  refine wpAnyH_take (i := 1) (oi := ⟨_, _, _, _, _, _⟩) (v := ?_) rfl (by kernel_rfl) (by kernel_rfl) (by kernel_rfl) (fun _ _ _ h => h) (Or.inl ⟨by rfl, ?_⟩) KS ?_
  rotate_left
  · intro w' hSw; (go_simp; try with_reducible rfl)
  try simp only [Act.put, List.setIfInBounds_toArray, List.set_cons_zero, List.set_cons_succ]
  refine wpAnyH_take (i := 2) (oi := ⟨_, _, _, _, _, _⟩) (v := ?_) rfl (by kernel_rfl) (by kernel_rfl) (by kernel_rfl) (fun _ _ _ h => h) (Or.inl ⟨by rfl, ?_⟩) KS ?_
  rotate_left
  · intro w' hSw; (go_simp; try with_reducible rfl)
  try simp only [Act.put, List.setIfInBounds_toArray, List.set_cons_zero, List.set_cons_succ]
  refine wpAnyH_take (i := 3) (oi := ⟨_, _, _, _, _, _⟩) (v := ?_) rfl (by kernel_rfl) (by kernel_rfl) (by kernel_rfl) (fun _ _ _ h => h) (Or.inl ⟨by rfl, ?_⟩) KS ?_
  rotate_left
  · intro w' hSw; have hy := (HRG.out w' hSw).1.row.cell 2; (go_simp; try with_reducible rfl)
  try simp only [Act.put, List.setIfInBounds_toArray, List.set_cons_zero, List.set_cons_succ]
  refine wpAnyH_take (i := 4) (oi := ⟨_, _, _, _, _, _⟩) (v := .agg (nameL t).toArray) rfl (by kernel_rfl) (by kernel_rfl) (by kernel_rfl) (fun _ _ _ h => h) (yieldsIf_mid 28 (.tmp 3) rfl w.heap.size 0 rfl (nameL t) _ (fun w' hSw => (HRG.out w' hSw).2) Tryd.underlying28 rfl (by rw [nameL_len, HT.out.2.2]; exact infoName) ?_) KS ?_
  · rfl
  try simp only [Act.put, List.setIfInBounds_toArray, List.set_cons_zero, List.set_cons_succ]
  refine wpAnyH_take (i := 5) (oi := ⟨_, _, _, _, _, _⟩) (v := ?_) rfl (by kernel_rfl) (by kernel_rfl) (by kernel_rfl) (fun _ _ _ h => h) (Or.inl ⟨by rfl, ?_⟩) KS ?_
  rotate_left
  · intro w' hSw; (go_simp; try with_reducible rfl)
  try simp only [Act.put, List.setIfInBounds_toArray, List.set_cons_zero, List.set_cons_succ]
  refine wpAnyH_take (i := 6) (oi := ⟨_, _, _, _, _, _⟩) (v := ?_) rfl (by kernel_rfl) (by kernel_rfl) (by kernel_rfl) (fun _ _ _ h => h) (Or.inl ⟨by rfl, ?_⟩) KS ?_
  rotate_left
  · intro w' hSw; (go_simp; try with_reducible rfl)
  try simp only [Act.put, List.setIfInBounds_toArray, List.set_cons_zero, List.set_cons_succ]
  refine wpAnyH_take (i := 7) (oi := ⟨_, _, _, _, _, _⟩) (v := ?_) rfl (by kernel_rfl) (by kernel_rfl) (by kernel_rfl) (fun _ _ _ h => h) (Or.inl ⟨by rfl, ?_⟩) KS ?_
  rotate_left
  · intro w' hSw; (go_simp; try with_reducible rfl)
  try simp only [Act.put, List.setIfInBounds_toArray, List.set_cons_zero, List.set_cons_succ]
  refine wpAnyH_take (i := 8) (oi := ⟨_, _, _, _, _, _⟩) (v := ?_) rfl (by kernel_rfl) (by kernel_rfl) (by kernel_rfl) (fun _ _ _ h => h) (Or.inl ⟨by rfl, ?_⟩) KS ?_
  rotate_left
  · intro w' hSw; have hy := (HRG.out w' hSw).1.row.cell 1; (go_simp; try with_reducible rfl)
  try simp only [Act.put, List.setIfInBounds_toArray, List.set_cons_zero, List.set_cons_succ]
  refine wpAnyH_ready (rs := [9]) (by kernel_rfl) (by simp) ?_
  refine AllReadyH.cons (o := ⟨_, _, _, _, _, _⟩) rfl (fun K hK => ?_) AllReadyH.nil
  go_simp
  refine (searchN_own s.kv s.names t _ HT.out.1 HT.out.2.2 (HRG.out _ KS).1.kown (by have := HT.out.2.1; omega) HM.out).mono ?_
  rintro e w2 ⟨rfl, kk⟩
  have K2 := Lib.hid (KS.then kk (by simp))
  clear kk
  go_wp2_with fail
  refine hK.out _ _ K2.out (fun _ => ?_)
  clear hK K
  try simp only [Act.put, List.setIfInBounds_toArray, List.set_cons_zero, List.set_cons_succ]
  refine wpAnyH_take (i := 10) (oi := ⟨_, _, _, _, _, _⟩) (v := ?_) rfl (by kernel_rfl) (by kernel_rfl) (by kernel_rfl) (fun _ _ _ h => h) (Or.inl ⟨by rfl, ?_⟩) K2.out ?_
  rotate_left
  · intro w' hSw; (go_simp; try with_reducible rfl)
  try simp only [Act.put, List.setIfInBounds_toArray, List.set_cons_zero, List.set_cons_succ]
  refine wpAnyH_take (i := 11) (oi := ⟨_, _, _, _, _, _⟩) (v := ?_) rfl (by kernel_rfl) (by kernel_rfl) (by kernel_rfl) (fun _ _ _ h => h) (Or.inl ⟨by rfl, ?_⟩) K2.out ?_
  rotate_left
  · intro w' hSw; (go_simp; try with_reducible rfl)
  try simp only [Act.put, List.setIfInBounds_toArray, List.set_cons_zero, List.set_cons_succ]
  refine wpAnyH_take (i := 12) (oi := ⟨_, _, _, _, _, _⟩) (v := ?_) rfl (by kernel_rfl) (by kernel_rfl) (by kernel_rfl) (fun _ _ _ h => h) (Or.inl ⟨by rfl, ?_⟩) K2.out ?_
  rotate_left
  · intro w' hSw; (go_simp; try with_reducible rfl)
  try simp only [Act.put, List.setIfInBounds_toArray, List.set_cons_zero, List.set_cons_succ]
  refine wpAnyH_take (i := 13) (oi := ⟨_, _, _, _, _, _⟩) (v := ?_) rfl (by kernel_rfl) (by kernel_rfl) (by kernel_rfl) (fun _ _ _ h => h) (Or.inl ⟨by rfl, ?_⟩) K2.out ?_
  rotate_left
  · intro w' hSw; (go_simp; try with_reducible rfl)
  try simp only [Act.put, List.setIfInBounds_toArray, List.set_cons_zero, List.set_cons_succ]
  refine wpAnyH_done (by kernel_rfl) ?_ _
  go_wp2_with fail
  go_ret2
  exact ⟨rfl, HK.out.then K2.out (by simp)⟩

set_option maxHeartbeats 4000000 in
theorem findI_any (p : Nat) (s : TS) (t : Int) (ht : 0 ≤ t ∧ t ≤ 1000000) (w : World) (h : isT w p s) :
    Calls Tryd.prog 51 #[.pointer (some ⟨p, 4, none⟩), .int .i64 t] w
      fun e w' => e = .returned (.tuple #[.int .i64 (posI s t : Nat), .bool (hitI s t)]) ∧ keepBut [] w w' := by
  have HRG : Hid (∀ W, keepBut [] w W → isT W p s) := Lib.hid (fun W k => h.over k)
  have KS : keepBut [] w w.drew := (keepBut.refl [] w).drew
  have HT := Lib.hid (And.intro h.clients (And.intro h.few ht))
  have HM := Lib.hid (h.monoI t)
  clear h
  go_enter Tryd.func51, Tryd.ntmps51
  go_upto_region 1 with fail
  refine wp_region_held_drew (S := fun W => keepBut [] w W) (by kernel_rfl) KS (fun _ => ?_)
  refine wpAnyH_take (i := 0) (oi := ⟨_, _, _, _, _, _⟩) (v := ?_) rfl (by kernel_rfl) (by kernel_rfl) (by kernel_rfl) (fun _ _ _ h => h) (Or.inl ⟨by rfl, ?_⟩) KS ?_
  rotate_left
  · intro w' hSw; (go_simp; try with_reducible rfl)
  try simp only [Act.put, List.setIfInBounds_toArray, List.set_cons_zero, List.set_cons_succ]
  refine wpAnyH_take (i := 1) (oi := ⟨_, _, _, _, _, _⟩) (v := ?_) rfl (by kernel_rfl) (by kernel_rfl) (by kernel_rfl) (fun _ _ _ h => h) (Or.inl ⟨by rfl, ?_⟩) KS ?_
  rotate_left
  · intro w' hSw; (go_simp; try with_reducible rfl)
  try simp only [Act.put, List.setIfInBounds_toArray, List.set_cons_zero, List.set_cons_succ]
  refine wpAnyH_take (i := 2) (oi := ⟨_, _, _, _, _, _⟩) (v := ?_) rfl (by kernel_rfl) (by kernel_rfl) (by kernel_rfl) (fun _ _ _ h => h) (Or.inl ⟨by rfl, ?_⟩) KS ?_
  rotate_left
  · intro w' hSw; (go_simp; try with_reducible rfl)
  try simp only [Act.put, List.setIfInBounds_toArray, List.set_cons_zero, List.set_cons_succ]
  refine wpAnyH_take (i := 3) (oi := ⟨_, _, _, _, _, _⟩) (v := ?_) rfl (by kernel_rfl) (by kernel_rfl) (by kernel_rfl) (fun _ _ _ h => h) (Or.inl ⟨by rfl, ?_⟩) KS ?_
  rotate_left
  · intro w' hSw; have hy := (HRG.out w' hSw).row.cell 5; (go_simp; try with_reducible rfl)
  try simp only [Act.put, List.setIfInBounds_toArray, List.set_cons_zero, List.set_cons_succ]
  refine wpAnyH_take (i := 4) (oi := ⟨_, _, _, _, _, _⟩) (v := ?_) rfl (by kernel_rfl) (by kernel_rfl) (by kernel_rfl) (fun _ _ _ h => h) (Or.inl ⟨by rfl, ?_⟩) KS ?_
  rotate_left
  · intro w' hSw; (go_simp; try with_reducible rfl)
  try simp only [Act.put, List.setIfInBounds_toArray, List.set_cons_zero, List.set_cons_succ]
  refine wpAnyH_take (i := 5) (oi := ⟨_, _, _, _, _, _⟩) (v := ?_) rfl (by kernel_rfl) (by kernel_rfl) (by kernel_rfl) (fun _ _ _ h => h) (Or.inl ⟨by rfl, ?_⟩) KS ?_
  rotate_left
  · intro w' hSw; (go_simp; try with_reducible rfl)
  try simp only [Act.put, List.setIfInBounds_toArray, List.set_cons_zero, List.set_cons_succ]
  refine wpAnyH_take (i := 6) (oi := ⟨_, _, _, _, _, _⟩) (v := ?_) rfl (by kernel_rfl) (by kernel_rfl) (by kernel_rfl) (fun _ _ _ h => h) (Or.inl ⟨by rfl, ?_⟩) KS ?_
  rotate_left
  · intro w' hSw; (go_simp; try with_reducible rfl)
  try simp only [Act.put, List.setIfInBounds_toArray, List.set_cons_zero, List.set_cons_succ]
  refine wpAnyH_take (i := 7) (oi := ⟨_, _, _, _, _, _⟩) (v := ?_) rfl (by kernel_rfl) (by kernel_rfl) (by kernel_rfl) (fun _ _ _ h => h) (Or.inl ⟨by rfl, ?_⟩) KS ?_
  rotate_left
  · intro w' hSw; (go_simp; try with_reducible rfl)
  try simp only [Act.put, List.setIfInBounds_toArray, List.set_cons_zero, List.set_cons_succ]
  refine wpAnyH_take (i := 8) (oi := ⟨_, _, _, _, _, _⟩) (v := ?_) rfl (by kernel_rfl) (by kernel_rfl) (by kernel_rfl) (fun _ _ _ h => h) (Or.inl ⟨by rfl, ?_⟩) KS ?_
  rotate_left
  · intro w' hSw; have hy := (HRG.out w' hSw).row.cell 4; (go_simp; try with_reducible rfl)
  try simp only [Act.put, List.setIfInBounds_toArray, List.set_cons_zero, List.set_cons_succ]
  refine wpAnyH_ready (rs := [9]) (by kernel_rfl) (by simp) ?_
  refine AllReadyH.cons (o := ⟨_, _, _, _, _, _⟩) rfl (fun K hK => ?_) AllReadyH.nil
  go_simp
  refine (searchI_own s.iv s.keys t _ HT.out.1 HT.out.2.2 (HRG.out _ KS).iown (by have := HT.out.2.1; omega) HM.out).mono ?_
  rintro e w2 ⟨rfl, kk⟩
  have K2 := Lib.hid (KS.then kk (by simp))
  clear kk
  go_wp2_with fail
  refine hK.out _ _ K2.out (fun _ => ?_)
  clear hK K
  try simp only [Act.put, List.setIfInBounds_toArray, List.set_cons_zero, List.set_cons_succ]
  refine wpAnyH_take (i := 10) (oi := ⟨_, _, _, _, _, _⟩) (v := ?_) rfl (by kernel_rfl) (by kernel_rfl) (by kernel_rfl) (fun _ _ _ h => h) (Or.inl ⟨by rfl, ?_⟩) K2.out ?_
  rotate_left
  · intro w' hSw; (go_simp; try with_reducible rfl)
  try simp only [Act.put, List.setIfInBounds_toArray, List.set_cons_zero, List.set_cons_succ]
  refine wpAnyH_take (i := 11) (oi := ⟨_, _, _, _, _, _⟩) (v := ?_) rfl (by kernel_rfl) (by kernel_rfl) (by kernel_rfl) (fun _ _ _ h => h) (Or.inl ⟨by rfl, ?_⟩) K2.out ?_
  rotate_left
  · intro w' hSw; (go_simp; try with_reducible rfl)
  try simp only [Act.put, List.setIfInBounds_toArray, List.set_cons_zero, List.set_cons_succ]
  refine wpAnyH_take (i := 12) (oi := ⟨_, _, _, _, _, _⟩) (v := ?_) rfl (by kernel_rfl) (by kernel_rfl) (by kernel_rfl) (fun _ _ _ h => h) (Or.inl ⟨by rfl, ?_⟩) K2.out ?_
  rotate_left
  · intro w' hSw; (go_simp; try with_reducible rfl)
  try simp only [Act.put, List.setIfInBounds_toArray, List.set_cons_zero, List.set_cons_succ]
  refine wpAnyH_take (i := 13) (oi := ⟨_, _, _, _, _, _⟩) (v := ?_) rfl (by kernel_rfl) (by kernel_rfl) (by kernel_rfl) (fun _ _ _ h => h) (Or.inl ⟨by rfl, ?_⟩) K2.out ?_
  rotate_left
  · intro w' hSw; (go_simp; try with_reducible rfl)
  try simp only [Act.put, List.setIfInBounds_toArray, List.set_cons_zero, List.set_cons_succ]
  refine wpAnyH_done (by kernel_rfl) ?_ _
  go_wp2_with fail
  go_ret2
  exact ⟨rfl, K2.out⟩
end Go.Proofs.YtmlmhnhilemjhaaDoor
