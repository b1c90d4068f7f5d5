/-
  SESS, 4: New that says no; the masters are asked.
-/
import Derived.Test.YtkpmlcgbffdloaaDoorSess3
import Derived.Deep.DeepCutAuto
namespace Go.Proofs.YtkpmlcgbffdloaaDoor
open Go.Conc Go.RowKit
set_option linter.unusedVariables false
set_option maxRecDepth 100000

theorem newQ_no (c f l m : Int) (w : World) (h : ¬ (0 ≤ c ∧ c ≤ 2 ∧ 1 ≤ f ∧ f ≤ 9007199254740991 ∧ 1 ≤ l ∧ l ≤ 1000 ∧ 1 ≤ m ∧ m ≤ 100000)) :
    Calls Tryd.prog 9 #[.int .i64 c, .int .i64 f, .int .i64 l, .int .i64 m] w fun e w' => e = .returned (.tuple #[.pointer none, .int .i64 2]) ∧ w = w' := by
  have h' : c < 0 ∨ 0 ≤ c ∧ (3 ≤ c ∨ c < 3 ∧ (f < 1 ∨ 1 ≤ f ∧ (9007199254740991 < f ∨ f ≤ 9007199254740991 ∧ (l < 1 ∨ 1 ≤ l ∧ (1000 < l ∨ l ≤ 1000 ∧ (m < 1 ∨ 1 ≤ m ∧ 100000 < m)))))) := by omega
  clear h
  rcases h' with a | ⟨b1, a | ⟨b2, a | ⟨b3, a | ⟨b4, a | ⟨b5, a | ⟨b6, a | ⟨b7, a⟩⟩⟩⟩⟩⟩⟩
  all_goals
    go_enter Tryd.func9, Tryd.ntmps9
    go_wp2
    go_ret2
    exact ⟨rfl, rfl⟩
/-- a packet to a master -/
def SS.ask (i : Int) : PK := ⟨9, 0, i, 0, 0, 0, false, rqZero, anZero, cfZero, [], []⟩
theorem run_buildAsk (i : Int) (w : World) : (Instr.build 44 #[(0, .int .i64 9), (2, .int .i64 i)]).run Tryd.prog w = .ok (.agg (pkL (SS.ask i) nilV nilV nilV nilV nilV).toArray) w :=
  run_build w 44 _ _ (by kernel_rfl)
theorem askCells (i : Int) : (Tryd.zeroCells44.setIfInBounds 0 (.int .i64 9)).setIfInBounds 2 (.int .i64 i) = (pkL (SS.ask i) nilV nilV nilV nilV nilV).toArray := by kernel_rfl
theorem ask_item (w : World) (F : List Nat) (i : Int) : itemV w F (SS.ask i, pkL (SS.ask i) nilV nilV nilV nilV nilV) := ⟨_, _, _, _, _, rfl, ⟨rqZero_name, anZero_name, bytesV.nil _ _, bytesV.nil _ _, intsV.nil _ _, votesV.nil _ _, bytesV.nil _ _⟩⟩
theorem wpList_build_to {P : Program} (w : World) {ops : Array Oper} {rest : List Oper} {o : Oper} {a : Act} {Q : Exit → Act → World → Prop} (hgd : o.guard = none) (t : TypeId) (parts : Array (Nat × Operand)) (ho : o.op = .build t parts)
    (v : Value) (us : Array (Nat × Value)) (hu : parts.map (fun (i, x) => (i, a.eval x)) = us) (hr : (Instr.build t us).run P w = .ok v w) (h : wpList P ops Q rest (a.put o.dst v) w) : wpList P ops Q (o :: rest) a w := by
  subst hu
  refine wpList_plain hgd fun K hK => ?_
  have hK' := hK _ _ h
  unfold Oper.wp execOp
  simp only [ho]
  simp [hr]
  exact hK'
/-- what the masters are asked with -/
def SS.askT (s : SS) (i : Int) : PK × List Value := ((SS.ask i).from (20 + s.client), (pkL (SS.ask i) nilV nilV nilV nilV nilV).set 1 (.int .i64 (20 + s.client)))
def SS.asks (s : SS) : Nat → List (PK × List Value)
  | 0 => []
  | k + 1 => SS.asks s k ++ [s.askT k]
theorem asks_len (s : SS) : ∀ k, (s.asks k).length = k
  | 0 => rfl
  | k + 1 => by simp [SS.asks, asks_len s k]
structure askAt (p q : Nat) (s : SS) (cv ev : Value) (F K : List Nat) (T : List (PK × List Value)) (w0 : World) (k : Nat) (w : World) : Prop where
  is : isQ w p q s cv ev F K (T ++ s.asks k)
  kept : keepBut [q] w0 w
def askPost (p q : Nat) (s : SS) (cv ev : Value) (F K : List Nat) (T : List (PK × List Value)) (w : World) (e : Ending) (w' : World) : Prop := e = .returned (.tuple #[]) ∧ askAt p q s cv ev F K T w 3 w'
theorem askStep (p q : Nat) (s : SS) (cv ev : Value) (F K : List Nat) (T : List (PK × List Value)) (w0 w : World) (k : Nat) (h : askAt p q s cv ev F K T w0 k w) (hb : 0 ≤ s.client ∧ s.client ≤ 2) (hk : k < 3) (hT : T.length ≤ 1) :
    Calls Tryd.prog 60 #[.pointer (some ⟨p, 0, none⟩), .agg (pkL (SS.ask (k : Int)) nilV nilV nilV nilV nilV).toArray] w (fun e w' => e = .returned (.tuple #[]) ∧ askAt p q s cv ev F K T w0 (k + 1) w') := by
  refine (putQ_any p q s cv ev F K [] (T ++ s.asks k) (SS.ask k) _ w h.is hb (ask_item w [] k) (by simp) (by rw [List.length_append, asks_len]; omega)).mono ?_
  rintro e w' ⟨rfl, h1, h2⟩
  rw [List.append_nil, List.append_assoc] at h1
  exact ⟨rfl, h1, h.kept.then h2 (fun x hx => .inl hx)⟩
theorem askMasters_any (p q : Nat) (s : SS) (cv ev : Value) (F K : List Nat) (T : List (PK × List Value)) (w : World) (h : isQ w p q s cv ev F K T) (hb : 0 ≤ s.client ∧ s.client ≤ 2) (hT : T.length ≤ 1) :
    Calls Tryd.prog 49 #[.pointer (some ⟨p, 0, none⟩)] w (askPost p q s cv ev F K T w) := by
  have H0 := Lib.hid (show askAt p q s cv ev F K T w 0 w from ⟨by simpa [SS.asks] using h, keepBut.refl _ _⟩)
  have HB := Lib.hid (And.intro hb hT)
  clear h hb hT
  go_enter Tryd.func49, Tryd.ntmps49
  go_wp2_with fail
  go_loopw [3] (fun v3 wx => ∃ k : Nat, k ≤ 3 ∧ v3 = .int .i64 (k : Int) ∧ Hid (askAt p q s cv ev F K T w k wx)) (fun v3 _ => 3 - (intOf v3).toNat)
  case atStart => exact ⟨0, by omega, rfl, H0⟩
  case round =>
    obtain ⟨k, hk, rfl, HA⟩ := hrel
    by_cases hlt : k < 3
    · have hk1 : (k : Int) < 3 := by omega
      have hk0 : (0 : Int) ≤ (k : Int) := by omega
      have hwi : IntKind.i64.wrap ((k : Int) + 1) = (k : Int) + 1 := by rw [IntKind.wrap_i64]; omega
      have PA := Lib.hid (fun wq (hq : askAt p q s cv ev F K T w k wq) => askStep p q s cv ev F K T w wq k hq HB.out.1 hlt HB.out.2)
      go_wp2_with (first
        | (go_at_call 60; rw [askCells]; (with_reducible refine (PA.out _ HA.out).mono ?_); rintro e wa ⟨rfl, ha⟩; have HA2 := Lib.hid ha; clear ha))
      go_roundw
      case rel => exact ⟨k + 1, by omega, rfl, HA2⟩
      case measure => simp only [intOf]; omega
    · obtain rfl : k = 3 := by omega
      go_wp2_with fail
      refine bodyPost_end (results_none rfl _ _ _) rfl ?_
      exact ⟨rfl, HA.out⟩
end Go.Proofs.YtkpmlcgbffdloaaDoor
