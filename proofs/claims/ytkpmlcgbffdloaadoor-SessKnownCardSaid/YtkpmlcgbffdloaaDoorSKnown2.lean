/-
  SESSKNOWN, 2: a list of calls that a law has built.
-/
import Derived.Test.YtkpmlcgbffdloaaDoorSessPlays
import Derived.Test.YtkpmlcgbffdloaaDoorSKnown1
import Derived.Great.BuildSlice
namespace Go.Proofs.YtkpmlcgbffdloaaDoor
open Go.RowKit
set_option linter.unusedVariables false
set_option maxRecDepth 100000
set_option linter.unusedSimpArgs false

theorem fill_rows (n : Nat) (hn : 0 < n) : ∀ (Xs : List (List Value)) (k : Nat) (cells : Array Value), (∀ X ∈ Xs, X.length = n) → (k + Xs.length) * n ≤ cells.size →
    ∃ C, Instr.fill (fun i => some (i * n, n)) cells ((Xs.zipIdx k).map fun x => (x.2, Value.agg x.1.toArray)) = some C ∧ (∀ j, j < k * n → C[j]? = cells[j]?) ∧ ∀ i X, Xs[i]? = some X → ∀ r u, X[r]? = some u → C[(k + i) * n + r]? = some u
  | [], k, cells, _, _ => ⟨cells, by simp [Instr.fill], fun _ _ => rfl, fun i X h => by simp at h⟩
  | X :: Xs, k, cells, hX, hsz => by
    have hXl : X.length = n := hX X (by simp)
    rw [List.length_cons] at hsz
    have hfit : k * n + n ≤ cells.size := by
      have : (k + 1) * n ≤ (k + (Xs.length + 1)) * n := Nat.mul_le_mul_right _ (by omega)
      rw [Nat.add_mul, Nat.one_mul] at this
      omega
    obtain ⟨C, h1, h2, h3⟩ := fill_rows n hn Xs (k + 1) (putL cells (k * n) X) (fun Y hY => hX Y (by simp [hY])) (by rw [putL_size]; rw [show k + 1 + Xs.length = k + (Xs.length + 1) by omega]; exact hsz)
    refine ⟨C, ?_, fun j hj => ?_, fun i Y hY r u hu => ?_⟩
    · rw [List.zipIdx_cons, List.map_cons]
      rw [fill_cons _ _ k _ _ (k * n) n rfl (by simp [Value.cells, hXl]) hfit]
      exact h1
    · rw [h2 j (by rw [Nat.add_mul, Nat.one_mul]; omega), putL_get _ _ _ _ (by rw [hXl]; exact hfit), if_neg (by omega)]
    · have hr : r < Y.length := (List.getElem?_eq_some_iff.1 hu).1
      cases i with
      | zero =>
        simp at hY
        subst hY
        rw [Nat.add_zero, h2 _ (by rw [Nat.add_mul, Nat.one_mul]; omega), putL_get _ _ _ _ (by rw [hXl]; exact hfit), if_pos (by omega), show k * n + r - k * n = r by omega]
        exact hu
      | succ i =>
        have := h3 i Y (by simpa using hY) r u hu
        rw [show k + (i + 1) = k + 1 + i by omega]
        exact this
def doQ (kind n : Int) (chain : List Int) (r : RQ) : DO := ⟨kind, n, chain, r, pkZero⟩
def doQL (kind n : Int) (chain : List Int) (r : RQ) (cv : Value) : List Value := doL (doQ kind n chain r) cv nilV nilV nilV nilV nilV nilV
def r9 : RQ := ⟨0, 0, 9, 0, rqZero.name, []⟩
theorem bd_get1 : Tryd.prog.built 46 [(3, .agg (rqL (getR 1) nilV).toArray)] = some (doQL 0 0 [] (getR 1) nilV).toArray := by kernel_rfl
theorem bd_get2 : Tryd.prog.built 46 [(3, .agg (rqL (getR 2) nilV).toArray)] = some (doQL 0 0 [] (getR 2) nilV).toArray := by kernel_rfl
theorem bd_r9 : Tryd.prog.built 46 [(3, .agg (rqL r9 nilV).toArray)] = some (doQL 0 0 [] r9 nilV).toArray := by kernel_rfl
theorem bd_2 : Tryd.prog.built 46 [(0, .int .i64 2)] = some (doQL 2 0 [] rqZero nilV).toArray := by kernel_rfl
theorem bd_6 : Tryd.prog.built 46 [(0, .int .i64 6)] = some (doQL 6 0 [] rqZero nilV).toArray := by kernel_rfl
theorem bd_54 : Tryd.prog.built 46 [(0, .int .i64 5), (1, .int .i64 4)] = some (doQL 5 4 [] rqZero nilV).toArray := by kernel_rfl
theorem bd_53 (A : Option Addr) : Tryd.prog.built 46 [(0, .int .i64 5), (1, .int .i64 3), (2, .slice A 2 2)] = some (doQL 5 3 [12, 11] rqZero (.slice A 2 2)).toArray := by kernel_rfl
theorem bd_rq9 : Tryd.prog.built 37 [(2, .int .i64 9)] = some (rqL r9 nilV).toArray := by kernel_rfl
theorem zc_2 : Tryd.zeroCells46.setIfInBounds 0 (.int .i64 2) = (doQL 2 0 [] rqZero nilV).toArray := by kernel_rfl
theorem zc_6 : Tryd.zeroCells46.setIfInBounds 0 (.int .i64 6) = (doQL 6 0 [] rqZero nilV).toArray := by kernel_rfl
theorem zc_54 : (Tryd.zeroCells46.setIfInBounds 0 (.int .i64 5)).setIfInBounds 1 (.int .i64 4) = (doQL 5 4 [] rqZero nilV).toArray := by kernel_rfl
theorem zc_53 (A : Option Addr) : ((Tryd.zeroCells46.setIfInBounds 0 (.int .i64 5)).setIfInBounds 1 (.int .i64 3)).setIfInBounds 2 (.slice A 2 2) = (doQL 5 3 [12, 11] rqZero (.slice A 2 2)).toArray := by kernel_rfl
theorem doQ_val (kind n : Int) (chain : List Int) (r : RQ) (cv : Value) (w : World) (F : List Nat) (hk : i64P kind) (hn : i64P n) (hc : intsV w F cv chain) (hr : rqV w F r nilV) : doV w F (doQ kind n chain r) cv nilV nilV nilV nilV nilV nilV :=
  ⟨hk, hn, hc, hr, ⟨rqZero_name, anZero_name, bytesV.nil _ _, bytesV.nil _ _, intsV.nil _ _, votesV.nil _ _, bytesV.nil _ _⟩⟩
theorem doQL_len (kind n : Int) (chain : List Int) (r : RQ) (cv : Value) (h : r.name.length = 32) : (doQL kind n chain r cv).length = 127 := doL_len h rqZero_name anZero_name
def knS0 : SS := SS.start 0 9007199254740991 5 5
def knS1 : SS := (knS0.askP (getR 1)).2
def knS2 : SS := (knS1.takeP (ansK 20 0 9007199254740991)).2
theorem kn_e1 : knS0.askP (getR 1) = ((9007199254740991, 0), knS1) := by kernel_rfl
theorem kn_e2 : knS1.takeP (ansK 20 0 9007199254740991) = ((⟨0, 9007199254740991, 0, 0, 0, List.replicate 32 0, []⟩, true), knS2) := by kernel_rfl
theorem kn_e3 : knS2.askP (getR 1) = ((0, 5), knS2) := by kernel_rfl
theorem kn_e4 : knS2.last = 9007199254740991 := by kernel_rfl
theorem kn_asks {w0 : World} {N : List Nat} {w : World} {p q : Nat} {s s' : SS} (h : lawQ w0 N w p q s) {G1 : List Value} (hG : rqL (getR 1) nilV = G1) {n e : Int} {x : Int × Int} (es : s.askP (getR 1) = (x, s')) (eb : (decide (x.1 = n) && decide (x.2 = e)) = true) :
    Calls Tryd.prog 19 #[.pointer (some ⟨p, 0, none⟩), .agg G1.toArray, .int .i64 n, .int .i64 e] w (fun z w' => z = .returned (.bool true) ∧ lawQ w0 N w' p q s' ∧ keepBut [p] w w') := by
  subst hG
  exact h.asks (getR_val _ [] 1) es eb
theorem kn_asksN (v : Value) (w : World) (h : ∀ w', keepBut [] w w' → NoneAt v w') {G1 : List Value} (hG : rqL (getR 1) nilV = G1) : Calls Tryd.prog 19 #[v, .agg G1.toArray, .int .i64 0, .int .i64 1] w fun e w' => e = .returned (.bool true) ∧ keepBut [] w w' := by
  subst hG
  exact asksN_any v w h (getR 1) nilV (by simp [getR])
theorem fldC0 (w : World) : (Instr.field 41 (.agg (cfL cfZero nilV).toArray) 0).run Tryd.prog w = .ok (.int .i64 0) w := by kernel_rfl
theorem ints1K (w : World) (a : Int) : intsV (w.alloc (.cells #[.int .i64 a] 3)) [w.heap.size] (.slice (some ⟨w.heap.size, 0, none⟩) 1 1) [a] := by
  have r := rowAt.new w 3 #[Value.int .i64 a]
  exact ⟨_, 1, w.heap.size, rfl, Nat.le_refl _, by simp [maxLen], ⟨by simp, fun _ => ⟨0, rfl, r.lt, fun j u hu => by rw [r.cell, Nat.zero_add]; simpa using hu⟩⟩, fun _ => by simp⟩
end Go.Proofs.YtkpmlcgbffdloaaDoor
