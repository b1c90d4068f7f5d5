/-
  LEAD: whatever kind of call; what is looked at behind each.
-/
import Derived.Test.YtbjonlfjfjlelaaLeadStep1
import Derived.Test.YtbjonlfjfjlelaaLeadStep2
import Derived.Test.YtbjonlfjfjlelaaLeadStep3
import Derived.Test.YtbjonlfjfjlelaaLeadStep6
import Derived.Test.YtbjonlfjfjlelaaLeadProm1
import Derived.Test.YtbjonlfjfjlelaaLeadProm1n
import Derived.Test.YtbjonlfjfjlelaaLeadProm2
import Derived.Test.YtbjonlfjfjlelaaLeadProm2n
import Derived.Test.YtbjonlfjfjlelaaLeadDos
namespace Go.Proofs.Ytbjonlfjfjlelaa
open Go.RowKit
set_option linter.unusedVariables false
set_option maxRecDepth 100000

theorem step_any (w0 w : World) (p : Nat) (F : List Nat) (s : LS) (q : Nat) (G : List Nat) (i : Nat) (k a b n : Int) (near : Bool) (num full : Int) (A7 : Option Addr) (n7 : Nat) (cl : List Int) (A8 : Option Addr) (c8 : Nat) (vl : List VS)
    (h : both w0 w p F s q G s []) (hin : inP s i) (hi : i < 60) (hk : -9223372036854775808 ≤ k ∧ k ≤ 9223372036854775807) (ha : -9223372036854775808 ≤ a ∧ a ≤ 9223372036854775807) (hcl : argI w0 (.slice A7 cl.length n7) cl) (hv1 : vl.length ≤ c8) (hv2 : c8 ≤ maxLen) (hv : argV w0 A8 vl) :
    Calls Try.prog 29 #[.pointer (some ⟨p, 0, none⟩), .pointer (some ⟨q, 0, none⟩), .agg #[.int .i64 k, .int .i64 a, .int .i64 b, .int .i64 n, .bool near, .int .i64 num, .int .i64 full, .slice A7 cl.length n7, .slice A8 vl.length c8]] w (stepPost w0 p q i) := by
  have hc : k % 7 = 0 ∨ k % 7 = 1 ∨ k % 7 = 2 ∨ k % 7 = 3 ∨ (k % 7 = 4 ∨ k % 7 = 5) ∨ k % 7 = 6 := by omega
  rcases hc with h0 | h1 | h2 | h3 | h4 | h6
  · exact step0_any w0 w p F s q G i k a b n near num full A7 n7 cl A8 c8 vl h hin hi hk ha hcl hv1 hv2 hv h0
  · by_cases e : vl = []
    · exact step1nil_any w0 w p F s q G i k a b n near num full A7 n7 cl A8 c8 vl h hin hi hk ha hcl hv1 hv2 hv h1 e
    · exact step1cons_any w0 w p F s q G i k a b n near num full A7 n7 cl A8 c8 vl h hin hi hk ha hcl hv1 hv2 hv h1 e
  · by_cases e : vl = []
    · exact step2nil_any w0 w p F s q G i k a b n near num full A7 n7 cl A8 c8 vl h hin hi hk ha hcl hv1 hv2 hv h2 e
    · exact step2cons_any w0 w p F s q G i k a b n near num full A7 n7 cl A8 c8 vl h hin hi hk ha hcl hv1 hv2 hv h2 e
  · exact step3_any w0 w p F s q G i k a b n near num full A7 n7 cl A8 c8 vl h hin hi hk ha hcl hv1 hv2 hv h3
  · exact step45_any w0 w p F s q G i k a b n near num full A7 n7 cl A8 c8 vl h hin hi hk ha hcl hv1 hv2 hv h4
  · exact step6_any w0 w p F s q G i k a b n near num full A7 n7 cl A8 c8 vl h hin hi hk ha hcl hv1 hv2 hv h6
/-- what is proposed, as it lies in the document's leader -/
theorem isM.propHeld {w : World} {q : Nat} {G : List Nat} {s : LS} (h : isM w q G s) : ∃ A n C, w.cell? ⟨q, 9, none⟩ = some (.int .i64 s.prop.num) ∧ w.cell? ⟨q, 10, none⟩ = some (.int .i64 s.prop.full) ∧ w.cell? ⟨q, 11, none⟩ = some (.slice A s.prop.chain.length n) ∧ held w C (.slice A s.prop.chain.length n) s.prop.chain := by
  obtain ⟨vb, cv, T, C, x, h⟩ := h
  obtain ⟨A, n, g, rfl, r⟩ := id h.pc
  exact ⟨A, n, C, h.row.cell 9, h.row.cell 10, h.row.cell 11, h.pc⟩
theorem pendingL_any (p : Nat) (F : List Nat) (s : LS) (i : Nat) (w : World) (h : isL w p F s) (hin : inP s i) :
    Calls Try.prog 33 #[.pointer (some ⟨p, 0, none⟩)] w (boundPost s.prop s.pend w) := by
  cases hp : s.pend with
  | true => exact pending_yes p F s w h hp
  | false => rw [(hin.no hp).2]; exact pending_no p F s w h hp
theorem heldNew.slice {l : List Int} {w w' : World} {v : Value} (h : heldNew l w v w') : ∃ A n G, v = .slice A l.length n ∧ held w' G (.slice A l.length n) l ∧ keepBut [] w w' := by
  obtain ⟨G, hh, _, hk⟩ := h
  obtain ⟨A, n, g, rfl, _⟩ := id hh
  exact ⟨A, n, G, rfl, hh, hk⟩
theorem sameC_any (F F2 : List Nat) (num full : Int) (l : List Int) (A B : Option Addr) (n m : Nat) (w : World) (h : held w F (.slice A l.length n) l) (h' : held w F2 (.slice B l.length m) l) :
    Calls Try.prog 34 #[.agg #[.int .i64 num, .int .i64 full, .slice A l.length n], .agg #[.int .i64 num, .int .i64 full, .slice B l.length m]] w fun e w' => e = .returned (.bool true) ∧ keepBut [] w w' :=
  sameConf_any F F2 ⟨num, full, l⟩ _ _ w h h'
def plRel (w0 : World) (p q n : Nat) (v9 : Value) (wx : World) : Prop :=
  ∃ (i : Nat) (F G : List Nat) (s : LS), i ≤ n ∧ i ≤ 60 ∧ v9 = .int .i64 (i : Int) ∧ both w0 wx p F s q G s [] ∧ inP s i
/-- whatever is shown of each order is shown under a condition that always holds -/
theorem wpAnyH_of_any {P : Program} {md : Region.Mode} {ops : Array Oper} {Q : Exit → Act → World → Prop} : ∀ (fuel : Nat) (listed : Array Bool) (a : Act) (w : World), wpAny P md ops Q fuel listed a w → wpAnyH P md ops Q (fun _ => True) fuel listed a w
  | 0, _, _, _, h => h
  | fuel + 1, _, _, _, h => ⟨h.1, fun i hi => wpOp_mono (fun a' w' h' => ⟨trivial, wpAnyH_of_any fuel _ a' w' h'⟩) (h.2 i hi)⟩
def plMid (w0 : World) (p q i : Nat) (wx : World) : Prop := ∃ (F G : List Nat) (s : LS), both w0 wx p F s q G s [] ∧ inP s (i + 1)
theorem nine_keep {w w' : World} {g : Nat} {o0 o1 o2 o3 o4 o5 o6 o7 o8 : Nat} {v0 v1 v2 v3 v4 v5 v6 v7 v8 : Value} (hk : keepBut [] w w') (hg : g < w.heap.size)
    (h : w.cell? ⟨g, o0, none⟩ = some v0 ∧ w.cell? ⟨g, o1, none⟩ = some v1 ∧ w.cell? ⟨g, o2, none⟩ = some v2 ∧ w.cell? ⟨g, o3, none⟩ = some v3 ∧ w.cell? ⟨g, o4, none⟩ = some v4 ∧ w.cell? ⟨g, o5, none⟩ = some v5 ∧ w.cell? ⟨g, o6, none⟩ = some v6 ∧ w.cell? ⟨g, o7, none⟩ = some v7 ∧ w.cell? ⟨g, o8, none⟩ = some v8) :
    w'.cell? ⟨g, o0, none⟩ = some v0 ∧ w'.cell? ⟨g, o1, none⟩ = some v1 ∧ w'.cell? ⟨g, o2, none⟩ = some v2 ∧ w'.cell? ⟨g, o3, none⟩ = some v3 ∧ w'.cell? ⟨g, o4, none⟩ = some v4 ∧ w'.cell? ⟨g, o5, none⟩ = some v5 ∧ w'.cell? ⟨g, o6, none⟩ = some v6 ∧ w'.cell? ⟨g, o7, none⟩ = some v7 ∧ w'.cell? ⟨g, o8, none⟩ = some v8 := by
  have e := fun o => hk.cell (p := ⟨g, o, none⟩) hg (by simp)
  simp only [e]
  exact h
theorem seven_keep {w w' : World} {q t : Nat} {v0 v1 v2 v3 v4 v5 v6 : Value} (hk : keepBut [] w w') (hq : q < w.heap.size) (ht : t < w.heap.size)
    (h : w.cell? ⟨q, 8, none⟩ = some v0 ∧ w.cell? ⟨t, 0, none⟩ = some v1 ∧ w.cell? ⟨t, 1, none⟩ = some v2 ∧ w.cell? ⟨t, 2, none⟩ = some v3 ∧ w.cell? ⟨q, 9, none⟩ = some v4 ∧ w.cell? ⟨q, 10, none⟩ = some v5 ∧ w.cell? ⟨q, 11, none⟩ = some v6) :
    w'.cell? ⟨q, 8, none⟩ = some v0 ∧ w'.cell? ⟨t, 0, none⟩ = some v1 ∧ w'.cell? ⟨t, 1, none⟩ = some v2 ∧ w'.cell? ⟨t, 2, none⟩ = some v3 ∧ w'.cell? ⟨q, 9, none⟩ = some v4 ∧ w'.cell? ⟨q, 10, none⟩ = some v5 ∧ w'.cell? ⟨q, 11, none⟩ = some v6 := by
  have e := fun o => hk.cell (p := ⟨q, o, none⟩) hq (by simp)
  have f := fun o => hk.cell (p := ⟨t, o, none⟩) ht (by simp)
  simp only [e, f]
  exact h
def plIn (w0 : World) (p : Nat) (F : List Nat) (q : Nat) (G : List Nat) (s : LS) (v12 : Value) (wx : World) : Prop :=
  ∃ k : Int, -1 ≤ k ∧ k ≤ 14 ∧ v12 = .int .i64 k ∧ both w0 wx p F s q G s []
end Go.Proofs.Ytbjonlfjfjlelaa
