/-
  TBQ: TB55, TB56, joined.
-/
import Derived.Test.YtmlmhnhilemjhaaDoorTBP
import Derived.Test.YtmlmhnhilemjhaaDoorTB38
section
namespace Go.Proofs.YtmlmhnhilemjhaaDoor
open Go.RowKit
set_option linter.unusedVariables false
set_option maxRecDepth 100000
set_option linter.unusedSimpArgs false

theorem nextA_pure (s : TS) (c : Int) : s.pure.nextA c = afterI s c := by
  unfold PT.nextA afterI
  rw [keys_pure, posA_pure, hitA_pure]
/-- a row of another type is none of the table's -/
theorem isT.own_reader {w : World} {p q : Nat} {s : TS} {cs : Array Value} (h : isT w p s) (hr : rowAt w q 111 cs) : q ∉ own p s := fun hy => by
  unfold own at hy
  rcases List.mem_cons.1 hy with rfl | hy
  · exact (hr.apart h.row (by decide)) rfl
  · rcases List.mem_append.1 hy with hy | hy
    · rcases List.mem_append.1 hy with hy | hy
      · exact h.kown.apart hr (by decide) hy
      · exact h.vown.apart hr (by decide) hy
    · rcases List.mem_append.1 hy with hy | hy
      · exact h.iown.apart hr (by decide) hy
      · exact h.aown.apart hr (by decide) hy
/-- a reader's row may change -/
theorem isT.keepR {w w' : World} {p q : Nat} {s : TS} {cs : Array Value} (h : isT w p s) (hr : rowAt w q 111 cs) (k : keepBut [q] w w') : isT w' p s :=
  h.keepAll k (fun y hy hm => by simp only [List.mem_singleton] at hm; subst hm; exact h.own_reader hr hy) (fun y hy hm => by
    simp only [List.mem_singleton] at hm
    subst hm
    obtain ⟨ds, hc⟩ := h.blocks y hy
    exact absurd (hc.uniq hr).1 (by decide))
/-- a reader that a table's change leaves alone -/
theorem isR.keepT {w w' : World} {p q g : Nat} {s : TS} {r : RS} {S : List Nat} (hR : isR w q g r) (h : isT w p s) (k : keepBut S w w') (hS : ∀ y ∈ S, y ∈ own p s) (hg : g ∉ own p s) : isR w' q g r := by
  obtain ⟨A, c, hrow, _⟩ := id hR
  exact hR.keep k (fun hm => h.own_reader hrow (hS _ hm)) (fun _ hm => hg (hS _ hm))
end Go.Proofs.YtmlmhnhilemjhaaDoor
end

section
namespace Go.Proofs.YtmlmhnhilemjhaaDoor
open Go.RowKit
set_option linter.unusedVariables false
set_option maxRecDepth 100000
set_option linter.unusedSimpArgs false

theorem afterN_any (p : Nat) (s : TS) (t : List UInt8) (ht : t.length = 32) (w : World) (h : isT w p s) :
    Calls Tryd.prog 66 #[.pointer (some ⟨p, 1, none⟩), .agg (nameL t).toArray] w fun e w' => e = .returned (.tuple #[.agg (nameL (afterC s t)).toArray, .bool (afterN s t).isSome]) ∧ keepBut [] w w' := by
  unfold afterC
  cases hn : afterN s t with
  | none =>
    rcases Bool.eq_false_or_eq_true (hitN s t) with hh | hh
    · exact after_ye p s t ht w h hh hn
    · exact after_ne p s t ht w h hh hn
  | some n =>
    rcases Bool.eq_false_or_eq_true (hitN s t) with hh | hh
    · exact after_ym p s t ht w h hh n hn
    · exact after_nm p s t ht w h hh n hn
theorem putO_any (p : Nat) (s : TS) (b : OB) (G : List Nat) (hb : b.name.length = 32) (w : World) (h : isT w p s) (hn : s.names.length < 100) (hel : b.env.length ≤ 1000) (he : bytesV w G b.ev b.env) (hG : u8rows w G) :
    Calls Tryd.prog 67 #[.pointer (some ⟨p, 1, none⟩), .agg (nameL b.name).toArray, .agg (obL b).toArray] w (putPost p s b G w) := by
  rcases Bool.eq_false_or_eq_true (hitN s b.name) with hh | hh
  · exact putN_yes p s b G hb w h hh hel he hG
  · exact putN_no p s b G hb w h hh hn hel he hG
theorem raw_short (r : RS) (n : Int) : (r.raw n).2.l.length ≤ r.l.length := by
  unfold RS.raw
  split
  · unfold RS.fail; split <;> simp
  · unfold RS.past
    split
    · split <;> simp
    · exact Nat.le_refl _
theorem text_short (r : RS) (n : Int) : (r.text n).2.l.length ≤ r.l.length := Nat.le_trans (raw_short _ _) (RS.count_short r n)
theorem rdO_short (r : RS) : (rdO r).2.l.length ≤ r.l.length := Nat.le_trans (text_short _ _) (Nat.le_trans (RS.count_short _ _) (raw_short _ _))
theorem rdOs_short : ∀ (k : Nat) (x : RS × PT × Bool), (rdOs k x).1.l.length ≤ x.1.l.length
  | 0, x => Nat.le_refl _
  | k + 1, x => Nat.le_trans (rdO_short _) (rdOs_short k x)
theorem u8_homes {w : World} {v : Value} {l : List UInt8} (h : owns w 5 1 v l.length (l.map bv)) : u8rows w (homes v) := fun y hy => by
  rcases h.2 with h2 | ⟨g, cap, cur, rfl, hr, _⟩
  · rw [h2.1] at hy; simp [homes_none] at hy
  · simp [homes_some] at hy; subst hy; exact ⟨_, hr⟩
theorem put_len (P : PT) (b : OP) : (P.put b).objs.length ≤ P.objs.length + 1 := by
  unfold PT.put
  split
  · simp
  · unfold insAt; simp; omega
end Go.Proofs.YtmlmhnhilemjhaaDoor
end
