/-
  EQB: the statements' own helper EqBytes; what is owned can be read (the part of Help that a view reaches).
-/
import Derived.Test.YtmlmhnhilemjhaaDoorLow2
import Derived.Test.YtmlmhnhilemjhaaDoorLow4
import Derived.Test.YtmlmhnhilemjhaaDoorLow1
import Derived.Handy
import Derived.Laws.BytesArg
namespace Go.Proofs.YtmlmhnhilemjhaaDoor
open Go.RowKit
set_option linter.unusedVariables false

/-- the string that bytes are -/
def strOf (l : List UInt8) : ByteArray := ⟨l.toArray⟩

theorem strOf_list (l : List UInt8) : (strOf l).toList = l := ByteArray.toList_mk l

theorem convert_seen {P : Program} (w : World) (src e dst : TypeId) (hs : P.underlying src = some (.slice e)) (he : P.underlying e = some (.int .u8)) (hd : P.underlying dst = some .string)
    (A : Option Addr) (g c : Nat) (l : List UInt8) (h : seen w A g l) : (convert src dst (.slice A l.length c)).run P w = .ok (.string (strOf l)) w := by
  rcases A with _ | a
  · have hl : l = [] := by
      cases l with
      | nil => rfl
      | cons b t => obtain ⟨o, hA, _⟩ := h (by simp); cases hA
    subst hl
    rw [run_convert_bytes_nil w src e hs he _ c dst hd]
    rfl
  · have hld : (loadCells a l.length).run P w = .ok ((l.map fun b => (b.toNat : Int)).map (Value.int .u8)).toArray w := by
      cases l with
      | nil => simp [loadCells, loadCellsFrom]
      | cons b t =>
        obtain ⟨o, hA, _, hc⟩ := h (by simp)
        obtain rfl : a = ⟨g, o, none⟩ := by simpa using hA
        have := run_loadCells_list (P := P) w ⟨g, o, none⟩ (((b :: t).map fun b => (b.toNat : Int)).map (Value.int .u8)) (fun j v hj => by
          rw [add_plain]
          rw [List.getElem?_map, List.getElem?_map] at hj
          cases hb : (b :: t)[j]? with
          | none => rw [hb] at hj; cases hj
          | some x => rw [hb] at hj; simp at hj; subst hj; exact hc j x hb)
        simpa using this
    rw [run_convert_bytes_string w src dst e _ l.length c hs he hd, run_bytesToString w a l.length c _ hld, foldl_push_bytes]
    have : (List.map (fun n : Int => UInt8.ofNat n.toNat) (l.map fun b : UInt8 => (b.toNat : Int))) = l := by
      rw [List.map_map]
      conv => rhs; rw [← List.map_id l]
      apply List.map_congr_left
      intro b _
      simp
    rw [this]
    simp [strOf, ByteArray.empty, ByteArray.emptyWithCapacity]
    rfl

set_option maxHeartbeats 400000 in
theorem eqBytes_any (A B : Option Addr) (g h c d : Nat) (l m : List UInt8) (w : World) (hl : seen w A g l) (hm : seen w B h m) :
    Calls Tryd.prog 12 #[.slice A l.length c, .slice B m.length d] w fun e w' => e = .returned (.bool (l == m)) ∧ w = w' := by
  have k1 := convert_seen (P := Tryd.prog) w 29 5 9 Tryd.underlying29 Tryd.underlying5 Tryd.underlying9 A g c l hl
  have k2 := convert_seen (P := Tryd.prog) w 29 5 9 Tryd.underlying29 Tryd.underlying5 Tryd.underlying9 B h d m hm
  go_enter Tryd.func12, Tryd.ntmps12
  go_wp2
  go_ret
  exact ⟨by rw [strOf_list, strOf_list]; rfl, rfl⟩

theorem homes_one (v : Value) : ∃ g, homes v = [] ∨ homes v = [g] := by
  unfold homes
  cases Value.ownBlock v with
  | none => exact ⟨0, .inl rfl⟩
  | some g => exact ⟨g, .inr rfl⟩
/-- what is owned can be read -/
theorem owns.seen {w : World} {v : Value} {l : List UInt8} (h : owns w 5 1 v l.length (l.map bv)) :
    ∃ A c g, v = .slice A l.length c ∧ l.length ≤ c ∧ c ≤ maxLen ∧ seen w A g l ∧ (l ≠ [] → g ∈ homes v) := by
  obtain ⟨A, c, rfl, h1, h2, _, hrd⟩ := h.form
  obtain ⟨g, hg⟩ := homes_one (.slice A l.length c)
  refine ⟨A, c, g, rfl, h1, h2, fun hl => ?_, fun hl => ?_⟩
  · obtain ⟨o, hA, hlt, hc⟩ := (hrd g hg).2 (List.length_pos_iff.2 hl)
    exact ⟨o, hA, hlt, fun j b hb => hc j _ (by rw [List.getElem?_map, hb]; rfl)⟩
  · obtain ⟨o, hA, _, _⟩ := (hrd g hg).2 (List.length_pos_iff.2 hl)
    rw [hA]; simp [homes_some]

end Go.Proofs.YtmlmhnhilemjhaaDoor
