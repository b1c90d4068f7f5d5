/-
  TABLE, 25: the pure table, and what the acts get, next and raise do to it.
-/
import Derived.Test.YtmlmhnhilemjhaaDoorTB24
namespace Go.Proofs.YtmlmhnhilemjhaaDoor
open Go.RowKit
set_option linter.unusedVariables false
set_option maxRecDepth 100000
set_option linter.unusedSimpArgs false

structure OP where
  name : List UInt8
  version : Int
  env : List UInt8
structure PT where
  epoch : Int
  objs : List OP
  answers : List AN
def OB.pure (b : OB) : OP := ⟨b.name, b.version, b.env⟩
def TS.pure (s : TS) : PT := ⟨s.epoch, s.objs.map OB.pure, s.answers.map (·.ans)⟩
section
variable (P : PT)
def PT.names : List (List UInt8) := P.objs.map (·.name)
def PT.keys : List Int := P.answers.map (·.client)
def PT.pos (t : List UInt8) : Nat := posOf (fun n => Lib.compareBytes n t) P.names
def PT.hit (t : List UInt8) : Bool := hitOf (fun n => Lib.compareBytes n t) P.names
def PT.get (t : List UInt8) : Option OP := if P.hit t = true then P.objs[P.pos t]? else none
def PT.ver (t : List UInt8) : Int := match P.get t with | some b => b.version | none => 0
def PT.env (t : List UInt8) : List UInt8 := match P.get t with | some b => b.env | none => []
def PT.next (t : List UInt8) : Option (List UInt8) := P.names[P.pos t + (if P.hit t = true then 1 else 0)]?
def PT.put (b : OP) : PT := { P with objs := if P.hit b.name = true then P.objs.set (P.pos b.name) b else insAt P.objs (P.pos b.name) b }
def PT.posA (c : Int) : Nat := posOf (fun n => n - c) P.keys
def PT.hitA (c : Int) : Bool := hitOf (fun n => n - c) P.keys
def PT.last (c : Int) : AN := match (if P.hitA c = true then P.answers[P.posA c]? else none) with | some a => a | none => anZero
def PT.putA (a : AN) : PT := { P with answers := if P.hitA a.client = true then P.answers.set (P.posA a.client) a else insAt P.answers (P.posA a.client) a }
def aGet (r : RQ) (a : AN) : AN := if P.hit r.name = true then { a with version := P.ver r.name, env := P.env r.name } else { a with code := 1 }
def aNext (r : RQ) (a : AN) : AN := match P.next r.name with | some n => aGet P { r with name := n } { a with name := n } | none => { a with code := 1 }
def aPut (r : RQ) (a : AN) : PT × AN := if r.version = P.ver r.name + 1 ∧ (P.hit r.name = true ∨ P.objs.length < 64) then (P.put ⟨r.name, r.version, r.env⟩, { a with version := r.version }) else (P, { a with code := 2, version := P.ver r.name, env := P.env r.name })
def aRaise (r : RQ) (a : AN) : PT × AN := if r.version = P.epoch + 1 then ({ P with epoch := r.version }, { a with version := r.version }) else (P, { a with code := 2, version := P.epoch })
def PT.act (r : RQ) (a : AN) : PT × AN := if r.kind = 1 then (P, aGet P r a) else if r.kind = 2 then aPut P r a else if r.kind = 3 then (P, aNext P r a) else aRaise P r a
end
theorem names_pure (s : TS) : s.pure.names = s.names := by unfold PT.names TS.pure TS.names; rw [List.map_map]; rfl
theorem keys_pure (s : TS) : s.pure.keys = s.keys := by unfold PT.keys TS.pure TS.keys; rw [List.map_map]; rfl
theorem pos_pure (s : TS) (t : List UInt8) : s.pure.pos t = posN s t := by unfold PT.pos posN; rw [names_pure]
theorem hit_pure (s : TS) (t : List UInt8) : s.pure.hit t = hitN s t := by unfold PT.hit hitN; rw [names_pure]
theorem posA_pure (s : TS) (c : Int) : s.pure.posA c = posI s c := by unfold PT.posA posI; rw [keys_pure]
theorem hitA_pure (s : TS) (c : Int) : s.pure.hitA c = hitI s c := by unfold PT.hitA hitI; rw [keys_pure]
theorem get_pure (s : TS) (t : List UInt8) : s.pure.get t = (getN s t).map OB.pure := by
  unfold PT.get getN
  rw [hit_pure, pos_pure]
  split
  · show (s.objs.map OB.pure)[posN s t]? = _
    rw [List.getElem?_map]
  · rfl
theorem ver_pure (s : TS) (t : List UInt8) : s.pure.ver t = verN s t := by
  unfold PT.ver verN
  rw [get_pure]
  cases getN s t <;> rfl
theorem env_pure (s : TS) (t : List UInt8) : s.pure.env t = envN s t := by
  unfold PT.env envN
  rw [get_pure]
  cases getN s t <;> rfl
theorem next_pure (s : TS) (t : List UInt8) : s.pure.next t = afterN s t := by
  unfold PT.next afterN nextI
  rw [names_pure, pos_pure, hit_pure]
theorem last_pure (s : TS) (c : Int) : s.pure.last c = ansI s c := by
  have e : (if s.pure.hitA c = true then s.pure.answers[s.pure.posA c]? else none) = (getI s c).map (·.ans) := by
    unfold getI
    rw [hitA_pure, posA_pure]
    split
    · show (s.answers.map (·.ans))[posI s c]? = _
      rw [List.getElem?_map]
    · rfl
  unfold PT.last ansI
  rw [e]
  cases getI s c <;> rfl
theorem put_pure (s : TS) (b : OB) (kv vv : Value) (G : List Nat) : (s.withO b kv vv G).pure = s.pure.put b.pure := by
  unfold PT.put
  rw [show b.pure.name = b.name from rfl, hit_pure, pos_pure]
  unfold TS.withO putOb
  show PT.mk s.epoch (List.map OB.pure _) _ = _
  split
  · rw [List.map_set]; rfl
  · rw [insAt_map]; rfl
theorem putA_pure (s : TS) (b : AB) (iv av : Value) (G : List Nat) : (s.withA b iv av G).pure = s.pure.putA b.ans := by
  unfold PT.putA
  rw [hitA_pure, posA_pure]
  unfold TS.withA putAn
  show PT.mk s.epoch _ (List.map (fun c : AB => c.ans) _) = _
  split
  · rw [List.map_set]; rfl
  · rw [insAt_map]; rfl
theorem actGet_pure (s : TS) (r : RQ) (a : AN) : actGet s r a = aGet s.pure r a := by
  unfold actGet aGet
  rw [hit_pure, ver_pure, env_pure]
theorem actNext_pure (s : TS) (r : RQ) (a : AN) : actNext s r a = aNext s.pure r a := by
  unfold actNext aNext
  rw [next_pure]
  cases afterN s r.name with
  | none => rfl
  | some n => exact actGet_pure s _ _
/-- what an act has done: the table, the answer at q -/
structure actDone (p q : Nat) (s : TS) (x : PT × AN) (w : World) (e : Ending) (w' : World) : Prop where
  ret : e = .returned (.tuple #[])
  is : ∃ s', isT w' p s' ∧ s'.pure = x.1 ∧ s'.av = s.av ∧ s'.iv = s.iv ∧ (∀ y ∈ homes s'.kv, y ∈ homes s.kv ∨ w.heap.size ≤ y) ∧ (∀ y ∈ homes s'.vv, y ∈ homes s.vv ∨ w.heap.size ≤ y)
  ans : ∃ v G, rowAt w' q 40 (anL x.2 v).toArray ∧ bytesV w' G v x.2.env ∧ u8rows w' G ∧ ∀ y ∈ G, w.heap.size ≤ y ∧ y < w'.heap.size
  kept : keepBut (q :: p :: (homes s.kv ++ homes s.vv)) w w'
theorem actPost.done {p q : Nat} {s : TS} {a : AN} {cs : Array Value} {w : World} {e : Ending} {w' : World} (h : isT w p s) (hq : rowAt w q 40 cs) (hqa : q ∉ homes s.av) (hd : actPost q a w e w') : actDone p q s (s.pure, a) w e w' := by
  obtain ⟨v, G, rfl, h1, h2, h3, h4, h5⟩ := hd
  exact ⟨rfl, ⟨s, h.keepQ hq hqa h5, rfl, rfl, rfl, fun y hy => .inl hy, fun y hy => .inl hy⟩, ⟨v, G, h1, h2, h3, h4⟩, h5.more (by simp)⟩
theorem actNext_any (p q : Nat) (s : TS) (F : List Nat) (r : RQ) (ev : Value) (a : AN) (w : World) (h : isT w p s) (hr : rqV w F r ev) (hq : rowAt w q 40 (anL a nilV).toArray) (hqa : q ∉ homes s.av) (hqF : q ∉ F) (han : a.name.length = 32) (hae : a.env = []) :
    Calls Tryd.prog 54 #[.pointer (some ⟨p, 0, none⟩), .agg (rqL r ev).toArray, .pointer (some ⟨q, 0, none⟩)] w (actPost q (actNext s r a) w) := by
  rcases Bool.eq_false_or_eq_true (afterN s r.name).isSome with hh | hh
  · exact actNext_yes p q s F r ev a w h hr hq hqa hqF han hae hh
  · exact actNext_no p q s F r ev a w h hr hq hqa hqF han hae hh
theorem raise_done (p q : Nat) (s : TS) (r : RQ) (ev : Value) (a : AN) (w : World) (h : isT w p s) (hq : rowAt w q 40 (anL a nilV).toArray) (hqa : q ∉ homes s.av) (hep : 0 ≤ s.epoch ∧ s.epoch ≤ 255) (hae : a.env = []) :
    Calls Tryd.prog 55 #[.pointer (some ⟨p, 0, none⟩), .agg (rqL r ev).toArray, .pointer (some ⟨q, 0, none⟩)] w (actDone p q s (aRaise s.pure r a) w) := by
  have hc : Calls Tryd.prog 55 #[.pointer (some ⟨p, 0, none⟩), .agg (rqL r ev).toArray, .pointer (some ⟨q, 0, none⟩)] w (raisePost p q s r a w) := by
    by_cases hv : r.version = s.epoch + 1
    · exact actRaise_yes p q s r ev a w h hq hqa hep hv
    · exact actRaise_no p q s r ev a w h hq hqa hep hv
  refine hc.mono ?_
  rintro e w' ⟨rfl, h1, h2, h3⟩
  have e1 : aRaise s.pure r a = ({ s.pure with epoch := raiseE s r }, actRaise s r a) := by
    unfold aRaise raiseE actRaise
    show (if r.version = s.epoch + 1 then _ else _) = _
    split
    · rfl
    · rfl
  have e2 : (actRaise s r a).env = [] := by unfold actRaise; split <;> exact hae
  rw [e1]
  exact ⟨rfl, ⟨_, h1, rfl, rfl, rfl, fun y hy => .inl hy, fun y hy => .inl hy⟩, ⟨nilV, [], h2, by rw [e2]; exact bytesV.nil _ _, fun y hy => by simp at hy, fun y hy => by simp at hy⟩, h3.more (fun x hx => by simp at hx ⊢; rcases hx with rfl | rfl <;> simp)⟩
end Go.Proofs.YtmlmhnhilemjhaaDoor
