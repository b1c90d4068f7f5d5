/-
  PAD: the chapter's examples, as the statements ask for them.
-/
import Derived.Test.YtaclpogcedgojaaDoorPadOpen
import Derived.Lib.SlBytesConst
namespace Go.Proofs.YtaclpogcedgojaaDoor
open Go.RowKit
set_option linter.unusedVariables false

theorem rowB_set {w : World} {g : Nat} {l : List UInt8} (h : rowAt w g 5 (l.map bv).toArray) (i : Nat) (b : UInt8) : rowAt (w.setCell ⟨g, i, none⟩ (bv b)) g 5 ((l.set i b).map bv).toArray := by
  have := h.set i (bv b)
  rw [List.setIfInBounds_toArray, ← List.map_set] at this
  exact this
theorem rowB_cell {w : World} {g : Nat} {l : List UInt8} (h : rowAt w g 5 (l.map bv).toArray) (i : Nat) (b : UInt8) (hb : l[i]? = some b) : w.cell? ⟨g, i, none⟩ = some (bv b) := by
  rw [h.cell]; simp [hb]
theorem seen_new (w : World) (e : TypeId) (l : List UInt8) (cs : Array Value) (fr : Nat × Nat) (hcs : cs = (l.map bv).toArray) : seen (w.alloc (.cells cs e fr)) (some ⟨w.heap.size, 0, none⟩) w.heap.size l := by
  subst hcs
  intro _
  refine ⟨0, rfl, by simp, fun j b hb => ?_⟩
  rw [cell_of_row _ _ _ _ e fr (heap_alloc_new w _)]
  simp [hb]
/-- nothing that was there has changed; the answer is yes -/
def yesPost (w : World) (e : Ending) (w' : World) : Prop := e = .returned (.bool true) ∧ keepBut [] w w'

theorem pad_n (A : Option Addr) (g c n : Nat) (l : List UInt8) (tomb : Bool) (w : World) (hn : l.length = n) (h : classesAt w) (hs : seen w A g l) (hb : n ≤ 140737488355328) :
    Calls Tryd.prog 11 #[.slice A n c, .bool tomb] w (padPost (padP l tomb) w) := by
  subst hn; exact pad_any A g c l tomb w h hs hb
theorem open_n (A : Option Addr) (g c n : Nat) (b : List UInt8) (w : World) (hn : b.length = n) (h : classesAt w) (hs : seen w A g b) (hc : n ≤ c) (hcm : c ≤ maxLen) (hb : n ≤ 140737488355328) :
    Calls Tryd.prog 17 #[.slice A n c] w (openPost (openP b) w) := by
  subst hn; exact open_any A g c b w h hs hc hcm hb
theorem eqBytes_n (A B : Option Addr) (g h c d n k : Nat) (l m : List UInt8) (w : World) (hn : l.length = n) (hk : m.length = k) (hl : seen w A g l) (hm : seen w B h m) :
    Calls Tryd.prog 13 #[.slice A n c, .slice B k d] w fun e w' => e = .returned (.bool (l == m)) ∧ w = w' := by
  subst hn hk; exact eqBytes_any A B g h c d l m w hl hm
theorem copyBytes_n (A : Option Addr) (g c n : Nat) (l : List UInt8) (w : World) (hn : l.length = n) (h : seen w A g l) (hb : n ≤ 140737488355328) :
    Calls Tryd.prog 10 #[.slice A n c] w (copyPost l w) := by
  subst hn; exact copyBytes_any A g c l w h hb
theorem make16 (w : World) : (Instr.makeSlice 22 (.int .i64 16) (.int .i64 16)).run Tryd.prog w = .ok (.slice (some ⟨w.heap.size, 0, none⟩) 16 16) (w.alloc (.cells (zeroRow 16) 5)) := make_bytes 16 (by omega) w

/-- a row of the call's own, and bytes beside it -/
structure grave (w0 w : World) (g : Nat) (bs : List UInt8) (v : Value) (l : List UInt8) : Prop where
  k : keepBut [] w0 w
  r : rowAt w g 5 (bs.map bv).toArray
  n : w0.heap.size ≤ g
  o : owns w 5 1 v l.length (l.map bv)
  a : g ∉ homes v
theorem grave.set {w0 w : World} {g : Nat} {bs : List UInt8} {v : Value} {l : List UInt8} (h : grave w0 w g bs v l) (i : Nat) (b : UInt8) : grave w0 (w.setCell ⟨g, i, none⟩ (bv b)) g (bs.set i b) v l :=
  ⟨h.k.setCell _ _ (.inr h.n), rowB_set h.r i b, h.n, h.o.keep ((keepBut.refl [g] w).setCell ⟨g, i, none⟩ (bv b) (by simp)) (fun y hy hm => h.a (by rw [List.mem_singleton.1 hm] at hy; exact hy)), h.a⟩
theorem grave.over {w0 w w' : World} {g : Nat} {bs : List UInt8} {v : Value} {l : List UInt8} (h : grave w0 w g bs v l) (hk : keepBut [] w w') : grave w0 w' g bs v l :=
  ⟨h.k.then hk (by simp), hk.row h.r (by simp), h.n, h.o.keep hk (by simp), h.a⟩
theorem grave.seen {w0 w : World} {g : Nat} {bs : List UInt8} {v : Value} {l : List UInt8} (h : grave w0 w g bs v l) : seen w (some ⟨g, 0, none⟩) g bs := seen_row h.r (by simp [List.take_of_length_le])
def exValue : List UInt8 := [0, 0, 2, 171, 205, 0, 0, 0, 0, 0, 0, 0, 0, 0, 0, 0]
theorem ex_pad : padP [171, 205] false = (exValue, 0) := by decide
theorem ex_o1 : openP (graveBytes 16) = ([], true, 0) := by decide
theorem ex_o2 : openP ((graveBytes 16).set 0 2) = ([], false, 4) := by decide
theorem ex_o3 : openP ((((graveBytes 16).set 0 2).set 0 0).set 2 14) = ([], false, 4) := by decide

set_option maxRecDepth 100000 in
set_option maxHeartbeats 2000000 in
theorem works_any (w : World) (h : classesAt w) : Calls Tryd.prog 16 #[] w (yesPost w) := by
  have hmk := make16
  go_enter Tryd.func16, Tryd.ntmps16
  go_wp2_with fail
  have k0 := (keepBut.refl [] w).alloc (.cells #[.int .u8 171, .int .u8 205] 5)
  refine (pad_n _ w.heap.size _ 2 [171, 205] false _ rfl (h.keep k0) (by exact seen_new w _ _ _ _ rfl) (by omega)).mono ?_; rintro e w1 ⟨v1, rfl, ho1, hf1, hk1⟩
  rw [ex_pad] at ho1 ⊢
  have k1 := k0.then hk1 (by simp)
  have h1 := h.keep k1
  clear k0 hk1 hf1
  go_wp2_with fail
  refine (class_any _ _ h1).mono ?_; rintro e w' ⟨rfl, rfl⟩; rw [show classP 0 = 16 from by decide]
  go_wp2_with fail
  refine (class_any _ _ h1).mono ?_; rintro e w' ⟨rfl, rfl⟩; rw [show classP 13 = 16 from by decide]
  go_wp2_with fail
  refine (class_any _ _ h1).mono ?_; rintro e w' ⟨rfl, rfl⟩; rw [show classP 14 = 64 from by decide]
  go_wp2_with fail
  refine (class_any _ _ h1).mono ?_; rintro e w' ⟨rfl, rfl⟩; rw [show classP 250 = 256 from by decide]
  go_wp2_with fail
  refine (class_any _ _ h1).mono ?_; rintro e w' ⟨rfl, rfl⟩; rw [show classP 251 = 0 from by decide]
  go_wp2_with fail
  refine (class_any _ _ h1).mono ?_; rintro e w' ⟨rfl, rfl⟩; rw [show classP (-1) = 0 from by decide]
  have r2 := rowAt.new w1 5 (zeroRow 16)
  rw [zeroRow_eq] at r2
  have k2 := (keepBut.refl [] w1).alloc (.cells (zeroRow 16) 5)
  rw [zeroRow_eq] at k2
  go_upto_region 4 with fail
  have ho2 := ho1.keep k2 (by simp)
  have k02 := k1.then k2 (by simp)
  have gn2 := ho1.lt
  have gn1 := k1.size
  clear hmk ho1 k1 h1
  rw [zeroRow_eq]
  generalize w1.alloc (.cells ((List.replicate 16 (0 : UInt8)).map bv).toArray 5) = w2 at *
  generalize hgg : w1.heap.size = g at *
  have HG := Lib.hid hgg; clear hgg
  have s2 : grave w w2 g (List.replicate 16 0) v1 exValue := ⟨k02, r2, gn1, ho2, fun hm => by have := gn2 g hm; omega⟩
  have s3 := s2.set 0 1
  have c2 := rowB_cell r2 0 0 rfl
  have f2 := r2.free 0
  unfold bv at c2
  clear ho2 k02 gn2 gn1 r2 k2
  go_upto_region 5 with fail
  rw [show Value.int IntKind.u8 1 = bv 1 from rfl]
  generalize w2.setCell ⟨g, 0, none⟩ (bv 1) = w3 at *
  clear s2 c2 f2
  go_wp2_with fail
  refine (open_n _ g 16 16 (graveBytes 16) _ rfl (h.keep s3.k) s3.seen (by omega) (by unfold maxLen; omega) (by omega)).mono ?_; rintro e w4 ⟨v4, rfl, ho4, hf4, hk4⟩
  rw [ex_o1] at ho4 ⊢
  have s4 := s3.over hk4
  have hv4 := fun hm => (by have := hf4 g hm; have := s3.r.lt; omega : False)
  obtain ⟨A4, cc4, g4, rfl, _, _, _, _⟩ := ho4.seen
  have s5 := s4.set 0 2
  have c4 := rowB_cell s4.r 0 1 rfl
  have f4 := s4.r.free 0
  unfold bv at c4
  clear s3 hk4 ho4 hf4 hv4
  go_upto_region 7 with fail
  rw [show Value.int IntKind.u8 2 = bv 2 from rfl]
  generalize w4.setCell ⟨g, 0, none⟩ (bv 2) = w5 at *
  clear s4 c4 f4
  go_wp2_with fail
  refine (open_n _ g 16 16 ((graveBytes 16).set 0 2) _ rfl (h.keep s5.k) s5.seen (by omega) (by unfold maxLen; omega) (by omega)).mono ?_; rintro e w6 ⟨v6, rfl, ho6, hf6, hk6⟩
  rw [ex_o2]
  have s6 := s5.over hk6
  have s7 := s6.set 0 0
  have s8 := s7.set 2 14
  have c6 := rowB_cell s6.r 0 2 rfl
  have c7 := rowB_cell s7.r 2 0 rfl
  have c62 := rowB_cell s6.r 2 0 rfl
  have f6 := s6.r.free 0
  have f7 := s6.r.free 2
  unfold bv at c6 c7 c62
  clear s5 hk6 ho6 hf6 s7 c7
  go_upto_region 9 with fail
  rw [show Value.int IntKind.u8 0 = bv 0 from rfl, show Value.int IntKind.u8 14 = bv 14 from rfl]
  generalize (w6.setCell ⟨g, 0, none⟩ (bv 0)).setCell ⟨g, 2, none⟩ (bv 14) = w8 at *
  clear s6 c6 c62 f6 f7
  go_wp2_with fail
  refine (open_n _ g 16 16 ((((graveBytes 16).set 0 2).set 0 0).set 2 14) _ rfl (h.keep s8.k) s8.seen (by omega) (by unfold maxLen; omega) (by omega)).mono ?_; rintro e w9 ⟨v9, rfl, ho9, hf9, hk9⟩
  rw [ex_o3]
  have s9 := s8.over hk9
  obtain ⟨A1, cc1, g1, rfl, _, _, hs1, _⟩ := s9.o.seen
  have HS := Lib.hid (And.intro s9 hs1)
  clear s8 hk9 ho9 hf9 s9 hs1
  go_wp2_with fail
  refine (eqBytes_n _ _ g1 w9.heap.size _ _ 16 16 exValue exValue _ rfl rfl (by exact HS.out.2.keep ((keepBut.refl [] w9).alloc _) (by simp)) (by exact seen_new w9 _ _ _ _ rfl)).mono ?_; rintro e w10 ⟨rfl, rfl⟩
  rw [show (exValue == exValue) = true by simp]
  go_wp2_with fail
  go_ret
  exact ⟨rfl, HS.out.1.k.alloc _⟩
end Go.Proofs.YtaclpogcedgojaaDoor
