/-
  DISK, 8: the chapter's example, as the statements ask for it.
-/
import Derived.Test.YtbjonlfjfjlelaaDisk7
import Derived.Lib.SlBytesConst
namespace Go.Proofs.Ytbjonlfjfjlelaa
open Go.RowKit
set_option linter.unusedVariables false
set_option maxRecDepth 100000

/-- a disk that was made since w0, when nothing that was there in w0 has changed -/
def dOn (w0 w : World) (p : Nat) (F : List Nat) (d : DS) : Prop := isD w p F d ∧ (∀ y ∈ F, w0.heap.size ≤ y) ∧ keepBut [] w0 w
theorem dOn.step {w0 w w' : World} {p : Nat} {F : List Nat} {d d' : DS} {r : Int} {e : Ending} (h : dOn w0 w p F d) (hp : dPost p F d' r w e w') :
    e = .returned (.int .i64 r) ∧ ∃ F', dOn w0 w' p F' d' ∧ keepBut F w w' ∧ ∀ y ∈ F', y ∈ F ∨ w.heap.size ≤ y := by
  obtain ⟨he, F', a, b, c⟩ := hp
  refine ⟨he, F', ⟨a, fun y hy => ?_, h.2.2.then b (fun y hy => .inr (h.2.1 y hy))⟩, b, c⟩
  rcases c y hy with h1 | h1
  · exact h.2.1 y h1
  · have := h.2.2.size; omega
theorem dOn.over {w0 w w' : World} {p : Nat} {F : List Nat} {d : DS} (h : dOn w0 w p F d) (hk : keepBut [] w w') : dOn w0 w' p F d :=
  ⟨h.1.keep hk (by simp), h.2.1, h.2.2.then hk (by simp)⟩
theorem dOn.alloc {w0 w : World} {p : Nat} {F : List Nat} {d : DS} (h : dOn w0 w p F d) (o : Obj) : dOn w0 (w.alloc o) p F d := h.over ((keepBut.refl [] w).alloc o)
theorem dOn.start {w0 w w' : World} {e : Ending} (hk : keepBut [] w0 w) (h : newPost w e w') : ∃ p F, e = .returned (.pointer (some ⟨p, 0, none⟩)) ∧ dOn w0 w' p F DS.new := by
  obtain ⟨p, F, he, hd, hk', hF⟩ := h
  exact ⟨p, F, he, hd, fun y hy => by have := hF y hy; have := hk.size; omega, hk.then hk' (by simp)⟩
theorem dOn.notin {w0 w : World} {p : Nat} {F : List Nat} {d : DS} (h : dOn w0 w p F d) : w.heap.size ∉ F := fun hm => by have := h.1.lt _ hm; omega
theorem seen_new (w : World) (e : TypeId) (l : List UInt8) (cs : Array Value) (fr : Nat × Nat) (hcs : cs = (l.map bv).toArray) : seen (w.alloc (.cells cs e fr)) (some ⟨w.heap.size, 0, none⟩) w.heap.size l := by
  subst hcs
  intro _
  refine ⟨0, rfl, by simp, fun j b hb => ?_⟩
  rw [cell_of_row _ _ _ _ e fr (heap_alloc_new w _)]
  simp [hb]
/-- nothing that was there has changed; the answer is yes -/
def yesPost (w : World) (e : Ending) (w' : World) : Prop := e = .returned (.bool true) ∧ keepBut [] w w'

/-! the same, the length by a name of its own -/
theorem writeD_n (p : Nat) (F : List Nat) (d : DS) (A : Option Addr) (g c n : Nat) (l : List UInt8) (w : World) (hn : l.length = n) (h : isD w p F d) (hs : seen w A g l) (hg : l ≠ [] → g ∉ F) (hb : n ≤ 140737488355328) (ht : d.t.length ≤ 1000000) :
    Calls Try.prog 16 #[.pointer (some ⟨p, 0, none⟩), .slice A n c] w (dPost p F (d.write l).2 (d.write l).1 w) := by
  subst hn; exact writeD_any p F d A g c l w h hs hg hb ht
theorem swapD_n (p : Nat) (F : List Nat) (d : DS) (A : Option Addr) (g c n : Nat) (l : List UInt8) (w : World) (hn : l.length = n) (h : isD w p F d) (hs : seen w A g l) (hg : l ≠ [] → g ∉ F) (hb : n ≤ 140737488355328) (ht : d.t.length ≤ 1000000) :
    Calls Try.prog 17 #[.pointer (some ⟨p, 0, none⟩), .slice A n c] w (dPost p F (d.swap l).2 (d.swap l).1 w) := by
  subst hn; exact swapD_any p F d A g c l w h hs hg hb ht
theorem eqBytes_n (A B : Option Addr) (g h c d n k : Nat) (l m : List UInt8) (w : World) (hn : l.length = n) (hk : m.length = k) (hl : seen w A g l) (hm : seen w B h m) :
    Calls Try.prog 57 #[.slice A n c, .slice B k d] w fun e w' => e = .returned (.bool (l == m)) ∧ w = w' := by
  subst hn hk; exact eqBytes_any A B g h c d l m w hl hm
theorem copyBytes_n (A : Option Addr) (g c n : Nat) (l : List UInt8) (w : World) (hn : l.length = n) (h : seen w A g l) (hb : n ≤ 140737488355328) :
    Calls Try.prog 49 #[.slice A n c] w (copyPost l w) := by
  subst hn; exact copyBytes_any A g c l w h hb

set_option maxRecDepth 100000 in
set_option maxHeartbeats 2000000 in
theorem works_any (w : World) : Calls Try.prog 15 #[] w (yesPost w) := by
  have kc := fun (w : World) (C : Array Value) (n c : Nat) => Lib.run_convert_bytes_const (P := Try.prog) w 28 5 C n c Try.underlying28 Try.underlying5
  go_enter Try.func15, Try.ntmps15
  go_wp2_with fail
  refine (newD_any _).mono ?_; intro e w1 hq; obtain ⟨p, F1, rfl, h1⟩ := dOn.start (keepBut.refl [] w) hq; clear hq
  go_wp2_with fail
  have g1 := h1.notin
  have h1a := h1.alloc (.cells #[.int .u8 1, .int .u8 2] 5)
  refine (writeD_n _ _ _ _ _ _ 2 [1, 2] _ rfl h1a.1 (seen_new w1 _ [1, 2] _ _ rfl) (fun _ => g1) (by omega) (by simp [DS.new])).mono ?_; intro e w2 hq; obtain ⟨rfl, F2, h2, -, -⟩ := h1a.step hq; clear hq h1 h1a g1
  rw [show DS.new.write [1, 2] = (0, ⟨[1, 2], 0, false, none, [[1, 2]]⟩) from rfl] at h2 ⊢
  go_wp2_with fail
  refine (sync_any _ _ _ _ h2.1).mono ?_; intro e w3 hq; obtain ⟨rfl, F3, h3, -, -⟩ := h2.step hq; clear hq h2
  rw [show DS.sync ⟨[1, 2], 0, false, none, [[1, 2]]⟩ = (0, ⟨[1, 2], 2, false, none, [[1, 2]]⟩) from rfl] at h3 ⊢
  go_wp2_with fail
  have g3 := h3.notin
  have h3a := h3.alloc (.cells #[.int .u8 3, .int .u8 4] 5)
  refine (writeD_n _ _ _ _ _ _ 2 [3, 4] _ rfl h3a.1 (seen_new w3 _ [3, 4] _ _ rfl) (fun _ => g3) (by omega) (by simp)).mono ?_; intro e w4 hq; obtain ⟨rfl, F4, h4, -, -⟩ := h3a.step hq; clear hq h3 h3a g3
  rw [show DS.write ⟨[1, 2], 2, false, none, [[1, 2]]⟩ [3, 4] = (0, ⟨[1, 2, 3, 4], 2, false, none, [[1, 2], [3, 4]]⟩) from rfl] at h4 ⊢
  go_wp2_with fail
  refine (synced_any _ _ _ _ h4.1).mono ?_; rintro e w5 ⟨rfl, rfl⟩
  go_wp2_with fail
  refine (crash_any _ _ _ _ _ h4.1 (by omega)).mono ?_; intro e w6 hq; obtain ⟨rfl, F6, h6, -, -⟩ := h4.step hq; clear hq h4
  rw [show DS.crash ⟨[1, 2, 3, 4], 2, false, none, [[1, 2], [3, 4]]⟩ 1 = (0, ⟨[1, 2, 3], 3, true, none, [[1, 2], [3, 4]]⟩) from rfl] at h6 ⊢
  go_wp2_with fail
  refine (readD_any _ _ _ _ h6.1).mono ?_; rintro e w7 ⟨rfl, hr7, hk7⟩
  have h7 := h6.over hk7
  go_wp2_with fail
  have h7a := h7.alloc (.cells #[.int .u8 1, .int .u8 2, .int .u8 3] 5)
  refine (eqBytes_n _ _ w6.heap.size w7.heap.size _ _ 3 3 [1, 2, 3] [1, 2, 3] _ rfl rfl (by exact (seen_row hr7 (by simp)).keep ((keepBut.refl [] w7).alloc _) (by simp)) (by exact seen_new w7 _ _ _ _ rfl)).mono ?_; rintro e w8 ⟨rfl, rfl⟩
  clear h6 hr7 hk7 h7
  generalize hw8 : w7.alloc (.cells #[.int .u8 1, .int .u8 2, .int .u8 3] 5) = w8 at *
  have HW8 := Lib.hid hw8; clear hw8
  go_wp2_with fail
  have g8 := h7a.notin
  have h8a := h7a.alloc (.cells #[.int .u8 5] 5)
  refine (writeD_n _ _ _ _ _ _ 1 [5] _ rfl h8a.1 (by exact seen_new w8 _ [5] _ _ rfl) (fun _ => g8) (by omega) (by simp)).mono ?_; intro e w9 hq; obtain ⟨rfl, F9, h9, -, -⟩ := h8a.step hq; clear hq h7a h8a g8
  rw [show DS.write ⟨[1, 2, 3], 3, true, none, [[1, 2], [3, 4]]⟩ [5] = (130, ⟨[1, 2, 3], 3, true, none, [[1, 2], [3, 4]]⟩) from rfl] at h9 ⊢
  go_wp2_with fail
  refine (revive_any _ _ _ _ h9.1).mono ?_; intro e w10 hq; obtain ⟨rfl, F10, h10, -, -⟩ := h9.step hq; clear hq h9
  rw [show DS.revive ⟨[1, 2, 3], 3, true, none, [[1, 2], [3, 4]]⟩ = ⟨[1, 2, 3], 3, false, none, [[1, 2], [3, 4]]⟩ from rfl] at h10
  go_wp2_with fail
  refine (synced_any _ _ _ _ h10.1).mono ?_; rintro e w11 ⟨rfl, rfl⟩
  go_wp2_with fail
  have g10 := h10.notin
  have h10a := h10.alloc (.cells #[.int .u8 9] 5)
  refine (swapD_n _ _ _ _ _ _ 1 [9] _ rfl h10a.1 (by exact seen_new w10 _ [9] _ _ rfl) (fun _ => g10) (by omega) (by simp)).mono ?_; intro e w12 hq; obtain ⟨rfl, F12, h12, -, -⟩ := h10a.step hq; clear hq h10 h10a g10
  rw [show DS.swap ⟨[1, 2, 3], 3, false, none, [[1, 2], [3, 4]]⟩ [9] = (0, ⟨[9], 1, false, none, [[1, 2], [3, 4], [9]]⟩) from rfl] at h12 ⊢
  go_wp2_with fail
  refine (arm_any _ _ _ _ _ h12.1 (by omega)).mono ?_; intro e w13 hq; obtain ⟨rfl, F13, h13, -, -⟩ := h12.step hq; clear hq h12
  rw [show DS.armed ⟨[9], 1, false, none, [[1, 2], [3, 4], [9]]⟩ 0 = (0, ⟨[9], 1, false, some 0, [[1, 2], [3, 4], [9]]⟩) from rfl] at h13 ⊢
  go_wp2_with fail
  have g13 := h13.notin
  have h13a := h13.alloc (.cells #[.int .u8 8] 5)
  refine (writeD_n _ _ _ _ _ _ 1 [8] _ rfl h13a.1 (by exact seen_new w13 _ [8] _ _ rfl) (fun _ => g13) (by omega) (by simp)).mono ?_; intro e w14 hq; obtain ⟨rfl, F14, h14, -, -⟩ := h13a.step hq; clear hq h13 h13a g13
  rw [show DS.write ⟨[9], 1, false, some 0, [[1, 2], [3, 4], [9]]⟩ [8] = (0, ⟨[9, 8], 1, false, some 0, [[1, 2], [3, 4], [9], [8]]⟩) from rfl] at h14 ⊢
  go_wp2_with fail
  refine (sync_any _ _ _ _ h14.1).mono ?_; intro e w15 hq; obtain ⟨rfl, F15, h15, -, -⟩ := h14.step hq; clear hq h14
  rw [show DS.sync ⟨[9, 8], 1, false, some 0, [[1, 2], [3, 4], [9], [8]]⟩ = (130, ⟨[9], 1, true, some 0, [[1, 2], [3, 4], [9], [8]]⟩) from rfl] at h15 ⊢
  go_wp2_with fail
  refine (readD_any _ _ _ _ h15.1).mono ?_; rintro e w16 ⟨rfl, hr16, hk16⟩
  have h16 := h15.over hk16
  go_wp2_with fail
  have h16a := h16.alloc (.cells #[.int .u8 9] 5)
  refine (eqBytes_n _ _ w15.heap.size w16.heap.size _ _ 1 1 [9] [9] _ rfl rfl (by exact (seen_row hr16 (by simp)).keep ((keepBut.refl [] w16).alloc _) (by simp)) (by exact seen_new w16 _ _ _ _ rfl)).mono ?_; rintro e w17 ⟨rfl, rfl⟩
  have HK := Lib.hid h16a.2.2
  clear h15 hr16 hk16 h16 h16a
  go_wp2_with fail
  go_ret
  exact ⟨rfl, HK.out⟩
end Go.Proofs.Ytbjonlfjfjlelaa
