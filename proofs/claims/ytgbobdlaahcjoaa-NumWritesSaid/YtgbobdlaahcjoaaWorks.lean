/-
  WORKS: the chapter's examples, as the statements ask for them.
-/
import Derived.Test.YtgbobdlaahcjoaaHelp
import Derived.Lib.SlBytesConst
namespace Go.Proofs.Ytgbobdlaahcjoaa
open Go.RowKit
set_option linter.unusedVariables false

/-- a writer that was made since w0, when nothing that was there in w0 has changed -/
def wrOn (w0 w : World) (p : Nat) (v : Value) (s : WS) : Prop :=
  isWr w p v s ∧ w0.heap.size ≤ p ∧ (∀ x ∈ homes v, w0.heap.size ≤ x) ∧ keepBut [] w0 w
theorem wrOn.step {w0 w w' : World} {p : Nat} {v : Value} {s s' : WS} {e : Ending} (h : wrOn w0 w p v s) (hp : wrPost p v s' w e w') :
    e = .returned (.pointer (some ⟨p, 0, none⟩)) ∧ ∃ v', wrOn w0 w' p v' s' := by
  obtain ⟨he, v', hw, hk, hh⟩ := hp
  refine ⟨he, v', hw, h.2.1, fun x hx => ?_, h.2.2.2.then hk (fun x hx => .inr ?_)⟩
  · rcases hh x hx with h1 | h1
    · exact h.2.2.1 x h1
    · have := h.2.2.2.size; omega
  · rcases List.mem_cons.1 hx with rfl | hx
    · exact h.2.1
    · exact h.2.2.1 x hx
theorem wrOn.start {w0 w w' : World} {p : Nat} (hk : keepBut [] w0 w) (h : isWr w' p (.slice none 0 0) ⟨[], 0⟩) (hp : w.heap.size ≤ p) (hk' : keepBut [] w w') : wrOn w0 w' p (.slice none 0 0) ⟨[], 0⟩ :=
  ⟨h, by have := hk.size; omega, by simp [homes_none], hk.then hk' (by simp)⟩

theorem seen_new (w : World) (e : TypeId) (l : List UInt8) (cs : Array Value) (fr : Nat × Nat) (hcs : cs = (l.map bv).toArray) : seen (w.alloc (.cells cs e fr)) (some ⟨w.heap.size, 0, none⟩) w.heap.size l := by
  subst hcs
  intro _
  refine ⟨0, rfl, by simp, fun j b hb => ?_⟩
  rw [cell_of_row _ _ _ _ e fr (heap_alloc_new w _)]
  simp [hb]
theorem wrOn.alloc {w0 w : World} {p : Nat} {v : Value} {s : WS} (h : wrOn w0 w p v s) (o : Obj) : wrOn w0 (w.alloc o) p v s :=
  ⟨h.1.keep ((keepBut.refl [] w).alloc o) (by simp) (by simp), h.2.1, h.2.2.1, h.2.2.2.alloc o⟩

theorem wrOn.over {S : List Nat} {w0 w w' : World} {p : Nat} {v : Value} {s : WS} (h : wrOn w0 w p v s) (hk : keepBut S w w') (hS : ∀ x ∈ S, w.heap.size ≤ x ∨ (w0.heap.size ≤ x ∧ x ≠ p ∧ x ∉ homes v)) : wrOn w0 w' p v s := by
  have hlt := h.1.2.lt
  have hp := h.1.1.lt
  refine ⟨h.1.keep hk (fun hm => ?_) (fun x hx hm => ?_), h.2.1, h.2.2.1, h.2.2.2.then hk (fun x hx => .inr ?_)⟩
  · rcases hS _ hm with h1 | h1
    · omega
    · exact h1.2.1 rfl
  · rcases hS _ hm with h1 | h1
    · have := hlt x hx; omega
    · exact h1.2.2 hx
  · rcases hS _ hx with h1 | h1
    · have := h.2.2.2.size; omega
    · exact h1.1

/-! the same, the length by a name of its own -/
theorem read_n (A : Option Addr) (g c n : Nat) (l : List UInt8) (w : World) (hn : l.length = n) (h : seen w A g l) (hb : n ≤ 140737488355328) :
    Calls Try.prog 25 #[.slice A n c] w fun e w' => ∃ p g', e = .returned (.pointer (some ⟨p, 0, none⟩)) ∧ isR w' p g' ⟨l, 0⟩ ∧ w.heap.size ≤ p ∧ w.heap.size ≤ g' ∧ keepBut [] w w' := by
  subst hn; exact read_any A g c l w h hb
theorem eqBytes_n (A B : Option Addr) (g h c d n k : Nat) (l m : List UInt8) (w : World) (hn : l.length = n) (hk : m.length = k) (hl : seen w A g l) (hm : seen w B h m) :
    Calls Try.prog 23 #[.slice A n c, .slice B k d] w fun e w' => e = .returned (.bool (l == m)) ∧ w = w' := by
  subst hn hk; exact eqBytes_any A B g h c d l m w hl hm
theorem copyBytes_n (A : Option Addr) (g c n : Nat) (l : List UInt8) (w : World) (hn : l.length = n) (h : seen w A g l) (hb : n ≤ 140737488355328) :
    Calls Try.prog 11 #[.slice A n c] w (copyPost l w) := by
  subst hn; exact copyBytes_any A g c l w h hb
theorem wraw_n (p : Nat) (v : Value) (s : WS) (A : Option Addr) (g c n : Nat) (l : List UInt8) (w : World) (hn : l.length = n) (h : isWr w p v s) (hs : seen w A g l) (hb : s.b.length + n ≤ 140737488355328) :
    Calls Try.prog 19 #[.pointer (some ⟨p, 0, none⟩), .slice A n c] w (wrPost p v (s.raw l) w) := by
  subst hn; exact wraw_any p v s A g c l w h hs hb
theorem wtext_n (p : Nat) (v : Value) (s : WS) (A : Option Addr) (g c n : Nat) (l : List UInt8) (w : World) (hn : l.length = n) (h : isWr w p v s) (hs : seen w A g l) (hg : l ≠ [] → g ≠ p ∧ g ∉ homes v) (hb : s.b.length ≤ 1000000000) (hb2 : n ≤ 1000000000) :
    Calls Try.prog 17 #[.pointer (some ⟨p, 0, none⟩), .slice A n c] w (wrPost p v (s.text l) w) := by
  subst hn; exact wtext_any p v s A g c l w h hs hg hb hb2

/-- a reader that was made since w0 -/
def rdOn (w0 w : World) (p g : Nat) (r : RS) : Prop := isR w p g r ∧ w0.heap.size ≤ p ∧ w0.heap.size ≤ g
theorem rdOn.start {w0 w w' : World} {p g : Nat} {r : RS} (hk : keepBut [] w0 w) (o : Obj) (h : isR w' p g r) (hp : (w.alloc o).heap.size ≤ p) (hg : (w.alloc o).heap.size ≤ g) (hk' : keepBut [] (w.alloc o) w') :
    rdOn w0 w' p g r ∧ keepBut [] w0 w' := by
  have := hk.size
  simp at hp hg
  exact ⟨⟨h, by omega, by omega⟩, (hk.alloc o).then hk' (by simp)⟩
theorem rdOn.over {S : List Nat} {w0 w w' : World} {p g : Nat} {r : RS} (h : rdOn w0 w p g r) (hk : keepBut S w w') (hp : p ∉ S) (hg : r.l ≠ [] → g ∉ S) : rdOn w0 w' p g r :=
  ⟨h.1.keep hk hp hg, h.2⟩
theorem rdOn.later {w0 w : World} {p g q k : Nat} {r : RS} (h : rdOn w0 w p g r) (o : Obj) (hp : (w.alloc o).heap.size ≤ q) (hg : (w.alloc o).heap.size ≤ k) : p < q ∧ p < k := by
  have := h.1.lt
  simp at hp hg
  omega

theorem num_ex : (WS.mk [] 0).num 2 258 = ⟨[1, 2], 0⟩ := rfl
theorem cb_300 : cb 300 = [130, 44] := by
  unfold cb
  rw [cbHi_pos (300 / 128) (by decide), show 300 / 128 / 128 = 0 from rfl, cbHi_zero]
  rfl
theorem cb_2 : cb 2 = [2] := by
  unfold cb
  rw [show 2 / 128 = 0 from rfl, cbHi_zero]
  rfl
theorem count_ex : (WS.mk [1, 2] 0).count 300 = ⟨[1, 2, 130, 44], 0⟩ := by
  unfold WS.count
  rw [if_pos rfl, if_neg (by decide), show (300 : Int).toNat = 300 from rfl, cb_300]; rfl
theorem text_ex : (WS.mk [1, 2, 130, 44] 0).text [97, 98] = ⟨[1, 2, 130, 44, 2, 97, 98], 0⟩ := by
  unfold WS.text WS.count
  rw [if_pos rfl, if_neg (by decide), show (([97, 98] : List UInt8).length : Int).toNat = 2 from rfl, cb_2]; rfl

/-- nothing that was there has changed; the answer is yes -/
def yesPost (w : World) (e : Ending) (w' : World) : Prop := e = .returned (.bool true) ∧ keepBut [] w w'

set_option maxRecDepth 100000 in
set_option maxHeartbeats 2000000 in
theorem works_any (w : World) : Calls Try.prog 24 #[] w (yesPost w) := by
  have kc := fun (w : World) (C : Array Value) (n c : Nat) => Lib.run_convert_bytes_const (P := Try.prog) w 27 5 C n c Try.underlying27 Try.underlying5
  go_enter Try.func24, Try.ntmps24
  go_wp2_with fail
  refine (write_any _).mono ?_; rintro e w1 ⟨p1, rfl, hw1, hp1, hk1⟩
  have h1 := wrOn.start (keepBut.refl [] w) hw1 hp1 hk1; clear hw1 hp1 hk1
  go_wp2_with fail
  refine (wnum_any _ _ _ _ _ _ h1.1 (by simp)).mono ?_; intro e w2 hq; obtain ⟨rfl, v2, h2⟩ := h1.step hq; clear hq h1
  rw [num_ex] at h2
  go_wp2_with fail
  refine (wcount_any _ _ _ _ _ h2.1 (by simp)).mono ?_; intro e w3 hq; obtain ⟨rfl, v3, h3⟩ := h2.step hq; clear hq h2
  rw [count_ex] at h3
  go_wp2_with fail
  have h3a := h3.alloc (.cells #[.int .u8 97, .int .u8 98] 5 (2, 3))
  have hp3 := h3.1.1.lt
  have hv3 := h3.1.2.lt
  refine (wtext_any p1 v3 _ _ w3.heap.size 2 [97, 98] _ h3a.1 (seen_new w3 _ [97, 98] _ _ rfl) (fun _ => ⟨by omega, fun hm => by have := hv3 _ hm; omega⟩) (by simp) (by simp)).mono ?_; intro e w4 hq; obtain ⟨rfl, v4, h4⟩ := h3a.step hq; clear hq h3 h3a hp3 hv3
  rw [text_ex] at h4
  go_wp2_with fail
  refine (wbytes_any _ _ _ _ h4.1 (by simp)).mono ?_; rintro e w5 ⟨v5, rfl, ho5, hf5, hk5⟩
  have k5 := h4.2.2.2.then hk5 (by simp)
  obtain ⟨A5, c5, g5, rfl, _, _, hs5, hg5⟩ := ho5.seen
  clear ho5 hf5 hk5 h4
  go_wp2_with fail
  have k6 := k5.alloc (.cells #[.int .u8 1, .int .u8 2, .int .u8 130, .int .u8 44, .int .u8 2, .int .u8 97, .int .u8 98] 5)
  refine (eqBytes_any A5 (some ⟨w5.heap.size, 0, none⟩) g5 w5.heap.size c5 7 [1, 2, 130, 44, 2, 97, 98] [1, 2, 130, 44, 2, 97, 98] _ (hs5.keep ((keepBut.refl [] w5).alloc _) (by simp)) (seen_new w5 _ _ _ _ rfl)).mono ?_; rintro e w6 ⟨rfl, rfl⟩
  clear hs5 hg5 k5
  go_wp2_with fail
  refine (write_any _).mono ?_; rintro e w7 ⟨p7, rfl, hw7, hp7, hk7⟩
  have h7 := wrOn.start k6 hw7 hp7 hk7; clear hw7 hp7 hk7 k6
  go_wp2_with fail
  refine (wnum_any _ _ _ _ _ _ h7.1 (by simp)).mono ?_; intro e w8 hq; obtain ⟨rfl, v8, h8⟩ := h7.step hq; clear hq h7
  rw [show (WS.mk [] 0).num 3 1 = ⟨[], 2⟩ from rfl] at h8
  go_wp2_with fail
  refine (wrong_any _ _ _ _ h8.1 (by simp)).mono ?_; rintro e w9 ⟨rfl, hk9⟩
  have k9 := h8.2.2.2.then hk9 (by simp); clear hk9 h8
  go_wp2_with fail
  refine (write_any _).mono ?_; rintro e w10 ⟨p10, rfl, hw10, hp10, hk10⟩
  have h10 := wrOn.start k9 hw10 hp10 hk10; clear hw10 hp10 hk10 k9
  go_wp2_with fail
  refine (wnum_any _ _ _ _ _ _ h10.1 (by simp)).mono ?_; intro e w11 hq; obtain ⟨rfl, v11, h11⟩ := h10.step hq; clear hq h10
  rw [show (WS.mk [] 0).num 1 256 = ⟨[], 9⟩ from rfl] at h11
  go_wp2_with fail
  refine (wrong_any _ _ _ _ h11.1 (by simp)).mono ?_; rintro e w12 ⟨rfl, hk12⟩
  have k12 := h11.2.2.2.then hk12 (by simp); clear hk12 h11
  go_wp2_with fail
  refine (write_any _).mono ?_; rintro e w13 ⟨p13, rfl, hw13, hp13, hk13⟩
  have h13 := wrOn.start k12 hw13 hp13 hk13; clear hw13 hp13 hk13 k12
  go_wp2_with fail
  refine (wcount_any _ _ _ _ _ h13.1 (by simp)).mono ?_; intro e w14 hq; obtain ⟨rfl, v14, h14⟩ := h13.step hq; clear hq h13
  rw [show (WS.mk [] 0).count (-1) = ⟨[], 9⟩ from rfl] at h14
  go_wp2_with fail
  refine (wrong_any _ _ _ _ h14.1 (by simp)).mono ?_; rintro e w15 ⟨rfl, hk15⟩
  have k15 := h14.2.2.2.then hk15 (by simp); clear hk15 h14
  go_wp2_with fail
  refine (read_any _ _ 2 [128, 1] _ (seen_new w15 _ _ _ _ rfl) (by simp)).mono ?_; rintro e w16 ⟨p16, g16, rfl, hr16, hp16, hg16, hk16⟩
  obtain ⟨x16, k16⟩ := rdOn.start k15 _ hr16 hp16 hg16 hk16
  clear k15 hp16 hg16 hk16 hr16
  go_wp2_with fail
  refine (read_any _ _ 1 [130] _ (seen_new w16 _ _ _ _ rfl) (by simp)).mono ?_; rintro e w17 ⟨p17, g17, rfl, hr17, hp17, hg17, hk17⟩
  obtain ⟨y17, k17⟩ := rdOn.start k16 _ hr17 hp17 hg17 hk17
  have x17 := x16.over ((keepBut.refl [] w16).alloc (.cells #[.int .u8 130] 5)) (by simp) (by simp) |>.over hk17 (by simp) (by simp)
  have a17 := rdOn.later x16 _ hp17 hg17
  clear k16 hp17 hg17 hk17 hr17 x16
  go_wp2_with fail
  refine (read_any _ _ 1 [10] _ (seen_new w17 _ _ _ _ rfl) (by simp)).mono ?_; rintro e w18 ⟨p18, g18, rfl, hr18, hp18, hg18, hk18⟩
  obtain ⟨z18, k18⟩ := rdOn.start k17 _ hr18 hp18 hg18 hk18
  have x18 := x17.over ((keepBut.refl [] w17).alloc (.cells #[.int .u8 10] 5)) (by simp) (by simp) |>.over hk18 (by simp) (by simp)
  have y18 := y17.over ((keepBut.refl [] w17).alloc (.cells #[.int .u8 10] 5)) (by simp) (by simp) |>.over hk18 (by simp) (by simp)
  have a18 := rdOn.later x17 _ hp18 hg18
  have b18 := rdOn.later y17 _ hp18 hg18
  clear k17 hp18 hg18 hk18 hr18 x17 y17
  go_wp2_with fail
  refine (count_any _ _ _ _ _ x18.1).mono ?_; rintro e w19 ⟨rfl, hr19, hk19⟩
  rw [show (RS.mk [128, 1] 0).count 9 = (0, ⟨[], 4⟩) from rfl] at hr19
  rw [show (RS.mk [128, 1] 0).count 9 = (0, ⟨[], 4⟩) from rfl]
  have k19 := k18.then hk19 (by simp; exact x18.2.1)
  have y19 := y18.over hk19 (by simp; omega) (by simp; omega)
  have z19 := z18.over hk19 (by simp; omega) (by simp; omega)
  clear k18 hk19 x18 y18 z18
  go_wp2_with fail
  refine (err_any _ _ _ _ hr19).mono ?_; rintro e w20 ⟨rfl, rfl⟩
  clear hr19
  go_wp2_with fail
  refine (count_any _ _ _ _ _ y19.1).mono ?_; rintro e w21 ⟨rfl, hr21, hk21⟩
  rw [show (RS.mk [130] 0).count 9 = (0, ⟨[], 3⟩) from rfl] at hr21
  rw [show (RS.mk [130] 0).count 9 = (0, ⟨[], 3⟩) from rfl]
  have k21 := k19.then hk21 (by simp; exact y19.2.1)
  have z21 := z19.over hk21 (by simp; omega) (by simp; omega)
  clear k19 hk21 y19 z19
  go_wp2_with fail
  refine (err_any _ _ _ _ hr21).mono ?_; rintro e w22 ⟨rfl, rfl⟩
  clear hr21
  go_wp2_with fail
  refine (count_any _ _ _ _ _ z21.1).mono ?_; rintro e w23 ⟨rfl, hr23, hk23⟩
  rw [show (RS.mk [10] 0).count 9 = (0, ⟨[], 5⟩) from rfl] at hr23
  rw [show (RS.mk [10] 0).count 9 = (0, ⟨[], 5⟩) from rfl]
  have k23 := k21.then hk23 (by simp; exact z21.2.1)
  clear k21 hk23 z21
  go_wp2_with fail
  refine (err_any _ _ _ _ hr23).mono ?_; rintro e w24 ⟨rfl, rfl⟩
  clear hr23
  go_wp2_with fail
  go_ret
  exact ⟨rfl, k23⟩
end Go.Proofs.Ytgbobdlaahcjoaa
