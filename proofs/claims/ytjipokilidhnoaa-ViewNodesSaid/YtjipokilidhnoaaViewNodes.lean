/-
  VIEW: ViewNodes' walk.
-/
import Derived.Test.YtjipokilidhnoaaViewWorks
import Derived.Test.YtjipokilidhnoaaViewNodesPure
import Derived.Test.YtjipokilidhnoaaViewLift
namespace Go.Proofs.Ytjipokilidhnoaa
open Go.RowKit
set_option linter.unusedVariables false
set_option maxRecDepth 100000

def fN (k : Nat) (L : List VR) : List VR := L.filter (fun r => r.node == nodeAt k)
/-- the parts of the first i nodes lie in block PB -/
def partAt (L : List VR) (PB AT i : Nat) (wx : World) : Prop := ∃ ps : Array Value, rowAt wx PB 38 ps ∧ ps.size = 14 ∧
  ∀ k, k < i → ∃ A c G, ps[nodeN k]? = some (.slice A (cntN k L) c) ∧ cntN k L ≤ c ∧ rowsV wx G A (fN k L) ∧ ∀ y ∈ G, y ≠ AT ∧ y ≠ PB ∧ y < wx.heap.size
theorem partAt.keep {S : List Nat} {L : List VR} {PB AT i : Nat} {w w' : World} (h : partAt L PB AT i w) (hk : keepBut S w w') (hP : PB ∉ S) (hS : ∀ y ∈ S, y = AT ∨ w.heap.size ≤ y) : partAt L PB AT i w' := by
  obtain ⟨ps, h1, h2, h3⟩ := h
  refine ⟨ps, hk.row h1 hP, h2, fun k hi => ?_⟩
  obtain ⟨A, c, G, e1, e2, e3, e4⟩ := h3 k hi
  refine ⟨A, c, G, e1, e2, e3.keep hk (fun y hy hm => ?_), fun y hy => ⟨(e4 y hy).1, (e4 y hy).2.1, Nat.lt_of_lt_of_le (e4 y hy).2.2 hk.size⟩⟩
  rcases hS y hm with h | h
  · exact (e4 y hy).1 h
  · have := (e4 y hy).2.2; omega
theorem partAt.put {L : List VR} {PB AT i : Nat} {w : World} {A : Option Addr} {c : Nat} {G : List Nat} (h : partAt L PB AT i w) (hc : cntN i L ≤ c) (hr : rowsV w G A (fN i L)) (hG : ∀ y ∈ G, y ≠ AT ∧ y ≠ PB ∧ y < w.heap.size) (hi7 : i < 7) :
    partAt L PB AT (i + 1) (w.setCell ⟨PB, nodeN i, none⟩ (.slice A (cntN i L) c)) := by
  obtain ⟨ps, h1, h2, h3⟩ := h
  have hk := (keepBut.refl [PB] w).setCell ⟨PB, nodeN i, none⟩ (.slice A (cntN i L) c) (by simp)
  refine ⟨ps.setIfInBounds (nodeN i) (.slice A (cntN i L) c), h1.set _ _, by simpa using h2, fun k hk' => ?_⟩
  by_cases e : k = i
  · subst e
    exact ⟨A, c, G, by rw [Array.getElem?_setIfInBounds_self_of_lt]; rw [h2]; exact nodeN_lt hi7, hc, hr.keep hk (fun y hy hm => (hG y hy).2.1 (by simpa using hm)), fun y hy => ⟨(hG y hy).1, (hG y hy).2.1, Nat.lt_of_lt_of_le (hG y hy).2.2 hk.size⟩⟩
  · obtain ⟨A2, c2, G2, e1, e2, e3, e4⟩ := h3 k (by omega)
    refine ⟨A2, c2, G2, by rw [Array.getElem?_setIfInBounds_ne (fun h => e (nodeN_inj h.symm))]; exact e1, e2, e3.keep hk (fun y hy hm => (e4 y hy).2.1 (by simpa using hm)), fun y hy => ⟨(e4 y hy).1, (e4 y hy).2.1, Nat.lt_of_lt_of_le (e4 y hy).2.2 hk.size⟩⟩
theorem rowsV.narrow {w : World} {G : List Nat} {A : Option Addr} {l : List VR} (h : rowsV w G A l) : rowsV w (G.filter (fun y => decide (y < w.heap.size))) A l := by
  intro hl
  obtain ⟨g, o, e1, e2, e3, e4⟩ := h hl
  have m : ∀ {y : Nat}, y ∈ G → y < w.heap.size → y ∈ G.filter (fun y => decide (y < w.heap.size)) := fun hy hlt => List.mem_filter.2 ⟨hy, by simpa using hlt⟩
  refine ⟨g, o, e1, e2, m e3 e2, fun i r hi => ?_⟩
  obtain ⟨A', n, ⟨A2, c, g2, h1, h2, h3, h4, h5, h6⟩, q⟩ := e4 i r hi
  refine ⟨A', n, ⟨A2, c, g2, h1, h2, h3, h4, h5, fun hb => ?_⟩, q⟩
  obtain ⟨o2, f1, f2, f3⟩ := h5 hb
  exact m (h6 hb) f2
def nodes1Rel (w5 : World) (L : List VR) (PB AT : Nat) (v7 v9 : Value) (wx : World) : Prop := ∃ i : Nat, i ≤ 7 ∧ v9 = .int .i64 (i : Int) ∧ v7 = .int .i64 (sumN L i : Int) ∧ partAt L PB AT i wx ∧ keepBut [PB] w5 wx
def nodes2Rel (wS : World) (L : List VR) (AT : Nat) (v12 : Value) (wx : World) : Prop := ∃ i : Nat, i ≤ L.length ∧ v12 = .int .i64 (i : Int) ∧
  (∃ cs : Array Value, rowAt wx AT 37 cs ∧ cs.size = 14 ∧ ∀ k, k < 7 → cs[nodeN k]? = some (.int .i64 (cntN k (L.take i) : Int))) ∧ keepBut [AT] wS wx
theorem zeros14 : ∀ k, k < 7 → (#[.int .i64 0, .int .i64 0, .int .i64 0, .int .i64 0, .int .i64 0, .int .i64 0, .int .i64 0, .int .i64 0, .int .i64 0, .int .i64 0, .int .i64 0, .int .i64 0, .int .i64 0, .int .i64 0] : Array Value)[nodeN k]? = some (.int .i64 0)
  | 0, _ => rfl
  | 1, _ => rfl
  | 2, _ => rfl
  | 3, _ => rfl
  | 4, _ => rfl
  | 5, _ => rfl
  | 6, _ => rfl
  | k + 7, h => by omega
theorem six_keep {w w' : World} {a pb g : Nat} {i1 i2 o0 o1 o2 o3 : Nat} {u1 u2 v0 v1 v2 v3 : Value} (hk : keepBut [] w w') (ha : a < w.heap.size) (hp : pb < w.heap.size) (hg : g < w.heap.size)
    (h : w.cell? ⟨a, i1, none⟩ = some u1 ∧ w.cell? ⟨pb, i2, none⟩ = some u2 ∧ w.cell? ⟨g, o0, none⟩ = some v0 ∧ w.cell? ⟨g, o1, none⟩ = some v1 ∧ w.cell? ⟨g, o2, none⟩ = some v2 ∧ w.cell? ⟨g, o3, none⟩ = some v3) :
    w'.cell? ⟨a, i1, none⟩ = some u1 ∧ w'.cell? ⟨pb, i2, none⟩ = some u2 ∧ w'.cell? ⟨g, o0, none⟩ = some v0 ∧ w'.cell? ⟨g, o1, none⟩ = some v1 ∧ w'.cell? ⟨g, o2, none⟩ = some v2 ∧ w'.cell? ⟨g, o3, none⟩ = some v3 := by
  have e := fun o => hk.cell (p := ⟨g, o, none⟩) hg (by simp)
  have e1 := fun o => hk.cell (p := ⟨a, o, none⟩) ha (by simp)
  have e2 := fun o => hk.cell (p := ⟨pb, o, none⟩) hp (by simp)
  simp only [e, e1, e2]
  exact h
set_option maxHeartbeats 4000000 in
theorem viewNodes_walk (A : Option Addr) (l : List SD) (c : Nat) (w : World) (h : seedsV w A l) (hlc : l.length ≤ c) (hc : c ≤ maxLen) :
    Calls Try.prog 4 #[.slice A l.length c] w (yesPost w) := by
  have hl : l.length ≤ 9223372036854775807 := by unfold maxLen at hc; omega
  go_enter Try.func4, Try.ntmps4
  go_wp2_with fail
  refine (made_any l A c 60 _ h (by omega) hl).mono ?_
  rintro e w1 ⟨A1, c1, G, rfl, hc1, hc1m, hr1, hG1, k1⟩
  have hk : min l.length 60 ≤ l.length := by omega
  have hL60 : (mdTo l (min l.length 60)).length ≤ 60 := by rw [mdTo_len hk]; omega
  have hgood := mdTo_good hk (by omega)
  have hnod := mdTo_nodes hk
  have hkin := mdTo_kinds hk
  generalize mdTo l (min l.length 60) = L at hc1 hr1 hL60 hgood hnod hkin ⊢
  go_wp2_with fail
  refine (ofL_any G A1 c1 L _ hr1 hgood hc1).mono ?_
  rintro e w2 ⟨p, F, rfl, hp2, hF2, k2⟩
  have k02 := k1.then k2 (by simp)
  have hr2 := hr1.keep k2 (by simp)
  have hG2 : ∀ y ∈ G, y < w2.heap.size := fun y hy => Nat.lt_of_lt_of_le (hG1 y hy) k2.size
  have hF2 := hp2.lt
  clear hr1 k1 k2 hG1
  have HG := Lib.hid (And.intro hgood (And.intro hnod hkin))
  have H2 := Lib.hid (And.intro hp2 (And.intro hr2 (And.intro hG2 (And.intro hF2 k02))))
  clear hgood hnod hkin hp2 hr2 hG2 hF2 k02 h
  go_wp2_with fail
  obtain ⟨AT, hATe⟩ : ∃ AT, w2.heap.size = AT := ⟨_, rfl⟩
  have ra := rowAt.new w2 37 #[.int .i64 0, .int .i64 0, .int .i64 0, .int .i64 0, .int .i64 0, .int .i64 0, .int .i64 0, .int .i64 0, .int .i64 0, .int .i64 0, .int .i64 0, .int .i64 0, .int .i64 0, .int .i64 0]
  have ka := (keepBut.refl [] w2).alloc (.cells #[.int .i64 0, .int .i64 0, .int .i64 0, .int .i64 0, .int .i64 0, .int .i64 0, .int .i64 0, .int .i64 0, .int .i64 0, .int .i64 0, .int .i64 0, .int .i64 0, .int .i64 0, .int .i64 0] 37)
  obtain ⟨wa, hwa⟩ : ∃ wa, w2.alloc (.cells #[.int .i64 0, .int .i64 0, .int .i64 0, .int .i64 0, .int .i64 0, .int .i64 0, .int .i64 0, .int .i64 0, .int .i64 0, .int .i64 0, .int .i64 0, .int .i64 0, .int .i64 0, .int .i64 0] 37) = wa := ⟨_, rfl⟩
  have sza : wa.heap.size = AT + 1 := by rw [← hwa, World.size_alloc, hATe]
  rw [hwa] at ra ka ⊢
  rw [hATe] at ra ⊢
  clear hwa
  have rp := rowAt.new wa 38 #[.slice none 0 0, .slice none 0 0, .slice none 0 0, .slice none 0 0, .slice none 0 0, .slice none 0 0, .slice none 0 0, .slice none 0 0, .slice none 0 0, .slice none 0 0, .slice none 0 0, .slice none 0 0, .slice none 0 0, .slice none 0 0]
  have kb := (keepBut.refl [] wa).alloc (.cells #[.slice none 0 0, .slice none 0 0, .slice none 0 0, .slice none 0 0, .slice none 0 0, .slice none 0 0, .slice none 0 0, .slice none 0 0, .slice none 0 0, .slice none 0 0, .slice none 0 0, .slice none 0 0, .slice none 0 0, .slice none 0 0] 38)
  have rab := kb.row ra (by simp)
  obtain ⟨wb, hwb⟩ : ∃ wb, wa.alloc (.cells #[.slice none 0 0, .slice none 0 0, .slice none 0 0, .slice none 0 0, .slice none 0 0, .slice none 0 0, .slice none 0 0, .slice none 0 0, .slice none 0 0, .slice none 0 0, .slice none 0 0, .slice none 0 0, .slice none 0 0, .slice none 0 0] 38) = wb := ⟨_, rfl⟩
  have szb : wb.heap.size = AT + 2 := by rw [← hwb, World.size_alloc, sza]
  rw [hwb] at rp kb rab ⊢
  rw [sza] at rp
  clear hwb
  have kab := ka.then kb (by simp)
  refine (nodes_any _).mono ?_
  rintro e w5 ⟨rfl, hw5⟩
  rw [szb]
  have kc : keepBut [] wb w5 := by rw [hw5]; exact (keepBut.refl [] wb).alloc _
  have rn : rowAt w5 (AT + 2) 3 nodesA := by have := rowAt.new wb 3 nodesA; rw [szb] at this; rw [hw5]; exact this
  have k25 := kab.then kc (by simp)
  have sz5 : AT + 2 < w5.heap.size := rn.lt
  have hpt : partAt L (AT + 1) AT 0 w5 := ⟨_, kc.row rp (by simp), rfl, fun k hk => by omega⟩
  have rat := kc.row rab (by simp)
  have hp5 := H2.out.1.over k25
  have hr5 := H2.out.2.1.keep k25 (by simp)
  have hF5 : ∀ y ∈ F, y < AT := fun y hy => by rw [← hATe]; exact H2.out.2.2.2.1 y hy
  have hG5 : ∀ y ∈ G, y < AT := fun y hy => by rw [← hATe]; exact H2.out.2.2.1 y hy
  have k05 := H2.out.2.2.2.2.then k25 (by simp)
  have hwAT : w.heap.size ≤ AT := by rw [← hATe]; exact H2.out.2.2.2.2.size
  have H5 := Lib.hid (And.intro hp5 (And.intro hr5 (And.intro hF5 (And.intro hG5 (And.intro rat (And.intro rn (And.intro k05 (And.intro hwAT hpt))))))))
  clear ra ka sza rp kb rab szb kab hw5 kc rn k25 hpt rat hp5 hr5 hF5 hG5 k05 hwAT H2 hATe hF2
  go_wp2_with fail
  go_loopw [7, 9, 10, 11] (fun v7 v9 _ _ wx => nodes1Rel w5 L (AT + 1) AT v7 v9 wx) (fun _ v9 _ _ _ => 7 - (intOf v9).toNat)
  case atStart => exact ⟨0, by omega, rfl, rfl, H5.out.2.2.2.2.2.2.2.2, keepBut.refl _ _⟩
  case round =>
    obtain ⟨i, hi, rfl, rfl, hpt, hkp⟩ := hrel
    by_cases hi7 : i < 7
    · have hi7' : (i : Int) < 7 := by omega
      have hp := H5.out.1.keep hkp (fun y hy hm => by rw [List.mem_singleton] at hm; have := H5.out.2.2.1 y hy; omega)
      have rn := hkp.row H5.out.2.2.2.2.2.1 (by simp)
      have yn : wr.cell? ⟨AT + 2, i, none⟩ = some (.int .i64 (nodeN i : Int)) := by rw [rn.cell, nodesA_at i hi7, nodeAt_N]
      have hn14 := nodeN_lt hi7
      have hn14' : (nodeN i : Int) < 14 := by omega
      have hnode : (fun r : VR => r.node == (nodeN i : Int)) = (fun r : VR => r.node == nodeAt i) := by rw [nodeAt_N]
      have hsz := hkp.size
      have HR := Lib.hid (And.intro hp (And.intro hpt (And.intro hkp hnode)))
      clear hp hpt hkp rn hnode
      go_wp2_with fail
      refine (nodeV_any p F L (nodeN i : Int) _ HR.out.1 (by omega)).mono ?_
      rintro e w6 ⟨q, Q, rfl, hq6, hQ6, k6⟩
      rw [HR.out.2.2.2] at hq6
      go_wp2_with fail
      refine (rowsR_any q Q _ _ hq6 (Nat.le_trans (List.length_filter_le _ _) (by omega))).mono ?_
      rintro e w7 ⟨A7, c7, G7, rfl, hc7, hc7m, hr7, hG7, k7⟩
      have k67 := k6.then k7 (by simp)
      have hpt7 := HR.out.2.1.keep k67 (by simp) (by simp)
      obtain ⟨ps, hps, hps2, hps3⟩ := id hpt7
      obtain ⟨ov, hov⟩ : ∃ ov, ps[nodeN i]? = some ov := ⟨_, Array.getElem?_eq_getElem (by rw [hps2]; exact hn14)⟩
      have zc : w7.cell? ⟨AT + 1, nodeN i, none⟩ = some ov := by rw [hps.cell]; exact hov
      have zf := hps.free (nodeN i)
      have hr7' : rowsV w7 G7 A7 (fN i L) := hr7
      have hG7' : ∀ y ∈ G7.filter (fun y => decide (y < w7.heap.size)), y ≠ AT ∧ y ≠ AT + 1 ∧ y < w7.heap.size := fun y hy => by
        obtain ⟨h1, h2⟩ := List.mem_filter.1 hy
        have := hG7 y h1
        have := k6.size
        have h3 : y < w7.heap.size := by simpa using h2
        omega
      have hpt8 := hpt7.put (A := A7) (c := c7) hc7 hr7'.narrow hG7' hi7
      have k78 := (keepBut.refl [AT + 1] w7).setCell ⟨AT + 1, nodeN i, none⟩ (.slice A7 (cntN i L) c7) (by simp)
      have k08 := (HR.out.2.2.1.then k67 (by simp)).then k78 (fun y hy => .inl hy)
      have hcl := cntN_le i L
      have hc7' : cntN i L ≤ c7 := hc7
      rw [show (List.filter (fun r => r.node == nodeAt i) L).length = cntN i L from rfl]
      have HK8 := Lib.hid k08
      clear hr7 hr7' hG7 hG7' hpt7 hps hps2 hps3 hov hq6 hQ6 k6 k7 k67 k08 hc7
      have zc8 : (w7.setCell ⟨AT + 1, nodeN i, none⟩ (.slice A7 (cntN i L) c7)).cell? ⟨AT + 1, nodeN i, none⟩ = some (.slice A7 (cntN i L) c7) := World.cell?_setCell_same' _ _ _ (by rw [zc]; rfl)
      obtain ⟨w8, hw8⟩ : ∃ w8, w7.setCell ⟨AT + 1, nodeN i, none⟩ (.slice A7 (cntN i L) c7) = w8 := ⟨_, rfl⟩
      have HW8 := Lib.hid hw8
      rw [hw8] at hpt8 k78 HK8 zc8
      have HZ8 := Lib.hid zc8
      clear zc8
      clear hw8
      have hp8 := H5.out.1.keep HK8.out (fun y hy hm => by rw [List.mem_singleton] at hm; have := H5.out.2.2.1 y hy; omega)
      have HP8 := Lib.hid (And.intro hp8 hpt8)
      clear hp8 hpt8 k78
      go_wp2_with fail
      rw [HW8.out]
      refine (manyV_any p F L (nodeN i : Int) _ HP8.out.1 (by omega) HG.out.2.2).mono ?_
      rintro e w9 ⟨rfl, k9⟩
      rw [HR.out.2.2.2]
      have hks := kinds_all (L.filter (fun r => r.node == nodeAt i)) (fun r hr => HG.out.2.2 r (List.mem_filter.1 hr).1)
      rw [show (List.filter (fun r => r.node == nodeAt i) L).length = cntN i L from rfl] at hks
      unfold manyA
      generalize manyC 1 (L.filter (fun r => r.node == nodeAt i)) = x1 at hks ⊢
      generalize manyC 2 (L.filter (fun r => r.node == nodeAt i)) = x2 at hks ⊢
      generalize manyC 3 (L.filter (fun r => r.node == nodeAt i)) = x3 at hks ⊢
      have kx := (keepBut.refl [] w9).alloc (.cells #[.int .i64 (x1 : Int), .int .i64 (x2 : Int), .int .i64 (x3 : Int)] 43)
      have rx := rowAt.new w9 43 #[.int .i64 (x1 : Int), .int .i64 (x2 : Int), .int .i64 (x3 : Int)]
      have k9x := k9.then kx (by simp)
      have hpt10 := HP8.out.2.keep k9x (by simp) (by simp)
      have k010 := HK8.out.then k9x (by simp)
      obtain ⟨w10, hw10⟩ : ∃ w10, w9.alloc (.cells #[.int .i64 (x1 : Int), .int .i64 (x2 : Int), .int .i64 (x3 : Int)] 43) = w10 := ⟨_, rfl⟩
      have HW10 := Lib.hid hw10
      have k8x := k9x
      rw [hw10] at rx hpt10 k010 k8x
      clear hw10 kx k9x k9
      have t0 : w10.cell? ⟨w9.heap.size, 0, none⟩ = some (.int .i64 (x1 : Int)) := rx.cell 0
      have t1 : w10.cell? ⟨w9.heap.size, 1, none⟩ = some (.int .i64 (x2 : Int)) := rx.cell 1
      have t2 : w10.cell? ⟨w9.heap.size, 2, none⟩ = some (.int .i64 (x3 : Int)) := rx.cell 2
      have zc10 := (k8x.cell (p := ⟨AT + 1, nodeN i, none⟩) (World.block_lt_of_cell? _ _ HZ8.out) (by simp)).trans HZ8.out
      have H10 := Lib.hid (And.intro hpt10 k010)
      clear hpt10 k010 rx zc zf k8x
      have hsl := sumN_le L i
      have hs60 : i * L.length ≤ 7 * 60 := Nat.mul_le_mul (by omega) hL60
      go_upto_region 15 with fail
      rw [HW10.out]
      have hw1 : IntKind.i64.wrap ((sumN L i : Int) + (cntN i L : Int)) = (sumN L (i + 1) : Int) := by rw [wraps_i64 _ (by omega) (by omega)]; show _ = ((sumN L i + cntN i L : Nat) : Int); omega
      go_upto_region 16 with fail
      have hw2 : IntKind.i64.wrap ((x1 : Int) + (x2 : Int)) = (x1 : Int) + (x2 : Int) := wraps_i64 _ (by omega) (by omega)
      have hw3 : IntKind.i64.wrap ((x1 : Int) + (x2 : Int) + (x3 : Int)) = (cntN i L : Int) := by rw [wraps_i64 _ (by omega) (by omega)]; omega
      have hw4 : IntKind.i64.wrap ((i : Int) + 1) = (i : Int) + 1 := wraps_i64 _ (by omega) (by omega)
      go_quiet (fail)
      have HF := Lib.hid (And.intro (H10.out.1.keep ((keepBut.refl [] w10).drewN nq) (by simp) (by simp)) (H10.out.2.then ((keepBut.refl [] w10).drewN nq) (by simp)))
      clear t0 t1 t2 zc10
      go_wp2_with fail
      go_roundw
      case rel => exact ⟨i + 1, by omega, by go_num, rfl, HF.out.1, HF.out.2⟩
      case measure => simp [intOf]; omega
    · obtain rfl : i = 7 := by omega
      generalize wr = wS at *
      have ratS := hkp.row H5.out.2.2.2.2.1 (by simp)
      have hrS := H5.out.2.1.keep hkp (fun y hy hm => by rw [List.mem_singleton] at hm; have := H5.out.2.2.2.1 y hy; omega)
      have hszS := hkp.size
      have k0S := H5.out.2.2.2.2.2.2.1.then hkp (fun y hy => by rw [List.mem_singleton] at hy; right; have := H5.out.2.2.2.2.2.2.2.1; omega)
      have hI0 : nodes2Rel wS L AT (.int .i64 0) wS := ⟨0, by omega, rfl, ⟨_, ratS, rfl, fun k hk => zeros14 k hk⟩, keepBut.refl _ _⟩
      have HS := Lib.hid (And.intro hrS (And.intro hpt (And.intro k0S hI0)))
      have hATS : AT + 2 < wS.heap.size := by omega
      have hG5 := H5.out.2.2.2.1
      have hwAT := H5.out.2.2.2.2.2.2.2.1
      rw [sumN_all L HG.out.2.1]
      clear hpt hkp ratS hrS k0S hI0 H5 hszS
      go_wp2_with fail
      go_loopw [12, 13, 14] (fun v12 _ _ wx => nodes2Rel wS L AT v12 wx) (fun v12 _ _ _ => L.length - (intOf v12).toNat)
      case atStart => exact HS.out.2.2.2
      case round =>
        obtain ⟨i, hi, rfl, ⟨cs, rat, hcs, hall⟩, hk2⟩ := hrel
        by_cases hlt : i < L.length
        · have hlt' : (i : Int) < (L.length : Int) := by omega
          obtain ⟨x, hx⟩ : ∃ r, L[i]? = some r := ⟨_, List.getElem?_eq_getElem hlt⟩
          obtain ⟨kn, hkn, hnd⟩ := HG.out.2.1 x (List.mem_of_getElem? hx)
          have hfil : (fN kn L)[cntN kn (L.take i)]? = some x := filter_at (fun r : VR => r.node == nodeAt kn) L i x hx (by simpa using hnd)
          have hclt : cntN kn (L.take i) < cntN kn L := (List.getElem?_eq_some_iff.1 hfil).1
          have hptr := HS.out.2.1.keep hk2 (by simp) (fun y hy => .inl (by simpa using hy))
          obtain ⟨ps, hps, hps2, hps3⟩ := id hptr
          obtain ⟨A7, c7, G7, e7, hc7, hr7, hG7⟩ := hps3 kn hkn
          obtain ⟨g7, o7, rfl, hg7l, hg7G, hall7⟩ := id hr7 (fun h => by rw [h] at hfil; simp at hfil)
          obtain ⟨B7, n7, hb7, z0, z1, z2, z3⟩ := hall7 _ _ hfil
          have hrr := HS.out.1.keep hk2 (fun y hy hm => by rw [List.mem_singleton] at hm; have := hG5 y hy; omega)
          obtain ⟨g, o, rfl, hgl, hgG, hallr⟩ := id hrr (by rintro rfl; simp at hlt)
          obtain ⟨A', n', hbb, y0, y1, y2, y3⟩ := hallr i x hx
          have hnx : cntN kn (L.take (i + 1)) = cntN kn (L.take i) + 1 := by rw [List.take_add_one, hx]; show cntN kn (L.take i ++ [x]) = _; rw [cntN_add, if_pos hnd]
          have hnx2 : ∀ k, k ≠ kn → cntN k (L.take (i + 1)) = cntN k (L.take i) := fun k hk => by rw [List.take_add_one, hx]; show cntN k (L.take i ++ [x]) = _; rw [cntN_add, if_neg (fun h => hk (nodeAt_inj (h.symm.trans hnd)))]; rfl
          obtain ⟨s, nd, kd, b⟩ := x
          dsimp only at hnd hb7 z0 z1 z2 z3 hbb y0 y1 y2 y3
          subst hnd
          rw [nodeAt_N] at z1 y1
          have hm14 := nodeN_lt hkn
          have hm14' : (nodeN kn : Int) < 14 := by omega
          have za : wr.cell? ⟨AT, nodeN kn, none⟩ = some (.int .i64 (cntN kn (L.take i) : Int)) := by rw [rat.cell]; exact hall kn hkn
          have fa := rat.free (nodeN kn)
          have zp : wr.cell? ⟨AT + 1, nodeN kn, none⟩ = some (.slice (some ⟨g7, o7, none⟩) (cntN kn L) c7) := by rw [hps.cell]; exact e7
          have hcl := cntN_le kn L
          have HR := Lib.hid (And.intro hptr (And.intro hk2 (And.intro hb7 (And.intro hbb (And.intro rat (And.intro hcs (And.intro hall (And.intro hnx hnx2))))))))
          have hg7A := hG7 g7 hg7G
          have HG7 := Lib.hid hG7
          have hgA := hG5 g hgG
          generalize cntN kn (L.take i) = cc at *
          have hcc' : (cc : Int) < (cntN kn L : Int) := by omega
          have hcc2 : ¬ ((cntN kn L : Int) ≤ (cc : Int)) := by omega
          clear hptr hk2 hb7 hbb rat hcs hall hnx hnx2 hps hps2 hps3 e7 hr7 hG7 hall7 hrr hallr hfil hx
          go_upto_region 22 with fail
          go_quiet (fail)
          have kq := (keepBut.refl [] wr).drewN nq
          obtain ⟨wq, hwq⟩ : ∃ wq, wr.drewN nq = wq := ⟨_, rfl⟩
          have szq : wr.heap.size = wq.heap.size := by rw [← hwq]; rfl
          rw [hwq] at kq ⊢
          have HQ := Lib.hid (And.intro (HR.out.2.2.2.2.1 |> fun r => kq.row r (by simp)) (And.intro (HR.out.2.2.1.keep kq (by simp)) (And.intro (HR.out.2.2.2.1.keep kq (by simp)) (And.intro (HR.out.2.1.then kq (by simp)) (And.intro HR.out.2.2.2.2.2.1 (And.intro HR.out.2.2.2.2.2.2.1 HR.out.2.2.2.2.2.2.2))))))
          have hA2 : AT < wr.heap.size := HR.out.2.2.2.2.1.lt
          have hAP : AT + 1 < wr.heap.size := World.block_lt_of_cell? _ _ zp
          replace za := (kq.cell (p := ⟨AT, nodeN kn, none⟩) hA2 (by simp)).trans za
          replace zp := (kq.cell (p := ⟨AT + 1, nodeN kn, none⟩) hAP (by simp)).trans zp
          replace z0 := (kq.cell (p := ⟨g7, o7 + cc * 4, none⟩) hg7l (by simp)).trans z0
          replace z1 := (kq.cell (p := ⟨g7, o7 + cc * 4 + 1, none⟩) hg7l (by simp)).trans z1
          replace z2 := (kq.cell (p := ⟨g7, o7 + cc * 4 + 2, none⟩) hg7l (by simp)).trans z2
          replace z3 := (kq.cell (p := ⟨g7, o7 + cc * 4 + 3, none⟩) hg7l (by simp)).trans z3
          replace y0 := (kq.cell (p := ⟨g, o + i * 4, none⟩) hgl (by simp)).trans y0
          replace y1 := (kq.cell (p := ⟨g, o + i * 4 + 1, none⟩) hgl (by simp)).trans y1
          replace y2 := (kq.cell (p := ⟨g, o + i * 4 + 2, none⟩) hgl (by simp)).trans y2
          replace y3 := (kq.cell (p := ⟨g, o + i * 4 + 3, none⟩) hgl (by simp)).trans y3
          rw [szq] at hg7l hgl hA2 hAP hg7A
          have fq : wq.frozen? ⟨AT, nodeN kn, none⟩ = false := HQ.out.1.free _
          clear fa HR hwq kq szq
          go_upto_region 24 with fail
          have six : wq.drew.cell? ⟨AT, nodeN kn, none⟩ = some (.int .i64 (cc : Int)) ∧ wq.drew.cell? ⟨AT + 1, nodeN kn, none⟩ = some (.slice (some ⟨g7, o7, none⟩) (cntN kn L) c7) ∧ wq.drew.cell? ⟨g7, o7 + cc * 4, none⟩ = some (.int .i64 s) ∧ wq.drew.cell? ⟨g7, o7 + cc * 4 + 1, none⟩ = some (.int .i64 (nodeN kn : Int)) ∧ wq.drew.cell? ⟨g7, o7 + cc * 4 + 2, none⟩ = some (.int .i64 kd) ∧ wq.drew.cell? ⟨g7, o7 + cc * 4 + 3, none⟩ = some (.slice B7 b.length n7) := ⟨za, zp, z0, z1, z2, z3⟩
          refine wp_region_held_drew (S := fun w' => w'.cell? ⟨AT, nodeN kn, none⟩ = some (.int .i64 (cc : Int)) ∧ w'.cell? ⟨AT + 1, nodeN kn, none⟩ = some (.slice (some ⟨g7, o7, none⟩) (cntN kn L) c7) ∧ w'.cell? ⟨g7, o7 + cc * 4, none⟩ = some (.int .i64 s) ∧ w'.cell? ⟨g7, o7 + cc * 4 + 1, none⟩ = some (.int .i64 (nodeN kn : Int)) ∧ w'.cell? ⟨g7, o7 + cc * 4 + 2, none⟩ = some (.int .i64 kd) ∧ w'.cell? ⟨g7, o7 + cc * 4 + 3, none⟩ = some (.slice B7 b.length n7)) (by kernel_rfl) six (fun _ => ?_)
          have kdr := (keepBut.refl [] wq).drew
          obtain ⟨wd, hwd⟩ : ∃ wd, wq.drew = wd := ⟨_, rfl⟩
          rw [hwd] at six kdr ⊢
          have szd : wd.heap.size = wq.heap.size := by rw [← hwd]; rfl
          clear hwd za zp z0 z1 z2 z3
          refine wpAnyH_take (i := 0) (oi := ⟨_, _, _, _, _, _⟩) (v := ?_) rfl (by kernel_rfl) (by kernel_rfl) (by kernel_rfl) (fun _ _ _ h => h) (Or.inl ⟨by rfl, ?_⟩) six ?_
          rotate_left
          · intro w' hSw; (try dsimp only at hSw); (go_simp; try with_reducible rfl)
          try simp only [Act.put, List.setIfInBounds_toArray, List.set_cons_zero, List.set_cons_succ]
          refine wpAnyH_take (i := 1) (oi := ⟨_, _, _, _, _, _⟩) (v := ?_) rfl (by kernel_rfl) (by kernel_rfl) (by kernel_rfl) (fun _ _ _ h => h) (Or.inl ⟨by rfl, ?_⟩) six ?_
          rotate_left
          · intro w' hSw; (try dsimp only at hSw); (go_simp; try with_reducible rfl)
          try simp only [Act.put, List.setIfInBounds_toArray, List.set_cons_zero, List.set_cons_succ]
          refine wpAnyH_take (i := 2) (oi := ⟨_, _, _, _, _, _⟩) (v := ?_) rfl (by kernel_rfl) (by kernel_rfl) (by kernel_rfl) (fun _ _ _ h => h) (Or.inl ⟨by rfl, ?_⟩) six ?_
          rotate_left
          · intro w' hSw; (try dsimp only at hSw); (go_simp; try with_reducible rfl)
          try simp only [Act.put, List.setIfInBounds_toArray, List.set_cons_zero, List.set_cons_succ]
          refine wpAnyH_take (i := 3) (oi := ⟨_, _, _, _, _, _⟩) (v := ?_) rfl (by kernel_rfl) (by kernel_rfl) (by kernel_rfl) (fun _ _ _ h => h) (Or.inl ⟨by rfl, ?_⟩) six ?_
          rotate_left
          · intro w' hSw; (try dsimp only at hSw); (go_simp; try with_reducible rfl)
          try simp only [Act.put, List.setIfInBounds_toArray, List.set_cons_zero, List.set_cons_succ]
          refine wpAnyH_take (i := 4) (oi := ⟨_, _, _, _, _, _⟩) (v := ?_) rfl (by kernel_rfl) (by kernel_rfl) (by kernel_rfl) (fun _ _ _ h => h) (Or.inl ⟨by rfl, ?_⟩) six ?_
          rotate_left
          · intro w' hSw; (try dsimp only at hSw); (go_simp; try with_reducible rfl)
          try simp only [Act.put, List.setIfInBounds_toArray, List.set_cons_zero, List.set_cons_succ]
          refine wpAnyH_take (i := 5) (oi := ⟨_, _, _, _, _, _⟩) (v := ?_) rfl (by kernel_rfl) (by kernel_rfl) (by kernel_rfl) (fun _ _ _ h => h) (Or.inl ⟨by rfl, ?_⟩) six ?_
          rotate_left
          · intro w' hSw; (try dsimp only at hSw); (go_simp; try with_reducible rfl)
          try simp only [Act.put, List.setIfInBounds_toArray, List.set_cons_zero, List.set_cons_succ]
          refine wpAnyH_take (i := 6) (oi := ⟨_, _, _, _, _, _⟩) (v := ?_) rfl (by kernel_rfl) (by kernel_rfl) (by kernel_rfl) (fun _ _ _ h => h) (Or.inl ⟨by rfl, ?_⟩) six ?_
          rotate_left
          · intro w' hSw; (try dsimp only at hSw); (go_simp; try with_reducible rfl)
          try simp only [Act.put, List.setIfInBounds_toArray, List.set_cons_zero, List.set_cons_succ]
          refine wpAnyH_take (i := 7) (oi := ⟨_, _, _, _, _, _⟩) (v := ?_) rfl (by kernel_rfl) (by kernel_rfl) (by kernel_rfl) (fun _ _ _ h => h) (Or.inl ⟨by rfl, ?_⟩) six ?_
          rotate_left
          · intro w' hSw; (try dsimp only at hSw); (go_simp; try with_reducible rfl)
          try simp only [Act.put, List.setIfInBounds_toArray, List.set_cons_zero, List.set_cons_succ]
          refine wpAnyH_ready (rs := [8]) (by kernel_rfl) (by simp) ?_
          refine AllReadyH.cons (o := ⟨_, _, _, _, _, _⟩) rfl (fun K hK => ?_) AllReadyH.nil
          go_simp
          have ke := (keepBut.refl [] wd).alloc (.cells #[.int .i64 0, .int .i64 0, .int .i64 0, .slice none 0 0] 46)
          have six2 := six_keep ke (by rw [szd]; exact hA2) (by rw [szd]; exact hAP) (by rw [szd]; exact hg7l) six
          refine hK.out _ _ six2 (fun _ => ?_)
          clear hK K
          try simp only [Act.put, List.setIfInBounds_toArray, List.set_cons_zero, List.set_cons_succ]
          refine wpAnyH_ready (rs := [9]) (by kernel_rfl) (by simp) ?_
          refine AllReadyH.cons (o := ⟨_, _, _, _, _, _⟩) rfl (fun K hK => ?_) AllReadyH.nil
          go_simp
          have row4 := rowAt.new wd 46 #[.int .i64 s, .int .i64 (nodeN kn : Int), .int .i64 kd, .slice B7 b.length n7]
          have kf := (keepBut.refl [] wd).alloc (.cells #[.int .i64 s, .int .i64 (nodeN kn : Int), .int .i64 kd, .slice B7 b.length n7] 46)
          have six3 := six_keep kf (by rw [szd]; exact hA2) (by rw [szd]; exact hAP) (by rw [szd]; exact hg7l) six
          refine hK.out _ _ six3 (fun _ => ?_)
          clear hK K
          try simp only [Act.put, List.setIfInBounds_toArray, List.set_cons_zero, List.set_cons_succ]
          refine wpAnyH_done (by kernel_rfl) ?_ _
          have kqf := kdr.then kf (by simp)
          obtain ⟨we, hwe⟩ : ∃ we, wd.alloc (.cells #[.int .i64 s, .int .i64 (nodeN kn : Int), .int .i64 kd, .slice B7 b.length n7] 46) = we := ⟨_, rfl⟩
          rw [szd] at row4
          rw [hwe] at row4 kqf six3 ⊢
          clear hwe kf six2 six szd kdr ke
          have raE := kqf.row HQ.out.1 (by simp)
          have zaE : we.cell? ⟨AT, nodeN kn, none⟩ = some (.int .i64 (cc : Int)) := six3.1
          have faE := raE.free (nodeN kn)
          have hwc : IntKind.i64.wrap ((cc : Int) + 1) = (cc : Int) + 1 := wraps_i64 _ (by omega) (by omega)
          clear six3 fq
          go_upto_region 25 with fail
          go_upto_region 26 with fail
          have rf := raE.set (nodeN kn) (.int .i64 ((cc : Int) + 1))
          have kf := (keepBut.refl [AT] we).setCell ⟨AT, nodeN kn, none⟩ (.int .i64 ((cc : Int) + 1)) (by simp)
          obtain ⟨wf, hwf⟩ : ∃ wf, we.setCell ⟨AT, nodeN kn, none⟩ (.int .i64 ((cc : Int) + 1)) = wf := ⟨_, rfl⟩
          rw [hwf] at rf kf ⊢
          clear hwf
          have hXA : AT < wq.heap.size := hA2
          have row5 := kf.row row4 (by simp; omega)
          have kqe := (kqf.more (T := [AT]) (by simp)).then kf (fun y hy => .inl hy)
          have x0 : wf.cell? ⟨wq.heap.size, 0, none⟩ = some (.int .i64 s) := row5.cell 0
          have x1 : wf.cell? ⟨wq.heap.size, 1, none⟩ = some (.int .i64 (nodeN kn : Int)) := row5.cell 1
          have x2 : wf.cell? ⟨wq.heap.size, 2, none⟩ = some (.int .i64 kd) := row5.cell 2
          have x3 : wf.cell? ⟨wq.heap.size, 3, none⟩ = some (.slice B7 b.length n7) := row5.cell 3
          have ey := fun x => kqe.cell (p := ⟨g, x, none⟩) hgl (by simp; omega)
          rw [← ey] at y0 y1 y2 y3
          obtain ⟨B8, m8, g8, eB, _, _, _, sB8, hB8⟩ := HQ.out.2.1
          obtain ⟨A8, m9, g9, eA, _, _, _, sA9, hA9⟩ := HQ.out.2.2.1
          injection eB with eB1 _ _
          injection eA with eA1 _ _
          subst eB1 eA1
          have sBk : ∀ n, seen (wf.drewN n) B7 g8 b := fun n => (sB8.keep kqe (fun hb hm => by have h1 := HG7.out g8 (hB8 hb); rw [List.mem_singleton] at hm; exact h1.1 hm)).keep ((keepBut.refl [] wf).drewN n) (by simp)
          have sAk : ∀ n, seen (wf.drewN n) A' g9 b := fun n => (sA9.keep kqe (fun hb hm => by have h1 := hG5 g9 (hA9 hb); rw [List.mem_singleton] at hm; omega)).keep ((keepBut.refl [] wf).drewN n) (by simp)
          have HE := Lib.hid (And.intro sBk sAk)
          have HW := Lib.hid (And.intro rf (HQ.out.2.2.2.1.then kqe (fun y hy => .inl hy)))
          clear rf kf row5 kqe ey sBk sAk sB8 sA9 row4 kqf raE zaE faE
          go_quiet ((go_at_call 7; exact Calls.quiet_of_same ((eqBytes_any B7 A' g8 g9 m8 m9 b b _ (HE.out.1 _) (HE.out.2 _)).mono (fun _ _ ⟨a, b⟩ => ⟨a, b.symm⟩))))
          have hrelN : nodes2Rel wS L AT (.int .i64 ((i + 1 : Nat) : Int)) (wf.drewN nq) := by
            have kn1 := (keepBut.refl [] wf).drewN nq
            refine ⟨i + 1, by omega, rfl, ⟨_, kn1.row HW.out.1 (by simp), by simpa using HQ.out.2.2.2.2.1, fun k hk => ?_⟩, HW.out.2.then kn1 (by simp)⟩
            by_cases e : k = kn
            · subst e
              rw [HQ.out.2.2.2.2.2.2.1, Array.getElem?_setIfInBounds_self_of_lt (by rw [HQ.out.2.2.2.2.1]; exact hm14)]
              rfl
            · rw [HQ.out.2.2.2.2.2.2.2 k e, Array.getElem?_setIfInBounds_ne (fun h => e (nodeN_inj h.symm))]
              exact HQ.out.2.2.2.2.2.1 k hk
          have HN := Lib.hid hrelN
          clear hrelN HQ HW HE x0 x1 x2 x3 y0 y1 y2 y3
          go_wp2_with fail
          go_roundw
          case rel => exact HN.out
          case measure => simp [intOf]; omega
        · obtain rfl : i = L.length := by omega
          have HK := Lib.hid (HS.out.2.2.1.then hk2 (fun y hy => .inr (by rw [List.mem_singleton] at hy; omega)))
          clear hk2 rat hcs hall
          go_wp2_with fail
          refine (worksV_any _).mono ?_
          rintro e w9 ⟨rfl, k9⟩
          have HK9 := Lib.hid (HK.out.then k9 (by simp))
          clear k9
          go_wp2_with fail
          go_ret
          exact ⟨rfl, HK9.out⟩
theorem viewNodes_law (A : Option Addr) (n c : Nat) (w : World) (h : seedls w A n) (hnc : n ≤ c) (hc : c ≤ maxLen) :
    Calls Try.prog 4 #[.slice A n c] w (yesPost w) := by
  obtain ⟨l, rfl, hl⟩ := h
  exact viewNodes_walk A l c w hl hnc hc
end Go.Proofs.Ytjipokilidhnoaa
