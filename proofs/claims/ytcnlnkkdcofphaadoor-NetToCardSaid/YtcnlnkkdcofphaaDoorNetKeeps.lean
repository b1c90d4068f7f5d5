/-
  NETKEEPS: what is in a net was put, or is there twice; the law's walk.
-/
import Derived.Test.YtcnlnkkdcofphaaDoorNet11
import Derived.Test.YtcnlnkkdcofphaaDoorOpen
import Derived.Deep.RegionLaw
namespace Go.Proofs.YtcnlnkkdcofphaaDoor
open Go.RowKit
set_option linter.unusedVariables false
set_option maxRecDepth 100000
set_option linter.unusedSimpArgs false

theorem bd_k {a : Int} (h : (Lit.int .i64 a).wf = true) : -9223372036854775808 ≤ a ∧ a ≤ 9223372036854775807 := by simpa [Lit.wf, IntKind.min, IntKind.max, IntKind.signed, IntKind.bits] using h
/-- a packet without lists -/
structure PK.bare (p : PK) : Prop where
  e : p.req.env = []
  a : p.ans.env = []
  c : p.conf.chain = []
  v : p.votes = []
  b : p.bytes = []
theorem PK.bare.fits {p : PK} (h : p.bare) : p.fits := ⟨by simp [h.e], by simp [h.a], by simp [h.c], by simp [h.v], by simp [h.v], by simp [h.b]⟩
theorem plP_bare (a b d n : Int) : (plP a b d n).bare := ⟨rfl, rfl, rfl, rfl, rfl⟩
theorem itemV.bare {w : World} {F : List Nat} {t : PK × List Value} (h : itemV w F t) (hb : t.1.bare) : itemV w [] t := by
  obtain ⟨ev, av, cv, vv, bw, e, h⟩ := h
  have hbytes : ∀ {v : Value} {l : List UInt8}, bytesV w F v l → l = [] → bytesV w [] v l := fun h hl => by
    obtain ⟨A, c, g, h1, h2, h3, h4, _⟩ := h
    exact ⟨A, c, g, h1, h2, h3, h4, fun hn => absurd hl hn⟩
  refine ⟨ev, av, cv, vv, bw, e, h.rn, h.an, hbytes h.re hb.e, hbytes h.ae hb.a, ?_, ?_, hbytes h.bs hb.b⟩
  · obtain ⟨A, c, g, h1, h2, h3, h4, _⟩ := h.cc
    exact ⟨A, c, g, h1, h2, h3, h4, fun hn => absurd hb.c hn⟩
  · obtain ⟨A, c, g, U, h1, h2, h3, h4, h5, h6, _⟩ := h.vs
    have hU : U = [] := by rw [hb.v] at h4; simpa using h4
    exact ⟨A, c, g, U, h1, h2, h3, h4, h5, fun t ht => by rw [hU] at ht; simp at ht, fun hn => absurd hb.v hn⟩
theorem nOn.bare {w0 w : World} {p : Nat} {v : Value} {T : List (PK × List Value)} {F : List Nat} {c : Nat} (h : nOn w0 w p v T F c) (hb : ∀ t ∈ T, t.1.bare) : nOn w0 w p v T [] c :=
  ⟨⟨h.net.row, h.net.own, fun t ht => (h.net.its t ht).bare (hb t ht), by simp⟩, h.kept, h.pn, h.vn⟩
def numsV (T : List (PK × List Value)) : List Value := T.map fun t => .int .i64 t.1.num
def keepsR (w : World) (N p : Nat) (v4 v5 v6 : Value) (wx : World) : Prop :=
  ∃ (i c : Nat) (v : Value) (T : List (PK × List Value)), v6 = .int .i64 (i : Int) ∧ v5 = .int .i64 (c : Int) ∧ i ≤ N ∧ i ≤ 120 ∧ T.length ≤ i ∧ c ≤ i ∧ nOn w wx p v T [] c ∧ owns wx 3 1 v4 T.length (numsV T) ∧ (∀ x ∈ homes v4, w.heap.size ≤ x) ∧ ∀ t ∈ T, t.1.bare
/-- how it stands behind a call -/
def keepsM (w : World) (i p : Nat) (v4 v5 : Value) (wx : World) : Prop :=
  ∃ (c : Nat) (v : Value) (T : List (PK × List Value)), v5 = .int .i64 (c : Int) ∧ T.length ≤ i + 1 ∧ c ≤ i + 1 ∧ nOn w wx p v T [] c ∧ owns wx 3 1 v4 T.length (numsV T) ∧ (∀ x ∈ homes v4, w.heap.size ≤ x) ∧ ∀ t ∈ T, t.1.bare
/-- a list of numbers of its own lies apart from a net -/
theorem keepFar {w : World} {p n c : Nat} {v u : Value} {T : List (PK × List Value)} {F : List Nat} {xs : List Value} (h : isN w p v T F c) (ho : owns w 3 1 u n xs) : ∀ x ∈ homes u, x ∈ p :: homes v → False := by
  intro x hx hm
  rcases ho.2 with ⟨rfl, _⟩ | ⟨g, cap, cur, rfl, hr, _⟩
  · simp [homes_none] at hx
  · simp only [homes_some, List.mem_singleton] at hx
    subst hx
    rcases List.mem_cons.1 hm with rfl | hm
    · exact (hr.apart h.row (by decide)) rfl
    · rcases h.own.2 with ⟨rfl, _⟩ | ⟨g2, off, cap2, cur2, rfl, hr2, _⟩
      · simp [homes_none] at hm
      · simp only [homes_some, List.mem_singleton] at hm
        exact (hr.apart hr2 (by decide)) hm
theorem nOn.own {w0 w w' : World} {p n c : Nat} {v u : Value} {T : List (PK × List Value)} {xs : List Value} (h : nOn w0 w p v T [] c) (ho : owns w 3 1 u n xs) (hu : ∀ x ∈ homes u, w0.heap.size ≤ x) (k : keepBut (homes u) w w') : nOn w0 w' p v T [] c :=
  ⟨h.net.keep k (fun hm => keepFar h.net ho p hm (by simp)) (fun x hx hm => keepFar h.net ho x hm (by simp [hx])) (by simp), h.kept.up k hu, h.pn, h.vn⟩
theorem owns.over {w w' : World} {e : TypeId} {sz n : Nat} {v : Value} {xs : List Value} (h : owns w e sz v n xs) (k : keepBut [] w w') : owns w' e sz v n xs := h.keep k (by simp)
theorem keepSame {w wr w' : World} {p i k : Nat} {v4 v : Value} {T : List (PK × List Value)} (hT : T.length ≤ i) (hk : k ≤ i) (n : nOn w wr p v T [] k) (o : owns wr 3 1 v4 T.length (numsV T)) (hh : ∀ x ∈ homes v4, w.heap.size ≤ x) (hb : ∀ t ∈ T, t.1.bare) (k' : keepBut [] wr w') : keepsM w i p v4 (.int .i64 (k : Int)) w' :=
  ⟨k, v, T, rfl, by omega, by omega, n.over k', o.over k', hh, hb⟩
theorem keepLess {w wb w9 : World} {p i k a c7 : Nat} {A7 : Option Addr} {vb : Value} {T : List (PK × List Value)} {F : List Nat} (ha : a < T.length) (hT : T.length ≤ i) (hk : k ≤ i) (nb : nOn w wb p vb (T.eraseIdx a) F k) (hb : ∀ t ∈ T, t.1.bare) (k9 : keepBut [] wb w9)
    (o : owns w9 3 1 (.slice A7 (0 + a + (T.length - (a + 1))) c7) (0 + a + (T.length - (a + 1))) ([] ++ (numsV T).take a ++ (numsV T).drop (a + 1))) (hu : ∀ x ∈ homes (.slice A7 (0 + a + (T.length - (a + 1))) c7), w.heap.size ≤ x) : keepsM w i p (.slice A7 (a + (T.length - (a + 1))) c7) (.int .i64 (k : Int)) w9 := by
  have hb' : ∀ t ∈ T.eraseIdx a, t.1.bare := fun t ht => hb t (List.mem_of_mem_eraseIdx ht)
  rw [Nat.zero_add] at o hu
  have hl : (T.eraseIdx a).length = a + (T.length - (a + 1)) := by rw [List.length_eraseIdx, if_pos ha]; omega
  have hn : numsV (T.eraseIdx a) = [] ++ (numsV T).take a ++ (numsV T).drop (a + 1) := by simp [numsV, List.eraseIdx_eq_take_drop_succ, List.map_take, List.map_drop]
  refine ⟨k, vb, T.eraseIdx a, rfl, by omega, by omega, (nb.bare hb').over k9, by rw [hl, hn]; exact o, hu, hb'⟩
theorem item_num {w : World} {F : List Nat} {t : PK × List Value} (h : itemV w F t) : t.2[3]? = some (.int .i64 t.1.num) := by
  obtain ⟨ev, av, cv, vv, bw, e1, e2⟩ := h
  rw [e1]; rfl
theorem numsV_one (T : List (PK × List Value)) : ∀ u ∈ numsV T, u.oneCell' = true := fun u hu => by
  simp only [numsV, List.mem_map] at hu
  obtain ⟨t, _, rfl⟩ := hu
  rfl
theorem numsV_len (T : List (PK × List Value)) : (numsV T).length = T.length := by simp [numsV]
theorem own_cell {w : World} {A : Option Addr} {c : Nat} {T : List (PK × List Value)} (h : owns w 3 1 (.slice A T.length c) T.length (numsV T)) (a : Nat) (t : PK × List Value) (ht : T[a]? = some t) : ∃ g, A = some ⟨g, 0, none⟩ ∧ T.length ≤ c ∧ w.cell? ⟨g, a, none⟩ = some (.int .i64 t.1.num) := by
  have ha : a < T.length := (List.getElem?_eq_some_iff.1 ht).1
  rcases h.2 with ⟨_, e⟩ | ⟨g, cap, cur, e, hr, h1, h2, h3, h4⟩
  · omega
  · injection e with e1 e2 e3
    refine ⟨g, e1, by omega, ?_⟩
    have : (numsV T)[a]? = some (.int .i64 t.1.num) := by simp [numsV, ht]
    rw [← h4, List.getElem?_take, if_pos (by omega)] at this
    rw [hr.cell]
    simpa using this
theorem own_cut {w : World} {g c : Nat} {T : List (PK × List Value)} (h : owns w 3 1 (.slice (some ⟨g, 0, none⟩) T.length c) T.length (numsV T)) (a : Nat) (ha : a < T.length) :
    reads w (some ⟨g, 0, none⟩) g a 1 ((numsV T).take a) ∧ reads w (some (if c = a + 1 then ⟨g, 0, none⟩ else ⟨g, 0 + (a + 1) * 1, none⟩)) g (T.length - (a + 1)) 1 ((numsV T).drop (a + 1)) := by
  rcases h.2 with ⟨e, _⟩ | ⟨g2, cap, cur, e, hr, h1, h2, h3, h4⟩
  · cases e
  injection e with e1 e2 e3
  injection e1 with e1
  injection e1 with e1
  subst e1 e3
  have hat : ∀ j u, (numsV T)[j]? = some u → w.cell? ⟨g, j, none⟩ = some u := fun j u hu => by
    rw [← h4, List.getElem?_take] at hu
    split at hu
    · rw [hr.cell]; simpa using hu
    · cases hu
  have hl := numsV_len T
  refine ⟨⟨by rw [List.length_take, hl]; omega, fun _ => ⟨0, rfl, hr.lt, fun j u hu => ?_⟩⟩, ⟨by rw [List.length_drop, hl]; omega, fun hn => ?_⟩⟩
  · rw [Nat.zero_add]
    rw [List.getElem?_take] at hu
    split at hu
    · exact hat j u hu
    · cases hu
  · rw [if_neg (by omega)]
    refine ⟨0 + (a + 1) * 1, rfl, hr.lt, fun j u hu => ?_⟩
    rw [List.getElem?_drop] at hu
    rw [show 0 + (a + 1) * 1 + j = a + 1 + j by omega]
    exact hat _ u hu
theorem owns_zero (w : World) : owns (w.alloc (.cells #[] 3)) 3 1 (.slice (some ⟨w.heap.size, 0, none⟩) 0 0) 0 [] :=
  ⟨by simp, .inr ⟨_, 0, #[], rfl, rowAt.new w _ _, Nat.le_refl _, by simp [maxLen], by simp, by simp⟩⟩
theorem step_build_zero {P : Program} (w : World) {ops : Array Oper} {o : Oper} {a : Act} {K : Act → World → Prop} {Q : Exit → Act → World → Prop} {E : Prop} (hgd : o.guard = none) (t : TypeId) (ho : o.op = .buildSlice t 0 #[])
    (e : TypeId) (ht : P.underlying t = some (.slice e)) (i : TypeInfo) (hi : P.info? e = some i) (hs : i.size = 1)
    (h : K (a.put o.dst (.slice (some ⟨w.heap.size, 0, none⟩) 0 0)) (w.alloc (.cells #[] e))) : if Region.wanted o (yielded ops a.tmps) = true then Oper.wp P o a w K Q else E := by
  rw [if_pos (by simp [Region.wanted, hgd])]
  unfold Oper.wp execOp
  simp only [ho]
  simp [Instr.buildSlice, run_underlying ht, sizeOf, typeInfo, hi, hs, newRow, Instr.fill, go_sem]
  exact h
theorem kNew {a b : World} {o : Obj} (k : keepBut (homes (.slice (some ⟨a.drew.heap.size, 0, none⟩) 0 0)) (a.drew.alloc o) b) : keepBut [] a b :=
  ((keepBut.refl [] a).drew.alloc o).then k (fun x hx => .inr (by simp only [homes_some, List.mem_singleton] at hx; subst hx; exact Nat.le_refl _))
theorem kNew2 {a b c : World} {o : Obj} {v : Value} (k : keepBut [] a b) (k' : keepBut (homes v) b c) (h : ∀ x ∈ homes v, x ∈ homes (.slice (some ⟨a.drew.heap.size, 0, none⟩) 0 0) ∨ (a.drew.alloc o).heap.size ≤ x) : keepBut [] a c :=
  k.then k' (fun x hx => .inr (by
    rcases h x hx with h | h
    · simp only [homes_some, List.mem_singleton] at h; subst h; exact Nat.le_refl _
    · rw [World.size_alloc] at h; exact Nat.le_trans (Nat.le_succ _) h))
theorem hNew {a b : World} {o : Obj} {v u : Value} (h : ∀ x ∈ homes v, x ∈ homes (.slice (some ⟨a.drew.heap.size, 0, none⟩) 0 0) ∨ (a.drew.alloc o).heap.size ≤ x) (k : keepBut [] a b) (h' : ∀ x ∈ homes u, x ∈ homes v ∨ b.heap.size ≤ x) : ∀ x ∈ homes u, a.heap.size ≤ x := fun x hx => by
  rcases h' x hx with h1 | h1
  · rcases h x h1 with h2 | h2
    · simp only [homes_some, List.mem_singleton] at h2; subst h2; exact Nat.le_refl _
    · rw [World.size_alloc] at h2; exact Nat.le_trans (Nat.le_succ _) h2
  · exact Nat.le_trans k.size h1
theorem keepMore {w wb w5 : World} {p i k : Nat} {v4 v5 vb : Value} {T : List (PK × List Value)} {F : List Nat} {q : PK} {X : List Value} {o : Obj} (hT : T.length ≤ i) (hk : k ≤ i) (hb : ∀ t ∈ T, t.1.bare) (hq : q.bare) (hh : ∀ x ∈ homes v4, w.heap.size ≤ x)
    (nb : nOn w wb p vb (T ++ [(q, X)]) F (k + 1)) (o4 : owns wb 3 1 v4 T.length (numsV T)) (o5 : owns w5 3 1 v5 (T.length + 1) (numsV T ++ [.int .i64 q.num])) (k5 : keepBut (homes v4) (wb.alloc o) w5) (h5 : ∀ x ∈ homes v5, x ∈ homes v4 ∨ (wb.alloc o).heap.size ≤ x) :
    keepsM w i p v5 (.int .i64 ((k : Int) + 1)) w5 := by
  have hb' : ∀ t ∈ T ++ [(q, X)], t.1.bare := fun t ht => by
    rcases List.mem_append.1 ht with ht | ht
    · exact hb t ht
    · simp only [List.mem_singleton] at ht; subst ht; exact hq
  have n1 := (nb.bare hb').over ((keepBut.refl [] wb).alloc o)
  have n2 := n1.own (o4.alloc o) hh k5
  refine ⟨k + 1, vb, T ++ [(q, X)], by push_cast; rfl, by simp; omega, by omega, n2, by simpa [numsV] using o5, fun x hx => ?_, hb'⟩
  rcases h5 x hx with h | h
  · exact hh x h
  · exact Nat.le_trans n1.kept.size h
set_option maxHeartbeats 16000000 in
theorem netKeeps_law (A : Option Addr) (g n c : Nat) (xs : List Int) (w : World) (rd : reads w A g n 1 (cellsK .i64 xs)) (hn : n ≤ c) (hc : c ≤ maxLen) (wf : ∀ x ∈ xs, (Lit.int .i64 x).wf = true) (hfl : fieldsAt w) :
    Calls Tryd.prog 6 #[.slice A n c] w fun e w' => e = .returned (.bool true) ∧ keepBut [] w w' := by
  have hxl : xs.length = n := by have := rd.1; simp [cellsK] at this; omega
  unfold maxLen at hc
  have HX := Lib.hid (And.intro rd (And.intro wf hxl))
  have HFL := Lib.hid hfl
  have HW := Lib.hid (works_any w hfl)
  clear rd wf hxl hfl
  go_enter Tryd.func6, Tryd.ntmps6
  go_upto_region 3 with (go_at_call 19; (with_reducible refine HW.out.mono ?_); rintro e w1 ⟨rfl, k1⟩; have K1 := Lib.hid k1; clear k1)
  go_upto_region 6 with (go_at_call 8; refine (newN_any _).mono ?_; rintro e w2 ⟨p, rfl, h2, k2, l2⟩; have N2 := Lib.hid (show nOn w w2 p (.slice none 0 0) [] [] 0 from ⟨h2, K1.out.then k2 (by simp), Nat.le_trans K1.out.size l2, by simp [homes_none]⟩); clear h2 k2 l2)
  clear HW K1
  go_wp2_with fail
  go_loopw [4, 5, 6] (fun v4 v5 v6 wx => keepsR w n p v4 v5 v6 wx) (fun _ _ v6 _ => n - (intOf v6).toNat)
  case atStart => exact ⟨0, 0, _, [], rfl, rfl, Nat.zero_le _, by omega, Nat.le_refl _, Nat.le_refl _, N2.out, owns.nil _ _ _, by simp [homes_none], by simp⟩
  case round =>
    clear N2
    obtain ⟨i, k, v, T, rfl, rfl, hiN, hi120, hTi, hki, hN, hO, hH, hfit⟩ := hrel
    by_cases hlt : i < n ∧ i < 120
    · obtain ⟨hi1, hi2⟩ := hlt
      obtain ⟨o, rfl, hgl, hcell⟩ := HX.out.1.2 (by omega)
      obtain ⟨x, hx⟩ : ∃ x, xs[i]? = some x := ⟨_, List.getElem?_eq_getElem (by rw [HX.out.2.2]; exact hi1)⟩
      have cx := (hN.kept.cell (p := ⟨g, o + i, none⟩) hgl (by simp)).trans (hcell i (.int .i64 x) (by simp [cellsK, hx]))
      have hxb := bd_k (HX.out.2.1 x (List.mem_of_getElem? hx))
      have hi1' : (i : Int) < (n : Int) := by omega
      have hi2' : (i : Int) < 120 := by omega
      obtain ⟨A4, c4, rfl, hc4, hm4, _, hr4⟩ := hO.form
      have HS := Lib.hid (And.intro hN (And.intro hO (And.intro hH hfit)))
      have HI := Lib.hid (And.intro hTi (And.intro hki hr4))
      unfold maxLen at hm4
      clear hx hgl hcell hN hO hH hfit hTi hki hr4
      go_upto_region 10 with (go_at_call 13; refine (bring_any x 1073741824 hxb.1 hxb.2 (by omega) (by omega) _).mono ?_; rintro e w' ⟨rfl, rfl⟩)
      obtain ⟨y, hy⟩ : ∃ y : Nat, x % 1073741824 = (y : Int) := ⟨(x % 1073741824).toNat, by have := Int.emod_nonneg x (show (1073741824 : Int) ≠ 0 by omega); omega⟩
      have hyb : y < 1073741824 := by have := Int.emod_lt_of_pos x (show (0 : Int) < 1073741824 by omega); omega
      rw [hy]
      clear hy cx hxb
      have hwl : IntKind.i64.wrap ((T.length : Int) + 1) = (T.length : Int) + 1 := by rw [IntKind.wrap_i64]; have := HI.out.1; omega
      have hne : ¬ ((T.length : Int) + 1 = 0) := by omega
      go_upto_region 12 with fail
      have ha : (y : Int) / 8 % ((T.length : Int) + 1) = ((y / 8 % (T.length + 1) : Nat) : Int) := by push_cast; rfl
      have hal : y / 8 % (T.length + 1) < T.length + 1 := Nat.mod_lt _ (by omega)
      rw [ha]
      clear ha
      generalize y / 8 % (T.length + 1) = a at hal ⊢
      clear hwl hne
      have hwi : IntKind.i64.wrap ((i : Int) + 1) = (i : Int) + 1 := by rw [IntKind.wrap_i64]; omega
      have hwk : IntKind.i64.wrap ((k : Int) + 1) = (k : Int) + 1 := by rw [IntKind.wrap_i64]; have := HI.out.2.1; omega
      obtain ⟨i0, hi0, hz0, hz1, hz2⟩ := info_parts infoIntc
      have HZ0 := Lib.hid (And.intro hi0 (And.intro hz0 (And.intro hz1 hz2)))
      clear hi0 hz0 hz1 hz2
      have ha0 : (0 : Int) ≤ (a : Int) := by omega
      go_upto_block 2 with fail
      obtain ⟨r, hr8⟩ : ∃ r : Int, (y : Int) % 8 = r := ⟨_, rfl⟩
      have hr0 : 0 ≤ r := by have := Int.emod_nonneg (y : Int) (show (8 : Int) ≠ 0 by omega); omega
      have hrl : r < 8 := by have := Int.emod_lt_of_pos (y : Int) (show (0 : Int) < 8 by omega); omega
      rw [hr8]
      clear hr8
      obtain ⟨th, hth⟩ : ∃ th, decide ((a : Int) < (T.length : Int)) = th := ⟨_, rfl⟩
      rw [hth]
      have HTH := Lib.hid (show (th = true ∧ a < T.length) ∨ (th = false ∧ a = T.length) by
        rw [← hth]
        by_cases h : a < T.length
        · exact .inl ⟨by simpa using h, h⟩
        · exact .inr ⟨by simpa using h, by omega⟩)
      clear hth
      go_cut [4, 5, 10, 11, 12, 13] from 47 to 156 (fun v4 v5 _ _ _ _ wx => keepsM w i p v4 v5 wx)
      case first =>
        have hr : (r = 0 ∨ r = 1 ∨ r = 2 ∨ r = 3) ∨ r = 4 ∨ r = 5 ∨ r = 6 ∨ r = 7 := by omega
        obtain ⟨Z, hZl, hZ, hZb, hZi⟩ := zeroP
        have HZP := Lib.hid (And.intro hZ hZl)
        clear hZl hZ hZb hZi
        rcases hr with hr | rfl | rfl | rfl | rfl
        · have PA := Lib.hid (ask_any 0 (i : Int) (by omega) (by omega))
          have NI := Lib.hid (show nodeP (10 + (i : Int) % 4) = true ∧ i64P (10 + (i : Int) % 4) ∧ i64P 0 ∧ (i : Int) ≤ 9007199254740991 ∧ T.length < 2000 ∧ k < 1000000 from ⟨by
            have h1 : 0 ≤ (i : Int) % 4 := Int.emod_nonneg _ (by omega)
            have h2 : (i : Int) % 4 < 4 := Int.emod_lt_of_pos _ (by omega)
            unfold nodeP
            rw [inP_yes (n := 10 + (i : Int) % 4) (lo := 10) (hi := 13) ⟨by omega, by omega⟩]
            simp, by unfold i64P; omega, by unfold i64P; omega, by omega, by have := HI.out.1; omega, by have := HI.out.2.1; omega⟩)
          rcases hr with rfl | rfl | rfl | rfl
          all_goals
            go_wp2_with (first
              | (go_at_call 26; (with_reducible refine (PA.out _).mono ?_); rintro e wa ⟨rfl, ka⟩; have PP := Lib.hid (put_on (HS.out.1.over ka) HFL.out 8 (10 + (i : Int) % 4) 0 (i : Int) (askX 0 i) (fun w => plP_item 8 (10 + (i : Int) % 4) 0 i w) NI.out.2.2.2.2.1 NI.out.2.2.2.2.2 NI.out.2.1 NI.out.2.2.1 (alive_ok _ 0 i NI.out.1 (by decide) (by omega) NI.out.2.2.2.1)); have KA := Lib.hid ka; clear ka)
              | (go_at_call 25; (with_reducible refine PP.out.mono ?_); rintro e wb ⟨vb, Xb, Fb, rfl, nb, kb⟩; have NB := Lib.hid (And.intro nb (And.intro kb ((HS.out.2.1.over KA.out).keep kb (fun x hx hm => keepFar HS.out.1.net HS.out.2.1 x hx hm)))); clear nb kb)
              | (at_builtin; refine wp_append _ rfl _ _ 35 rfl 3 i0 (.int .i64 0) 1 8 Tryd.underlying35 HZ0.out.1 HZ0.out.2.1 HZ0.out.2.2.1 HZ0.out.2.2.2 rfl (by decide) (.slice A4 T.length c4) T.length _ rfl (NB.out.2.2.alloc _) (some ⟨wb.heap.size, 0, none⟩) wb.heap.size 1 1 [.int .i64 (i : Int)] (by simp [Act.eval]) (reads_one wb 3 (.int .i64 (i : Int))) (by intro u hu; simp at hu; subst hu; rfl) (by have := HI.out.1; omega) (by have := HI.out.1; unfold maxLen; omega) ?_; intro A5 c5 w5 o5 k5 h5; have O5 := Lib.hid (And.intro o5 (And.intro k5 h5)); clear o5 k5 h5))
          all_goals
            go_meet
            exact keepMore HI.out.1 HI.out.2.1 HS.out.2.2.2 (plP_bare 8 (10 + (i : Int) % 4) 0 i) HS.out.2.2.1 NB.out.1 NB.out.2.2 O5.out.1 O5.out.2.1 O5.out.2.2
        -- cases 4 to 7
        · rcases HTH.out with ⟨rfl, hal⟩ | ⟨rfl, rfl⟩
          · skip
            obtain ⟨t, ht⟩ : ∃ t, T[a]? = some t := ⟨T[a], List.getElem?_eq_getElem hal⟩
            have htm := List.mem_of_getElem? ht
            have htl : t.2.length = 87 := HS.out.1.net.lens t htm
            have hto : ∀ u ∈ t.2, u.oneCell' = true := (HS.out.1.net.its t htm).one
            have htn : t.2[3]? = some (.int .i64 t.1.num) := item_num (HS.out.1.net.its t htm)
            obtain ⟨g4, rfl, hg4, hcO⟩ := own_cell HS.out.2.1 a t ht
            have HT := Lib.hid (And.intro htl (And.intro hto (And.intro htn (And.intro ht (HS.out.2.2.2 t htm)))))
            have HO := Lib.hid (And.intro hg4 hcO)
            have hal' : (a : Int) < (T.length : Int) := by omega
            have hwa : IntKind.i64.wrap ((a : Int) + 1) = (a : Int) + 1 := by rw [IntKind.wrap_i64]; have := HI.out.1; omega
            clear ht htm htl hto htn hg4 hcO
            have PT := Lib.hid (take_on HS.out.1 a t HT.out.2.2.2.1 (by have := HI.out.1; omega))
            go_upto_region 26 with (first
              | (go_at_call 27; (with_reducible refine PT.out.mono ?_); rintro e wb ⟨vb, rfl, nb, kb⟩; have NB := Lib.hid (And.intro nb (And.intro kb ((HS.out.2.1).keep kb (fun x hx hm => keepFar HS.out.1.net HS.out.2.1 x hx hm)))); clear nb kb)
              | (with_reducible refine wpList_alloc_to _ _ rfl 40 rfl _ HZP.out.1 rfl ?_)
              | (refine wpList_store_mid rfl 40 (.tmp 10) (.tmp 91) rfl wb.heap.size 0 t.2.toArray rfl rfl (there_newP (by rw [HT.out.1]; exact HZP.out.2.symm)) (by rw [List.size_toArray, HT.out.1]; exact info_pk) (all_oneCell_toArray HT.out.2.1) ?_))
            have hst := storedP (w := wb) (t := 40) (Z := Z) (X := t.2) (by rw [HT.out.1]; exact HZP.out.2.symm)
            obtain ⟨w3, hw3⟩ : ∃ w3, (wb.alloc (.cells Z.toArray 40)).setCells wb.heap.size 0 t.2 = w3 := ⟨_, rfl⟩
            rw [hw3] at hst ⊢
            have x3 : w3.cell? ⟨wb.heap.size, 3, none⟩ = some (.int .i64 t.1.num) := by rw [hst.1.cell]; simpa using HT.out.2.2.1
            have hO3 := (NB.out.2.2).over hst.2
            obtain ⟨g5, e5, -, hc5⟩ := own_cell hO3 a t HT.out.2.2.2.1
            injection e5 with e5
            injection e5 with e5
            subst e5
            have HQ := Lib.hid (And.intro (fun w' (hk : keepBut [] w3 w') => own_cut (hO3.over hk) a hal) (And.intro hO3 hst.2))
            clear hO3 hw3 hst
            go_quiet (fail)
            go_upto_region 29 with fail
            obtain ⟨w8, hw8⟩ : ∃ w8, w3.drewN nq = w8 := ⟨_, rfl⟩
            rw [hw8]
            have K8 := Lib.hid (show keepBut [] w3 w8 by rw [← hw8]; exact (keepBut.refl [] w3).drewN nq)
            have HQ := Lib.hid (And.intro (fun w' (hk : keepBut [] w8 w') => HQ.out.1 w' (K8.out.then hk (by simp))) HQ.out.2)
            clear hw8
            refine wp_region_held_drew (S := fun _ => True) (by kernel_rfl) trivial (fun _ => ?_)
            refine wpAnyH_take (i := 1) (oi := ⟨_, _, _, _, _, _⟩) (v := ?_) rfl (by kernel_rfl) (by kernel_rfl) (by kernel_rfl) (fun _ _ _ h => h) (Or.inl ⟨by rfl, ?_⟩) trivial ?_
            rotate_left
            · intro w' hSw; (try dsimp only at hSw); (go_simp; try with_reducible rfl)
            try simp only [Act.put, List.setIfInBounds_toArray, List.set_cons_zero, List.set_cons_succ]
            refine wpAnyH_take (i := 2) (oi := ⟨_, _, _, _, _, _⟩) (v := ?_) rfl (by kernel_rfl) (by kernel_rfl) (by kernel_rfl) (fun _ _ _ h => h) (Or.inl ⟨by rfl, ?_⟩) trivial ?_
            rotate_left
            · intro w' hSw; (try dsimp only at hSw); (go_simp; try with_reducible rfl)
            try simp only [Act.put, List.setIfInBounds_toArray, List.set_cons_zero, List.set_cons_succ]
            refine wpAnyH_take (i := 3) (oi := ⟨_, _, _, _, _, _⟩) (v := .slice (some ⟨g4, 0, none⟩) a c4) rfl (by kernel_rfl) (by kernel_rfl) (by kernel_rfl) (fun _ _ _ h => h) (Or.inl ⟨by rfl, ?_⟩) trivial ?_
            · intro w' hSw; clear hSw; go_simp; (first | (intro h; omega) | (rw [if_pos (by omega)]) | skip)
            try simp only [Act.put, List.setIfInBounds_toArray, List.set_cons_zero, List.set_cons_succ]
            refine wpAnyH_take (i := 5) (oi := ⟨_, _, _, _, _, _⟩) (v := ?_) rfl (by kernel_rfl) (by kernel_rfl) (by kernel_rfl) (fun _ _ _ h => h) (Or.inl ⟨by rfl, ?_⟩) trivial ?_
            rotate_left
            · intro w' hSw; (try dsimp only at hSw); (go_simp; try with_reducible rfl)
            try simp only [Act.put, List.setIfInBounds_toArray, List.set_cons_zero, List.set_cons_succ]
            refine wpAnyH_take (i := 6) (oi := ⟨_, _, _, _, _, _⟩) (v := ?_) rfl (by kernel_rfl) (by kernel_rfl) (by kernel_rfl) (fun _ _ _ h => h) (Or.inl ⟨by rfl, ?_⟩) trivial ?_
            rotate_left
            · intro w' hSw; (try dsimp only at hSw); (go_simp; try with_reducible rfl)
            try simp only [Act.put, List.setIfInBounds_toArray, List.set_cons_zero, List.set_cons_succ]
            refine wpAnyH_take (i := 7) (oi := ⟨_, _, _, _, _, _⟩) (v := ?_) rfl (by kernel_rfl) (by kernel_rfl) (by kernel_rfl) (fun _ _ _ h => h) (Or.inl ⟨by rfl, ?_⟩) trivial ?_
            rotate_left
            · intro w' hSw; (try dsimp only at hSw); (go_simp; try with_reducible rfl)
            try simp only [Act.put, List.setIfInBounds_toArray, List.set_cons_zero, List.set_cons_succ]
            refine wpAnyH_take (i := 8) (oi := ⟨_, _, _, _, _, _⟩) (v := .slice (some (if c4 = a + 1 then ⟨g4, 0, none⟩ else ⟨g4, 0 + (a + 1) * 1, none⟩)) (T.length - (a + 1)) (c4 - (a + 1))) rfl (by kernel_rfl) (by kernel_rfl) (by kernel_rfl) (fun _ _ _ h => h) (Or.inl ⟨by rfl, ?_⟩) trivial ?_
            · intro w' hSw; clear hSw; go_simp; ((try rw [if_pos (by omega)]); (by_cases hcc : c4 = a + 1 <;> simp [hcc]))
            try simp only [Act.put, List.setIfInBounds_toArray, List.set_cons_zero, List.set_cons_succ]
            refine wpAnyH_ready (rs := [0]) (by kernel_rfl) (by simp) ?_
            refine AllReadyH.cons (o := ⟨_, _, _, _, _, _⟩) rfl (fun K hK => ?_) AllReadyH.nil
            refine step_build_zero _ rfl 35 rfl 3 Tryd.underlying35 i0 HZ0.out.1 HZ0.out.2.2.1 ?_
            refine hK.out _ _ trivial (fun _ => ?_)
            clear hK K
            try simp only [Act.put, List.setIfInBounds_toArray, List.set_cons_zero, List.set_cons_succ]
            refine wpAnyH_ready (rs := [4]) (by kernel_rfl) (by simp) ?_
            refine AllReadyH.cons (o := ⟨_, _, _, _, _, _⟩) rfl (fun K hK => ?_) AllReadyH.nil
            refine step_append _ rfl (.tmp 110) (.tmp 113) 35 rfl 3 i0 (.int .i64 0) 1 8 Tryd.underlying35 HZ0.out.1 HZ0.out.2.1 HZ0.out.2.2.1 HZ0.out.2.2.2 rfl (by decide) _ 0 [] rfl (owns_zero _) (some ⟨g4, 0, none⟩) g4 a c4 ((numsV T).take a) rfl ((HQ.out.1 _ ((keepBut.refl [] w8).drew.alloc _)).1) (fun u hu => numsV_one T u (List.mem_of_mem_take hu)) (by have := HI.out.1; omega) (by have := HI.out.1; unfold maxLen; omega) (fun A6 c6 w6 o6 k6 h6 => ?_)
            refine hK.out _ _ trivial (fun _ => ?_)
            clear hK K
            try simp only [Act.put, List.setIfInBounds_toArray, List.set_cons_zero, List.set_cons_succ]
            refine wpAnyH_ready (rs := [9]) (by kernel_rfl) (by simp) ?_
            refine AllReadyH.cons (o := ⟨_, _, _, _, _, _⟩) rfl (fun K hK => ?_) AllReadyH.nil
            refine step_append _ rfl (.tmp 114) (.tmp 118) 35 rfl 3 i0 (.int .i64 0) 1 8 Tryd.underlying35 HZ0.out.1 HZ0.out.2.1 HZ0.out.2.2.1 HZ0.out.2.2.2 rfl (by decide) (.slice A6 (0 + a) c6) (0 + a) _ rfl o6 (some (if c4 = a + 1 then ⟨g4, 0, none⟩ else ⟨g4, 0 + (a + 1) * 1, none⟩)) g4 (T.length - (a + 1)) (c4 - (a + 1)) ((numsV T).drop (a + 1)) rfl ((HQ.out.1 _ (kNew k6)).2) (fun u hu => numsV_one T u (List.mem_of_mem_drop hu)) (by have := HI.out.1; omega) (by have := HI.out.1; unfold maxLen; omega) (fun A7 c7 w7 o7 k7 h7 => ?_)
            refine hK.out _ _ trivial (fun _ => ?_)
            clear hK K
            try simp only [Act.put, List.setIfInBounds_toArray, List.set_cons_zero, List.set_cons_succ]
            have O7 := Lib.hid (And.intro o7 (And.intro (kNew2 (kNew k6) k7 h6) (hNew h6 (kNew k6) h7)))
            clear o6 k6 h6 o7 k7 h7
            refine wpAnyH_ready (rs := [10]) (by kernel_rfl) (by simp) ?_
            refine AllReadyH.cons (o := ⟨_, _, _, _, _, _⟩) rfl (fun K hK => ?_) AllReadyH.nil
            go_simp
            refine hK.out _ _ trivial (fun _ => ?_)
            clear hK K
            try simp only [Act.put, List.setIfInBounds_toArray, List.set_cons_zero, List.set_cons_succ]
            refine wpAnyH_done (by kernel_rfl) ?_ _
            generalize (if c4 = a + 1 then (⟨g4, 0, none⟩ : Addr) else ⟨g4, a + 1, none⟩) = ad
            go_wp2_with fail
            go_meet
            exact keepLess hal HI.out.1 HI.out.2.1 NB.out.1 HS.out.2.2.2 ((HQ.out.2.2.then K8.out (by simp)).then O7.out.2.1 (by simp)) O7.out.1 (fun x hx => Nat.le_trans (NB.out.1.kept.then (HQ.out.2.2.then K8.out (by simp)) (by simp)).size (O7.out.2.2 x hx))
          · skip
            have PT := Lib.hid (takeN_no p v T [] k (T.length : Int) wr HS.out.1.net (by rintro ⟨_, h⟩; exact absurd h (Int.lt_irrefl _)))
            go_upto_region 26 with (first
              | (go_at_call 27; (with_reducible refine PT.out.mono ?_); rintro e wb ⟨Xn, rfl, ib, kb⟩; have NB := Lib.hid (And.intro ib kb); clear ib kb)
              | (with_reducible refine wpList_alloc_to _ _ rfl 40 rfl _ HZP.out.1 rfl ?_)
              | (refine wpList_store_mid rfl 40 (.tmp 10) (.tmp 91) rfl wb.heap.size 0 Xn.toArray rfl rfl (there_newP (by rw [NB.out.1.len]; exact HZP.out.2.symm)) (by rw [List.size_toArray, NB.out.1.len]; exact info_pk) (all_oneCell_toArray NB.out.1.one) ?_))
            have hst := storedP (w := wb) (t := 40) (Z := Z) (X := Xn) (by rw [NB.out.1.len]; exact HZP.out.2.symm)
            obtain ⟨w3, hw3⟩ : ∃ w3, (wb.alloc (.cells Z.toArray 40)).setCells wb.heap.size 0 Xn = w3 := ⟨_, rfl⟩
            rw [hw3] at hst ⊢
            have K3 := Lib.hid (NB.out.2.then hst.2 (by simp))
            clear hst hw3
            go_quiet (fail)
            go_wp2_with fail
            go_meet
            exact keepSame HI.out.1 HI.out.2.1 HS.out.1 HS.out.2.1 HS.out.2.2.1 HS.out.2.2.2 (K3.out.drewN _)
        · rcases HTH.out with ⟨rfl, hal⟩ | ⟨rfl, rfl⟩
          · skip
            obtain ⟨t, ht⟩ : ∃ t, T[a]? = some t := ⟨T[a], List.getElem?_eq_getElem hal⟩
            have htm := List.mem_of_getElem? ht
            have htl : t.2.length = 87 := HS.out.1.net.lens t htm
            have hto : ∀ u ∈ t.2, u.oneCell' = true := (HS.out.1.net.its t htm).one
            have htn : t.2[3]? = some (.int .i64 t.1.num) := item_num (HS.out.1.net.its t htm)
            obtain ⟨g4, rfl, hg4, hcO⟩ := own_cell HS.out.2.1 a t ht
            have HT := Lib.hid (And.intro htl (And.intro hto (And.intro htn (And.intro ht (HS.out.2.2.2 t htm)))))
            have HO := Lib.hid (And.intro hg4 hcO)
            have hal' : (a : Int) < (T.length : Int) := by omega
            have hwa : IntKind.i64.wrap ((a : Int) + 1) = (a : Int) + 1 := by rw [IntKind.wrap_i64]; have := HI.out.1; omega
            clear ht htm htl hto htn hg4 hcO
            have PT := Lib.hid (drop_on HS.out.1 a t HT.out.2.2.2.1 (by have := HI.out.1; omega))
            go_upto_region 34 with (go_at_call 28; (with_reducible refine PT.out.mono ?_); rintro e wb ⟨vb, rfl, nb, kb⟩; have NB := Lib.hid (And.intro nb (And.intro kb ((HS.out.2.1).keep kb (fun x hx hm => keepFar HS.out.1.net HS.out.2.1 x hx hm)))); clear nb kb)
            have hO3 := NB.out.2.2
            have HQ := Lib.hid (And.intro (fun w' (hk : keepBut [] wb w') => own_cut (hO3.over hk) a hal) (And.intro hO3 (keepBut.refl [] wb)))
            clear hO3
            obtain ⟨w8, hw8⟩ : ∃ w8, wb = w8 := ⟨_, rfl⟩
            rw [hw8]
            have K8 := Lib.hid (show keepBut [] wb w8 by rw [← hw8]; exact keepBut.refl [] wb)
            have HQ := Lib.hid (And.intro (fun w' (hk : keepBut [] w8 w') => HQ.out.1 w' (K8.out.then hk (by simp))) HQ.out.2)
            clear hw8
            refine wp_region_held_drew (S := fun _ => True) (by kernel_rfl) trivial (fun _ => ?_)
            refine wpAnyH_take (i := 1) (oi := ⟨_, _, _, _, _, _⟩) (v := ?_) rfl (by kernel_rfl) (by kernel_rfl) (by kernel_rfl) (fun _ _ _ h => h) (Or.inl ⟨by rfl, ?_⟩) trivial ?_
            rotate_left
            · intro w' hSw; (try dsimp only at hSw); (go_simp; try with_reducible rfl)
            try simp only [Act.put, List.setIfInBounds_toArray, List.set_cons_zero, List.set_cons_succ]
            refine wpAnyH_take (i := 2) (oi := ⟨_, _, _, _, _, _⟩) (v := ?_) rfl (by kernel_rfl) (by kernel_rfl) (by kernel_rfl) (fun _ _ _ h => h) (Or.inl ⟨by rfl, ?_⟩) trivial ?_
            rotate_left
            · intro w' hSw; (try dsimp only at hSw); (go_simp; try with_reducible rfl)
            try simp only [Act.put, List.setIfInBounds_toArray, List.set_cons_zero, List.set_cons_succ]
            refine wpAnyH_take (i := 3) (oi := ⟨_, _, _, _, _, _⟩) (v := .slice (some ⟨g4, 0, none⟩) a c4) rfl (by kernel_rfl) (by kernel_rfl) (by kernel_rfl) (fun _ _ _ h => h) (Or.inl ⟨by rfl, ?_⟩) trivial ?_
            · intro w' hSw; clear hSw; go_simp; (first | (intro h; omega) | (rw [if_pos (by omega)]) | skip)
            try simp only [Act.put, List.setIfInBounds_toArray, List.set_cons_zero, List.set_cons_succ]
            refine wpAnyH_take (i := 5) (oi := ⟨_, _, _, _, _, _⟩) (v := ?_) rfl (by kernel_rfl) (by kernel_rfl) (by kernel_rfl) (fun _ _ _ h => h) (Or.inl ⟨by rfl, ?_⟩) trivial ?_
            rotate_left
            · intro w' hSw; (try dsimp only at hSw); (go_simp; try with_reducible rfl)
            try simp only [Act.put, List.setIfInBounds_toArray, List.set_cons_zero, List.set_cons_succ]
            refine wpAnyH_take (i := 6) (oi := ⟨_, _, _, _, _, _⟩) (v := ?_) rfl (by kernel_rfl) (by kernel_rfl) (by kernel_rfl) (fun _ _ _ h => h) (Or.inl ⟨by rfl, ?_⟩) trivial ?_
            rotate_left
            · intro w' hSw; (try dsimp only at hSw); (go_simp; try with_reducible rfl)
            try simp only [Act.put, List.setIfInBounds_toArray, List.set_cons_zero, List.set_cons_succ]
            refine wpAnyH_take (i := 7) (oi := ⟨_, _, _, _, _, _⟩) (v := ?_) rfl (by kernel_rfl) (by kernel_rfl) (by kernel_rfl) (fun _ _ _ h => h) (Or.inl ⟨by rfl, ?_⟩) trivial ?_
            rotate_left
            · intro w' hSw; (try dsimp only at hSw); (go_simp; try with_reducible rfl)
            try simp only [Act.put, List.setIfInBounds_toArray, List.set_cons_zero, List.set_cons_succ]
            refine wpAnyH_take (i := 8) (oi := ⟨_, _, _, _, _, _⟩) (v := .slice (some (if c4 = a + 1 then ⟨g4, 0, none⟩ else ⟨g4, 0 + (a + 1) * 1, none⟩)) (T.length - (a + 1)) (c4 - (a + 1))) rfl (by kernel_rfl) (by kernel_rfl) (by kernel_rfl) (fun _ _ _ h => h) (Or.inl ⟨by rfl, ?_⟩) trivial ?_
            · intro w' hSw; clear hSw; go_simp; ((try rw [if_pos (by omega)]); (by_cases hcc : c4 = a + 1 <;> simp [hcc]))
            try simp only [Act.put, List.setIfInBounds_toArray, List.set_cons_zero, List.set_cons_succ]
            refine wpAnyH_ready (rs := [0]) (by kernel_rfl) (by simp) ?_
            refine AllReadyH.cons (o := ⟨_, _, _, _, _, _⟩) rfl (fun K hK => ?_) AllReadyH.nil
            refine step_build_zero _ rfl 35 rfl 3 Tryd.underlying35 i0 HZ0.out.1 HZ0.out.2.2.1 ?_
            refine hK.out _ _ trivial (fun _ => ?_)
            clear hK K
            try simp only [Act.put, List.setIfInBounds_toArray, List.set_cons_zero, List.set_cons_succ]
            refine wpAnyH_ready (rs := [4]) (by kernel_rfl) (by simp) ?_
            refine AllReadyH.cons (o := ⟨_, _, _, _, _, _⟩) rfl (fun K hK => ?_) AllReadyH.nil
            refine step_append _ rfl (.tmp 129) (.tmp 132) 35 rfl 3 i0 (.int .i64 0) 1 8 Tryd.underlying35 HZ0.out.1 HZ0.out.2.1 HZ0.out.2.2.1 HZ0.out.2.2.2 rfl (by decide) _ 0 [] rfl (owns_zero _) (some ⟨g4, 0, none⟩) g4 a c4 ((numsV T).take a) rfl ((HQ.out.1 _ ((keepBut.refl [] w8).drew.alloc _)).1) (fun u hu => numsV_one T u (List.mem_of_mem_take hu)) (by have := HI.out.1; omega) (by have := HI.out.1; unfold maxLen; omega) (fun A6 c6 w6 o6 k6 h6 => ?_)
            refine hK.out _ _ trivial (fun _ => ?_)
            clear hK K
            try simp only [Act.put, List.setIfInBounds_toArray, List.set_cons_zero, List.set_cons_succ]
            refine wpAnyH_ready (rs := [9]) (by kernel_rfl) (by simp) ?_
            refine AllReadyH.cons (o := ⟨_, _, _, _, _, _⟩) rfl (fun K hK => ?_) AllReadyH.nil
            refine step_append _ rfl (.tmp 133) (.tmp 137) 35 rfl 3 i0 (.int .i64 0) 1 8 Tryd.underlying35 HZ0.out.1 HZ0.out.2.1 HZ0.out.2.2.1 HZ0.out.2.2.2 rfl (by decide) (.slice A6 (0 + a) c6) (0 + a) _ rfl o6 (some (if c4 = a + 1 then ⟨g4, 0, none⟩ else ⟨g4, 0 + (a + 1) * 1, none⟩)) g4 (T.length - (a + 1)) (c4 - (a + 1)) ((numsV T).drop (a + 1)) rfl ((HQ.out.1 _ (kNew k6)).2) (fun u hu => numsV_one T u (List.mem_of_mem_drop hu)) (by have := HI.out.1; omega) (by have := HI.out.1; unfold maxLen; omega) (fun A7 c7 w7 o7 k7 h7 => ?_)
            refine hK.out _ _ trivial (fun _ => ?_)
            clear hK K
            try simp only [Act.put, List.setIfInBounds_toArray, List.set_cons_zero, List.set_cons_succ]
            have O7 := Lib.hid (And.intro o7 (And.intro (kNew2 (kNew k6) k7 h6) (hNew h6 (kNew k6) h7)))
            clear o6 k6 h6 o7 k7 h7
            refine wpAnyH_ready (rs := [10]) (by kernel_rfl) (by simp) ?_
            refine AllReadyH.cons (o := ⟨_, _, _, _, _, _⟩) rfl (fun K hK => ?_) AllReadyH.nil
            go_simp
            refine hK.out _ _ trivial (fun _ => ?_)
            clear hK K
            try simp only [Act.put, List.setIfInBounds_toArray, List.set_cons_zero, List.set_cons_succ]
            refine wpAnyH_done (by kernel_rfl) ?_ _
            generalize (if c4 = a + 1 then (⟨g4, 0, none⟩ : Addr) else ⟨g4, a + 1, none⟩) = ad
            go_wp2_with fail
            go_meet
            exact keepLess hal HI.out.1 HI.out.2.1 NB.out.1 HS.out.2.2.2 ((HQ.out.2.2.then K8.out (by simp)).then O7.out.2.1 (by simp)) O7.out.1 (fun x hx => Nat.le_trans (NB.out.1.kept.then (HQ.out.2.2.then K8.out (by simp)) (by simp)).size (O7.out.2.2 x hx))
          · skip
            have PT := Lib.hid (dropN_no p v T [] k (T.length : Int) wr HS.out.1.net (by rintro ⟨_, h⟩; exact absurd h (Int.lt_irrefl _)))
            go_wp2_with (go_at_call 28; (with_reducible refine PT.out.mono ?_); rintro e wb ⟨rfl, kb⟩; have NB := Lib.hid kb; clear kb)
            go_meet
            exact keepSame HI.out.1 HI.out.2.1 HS.out.1 HS.out.2.1 HS.out.2.2.1 HS.out.2.2.2 NB.out
        · rcases HTH.out with ⟨rfl, hal⟩ | ⟨rfl, rfl⟩
          · skip
            obtain ⟨t, ht⟩ : ∃ t, T[a]? = some t := ⟨T[a], List.getElem?_eq_getElem hal⟩
            have htm := List.mem_of_getElem? ht
            have htl : t.2.length = 87 := HS.out.1.net.lens t htm
            have hto : ∀ u ∈ t.2, u.oneCell' = true := (HS.out.1.net.its t htm).one
            have htn : t.2[3]? = some (.int .i64 t.1.num) := item_num (HS.out.1.net.its t htm)
            obtain ⟨g4, rfl, hg4, hcO⟩ := own_cell HS.out.2.1 a t ht
            have HT := Lib.hid (And.intro htl (And.intro hto (And.intro htn (And.intro ht (HS.out.2.2.2 t htm)))))
            have HO := Lib.hid (And.intro hg4 hcO)
            have hal' : (a : Int) < (T.length : Int) := by omega
            have hwa : IntKind.i64.wrap ((a : Int) + 1) = (a : Int) + 1 := by rw [IntKind.wrap_i64]; have := HI.out.1; omega
            clear ht htm htl hto htn hg4 hcO
            have PT := Lib.hid (twice_on HS.out.1 a t HT.out.2.2.2.1 HT.out.2.2.2.2.fits (by have := HI.out.1; omega) (by have := HI.out.2.1; omega))
            go_upto_region 39 with (go_at_call 29; (with_reducible refine PT.out.mono ?_); rintro e wb ⟨vb, Xb, Fb, rfl, nb, kb⟩; have NB := Lib.hid (And.intro nb (And.intro kb ((HS.out.2.1).keep kb (fun x hx hm => keepFar HS.out.1.net HS.out.2.1 x hx hm)))); clear nb kb)
            obtain ⟨g5, e5, -, hc5⟩ := own_cell NB.out.2.2 a t HT.out.2.2.2.1
            injection e5 with e5
            injection e5 with e5
            subst e5
            go_wp2_with (at_builtin; refine wp_append _ rfl _ _ 35 rfl 3 i0 (.int .i64 0) 1 8 Tryd.underlying35 HZ0.out.1 HZ0.out.2.1 HZ0.out.2.2.1 HZ0.out.2.2.2 rfl (by decide) (.slice (some ⟨g4, 0, none⟩) T.length c4) T.length _ rfl (NB.out.2.2.alloc _) (some ⟨wb.heap.size, 0, none⟩) wb.heap.size 1 1 [.int .i64 t.1.num] (by simp [Act.eval]) (reads_one wb 3 (.int .i64 t.1.num)) (by intro u hu; simp at hu; subst hu; rfl) (by have := HI.out.1; omega) (by have := HI.out.1; unfold maxLen; omega) ?_; intro A5 c5 w5 o5 k5 h5; have O5 := Lib.hid (And.intro o5 (And.intro k5 h5)); clear o5 k5 h5)
            go_meet
            exact keepMore HI.out.1 HI.out.2.1 HS.out.2.2.2 HT.out.2.2.2.2 HS.out.2.2.1 NB.out.1 NB.out.2.2 O5.out.1 O5.out.2.1 O5.out.2.2
          · skip
            have PT := Lib.hid (twiceN_no p v T [] k (T.length : Int) wr HS.out.1.net (by rintro ⟨_, h⟩; exact absurd h (Int.lt_irrefl _)))
            go_wp2_with (go_at_call 29; (with_reducible refine PT.out.mono ?_); rintro e w' ⟨rfl, rfl⟩)
            go_meet
            exact keepSame HI.out.1 HI.out.2.1 HS.out.1 HS.out.2.1 HS.out.2.2.1 HS.out.2.2.2 (keepBut.refl [] _)
        · rcases HTH.out with ⟨rfl, hal⟩ | ⟨rfl, rfl⟩
          · skip
            obtain ⟨t, ht⟩ : ∃ t, T[a]? = some t := ⟨T[a], List.getElem?_eq_getElem hal⟩
            have htm := List.mem_of_getElem? ht
            have htl : t.2.length = 87 := HS.out.1.net.lens t htm
            have hto : ∀ u ∈ t.2, u.oneCell' = true := (HS.out.1.net.its t htm).one
            have htn : t.2[3]? = some (.int .i64 t.1.num) := item_num (HS.out.1.net.its t htm)
            obtain ⟨g4, rfl, hg4, hcO⟩ := own_cell HS.out.2.1 a t ht
            have HT := Lib.hid (And.intro htl (And.intro hto (And.intro htn (And.intro ht (HS.out.2.2.2 t htm)))))
            have HO := Lib.hid (And.intro hg4 hcO)
            have hal' : (a : Int) < (T.length : Int) := by omega
            have hwa : IntKind.i64.wrap ((a : Int) + 1) = (a : Int) + 1 := by rw [IntKind.wrap_i64]; have := HI.out.1; omega
            clear ht htm htl hto htn hg4 hcO
            have PT := Lib.hid (atN_any p v T [] k a t wr HS.out.1.net HT.out.2.2.2.1 HT.out.2.2.2.2.fits)
            go_upto_region 14 with (first
              | (go_at_call 17; (with_reducible refine PT.out.mono ?_); rintro e wb ⟨Xn, Gn, rfl, ib, _, kb⟩; have NB := Lib.hid (And.intro ib kb); clear ib kb)
              | (with_reducible refine wpList_alloc_to _ _ rfl 40 rfl _ HZP.out.1 rfl ?_)
              | (refine wpList_store_mid rfl 40 (.tmp 12) (.tmp 51) rfl wb.heap.size 0 Xn.toArray rfl rfl (there_newP (by rw [NB.out.1.len]; exact HZP.out.2.symm)) (by rw [List.size_toArray, NB.out.1.len]; exact info_pk) (all_oneCell_toArray NB.out.1.one) ?_))
            have hst := storedP (w := wb) (t := 40) (Z := Z) (X := Xn) (by rw [NB.out.1.len]; exact HZP.out.2.symm)
            obtain ⟨w3, hw3⟩ : ∃ w3, (wb.alloc (.cells Z.toArray 40)).setCells wb.heap.size 0 Xn = w3 := ⟨_, rfl⟩
            rw [hw3] at hst ⊢
            have x3 : w3.cell? ⟨wb.heap.size, 3, none⟩ = some (.int .i64 t.1.num) := by rw [hst.1.cell]; simpa using item_num NB.out.1
            have K3 := Lib.hid (NB.out.2.then hst.2 (by simp))
            obtain ⟨g5, e5, -, hc5⟩ := own_cell (HS.out.2.1.over K3.out) a t HT.out.2.2.2.1
            injection e5 with e5
            injection e5 with e5
            subst e5
            clear hst hw3
            go_quiet (fail)
            go_wp2_with fail
            go_meet
            exact keepSame HI.out.1 HI.out.2.1 HS.out.1 HS.out.2.1 HS.out.2.2.1 HS.out.2.2.2 (K3.out.drewN _)
          · skip
            have PT := Lib.hid (atN_no p v T [] k (T.length : Int) wr HS.out.1.net (by rintro ⟨_, h⟩; exact absurd h (Int.lt_irrefl _)))
            go_upto_region 14 with (first
              | (go_at_call 17; (with_reducible refine PT.out.mono ?_); rintro e wb ⟨Xn, rfl, ib, kb⟩; have NB := Lib.hid (And.intro ib kb); clear ib kb)
              | (with_reducible refine wpList_alloc_to _ _ rfl 40 rfl _ HZP.out.1 rfl ?_)
              | (refine wpList_store_mid rfl 40 (.tmp 12) (.tmp 51) rfl wb.heap.size 0 Xn.toArray rfl rfl (there_newP (by rw [NB.out.1.len]; exact HZP.out.2.symm)) (by rw [List.size_toArray, NB.out.1.len]; exact info_pk) (all_oneCell_toArray NB.out.1.one) ?_))
            have hst := storedP (w := wb) (t := 40) (Z := Z) (X := Xn) (by rw [NB.out.1.len]; exact HZP.out.2.symm)
            obtain ⟨w3, hw3⟩ : ∃ w3, (wb.alloc (.cells Z.toArray 40)).setCells wb.heap.size 0 Xn = w3 := ⟨_, rfl⟩
            rw [hw3] at hst ⊢
            have K3 := Lib.hid (NB.out.2.then hst.2 (by simp))
            clear hst hw3
            go_quiet (fail)
            go_wp2_with fail
            go_meet
            exact keepSame HI.out.1 HI.out.2.1 HS.out.1 HS.out.2.1 HS.out.2.2.1 HS.out.2.2.2 (K3.out.drewN _)
      case rest =>
        obtain ⟨c', v', T', rfl, hT', hc', hn', ho', hh', hb'⟩ := hcut
        obtain ⟨A6, c6, rfl, _⟩ := id ho'.form
        have P8 := Lib.hid (lenN_any _ _ _ _ _ _ hn'.net)
        have P9 := Lib.hid (countN_any _ _ _ _ _ _ hn'.net)
        have HR := Lib.hid (And.intro hT' (And.intro hc' (And.intro hn' (And.intro ho' (And.intro hh' hb')))))
        clear hT' hc' hn' ho' hh' hb' HS HI
        go_wp2_with (first
          | (go_at_call 11; (with_reducible refine P8.out.mono ?_); rintro e w' ⟨rfl, rfl⟩)
          | (go_at_call 12; (with_reducible refine P9.out.mono ?_); rintro e w' ⟨rfl, rfl⟩))
        go_roundw
        case rel => exact ⟨i + 1, c', v', T', by go_num, rfl, by omega, by omega, HR.out.1, HR.out.2.1, HR.out.2.2.1, HR.out.2.2.2.1, HR.out.2.2.2.2.1, HR.out.2.2.2.2.2⟩
        case measure => simp [intOf]; omega
    · have hx : ¬ ((i : Int) < (n : Int)) ∨ ((i : Int) < (n : Int) ∧ ¬ (i : Int) < 120) := by omega
      obtain ⟨A4, c4, rfl, hc4, hm4, _⟩ := hO.form
      obtain ⟨Z, hZl, hZ, hZb, hZi⟩ := zeroP
      have HZP := Lib.hid (And.intro hZ hZl)
      have HS := Lib.hid (And.intro hN (And.intro hO (And.intro hH hfit)))
      have HI := Lib.hid (And.intro hTi hki)
      clear hZl hZ hZb hZi hN hO hH hfit hTi hki hlt
      unfold maxLen at hm4
      generalize wr = wq at *
      rcases hx with hx | ⟨hx1, hx2⟩
      all_goals
        go_wp2_with fail
        go_loopw [14, 15, 16] (fun v14 _ _ wx => ∃ j : Nat, j ≤ T.length ∧ v14 = .int .i64 (j : Int) ∧ keepBut [] wq wx) (fun v14 _ _ _ => T.length - (intOf v14).toNat)
        case atStart => exact ⟨0, Nat.zero_le _, rfl, keepBut.refl _ _⟩
        case round =>
          obtain ⟨j, hj, rfl, kj⟩ := hrel
          by_cases hjl : j < T.length
          · obtain ⟨t, ht⟩ : ∃ t, T[j]? = some t := ⟨T[j], List.getElem?_eq_getElem hjl⟩
            have hj1 : (j : Int) < (T.length : Int) := by omega
            have hj0 : (0 : Int) ≤ (j : Int) := by omega
            have hwj : IntKind.i64.wrap ((j : Int) + 1) = (j : Int) + 1 := by rw [IntKind.wrap_i64]; have := HI.out.1; omega
            have PT := Lib.hid (atN_any p v T [] k j t wr (HS.out.1.over kj).net ht (HS.out.2.2.2 t (List.mem_of_getElem? ht)).fits)
            have HT := Lib.hid (And.intro kj ht)
            clear kj ht
            go_upto_region 47 with (first
              | (go_at_call 17; (with_reducible refine PT.out.mono ?_); rintro e wb ⟨Xn, Gn, rfl, ib, _, kb⟩; have NB := Lib.hid (And.intro ib kb); clear ib kb)
              | (with_reducible refine wpList_alloc_to _ _ rfl 40 rfl _ HZP.out.1 rfl ?_)
              | (refine wpList_store_mid rfl 40 (.tmp 15) (.tmp 178) rfl wb.heap.size 0 Xn.toArray rfl rfl (there_newP (by rw [NB.out.1.len]; exact HZP.out.2.symm)) (by rw [List.size_toArray, NB.out.1.len]; exact info_pk) (all_oneCell_toArray NB.out.1.one) ?_))
            have hst := storedP (w := wb) (t := 40) (Z := Z) (X := Xn) (by rw [NB.out.1.len]; exact HZP.out.2.symm)
            obtain ⟨w3, hw3⟩ : ∃ w3, (wb.alloc (.cells Z.toArray 40)).setCells wb.heap.size 0 Xn = w3 := ⟨_, rfl⟩
            rw [hw3] at hst ⊢
            have x3 : w3.cell? ⟨wb.heap.size, 3, none⟩ = some (.int .i64 t.1.num) := by rw [hst.1.cell]; simpa using item_num NB.out.1
            have K3 := Lib.hid ((HT.out.1.then NB.out.2 (by simp)).then hst.2 (by simp))
            obtain ⟨g5, rfl, -, hc5⟩ := own_cell (HS.out.2.1.over K3.out) j t HT.out.2
            clear hst hw3
            go_quiet (fail)
            go_wp2_with fail
            go_roundw
            case rel => exact ⟨j + 1, by omega, by go_num, K3.out.drewN _⟩
            case measure => simp [intOf]; omega
          · obtain rfl : j = T.length := by omega
            have hj1 : ¬ (T.length : Int) < (T.length : Int) := by omega
            have KJ := Lib.hid (HS.out.1.kept.then kj (by simp))
            clear kj
            go_wp2_with fail
            go_ret
            exact ⟨rfl, KJ.out⟩
end Go.Proofs.YtcnlnkkdcofphaaDoor
