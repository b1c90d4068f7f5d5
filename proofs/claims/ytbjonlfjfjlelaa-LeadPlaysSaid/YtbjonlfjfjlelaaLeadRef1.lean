/-
  LEAD: the document's own leader, over the same pure leader: what it is in memory; its helpers.
-/
import Derived.Test.YtbjonlfjfjlelaaLead12
import Derived.Laws.Cover1
import Derived.Deep.RegionHeld3
namespace Go.Proofs.Ytbjonlfjfjlelaa
open Go.RowKit
set_option linter.unusedVariables false
set_option maxRecDepth 100000

/-- bit k of x -/
def bitB (x k : Nat) : Bool := x.testBit k
def rowM (s : LS) (vb cv : Value) (x : Nat) : Array Value :=
  #[.int .i64 s.id, .int .i64 s.bal, .int .i64 s.frm, .int .i64 s.ph, .bool (bitB s.prom 0), .bool (bitB s.prom 1), .bool (bitB s.prom 2), vb, .bool s.pend, .int .i64 s.prop.num, .int .i64 s.prop.full, cv, .bool (bitB x 0), .bool (bitB x 1), .bool (bitB x 2)]
def flatT : List (VS × Value) → List Value
  | [] => []
  | t :: r => .int .i64 t.1.bal :: .int .i64 t.1.c.num :: .int .i64 t.1.c.full :: t.2 :: flatT r
def pairT (t : VS × Value) : Int × VS := (t.1.c.num, t.1)
structure isMv (w : World) (q : Nat) (G : List Nat) (s : LS) (vb cv : Value) (T : List (VS × Value)) (C : List Nat) (x : Nat) : Prop where
  row : rowAt w q 61 (rowM s vb cv x)
  own : owns w 78 4 vb T.length (flatT T)
  bnd : s.bound = T.map pairT
  chs : ∀ t ∈ T, held w C t.2 t.1.c.chain
  pc : held w C cv s.prop.chain
  acc : s.pend = true → x = s.acc
  xle : x ≤ 7
  qG : q ∈ G
  vG : ∀ y ∈ homes vb, y ∈ G
  cG : ∀ y ∈ C, y ∈ G
  qC : q ∉ C
  vC : ∀ y ∈ homes vb, y ∉ C
  lt : ∀ y ∈ G, y < w.heap.size
def isM (w : World) (q : Nat) (G : List Nat) (s : LS) : Prop := ∃ vb cv T C x, isMv w q G s vb cv T C x
theorem isMv.keep {S : List Nat} {w w' : World} {q : Nat} {G : List Nat} {s : LS} {vb cv : Value} {T : List (VS × Value)} {C : List Nat} {x : Nat} (h : isMv w q G s vb cv T C x) (hk : keepBut S w w') (hS : ∀ y ∈ G, y ∉ S) : isMv w' q G s vb cv T C x :=
  ⟨hk.row h.row (hS _ h.qG), h.own.keep hk (fun y hy => hS y (h.vG y hy)), h.bnd, fun t ht => (h.chs t ht).keep hk (fun y hy => hS y (h.cG y hy)), h.pc.keep hk (fun y hy => hS y (h.cG y hy)), h.acc, h.xle, h.qG, h.vG, h.cG, h.qC, h.vC, fun y hy => Nat.lt_of_lt_of_le (h.lt y hy) hk.size⟩
theorem isM.keep {S : List Nat} {w w' : World} {q : Nat} {G : List Nat} {s : LS} (h : isM w q G s) (hk : keepBut S w w') (hS : ∀ y ∈ G, y ∉ S) : isM w' q G s := by
  obtain ⟨vb, cv, T, C, x, h⟩ := h; exact ⟨vb, cv, T, C, x, h.keep hk hS⟩
theorem isM.over {w w' : World} {q : Nat} {G : List Nat} {s : LS} (h : isM w q G s) (hk : keepBut [] w w') : isM w' q G s := h.keep hk (by simp)
theorem isM.lt {w : World} {q : Nat} {G : List Nat} {s : LS} (h : isM w q G s) : ∀ y ∈ G, y < w.heap.size := by obtain ⟨vb, cv, T, C, x, h⟩ := h; exact h.lt
theorem isM.mem {w : World} {q : Nat} {G : List Nat} {s : LS} (h : isM w q G s) : q ∈ G := by obtain ⟨vb, cv, T, C, x, h⟩ := h; exact h.qG
/-- its own cells are turned -/
theorem isMv.poke {w w' : World} {q : Nat} {G : List Nat} {s s' : LS} {vb cv cv' : Value} {T : List (VS × Value)} {C : List Nat} {x x' : Nat} (h : isMv w q G s vb cv T C x) (hk : keepBut [q] w w')
    (hr : rowAt w' q 61 (rowM s' vb cv' x')) (hb : s'.bound = s.bound) (ha : s'.pend = true → x' = s'.acc) (hx : x' ≤ 7) (hc : (cv' = cv ∧ s'.prop.chain = s.prop.chain) ∨ (cv' = .slice none 0 0 ∧ s'.prop.chain = [])) : isMv w' q G s' vb cv' T C x' := by
  have hC : ∀ y ∈ C, y ∉ [q] := fun y hy hm => h.qC (by rw [← List.mem_singleton.1 hm]; exact hy)
  have hv : ∀ y ∈ homes vb, y ∉ [q] := fun y hy hm => h.own.apart h.row (by decide) (List.mem_singleton.1 hm ▸ hy)
  refine ⟨hr, h.own.keep hk hv, by rw [hb]; exact h.bnd, fun t ht => (h.chs t ht).keep hk hC, ?_, ha, hx, h.qG, h.vG, h.cG, h.qC, h.vC, fun y hy => Nat.lt_of_lt_of_le (h.lt y hy) hk.size⟩
  rcases hc with ⟨rfl, e⟩ | ⟨rfl, e⟩
  · rw [e]; exact h.pc.keep hk hC
  · rw [e]; exact held.nil _ _
/-- what is left of a call of it -/
def mPost (q : Nat) (G : List Nat) (s' : LS) (v : Value) (w : World) (e : Ending) (w' : World) : Prop :=
  e = .returned v ∧ ∃ G', isM w' q G' s' ∧ keepBut G w w' ∧ ∀ y ∈ G', y ∈ G ∨ w.heap.size ≤ y
theorem mPost.same {q : Nat} {G : List Nat} {s : LS} {v : Value} {w w' : World} (h : isM w q G s) (hk : keepBut [] w w') : mPost q G s v w (.returned v) w' :=
  ⟨rfl, G, h.over hk, hk.more (by simp), fun y hy => .inl hy⟩
theorem mPost.own {q : Nat} {G : List Nat} {s' : LS} {v : Value} {w w' : World} (h : isM w' q G s') (hk : keepBut [q] w w') : mPost q G s' v w (.returned v) w' :=
  ⟨rfl, G, h, hk.more (fun y hy => by rw [List.mem_singleton.1 hy]; exact h.mem), fun y hy => .inl hy⟩

set_option maxHeartbeats 400000 in
theorem copyInts_any (F : List Nat) (v : Value) (l : List Int) (w : World) (h : held w F v l) :
    Calls Try.prog 82 #[v] w (clonePost l w) := by
  obtain ⟨A, c, g, rfl, h2, h3, h4, h5, h6⟩ := h
  obtain ⟨i0, hi0, hz0, hz1, hz2⟩ := info_parts infoInt
  have H5 := Lib.hid h5
  clear h5 h6 h3
  go_enter Try.func82, Try.ntmps82
  go_wp2_with (at_builtin; refine wp_append _ rfl _ _ 53 rfl 3 i0 (.int .i64 0) 1 8 Try.underlying53 hi0 hz0 hz1 hz2 rfl (by decide) (.slice none 0 0) 0 [] rfl (owns.nil _ _ _) A g l.length c _ (by simp [Act.eval]) H5.out (by intro u hu; simp [cellsK] at hu; obtain ⟨b, _, rfl⟩ := hu; rfl) (by omega) (by unfold maxLen; omega) ?_; intro A2 c2 w2 hown2 hkb2 hloc2)
  go_ret
  simp only [Nat.zero_add, List.nil_append, homes_none] at hown2 hloc2 hkb2 ⊢
  obtain ⟨A3, c3, e3, h31, h32, h33, h34⟩ := hown2.form
  injection e3 with e3a e3b e3c
  subst e3a e3c
  obtain ⟨g3, hg3⟩ := homes_one (.slice A2 l.length c2)
  refine ⟨_, rfl, homes (.slice A2 l.length c2), ⟨A2, c2, g3, rfl, h31, h32, h4, h34 g3 hg3, fun hne => ?_⟩, fun y hy => ⟨?_, h33 y hy⟩, hkb2⟩
  · obtain ⟨o, hA, _⟩ := (h34 g3 hg3).2 (List.length_pos_iff.2 hne)
    rw [hA]; simp [homes_some]
  · rcases hloc2 y hy with h | h
    · simp at h
    · omega

set_option maxHeartbeats 1000000 in
theorem copyConf_any (F : List Nat) (c : CS) (cv : Value) (w : World) (h : held w F cv c.chain) :
    Calls Try.prog 67 #[confV c cv] w (confPost c w) := by
  unfold confV
  have hr0 := rowAt.new w 55 #[.int .i64 c.num, .int .i64 c.full, cv]
  have hr1 := rowAt.new (w.alloc (.cells #[.int .i64 c.num, .int .i64 c.full, cv] 55)) 55 #[.int .i64 0, .int .i64 0, .slice none 0 0]
  have hk0 := (keepBut.refl [] w).alloc (.cells #[.int .i64 c.num, .int .i64 c.full, cv] 55)
  have hk1 := (keepBut.refl [] (w.alloc (.cells #[.int .i64 c.num, .int .i64 c.full, cv] 55))).alloc (.cells #[.int .i64 0, .int .i64 0, .slice none 0 0] 55)
  have hr0' := hk1.row hr0 (by simp)
  have h' := (h.keep hk0 (by simp)).keep hk1 (by simp)
  have hk := hk0.then hk1 (by simp)
  rw [World.size_alloc] at hr1
  obtain ⟨A, cc, g, rfl, h2⟩ := h
  generalize hW : (w.alloc (.cells #[.int .i64 c.num, .int .i64 c.full, .slice A c.chain.length cc] 55)).alloc (.cells #[.int .i64 0, .int .i64 0, .slice none 0 0] 55) = w1 at *
  have c2 : w1.cell? ⟨w.heap.size, 2, none⟩ = some (.slice A c.chain.length cc) := hr0'.cell 2
  have H := Lib.hid (And.intro hr0' (And.intro hr1 (And.intro h' hk)))
  have HW := Lib.hid hW
  clear hr0 hr1 hk0 hk1 hr0' h' hk hW h2
  go_enter Try.func67, Try.ntmps67
  go_upto_region 1 with fail
  rw [HW.out]
  go_wp2_with fail
  refine (copyInts_any F _ _ _ H.out.2.2.1).mono ?_; rintro e w2 ⟨v, rfl, G, ⟨A2, n2, g2, rfl, i2, i3, i4, i5, i6⟩, hG, hk2⟩
  have r0 := hk2.row H.out.1 (by simp)
  have r1 := hk2.row H.out.2.1 (by simp)
  have a0 : w2.cell? ⟨w.heap.size, 0, none⟩ = some (.int .i64 c.num) := r0.cell 0
  have a1 : w2.cell? ⟨w.heap.size, 1, none⟩ = some (.int .i64 c.full) := r0.cell 1
  have a2 : w2.cell? ⟨w.heap.size, 2, none⟩ = some (.slice A c.chain.length cc) := r0.cell 2
  have f2 : w2.frozen? ⟨w.heap.size, 2, none⟩ = false := r0.free 2
  have b0 : w2.cell? ⟨w.heap.size + 1, 0, none⟩ = some (.int .i64 0) := r1.cell 0
  have b1 : w2.cell? ⟨w.heap.size + 1, 1, none⟩ = some (.int .i64 0) := r1.cell 1
  have b2 : w2.cell? ⟨w.heap.size + 1, 2, none⟩ = some (.slice none 0 0) := r1.cell 2
  have e0 : w2.frozen? ⟨w.heap.size + 1, 0, none⟩ = false := r1.free 0
  have e1 : w2.frozen? ⟨w.heap.size + 1, 1, none⟩ = false := r1.free 1
  have e2 : w2.frozen? ⟨w.heap.size + 1, 2, none⟩ = false := r1.free 2
  have H2 := Lib.hid (And.intro hG (And.intro hk2 (And.intro i2 (And.intro i3 (And.intro i4 (And.intro i5 i6))))))
  clear r0 r1 hG hk2 i2 i3 i4 i5 i6 c2
  go_wp2
  refine bodyPost_ret (v := .agg #[.int .i64 c.num, .int .i64 c.full, .slice A2 c.chain.length n2]) (by simp [results, Try.results67, go_sem, *]) rfl ?_
  obtain ⟨hG, hk2, i2, i3, i4, i5, i6⟩ := H2.out
  have hs1 := H.out.2.1.lt
  have k4 := ((((keepBut.refl [w.heap.size, w.heap.size + 1] w2).setCell ⟨w.heap.size, 2, none⟩ (.slice A2 c.chain.length n2) (by simp)).setCell ⟨w.heap.size + 1, 0, none⟩ (.int .i64 c.num) (by simp)).setCell ⟨w.heap.size + 1, 1, none⟩ (.int .i64 c.full) (by simp)).setCell ⟨w.heap.size + 1, 2, none⟩ (.slice A2 c.chain.length n2) (by simp)
  have hh : held w2 G (.slice A2 c.chain.length n2) c.chain := ⟨A2, n2, g2, rfl, i2, i3, i4, i5, i6⟩
  have hkk := (H.out.2.2.2.then hk2 (by simp)).then k4 (by simp)
  refine ⟨_, rfl, G, hh.keep k4 (fun y hy hm => ?_), fun y hy => ⟨?_, Nat.lt_of_lt_of_le (hG y hy).2 k4.size⟩, hkk⟩
  · have := (hG y hy).1; simp at hm; omega
  · have := (hG y hy).1; omega

set_option maxHeartbeats 400000 in
theorem masterM_yes (n : Int) (w : World) (h0 : 0 ≤ n) (h1 : n < 3) :
    Calls Try.prog 64 #[.int .i64 n] w fun e w' => e = .returned (.bool true) ∧ w = w' := by
  go_enter Try.func64, Try.ntmps64
  go_wp2
  go_ret
  exact ⟨rfl, rfl⟩
set_option maxHeartbeats 400000 in
theorem masterM_no (n : Int) (w : World) (h : n < 0 ∨ 3 ≤ n) :
    Calls Try.prog 64 #[.int .i64 n] w fun e w' => e = .returned (.bool false) ∧ w = w' := by
  rcases h with h | h
  · have h' : ¬ 0 ≤ n := by omega
    go_enter Try.func64, Try.ntmps64
    go_wp2
    go_ret
    exact ⟨rfl, rfl⟩
  · have h' : 0 ≤ n := by omega
    have h2 : ¬ n < 3 := by omega
    go_enter Try.func64, Try.ntmps64
    go_wp2
    go_ret
    exact ⟨rfl, rfl⟩

def bitsV (x : Nat) : Value := .agg #[.bool (bitB x 0), .bool (bitB x 1), .bool (bitB x 2)]
def cntTo (x : Nat) : Nat → Nat
  | 0 => 0
  | k + 1 => cntTo x k + (if (bitB x k) then 1 else 0)
theorem cntTo_le (x : Nat) : ∀ k, cntTo x k ≤ k
  | 0 => Nat.le_refl _
  | k + 1 => by have := cntTo_le x k; unfold cntTo; split <;> omega
theorem cntTo_count : ∀ x : Nat, x ≤ 7 → cntTo x 3 = countOf x := by decide
theorem bitsRow_at (x k : Nat) (h : k < 3) : (#[Value.bool (bitB x 0), .bool (bitB x 1), .bool (bitB x 2)] : Array Value)[k]? = some (.bool (bitB x k)) := by
  match k, h with
  | 0, _ => rfl
  | 1, _ => rfl
  | 2, _ => rfl
def manyPost (x : Nat) (w : World) (e : Ending) (w' : World) : Prop := e = .returned (.int .i64 (countOf x : Int)) ∧ keepBut [] w w'
def manyRel (x : Nat) (v3 v4 : Value) : Prop := ∃ k : Nat, k ≤ 3 ∧ v4 = .int .i64 (k : Int) ∧ v3 = .int .i64 (cntTo x k : Int)

set_option maxHeartbeats 1000000 in
theorem manyM_any (x : Nat) (hx : x ≤ 7) (w : World) : Calls Try.prog 84 #[bitsV x] w (manyPost x w) := by
  unfold bitsV
  have hr := rowAt.new w 59 #[.bool (bitB x 0), .bool (bitB x 1), .bool (bitB x 2)]
  have hk := (keepBut.refl [] w).alloc (.cells #[.bool (bitB x 0), .bool (bitB x 1), .bool (bitB x 2)] 59)
  have H := Lib.hid (And.intro hr (And.intro hk (cntTo_count x hx)))
  clear hr hk
  go_enter Try.func84, Try.ntmps84
  go_upto_region 1 with fail
  generalize w.alloc (.cells #[.bool (bitB x 0), .bool (bitB x 1), .bool (bitB x 2)] 59) = w1 at *
  go_wp2_with fail
  go_loop [3, 4] (fun v3 v4 => manyRel x v3 v4) (fun v3 v4 => 3 - (intOf v4).toNat)
  case atStart => exact ⟨0, by omega, rfl, rfl⟩
  case round =>
    obtain ⟨k, hk, rfl, rfl⟩ := hrel
    by_cases hlt : k < 3
    · have hlt' : (k : Int) < 3 := by omega
      have hc := (H.out.1.cell k).trans (bitsRow_at x k hlt)
      have hle := cntTo_le x k
      have HS := Lib.hid (show cntTo x (k + 1) = cntTo x k + (if (bitB x k) then 1 else 0) from rfl)
      generalize (bitB x k) = b at hc HS
      generalize cntTo x k = z at hle HS ⊢
      cases b
      all_goals
        go_wp2_with fail
        go_round
        case rel => exact ⟨k + 1, by omega, by go_num, by rw [HS.out]; go_num⟩
        case measure => simp [intOf]; omega
    · obtain rfl : k = 3 := by omega
      go_wp2_with fail
      go_ret
      rw [H.out.2.2]
      exact ⟨rfl, H.out.2.1⟩

set_option maxHeartbeats 1000000 in
theorem sameConf_any (F F2 : List Nat) (c : CS) (cv dv : Value) (w : World) (h : held w F cv c.chain) (h' : held w F2 dv c.chain) :
    Calls Try.prog 34 #[confV c cv, confV c dv] w fun e w' => e = .returned (.bool true) ∧ keepBut [] w w' := by
  unfold confV
  obtain ⟨A, n, g, rfl, h2⟩ := id h
  obtain ⟨B, m, g', rfl, h2'⟩ := id h'
  have k1 := (keepBut.refl [] w).alloc (.cells #[.int .i64 c.num, .int .i64 c.full, .slice A c.chain.length n] 55)
  have k2 := (keepBut.refl [] (w.alloc (.cells #[.int .i64 c.num, .int .i64 c.full, .slice A c.chain.length n] 55))).alloc (.cells #[.int .i64 c.num, .int .i64 c.full, .slice B c.chain.length m] 55)
  have kk := k1.then k2 (by simp)
  have HE := Lib.hid (eqInts_any F F2 _ _ _ _ _ (h.keep kk (by simp)) (h'.keep kk (by simp)))
  have HK := Lib.hid kk
  clear k1 k2 kk h h' h2 h2'
  go_enter Try.func34, Try.ntmps34
  go_wp2_with (go_at_call 74; refine HE.out.mono ?_; rintro e w' ⟨rfl, k3⟩)
  go_ret
  exact ⟨by simp, HK.out.then k3 (by simp)⟩

def newMPost (id : Int) (w : World) (e : Ending) (w' : World) : Prop :=
  ∃ q G, e = .returned (.tuple #[.pointer (some ⟨q, 0, none⟩), .int .i64 0]) ∧ isM w' q G (LS.new id) ∧ (∀ y ∈ G, w.heap.size ≤ y) ∧ keepBut [] w w'
def newRow (id : Int) : Array Value := #[.int .i64 id, .int .i64 0, .int .i64 0, .int .i64 0, .bool false, .bool false, .bool false, .slice none 0 0, .bool false, .int .i64 0, .int .i64 0, .slice none 0 0, .bool false, .bool false, .bool false]
theorem rowM_new (id : Int) : rowM (LS.new id) (.slice none 0 0) (.slice none 0 0) 0 = newRow id := by simp [rowM, LS.new, CS.zero, bitB, newRow]
set_option maxHeartbeats 1000000 in
theorem newM_any (id : Int) (w : World) (h0 : 0 ≤ id) (h1 : id < 3) : Calls Try.prog 28 #[.int .i64 id] w (newMPost id w) := by
  have hr := rowAt.new w 61 (newRow id)
  have hk := (keepBut.refl [] w).alloc (.cells (newRow id) 61)
  have H := Lib.hid (And.intro hr hk)
  clear hr hk
  go_enter Try.func28, Try.ntmps28
  go_wp2_with (go_at_call 64; refine (masterM_yes id _ h0 h1).mono ?_; rintro e w' ⟨rfl, rfl⟩)
  go_ret2
  refine ⟨w.heap.size, [w.heap.size], rfl, ⟨_, _, [], [], 0, (rowM_new id).symm ▸ H.out.1, owns.nil _ _ _, rfl, by simp, held.nil _ _, fun _ => rfl, by omega, by simp, by simp [homes_none], by simp, by simp, by simp [homes_none], fun y hy => by rw [List.mem_singleton.1 hy]; exact H.out.1.lt⟩, by simp, H.out.2⟩
theorem newM_no (id : Int) (w : World) (h : id < 0 ∨ 3 ≤ id) : Calls Try.prog 28 #[.int .i64 id] w fun e w' => e = .returned (.tuple #[.pointer none, .int .i64 2]) ∧ w = w' := by
  go_enter Try.func28, Try.ntmps28
  go_wp2_with (go_at_call 64; refine (masterM_no id _ h).mono ?_; rintro e w' ⟨rfl, rfl⟩)
  go_ret2
  exact ⟨rfl, rfl⟩
end Go.Proofs.Ytbjonlfjfjlelaa
