/-
  VIEW: the rows that a filter takes.
-/
import Derived.Test.YtjipokilidhnoaaViewGrown
namespace Go.Proofs.Ytjipokilidhnoaa
open Go.RowKit Go.Shelf
set_option linter.unusedVariables false
set_option maxRecDepth 100000
attribute [local go_sem] Oper.semAt_some

/-- the block y is a block of cells -/
def isC (w : World) (y : Nat) : Bool := match w.heap[y]? with | some o => o.isCells | none => false
theorem isC_row {w : World} {g : Nat} {t : TypeId} {cs : Array Value} (h : rowAt w g t cs) : isC w g = true := by
  unfold rowAt at h
  unfold isC
  rw [h]
  rfl
theorem isC_cell {w : World} {g o : Nat} {v : Value} (h : w.cell? ⟨g, o, none⟩ = some v) : isC w g = true := by
  unfold isC
  cases e : w.heap[g]? with
  | none => unfold World.cell? at h; simp [e] at h
  | some x =>
    cases hc : x.isCells with
    | true => exact hc
    | false => unfold World.cell? at h; cases x <;> simp_all [Obj.isCells]
theorem isV.narrow {w : World} {p : Nat} {F : List Nat} {l : List VR} (h : isV w p F l) : ∃ F0, isV w p F0 l ∧ (∀ y ∈ F0, y ∈ F) ∧ ∀ y ∈ F0, isC w y = true := by
  obtain ⟨vb, T, C, h, e⟩ := h
  have hv : ∀ y ∈ homes vb, isC w y = true := fun y hy => by
    rcases h.own.2 with ⟨rfl, _⟩ | ⟨g, cap, cur, rfl, hg, rest⟩
    · simp [homes_none] at hy
    · rw [homes_some, List.mem_singleton] at hy; subst hy; exact isC_row hg
  have m : ∀ {L : List Nat} {y : Nat}, y ∈ L.filter (fun y => isC w y) ↔ y ∈ L ∧ isC w y = true := fun {L y} => by rw [List.mem_filter]
  refine ⟨F.filter (fun y => isC w y), ⟨vb, T, C.filter (fun y => isC w y), ⟨h.row, h.own, fun t ht => ?_, m.2 ⟨h.pF, isC_row h.row⟩, fun y hy => m.2 ⟨h.vF y hy, hv y hy⟩, fun y hy => m.2 ⟨h.cF y (m.1 hy).1, (m.1 hy).2⟩, fun hp => h.pC (m.1 hp).1, fun y hy hc => h.vC y hy (m.1 hc).1, fun y hy => h.lt y (m.1 hy).1⟩, e⟩, fun y hy => (m.1 hy).1, fun y hy => (m.1 hy).2⟩
  obtain ⟨A, c, g, h1, h2, h3, h4, h5, h6⟩ := h.byt t ht
  refine ⟨A, c, g, h1, h2, h3, h4, h5, fun hl => m.2 ⟨h6 hl, ?_⟩⟩
  obtain ⟨o, e1, e2, e3⟩ := h5 hl
  cases hb : t.1.bytes with
  | nil => exact absurd hb hl
  | cons b r => exact isC_cell (e3 0 b (by rw [hb]; rfl))
theorem keepBut.others {S : List Nat} {w w' : World} (h : keepBut S w w') (hS : ∀ y ∈ S, isC w y = true) : KeepsOthers w w' :=
  ⟨h.size, fun k o hk ho => (h.block k (Array.getElem?_eq_some_iff.1 hk).1 (fun hm => by have h1 := hS k hm; unfold isC at h1; rw [hk] at h1; simp [ho] at h1)).trans hk⟩

theorem keepBut_of_below {a b : World} (h : Below a.heap.size a b) : keepBut [] a b := by
  obtain ⟨h1, h2, h3, h4, h5⟩ := h
  exact ⟨h1, h2, h3, h4, fun k hk _ => h5 k hk⟩
theorem cellNewV (W : World) (v : Value) (t : TypeId) : (W.alloc (.cells #[v] t)).cell? ⟨W.heap.size, 0, none⟩ = some v := (rowAt.new W t #[v]).cell 0
def someI (w : World) (q B0 : Nat) (Bs : List Nat) (W : World) (rows : List VR) : Prop := ∃ F', isV W q F' rows ∧ (∀ y ∈ F', w.heap.size ≤ y ∧ y ∉ Bs) ∧ W.cell? ⟨B0, 0, none⟩ = some (.pointer (some ⟨q, 0, none⟩)) ∧ B0 + 2 < W.heap.size ∧ Below w.heap.size w W
theorem someI.grown {w W W' : World} {q B0 B : Nat} {Bs : List Nat} {rows : List VR} {row : Option Nat} (h : someI w q B0 Bs W rows) (hB : w.heap.size ≤ B) (hg : W.grownBy W' row) (hr : ∀ r, row = some r → B ≤ r ∧ ∃ o : Obj, W.heap[r]? = some o ∧ o.isCells = false) : someI w q B0 Bs W' rows := by
  obtain ⟨F', h1, h2, h3, h5, h4⟩ := h
  have hr' : ∀ r, row = some r → ∃ o : Obj, W.heap[r]? = some o ∧ o.isCells = false := fun r e => (hr r e).2
  exact ⟨F', h1.grown hg hr', h2, cell_kept h3 hg hr', Nat.lt_of_lt_of_le h5 hg.size, h4.grown hg (Nat.le_trans (Nat.le_refl _) h4.size) (fun k e => Nat.le_trans hB (hr k e).1)⟩
def somePost (l : List VR) (w : World) (e : Ending) (w' : World) : Prop := ∃ q G, e = .returned (.pointer (some ⟨q, 0, none⟩)) ∧ isV w' q G l ∧ (∀ y ∈ G, w.heap.size ≤ y) ∧ keepBut [] w w'
set_option maxHeartbeats 4000000 in
theorem someV_any (p : Nat) (F : List Nat) (l : List VR) (gf X : Nat) (u : Value) (f : VR → Bool) (w : World) (h : isV w p F l) (hl : l.length ≤ 20000) (hX : w.cell? ⟨X, 0, none⟩ = some u)
    (eg : ∀ args w, (callFunc gf args).run Try.prog w = .ok (.enter gf args) w)
    (hft : ∀ (W : World) (s nd kd : Int) (b : List UInt8) (A : Option Addr) (c : Nat), W.cell? ⟨X, 0, none⟩ = some u → CallsIn Fence.wide 8 Try.prog gf #[.agg #[.int .i64 s, .int .i64 nd, .int .i64 kd, .slice A b.length c], .pointer (some ⟨X, 0, none⟩)] W fun e W' => e = .returned (.bool (f ⟨s, nd, kd, b⟩)) ∧ keepBut [] W W') :
    Calls Try.prog 40 #[.pointer (some ⟨p, 0, none⟩), .func (.func gf) #[] #[.pointer (some ⟨X, 0, none⟩)]] w (somePost (l.filter f) w) := by
  have HH := Lib.hid (And.intro h hX)
  clear h hX
  have hfn : ∀ k, Fence.wide.fn k := fun _ => trivial
  refine (callsIn_wide (n := 10)).1 ?_
  refine callsIn_of_wp_marks Try.func40 rfl trivial ?_ rfl
  simp only [Try.ntmps40, List.size_toArray, List.length_cons, List.length_nil, Nat.reduceAdd, Nat.reduceSub, Array.replicate_succ, Array.replicate_zero, List.push_toArray, List.append_toArray, List.nil_append, List.cons_append]
  gi_wp2_with (gi_at_call 29; refine (callsIn_wide.2 (noneV_any p F l _ HH.out.1)).mono ?_; rintro e w' ⟨rfl, rfl⟩)
  refine (callsIn_wide.2 (newV_any _)).mono ?_
  rintro e w2 ⟨q, G, rfl, h2, hG, k2⟩
  have ka := k2.alloc (.cells #[.pointer (some ⟨q, 0, none⟩)] 24)
  have cb0 := cellNewV w2 (.pointer (some ⟨q, 0, none⟩)) 24
  have H2 := Lib.hid (And.intro h2 (And.intro hG (And.intro k2 ka)))
  clear h2 hG k2 ka
  gi_wp2_with fail
  refine (eachR_in Fence.wide 9 (hfn _) rfl _ _ _ rfl).mono ?_
  rintro e w3 ⟨rfl, k3, c31, c32⟩
  obtain ⟨wa, hwa⟩ : ∃ wa, w2.alloc (.cells #[.pointer (some ⟨q, 0, none⟩)] 24) = wa := ⟨_, rfl⟩
  have hsz : wa.heap.size = w2.heap.size + 1 := by rw [← hwa]; simp
  have HN := H2.out
  rw [hwa] at HN k3 c31 c32 cb0 ⊢
  obtain ⟨B0, hB0⟩ : ∃ B0, w2.heap.size = B0 := ⟨_, rfl⟩
  rw [hB0] at hsz cb0 ⊢
  rw [hsz] at c31 c32 ⊢
  obtain ⟨h2, hG, k2, ka⟩ := HN
  clear H2
  obtain ⟨hv, hX⟩ := HH.out
  have hwB : w.heap.size ≤ B0 := by rw [← hB0]; exact k2.size
  have k03 : keepBut [] w w3 := ka.then k3 (by simp)
  have hq3 : isV w3 q G [] := (h2.over (w' := wa) (by rw [← hwa]; exact (keepBut.refl [] w2).alloc _)).over k3
  have hGl : ∀ y ∈ G, y < B0 := fun y hy => by rw [← hB0]; exact h2.lt y hy
  have cb03 : w3.cell? ⟨B0, 0, none⟩ = some (.pointer (some ⟨q, 0, none⟩)) := (k3.cell (p := ⟨B0, 0, none⟩) (by simp [hsz]) (by simp)).trans cb0
  have hX3 : w3.cell? ⟨X, 0, none⟩ = some u := (k03.cell (p := ⟨X, 0, none⟩) (World.block_lt_of_cell? w _ hX) (by simp)).trans hX
  have hXl := World.block_lt_of_cell? w _ hX
  have hB3 : B0 + 2 < w3.heap.size := World.block_lt_of_cell? w3 _ c32
  have hv3 := hv.over k03
  have hFl := hv.lt
  obtain ⟨vb, T, C, hvv, rfl⟩ := hv
  have hv3 := hvv.keep k03 (by simp)
  have hTl : T.length ≤ 20000 := by simpa using hl
  have h0 : someI w q B0 [B0, B0 + 1, B0 + 2] w3 [] := ⟨G, hq3, fun y hy => ⟨hG y hy, by have := hGl y hy; simp; omega⟩, cb03, hB3, k03.below _ (Nat.le_refl _) (by simp)⟩
  have HI := Lib.hid (And.intro hwB (And.intro hXl (And.intro hFl hB3)))
  clear hl hG k2 ka h2 hGl cb03 hB0 hwa cb0 k3 k03 hsz HH hX hq3
  gi_wp2_with fail
  refine wpIn_rangeFunc_ownH (w := w3) (w0 := w3) rfl (by omega) (gf := 60) (lb := #[.pointer (some ⟨B0 + 1, 0, none⟩), .pointer (some ⟨B0 + 1 + 1, 0, none⟩)]) rfl (hfn _) (enters_of Try.func60 (by kernel_rfl) rfl)
    (eachR_stops Fence.wide 9 gf (hfn _) (hfn _) eg rfl (by omega) w3 (B0 + 1) (B0 + 1 + 1) X p u F C vb T f hv3 hTl c31 c32 hX3 (fun W t ht hXW => by
      obtain ⟨⟨s, nd, kd, b⟩, tv⟩ := t
      obtain ⟨A', n', gb, ebv, -⟩ := id (hv3.byt _ ht)
      dsimp only at ebv
      subst ebv
      exact hft W s nd kd b A' n' hXW))
    keepCells.trans (fun W l o o' _ h hc _ => keepCells.put _ W l o o' h hc) (Below.refl _ _) (fun _ => rfl)
    (fun (pre : List {t : VR × Value // t ∈ T}) W => someI w q B0 [B0, B0 + 1, B0 + 2] W (pre.map (fun x => x.1.1)))
    (fun _ _ _ => False)
    (fun s A B row hs hg hr => by exact someI.grown hs (Nat.le_trans HI.out.1 (Nat.le_of_lt (by have := HI.out.2.2.2; omega))) hg hr)
    (fun _ _ _ _ _ hs _ _ => hs)
    h0
    (fun (x : {t : VR × Value // t ∈ T}) a' W => ∃ b, rowAt W b 46 #[.int .i64 x.1.1.step, .int .i64 x.1.1.node, .int .i64 x.1.1.kind, x.1.2] ∧ a' = { tmps := #[.pointer (some ⟨p, 0, none⟩), .func (.func gf) #[] #[.pointer (some ⟨X, 0, none⟩)], undef, undef, .pointer none, .pointer (some ⟨B0, 0, none⟩), .pointer (some ⟨b, 0, none⟩), .pointer (some ⟨p, 0, none⟩), .bool false, .pointer (some ⟨q, 0, none⟩), .pointer (some ⟨p, 0, none⟩), .pointer (some ⟨p, 0, none⟩), .pointer (some ⟨p, 1, none⟩), .func (.func gf) #[] #[.pointer (some ⟨X, 0, none⟩)], .agg #[.func (.func gf) #[] #[.pointer (some ⟨X, 0, none⟩)]], .func (.func 60) #[] #[.pointer (some ⟨B0 + 1, 0, none⟩), .pointer (some ⟨B0 + 1 + 1, 0, none⟩)], rowT x.1, undef, undef, undef, undef, undef, undef, undef], defers := [] })
    ?ax ?assign ?body ?done ?stop
  case ax =>
    rintro x a' s A B row ⟨b, hb, e⟩ hg hr
    exact ⟨b, hb.grown hg (fun r e => (hr r e).2), e⟩
  case assign =>
    rintro lo pre ⟨⟨⟨s, nd, kd, b⟩, tv⟩, ht⟩ W K hi hK
    obtain ⟨A', n', gb, ebv, -⟩ := id (hv3.byt _ ht)
    dsimp only at ebv
    subst ebv
    unfold rowT
    dsimp only
    gi_wp2_with fail
    exact hK _ _ ((KeepsOthers.alloc W _).from _) (keepCells.of_keep ((keepBut.refl [] W).alloc _) (by simp)) (hi.grown (Nat.le_refl _) (World.grownBy_alloc W _ none) (fun r e => by cases e)) ⟨_, rowAt.new W _ _, rfl⟩
  case body =>
    rintro lo pre ⟨⟨⟨s, nd, kd, b⟩, tv⟩, ht⟩ a' W hlo hrec ⟨F', hq, hF', hc0, hBW, hBl⟩ ⟨bx, hbx, rfl⟩ hpl
    obtain ⟨F0, hq0, hF0, hcs⟩ := hq.narrow
    have hb := (hvv.byt _ ht).keep (keepBut_of_below hBl) (by simp)
    obtain ⟨A', n', gb, ebv, -⟩ := id hb
    dsimp only at ebv
    subst ebv
    dsimp only at hb hbx
    have hb' := (hb.keep ((keepBut.refl [] W).drew) (by simp))
    have d5 : W.drew.cell? ⟨B0, 0, none⟩ = some (.pointer (some ⟨q, 0, none⟩)) := hc0
    have e0 : W.drew.cell? ⟨bx, 0, none⟩ = some (.int .i64 s) := hbx.cell 0
    have e1 : W.drew.cell? ⟨bx, 1, none⟩ = some (.int .i64 nd) := hbx.cell 1
    have e2 : W.drew.cell? ⟨bx, 2, none⟩ = some (.int .i64 kd) := hbx.cell 2
    have e3 : W.drew.cell? ⟨bx, 3, none⟩ = some (.slice A' b.length n') := hbx.cell 3
    have HB := Lib.hid (And.intro hb' (And.intro hq0 (And.intro hF' (And.intro hF0 (And.intro hcs (And.intro hBl (And.intro hc0 hv3)))))))
    have hpl2 : pre.length ≤ 20000 := by omega
    clear hb hb' hq0 hF' hF0 hcs hBl hbx hq hrec hft hvv hv3 eg hc0 h0 hX3 c31 c32
    unfold rowT
    dsimp only
    gi_wp2_with fail
    gi_region_with (first
      | (gi_at_call 42
         refine ((callsIn_wide.2 (copiedR_any C s nd kd b A' n' _ HB.out.1)).inRound lo).mono ?_
         rintro e W2 ⟨A2, c2, rfl, G2, hb2, hG2, k2⟩
         have d52 : W2.cell? ⟨B0, 0, none⟩ = some (.pointer (some ⟨q, 0, none⟩)) := (k2.cell (p := ⟨B0, 0, none⟩) (World.block_lt_of_cell? _ _ d5) (by simp)).trans d5
         have hq2 := HB.out.2.1.over (((keepBut.refl [] W).drew).then k2 (by simp))
         have H2 := Lib.hid (And.intro hq2 (And.intro hb2 (And.intro hG2 k2)))
         clear hq2 hb2 hG2 k2)
      | (gi_at_call 27
         refine ((callsIn_wide.2 (addR_n q F0 G2 (pre.map (fun x => x.1.1)) s nd kd b A2 c2 _ H2.out.1 H2.out.2.1 (fun y hy => ⟨fun h => by have h1 := (H2.out.2.2.1 y hy).1; have h2 := HB.out.2.1.lt y h; simp at h1; omega, (H2.out.2.2.1 y hy).2⟩) (by simp; omega))).inRound lo).mono ?_
         rintro e W3 ⟨rfl, F3, h3, k3, hF3⟩
         have H3 := Lib.hid (And.intro h3 (And.intro k3 hF3))
         clear h3 k3 hF3))
    all_goals
      gi_wp2_with fail
      have kk : keepBut F0 W W3 := ((keepBut.refl F0 W).drew.then H2.out.2.2.2 (by simp)).then H3.out.2.1 (fun x hx => .inl hx)
      have hnb : ∀ y ∈ F0, w.heap.size ≤ y ∧ y ∉ [B0, B0 + 1, B0 + 2] := fun y hy => HB.out.2.2.1 y (HB.out.2.2.2.1 y hy)
      refine ⟨(kk.others HB.out.2.2.2.2.1).from _, keepCells.of_keep kk (fun y hy hm => ?_), F3, ?_, fun y hy => ?_, ?_, Nat.lt_of_lt_of_le hBW kk.size, HB.out.2.2.2.2.2.1.trans (kk.below _ HB.out.2.2.2.2.2.1.size (fun x hx => (hnb x hx).1))⟩
      · have h1 := hnb y hm
        simp only [List.mem_cons, List.not_mem_nil, or_false, not_or] at h1
        rcases List.mem_cons.1 hy with rfl | hy
        · omega
        · rcases List.mem_cons.1 hy with rfl | hy
          · omega
          · rcases List.mem_cons.1 hy with rfl | hy
            · omega
            · have := hFl y hy; omega
      · rw [List.map_append]
        exact H3.out.1
      · rcases H3.out.2.2 y hy with h1 | h1 | h1
        · exact hnb y h1
        · have h2 := (H2.out.2.2.1 y h1).1
          have h4 := HB.out.2.2.2.2.2.1.size
          simp at h2 ⊢
          omega
        · have h2 := H2.out.2.2.2.size
          have h4 := HB.out.2.2.2.2.2.1.size
          simp at h2 ⊢
          omega
      · exact (kk.cell (p := ⟨B0, 0, none⟩) (World.block_lt_of_cell? _ _ HB.out.2.2.2.2.2.2.1) (fun hm => (hnb _ hm).2 (by simp))).trans HB.out.2.2.2.2.2.2.1
  case done =>
    rintro D ys W hD hS ⟨F', hq, hF', hc0, hBW, hBl⟩ hK
    gi_wp2_with fail
    refine ⟨by simp, .inl ⟨_, _, rfl, run_takeDeferred hK, ?_⟩⟩
    have hrows : ys.map (fun x => x.1.1) = (T.map (·.1)).filter f := by
      have h1 := congrArg (List.map (·.1)) hS
      rw [List.map_map] at h1
      rw [List.filter_map]
      exact h1
    have hBD := belowK_b (w := w) (Nat.le_refl _) W D _ (.deferred none) (by have h1 := hBl.size; have h2 := HI.out.1; have h3 := HI.out.2.2.2; omega) hK rfl rfl
    refine ⟨_, results_tmp rfl _ _ _, q, F', rfl, ?_, fun y hy => (hF' y hy).1, keepBut_of_below (hBl.trans hBD)⟩
    rw [← hrows]
    exact hq.grown (grownBy_putObj' W D _) (fun r e => by cases e; exact ⟨_, hK, rfl⟩)
  case stop =>
    rintro D c pre W _ _ h _
    exact h.elim
end Go.Proofs.Ytjipokilidhnoaa
