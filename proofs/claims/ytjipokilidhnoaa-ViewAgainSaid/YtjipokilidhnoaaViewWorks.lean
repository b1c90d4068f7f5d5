/-
  VIEW: the statements' own 'works'.
-/
import Derived.Test.YtjipokilidhnoaaViewRow
namespace Go.Proofs.Ytjipokilidhnoaa
open Go.RowKit
set_option linter.unusedVariables false
set_option maxRecDepth 100000

theorem seen_new (w : World) (e : TypeId) (l : List UInt8) (cs : Array Value) (fr : Nat × Nat) (hcs : cs = (l.map bv).toArray) : seen (w.alloc (.cells cs e fr)) (some ⟨w.heap.size, 0, none⟩) w.heap.size l := by
  subst hcs
  intro _
  refine ⟨0, rfl, by simp, fun j b hb => ?_⟩
  rw [cell_of_row _ _ _ _ e fr (heap_alloc_new w _)]
  simp [hb]
theorem count_le (s : WS) (n : Int) : (s.count n).b.length ≤ s.b.length + 8 := by
  unfold WS.count
  split
  · split
    · simp
    · rename_i h
      have := cb_len_le n.toNat (by omega)
      simp only [List.length_append]
      omega
  · omega
theorem text_le (s : WS) (b : List UInt8) : (s.text b).b.length ≤ s.b.length + 8 + b.length := by
  have := count_le s b.length
  unfold WS.text WS.raw
  split
  · simp only [List.length_append]; omega
  · omega
theorem encTo_len (l : List VR) (hl : ∀ r ∈ l, r.bytes.length ≤ 65536) : ∀ k, k ≤ l.length → (encTo l k).b.length ≤ 8 + k * 65560
  | 0, _ => by have := count_le ⟨[], 0⟩ l.length; exact this
  | k + 1, h => by
    obtain ⟨r, hr⟩ : ∃ r, l[k]? = some r := ⟨_, List.getElem?_eq_getElem (by omega)⟩
    rw [encTo_at hr]
    unfold encStep
    have h0 := encTo_len l hl k (by omega)
    have h1 := count_le (encTo l k) (r.step - lastOf (l.take k))
    have h2 := num1_le ((encTo l k).count (r.step - lastOf (l.take k))) r.node
    have h3 := num1_le (((encTo l k).count (r.step - lastOf (l.take k))).num 1 r.node) r.kind
    have h4 := text_le ((((encTo l k).count (r.step - lastOf (l.take k))).num 1 r.node).num 1 r.kind) r.bytes
    have h5 := hl r (List.mem_of_getElem? hr)
    omega
def oneA : Array Value := #[.int .i64 1, .int .i64 0, .int .i64 0]
theorem plainInt3 : Try.prog.plainKey 3 = true := by kernel_rfl
theorem infoInt3 : (Try.prog.info? 3).map (fun i => (i.zero, i.size, i.bytes)) = some (some (.int .i64 0), 1, 8) := by kernel_rfl
theorem one_lits : (List.range 3).mapM (fun i => Try.prog.keyLits 1 3 ((oneA.toList.drop (i * Try.prog.cellsOf 3)).take (Try.prog.cellsOf 3))) = some [[Lit.int .i64 1], [Lit.int .i64 0], [Lit.int .i64 0]] := by kernel_rfl
theorem eq3_ex (w : World) : (Op.equalIn 10000 43 (.agg #[.int .i64 1, .int .i64 0, .int .i64 0]) (.agg #[.int .i64 1, .int .i64 0, .int .i64 0])).run Try.prog w = .ok true w := by
  obtain ⟨i0, hi0, _⟩ := info_parts infoInt3
  obtain ⟨r, hr, hiff⟩ := run_eqItems_plain (P := Try.prog) w 9998 plainInt3 oneA oneA _ _ _ one_lits one_lits
  have h := run_equalIn_array (P := Try.prog) (w := w) 9999 oneA oneA Try.underlying43 hi0
  rw [show (9999 : Nat) + 1 = 10000 from rfl] at h
  refine h.trans ?_
  rw [show (9999 : Nat) = 9998 + 1 from rfl, hr, hiff.2 rfl]
/-- nothing that was there has changed; the answer is yes -/
def yesPost (w : World) (e : Ending) (w' : World) : Prop := e = .returned (.bool true) ∧ keepBut [] w w'
def worksMid (w0 W : World) (v3 v4 v5 : Value) : Prop := ∃ (p q r : Nat) (F G H : List Nat), v3 = .pointer (some ⟨p, 0, none⟩) ∧ v4 = .pointer (some ⟨q, 0, none⟩) ∧ v5 = .pointer (some ⟨r, 0, none⟩) ∧
  isV W p F [rowEa, rowEb] ∧ isV W q G [rowEa] ∧ isV W r H [rowEb] ∧ (∀ y ∈ H, y ∉ F ∧ y ∉ G ∧ w0.heap.size ≤ y) ∧ keepBut [] w0 W
theorem heldB.ltB {w : World} {x : Nat} {v : Value} {b : UInt8} {r : List UInt8} (h : heldB w [x] v (b :: r)) : x < w.heap.size := by
  obtain ⟨A, c, g, h1, h2, h3, h4, h5, h6⟩ := h
  obtain ⟨o, e1, e2, e3⟩ := h5 (by simp)
  have := h6 (by simp)
  rw [List.mem_singleton] at this
  omega
theorem ofL_n {G : List Nat} {A : Option Addr} {n c : Nat} {l : List VR} {w : World} (h : rowsV w G A l) (hg : goodV l) (hn : l.length = n) (hc : n ≤ c) :
    Calls Try.prog 9 #[.slice A n c] w (ofLPost l w) := by subst hn; exact ofL_any G A c l w h hg hc
theorem cells8 {wb w' : World} {a b : Nat} {u0 u1 u2 u3 v0 v1 v2 v3 : Value} (hk : keepBut [] wb w') (ra : rowAt wb a 46 #[u0, u1, u2, u3]) (rb : rowAt wb b 46 #[v0, v1, v2, v3]) :
    (w'.cell? ⟨a, 0, none⟩ = some u0 ∧ w'.cell? ⟨a, 1, none⟩ = some u1 ∧ w'.cell? ⟨a, 2, none⟩ = some u2 ∧ w'.cell? ⟨a, 3, none⟩ = some u3) ∧ w'.cell? ⟨b, 0, none⟩ = some v0 ∧ w'.cell? ⟨b, 1, none⟩ = some v1 ∧ w'.cell? ⟨b, 2, none⟩ = some v2 ∧ w'.cell? ⟨b, 3, none⟩ = some v3 :=
  ⟨⟨(hk.row ra (by simp)).cell 0, (hk.row ra (by simp)).cell 1, (hk.row ra (by simp)).cell 2, (hk.row ra (by simp)).cell 3⟩, (hk.row rb (by simp)).cell 0, (hk.row rb (by simp)).cell 1, (hk.row rb (by simp)).cell 2, (hk.row rb (by simp)).cell 3⟩
set_option maxHeartbeats 8000000 in
theorem worksV_any (w : World) : Calls Try.prog 13 #[] w (yesPost w) := by
  have ka := (keepBut.refl [] w).alloc (.cells #[.int .u8 7] 5)
  have sa := seen_new w 5 [7] #[.int .u8 7] (0, 0) rfl
  go_enter Try.func13, Try.ntmps13
  go_wp2_with fail
  refine (row_any 1 10 1 (some ⟨w.heap.size, 0, none⟩) 1 1 _).mono ?_
  rintro e w2 ⟨rfl, k2⟩
  have k02 := ka.then k2 (by simp)
  have kb := (keepBut.refl [] w2).alloc (.cells #[.int .u8 8, .int .u8 9] 5)
  have sb := seen_new w2 5 [8, 9] #[.int .u8 8, .int .u8 9] (0, 0) rfl
  go_wp2_with fail
  refine (row_any 3 0 2 (some ⟨w2.heap.size, 0, none⟩) 2 2 _).mono ?_
  rintro e w4 ⟨rfl, k4⟩
  have k24 := kb.then k4 (by simp)
  have hx4 : heldB w4 [w.heap.size] (.slice (some ⟨w.heap.size, 0, none⟩) 1 1) [7] := ⟨_, 1, w.heap.size, rfl, by simp, by unfold maxLen; omega, by simp, (sa.keep k2 (by simp)).keep k24 (by simp), by simp⟩
  have hy4 : heldB w4 [w2.heap.size] (.slice (some ⟨w2.heap.size, 0, none⟩) 2 2) [8, 9] := ⟨_, 2, w2.heap.size, rfl, by simp, by unfold maxLen; omega, by simp, sb.keep k4 (by simp), by simp⟩
  have k04 := k02.then k24 (by simp)
  obtain ⟨x, hxe⟩ : ∃ x, w.heap.size = x := ⟨_, rfl⟩
  obtain ⟨y, hye⟩ : ∃ y, w2.heap.size = y := ⟨_, rfl⟩
  rw [hxe] at hx4 ⊢
  rw [hye] at hy4 ⊢
  have ra := rowAt.new w4 46 #[.int .i64 1, .int .i64 10, .int .i64 1, .slice (some ⟨x, 0, none⟩) 1 1]
  have kc := (keepBut.refl [] w4).alloc (.cells #[.int .i64 1, .int .i64 10, .int .i64 1, .slice (some ⟨x, 0, none⟩) 1 1] 46)
  have rb := rowAt.new (w4.alloc (.cells #[.int .i64 1, .int .i64 10, .int .i64 1, .slice (some ⟨x, 0, none⟩) 1 1] 46)) 46 #[.int .i64 3, .int .i64 0, .int .i64 2, .slice (some ⟨y, 0, none⟩) 2 2]
  have kd := (keepBut.refl [] (w4.alloc (.cells #[.int .i64 1, .int .i64 10, .int .i64 1, .slice (some ⟨x, 0, none⟩) 1 1] 46))).alloc (.cells #[.int .i64 3, .int .i64 0, .int .i64 2, .slice (some ⟨y, 0, none⟩) 2 2] 46)
  rw [World.size_alloc] at rb
  have rad := kd.row ra (by simp)
  have kcd := kc.then kd (by simp)
  have H4 := Lib.hid (And.intro rad (And.intro rb (And.intro kcd (And.intro k04 (And.intro hx4 hy4)))))
  clear ka sa k2 k02 kb sb k4 k24 hx4 hy4 k04 hye ra kc rb kd rad kcd
  go_upto_region 2 with fail
  obtain ⟨w6, hw6⟩ : ∃ w6, (w4.alloc (.cells #[.int .i64 1, .int .i64 10, .int .i64 1, .slice (some ⟨x, 0, none⟩) 1 1] 46)).alloc (.cells #[.int .i64 3, .int .i64 0, .int .i64 2, .slice (some ⟨y, 0, none⟩) 2 2] 46) = w6 := ⟨_, rfl⟩
  obtain ⟨a, hae⟩ : ∃ a, w4.heap.size = a := ⟨_, rfl⟩
  have HN := H4.out
  rw [hw6, hae] at HN
  rw [hw6, hae]
  obtain ⟨ra, rb, kcd, k04, hx4, hy4⟩ := HN
  have k06 := k04.then kcd (by simp)
  have hx := hx4.keep kcd (by simp)
  have hy := hy4.keep kcd (by simp)
  clear H4 kcd k04 hx4 hy4 hw6 hae hxe
  have HR := Lib.hid (And.intro ra (And.intro rb k06))
  go_cut [3, 4, 5, 10, 11, 12, 13, 14, 15, 16, 17, 18, 19] (fun v3 v4 v5 _ _ _ _ _ _ _ _ _ _ wx => worksMid w6 wx v3 v4 v5)
  case first =>
    have kd := (keepBut.refl [] w6).drew
    have ra' := kd.row ra (by simp)
    have rb' := kd.row rb (by simp)
    have hx' := hx.keep kd (by simp)
    have hy' := hy.keep kd (by simp)
    have k0b := kd
    have kW := keepBut.refl [] w6.drew
    clear ra rb hx hy k06 kd HR
    refine wp_region_held_drew (S := fun w' => keepBut [] w6.drew w') (by kernel_rfl) kW (fun _ => ?_)
    obtain ⟨wd, hwd⟩ : ∃ wd, w6.drew = wd := ⟨_, rfl⟩
    rw [hwd] at ra' rb' hx' hy' k0b kW ⊢
    clear hwd
    refine wpAnyH_take (i := 0) (oi := ⟨_, _, _, _, _, _⟩) (v := ?_) rfl (by kernel_rfl) (by kernel_rfl) (by kernel_rfl) (fun _ _ _ h => h) (Or.inl ⟨by rfl, ?_⟩) kW ?_
    rotate_left
    · intro w' hSw; obtain ⟨⟨e0, e1, e2, e3⟩, e4, e5, e6, e7⟩ := cells8 hSw ra' rb'; (go_simp; try with_reducible rfl)
    try simp only [Act.put, List.setIfInBounds_toArray, List.set_cons_zero, List.set_cons_succ]
    refine wpAnyH_take (i := 1) (oi := ⟨_, _, _, _, _, _⟩) (v := ?_) rfl (by kernel_rfl) (by kernel_rfl) (by kernel_rfl) (fun _ _ _ h => h) (Or.inl ⟨by rfl, ?_⟩) kW ?_
    rotate_left
    · intro w' hSw; obtain ⟨⟨e0, e1, e2, e3⟩, e4, e5, e6, e7⟩ := cells8 hSw ra' rb'; (go_simp; try with_reducible rfl)
    try simp only [Act.put, List.setIfInBounds_toArray, List.set_cons_zero, List.set_cons_succ]
    refine wpAnyH_take (i := 4) (oi := ⟨_, _, _, _, _, _⟩) (v := ?_) rfl (by kernel_rfl) (by kernel_rfl) (by kernel_rfl) (fun _ _ _ h => h) (Or.inl ⟨by rfl, ?_⟩) kW ?_
    rotate_left
    · intro w' hSw; obtain ⟨⟨e0, e1, e2, e3⟩, e4, e5, e6, e7⟩ := cells8 hSw ra' rb'; (go_simp; try with_reducible rfl)
    try simp only [Act.put, List.setIfInBounds_toArray, List.set_cons_zero, List.set_cons_succ]
    refine wpAnyH_take (i := 7) (oi := ⟨_, _, _, _, _, _⟩) (v := ?_) rfl (by kernel_rfl) (by kernel_rfl) (by kernel_rfl) (fun _ _ _ h => h) (Or.inl ⟨by rfl, ?_⟩) kW ?_
    rotate_left
    · intro w' hSw; obtain ⟨⟨e0, e1, e2, e3⟩, e4, e5, e6, e7⟩ := cells8 hSw ra' rb'; (go_simp; try with_reducible rfl)
    try simp only [Act.put, List.setIfInBounds_toArray, List.set_cons_zero, List.set_cons_succ]
    have hx := hx'
    have hy := hy'
    refine wpAnyH_ready (rs := [2, 5, 8]) (by kernel_rfl) (by simp) ?_
    refine AllReadyH.cons (o := ⟨_, _, _, _, _, _⟩) rfl (fun K hK => ?_) ?_
    · go_simp
      have kk := (keepBut.refl [] wd).alloc (.cells #[.int .i64 1, .int .i64 10, .int .i64 1, .slice (some ⟨x, 0, none⟩) 1 1, .int .i64 3, .int .i64 0, .int .i64 2, .slice (some ⟨y, 0, none⟩) 2 2] 46)
      have rs2 : rowsV (wd.alloc (.cells #[.int .i64 1, .int .i64 10, .int .i64 1, .slice (some ⟨x, 0, none⟩) 1 1, .int .i64 3, .int .i64 0, .int .i64 2, .slice (some ⟨y, 0, none⟩) 2 2] 46)) _ (some ⟨wd.heap.size, 0, none⟩) [rowEa, rowEb] := rowsV_two (s := 1) (nd := 10) (kd := 1) (b := [7]) (A' := some ⟨x, 0, none⟩) (n := 1) (s' := 3) (nd' := 0) (kd' := 2) (b' := [8, 9]) (B' := some ⟨y, 0, none⟩) (n' := 2) (hx.keep kW (by simp)) (hy.keep kW (by simp))
      replace kW := kW.then kk (by simp)
      have s0 : wd.heap.size < (wd.alloc (.cells #[.int .i64 1, .int .i64 10, .int .i64 1, .slice (some ⟨x, 0, none⟩) 1 1, .int .i64 3, .int .i64 0, .int .i64 2, .slice (some ⟨y, 0, none⟩) 2 2] 46)).heap.size := by simp
      obtain ⟨W1, hW⟩ : ∃ W', wd.alloc (.cells #[.int .i64 1, .int .i64 10, .int .i64 1, .slice (some ⟨x, 0, none⟩) 1 1, .int .i64 3, .int .i64 0, .int .i64 2, .slice (some ⟨y, 0, none⟩) 2 2] 46) = W' := ⟨_, rfl⟩
      rw [hW] at kW rs2 ⊢
      clear hW kk s0
      refine hK.out _ _ kW (fun _ => ?_)
      clear hK K
      try simp only [Act.put, List.setIfInBounds_toArray, List.set_cons_zero, List.set_cons_succ]
      refine wpAnyH_ready (rs := [3, 5, 8]) (by kernel_rfl) (by simp) ?_
      refine AllReadyH.cons (o := ⟨_, _, _, _, _, _⟩) rfl (fun K hK => ?_) ?_
      · go_simp
        refine (ofL_n rs2 good_ab rfl (Nat.le_refl 2)).mono ?_
        rintro e W2 ⟨p, F, rfl, vs3, hF, kk⟩
        replace kW := kW.then kk (by simp)
        clear rs2 kk
        go_wp2_with fail
        refine hK.out _ _ kW (fun _ => ?_)
        clear hK K
        try simp only [Act.put, List.setIfInBounds_toArray, List.set_cons_zero, List.set_cons_succ]
        refine wpAnyH_ready (rs := [5, 8]) (by kernel_rfl) (by simp) ?_
        refine AllReadyH.cons (o := ⟨_, _, _, _, _, _⟩) rfl (fun K hK => ?_) ?_
        · go_simp
          have kk := (keepBut.refl [] W2).alloc (.cells #[.int .i64 1, .int .i64 10, .int .i64 1, .slice (some ⟨x, 0, none⟩) 1 1] 46)
          have rs5 : rowsV (W2.alloc (.cells #[.int .i64 1, .int .i64 10, .int .i64 1, .slice (some ⟨x, 0, none⟩) 1 1] 46)) _ (some ⟨W2.heap.size, 0, none⟩) [rowEa] := rowsV_one (s := 1) (nd := 10) (kd := 1) (b := [7]) (A' := some ⟨x, 0, none⟩) (n := 1) (hx.keep kW (by simp))
          replace kW := kW.then kk (by simp)
          replace vs3 := vs3.over kk
          have s2 : W2.heap.size < (W2.alloc (.cells #[.int .i64 1, .int .i64 10, .int .i64 1, .slice (some ⟨x, 0, none⟩) 1 1] 46)).heap.size := by simp
          obtain ⟨W3, hW⟩ : ∃ W', W2.alloc (.cells #[.int .i64 1, .int .i64 10, .int .i64 1, .slice (some ⟨x, 0, none⟩) 1 1] 46) = W' := ⟨_, rfl⟩
          rw [hW] at kW rs5 vs3 ⊢
          clear hW kk s2
          refine hK.out _ _ kW (fun _ => ?_)
          clear hK K
          try simp only [Act.put, List.setIfInBounds_toArray, List.set_cons_zero, List.set_cons_succ]
          refine wpAnyH_ready (rs := [6, 8]) (by kernel_rfl) (by simp) ?_
          refine AllReadyH.cons (o := ⟨_, _, _, _, _, _⟩) rfl (fun K hK => ?_) ?_
          · go_simp
            refine (ofL_n rs5 good_a rfl (Nat.le_refl 1)).mono ?_
            rintro e W4 ⟨q, G, rfl, vs6, hG, kk⟩
            replace kW := kW.then kk (by simp)
            replace vs3 := vs3.over kk
            clear rs5 kk
            go_wp2_with fail
            refine hK.out _ _ kW (fun _ => ?_)
            clear hK K
            try simp only [Act.put, List.setIfInBounds_toArray, List.set_cons_zero, List.set_cons_succ]
            refine wpAnyH_ready (rs := [8]) (by kernel_rfl) (by simp) ?_
            refine AllReadyH.cons (o := ⟨_, _, _, _, _, _⟩) rfl (fun K hK => ?_) AllReadyH.nil
            go_simp
            have kk := (keepBut.refl [] W4).alloc (.cells #[.int .i64 3, .int .i64 0, .int .i64 2, .slice (some ⟨y, 0, none⟩) 2 2] 46)
            have rs8 : rowsV (W4.alloc (.cells #[.int .i64 3, .int .i64 0, .int .i64 2, .slice (some ⟨y, 0, none⟩) 2 2] 46)) _ (some ⟨W4.heap.size, 0, none⟩) [rowEb] := rowsV_one (s := 3) (nd := 0) (kd := 2) (b := [8, 9]) (A' := some ⟨y, 0, none⟩) (n := 2) (hy.keep kW (by simp))
            replace kW := kW.then kk (by simp)
            replace vs3 := vs3.over kk
            replace vs6 := vs6.over kk
            have s4 : W4.heap.size < (W4.alloc (.cells #[.int .i64 3, .int .i64 0, .int .i64 2, .slice (some ⟨y, 0, none⟩) 2 2] 46)).heap.size := by simp
            obtain ⟨W5, hW⟩ : ∃ W', W4.alloc (.cells #[.int .i64 3, .int .i64 0, .int .i64 2, .slice (some ⟨y, 0, none⟩) 2 2] 46) = W' := ⟨_, rfl⟩
            rw [hW] at kW rs8 vs3 vs6 ⊢
            clear hW kk s4
            refine hK.out _ _ kW (fun _ => ?_)
            clear hK K
            try simp only [Act.put, List.setIfInBounds_toArray, List.set_cons_zero, List.set_cons_succ]
            refine wpAnyH_ready (rs := [9]) (by kernel_rfl) (by simp) ?_
            refine AllReadyH.cons (o := ⟨_, _, _, _, _, _⟩) rfl (fun K hK => ?_) AllReadyH.nil
            go_simp
            refine (ofL_n rs8 good_b rfl (Nat.le_refl 1)).mono ?_
            rintro e W6 ⟨r, H, rfl, vs9, hH, kk⟩
            have kb9 := kW
            have hF6 := fun y hy => vs3.lt y hy
            have hG9 := fun y hy => vs6.lt y hy
            replace kW := kW.then kk (by simp)
            replace vs3 := vs3.over kk
            replace vs6 := vs6.over kk
            clear rs8 kk
            go_wp2_with fail
            refine hK.out _ _ kW (fun _ => ?_)
            clear hK K
            try simp only [Act.put, List.setIfInBounds_toArray, List.set_cons_zero, List.set_cons_succ]
            refine wpAnyH_take (i := 10) (oi := ⟨_, _, _, _, _, _⟩) (v := ?_) rfl (by kernel_rfl) (by kernel_rfl) (by kernel_rfl) (fun _ _ _ h => h) (Or.inl ⟨by rfl, ?_⟩) kW ?_
            rotate_left
            · intro w' hSw; clear hSw; (go_simp; try with_reducible rfl)
            try simp only [Act.put, List.setIfInBounds_toArray, List.set_cons_zero, List.set_cons_succ]
            refine wpAnyH_take (i := 11) (oi := ⟨_, _, _, _, _, _⟩) (v := ?_) rfl (by kernel_rfl) (by kernel_rfl) (by kernel_rfl) (fun _ _ _ h => h) (Or.inl ⟨by rfl, ?_⟩) kW ?_
            rotate_left
            · intro w' hSw; clear hSw; (go_simp; try with_reducible rfl)
            try simp only [Act.put, List.setIfInBounds_toArray, List.set_cons_zero, List.set_cons_succ]
            refine wpAnyH_take (i := 12) (oi := ⟨_, _, _, _, _, _⟩) (v := ?_) rfl (by kernel_rfl) (by kernel_rfl) (by kernel_rfl) (fun _ _ _ h => h) (Or.inl ⟨by rfl, ?_⟩) kW ?_
            rotate_left
            · intro w' hSw; clear hSw; (go_simp; try with_reducible rfl)
            try simp only [Act.put, List.setIfInBounds_toArray, List.set_cons_zero, List.set_cons_succ]
            refine wpAnyH_done (by kernel_rfl) ?_ _
            have HE : Hid (worksMid w6 W6 (.pointer (some ⟨p, 0, none⟩)) (.pointer (some ⟨q, 0, none⟩)) (.pointer (some ⟨r, 0, none⟩))) := Lib.hid ⟨p, q, r, F, G, H, rfl, rfl, rfl, vs3, vs6, vs9, fun y hy => ⟨fun h => by have := hH y hy; have := hF6 y h; omega, fun h => by have := hH y hy; have := hG9 y h; omega, by have := hH y hy; have := kb9.size; have := k0b.size; omega⟩, k0b.then kW (by simp)⟩
            go_wp2_with fail
            go_meet
            exact HE.out
          refine AllReadyH.cons (o := ⟨_, _, _, _, _, _⟩) rfl (fun K hK => ?_) ?_
          · go_simp
            have kk := (keepBut.refl [] W3).alloc (.cells #[.int .i64 3, .int .i64 0, .int .i64 2, .slice (some ⟨y, 0, none⟩) 2 2] 46)
            have rs8 : rowsV (W3.alloc (.cells #[.int .i64 3, .int .i64 0, .int .i64 2, .slice (some ⟨y, 0, none⟩) 2 2] 46)) _ (some ⟨W3.heap.size, 0, none⟩) [rowEb] := rowsV_one (s := 3) (nd := 0) (kd := 2) (b := [8, 9]) (A' := some ⟨y, 0, none⟩) (n := 2) (hy.keep kW (by simp))
            replace kW := kW.then kk (by simp)
            replace rs5 := rs5.keep kk (by simp)
            replace vs3 := vs3.over kk
            have s3 : W3.heap.size < (W3.alloc (.cells #[.int .i64 3, .int .i64 0, .int .i64 2, .slice (some ⟨y, 0, none⟩) 2 2] 46)).heap.size := by simp
            obtain ⟨W4, hW⟩ : ∃ W', W3.alloc (.cells #[.int .i64 3, .int .i64 0, .int .i64 2, .slice (some ⟨y, 0, none⟩) 2 2] 46) = W' := ⟨_, rfl⟩
            rw [hW] at kW rs5 rs8 vs3 ⊢
            clear hW kk s3
            refine hK.out _ _ kW (fun _ => ?_)
            clear hK K
            try simp only [Act.put, List.setIfInBounds_toArray, List.set_cons_zero, List.set_cons_succ]
            refine wpAnyH_ready (rs := [6]) (by kernel_rfl) (by simp) ?_
            refine AllReadyH.cons (o := ⟨_, _, _, _, _, _⟩) rfl (fun K hK => ?_) AllReadyH.nil
            go_simp
            refine (ofL_n rs5 good_a rfl (Nat.le_refl 1)).mono ?_
            rintro e W5 ⟨q, G, rfl, vs6, hG, kk⟩
            replace kW := kW.then kk (by simp)
            replace rs8 := rs8.keep kk (by simp)
            replace vs3 := vs3.over kk
            clear rs5 kk
            go_wp2_with fail
            refine hK.out _ _ kW (fun _ => ?_)
            clear hK K
            try simp only [Act.put, List.setIfInBounds_toArray, List.set_cons_zero, List.set_cons_succ]
            refine wpAnyH_ready (rs := [9]) (by kernel_rfl) (by simp) ?_
            refine AllReadyH.cons (o := ⟨_, _, _, _, _, _⟩) rfl (fun K hK => ?_) AllReadyH.nil
            go_simp
            refine (ofL_n rs8 good_b rfl (Nat.le_refl 1)).mono ?_
            rintro e W6 ⟨r, H, rfl, vs9, hH, kk⟩
            have kb9 := kW
            have hF6 := fun y hy => vs3.lt y hy
            have hG9 := fun y hy => vs6.lt y hy
            replace kW := kW.then kk (by simp)
            replace vs3 := vs3.over kk
            replace vs6 := vs6.over kk
            clear rs8 kk
            go_wp2_with fail
            refine hK.out _ _ kW (fun _ => ?_)
            clear hK K
            try simp only [Act.put, List.setIfInBounds_toArray, List.set_cons_zero, List.set_cons_succ]
            refine wpAnyH_take (i := 10) (oi := ⟨_, _, _, _, _, _⟩) (v := ?_) rfl (by kernel_rfl) (by kernel_rfl) (by kernel_rfl) (fun _ _ _ h => h) (Or.inl ⟨by rfl, ?_⟩) kW ?_
            rotate_left
            · intro w' hSw; clear hSw; (go_simp; try with_reducible rfl)
            try simp only [Act.put, List.setIfInBounds_toArray, List.set_cons_zero, List.set_cons_succ]
            refine wpAnyH_take (i := 11) (oi := ⟨_, _, _, _, _, _⟩) (v := ?_) rfl (by kernel_rfl) (by kernel_rfl) (by kernel_rfl) (fun _ _ _ h => h) (Or.inl ⟨by rfl, ?_⟩) kW ?_
            rotate_left
            · intro w' hSw; clear hSw; (go_simp; try with_reducible rfl)
            try simp only [Act.put, List.setIfInBounds_toArray, List.set_cons_zero, List.set_cons_succ]
            refine wpAnyH_take (i := 12) (oi := ⟨_, _, _, _, _, _⟩) (v := ?_) rfl (by kernel_rfl) (by kernel_rfl) (by kernel_rfl) (fun _ _ _ h => h) (Or.inl ⟨by rfl, ?_⟩) kW ?_
            rotate_left
            · intro w' hSw; clear hSw; (go_simp; try with_reducible rfl)
            try simp only [Act.put, List.setIfInBounds_toArray, List.set_cons_zero, List.set_cons_succ]
            refine wpAnyH_done (by kernel_rfl) ?_ _
            have HE : Hid (worksMid w6 W6 (.pointer (some ⟨p, 0, none⟩)) (.pointer (some ⟨q, 0, none⟩)) (.pointer (some ⟨r, 0, none⟩))) := Lib.hid ⟨p, q, r, F, G, H, rfl, rfl, rfl, vs3, vs6, vs9, fun y hy => ⟨fun h => by have := hH y hy; have := hF6 y h; omega, fun h => by have := hH y hy; have := hG9 y h; omega, by have := hH y hy; have := kb9.size; have := k0b.size; omega⟩, k0b.then kW (by simp)⟩
            go_wp2_with fail
            go_meet
            exact HE.out
          exact AllReadyH.nil
        refine AllReadyH.cons (o := ⟨_, _, _, _, _, _⟩) rfl (fun K hK => ?_) ?_
        · go_simp
          have kk := (keepBut.refl [] W2).alloc (.cells #[.int .i64 3, .int .i64 0, .int .i64 2, .slice (some ⟨y, 0, none⟩) 2 2] 46)
          have rs8 : rowsV (W2.alloc (.cells #[.int .i64 3, .int .i64 0, .int .i64 2, .slice (some ⟨y, 0, none⟩) 2 2] 46)) _ (some ⟨W2.heap.size, 0, none⟩) [rowEb] := rowsV_one (s := 3) (nd := 0) (kd := 2) (b := [8, 9]) (A' := some ⟨y, 0, none⟩) (n := 2) (hy.keep kW (by simp))
          replace kW := kW.then kk (by simp)
          replace vs3 := vs3.over kk
          have s2 : W2.heap.size < (W2.alloc (.cells #[.int .i64 3, .int .i64 0, .int .i64 2, .slice (some ⟨y, 0, none⟩) 2 2] 46)).heap.size := by simp
          obtain ⟨W3, hW⟩ : ∃ W', W2.alloc (.cells #[.int .i64 3, .int .i64 0, .int .i64 2, .slice (some ⟨y, 0, none⟩) 2 2] 46) = W' := ⟨_, rfl⟩
          rw [hW] at kW rs8 vs3 ⊢
          clear hW kk s2
          refine hK.out _ _ kW (fun _ => ?_)
          clear hK K
          try simp only [Act.put, List.setIfInBounds_toArray, List.set_cons_zero, List.set_cons_succ]
          refine wpAnyH_ready (rs := [5]) (by kernel_rfl) (by simp) ?_
          refine AllReadyH.cons (o := ⟨_, _, _, _, _, _⟩) rfl (fun K hK => ?_) AllReadyH.nil
          go_simp
          have kk := (keepBut.refl [] W3).alloc (.cells #[.int .i64 1, .int .i64 10, .int .i64 1, .slice (some ⟨x, 0, none⟩) 1 1] 46)
          have rs5 : rowsV (W3.alloc (.cells #[.int .i64 1, .int .i64 10, .int .i64 1, .slice (some ⟨x, 0, none⟩) 1 1] 46)) _ (some ⟨W3.heap.size, 0, none⟩) [rowEa] := rowsV_one (s := 1) (nd := 10) (kd := 1) (b := [7]) (A' := some ⟨x, 0, none⟩) (n := 1) (hx.keep kW (by simp))
          replace kW := kW.then kk (by simp)
          replace rs8 := rs8.keep kk (by simp)
          replace vs3 := vs3.over kk
          have s3 : W3.heap.size < (W3.alloc (.cells #[.int .i64 1, .int .i64 10, .int .i64 1, .slice (some ⟨x, 0, none⟩) 1 1] 46)).heap.size := by simp
          obtain ⟨W4, hW⟩ : ∃ W', W3.alloc (.cells #[.int .i64 1, .int .i64 10, .int .i64 1, .slice (some ⟨x, 0, none⟩) 1 1] 46) = W' := ⟨_, rfl⟩
          rw [hW] at kW rs5 rs8 vs3 ⊢
          clear hW kk s3
          refine hK.out _ _ kW (fun _ => ?_)
          clear hK K
          try simp only [Act.put, List.setIfInBounds_toArray, List.set_cons_zero, List.set_cons_succ]
          refine wpAnyH_ready (rs := [6]) (by kernel_rfl) (by simp) ?_
          refine AllReadyH.cons (o := ⟨_, _, _, _, _, _⟩) rfl (fun K hK => ?_) AllReadyH.nil
          go_simp
          refine (ofL_n rs5 good_a rfl (Nat.le_refl 1)).mono ?_
          rintro e W5 ⟨q, G, rfl, vs6, hG, kk⟩
          replace kW := kW.then kk (by simp)
          replace rs8 := rs8.keep kk (by simp)
          replace vs3 := vs3.over kk
          clear rs5 kk
          go_wp2_with fail
          refine hK.out _ _ kW (fun _ => ?_)
          clear hK K
          try simp only [Act.put, List.setIfInBounds_toArray, List.set_cons_zero, List.set_cons_succ]
          refine wpAnyH_ready (rs := [9]) (by kernel_rfl) (by simp) ?_
          refine AllReadyH.cons (o := ⟨_, _, _, _, _, _⟩) rfl (fun K hK => ?_) AllReadyH.nil
          go_simp
          refine (ofL_n rs8 good_b rfl (Nat.le_refl 1)).mono ?_
          rintro e W6 ⟨r, H, rfl, vs9, hH, kk⟩
          have kb9 := kW
          have hF6 := fun y hy => vs3.lt y hy
          have hG9 := fun y hy => vs6.lt y hy
          replace kW := kW.then kk (by simp)
          replace vs3 := vs3.over kk
          replace vs6 := vs6.over kk
          clear rs8 kk
          go_wp2_with fail
          refine hK.out _ _ kW (fun _ => ?_)
          clear hK K
          try simp only [Act.put, List.setIfInBounds_toArray, List.set_cons_zero, List.set_cons_succ]
          refine wpAnyH_take (i := 10) (oi := ⟨_, _, _, _, _, _⟩) (v := ?_) rfl (by kernel_rfl) (by kernel_rfl) (by kernel_rfl) (fun _ _ _ h => h) (Or.inl ⟨by rfl, ?_⟩) kW ?_
          rotate_left
          · intro w' hSw; clear hSw; (go_simp; try with_reducible rfl)
          try simp only [Act.put, List.setIfInBounds_toArray, List.set_cons_zero, List.set_cons_succ]
          refine wpAnyH_take (i := 11) (oi := ⟨_, _, _, _, _, _⟩) (v := ?_) rfl (by kernel_rfl) (by kernel_rfl) (by kernel_rfl) (fun _ _ _ h => h) (Or.inl ⟨by rfl, ?_⟩) kW ?_
          rotate_left
          · intro w' hSw; clear hSw; (go_simp; try with_reducible rfl)
          try simp only [Act.put, List.setIfInBounds_toArray, List.set_cons_zero, List.set_cons_succ]
          refine wpAnyH_take (i := 12) (oi := ⟨_, _, _, _, _, _⟩) (v := ?_) rfl (by kernel_rfl) (by kernel_rfl) (by kernel_rfl) (fun _ _ _ h => h) (Or.inl ⟨by rfl, ?_⟩) kW ?_
          rotate_left
          · intro w' hSw; clear hSw; (go_simp; try with_reducible rfl)
          try simp only [Act.put, List.setIfInBounds_toArray, List.set_cons_zero, List.set_cons_succ]
          refine wpAnyH_done (by kernel_rfl) ?_ _
          have HE : Hid (worksMid w6 W6 (.pointer (some ⟨p, 0, none⟩)) (.pointer (some ⟨q, 0, none⟩)) (.pointer (some ⟨r, 0, none⟩))) := Lib.hid ⟨p, q, r, F, G, H, rfl, rfl, rfl, vs3, vs6, vs9, fun y hy => ⟨fun h => by have := hH y hy; have := hF6 y h; omega, fun h => by have := hH y hy; have := hG9 y h; omega, by have := hH y hy; have := kb9.size; have := k0b.size; omega⟩, k0b.then kW (by simp)⟩
          go_wp2_with fail
          go_meet
          exact HE.out
        exact AllReadyH.nil
      refine AllReadyH.cons (o := ⟨_, _, _, _, _, _⟩) rfl (fun K hK => ?_) ?_
      · go_simp
        have kk := (keepBut.refl [] W1).alloc (.cells #[.int .i64 1, .int .i64 10, .int .i64 1, .slice (some ⟨x, 0, none⟩) 1 1] 46)
        have rs5 : rowsV (W1.alloc (.cells #[.int .i64 1, .int .i64 10, .int .i64 1, .slice (some ⟨x, 0, none⟩) 1 1] 46)) _ (some ⟨W1.heap.size, 0, none⟩) [rowEa] := rowsV_one (s := 1) (nd := 10) (kd := 1) (b := [7]) (A' := some ⟨x, 0, none⟩) (n := 1) (hx.keep kW (by simp))
        replace kW := kW.then kk (by simp)
        replace rs2 := rs2.keep kk (by simp)
        have s1 : W1.heap.size < (W1.alloc (.cells #[.int .i64 1, .int .i64 10, .int .i64 1, .slice (some ⟨x, 0, none⟩) 1 1] 46)).heap.size := by simp
        obtain ⟨W2, hW⟩ : ∃ W', W1.alloc (.cells #[.int .i64 1, .int .i64 10, .int .i64 1, .slice (some ⟨x, 0, none⟩) 1 1] 46) = W' := ⟨_, rfl⟩
        rw [hW] at kW rs2 rs5 ⊢
        clear hW kk s1
        refine hK.out _ _ kW (fun _ => ?_)
        clear hK K
        try simp only [Act.put, List.setIfInBounds_toArray, List.set_cons_zero, List.set_cons_succ]
        refine wpAnyH_ready (rs := [3, 8]) (by kernel_rfl) (by simp) ?_
        refine AllReadyH.cons (o := ⟨_, _, _, _, _, _⟩) rfl (fun K hK => ?_) ?_
        · go_simp
          refine (ofL_n rs2 good_ab rfl (Nat.le_refl 2)).mono ?_
          rintro e W3 ⟨p, F, rfl, vs3, hF, kk⟩
          replace kW := kW.then kk (by simp)
          replace rs5 := rs5.keep kk (by simp)
          clear rs2 kk
          go_wp2_with fail
          refine hK.out _ _ kW (fun _ => ?_)
          clear hK K
          try simp only [Act.put, List.setIfInBounds_toArray, List.set_cons_zero, List.set_cons_succ]
          refine wpAnyH_ready (rs := [6, 8]) (by kernel_rfl) (by simp) ?_
          refine AllReadyH.cons (o := ⟨_, _, _, _, _, _⟩) rfl (fun K hK => ?_) ?_
          · go_simp
            refine (ofL_n rs5 good_a rfl (Nat.le_refl 1)).mono ?_
            rintro e W4 ⟨q, G, rfl, vs6, hG, kk⟩
            replace kW := kW.then kk (by simp)
            replace vs3 := vs3.over kk
            clear rs5 kk
            go_wp2_with fail
            refine hK.out _ _ kW (fun _ => ?_)
            clear hK K
            try simp only [Act.put, List.setIfInBounds_toArray, List.set_cons_zero, List.set_cons_succ]
            refine wpAnyH_ready (rs := [8]) (by kernel_rfl) (by simp) ?_
            refine AllReadyH.cons (o := ⟨_, _, _, _, _, _⟩) rfl (fun K hK => ?_) AllReadyH.nil
            go_simp
            have kk := (keepBut.refl [] W4).alloc (.cells #[.int .i64 3, .int .i64 0, .int .i64 2, .slice (some ⟨y, 0, none⟩) 2 2] 46)
            have rs8 : rowsV (W4.alloc (.cells #[.int .i64 3, .int .i64 0, .int .i64 2, .slice (some ⟨y, 0, none⟩) 2 2] 46)) _ (some ⟨W4.heap.size, 0, none⟩) [rowEb] := rowsV_one (s := 3) (nd := 0) (kd := 2) (b := [8, 9]) (A' := some ⟨y, 0, none⟩) (n := 2) (hy.keep kW (by simp))
            replace kW := kW.then kk (by simp)
            replace vs3 := vs3.over kk
            replace vs6 := vs6.over kk
            have s4 : W4.heap.size < (W4.alloc (.cells #[.int .i64 3, .int .i64 0, .int .i64 2, .slice (some ⟨y, 0, none⟩) 2 2] 46)).heap.size := by simp
            obtain ⟨W5, hW⟩ : ∃ W', W4.alloc (.cells #[.int .i64 3, .int .i64 0, .int .i64 2, .slice (some ⟨y, 0, none⟩) 2 2] 46) = W' := ⟨_, rfl⟩
            rw [hW] at kW rs8 vs3 vs6 ⊢
            clear hW kk s4
            refine hK.out _ _ kW (fun _ => ?_)
            clear hK K
            try simp only [Act.put, List.setIfInBounds_toArray, List.set_cons_zero, List.set_cons_succ]
            refine wpAnyH_ready (rs := [9]) (by kernel_rfl) (by simp) ?_
            refine AllReadyH.cons (o := ⟨_, _, _, _, _, _⟩) rfl (fun K hK => ?_) AllReadyH.nil
            go_simp
            refine (ofL_n rs8 good_b rfl (Nat.le_refl 1)).mono ?_
            rintro e W6 ⟨r, H, rfl, vs9, hH, kk⟩
            have kb9 := kW
            have hF6 := fun y hy => vs3.lt y hy
            have hG9 := fun y hy => vs6.lt y hy
            replace kW := kW.then kk (by simp)
            replace vs3 := vs3.over kk
            replace vs6 := vs6.over kk
            clear rs8 kk
            go_wp2_with fail
            refine hK.out _ _ kW (fun _ => ?_)
            clear hK K
            try simp only [Act.put, List.setIfInBounds_toArray, List.set_cons_zero, List.set_cons_succ]
            refine wpAnyH_take (i := 10) (oi := ⟨_, _, _, _, _, _⟩) (v := ?_) rfl (by kernel_rfl) (by kernel_rfl) (by kernel_rfl) (fun _ _ _ h => h) (Or.inl ⟨by rfl, ?_⟩) kW ?_
            rotate_left
            · intro w' hSw; clear hSw; (go_simp; try with_reducible rfl)
            try simp only [Act.put, List.setIfInBounds_toArray, List.set_cons_zero, List.set_cons_succ]
            refine wpAnyH_take (i := 11) (oi := ⟨_, _, _, _, _, _⟩) (v := ?_) rfl (by kernel_rfl) (by kernel_rfl) (by kernel_rfl) (fun _ _ _ h => h) (Or.inl ⟨by rfl, ?_⟩) kW ?_
            rotate_left
            · intro w' hSw; clear hSw; (go_simp; try with_reducible rfl)
            try simp only [Act.put, List.setIfInBounds_toArray, List.set_cons_zero, List.set_cons_succ]
            refine wpAnyH_take (i := 12) (oi := ⟨_, _, _, _, _, _⟩) (v := ?_) rfl (by kernel_rfl) (by kernel_rfl) (by kernel_rfl) (fun _ _ _ h => h) (Or.inl ⟨by rfl, ?_⟩) kW ?_
            rotate_left
            · intro w' hSw; clear hSw; (go_simp; try with_reducible rfl)
            try simp only [Act.put, List.setIfInBounds_toArray, List.set_cons_zero, List.set_cons_succ]
            refine wpAnyH_done (by kernel_rfl) ?_ _
            have HE : Hid (worksMid w6 W6 (.pointer (some ⟨p, 0, none⟩)) (.pointer (some ⟨q, 0, none⟩)) (.pointer (some ⟨r, 0, none⟩))) := Lib.hid ⟨p, q, r, F, G, H, rfl, rfl, rfl, vs3, vs6, vs9, fun y hy => ⟨fun h => by have := hH y hy; have := hF6 y h; omega, fun h => by have := hH y hy; have := hG9 y h; omega, by have := hH y hy; have := kb9.size; have := k0b.size; omega⟩, k0b.then kW (by simp)⟩
            go_wp2_with fail
            go_meet
            exact HE.out
          refine AllReadyH.cons (o := ⟨_, _, _, _, _, _⟩) rfl (fun K hK => ?_) ?_
          · go_simp
            have kk := (keepBut.refl [] W3).alloc (.cells #[.int .i64 3, .int .i64 0, .int .i64 2, .slice (some ⟨y, 0, none⟩) 2 2] 46)
            have rs8 : rowsV (W3.alloc (.cells #[.int .i64 3, .int .i64 0, .int .i64 2, .slice (some ⟨y, 0, none⟩) 2 2] 46)) _ (some ⟨W3.heap.size, 0, none⟩) [rowEb] := rowsV_one (s := 3) (nd := 0) (kd := 2) (b := [8, 9]) (A' := some ⟨y, 0, none⟩) (n := 2) (hy.keep kW (by simp))
            replace kW := kW.then kk (by simp)
            replace rs5 := rs5.keep kk (by simp)
            replace vs3 := vs3.over kk
            have s3 : W3.heap.size < (W3.alloc (.cells #[.int .i64 3, .int .i64 0, .int .i64 2, .slice (some ⟨y, 0, none⟩) 2 2] 46)).heap.size := by simp
            obtain ⟨W4, hW⟩ : ∃ W', W3.alloc (.cells #[.int .i64 3, .int .i64 0, .int .i64 2, .slice (some ⟨y, 0, none⟩) 2 2] 46) = W' := ⟨_, rfl⟩
            rw [hW] at kW rs5 rs8 vs3 ⊢
            clear hW kk s3
            refine hK.out _ _ kW (fun _ => ?_)
            clear hK K
            try simp only [Act.put, List.setIfInBounds_toArray, List.set_cons_zero, List.set_cons_succ]
            refine wpAnyH_ready (rs := [6]) (by kernel_rfl) (by simp) ?_
            refine AllReadyH.cons (o := ⟨_, _, _, _, _, _⟩) rfl (fun K hK => ?_) AllReadyH.nil
            go_simp
            refine (ofL_n rs5 good_a rfl (Nat.le_refl 1)).mono ?_
            rintro e W5 ⟨q, G, rfl, vs6, hG, kk⟩
            replace kW := kW.then kk (by simp)
            replace rs8 := rs8.keep kk (by simp)
            replace vs3 := vs3.over kk
            clear rs5 kk
            go_wp2_with fail
            refine hK.out _ _ kW (fun _ => ?_)
            clear hK K
            try simp only [Act.put, List.setIfInBounds_toArray, List.set_cons_zero, List.set_cons_succ]
            refine wpAnyH_ready (rs := [9]) (by kernel_rfl) (by simp) ?_
            refine AllReadyH.cons (o := ⟨_, _, _, _, _, _⟩) rfl (fun K hK => ?_) AllReadyH.nil
            go_simp
            refine (ofL_n rs8 good_b rfl (Nat.le_refl 1)).mono ?_
            rintro e W6 ⟨r, H, rfl, vs9, hH, kk⟩
            have kb9 := kW
            have hF6 := fun y hy => vs3.lt y hy
            have hG9 := fun y hy => vs6.lt y hy
            replace kW := kW.then kk (by simp)
            replace vs3 := vs3.over kk
            replace vs6 := vs6.over kk
            clear rs8 kk
            go_wp2_with fail
            refine hK.out _ _ kW (fun _ => ?_)
            clear hK K
            try simp only [Act.put, List.setIfInBounds_toArray, List.set_cons_zero, List.set_cons_succ]
            refine wpAnyH_take (i := 10) (oi := ⟨_, _, _, _, _, _⟩) (v := ?_) rfl (by kernel_rfl) (by kernel_rfl) (by kernel_rfl) (fun _ _ _ h => h) (Or.inl ⟨by rfl, ?_⟩) kW ?_
            rotate_left
            · intro w' hSw; clear hSw; (go_simp; try with_reducible rfl)
            try simp only [Act.put, List.setIfInBounds_toArray, List.set_cons_zero, List.set_cons_succ]
            refine wpAnyH_take (i := 11) (oi := ⟨_, _, _, _, _, _⟩) (v := ?_) rfl (by kernel_rfl) (by kernel_rfl) (by kernel_rfl) (fun _ _ _ h => h) (Or.inl ⟨by rfl, ?_⟩) kW ?_
            rotate_left
            · intro w' hSw; clear hSw; (go_simp; try with_reducible rfl)
            try simp only [Act.put, List.setIfInBounds_toArray, List.set_cons_zero, List.set_cons_succ]
            refine wpAnyH_take (i := 12) (oi := ⟨_, _, _, _, _, _⟩) (v := ?_) rfl (by kernel_rfl) (by kernel_rfl) (by kernel_rfl) (fun _ _ _ h => h) (Or.inl ⟨by rfl, ?_⟩) kW ?_
            rotate_left
            · intro w' hSw; clear hSw; (go_simp; try with_reducible rfl)
            try simp only [Act.put, List.setIfInBounds_toArray, List.set_cons_zero, List.set_cons_succ]
            refine wpAnyH_done (by kernel_rfl) ?_ _
            have HE : Hid (worksMid w6 W6 (.pointer (some ⟨p, 0, none⟩)) (.pointer (some ⟨q, 0, none⟩)) (.pointer (some ⟨r, 0, none⟩))) := Lib.hid ⟨p, q, r, F, G, H, rfl, rfl, rfl, vs3, vs6, vs9, fun y hy => ⟨fun h => by have := hH y hy; have := hF6 y h; omega, fun h => by have := hH y hy; have := hG9 y h; omega, by have := hH y hy; have := kb9.size; have := k0b.size; omega⟩, k0b.then kW (by simp)⟩
            go_wp2_with fail
            go_meet
            exact HE.out
          exact AllReadyH.nil
        refine AllReadyH.cons (o := ⟨_, _, _, _, _, _⟩) rfl (fun K hK => ?_) ?_
        · go_simp
          have kk := (keepBut.refl [] W2).alloc (.cells #[.int .i64 3, .int .i64 0, .int .i64 2, .slice (some ⟨y, 0, none⟩) 2 2] 46)
          have rs8 : rowsV (W2.alloc (.cells #[.int .i64 3, .int .i64 0, .int .i64 2, .slice (some ⟨y, 0, none⟩) 2 2] 46)) _ (some ⟨W2.heap.size, 0, none⟩) [rowEb] := rowsV_one (s := 3) (nd := 0) (kd := 2) (b := [8, 9]) (A' := some ⟨y, 0, none⟩) (n := 2) (hy.keep kW (by simp))
          replace kW := kW.then kk (by simp)
          replace rs2 := rs2.keep kk (by simp)
          replace rs5 := rs5.keep kk (by simp)
          have s2 : W2.heap.size < (W2.alloc (.cells #[.int .i64 3, .int .i64 0, .int .i64 2, .slice (some ⟨y, 0, none⟩) 2 2] 46)).heap.size := by simp
          obtain ⟨W3, hW⟩ : ∃ W', W2.alloc (.cells #[.int .i64 3, .int .i64 0, .int .i64 2, .slice (some ⟨y, 0, none⟩) 2 2] 46) = W' := ⟨_, rfl⟩
          rw [hW] at kW rs2 rs5 rs8 ⊢
          clear hW kk s2
          refine hK.out _ _ kW (fun _ => ?_)
          clear hK K
          try simp only [Act.put, List.setIfInBounds_toArray, List.set_cons_zero, List.set_cons_succ]
          refine wpAnyH_ready (rs := [3]) (by kernel_rfl) (by simp) ?_
          refine AllReadyH.cons (o := ⟨_, _, _, _, _, _⟩) rfl (fun K hK => ?_) AllReadyH.nil
          go_simp
          refine (ofL_n rs2 good_ab rfl (Nat.le_refl 2)).mono ?_
          rintro e W4 ⟨p, F, rfl, vs3, hF, kk⟩
          replace kW := kW.then kk (by simp)
          replace rs5 := rs5.keep kk (by simp)
          replace rs8 := rs8.keep kk (by simp)
          clear rs2 kk
          go_wp2_with fail
          refine hK.out _ _ kW (fun _ => ?_)
          clear hK K
          try simp only [Act.put, List.setIfInBounds_toArray, List.set_cons_zero, List.set_cons_succ]
          refine wpAnyH_ready (rs := [6]) (by kernel_rfl) (by simp) ?_
          refine AllReadyH.cons (o := ⟨_, _, _, _, _, _⟩) rfl (fun K hK => ?_) AllReadyH.nil
          go_simp
          refine (ofL_n rs5 good_a rfl (Nat.le_refl 1)).mono ?_
          rintro e W5 ⟨q, G, rfl, vs6, hG, kk⟩
          replace kW := kW.then kk (by simp)
          replace rs8 := rs8.keep kk (by simp)
          replace vs3 := vs3.over kk
          clear rs5 kk
          go_wp2_with fail
          refine hK.out _ _ kW (fun _ => ?_)
          clear hK K
          try simp only [Act.put, List.setIfInBounds_toArray, List.set_cons_zero, List.set_cons_succ]
          refine wpAnyH_ready (rs := [9]) (by kernel_rfl) (by simp) ?_
          refine AllReadyH.cons (o := ⟨_, _, _, _, _, _⟩) rfl (fun K hK => ?_) AllReadyH.nil
          go_simp
          refine (ofL_n rs8 good_b rfl (Nat.le_refl 1)).mono ?_
          rintro e W6 ⟨r, H, rfl, vs9, hH, kk⟩
          have kb9 := kW
          have hF6 := fun y hy => vs3.lt y hy
          have hG9 := fun y hy => vs6.lt y hy
          replace kW := kW.then kk (by simp)
          replace vs3 := vs3.over kk
          replace vs6 := vs6.over kk
          clear rs8 kk
          go_wp2_with fail
          refine hK.out _ _ kW (fun _ => ?_)
          clear hK K
          try simp only [Act.put, List.setIfInBounds_toArray, List.set_cons_zero, List.set_cons_succ]
          refine wpAnyH_take (i := 10) (oi := ⟨_, _, _, _, _, _⟩) (v := ?_) rfl (by kernel_rfl) (by kernel_rfl) (by kernel_rfl) (fun _ _ _ h => h) (Or.inl ⟨by rfl, ?_⟩) kW ?_
          rotate_left
          · intro w' hSw; clear hSw; (go_simp; try with_reducible rfl)
          try simp only [Act.put, List.setIfInBounds_toArray, List.set_cons_zero, List.set_cons_succ]
          refine wpAnyH_take (i := 11) (oi := ⟨_, _, _, _, _, _⟩) (v := ?_) rfl (by kernel_rfl) (by kernel_rfl) (by kernel_rfl) (fun _ _ _ h => h) (Or.inl ⟨by rfl, ?_⟩) kW ?_
          rotate_left
          · intro w' hSw; clear hSw; (go_simp; try with_reducible rfl)
          try simp only [Act.put, List.setIfInBounds_toArray, List.set_cons_zero, List.set_cons_succ]
          refine wpAnyH_take (i := 12) (oi := ⟨_, _, _, _, _, _⟩) (v := ?_) rfl (by kernel_rfl) (by kernel_rfl) (by kernel_rfl) (fun _ _ _ h => h) (Or.inl ⟨by rfl, ?_⟩) kW ?_
          rotate_left
          · intro w' hSw; clear hSw; (go_simp; try with_reducible rfl)
          try simp only [Act.put, List.setIfInBounds_toArray, List.set_cons_zero, List.set_cons_succ]
          refine wpAnyH_done (by kernel_rfl) ?_ _
          have HE : Hid (worksMid w6 W6 (.pointer (some ⟨p, 0, none⟩)) (.pointer (some ⟨q, 0, none⟩)) (.pointer (some ⟨r, 0, none⟩))) := Lib.hid ⟨p, q, r, F, G, H, rfl, rfl, rfl, vs3, vs6, vs9, fun y hy => ⟨fun h => by have := hH y hy; have := hF6 y h; omega, fun h => by have := hH y hy; have := hG9 y h; omega, by have := hH y hy; have := kb9.size; have := k0b.size; omega⟩, k0b.then kW (by simp)⟩
          go_wp2_with fail
          go_meet
          exact HE.out
        exact AllReadyH.nil
      refine AllReadyH.cons (o := ⟨_, _, _, _, _, _⟩) rfl (fun K hK => ?_) ?_
      · go_simp
        have kk := (keepBut.refl [] W1).alloc (.cells #[.int .i64 3, .int .i64 0, .int .i64 2, .slice (some ⟨y, 0, none⟩) 2 2] 46)
        have rs8 : rowsV (W1.alloc (.cells #[.int .i64 3, .int .i64 0, .int .i64 2, .slice (some ⟨y, 0, none⟩) 2 2] 46)) _ (some ⟨W1.heap.size, 0, none⟩) [rowEb] := rowsV_one (s := 3) (nd := 0) (kd := 2) (b := [8, 9]) (A' := some ⟨y, 0, none⟩) (n := 2) (hy.keep kW (by simp))
        replace kW := kW.then kk (by simp)
        replace rs2 := rs2.keep kk (by simp)
        have s1 : W1.heap.size < (W1.alloc (.cells #[.int .i64 3, .int .i64 0, .int .i64 2, .slice (some ⟨y, 0, none⟩) 2 2] 46)).heap.size := by simp
        obtain ⟨W2, hW⟩ : ∃ W', W1.alloc (.cells #[.int .i64 3, .int .i64 0, .int .i64 2, .slice (some ⟨y, 0, none⟩) 2 2] 46) = W' := ⟨_, rfl⟩
        rw [hW] at kW rs2 rs8 ⊢
        clear hW kk s1
        refine hK.out _ _ kW (fun _ => ?_)
        clear hK K
        try simp only [Act.put, List.setIfInBounds_toArray, List.set_cons_zero, List.set_cons_succ]
        refine wpAnyH_ready (rs := [3, 5]) (by kernel_rfl) (by simp) ?_
        refine AllReadyH.cons (o := ⟨_, _, _, _, _, _⟩) rfl (fun K hK => ?_) ?_
        · go_simp
          refine (ofL_n rs2 good_ab rfl (Nat.le_refl 2)).mono ?_
          rintro e W3 ⟨p, F, rfl, vs3, hF, kk⟩
          replace kW := kW.then kk (by simp)
          replace rs8 := rs8.keep kk (by simp)
          clear rs2 kk
          go_wp2_with fail
          refine hK.out _ _ kW (fun _ => ?_)
          clear hK K
          try simp only [Act.put, List.setIfInBounds_toArray, List.set_cons_zero, List.set_cons_succ]
          refine wpAnyH_ready (rs := [5]) (by kernel_rfl) (by simp) ?_
          refine AllReadyH.cons (o := ⟨_, _, _, _, _, _⟩) rfl (fun K hK => ?_) AllReadyH.nil
          go_simp
          have kk := (keepBut.refl [] W3).alloc (.cells #[.int .i64 1, .int .i64 10, .int .i64 1, .slice (some ⟨x, 0, none⟩) 1 1] 46)
          have rs5 : rowsV (W3.alloc (.cells #[.int .i64 1, .int .i64 10, .int .i64 1, .slice (some ⟨x, 0, none⟩) 1 1] 46)) _ (some ⟨W3.heap.size, 0, none⟩) [rowEa] := rowsV_one (s := 1) (nd := 10) (kd := 1) (b := [7]) (A' := some ⟨x, 0, none⟩) (n := 1) (hx.keep kW (by simp))
          replace kW := kW.then kk (by simp)
          replace rs8 := rs8.keep kk (by simp)
          replace vs3 := vs3.over kk
          have s3 : W3.heap.size < (W3.alloc (.cells #[.int .i64 1, .int .i64 10, .int .i64 1, .slice (some ⟨x, 0, none⟩) 1 1] 46)).heap.size := by simp
          obtain ⟨W4, hW⟩ : ∃ W', W3.alloc (.cells #[.int .i64 1, .int .i64 10, .int .i64 1, .slice (some ⟨x, 0, none⟩) 1 1] 46) = W' := ⟨_, rfl⟩
          rw [hW] at kW rs5 rs8 vs3 ⊢
          clear hW kk s3
          refine hK.out _ _ kW (fun _ => ?_)
          clear hK K
          try simp only [Act.put, List.setIfInBounds_toArray, List.set_cons_zero, List.set_cons_succ]
          refine wpAnyH_ready (rs := [6]) (by kernel_rfl) (by simp) ?_
          refine AllReadyH.cons (o := ⟨_, _, _, _, _, _⟩) rfl (fun K hK => ?_) AllReadyH.nil
          go_simp
          refine (ofL_n rs5 good_a rfl (Nat.le_refl 1)).mono ?_
          rintro e W5 ⟨q, G, rfl, vs6, hG, kk⟩
          replace kW := kW.then kk (by simp)
          replace rs8 := rs8.keep kk (by simp)
          replace vs3 := vs3.over kk
          clear rs5 kk
          go_wp2_with fail
          refine hK.out _ _ kW (fun _ => ?_)
          clear hK K
          try simp only [Act.put, List.setIfInBounds_toArray, List.set_cons_zero, List.set_cons_succ]
          refine wpAnyH_ready (rs := [9]) (by kernel_rfl) (by simp) ?_
          refine AllReadyH.cons (o := ⟨_, _, _, _, _, _⟩) rfl (fun K hK => ?_) AllReadyH.nil
          go_simp
          refine (ofL_n rs8 good_b rfl (Nat.le_refl 1)).mono ?_
          rintro e W6 ⟨r, H, rfl, vs9, hH, kk⟩
          have kb9 := kW
          have hF6 := fun y hy => vs3.lt y hy
          have hG9 := fun y hy => vs6.lt y hy
          replace kW := kW.then kk (by simp)
          replace vs3 := vs3.over kk
          replace vs6 := vs6.over kk
          clear rs8 kk
          go_wp2_with fail
          refine hK.out _ _ kW (fun _ => ?_)
          clear hK K
          try simp only [Act.put, List.setIfInBounds_toArray, List.set_cons_zero, List.set_cons_succ]
          refine wpAnyH_take (i := 10) (oi := ⟨_, _, _, _, _, _⟩) (v := ?_) rfl (by kernel_rfl) (by kernel_rfl) (by kernel_rfl) (fun _ _ _ h => h) (Or.inl ⟨by rfl, ?_⟩) kW ?_
          rotate_left
          · intro w' hSw; clear hSw; (go_simp; try with_reducible rfl)
          try simp only [Act.put, List.setIfInBounds_toArray, List.set_cons_zero, List.set_cons_succ]
          refine wpAnyH_take (i := 11) (oi := ⟨_, _, _, _, _, _⟩) (v := ?_) rfl (by kernel_rfl) (by kernel_rfl) (by kernel_rfl) (fun _ _ _ h => h) (Or.inl ⟨by rfl, ?_⟩) kW ?_
          rotate_left
          · intro w' hSw; clear hSw; (go_simp; try with_reducible rfl)
          try simp only [Act.put, List.setIfInBounds_toArray, List.set_cons_zero, List.set_cons_succ]
          refine wpAnyH_take (i := 12) (oi := ⟨_, _, _, _, _, _⟩) (v := ?_) rfl (by kernel_rfl) (by kernel_rfl) (by kernel_rfl) (fun _ _ _ h => h) (Or.inl ⟨by rfl, ?_⟩) kW ?_
          rotate_left
          · intro w' hSw; clear hSw; (go_simp; try with_reducible rfl)
          try simp only [Act.put, List.setIfInBounds_toArray, List.set_cons_zero, List.set_cons_succ]
          refine wpAnyH_done (by kernel_rfl) ?_ _
          have HE : Hid (worksMid w6 W6 (.pointer (some ⟨p, 0, none⟩)) (.pointer (some ⟨q, 0, none⟩)) (.pointer (some ⟨r, 0, none⟩))) := Lib.hid ⟨p, q, r, F, G, H, rfl, rfl, rfl, vs3, vs6, vs9, fun y hy => ⟨fun h => by have := hH y hy; have := hF6 y h; omega, fun h => by have := hH y hy; have := hG9 y h; omega, by have := hH y hy; have := kb9.size; have := k0b.size; omega⟩, k0b.then kW (by simp)⟩
          go_wp2_with fail
          go_meet
          exact HE.out
        refine AllReadyH.cons (o := ⟨_, _, _, _, _, _⟩) rfl (fun K hK => ?_) ?_
        · go_simp
          have kk := (keepBut.refl [] W2).alloc (.cells #[.int .i64 1, .int .i64 10, .int .i64 1, .slice (some ⟨x, 0, none⟩) 1 1] 46)
          have rs5 : rowsV (W2.alloc (.cells #[.int .i64 1, .int .i64 10, .int .i64 1, .slice (some ⟨x, 0, none⟩) 1 1] 46)) _ (some ⟨W2.heap.size, 0, none⟩) [rowEa] := rowsV_one (s := 1) (nd := 10) (kd := 1) (b := [7]) (A' := some ⟨x, 0, none⟩) (n := 1) (hx.keep kW (by simp))
          replace kW := kW.then kk (by simp)
          replace rs2 := rs2.keep kk (by simp)
          replace rs8 := rs8.keep kk (by simp)
          have s2 : W2.heap.size < (W2.alloc (.cells #[.int .i64 1, .int .i64 10, .int .i64 1, .slice (some ⟨x, 0, none⟩) 1 1] 46)).heap.size := by simp
          obtain ⟨W3, hW⟩ : ∃ W', W2.alloc (.cells #[.int .i64 1, .int .i64 10, .int .i64 1, .slice (some ⟨x, 0, none⟩) 1 1] 46) = W' := ⟨_, rfl⟩
          rw [hW] at kW rs2 rs5 rs8 ⊢
          clear hW kk s2
          refine hK.out _ _ kW (fun _ => ?_)
          clear hK K
          try simp only [Act.put, List.setIfInBounds_toArray, List.set_cons_zero, List.set_cons_succ]
          refine wpAnyH_ready (rs := [3]) (by kernel_rfl) (by simp) ?_
          refine AllReadyH.cons (o := ⟨_, _, _, _, _, _⟩) rfl (fun K hK => ?_) AllReadyH.nil
          go_simp
          refine (ofL_n rs2 good_ab rfl (Nat.le_refl 2)).mono ?_
          rintro e W4 ⟨p, F, rfl, vs3, hF, kk⟩
          replace kW := kW.then kk (by simp)
          replace rs5 := rs5.keep kk (by simp)
          replace rs8 := rs8.keep kk (by simp)
          clear rs2 kk
          go_wp2_with fail
          refine hK.out _ _ kW (fun _ => ?_)
          clear hK K
          try simp only [Act.put, List.setIfInBounds_toArray, List.set_cons_zero, List.set_cons_succ]
          refine wpAnyH_ready (rs := [6]) (by kernel_rfl) (by simp) ?_
          refine AllReadyH.cons (o := ⟨_, _, _, _, _, _⟩) rfl (fun K hK => ?_) AllReadyH.nil
          go_simp
          refine (ofL_n rs5 good_a rfl (Nat.le_refl 1)).mono ?_
          rintro e W5 ⟨q, G, rfl, vs6, hG, kk⟩
          replace kW := kW.then kk (by simp)
          replace rs8 := rs8.keep kk (by simp)
          replace vs3 := vs3.over kk
          clear rs5 kk
          go_wp2_with fail
          refine hK.out _ _ kW (fun _ => ?_)
          clear hK K
          try simp only [Act.put, List.setIfInBounds_toArray, List.set_cons_zero, List.set_cons_succ]
          refine wpAnyH_ready (rs := [9]) (by kernel_rfl) (by simp) ?_
          refine AllReadyH.cons (o := ⟨_, _, _, _, _, _⟩) rfl (fun K hK => ?_) AllReadyH.nil
          go_simp
          refine (ofL_n rs8 good_b rfl (Nat.le_refl 1)).mono ?_
          rintro e W6 ⟨r, H, rfl, vs9, hH, kk⟩
          have kb9 := kW
          have hF6 := fun y hy => vs3.lt y hy
          have hG9 := fun y hy => vs6.lt y hy
          replace kW := kW.then kk (by simp)
          replace vs3 := vs3.over kk
          replace vs6 := vs6.over kk
          clear rs8 kk
          go_wp2_with fail
          refine hK.out _ _ kW (fun _ => ?_)
          clear hK K
          try simp only [Act.put, List.setIfInBounds_toArray, List.set_cons_zero, List.set_cons_succ]
          refine wpAnyH_take (i := 10) (oi := ⟨_, _, _, _, _, _⟩) (v := ?_) rfl (by kernel_rfl) (by kernel_rfl) (by kernel_rfl) (fun _ _ _ h => h) (Or.inl ⟨by rfl, ?_⟩) kW ?_
          rotate_left
          · intro w' hSw; clear hSw; (go_simp; try with_reducible rfl)
          try simp only [Act.put, List.setIfInBounds_toArray, List.set_cons_zero, List.set_cons_succ]
          refine wpAnyH_take (i := 11) (oi := ⟨_, _, _, _, _, _⟩) (v := ?_) rfl (by kernel_rfl) (by kernel_rfl) (by kernel_rfl) (fun _ _ _ h => h) (Or.inl ⟨by rfl, ?_⟩) kW ?_
          rotate_left
          · intro w' hSw; clear hSw; (go_simp; try with_reducible rfl)
          try simp only [Act.put, List.setIfInBounds_toArray, List.set_cons_zero, List.set_cons_succ]
          refine wpAnyH_take (i := 12) (oi := ⟨_, _, _, _, _, _⟩) (v := ?_) rfl (by kernel_rfl) (by kernel_rfl) (by kernel_rfl) (fun _ _ _ h => h) (Or.inl ⟨by rfl, ?_⟩) kW ?_
          rotate_left
          · intro w' hSw; clear hSw; (go_simp; try with_reducible rfl)
          try simp only [Act.put, List.setIfInBounds_toArray, List.set_cons_zero, List.set_cons_succ]
          refine wpAnyH_done (by kernel_rfl) ?_ _
          have HE : Hid (worksMid w6 W6 (.pointer (some ⟨p, 0, none⟩)) (.pointer (some ⟨q, 0, none⟩)) (.pointer (some ⟨r, 0, none⟩))) := Lib.hid ⟨p, q, r, F, G, H, rfl, rfl, rfl, vs3, vs6, vs9, fun y hy => ⟨fun h => by have := hH y hy; have := hF6 y h; omega, fun h => by have := hH y hy; have := hG9 y h; omega, by have := hH y hy; have := kb9.size; have := k0b.size; omega⟩, k0b.then kW (by simp)⟩
          go_wp2_with fail
          go_meet
          exact HE.out
        exact AllReadyH.nil
      exact AllReadyH.nil
    refine AllReadyH.cons (o := ⟨_, _, _, _, _, _⟩) rfl (fun K hK => ?_) ?_
    · go_simp
      have kk := (keepBut.refl [] wd).alloc (.cells #[.int .i64 1, .int .i64 10, .int .i64 1, .slice (some ⟨x, 0, none⟩) 1 1] 46)
      have rs5 : rowsV (wd.alloc (.cells #[.int .i64 1, .int .i64 10, .int .i64 1, .slice (some ⟨x, 0, none⟩) 1 1] 46)) _ (some ⟨wd.heap.size, 0, none⟩) [rowEa] := rowsV_one (s := 1) (nd := 10) (kd := 1) (b := [7]) (A' := some ⟨x, 0, none⟩) (n := 1) (hx.keep kW (by simp))
      replace kW := kW.then kk (by simp)
      have s0 : wd.heap.size < (wd.alloc (.cells #[.int .i64 1, .int .i64 10, .int .i64 1, .slice (some ⟨x, 0, none⟩) 1 1] 46)).heap.size := by simp
      obtain ⟨W1, hW⟩ : ∃ W', wd.alloc (.cells #[.int .i64 1, .int .i64 10, .int .i64 1, .slice (some ⟨x, 0, none⟩) 1 1] 46) = W' := ⟨_, rfl⟩
      rw [hW] at kW rs5 ⊢
      clear hW kk s0
      refine hK.out _ _ kW (fun _ => ?_)
      clear hK K
      try simp only [Act.put, List.setIfInBounds_toArray, List.set_cons_zero, List.set_cons_succ]
      refine wpAnyH_ready (rs := [2, 8]) (by kernel_rfl) (by simp) ?_
      refine AllReadyH.cons (o := ⟨_, _, _, _, _, _⟩) rfl (fun K hK => ?_) ?_
      · go_simp
        have kk := (keepBut.refl [] W1).alloc (.cells #[.int .i64 1, .int .i64 10, .int .i64 1, .slice (some ⟨x, 0, none⟩) 1 1, .int .i64 3, .int .i64 0, .int .i64 2, .slice (some ⟨y, 0, none⟩) 2 2] 46)
        have rs2 : rowsV (W1.alloc (.cells #[.int .i64 1, .int .i64 10, .int .i64 1, .slice (some ⟨x, 0, none⟩) 1 1, .int .i64 3, .int .i64 0, .int .i64 2, .slice (some ⟨y, 0, none⟩) 2 2] 46)) _ (some ⟨W1.heap.size, 0, none⟩) [rowEa, rowEb] := rowsV_two (s := 1) (nd := 10) (kd := 1) (b := [7]) (A' := some ⟨x, 0, none⟩) (n := 1) (s' := 3) (nd' := 0) (kd' := 2) (b' := [8, 9]) (B' := some ⟨y, 0, none⟩) (n' := 2) (hx.keep kW (by simp)) (hy.keep kW (by simp))
        replace kW := kW.then kk (by simp)
        replace rs5 := rs5.keep kk (by simp)
        have s1 : W1.heap.size < (W1.alloc (.cells #[.int .i64 1, .int .i64 10, .int .i64 1, .slice (some ⟨x, 0, none⟩) 1 1, .int .i64 3, .int .i64 0, .int .i64 2, .slice (some ⟨y, 0, none⟩) 2 2] 46)).heap.size := by simp
        obtain ⟨W2, hW⟩ : ∃ W', W1.alloc (.cells #[.int .i64 1, .int .i64 10, .int .i64 1, .slice (some ⟨x, 0, none⟩) 1 1, .int .i64 3, .int .i64 0, .int .i64 2, .slice (some ⟨y, 0, none⟩) 2 2] 46) = W' := ⟨_, rfl⟩
        rw [hW] at kW rs2 rs5 ⊢
        clear hW kk s1
        refine hK.out _ _ kW (fun _ => ?_)
        clear hK K
        try simp only [Act.put, List.setIfInBounds_toArray, List.set_cons_zero, List.set_cons_succ]
        refine wpAnyH_ready (rs := [3, 8]) (by kernel_rfl) (by simp) ?_
        refine AllReadyH.cons (o := ⟨_, _, _, _, _, _⟩) rfl (fun K hK => ?_) ?_
        · go_simp
          refine (ofL_n rs2 good_ab rfl (Nat.le_refl 2)).mono ?_
          rintro e W3 ⟨p, F, rfl, vs3, hF, kk⟩
          replace kW := kW.then kk (by simp)
          replace rs5 := rs5.keep kk (by simp)
          clear rs2 kk
          go_wp2_with fail
          refine hK.out _ _ kW (fun _ => ?_)
          clear hK K
          try simp only [Act.put, List.setIfInBounds_toArray, List.set_cons_zero, List.set_cons_succ]
          refine wpAnyH_ready (rs := [6, 8]) (by kernel_rfl) (by simp) ?_
          refine AllReadyH.cons (o := ⟨_, _, _, _, _, _⟩) rfl (fun K hK => ?_) ?_
          · go_simp
            refine (ofL_n rs5 good_a rfl (Nat.le_refl 1)).mono ?_
            rintro e W4 ⟨q, G, rfl, vs6, hG, kk⟩
            replace kW := kW.then kk (by simp)
            replace vs3 := vs3.over kk
            clear rs5 kk
            go_wp2_with fail
            refine hK.out _ _ kW (fun _ => ?_)
            clear hK K
            try simp only [Act.put, List.setIfInBounds_toArray, List.set_cons_zero, List.set_cons_succ]
            refine wpAnyH_ready (rs := [8]) (by kernel_rfl) (by simp) ?_
            refine AllReadyH.cons (o := ⟨_, _, _, _, _, _⟩) rfl (fun K hK => ?_) AllReadyH.nil
            go_simp
            have kk := (keepBut.refl [] W4).alloc (.cells #[.int .i64 3, .int .i64 0, .int .i64 2, .slice (some ⟨y, 0, none⟩) 2 2] 46)
            have rs8 : rowsV (W4.alloc (.cells #[.int .i64 3, .int .i64 0, .int .i64 2, .slice (some ⟨y, 0, none⟩) 2 2] 46)) _ (some ⟨W4.heap.size, 0, none⟩) [rowEb] := rowsV_one (s := 3) (nd := 0) (kd := 2) (b := [8, 9]) (A' := some ⟨y, 0, none⟩) (n := 2) (hy.keep kW (by simp))
            replace kW := kW.then kk (by simp)
            replace vs3 := vs3.over kk
            replace vs6 := vs6.over kk
            have s4 : W4.heap.size < (W4.alloc (.cells #[.int .i64 3, .int .i64 0, .int .i64 2, .slice (some ⟨y, 0, none⟩) 2 2] 46)).heap.size := by simp
            obtain ⟨W5, hW⟩ : ∃ W', W4.alloc (.cells #[.int .i64 3, .int .i64 0, .int .i64 2, .slice (some ⟨y, 0, none⟩) 2 2] 46) = W' := ⟨_, rfl⟩
            rw [hW] at kW rs8 vs3 vs6 ⊢
            clear hW kk s4
            refine hK.out _ _ kW (fun _ => ?_)
            clear hK K
            try simp only [Act.put, List.setIfInBounds_toArray, List.set_cons_zero, List.set_cons_succ]
            refine wpAnyH_ready (rs := [9]) (by kernel_rfl) (by simp) ?_
            refine AllReadyH.cons (o := ⟨_, _, _, _, _, _⟩) rfl (fun K hK => ?_) AllReadyH.nil
            go_simp
            refine (ofL_n rs8 good_b rfl (Nat.le_refl 1)).mono ?_
            rintro e W6 ⟨r, H, rfl, vs9, hH, kk⟩
            have kb9 := kW
            have hF6 := fun y hy => vs3.lt y hy
            have hG9 := fun y hy => vs6.lt y hy
            replace kW := kW.then kk (by simp)
            replace vs3 := vs3.over kk
            replace vs6 := vs6.over kk
            clear rs8 kk
            go_wp2_with fail
            refine hK.out _ _ kW (fun _ => ?_)
            clear hK K
            try simp only [Act.put, List.setIfInBounds_toArray, List.set_cons_zero, List.set_cons_succ]
            refine wpAnyH_take (i := 10) (oi := ⟨_, _, _, _, _, _⟩) (v := ?_) rfl (by kernel_rfl) (by kernel_rfl) (by kernel_rfl) (fun _ _ _ h => h) (Or.inl ⟨by rfl, ?_⟩) kW ?_
            rotate_left
            · intro w' hSw; clear hSw; (go_simp; try with_reducible rfl)
            try simp only [Act.put, List.setIfInBounds_toArray, List.set_cons_zero, List.set_cons_succ]
            refine wpAnyH_take (i := 11) (oi := ⟨_, _, _, _, _, _⟩) (v := ?_) rfl (by kernel_rfl) (by kernel_rfl) (by kernel_rfl) (fun _ _ _ h => h) (Or.inl ⟨by rfl, ?_⟩) kW ?_
            rotate_left
            · intro w' hSw; clear hSw; (go_simp; try with_reducible rfl)
            try simp only [Act.put, List.setIfInBounds_toArray, List.set_cons_zero, List.set_cons_succ]
            refine wpAnyH_take (i := 12) (oi := ⟨_, _, _, _, _, _⟩) (v := ?_) rfl (by kernel_rfl) (by kernel_rfl) (by kernel_rfl) (fun _ _ _ h => h) (Or.inl ⟨by rfl, ?_⟩) kW ?_
            rotate_left
            · intro w' hSw; clear hSw; (go_simp; try with_reducible rfl)
            try simp only [Act.put, List.setIfInBounds_toArray, List.set_cons_zero, List.set_cons_succ]
            refine wpAnyH_done (by kernel_rfl) ?_ _
            have HE : Hid (worksMid w6 W6 (.pointer (some ⟨p, 0, none⟩)) (.pointer (some ⟨q, 0, none⟩)) (.pointer (some ⟨r, 0, none⟩))) := Lib.hid ⟨p, q, r, F, G, H, rfl, rfl, rfl, vs3, vs6, vs9, fun y hy => ⟨fun h => by have := hH y hy; have := hF6 y h; omega, fun h => by have := hH y hy; have := hG9 y h; omega, by have := hH y hy; have := kb9.size; have := k0b.size; omega⟩, k0b.then kW (by simp)⟩
            go_wp2_with fail
            go_meet
            exact HE.out
          refine AllReadyH.cons (o := ⟨_, _, _, _, _, _⟩) rfl (fun K hK => ?_) ?_
          · go_simp
            have kk := (keepBut.refl [] W3).alloc (.cells #[.int .i64 3, .int .i64 0, .int .i64 2, .slice (some ⟨y, 0, none⟩) 2 2] 46)
            have rs8 : rowsV (W3.alloc (.cells #[.int .i64 3, .int .i64 0, .int .i64 2, .slice (some ⟨y, 0, none⟩) 2 2] 46)) _ (some ⟨W3.heap.size, 0, none⟩) [rowEb] := rowsV_one (s := 3) (nd := 0) (kd := 2) (b := [8, 9]) (A' := some ⟨y, 0, none⟩) (n := 2) (hy.keep kW (by simp))
            replace kW := kW.then kk (by simp)
            replace rs5 := rs5.keep kk (by simp)
            replace vs3 := vs3.over kk
            have s3 : W3.heap.size < (W3.alloc (.cells #[.int .i64 3, .int .i64 0, .int .i64 2, .slice (some ⟨y, 0, none⟩) 2 2] 46)).heap.size := by simp
            obtain ⟨W4, hW⟩ : ∃ W', W3.alloc (.cells #[.int .i64 3, .int .i64 0, .int .i64 2, .slice (some ⟨y, 0, none⟩) 2 2] 46) = W' := ⟨_, rfl⟩
            rw [hW] at kW rs5 rs8 vs3 ⊢
            clear hW kk s3
            refine hK.out _ _ kW (fun _ => ?_)
            clear hK K
            try simp only [Act.put, List.setIfInBounds_toArray, List.set_cons_zero, List.set_cons_succ]
            refine wpAnyH_ready (rs := [6]) (by kernel_rfl) (by simp) ?_
            refine AllReadyH.cons (o := ⟨_, _, _, _, _, _⟩) rfl (fun K hK => ?_) AllReadyH.nil
            go_simp
            refine (ofL_n rs5 good_a rfl (Nat.le_refl 1)).mono ?_
            rintro e W5 ⟨q, G, rfl, vs6, hG, kk⟩
            replace kW := kW.then kk (by simp)
            replace rs8 := rs8.keep kk (by simp)
            replace vs3 := vs3.over kk
            clear rs5 kk
            go_wp2_with fail
            refine hK.out _ _ kW (fun _ => ?_)
            clear hK K
            try simp only [Act.put, List.setIfInBounds_toArray, List.set_cons_zero, List.set_cons_succ]
            refine wpAnyH_ready (rs := [9]) (by kernel_rfl) (by simp) ?_
            refine AllReadyH.cons (o := ⟨_, _, _, _, _, _⟩) rfl (fun K hK => ?_) AllReadyH.nil
            go_simp
            refine (ofL_n rs8 good_b rfl (Nat.le_refl 1)).mono ?_
            rintro e W6 ⟨r, H, rfl, vs9, hH, kk⟩
            have kb9 := kW
            have hF6 := fun y hy => vs3.lt y hy
            have hG9 := fun y hy => vs6.lt y hy
            replace kW := kW.then kk (by simp)
            replace vs3 := vs3.over kk
            replace vs6 := vs6.over kk
            clear rs8 kk
            go_wp2_with fail
            refine hK.out _ _ kW (fun _ => ?_)
            clear hK K
            try simp only [Act.put, List.setIfInBounds_toArray, List.set_cons_zero, List.set_cons_succ]
            refine wpAnyH_take (i := 10) (oi := ⟨_, _, _, _, _, _⟩) (v := ?_) rfl (by kernel_rfl) (by kernel_rfl) (by kernel_rfl) (fun _ _ _ h => h) (Or.inl ⟨by rfl, ?_⟩) kW ?_
            rotate_left
            · intro w' hSw; clear hSw; (go_simp; try with_reducible rfl)
            try simp only [Act.put, List.setIfInBounds_toArray, List.set_cons_zero, List.set_cons_succ]
            refine wpAnyH_take (i := 11) (oi := ⟨_, _, _, _, _, _⟩) (v := ?_) rfl (by kernel_rfl) (by kernel_rfl) (by kernel_rfl) (fun _ _ _ h => h) (Or.inl ⟨by rfl, ?_⟩) kW ?_
            rotate_left
            · intro w' hSw; clear hSw; (go_simp; try with_reducible rfl)
            try simp only [Act.put, List.setIfInBounds_toArray, List.set_cons_zero, List.set_cons_succ]
            refine wpAnyH_take (i := 12) (oi := ⟨_, _, _, _, _, _⟩) (v := ?_) rfl (by kernel_rfl) (by kernel_rfl) (by kernel_rfl) (fun _ _ _ h => h) (Or.inl ⟨by rfl, ?_⟩) kW ?_
            rotate_left
            · intro w' hSw; clear hSw; (go_simp; try with_reducible rfl)
            try simp only [Act.put, List.setIfInBounds_toArray, List.set_cons_zero, List.set_cons_succ]
            refine wpAnyH_done (by kernel_rfl) ?_ _
            have HE : Hid (worksMid w6 W6 (.pointer (some ⟨p, 0, none⟩)) (.pointer (some ⟨q, 0, none⟩)) (.pointer (some ⟨r, 0, none⟩))) := Lib.hid ⟨p, q, r, F, G, H, rfl, rfl, rfl, vs3, vs6, vs9, fun y hy => ⟨fun h => by have := hH y hy; have := hF6 y h; omega, fun h => by have := hH y hy; have := hG9 y h; omega, by have := hH y hy; have := kb9.size; have := k0b.size; omega⟩, k0b.then kW (by simp)⟩
            go_wp2_with fail
            go_meet
            exact HE.out
          exact AllReadyH.nil
        refine AllReadyH.cons (o := ⟨_, _, _, _, _, _⟩) rfl (fun K hK => ?_) ?_
        · go_simp
          have kk := (keepBut.refl [] W2).alloc (.cells #[.int .i64 3, .int .i64 0, .int .i64 2, .slice (some ⟨y, 0, none⟩) 2 2] 46)
          have rs8 : rowsV (W2.alloc (.cells #[.int .i64 3, .int .i64 0, .int .i64 2, .slice (some ⟨y, 0, none⟩) 2 2] 46)) _ (some ⟨W2.heap.size, 0, none⟩) [rowEb] := rowsV_one (s := 3) (nd := 0) (kd := 2) (b := [8, 9]) (A' := some ⟨y, 0, none⟩) (n := 2) (hy.keep kW (by simp))
          replace kW := kW.then kk (by simp)
          replace rs2 := rs2.keep kk (by simp)
          replace rs5 := rs5.keep kk (by simp)
          have s2 : W2.heap.size < (W2.alloc (.cells #[.int .i64 3, .int .i64 0, .int .i64 2, .slice (some ⟨y, 0, none⟩) 2 2] 46)).heap.size := by simp
          obtain ⟨W3, hW⟩ : ∃ W', W2.alloc (.cells #[.int .i64 3, .int .i64 0, .int .i64 2, .slice (some ⟨y, 0, none⟩) 2 2] 46) = W' := ⟨_, rfl⟩
          rw [hW] at kW rs2 rs5 rs8 ⊢
          clear hW kk s2
          refine hK.out _ _ kW (fun _ => ?_)
          clear hK K
          try simp only [Act.put, List.setIfInBounds_toArray, List.set_cons_zero, List.set_cons_succ]
          refine wpAnyH_ready (rs := [3]) (by kernel_rfl) (by simp) ?_
          refine AllReadyH.cons (o := ⟨_, _, _, _, _, _⟩) rfl (fun K hK => ?_) AllReadyH.nil
          go_simp
          refine (ofL_n rs2 good_ab rfl (Nat.le_refl 2)).mono ?_
          rintro e W4 ⟨p, F, rfl, vs3, hF, kk⟩
          replace kW := kW.then kk (by simp)
          replace rs5 := rs5.keep kk (by simp)
          replace rs8 := rs8.keep kk (by simp)
          clear rs2 kk
          go_wp2_with fail
          refine hK.out _ _ kW (fun _ => ?_)
          clear hK K
          try simp only [Act.put, List.setIfInBounds_toArray, List.set_cons_zero, List.set_cons_succ]
          refine wpAnyH_ready (rs := [6]) (by kernel_rfl) (by simp) ?_
          refine AllReadyH.cons (o := ⟨_, _, _, _, _, _⟩) rfl (fun K hK => ?_) AllReadyH.nil
          go_simp
          refine (ofL_n rs5 good_a rfl (Nat.le_refl 1)).mono ?_
          rintro e W5 ⟨q, G, rfl, vs6, hG, kk⟩
          replace kW := kW.then kk (by simp)
          replace rs8 := rs8.keep kk (by simp)
          replace vs3 := vs3.over kk
          clear rs5 kk
          go_wp2_with fail
          refine hK.out _ _ kW (fun _ => ?_)
          clear hK K
          try simp only [Act.put, List.setIfInBounds_toArray, List.set_cons_zero, List.set_cons_succ]
          refine wpAnyH_ready (rs := [9]) (by kernel_rfl) (by simp) ?_
          refine AllReadyH.cons (o := ⟨_, _, _, _, _, _⟩) rfl (fun K hK => ?_) AllReadyH.nil
          go_simp
          refine (ofL_n rs8 good_b rfl (Nat.le_refl 1)).mono ?_
          rintro e W6 ⟨r, H, rfl, vs9, hH, kk⟩
          have kb9 := kW
          have hF6 := fun y hy => vs3.lt y hy
          have hG9 := fun y hy => vs6.lt y hy
          replace kW := kW.then kk (by simp)
          replace vs3 := vs3.over kk
          replace vs6 := vs6.over kk
          clear rs8 kk
          go_wp2_with fail
          refine hK.out _ _ kW (fun _ => ?_)
          clear hK K
          try simp only [Act.put, List.setIfInBounds_toArray, List.set_cons_zero, List.set_cons_succ]
          refine wpAnyH_take (i := 10) (oi := ⟨_, _, _, _, _, _⟩) (v := ?_) rfl (by kernel_rfl) (by kernel_rfl) (by kernel_rfl) (fun _ _ _ h => h) (Or.inl ⟨by rfl, ?_⟩) kW ?_
          rotate_left
          · intro w' hSw; clear hSw; (go_simp; try with_reducible rfl)
          try simp only [Act.put, List.setIfInBounds_toArray, List.set_cons_zero, List.set_cons_succ]
          refine wpAnyH_take (i := 11) (oi := ⟨_, _, _, _, _, _⟩) (v := ?_) rfl (by kernel_rfl) (by kernel_rfl) (by kernel_rfl) (fun _ _ _ h => h) (Or.inl ⟨by rfl, ?_⟩) kW ?_
          rotate_left
          · intro w' hSw; clear hSw; (go_simp; try with_reducible rfl)
          try simp only [Act.put, List.setIfInBounds_toArray, List.set_cons_zero, List.set_cons_succ]
          refine wpAnyH_take (i := 12) (oi := ⟨_, _, _, _, _, _⟩) (v := ?_) rfl (by kernel_rfl) (by kernel_rfl) (by kernel_rfl) (fun _ _ _ h => h) (Or.inl ⟨by rfl, ?_⟩) kW ?_
          rotate_left
          · intro w' hSw; clear hSw; (go_simp; try with_reducible rfl)
          try simp only [Act.put, List.setIfInBounds_toArray, List.set_cons_zero, List.set_cons_succ]
          refine wpAnyH_done (by kernel_rfl) ?_ _
          have HE : Hid (worksMid w6 W6 (.pointer (some ⟨p, 0, none⟩)) (.pointer (some ⟨q, 0, none⟩)) (.pointer (some ⟨r, 0, none⟩))) := Lib.hid ⟨p, q, r, F, G, H, rfl, rfl, rfl, vs3, vs6, vs9, fun y hy => ⟨fun h => by have := hH y hy; have := hF6 y h; omega, fun h => by have := hH y hy; have := hG9 y h; omega, by have := hH y hy; have := kb9.size; have := k0b.size; omega⟩, k0b.then kW (by simp)⟩
          go_wp2_with fail
          go_meet
          exact HE.out
        exact AllReadyH.nil
      refine AllReadyH.cons (o := ⟨_, _, _, _, _, _⟩) rfl (fun K hK => ?_) ?_
      · go_simp
        have kk := (keepBut.refl [] W1).alloc (.cells #[.int .i64 3, .int .i64 0, .int .i64 2, .slice (some ⟨y, 0, none⟩) 2 2] 46)
        have rs8 : rowsV (W1.alloc (.cells #[.int .i64 3, .int .i64 0, .int .i64 2, .slice (some ⟨y, 0, none⟩) 2 2] 46)) _ (some ⟨W1.heap.size, 0, none⟩) [rowEb] := rowsV_one (s := 3) (nd := 0) (kd := 2) (b := [8, 9]) (A' := some ⟨y, 0, none⟩) (n := 2) (hy.keep kW (by simp))
        replace kW := kW.then kk (by simp)
        replace rs5 := rs5.keep kk (by simp)
        have s1 : W1.heap.size < (W1.alloc (.cells #[.int .i64 3, .int .i64 0, .int .i64 2, .slice (some ⟨y, 0, none⟩) 2 2] 46)).heap.size := by simp
        obtain ⟨W2, hW⟩ : ∃ W', W1.alloc (.cells #[.int .i64 3, .int .i64 0, .int .i64 2, .slice (some ⟨y, 0, none⟩) 2 2] 46) = W' := ⟨_, rfl⟩
        rw [hW] at kW rs5 rs8 ⊢
        clear hW kk s1
        refine hK.out _ _ kW (fun _ => ?_)
        clear hK K
        try simp only [Act.put, List.setIfInBounds_toArray, List.set_cons_zero, List.set_cons_succ]
        refine wpAnyH_ready (rs := [2]) (by kernel_rfl) (by simp) ?_
        refine AllReadyH.cons (o := ⟨_, _, _, _, _, _⟩) rfl (fun K hK => ?_) AllReadyH.nil
        go_simp
        have kk := (keepBut.refl [] W2).alloc (.cells #[.int .i64 1, .int .i64 10, .int .i64 1, .slice (some ⟨x, 0, none⟩) 1 1, .int .i64 3, .int .i64 0, .int .i64 2, .slice (some ⟨y, 0, none⟩) 2 2] 46)
        have rs2 : rowsV (W2.alloc (.cells #[.int .i64 1, .int .i64 10, .int .i64 1, .slice (some ⟨x, 0, none⟩) 1 1, .int .i64 3, .int .i64 0, .int .i64 2, .slice (some ⟨y, 0, none⟩) 2 2] 46)) _ (some ⟨W2.heap.size, 0, none⟩) [rowEa, rowEb] := rowsV_two (s := 1) (nd := 10) (kd := 1) (b := [7]) (A' := some ⟨x, 0, none⟩) (n := 1) (s' := 3) (nd' := 0) (kd' := 2) (b' := [8, 9]) (B' := some ⟨y, 0, none⟩) (n' := 2) (hx.keep kW (by simp)) (hy.keep kW (by simp))
        replace kW := kW.then kk (by simp)
        replace rs5 := rs5.keep kk (by simp)
        replace rs8 := rs8.keep kk (by simp)
        have s2 : W2.heap.size < (W2.alloc (.cells #[.int .i64 1, .int .i64 10, .int .i64 1, .slice (some ⟨x, 0, none⟩) 1 1, .int .i64 3, .int .i64 0, .int .i64 2, .slice (some ⟨y, 0, none⟩) 2 2] 46)).heap.size := by simp
        obtain ⟨W3, hW⟩ : ∃ W', W2.alloc (.cells #[.int .i64 1, .int .i64 10, .int .i64 1, .slice (some ⟨x, 0, none⟩) 1 1, .int .i64 3, .int .i64 0, .int .i64 2, .slice (some ⟨y, 0, none⟩) 2 2] 46) = W' := ⟨_, rfl⟩
        rw [hW] at kW rs2 rs5 rs8 ⊢
        clear hW kk s2
        refine hK.out _ _ kW (fun _ => ?_)
        clear hK K
        try simp only [Act.put, List.setIfInBounds_toArray, List.set_cons_zero, List.set_cons_succ]
        refine wpAnyH_ready (rs := [3]) (by kernel_rfl) (by simp) ?_
        refine AllReadyH.cons (o := ⟨_, _, _, _, _, _⟩) rfl (fun K hK => ?_) AllReadyH.nil
        go_simp
        refine (ofL_n rs2 good_ab rfl (Nat.le_refl 2)).mono ?_
        rintro e W4 ⟨p, F, rfl, vs3, hF, kk⟩
        replace kW := kW.then kk (by simp)
        replace rs5 := rs5.keep kk (by simp)
        replace rs8 := rs8.keep kk (by simp)
        clear rs2 kk
        go_wp2_with fail
        refine hK.out _ _ kW (fun _ => ?_)
        clear hK K
        try simp only [Act.put, List.setIfInBounds_toArray, List.set_cons_zero, List.set_cons_succ]
        refine wpAnyH_ready (rs := [6]) (by kernel_rfl) (by simp) ?_
        refine AllReadyH.cons (o := ⟨_, _, _, _, _, _⟩) rfl (fun K hK => ?_) AllReadyH.nil
        go_simp
        refine (ofL_n rs5 good_a rfl (Nat.le_refl 1)).mono ?_
        rintro e W5 ⟨q, G, rfl, vs6, hG, kk⟩
        replace kW := kW.then kk (by simp)
        replace rs8 := rs8.keep kk (by simp)
        replace vs3 := vs3.over kk
        clear rs5 kk
        go_wp2_with fail
        refine hK.out _ _ kW (fun _ => ?_)
        clear hK K
        try simp only [Act.put, List.setIfInBounds_toArray, List.set_cons_zero, List.set_cons_succ]
        refine wpAnyH_ready (rs := [9]) (by kernel_rfl) (by simp) ?_
        refine AllReadyH.cons (o := ⟨_, _, _, _, _, _⟩) rfl (fun K hK => ?_) AllReadyH.nil
        go_simp
        refine (ofL_n rs8 good_b rfl (Nat.le_refl 1)).mono ?_
        rintro e W6 ⟨r, H, rfl, vs9, hH, kk⟩
        have kb9 := kW
        have hF6 := fun y hy => vs3.lt y hy
        have hG9 := fun y hy => vs6.lt y hy
        replace kW := kW.then kk (by simp)
        replace vs3 := vs3.over kk
        replace vs6 := vs6.over kk
        clear rs8 kk
        go_wp2_with fail
        refine hK.out _ _ kW (fun _ => ?_)
        clear hK K
        try simp only [Act.put, List.setIfInBounds_toArray, List.set_cons_zero, List.set_cons_succ]
        refine wpAnyH_take (i := 10) (oi := ⟨_, _, _, _, _, _⟩) (v := ?_) rfl (by kernel_rfl) (by kernel_rfl) (by kernel_rfl) (fun _ _ _ h => h) (Or.inl ⟨by rfl, ?_⟩) kW ?_
        rotate_left
        · intro w' hSw; clear hSw; (go_simp; try with_reducible rfl)
        try simp only [Act.put, List.setIfInBounds_toArray, List.set_cons_zero, List.set_cons_succ]
        refine wpAnyH_take (i := 11) (oi := ⟨_, _, _, _, _, _⟩) (v := ?_) rfl (by kernel_rfl) (by kernel_rfl) (by kernel_rfl) (fun _ _ _ h => h) (Or.inl ⟨by rfl, ?_⟩) kW ?_
        rotate_left
        · intro w' hSw; clear hSw; (go_simp; try with_reducible rfl)
        try simp only [Act.put, List.setIfInBounds_toArray, List.set_cons_zero, List.set_cons_succ]
        refine wpAnyH_take (i := 12) (oi := ⟨_, _, _, _, _, _⟩) (v := ?_) rfl (by kernel_rfl) (by kernel_rfl) (by kernel_rfl) (fun _ _ _ h => h) (Or.inl ⟨by rfl, ?_⟩) kW ?_
        rotate_left
        · intro w' hSw; clear hSw; (go_simp; try with_reducible rfl)
        try simp only [Act.put, List.setIfInBounds_toArray, List.set_cons_zero, List.set_cons_succ]
        refine wpAnyH_done (by kernel_rfl) ?_ _
        have HE : Hid (worksMid w6 W6 (.pointer (some ⟨p, 0, none⟩)) (.pointer (some ⟨q, 0, none⟩)) (.pointer (some ⟨r, 0, none⟩))) := Lib.hid ⟨p, q, r, F, G, H, rfl, rfl, rfl, vs3, vs6, vs9, fun y hy => ⟨fun h => by have := hH y hy; have := hF6 y h; omega, fun h => by have := hH y hy; have := hG9 y h; omega, by have := hH y hy; have := kb9.size; have := k0b.size; omega⟩, k0b.then kW (by simp)⟩
        go_wp2_with fail
        go_meet
        exact HE.out
      exact AllReadyH.nil
    refine AllReadyH.cons (o := ⟨_, _, _, _, _, _⟩) rfl (fun K hK => ?_) ?_
    · go_simp
      have kk := (keepBut.refl [] wd).alloc (.cells #[.int .i64 3, .int .i64 0, .int .i64 2, .slice (some ⟨y, 0, none⟩) 2 2] 46)
      have rs8 : rowsV (wd.alloc (.cells #[.int .i64 3, .int .i64 0, .int .i64 2, .slice (some ⟨y, 0, none⟩) 2 2] 46)) _ (some ⟨wd.heap.size, 0, none⟩) [rowEb] := rowsV_one (s := 3) (nd := 0) (kd := 2) (b := [8, 9]) (A' := some ⟨y, 0, none⟩) (n := 2) (hy.keep kW (by simp))
      replace kW := kW.then kk (by simp)
      have s0 : wd.heap.size < (wd.alloc (.cells #[.int .i64 3, .int .i64 0, .int .i64 2, .slice (some ⟨y, 0, none⟩) 2 2] 46)).heap.size := by simp
      obtain ⟨W1, hW⟩ : ∃ W', wd.alloc (.cells #[.int .i64 3, .int .i64 0, .int .i64 2, .slice (some ⟨y, 0, none⟩) 2 2] 46) = W' := ⟨_, rfl⟩
      rw [hW] at kW rs8 ⊢
      clear hW kk s0
      refine hK.out _ _ kW (fun _ => ?_)
      clear hK K
      try simp only [Act.put, List.setIfInBounds_toArray, List.set_cons_zero, List.set_cons_succ]
      refine wpAnyH_ready (rs := [2, 5]) (by kernel_rfl) (by simp) ?_
      refine AllReadyH.cons (o := ⟨_, _, _, _, _, _⟩) rfl (fun K hK => ?_) ?_
      · go_simp
        have kk := (keepBut.refl [] W1).alloc (.cells #[.int .i64 1, .int .i64 10, .int .i64 1, .slice (some ⟨x, 0, none⟩) 1 1, .int .i64 3, .int .i64 0, .int .i64 2, .slice (some ⟨y, 0, none⟩) 2 2] 46)
        have rs2 : rowsV (W1.alloc (.cells #[.int .i64 1, .int .i64 10, .int .i64 1, .slice (some ⟨x, 0, none⟩) 1 1, .int .i64 3, .int .i64 0, .int .i64 2, .slice (some ⟨y, 0, none⟩) 2 2] 46)) _ (some ⟨W1.heap.size, 0, none⟩) [rowEa, rowEb] := rowsV_two (s := 1) (nd := 10) (kd := 1) (b := [7]) (A' := some ⟨x, 0, none⟩) (n := 1) (s' := 3) (nd' := 0) (kd' := 2) (b' := [8, 9]) (B' := some ⟨y, 0, none⟩) (n' := 2) (hx.keep kW (by simp)) (hy.keep kW (by simp))
        replace kW := kW.then kk (by simp)
        replace rs8 := rs8.keep kk (by simp)
        have s1 : W1.heap.size < (W1.alloc (.cells #[.int .i64 1, .int .i64 10, .int .i64 1, .slice (some ⟨x, 0, none⟩) 1 1, .int .i64 3, .int .i64 0, .int .i64 2, .slice (some ⟨y, 0, none⟩) 2 2] 46)).heap.size := by simp
        obtain ⟨W2, hW⟩ : ∃ W', W1.alloc (.cells #[.int .i64 1, .int .i64 10, .int .i64 1, .slice (some ⟨x, 0, none⟩) 1 1, .int .i64 3, .int .i64 0, .int .i64 2, .slice (some ⟨y, 0, none⟩) 2 2] 46) = W' := ⟨_, rfl⟩
        rw [hW] at kW rs2 rs8 ⊢
        clear hW kk s1
        refine hK.out _ _ kW (fun _ => ?_)
        clear hK K
        try simp only [Act.put, List.setIfInBounds_toArray, List.set_cons_zero, List.set_cons_succ]
        refine wpAnyH_ready (rs := [3, 5]) (by kernel_rfl) (by simp) ?_
        refine AllReadyH.cons (o := ⟨_, _, _, _, _, _⟩) rfl (fun K hK => ?_) ?_
        · go_simp
          refine (ofL_n rs2 good_ab rfl (Nat.le_refl 2)).mono ?_
          rintro e W3 ⟨p, F, rfl, vs3, hF, kk⟩
          replace kW := kW.then kk (by simp)
          replace rs8 := rs8.keep kk (by simp)
          clear rs2 kk
          go_wp2_with fail
          refine hK.out _ _ kW (fun _ => ?_)
          clear hK K
          try simp only [Act.put, List.setIfInBounds_toArray, List.set_cons_zero, List.set_cons_succ]
          refine wpAnyH_ready (rs := [5]) (by kernel_rfl) (by simp) ?_
          refine AllReadyH.cons (o := ⟨_, _, _, _, _, _⟩) rfl (fun K hK => ?_) AllReadyH.nil
          go_simp
          have kk := (keepBut.refl [] W3).alloc (.cells #[.int .i64 1, .int .i64 10, .int .i64 1, .slice (some ⟨x, 0, none⟩) 1 1] 46)
          have rs5 : rowsV (W3.alloc (.cells #[.int .i64 1, .int .i64 10, .int .i64 1, .slice (some ⟨x, 0, none⟩) 1 1] 46)) _ (some ⟨W3.heap.size, 0, none⟩) [rowEa] := rowsV_one (s := 1) (nd := 10) (kd := 1) (b := [7]) (A' := some ⟨x, 0, none⟩) (n := 1) (hx.keep kW (by simp))
          replace kW := kW.then kk (by simp)
          replace rs8 := rs8.keep kk (by simp)
          replace vs3 := vs3.over kk
          have s3 : W3.heap.size < (W3.alloc (.cells #[.int .i64 1, .int .i64 10, .int .i64 1, .slice (some ⟨x, 0, none⟩) 1 1] 46)).heap.size := by simp
          obtain ⟨W4, hW⟩ : ∃ W', W3.alloc (.cells #[.int .i64 1, .int .i64 10, .int .i64 1, .slice (some ⟨x, 0, none⟩) 1 1] 46) = W' := ⟨_, rfl⟩
          rw [hW] at kW rs5 rs8 vs3 ⊢
          clear hW kk s3
          refine hK.out _ _ kW (fun _ => ?_)
          clear hK K
          try simp only [Act.put, List.setIfInBounds_toArray, List.set_cons_zero, List.set_cons_succ]
          refine wpAnyH_ready (rs := [6]) (by kernel_rfl) (by simp) ?_
          refine AllReadyH.cons (o := ⟨_, _, _, _, _, _⟩) rfl (fun K hK => ?_) AllReadyH.nil
          go_simp
          refine (ofL_n rs5 good_a rfl (Nat.le_refl 1)).mono ?_
          rintro e W5 ⟨q, G, rfl, vs6, hG, kk⟩
          replace kW := kW.then kk (by simp)
          replace rs8 := rs8.keep kk (by simp)
          replace vs3 := vs3.over kk
          clear rs5 kk
          go_wp2_with fail
          refine hK.out _ _ kW (fun _ => ?_)
          clear hK K
          try simp only [Act.put, List.setIfInBounds_toArray, List.set_cons_zero, List.set_cons_succ]
          refine wpAnyH_ready (rs := [9]) (by kernel_rfl) (by simp) ?_
          refine AllReadyH.cons (o := ⟨_, _, _, _, _, _⟩) rfl (fun K hK => ?_) AllReadyH.nil
          go_simp
          refine (ofL_n rs8 good_b rfl (Nat.le_refl 1)).mono ?_
          rintro e W6 ⟨r, H, rfl, vs9, hH, kk⟩
          have kb9 := kW
          have hF6 := fun y hy => vs3.lt y hy
          have hG9 := fun y hy => vs6.lt y hy
          replace kW := kW.then kk (by simp)
          replace vs3 := vs3.over kk
          replace vs6 := vs6.over kk
          clear rs8 kk
          go_wp2_with fail
          refine hK.out _ _ kW (fun _ => ?_)
          clear hK K
          try simp only [Act.put, List.setIfInBounds_toArray, List.set_cons_zero, List.set_cons_succ]
          refine wpAnyH_take (i := 10) (oi := ⟨_, _, _, _, _, _⟩) (v := ?_) rfl (by kernel_rfl) (by kernel_rfl) (by kernel_rfl) (fun _ _ _ h => h) (Or.inl ⟨by rfl, ?_⟩) kW ?_
          rotate_left
          · intro w' hSw; clear hSw; (go_simp; try with_reducible rfl)
          try simp only [Act.put, List.setIfInBounds_toArray, List.set_cons_zero, List.set_cons_succ]
          refine wpAnyH_take (i := 11) (oi := ⟨_, _, _, _, _, _⟩) (v := ?_) rfl (by kernel_rfl) (by kernel_rfl) (by kernel_rfl) (fun _ _ _ h => h) (Or.inl ⟨by rfl, ?_⟩) kW ?_
          rotate_left
          · intro w' hSw; clear hSw; (go_simp; try with_reducible rfl)
          try simp only [Act.put, List.setIfInBounds_toArray, List.set_cons_zero, List.set_cons_succ]
          refine wpAnyH_take (i := 12) (oi := ⟨_, _, _, _, _, _⟩) (v := ?_) rfl (by kernel_rfl) (by kernel_rfl) (by kernel_rfl) (fun _ _ _ h => h) (Or.inl ⟨by rfl, ?_⟩) kW ?_
          rotate_left
          · intro w' hSw; clear hSw; (go_simp; try with_reducible rfl)
          try simp only [Act.put, List.setIfInBounds_toArray, List.set_cons_zero, List.set_cons_succ]
          refine wpAnyH_done (by kernel_rfl) ?_ _
          have HE : Hid (worksMid w6 W6 (.pointer (some ⟨p, 0, none⟩)) (.pointer (some ⟨q, 0, none⟩)) (.pointer (some ⟨r, 0, none⟩))) := Lib.hid ⟨p, q, r, F, G, H, rfl, rfl, rfl, vs3, vs6, vs9, fun y hy => ⟨fun h => by have := hH y hy; have := hF6 y h; omega, fun h => by have := hH y hy; have := hG9 y h; omega, by have := hH y hy; have := kb9.size; have := k0b.size; omega⟩, k0b.then kW (by simp)⟩
          go_wp2_with fail
          go_meet
          exact HE.out
        refine AllReadyH.cons (o := ⟨_, _, _, _, _, _⟩) rfl (fun K hK => ?_) ?_
        · go_simp
          have kk := (keepBut.refl [] W2).alloc (.cells #[.int .i64 1, .int .i64 10, .int .i64 1, .slice (some ⟨x, 0, none⟩) 1 1] 46)
          have rs5 : rowsV (W2.alloc (.cells #[.int .i64 1, .int .i64 10, .int .i64 1, .slice (some ⟨x, 0, none⟩) 1 1] 46)) _ (some ⟨W2.heap.size, 0, none⟩) [rowEa] := rowsV_one (s := 1) (nd := 10) (kd := 1) (b := [7]) (A' := some ⟨x, 0, none⟩) (n := 1) (hx.keep kW (by simp))
          replace kW := kW.then kk (by simp)
          replace rs2 := rs2.keep kk (by simp)
          replace rs8 := rs8.keep kk (by simp)
          have s2 : W2.heap.size < (W2.alloc (.cells #[.int .i64 1, .int .i64 10, .int .i64 1, .slice (some ⟨x, 0, none⟩) 1 1] 46)).heap.size := by simp
          obtain ⟨W3, hW⟩ : ∃ W', W2.alloc (.cells #[.int .i64 1, .int .i64 10, .int .i64 1, .slice (some ⟨x, 0, none⟩) 1 1] 46) = W' := ⟨_, rfl⟩
          rw [hW] at kW rs2 rs5 rs8 ⊢
          clear hW kk s2
          refine hK.out _ _ kW (fun _ => ?_)
          clear hK K
          try simp only [Act.put, List.setIfInBounds_toArray, List.set_cons_zero, List.set_cons_succ]
          refine wpAnyH_ready (rs := [3]) (by kernel_rfl) (by simp) ?_
          refine AllReadyH.cons (o := ⟨_, _, _, _, _, _⟩) rfl (fun K hK => ?_) AllReadyH.nil
          go_simp
          refine (ofL_n rs2 good_ab rfl (Nat.le_refl 2)).mono ?_
          rintro e W4 ⟨p, F, rfl, vs3, hF, kk⟩
          replace kW := kW.then kk (by simp)
          replace rs5 := rs5.keep kk (by simp)
          replace rs8 := rs8.keep kk (by simp)
          clear rs2 kk
          go_wp2_with fail
          refine hK.out _ _ kW (fun _ => ?_)
          clear hK K
          try simp only [Act.put, List.setIfInBounds_toArray, List.set_cons_zero, List.set_cons_succ]
          refine wpAnyH_ready (rs := [6]) (by kernel_rfl) (by simp) ?_
          refine AllReadyH.cons (o := ⟨_, _, _, _, _, _⟩) rfl (fun K hK => ?_) AllReadyH.nil
          go_simp
          refine (ofL_n rs5 good_a rfl (Nat.le_refl 1)).mono ?_
          rintro e W5 ⟨q, G, rfl, vs6, hG, kk⟩
          replace kW := kW.then kk (by simp)
          replace rs8 := rs8.keep kk (by simp)
          replace vs3 := vs3.over kk
          clear rs5 kk
          go_wp2_with fail
          refine hK.out _ _ kW (fun _ => ?_)
          clear hK K
          try simp only [Act.put, List.setIfInBounds_toArray, List.set_cons_zero, List.set_cons_succ]
          refine wpAnyH_ready (rs := [9]) (by kernel_rfl) (by simp) ?_
          refine AllReadyH.cons (o := ⟨_, _, _, _, _, _⟩) rfl (fun K hK => ?_) AllReadyH.nil
          go_simp
          refine (ofL_n rs8 good_b rfl (Nat.le_refl 1)).mono ?_
          rintro e W6 ⟨r, H, rfl, vs9, hH, kk⟩
          have kb9 := kW
          have hF6 := fun y hy => vs3.lt y hy
          have hG9 := fun y hy => vs6.lt y hy
          replace kW := kW.then kk (by simp)
          replace vs3 := vs3.over kk
          replace vs6 := vs6.over kk
          clear rs8 kk
          go_wp2_with fail
          refine hK.out _ _ kW (fun _ => ?_)
          clear hK K
          try simp only [Act.put, List.setIfInBounds_toArray, List.set_cons_zero, List.set_cons_succ]
          refine wpAnyH_take (i := 10) (oi := ⟨_, _, _, _, _, _⟩) (v := ?_) rfl (by kernel_rfl) (by kernel_rfl) (by kernel_rfl) (fun _ _ _ h => h) (Or.inl ⟨by rfl, ?_⟩) kW ?_
          rotate_left
          · intro w' hSw; clear hSw; (go_simp; try with_reducible rfl)
          try simp only [Act.put, List.setIfInBounds_toArray, List.set_cons_zero, List.set_cons_succ]
          refine wpAnyH_take (i := 11) (oi := ⟨_, _, _, _, _, _⟩) (v := ?_) rfl (by kernel_rfl) (by kernel_rfl) (by kernel_rfl) (fun _ _ _ h => h) (Or.inl ⟨by rfl, ?_⟩) kW ?_
          rotate_left
          · intro w' hSw; clear hSw; (go_simp; try with_reducible rfl)
          try simp only [Act.put, List.setIfInBounds_toArray, List.set_cons_zero, List.set_cons_succ]
          refine wpAnyH_take (i := 12) (oi := ⟨_, _, _, _, _, _⟩) (v := ?_) rfl (by kernel_rfl) (by kernel_rfl) (by kernel_rfl) (fun _ _ _ h => h) (Or.inl ⟨by rfl, ?_⟩) kW ?_
          rotate_left
          · intro w' hSw; clear hSw; (go_simp; try with_reducible rfl)
          try simp only [Act.put, List.setIfInBounds_toArray, List.set_cons_zero, List.set_cons_succ]
          refine wpAnyH_done (by kernel_rfl) ?_ _
          have HE : Hid (worksMid w6 W6 (.pointer (some ⟨p, 0, none⟩)) (.pointer (some ⟨q, 0, none⟩)) (.pointer (some ⟨r, 0, none⟩))) := Lib.hid ⟨p, q, r, F, G, H, rfl, rfl, rfl, vs3, vs6, vs9, fun y hy => ⟨fun h => by have := hH y hy; have := hF6 y h; omega, fun h => by have := hH y hy; have := hG9 y h; omega, by have := hH y hy; have := kb9.size; have := k0b.size; omega⟩, k0b.then kW (by simp)⟩
          go_wp2_with fail
          go_meet
          exact HE.out
        exact AllReadyH.nil
      refine AllReadyH.cons (o := ⟨_, _, _, _, _, _⟩) rfl (fun K hK => ?_) ?_
      · go_simp
        have kk := (keepBut.refl [] W1).alloc (.cells #[.int .i64 1, .int .i64 10, .int .i64 1, .slice (some ⟨x, 0, none⟩) 1 1] 46)
        have rs5 : rowsV (W1.alloc (.cells #[.int .i64 1, .int .i64 10, .int .i64 1, .slice (some ⟨x, 0, none⟩) 1 1] 46)) _ (some ⟨W1.heap.size, 0, none⟩) [rowEa] := rowsV_one (s := 1) (nd := 10) (kd := 1) (b := [7]) (A' := some ⟨x, 0, none⟩) (n := 1) (hx.keep kW (by simp))
        replace kW := kW.then kk (by simp)
        replace rs8 := rs8.keep kk (by simp)
        have s1 : W1.heap.size < (W1.alloc (.cells #[.int .i64 1, .int .i64 10, .int .i64 1, .slice (some ⟨x, 0, none⟩) 1 1] 46)).heap.size := by simp
        obtain ⟨W2, hW⟩ : ∃ W', W1.alloc (.cells #[.int .i64 1, .int .i64 10, .int .i64 1, .slice (some ⟨x, 0, none⟩) 1 1] 46) = W' := ⟨_, rfl⟩
        rw [hW] at kW rs5 rs8 ⊢
        clear hW kk s1
        refine hK.out _ _ kW (fun _ => ?_)
        clear hK K
        try simp only [Act.put, List.setIfInBounds_toArray, List.set_cons_zero, List.set_cons_succ]
        refine wpAnyH_ready (rs := [2]) (by kernel_rfl) (by simp) ?_
        refine AllReadyH.cons (o := ⟨_, _, _, _, _, _⟩) rfl (fun K hK => ?_) AllReadyH.nil
        go_simp
        have kk := (keepBut.refl [] W2).alloc (.cells #[.int .i64 1, .int .i64 10, .int .i64 1, .slice (some ⟨x, 0, none⟩) 1 1, .int .i64 3, .int .i64 0, .int .i64 2, .slice (some ⟨y, 0, none⟩) 2 2] 46)
        have rs2 : rowsV (W2.alloc (.cells #[.int .i64 1, .int .i64 10, .int .i64 1, .slice (some ⟨x, 0, none⟩) 1 1, .int .i64 3, .int .i64 0, .int .i64 2, .slice (some ⟨y, 0, none⟩) 2 2] 46)) _ (some ⟨W2.heap.size, 0, none⟩) [rowEa, rowEb] := rowsV_two (s := 1) (nd := 10) (kd := 1) (b := [7]) (A' := some ⟨x, 0, none⟩) (n := 1) (s' := 3) (nd' := 0) (kd' := 2) (b' := [8, 9]) (B' := some ⟨y, 0, none⟩) (n' := 2) (hx.keep kW (by simp)) (hy.keep kW (by simp))
        replace kW := kW.then kk (by simp)
        replace rs5 := rs5.keep kk (by simp)
        replace rs8 := rs8.keep kk (by simp)
        have s2 : W2.heap.size < (W2.alloc (.cells #[.int .i64 1, .int .i64 10, .int .i64 1, .slice (some ⟨x, 0, none⟩) 1 1, .int .i64 3, .int .i64 0, .int .i64 2, .slice (some ⟨y, 0, none⟩) 2 2] 46)).heap.size := by simp
        obtain ⟨W3, hW⟩ : ∃ W', W2.alloc (.cells #[.int .i64 1, .int .i64 10, .int .i64 1, .slice (some ⟨x, 0, none⟩) 1 1, .int .i64 3, .int .i64 0, .int .i64 2, .slice (some ⟨y, 0, none⟩) 2 2] 46) = W' := ⟨_, rfl⟩
        rw [hW] at kW rs2 rs5 rs8 ⊢
        clear hW kk s2
        refine hK.out _ _ kW (fun _ => ?_)
        clear hK K
        try simp only [Act.put, List.setIfInBounds_toArray, List.set_cons_zero, List.set_cons_succ]
        refine wpAnyH_ready (rs := [3]) (by kernel_rfl) (by simp) ?_
        refine AllReadyH.cons (o := ⟨_, _, _, _, _, _⟩) rfl (fun K hK => ?_) AllReadyH.nil
        go_simp
        refine (ofL_n rs2 good_ab rfl (Nat.le_refl 2)).mono ?_
        rintro e W4 ⟨p, F, rfl, vs3, hF, kk⟩
        replace kW := kW.then kk (by simp)
        replace rs5 := rs5.keep kk (by simp)
        replace rs8 := rs8.keep kk (by simp)
        clear rs2 kk
        go_wp2_with fail
        refine hK.out _ _ kW (fun _ => ?_)
        clear hK K
        try simp only [Act.put, List.setIfInBounds_toArray, List.set_cons_zero, List.set_cons_succ]
        refine wpAnyH_ready (rs := [6]) (by kernel_rfl) (by simp) ?_
        refine AllReadyH.cons (o := ⟨_, _, _, _, _, _⟩) rfl (fun K hK => ?_) AllReadyH.nil
        go_simp
        refine (ofL_n rs5 good_a rfl (Nat.le_refl 1)).mono ?_
        rintro e W5 ⟨q, G, rfl, vs6, hG, kk⟩
        replace kW := kW.then kk (by simp)
        replace rs8 := rs8.keep kk (by simp)
        replace vs3 := vs3.over kk
        clear rs5 kk
        go_wp2_with fail
        refine hK.out _ _ kW (fun _ => ?_)
        clear hK K
        try simp only [Act.put, List.setIfInBounds_toArray, List.set_cons_zero, List.set_cons_succ]
        refine wpAnyH_ready (rs := [9]) (by kernel_rfl) (by simp) ?_
        refine AllReadyH.cons (o := ⟨_, _, _, _, _, _⟩) rfl (fun K hK => ?_) AllReadyH.nil
        go_simp
        refine (ofL_n rs8 good_b rfl (Nat.le_refl 1)).mono ?_
        rintro e W6 ⟨r, H, rfl, vs9, hH, kk⟩
        have kb9 := kW
        have hF6 := fun y hy => vs3.lt y hy
        have hG9 := fun y hy => vs6.lt y hy
        replace kW := kW.then kk (by simp)
        replace vs3 := vs3.over kk
        replace vs6 := vs6.over kk
        clear rs8 kk
        go_wp2_with fail
        refine hK.out _ _ kW (fun _ => ?_)
        clear hK K
        try simp only [Act.put, List.setIfInBounds_toArray, List.set_cons_zero, List.set_cons_succ]
        refine wpAnyH_take (i := 10) (oi := ⟨_, _, _, _, _, _⟩) (v := ?_) rfl (by kernel_rfl) (by kernel_rfl) (by kernel_rfl) (fun _ _ _ h => h) (Or.inl ⟨by rfl, ?_⟩) kW ?_
        rotate_left
        · intro w' hSw; clear hSw; (go_simp; try with_reducible rfl)
        try simp only [Act.put, List.setIfInBounds_toArray, List.set_cons_zero, List.set_cons_succ]
        refine wpAnyH_take (i := 11) (oi := ⟨_, _, _, _, _, _⟩) (v := ?_) rfl (by kernel_rfl) (by kernel_rfl) (by kernel_rfl) (fun _ _ _ h => h) (Or.inl ⟨by rfl, ?_⟩) kW ?_
        rotate_left
        · intro w' hSw; clear hSw; (go_simp; try with_reducible rfl)
        try simp only [Act.put, List.setIfInBounds_toArray, List.set_cons_zero, List.set_cons_succ]
        refine wpAnyH_take (i := 12) (oi := ⟨_, _, _, _, _, _⟩) (v := ?_) rfl (by kernel_rfl) (by kernel_rfl) (by kernel_rfl) (fun _ _ _ h => h) (Or.inl ⟨by rfl, ?_⟩) kW ?_
        rotate_left
        · intro w' hSw; clear hSw; (go_simp; try with_reducible rfl)
        try simp only [Act.put, List.setIfInBounds_toArray, List.set_cons_zero, List.set_cons_succ]
        refine wpAnyH_done (by kernel_rfl) ?_ _
        have HE : Hid (worksMid w6 W6 (.pointer (some ⟨p, 0, none⟩)) (.pointer (some ⟨q, 0, none⟩)) (.pointer (some ⟨r, 0, none⟩))) := Lib.hid ⟨p, q, r, F, G, H, rfl, rfl, rfl, vs3, vs6, vs9, fun y hy => ⟨fun h => by have := hH y hy; have := hF6 y h; omega, fun h => by have := hH y hy; have := hG9 y h; omega, by have := hH y hy; have := kb9.size; have := k0b.size; omega⟩, k0b.then kW (by simp)⟩
        go_wp2_with fail
        go_meet
        exact HE.out
      exact AllReadyH.nil
    exact AllReadyH.nil
  case rest =>
    obtain ⟨p, q, r, F, G, H, rfl, rfl, rfl, hp, hq, hr, hH, hk⟩ := hcut
    have rac := hk.row ra (by simp)
    have hxc := hx.keep hk (by simp)
    have k0c := k06.then hk (by simp)
    have HLT := Lib.hid ra.lt
    have HLX := Lib.hid (hx.ltB)
    have HL6 := Lib.hid k06.size
    have HC := Lib.hid (And.intro hp (And.intro hq (And.intro hr (And.intro hH (And.intro rac (And.intro hxc k0c))))))
    clear hp hq hr hH rac hxc k0c hk ra rb k06 hx hy HR
    go_wp2_with fail
    refine (newV_any _).mono ?_
    rintro e w7 ⟨n7, F7, rfl, hn7, hF7, k7⟩
    go_wp2_with fail
    refine (bytesV_any n7 F7 [] _ hn7 ⟨by simp, by simp⟩ (fun k hk => Nat.le_trans (encTo_len [] (by simp) k hk) (by simp at hk; omega))).mono ?_
    rintro e w8 ⟨v8, rfl, ho8, hf8, k8⟩
    rw [show (encTo [] ([] : List VR).length).bytes = [0] by rw [show ([] : List VR).length = 0 from rfl, enc_none]; rfl] at ho8
    obtain ⟨A8, c8, g8, rfl, _, _, hs8, hg8⟩ := ho8.seen
    have k78 := (k7.then k8 (by simp)).alloc (.cells #[.int .u8 0] 5)
    clear ho8 hf8 hg8 hn7 hF7 k7 k8
    go_wp2_with fail
    refine (eqBytes_any A8 (some ⟨w8.heap.size, 0, none⟩) g8 w8.heap.size c8 1 [0] [0] _ (hs8.keep ((keepBut.refl [] w8).alloc _) (by simp)) (seen_new w8 _ _ _ _ rfl)).mono ?_; rintro e w9 ⟨rfl, rfl⟩
    clear hs8
    have h9 := HC.out.1.over k78
    go_wp2_with fail
    refine (bytesV_any p F [rowEa, rowEb] _ h9 good_ab (fun k hk => Nat.le_trans (encTo_len [rowEa, rowEb] (by decide) k hk) (by simp at hk; omega))).mono ?_
    rintro e w10 ⟨v10, rfl, ho10, hf10, k10⟩
    rw [show (encTo [rowEa, rowEb] ([rowEa, rowEb] : List VR).length).bytes = [2, 1, 10, 1, 1, 7, 2, 0, 2, 2, 8, 9] by rw [show ([rowEa, rowEb] : List VR).length = 2 from rfl, enc_both]; rfl] at ho10
    obtain ⟨A10, c10, g10, rfl, _, _, hs10, hg10⟩ := ho10.seen
    have k11 := (k78.then k10 (by simp)).alloc (.cells #[.int .u8 2, .int .u8 1, .int .u8 10, .int .u8 1, .int .u8 1, .int .u8 7, .int .u8 2, .int .u8 0, .int .u8 2, .int .u8 2, .int .u8 8, .int .u8 9] 5)
    have sA := hs10.keep ((keepBut.refl [] w10).alloc (.cells #[.int .u8 2, .int .u8 1, .int .u8 10, .int .u8 1, .int .u8 1, .int .u8 7, .int .u8 2, .int .u8 0, .int .u8 2, .int .u8 2, .int .u8 8, .int .u8 9] 5)) (by simp)
    have sB := seen_new w10 5 [2, 1, 10, 1, 1, 7, 2, 0, 2, 2, 8, 9] #[.int .u8 2, .int .u8 1, .int .u8 10, .int .u8 1, .int .u8 1, .int .u8 7, .int .u8 2, .int .u8 0, .int .u8 2, .int .u8 2, .int .u8 8, .int .u8 9] (0, 0) rfl
    clear ho10 hf10 hg10 h9 k78 k10 hs10
    go_wp2_with fail
    obtain ⟨w12, hw12⟩ : ∃ w12, w10.alloc (.cells #[.int .u8 2, .int .u8 1, .int .u8 10, .int .u8 1, .int .u8 1, .int .u8 7, .int .u8 2, .int .u8 0, .int .u8 2, .int .u8 2, .int .u8 8, .int .u8 9] 5) = w12 := ⟨_, rfl⟩
    rw [hw12] at k11 sA sB ⊢
    clear hw12
    refine (eqBytes_any A10 (some ⟨w10.heap.size, 0, none⟩) g10 w10.heap.size c10 12 [2, 1, 10, 1, 1, 7, 2, 0, 2, 2, 8, 9] [2, 1, 10, 1, 1, 7, 2, 0, 2, 2, 8, 9] _ sA sB).mono ?_; rintro e w11 ⟨rfl, rfl⟩
    clear sA sB
    have hr12 := HC.out.2.2.1.over k11
    have rac := k11.row HC.out.2.2.2.2.1 (by simp)
    have y0 : w12.cell? ⟨a, 0, none⟩ = some (.int .i64 1) := rac.cell 0
    have y1 : w12.cell? ⟨a, 1, none⟩ = some (.int .i64 10) := rac.cell 1
    have y2 : w12.cell? ⟨a, 2, none⟩ = some (.int .i64 1) := rac.cell 2
    have y3 : w12.cell? ⟨a, 3, none⟩ = some (.slice (some ⟨x, 0, none⟩) 1 1) := rac.cell 3
    have H12 := Lib.hid (And.intro hr12 (And.intro rac k11))
    clear hr12 rac k11
    go_wp2_with fail
    refine (addV_any r H [x] [rowEb] 1 10 1 [7] (some ⟨x, 0, none⟩) 1 _ H12.out.1 (HC.out.2.2.2.2.2.1.keep H12.out.2.2 (by simp)) (by simp)).mono ?_
    rintro e w13 ⟨rfl, H13, h13, k13, hH13⟩
    rw [show addVR [rowEb] ⟨1, 10, 1, [7]⟩ = (2, [rowEb]) from if_pos (Or.inr (by decide))] at h13 ⊢
    have hHa : ∀ y ∈ H, y ∉ F ∧ y ∉ G ∧ y ≠ a := fun y hy => ⟨(HC.out.2.2.2.1 y hy).1, (HC.out.2.2.2.1 y hy).2.1, fun e => by have h1 := (HC.out.2.2.2.1 y hy).2.2; have h2 := HLT.out; omega⟩
    have hp13 := (HC.out.1.over H12.out.2.2).keep k13 (fun y hy hm => (hHa y hm).1 hy)
    have hq13 := (HC.out.2.1.over H12.out.2.2).keep k13 (fun y hy hm => (hHa y hm).2.1 hy)
    have ra13 := k13.row H12.out.2.1 (fun hm => (hHa a hm).2.2 rfl)
    have hx13 := (HC.out.2.2.2.2.2.1.keep H12.out.2.2 (by simp)).keep k13 (fun y hy hm => by rw [List.mem_singleton] at hy; subst hy; have h1 := (HC.out.2.2.2.1 y hm).2.2; have h2 := HLX.out; omega)
    have k013 := (HC.out.2.2.2.2.2.2.then H12.out.2.2 (by simp)).then k13 (fun y hm => .inr (by have h1 := (HC.out.2.2.2.1 y hm).2.2; have h2 := HL6.out; omega))
    have H3 := Lib.hid (And.intro hp13 (And.intro hq13 (And.intro h13 (And.intro ra13 (And.intro hx13 k013)))))
    clear hp13 hq13 h13 ra13 hx13 k013 k13 hH13 hHa y0 y1 y2 y3 H12
    go_wp2_with fail
    refine (firstV_any p q F G _ _ _ H3.out.1 H3.out.2.1 (by simp) (by simp)).mono ?_
    rintro e w14 ⟨rfl, k14⟩
    rw [first_ex1]
    go_wp2_with fail
    refine (firstV_any p r F H13 _ _ _ (H3.out.1.over k14) (H3.out.2.2.1.over k14) (by simp) (by simp)).mono ?_
    rintro e w15 ⟨rfl, k15⟩
    rw [first_ex2]
    have k135 := k14.then k15 (by simp)
    have ra15 := k135.row H3.out.2.2.2.1 (by simp)
    have y0 : w15.cell? ⟨a, 0, none⟩ = some (.int .i64 1) := ra15.cell 0
    have y1 : w15.cell? ⟨a, 1, none⟩ = some (.int .i64 10) := ra15.cell 1
    have y2 : w15.cell? ⟨a, 2, none⟩ = some (.int .i64 1) := ra15.cell 2
    have y3 : w15.cell? ⟨a, 3, none⟩ = some (.slice (some ⟨x, 0, none⟩) 1 1) := ra15.cell 3
    have rs : rowsV (w15.alloc (.cells #[.int .i64 1, .int .i64 10, .int .i64 1, .slice (some ⟨x, 0, none⟩) 1 1] 46)) _ (some ⟨w15.heap.size, 0, none⟩) [rowEa] := rowsV_one (s := 1) (nd := 10) (kd := 1) (b := [7]) (A' := some ⟨x, 0, none⟩) (n := 1) (H3.out.2.2.2.2.1.keep k135 (by simp))
    have k136 := k135.alloc (.cells #[.int .i64 1, .int .i64 10, .int .i64 1, .slice (some ⟨x, 0, none⟩) 1 1] 46)
    have H5 := Lib.hid (And.intro rs k136)
    clear rs k136 k14 k15 k135 ra15
    go_wp2_with fail
    refine (ofL_n H5.out.1 good_a rfl (Nat.le_refl 1)).mono ?_
    rintro e w17 ⟨z, Z, rfl, hz, hZ, k17⟩
    have k137 := H5.out.2.then k17 (by simp)
    have H7 := Lib.hid (And.intro hz k137)
    clear hz hZ k17 k137 y0 y1 y2 y3
    go_wp2_with fail
    refine (firstV_any q z G Z _ _ _ (H3.out.2.1.over H7.out.2) H7.out.1 (by simp) (by simp)).mono ?_
    rintro e w18 ⟨rfl, k18⟩
    rw [first_ex3]
    have k138 := H7.out.2.then k18 (by simp)
    have H8 := Lib.hid k138
    clear k18 k138
    go_wp2_with fail
    refine (manyV_any p F [rowEa, rowEb] 10 _ (H3.out.1.over H8.out) (by simp) (by decide)).mono ?_
    rintro e w19 ⟨rfl, k19⟩
    rw [many_ex]
    have heq := eq3_ex w19
    have H9 := Lib.hid ((H3.out.2.2.2.2.2.then H8.out (by simp)).then k19 (by simp))
    clear k19
    go_wp2_with fail
    go_ret
    exact ⟨rfl, H9.out⟩
end Go.Proofs.Ytjipokilidhnoaa
