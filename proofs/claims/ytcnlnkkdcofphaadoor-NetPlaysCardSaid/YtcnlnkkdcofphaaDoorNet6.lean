/-
  NET, 6: slices.Delete at packets.
-/
import Derived.Test.YtcnlnkkdcofphaaDoorNet5
import Derived.Deep.RegionHeld3
namespace Go.Proofs.YtcnlnkkdcofphaaDoor
open Go.RowKit
set_option linter.unusedVariables false
set_option maxRecDepth 100000
set_option linter.unusedSimpArgs false

theorem flatP_erase : ∀ (T : List (PK × List Value)) (i : Nat), (∀ t ∈ T, t.2.length = 87) → i < T.length → flatP (T.eraseIdx i) = (flatP T).take (i * 87) ++ (flatP T).drop ((i + 1) * 87)
  | [], i, _, h => by simp at h
  | t :: r, 0, hl, _ => by
    have h0 := hl t (by simp)
    simp [flatP, List.drop_append, h0, List.drop_of_length_le (Nat.le_of_eq h0)]
  | t :: r, i + 1, hl, h => by
    have h0 := hl t (by simp)
    have ih := flatP_erase r i (fun x hx => hl x (by simp [hx])) (by simpa using h)
    have e1 := @List.take_length_add_append _ t.2 (flatP r) (i * 87)
    have e2 := @List.drop_length_add_append _ t.2 (flatP r) ((i + 1) * 87)
    rw [h0] at e1 e2
    rw [List.eraseIdx_cons_succ, flatP, ih, flatP, show (i + 1) * 87 = 87 + i * 87 by omega, e1, show (i + 1 + 1) * 87 = 87 + (i + 1) * 87 by omega, e2, show (i + 1) * 87 = 87 + i * 87 by omega, List.append_assoc]
theorem step_append_run {P : Program} (w : World) {ops : Array Oper} {o : Oper} {a : Act} {K : Act → World → Prop} {Q : Exit → Act → World → Prop} {E : Prop} (hgd : o.guard = none) (s x : Operand) (t : TypeId)
    (ho : o.op = .call { callee := .builtin .append, args := #[s, x], argTypes := #[t, t] }) (v u : Value) (hs : a.eval s = v) (hx : a.eval x = u) (v' : Value) (w' : World) (hr : (Builtin.append_ #[t, t] o.type #[v, u]).run P w = .ok v' w')
    (h : K (a.put o.dst v') w') : if Region.wanted o (yielded ops a.tmps) = true then Oper.wp P o a w K Q else E := by
  rw [if_pos (by simp [Region.wanted, hgd])]
  unfold Oper.wp execOp
  simp only [ho, resolve, invoke, builtin, Sem.run_bind, Sem.run_pure, Result.andThen_ok, List.map_toArray, List.map_cons, List.map_nil, hs, hx, hr]
  exact h
theorem run_append_here {P : Program} (w : World) (t ty e : TypeId) (i : TypeInfo) (ht : P.underlying t = some (.slice e)) (hi : P.info? e = some i) (sz : Nat) (hs : i.size = sz) (g off n cap : Nat) (cur : Array Value) (hg : rowAt w g e cur) (hcs : off + cap * sz ≤ cur.size)
    (a : Addr) (m c : Nat) (news : List Value) (hl : news.length = m * sz) (hc : ∀ j u, news[j]? = some u → w.cell? (a.add j) = some u) (h1 : ∀ u ∈ news, u.oneCell' = true) (hroom : n + m ≤ cap) :
    (Builtin.append_ #[t, t] ty #[.slice (some ⟨g, off, none⟩) n cap, .slice (some a) m c]).run P w = .ok (.slice (some ⟨g, off, none⟩) (n + m) cap) (w.setCells g (off + n * sz) news) := by
  subst hs
  have hmul : (n + m) * i.size ≤ cap * i.size := Nat.mul_le_mul_right _ hroom
  rw [Nat.add_mul] at hmul
  exact run_append_room_src (P := P) w t t ty e i ht hi g off n cap (.slice (some a) m c) m news (Src.ofSlice w ht a m c news hl hc h1) hroom
    (fun j hj => by rw [hg.cell, Array.getElem?_eq_getElem (by omega)]; rfl) (fun j hj => hg.free _)
theorem zeroCells_one (Z : List Value) : (Builtin.zeroCells Z.toArray 1).toList = Z := by
  apply List.ext_getElem?
  intro i
  simp [Builtin.zeroCells]
  by_cases h : i < Z.length
  · simp [h, Nat.mod_eq_of_lt h]
  · simp [h]
/-- what Delete leaves -/
theorem delRow {w : World} {g off k i m : Nat} {T : List (PK × List Value)} {cur : Array Value} {Z : List Value} (hr : rowAt w g 40 cur) (hn : T.length = m + 1) (hl : ∀ t ∈ T, t.2.length = 87) (hi : i ≤ m) (hk : m + 1 ≤ k) (hk2 : k ≤ maxLen) (hcs : off + k * 87 ≤ cur.size) (hat : ∀ j, j < (m + 1) * 87 → cur[off + j]? = (flatP T)[j]?) (hZ : Z.length = 87) :
    ownsO ((w.setCells g (off + i * 87) ((flatP T).drop ((i + 1) * 87))).setCells g (off + m * 87) Z) 40 87 (.slice (some ⟨g, off, none⟩) m k) m (flatP (T.eraseIdx i)) ∧ keepBut [g] w ((w.setCells g (off + i * 87) ((flatP T).drop ((i + 1) * 87))).setCells g (off + m * 87) Z) := by
  have hfl := flatP_len T hl
  rw [hn] at hfl
  have hle : (T.eraseIdx i).length = m := by rw [List.length_eraseIdx, if_pos (by omega), hn]; rfl
  have hfe := flatP_len (T.eraseIdx i) (fun t ht => hl t (List.mem_of_mem_eraseIdx ht))
  rw [hle] at hfe
  have hk87 : (m + 1) * 87 ≤ k * 87 := Nat.mul_le_mul_right _ hk
  have hdl : ((flatP T).drop ((i + 1) * 87)).length = (m - i) * 87 := by rw [List.length_drop, hfl, ← Nat.sub_mul]; congr 1; omega
  refine ⟨⟨hfe, .inr ⟨g, off, k, _, rfl, (hr.setL).setL, by omega, hk2, by rw [putL_size, putL_size]; exact hcs, fun j hj => ?_⟩⟩, keepBut.setL (keepBut.setL (keepBut.refl _ w) (.inl (by simp))) (.inl (by simp))⟩
  have him : (m - i) * 87 = m * 87 - i * 87 := by rw [Nat.sub_mul]
  have hi87 : i * 87 ≤ m * 87 := Nat.mul_le_mul_right _ hi
  rw [putL_get _ _ _ _ (by rw [putL_size, hZ]; omega), if_neg (by omega), putL_get _ _ _ _ (by rw [hdl]; omega), hdl]
  have hsp : flatP (T.eraseIdx i) = (flatP T).take (i * 87) ++ (flatP T).drop ((i + 1) * 87) := flatP_erase T i hl (by omega)
  rw [hsp]
  by_cases c : j < i * 87
  · rw [if_neg (by omega), hat j (by omega), List.getElem?_append_left (by rw [List.length_take, hfl]; omega), List.getElem?_take, if_pos c]
  · rw [if_pos (by omega), List.getElem?_append_right (by rw [List.length_take, hfl]; omega), List.length_take, hfl, Nat.min_eq_left (by omega)]
    congr 1
    omega
theorem run_clear_one {P : Program} (w : World) (t e : TypeId) (z : Value) (Z : List Value) (ht : P.underlying t = some (.slice e)) (hz : ∀ w, (zeroValue e).run P w = .ok z w) (hZ : (Builtin.zeroCells z.cells 1).toList = Z) (h1 : ∀ u ∈ Z, u.oneCell' = true) (g o c : Nat) (cur : Array Value) (hr : rowAt w g e cur) (hs : o + Z.length ≤ cur.size) (ty : TypeId) :
    (Builtin.clear_ #[t] ty #[.slice (some ⟨g, o, none⟩) 1 c]).run P w = .ok (.tuple #[]) (w.setCells g o Z) := by
  have hst := run_storeCells_cells (P := P) g o Z 0 w (fun j hj => by rw [hr.cell, Array.getElem?_eq_getElem (by omega)]; rfl) (fun j hj => hr.free _) h1
  simp only [Nat.add_zero] at hst
  simp [Builtin.clear_, run_underlying ht, hz, hZ, hst]
set_option maxHeartbeats 4000000 in
theorem delN_any (g off k i m : Nat) (T : List (PK × List Value)) (w : World) (h : ownsO w 40 87 (.slice (some ⟨g, off, none⟩) (m + 1) k) (m + 1) (flatP T)) (hl : ∀ t ∈ T, t.2.length = 87) (h1 : ∀ u ∈ flatP T, u.oneCell' = true) (hn : T.length = m + 1) (hi : i ≤ m) (hk : m ≤ 100000) :
    Calls Tryd.prog 46 #[.slice (some ⟨g, off, none⟩) (m + 1) k, .int .i64 i, .int .i64 ((i : Int) + 1)] w fun e w' =>
      e = .returned (.slice (some ⟨g, off, none⟩) m k) ∧ ownsO w' 40 87 (.slice (some ⟨g, off, none⟩) m k) m (flatP (T.eraseIdx i)) ∧ keepBut [g] w w' := by
  obtain ⟨Z, hZl, hZ, hZb, hZi⟩ := zeroP
  have hZv : ∀ w, (zeroValue 40).run Tryd.prog w = .ok (.agg Z.toArray) w := fun w => by
    obtain ⟨j, hj, hz⟩ := Option.bind_eq_some_iff.1 hZ
    simp [zeroValue, typeInfo, hj, hz]
  rcases h.2 with ⟨h0, _⟩ | ⟨g', off', k', cur, e0, hr, hk1, hk2, hcs, hat⟩
  · cases h0
  injection e0 with e1 e2 e3
  injection e1 with e1
  injection e1 with e4 e5
  subst e3 e4 e5
  obtain ⟨iP, zP, hiP, hsP, hbP, hzP, hcP⟩ := info_P
  have hk2' : k ≤ 2 ^ 63 - 1 := hk2
  have hfl := flatP_len T hl
  rw [hn] at hfl
  have hkd : keepBut [] w w.drew := (keepBut.refl [] w).drew
  have hrd := hkd.row hr (by simp)
  have ha : ∀ ty, (Builtin.append_ #[44, 44] ty #[.slice (some ⟨g, off, none⟩) i k, .slice (some (if k = i + 1 then ⟨g, off, none⟩ else ⟨g, off + (i + 1) * 87, none⟩)) (m - i) (k - (i + 1))]).run Tryd.prog w.drew = .ok (.slice (some ⟨g, off, none⟩) m k) (w.drew.setCells g (off + i * 87) ((flatP T).drop ((i + 1) * 87))) := fun ty => by
    have hx := run_append_here (P := Tryd.prog) w.drew 44 ty 40 iP Tryd.underlying44 hiP 87 hsP g off i k cur hrd hcs (if k = i + 1 then ⟨g, off, none⟩ else ⟨g, off + (i + 1) * 87, none⟩) (m - i) (k - (i + 1)) ((flatP T).drop ((i + 1) * 87)) (by rw [List.length_drop, hfl, ← Nat.sub_mul]; congr 1; omega) (fun j u hu => ?_) (fun u hu => h1 u (List.mem_of_mem_drop hu)) (by omega)
    · rw [show i + (m - i) = m by omega] at hx
      exact hx
    · rw [List.getElem?_drop] at hu
      have hj := (List.getElem?_eq_some_iff.1 hu).1
      rw [if_neg (by omega), add_plain, World.cell?_drew, hr.cell, Nat.add_assoc, hat _ (by omega), hu]
  have hsm : (m - i) * 87 = m * 87 - i * 87 := Nat.sub_mul ..
  have hi87 : i * 87 ≤ m * 87 := Nat.mul_le_mul_right _ hi
  have hk87 : (m + 1) * 87 ≤ k * 87 := Nat.mul_le_mul_right _ hk1
  have hcl := run_clear_one (P := Tryd.prog) (w.drew.setCells g (off + i * 87) ((flatP T).drop ((i + 1) * 87))) 44 40 _ Z Tryd.underlying44 hZv (zeroCells_one Z) (hZi w).one g (off + m * 87) (k - m) _ hrd.setL (by rw [putL_size, hZl]; omega)
  have hend := delRow (Z := Z) (k := k) hrd hn hl hi hk1 hk2 hcs hat hZl
  have HA := Lib.hid ha
  have HC := Lib.hid hcl
  have HE := Lib.hid (And.intro hend.1 (hkd.more (S := []) (T := [g]) (by simp) |>.then hend.2 (fun x hx => .inl hx)))
  obtain ⟨w2, hw2⟩ : ∃ w2, w.drew.setCells g (off + i * 87) ((flatP T).drop ((i + 1) * 87)) = w2 := ⟨_, rfl⟩
  rw [hw2] at HA HC HE
  clear h hl h1 hn hZl hZ hZb hZi hZv hr hk2 hcs hat hiP hsP hbP hzP hcP hfl hkd hrd ha hcl hend hsm hi87 hk87 hw2
  go_enter Tryd.func46, Tryd.ntmps46
  go_upto_region 2 with fail
  go_upto_region 5 with fail
  refine wp_region_held_drew (S := fun _ => True) (by kernel_rfl) trivial (fun _ => ?_)
  refine wpAnyH_take (i := 0) (oi := ⟨_, _, _, _, _, _⟩) (v := ?_) rfl (by kernel_rfl) (by kernel_rfl) (by kernel_rfl) (fun _ _ _ h => h) (Or.inl ⟨by rfl, ?_⟩) trivial ?_
  rotate_left
  · intro w' hSw; (try dsimp only at hSw); (go_simp; try with_reducible rfl)
  try simp only [Act.put, List.setIfInBounds_toArray, List.set_cons_zero, List.set_cons_succ]
  refine wpAnyH_take (i := 1) (oi := ⟨_, _, _, _, _, _⟩) (v := ?_) rfl (by kernel_rfl) (by kernel_rfl) (by kernel_rfl) (fun _ _ _ h => h) (Or.inl ⟨by rfl, ?_⟩) trivial ?_
  rotate_left
  · intro w' hSw; (try dsimp only at hSw); (go_simp; try with_reducible rfl)
  try simp only [Act.put, List.setIfInBounds_toArray, List.set_cons_zero, List.set_cons_succ]
  refine wpAnyH_take (i := 2) (oi := ⟨_, _, _, _, _, _⟩) (v := .slice (some ⟨g, off, none⟩) i k) rfl (by kernel_rfl) (by kernel_rfl) (by kernel_rfl) (fun _ _ _ h => h) (Or.inl ⟨by rfl, ?_⟩) trivial ?_
  · intro w' hSw; clear hSw; go_simp; (intro h; omega)
  try simp only [Act.put, List.setIfInBounds_toArray, List.set_cons_zero, List.set_cons_succ]
  refine wpAnyH_take (i := 3) (oi := ⟨_, _, _, _, _, _⟩) (v := ?_) rfl (by kernel_rfl) (by kernel_rfl) (by kernel_rfl) (fun _ _ _ h => h) (Or.inl ⟨by rfl, ?_⟩) trivial ?_
  rotate_left
  · intro w' hSw; (try dsimp only at hSw); (go_simp; try with_reducible rfl)
  try simp only [Act.put, List.setIfInBounds_toArray, List.set_cons_zero, List.set_cons_succ]
  refine wpAnyH_take (i := 4) (oi := ⟨_, _, _, _, _, _⟩) (v := ?_) rfl (by kernel_rfl) (by kernel_rfl) (by kernel_rfl) (fun _ _ _ h => h) (Or.inl ⟨by rfl, ?_⟩) trivial ?_
  rotate_left
  · intro w' hSw; (try dsimp only at hSw); (go_simp; try with_reducible rfl)
  try simp only [Act.put, List.setIfInBounds_toArray, List.set_cons_zero, List.set_cons_succ]
  refine wpAnyH_take (i := 5) (oi := ⟨_, _, _, _, _, _⟩) (v := .slice (some (if k = i + 1 then ⟨g, off, none⟩ else ⟨g, off + (i + 1) * 87, none⟩)) (m - i) (k - (i + 1))) rfl (by kernel_rfl) (by kernel_rfl) (by kernel_rfl) (fun _ _ _ h => h) (Or.inl ⟨by rfl, ?_⟩) trivial ?_
  · intro w' hSw; clear hSw; go_simp; (try rw [if_pos (by omega)]); split <;> simp_all
  try simp only [Act.put, List.setIfInBounds_toArray, List.set_cons_zero, List.set_cons_succ]
  refine wpAnyH_ready (rs := [6]) (by kernel_rfl) (by simp) ?_
  refine AllReadyH.cons (o := ⟨_, _, _, _, _, _⟩) rfl (fun K hK => ?_) AllReadyH.nil
  refine step_append_run _ rfl (.tmp 22) (.tmp 25) 44 rfl _ _ rfl rfl _ _ (HA.out _) ?_
  refine hK.out _ _ trivial (fun _ => ?_)
  clear hK K
  try simp only [Act.put, List.setIfInBounds_toArray, List.set_cons_zero, List.set_cons_succ]
  refine wpAnyH_ready (rs := [7]) (by kernel_rfl) (by simp) ?_
  refine AllReadyH.cons (o := ⟨_, _, _, _, _, _⟩) rfl (fun K hK => ?_) AllReadyH.nil
  go_simp
  refine hK.out _ _ trivial (fun _ => ?_)
  clear hK K
  try simp only [Act.put, List.setIfInBounds_toArray, List.set_cons_zero, List.set_cons_succ]
  refine wpAnyH_done (by kernel_rfl) ?_ _
  have hcl := HC.out
  go_wp2_with fail
  all_goals
    skip
    first | subst h | skip
    go_ret
    exact ⟨rfl, HE.out.1, HE.out.2⟩
end Go.Proofs.YtcnlnkkdcofphaaDoor
