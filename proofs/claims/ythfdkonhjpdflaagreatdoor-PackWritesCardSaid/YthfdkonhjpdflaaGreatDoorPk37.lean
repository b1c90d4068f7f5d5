/-
  PACK, 37: works: the chapter's examples.
-/
import Derived.Test.YthfdkonhjpdflaaGreatDoorPk36
namespace Go.Proofs.YthfdkonhjpdflaaGreatDoor
open Go.RowKit
set_option linter.unusedVariables false
set_option maxRecDepth 100000
set_option linter.unusedSimpArgs false

theorem wpList_build_c {P : Program} (w : World) {ops : Array Oper} {rest : List Oper} {o : Oper} {a : Act} {Q : Exit → Act → World → Prop} (t : TypeId) (parts : Array (Nat × Operand)) (ho : o.op = .build t parts) (cells : Array Value)
    (hb : P.built t (parts.map fun (i, x) => (i, a.eval x)).toList = some cells) (hw : Region.wanted o (yielded ops a.tmps) = true) (h : wpList P ops Q rest (a.put o.dst (.agg cells)) w) : wpList P ops Q (o :: rest) a w :=
  wpList_wantedP hw fun K hK => by
    have hK' := hK _ _ h
    unfold Oper.wp execOp
    simp only [ho, Sem.run_bind, run_build w t _ cells hb, Result.andThen_ok]
    exact hK'
theorem cb_small (n : Nat) (h : n < 128) : cb n = [UInt8.ofNat n] := by
  unfold cb
  rw [show n / 128 = 0 by omega, cbHi_zero, show n % 128 = n by omega]
  rfl
theorem cb_two (n : Nat) (h1 : 128 ≤ n) (h2 : n < 16384) : cb n = [UInt8.ofNat (128 + n / 128), UInt8.ofNat (n % 128)] := by
  unfold cb
  rw [cbHi_pos (n / 128) (by omega), show n / 128 / 128 = 0 by omega, cbHi_zero, show n / 128 % 128 = n / 128 by omega]
  rfl
def pkE1 : PK := ⟨4, 11, 10, 3, 200, 0, false, rqZero, anZero, cfZero, [], []⟩
def pkE2 : PK := ⟨5, 12, 11, 300, -1, 0, false, rqZero, anZero, cfZero, [], []⟩
def pkE3 : PK := ⟨8, 10, 2, 0, 0, 0, true, rqZero, anZero, cfZero, [], []⟩
def pkE4 : PK := ⟨9, 0, 0, 1, 0, 0, false, rqZero, anZero, cfZero, [], []⟩
def pkE5 : PK := ⟨7, 0, 0, 0, 0, 0, false, rqZero, anZero, ⟨0, 1, [10, 10]⟩, [], []⟩
def cfE : CF := ⟨2, 1, [11, 10]⟩
theorem pkE1_ok : pkE1.ok = true := by kernel_rfl
theorem pkE2_ok : pkE2.ok = true := by kernel_rfl
theorem pkE3_ok : pkE3.ok = true := by kernel_rfl
theorem pkE4_ok : pkE4.ok = false := by kernel_rfl
theorem pkE5_ok : pkE5.ok = false := by kernel_rfl
theorem cfE_ok : cfE.ok = true := by kernel_rfl
theorem pkE1_b : pkB pkE1 = [4, 11, 10, 3, 129, 73] := by
  rw [pkB_split, show fieldsP pkE1.kind = 3 from rfl]
  unfold tl1 tl2 tl3 tl4 tl5 tl6 tl7 tl8 tl9
  rw [oL_on _ (show bitA 3 1 ≠ 0 by decide), oL_on _ (show bitA 3 2 ≠ 0 by decide), oL_off _ (show bitA 3 4 = 0 by decide), oL_off _ (show bitA 3 8 = 0 by decide), oL_off _ (show bitA 3 16 = 0 by decide), oL_off _ (show bitA 3 32 = 0 by decide), oL_off _ (show bitA 3 64 = 0 by decide), oL_off _ (show bitA 3 128 = 0 by decide), oL_off _ (show bitA 3 256 = 0 by decide)]
  rw [show pkE1.num.toNat = 3 from rfl, show (pkE1.seq + 1).toNat = 201 from rfl, cb_small 3 (by omega), cb_two 201 (by omega) (by omega)]
  rfl
theorem pkE2_b : pkB pkE2 = [5, 12, 11, 130, 44, 0] := by
  rw [pkB_split, show fieldsP pkE2.kind = 3 from rfl]
  unfold tl1 tl2 tl3 tl4 tl5 tl6 tl7 tl8 tl9
  rw [oL_on _ (show bitA 3 1 ≠ 0 by decide), oL_on _ (show bitA 3 2 ≠ 0 by decide), oL_off _ (show bitA 3 4 = 0 by decide), oL_off _ (show bitA 3 8 = 0 by decide), oL_off _ (show bitA 3 16 = 0 by decide), oL_off _ (show bitA 3 32 = 0 by decide), oL_off _ (show bitA 3 64 = 0 by decide), oL_off _ (show bitA 3 128 = 0 by decide), oL_off _ (show bitA 3 256 = 0 by decide)]
  rw [show pkE2.num.toNat = 300 from rfl, show (pkE2.seq + 1).toNat = 0 from rfl, cb_small 0 (by omega), cb_two 300 (by omega) (by omega)]
  rfl
theorem pkE3_b : pkB pkE3 = [8, 10, 2, 0, 1] := by
  rw [pkB_split, show fieldsP pkE3.kind = 9 from rfl]
  unfold tl1 tl2 tl3 tl4 tl5 tl6 tl7 tl8 tl9
  rw [oL_on _ (show bitA 9 1 ≠ 0 by decide), oL_off _ (show bitA 9 2 = 0 by decide), oL_off _ (show bitA 9 4 = 0 by decide), oL_on _ (show bitA 9 8 ≠ 0 by decide), oL_off _ (show bitA 9 16 = 0 by decide), oL_off _ (show bitA 9 32 = 0 by decide), oL_off _ (show bitA 9 64 = 0 by decide), oL_off _ (show bitA 9 128 = 0 by decide), oL_off _ (show bitA 9 256 = 0 by decide)]
  rw [show pkE3.num.toNat = 0 from rfl, cb_small 0 (by omega)]
  rfl
theorem cfE_b : cfB cfE = [2, 1, 2, 11, 10] := by
  unfold cfB
  rw [show cfE.num.toNat = 2 from rfl, cb_small 2 (by omega)]
  rfl
theorem pkE1_p : parsePk (pkB pkE1) = (pkE1, 0) := by rw [pkE1_b]; kernel_rfl
theorem pkE2_p : parsePk (pkB pkE2) = (pkE2, 0) := by rw [pkE2_b]; kernel_rfl
theorem pkE3_p : parsePk (pkB pkE3) = (pkE3, 0) := by rw [pkE3_b]; kernel_rfl
theorem eqE1 : (((((Tryz.zeroCells34.setIfInBounds 0 (.int .i64 4)).setIfInBounds 1 (.int .i64 11)).setIfInBounds 2 (.int .i64 10)).setIfInBounds 3 (.int .i64 3)).setIfInBounds 4 (.int .i64 200)) = (pkL pkE1 nilV nilV nilV nilV nilV).toArray := by kernel_rfl
theorem eqE2 : (((((Tryz.zeroCells34.setIfInBounds 0 (.int .i64 5)).setIfInBounds 1 (.int .i64 12)).setIfInBounds 2 (.int .i64 11)).setIfInBounds 3 (.int .i64 300)).setIfInBounds 4 (.int .i64 (-1))) = (pkL pkE2 nilV nilV nilV nilV nilV).toArray := by kernel_rfl
theorem eqE3 : ((((Tryz.zeroCells34.setIfInBounds 0 (.int .i64 8)).setIfInBounds 1 (.int .i64 10)).setIfInBounds 2 (.int .i64 2)).setIfInBounds 6 (.bool true)) = (pkL pkE3 nilV nilV nilV nilV nilV).toArray := by kernel_rfl
theorem eqE4 : ((Tryz.zeroCells34.setIfInBounds 0 (.int .i64 9)).setIfInBounds 3 (.int .i64 1)) = (pkL pkE4 nilV nilV nilV nilV nilV).toArray := by kernel_rfl
theorem eqE5 (A : Option Addr) (n c : Nat) : ((((Tryz.zeroCells34.setIfInBounds 0 (.int .i64 7)).setIfInBounds 82 (.int .i64 0)).setIfInBounds 83 (.int .i64 1)).setIfInBounds 84 (.slice A n c)) = (pkL pkE5 nilV nilV (.slice A n c) nilV nilV).toArray := by kernel_rfl
theorem val_E (w : World) (p : PK) (hr : p.req = rqZero) (ha : p.ans = anZero) (hc : p.conf = cfZero) (hv : p.votes = []) (hb : p.bytes = []) : pkV w [] p nilV nilV nilV nilV nilV := by
  obtain ⟨a1, a2, a3, a4, a5, a6, a7, a8, a9, a10, a11, a12⟩ := p
  dsimp only at hr ha hc hv hb
  subst hr ha hc hv hb
  exact ⟨rqZero_name, anZero_name, bytesV.nil _ _, bytesV.nil _ _, intsV.nil _ _, votesV.nil _ _, bytesV.nil _ _⟩
/-- a row of bytes that was just made -/
theorem bytesV.row {w : World} {g : Nat} {t : TypeId} {l : List UInt8} (h : rowAt w g t (l.map bv).toArray) (hm : l.length ≤ maxLen) : bytesV w [g] (.slice (some ⟨g, 0, none⟩) l.length l.length) l :=
  ⟨_, _, g, rfl, Nat.le_refl _, hm, fun hne => ⟨0, rfl, h.lt, fun j b hb => by rw [h.cell]; simp [hb]⟩, fun _ => by simp⟩
theorem intsV.row {w : World} {g : Nat} {t : TypeId} {l : List Int} (h : rowAt w g t (l.map (Value.int .i64)).toArray) (hm : l.length ≤ maxLen) : intsV w [g] (.slice (some ⟨g, 0, none⟩) l.length l.length) l :=
  ⟨_, _, g, rfl, Nat.le_refl _, hm, ⟨by simp, fun hne => ⟨0, rfl, h.lt, fun j u hu => by rw [h.cell]; simpa using hu⟩⟩, fun _ => by simp⟩
theorem row5 (j : Nat) (b : UInt8) (hb : ([2, 1, 2, 11, 10] : List UInt8)[j]? = some b) : (#[Value.int .u8 2, .int .u8 1, .int .u8 2, .int .u8 11, .int .u8 10] : Array Value)[0 + j]? = some (bv b) := by
  rw [Nat.zero_add]
  match j, hb with
  | 0, hb => injection hb with hb; subst hb; rfl
  | 1, hb => injection hb with hb; subst hb; rfl
  | 2, hb => injection hb with hb; subst hb; rfl
  | 3, hb => injection hb with hb; subst hb; rfl
  | 4, hb => injection hb with hb; subst hb; rfl
set_option maxHeartbeats 16000000 in
theorem works_any (w : World) (hfl : fieldsAt w) :
    Calls Tryz.prog 26 #[] w fun e w' => e = .returned (.bool true) ∧ keepBut [] w w' := by
  have H0 := Lib.hid hfl
  clear hfl
  go_enter Tryz.func26, Tryz.ntmps26
  go_upto_region 1 with fail
  go_upto_region 2 with (first
    | (go_at_call 92; rw [eqE1]; refine (has_any [] [w.heap.size] pkE1 _ _ _ _ _ _ _ (val_E _ pkE1 rfl rfl rfl rfl rfl) (by rw [pkE1_b]; exact bytesV.row (l := [4, 11, 10, 3, 129, 73]) (rowAt.new w _ _) (by unfold maxLen; decide)) (H0.out.keep ((keepBut.refl [] w).alloc _) (by simp)) (by unfold i64P; decide) (by unfold i64P; decide) pkE1_ok pkE1_p).mono ?_; rintro e w1 ⟨rfl, k1⟩; have K1 := Lib.hid (((keepBut.refl [] w).alloc _).then k1 (by simp)); clear k1)
    | (go_at_call 92; rw [eqE2]; refine (has_any [] [w1.heap.size] pkE2 _ _ _ _ _ _ _ (val_E _ pkE2 rfl rfl rfl rfl rfl) (by rw [pkE2_b]; exact bytesV.row (l := [5, 12, 11, 130, 44, 0]) (rowAt.new w1 _ _) (by unfold maxLen; decide)) (H0.out.keep (K1.out.then ((keepBut.refl [] w1).alloc _) (by simp)) (by simp)) (by unfold i64P; decide) (by unfold i64P; decide) pkE2_ok pkE2_p).mono ?_; rintro e w2 ⟨rfl, k1⟩; have K2 := Lib.hid ((K1.out.then ((keepBut.refl [] w1).alloc _) (by simp)).then k1 (by simp)); clear k1)
    | (go_at_call 92; rw [eqE3]; refine (has_any [] [w2.heap.size] pkE3 _ _ _ _ _ _ _ (val_E _ pkE3 rfl rfl rfl rfl rfl) (by rw [pkE3_b]; exact bytesV.row (l := [8, 10, 2, 0, 1]) (rowAt.new w2 _ _) (by unfold maxLen; decide)) (H0.out.keep (K2.out.then ((keepBut.refl [] w2).alloc _) (by simp)) (by simp)) (by unfold i64P; decide) (by unfold i64P; decide) pkE3_ok pkE3_p).mono ?_; rintro e w3 ⟨rfl, k1⟩; have K3 := Lib.hid ((K2.out.then ((keepBut.refl [] w2).alloc _) (by simp)).then k1 (by simp)); clear k1))
  go_upto_region 3 with (first
    | (go_at_call 18; refine (bytesConf_any [w3.heap.size] cfE _ _ (intsV.row (l := [11, 10]) (rowAt.new w3 _ _) (by unfold maxLen; decide)) cfE_ok).mono ?_; rintro e w4 ⟨u, G4, rfl, ⟨A4, c4, g4, rfl, _, _, sn4, _⟩, nw4, kk4⟩; have K4 := Lib.hid ((K3.out.then ((keepBut.refl [] w3).alloc _) (by simp)).then kk4 (by simp)); have H4 := Lib.hid sn4; clear sn4 nw4 kk4))
  have hbe : (cfB cfE == [2, 1, 2, 11, 10]) = true := by rw [cfE_b]; rfl
  go_wp2_with (first
    | (go_at_call 11; refine (eqBytes_any A4 (some ⟨w4.heap.size, 0, none⟩) g4 w4.heap.size c4 5 (cfB cfE) [2, 1, 2, 11, 10] _ (H4.out.keep ((keepBut.refl [] w4).alloc _) (by simp)) (fun _ => ⟨0, rfl, (rowAt.new w4 _ _).lt, fun j b hb => by rw [(rowAt.new w4 _ _).cell]; exact row5 j b hb⟩)).mono ?_; rintro e w5 ⟨rfl, rfl⟩; rw [hbe])
    | (go_at_call 9; rw [eqE4]; refine (check_any [] pkE4 _ _ _ _ _ _ (val_E _ pkE4 rfl rfl rfl rfl rfl) (H0.out.keep (K4.out.then ((keepBut.refl [] w4).alloc _) (by simp)) (by simp)) (by unfold i64P; decide) (by unfold i64P; decide)).mono ?_; rintro e w6 ⟨rfl, k1⟩; rw [pkE4_ok]; have K6 := Lib.hid ((K4.out.then ((keepBut.refl [] w4).alloc _) (by simp)).then k1 (by simp)); clear k1)
    | (go_at_call 9; rw [eqE5]; refine (check_any [w6.heap.size] pkE5 _ _ _ _ _ _ ⟨rqZero_name, anZero_name, bytesV.nil _ _, bytesV.nil _ _, intsV.row (l := [10, 10]) (rowAt.new w6 _ _) (by unfold maxLen; decide), votesV.nil _ _, bytesV.nil _ _⟩ (H0.out.keep (K6.out.then ((keepBut.refl [] w6).alloc _) (by simp)) (by simp)) (by unfold i64P; decide) (by unfold i64P; decide)).mono ?_; rintro e w7 ⟨rfl, k1⟩; rw [pkE5_ok]; have K7 := Lib.hid ((K6.out.then ((keepBut.refl [] w6).alloc _) (by simp)).then k1 (by simp)); clear k1))
  go_ret
  exact ⟨rfl, K7.out⟩
end Go.Proofs.YthfdkonhjpdflaaGreatDoor
