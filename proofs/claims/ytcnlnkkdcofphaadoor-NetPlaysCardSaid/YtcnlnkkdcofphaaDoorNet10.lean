/-
  NET, 10: packets that are built of parts; the statements' ask.
-/
import Derived.Test.YtcnlnkkdcofphaaDoorNet9
import Derived.Test.YtcnlnkkdcofphaaDoorLow1
namespace Go.Proofs.YtcnlnkkdcofphaaDoor
open Go.RowKit
set_option linter.unusedVariables false
set_option maxRecDepth 100000
set_option linter.unusedSimpArgs false

theorem wpList_build_g {P : Program} (w : World) {ops : Array Oper} {rest : List Oper} {o : Oper} {a : Act} {Q : Exit → Act → World → Prop} (t : TypeId) (parts : Array (Nat × Operand)) (ho : o.op = .build t parts)
    (v : Value) (us : Array (Nat × Value)) (hu : parts.map (fun (i, x) => (i, a.eval x)) = us) (hr : (Instr.build t us).run P w = .ok v w) (hw : Region.wanted o (yielded ops a.tmps) = true) (h : wpList P ops Q rest (a.put o.dst v) w) : wpList P ops Q (o :: rest) a w := by
  subst hu
  refine wpList_wantedP hw fun K hK => ?_
  have hK' := hK _ _ h
  unfold Oper.wp execOp
  simp only [ho]
  simp [hr]
  exact hK'
def plP (kind frm dst num : Int) : PK := ⟨kind, frm, dst, num, 0, 0, false, rqZero, anZero, cfZero, [], []⟩
theorem plP_item (kind frm dst num : Int) (w : World) : itemV w [] (plP kind frm dst num, pkL (plP kind frm dst num) nilV nilV nilV nilV nilV) :=
  ⟨_, _, _, _, _, rfl, rqZero_name, anZero_name, bytesV.nil _ _, bytesV.nil _ _, intsV.nil _ _, votesV.nil _ _, bytesV.nil _ _⟩
theorem plP_fits (kind frm dst num : Int) : (plP kind frm dst num).fits := ⟨by simp [plP, rqZero], by simp [plP, anZero], by simp [plP, cfZero], by simp [plP], by simp [plP], by simp [plP]⟩
theorem run_build4 (a b c d : Int) (w : World) : (Instr.build 40 #[(0, .int .i64 a), (1, .int .i64 b), (2, .int .i64 c), (3, .int .i64 d)]).run Tryd.prog w = .ok (.agg (pkL (plP a b c d) nilV nilV nilV nilV nilV).toArray) w :=
  run_build w 40 _ _ (by kernel_rfl)
theorem run_build3 (a b c : Int) (w : World) : (Instr.build 40 #[(0, .int .i64 a), (1, .int .i64 b), (2, .int .i64 c)]).run Tryd.prog w = .ok (.agg (pkL (plP a b c 0) nilV nilV nilV nilV nilV).toArray) w :=
  run_build w 40 _ _ (by kernel_rfl)
theorem run_build2 (a b : Int) (w : World) : (Instr.build 40 #[(0, .int .i64 a), (1, .int .i64 b)]).run Tryd.prog w = .ok (.agg (pkL (plP a b 0 0) nilV nilV nilV nilV nilV).toArray) w :=
  run_build w 40 _ _ (by kernel_rfl)
theorem ask9_ok : (plP 9 20 0 0).ok = true ∧ (plP 9 20 1 0).ok = true := by decide +kernel
theorem alive_ok (frm dst n : Int) (h1 : nodeP frm = true) (h2 : nodeP dst = true) (h3 : 0 ≤ n) (h4 : n ≤ 9007199254740991) : (plP 8 frm dst n).ok = true := by
  have b0 : fieldsP 8 = 9 := by decide
  have b1 : bitA 9 1 = 1 := by decide +kernel
  have b2 : bitA 9 2 = 0 := by decide +kernel
  have b4 : bitA 9 4 = 0 := by decide +kernel
  have b8 : bitA 9 8 = 8 := by decide +kernel
  have c1 : bitA 9 16 = 0 := by decide +kernel
  have c2 : bitA 9 32 = 0 := by decide +kernel
  have c3 : bitA 9 64 = 0 := by decide +kernel
  have c4 : bitA 9 128 = 0 := by decide +kernel
  have c5 : bitA 9 256 = 0 := by decide +kernel
  have hc : (plP 8 frm dst n).cut 9 = plP 8 frm dst n := by
    simp only [PK.cut, plP, b1, b2, b4, b8, c1, c2, c3, c4, c5]
    simp [oI, oB, oV]
  unfold PK.ok
  rw [show (plP 8 frm dst n).kind = 8 from rfl, b0, hc, show (plP 8 frm dst n).same (plP 8 frm dst n) = true by simp [PK.same, plP, RQ.same, AN.same, CF.same, vEq]]
  simp only [plP, PK.parts, c1, c2, c3, h1, h2, inP_yes ⟨h3, h4⟩]
  simp [seqP, inP, vtsOk, vtsB]
def askX (ds n : Int) : List Value := pkL (plP 8 (10 + n % 4) ds n) nilV nilV nilV nilV nilV
theorem askX_len (ds n : Int) : (askX ds n).length = 87 := (plP_item 8 (10 + n % 4) ds n default).len
set_option maxHeartbeats 4000000 in
theorem ask_any (ds n : Int) (h1 : -9223372036854775808 ≤ n) (h2 : n ≤ 9223372036854775807) (w : World) :
    Calls Tryd.prog 26 #[.int .i64 ds, .int .i64 n] w fun e w' => e = .returned (.agg (askX ds n).toArray) ∧ keepBut [] w w' := by
  obtain ⟨Z, hZl, hZ, hZb, hZi⟩ := zeroP
  have hb := run_build4 8 (10 + n % 4) ds n
  have hl := askX_len ds n
  have ho : ∀ u ∈ askX ds n, u.oneCell' = true := (plP_item 8 (10 + n % 4) ds n w).one
  obtain ⟨X, hX⟩ : ∃ X, askX ds n = X := ⟨_, rfl⟩
  unfold askX at hX
  rw [hX] at hb
  unfold askX at hl ho ⊢
  rw [hX] at hl ho ⊢
  have r1 := rowAt.new w 40 Z.toArray
  have k1 := (keepBut.refl [] w).alloc (.cells Z.toArray 40)
  have hth := there_newP (w := w) (t := 40) (Z := Z) (X := X) (by rw [hl]; exact hZl.symm)
  have hst := storedP (w := w) (t := 40) (Z := Z) (X := X) (by rw [hl]; exact hZl.symm)
  obtain ⟨w1, hw1⟩ : ∃ w1, w.alloc (.cells Z.toArray 40) = w1 := ⟨_, rfl⟩
  rw [hw1] at hth hst r1 k1
  have HZ := Lib.hid hZ
  have HW := Lib.hid hw1
  have HX := Lib.hid (And.intro hb (And.intro hl (And.intro ho (And.intro hth hst))))
  have hn4 : IntKind.i64.wrap (10 + n % 4) = 10 + n % 4 := by rw [IntKind.wrap_i64]; omega
  clear hZl hZ hZb hZi hb hl ho r1 k1 hth hst hw1 hX
  go_enter Tryd.func26, Tryd.ntmps26
  go_wp2_with (first
    | (with_reducible refine wpList_alloc_to _ _ rfl 40 rfl _ HZ.out HW.out ?_)
    | (go_at_call 13; refine (bring_any n 4 h1 h2 (by omega) (by omega) _).mono ?_; rintro e w' ⟨rfl, rfl⟩)
    | (refine wpList_build_g _ 40 _ rfl (.agg X.toArray) #[(0, .int .i64 8), (1, .int .i64 (10 + n % 4)), (2, .int .i64 ds), (3, .int .i64 n)] (by simp [Act.eval]) (HX.out.1 _) rfl ?_)
    | (refine wpList_store_mid rfl 40 (.tmp 4) (.tmp 10) rfl w.heap.size 0 X.toArray rfl rfl HX.out.2.2.2.1 (by rw [List.size_toArray, HX.out.2.1]; exact info_pk) (all_oneCell_toArray HX.out.2.2.1) ?_))
  refine bodyPost_ret (results_cell_row rfl _ _ w.heap.size 40 _ (0, 0) _ rfl HX.out.2.2.2.2.1 Tryd.underlying40 rfl (by rw [List.size_toArray, HX.out.2.1]; exact info_pk)) rfl ?_
  exact ⟨rfl, HX.out.2.2.2.2.2⟩
theorem owns.held {w : World} {v : Value} {l : List Int} (h : owns w 3 1 v l.length (l.map (Value.int .i64))) (hl : l.length ≤ 17592186044416) : held w (homes v) v l := by
  obtain ⟨A, c, rfl, h1, h2, h3, h4⟩ := h.form
  rcases hv : homes (.slice A l.length c) with _ | ⟨g, _ | ⟨g', r⟩⟩
  · refine ⟨A, c, 0, rfl, h1, h2, hl, h4 0 (.inl hv), fun hne => ?_⟩
    rcases h.2 with ⟨e, e2⟩ | ⟨g, cap, cur, e, _⟩
    · exact absurd (List.length_eq_zero_iff.1 e2) hne
    · rw [e, homes_some] at hv; cases hv
  · exact ⟨A, c, g, rfl, h1, h2, hl, h4 g (.inr hv), fun _ => by simp⟩
  · rcases h.2 with ⟨e, e2⟩ | ⟨g2, cap, cur, e, _⟩
    · rw [e, homes_none] at hv; cases hv
    · rw [e, homes_some] at hv; cases hv
end Go.Proofs.YtcnlnkkdcofphaaDoor
