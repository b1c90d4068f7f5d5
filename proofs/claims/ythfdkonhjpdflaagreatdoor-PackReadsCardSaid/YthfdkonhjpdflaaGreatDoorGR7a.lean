/-
  THE DOCUMENT's PARSERS, 7: the parts of a packet.
-/
import Derived.Test.YthfdkonhjpdflaaGreatDoorGRC
import Derived.Test.YthfdkonhjpdflaaGreatDoorNK
import Derived.Test.YthfdkonhjpdflaaGreatDoorRCA
namespace Go.Proofs.YthfdkonhjpdflaaGreatDoor
open Go.RowKit
set_option linter.unusedVariables false
set_option maxRecDepth 100000
set_option linter.unusedSimpArgs false

/-- what the parts' reader leaves: the packet and the reader are told where there is no error -/
def bodyOut (S : SF) (p g : Nat) (w : World) (e : Ending) (w' : World) : Prop := ∃ X, e = .returned (.tuple #[.agg (X : List Value).toArray, .int .i64 (firstP S.2.2 S.2.1.e)]) ∧ X.length = 87 ∧ (∀ u ∈ X, u.oneCell' = true) ∧ (firstP S.2.2 S.2.1.e = 0 → ∃ G, itemV w' G (S.1, X) ∧ newIn w w' G ∧ isR2 w' p g S.2.1) ∧ keepBut [p] w w'
/-- a packet whose parts are being read -/
structure bdA (w0 w : World) (p g rb : Nat) (r : RS) (X Z : List Value) : Prop where
  rd : isR2 w p g r
  lo : p < w0.heap.size
  gl : r.l ≠ [] → g < w0.heap.size
  hi : w0.heap.size < rb
  row : rowAt w w0.heap.size 34 X.toArray
  res : rowAt w rb 34 Z.toArray
  kp : keepBut [p] w0 w
theorem bdA.begin {w : World} {p g : Nat} {r : RS} {X Z : List Value} (hr : isR2 w p g r) {w1 w2 : World} {rb : Nat} (h1 : w.alloc (.cells X.toArray 34) = w1) (h2 : w1.alloc (.cells Z.toArray 34) = w2) (h3 : w1.heap.size = rb) : bdA w w2 p g rb r X Z := by
  have k1 := (keepBut.refl [] w).alloc (.cells X.toArray 34)
  have r1 := rowAt.new w 34 X.toArray
  rw [h1] at k1 r1
  have k2 := (keepBut.refl [] w1).alloc (.cells Z.toArray 34)
  have r2 := rowAt.new w1 34 Z.toArray
  rw [h2] at k2 r2
  rw [h3] at r2
  exact ⟨(hr.keep k1 (by simp) (by simp)).keep k2 (by simp) (by simp), hr.lt, fun hne => hr.gl hne, by have := r1.lt; omega, k2.row r1 (by simp), r2, (k1.then k2 (by simp)).more (by simp)⟩
theorem bdA.over {w0 w w' : World} {p g rb : Nat} {r : RS} {X Z : List Value} (h : bdA w0 w p g rb r X Z) (hk : keepBut [] w w') : bdA w0 w' p g rb r X Z :=
  ⟨h.rd.keep hk (by simp) (by simp), h.lo, h.gl, h.hi, hk.row h.row (by simp), hk.row h.res (by simp), h.kp.then hk (by simp)⟩
theorem bdA.read {w0 w w' : World} {p g rb : Nat} {r r' : RS} {X Z : List Value} (h : bdA w0 w p g rb r X Z) (hr : isR2 w' p g r') (hk : keepBut [p] w w') (hl : r'.l ≠ [] → r.l ≠ []) : bdA w0 w' p g rb r' X Z :=
  ⟨hr, h.lo, fun hne => h.gl (hl hne), h.hi, hk.row h.row (by have := h.lo; simp; omega), hk.row h.res (by have := h.lo; have := h.hi; simp; omega), h.kp.then hk (fun x hx => .inl hx)⟩
theorem bdA.far {w0 w w' : World} {p g rb : Nat} {r : RS} {X Z : List Value} {S : List Nat} (h : bdA w0 w p g rb r X Z) (hk : keepBut S w w') (hS : ∀ x ∈ S, rb < x) : bdA w0 w' p g rb r X Z :=
  ⟨h.rd.keep hk (fun hm => by have := hS _ hm; have := h.lo; have := h.hi; omega) (fun hne hm => by have := hS _ hm; have := h.gl hne; have := h.hi; omega), h.lo, h.gl, h.hi, hk.row h.row (fun hm => by have := hS _ hm; have := h.hi; omega), hk.row h.res (fun hm => by have := hS _ hm; omega), h.kp.then hk (fun x hx => .inr (by have := hS x hx; have := h.hi; omega))⟩
theorem bdA.put {w0 w w' : World} {p g rb : Nat} {r : RS} {X X' Z : List Value} (h : bdA w0 w p g rb r X Z) (hk : keepBut [w0.heap.size] w w') (hrow : rowAt w' w0.heap.size 34 X'.toArray) : bdA w0 w' p g rb r X' Z :=
  ⟨h.rd.keep hk (by have := h.lo; simp; omega) (fun hne => by have := h.gl hne; simp; omega), h.lo, h.gl, h.hi, hrow, hk.row h.res (by have := h.hi; simp; omega), h.kp.then hk (fun x hx => .inr (by simp at hx; omega))⟩
theorem bdA.setL {w0 w : World} {p g rb : Nat} {r : RS} {X X' Z : List Value} (h : bdA w0 w p g rb r X Z) (k : Nat) (us : List Value) (he : putL X.toArray k us = X'.toArray) : bdA w0 (w.setCells w0.heap.size k us) p g rb r X' Z :=
  h.put ((keepBut.refl [w0.heap.size] w).setL (.inl (by simp))) (by rw [← he]; exact h.row.setL)
theorem bdA.set {w0 w : World} {p g rb : Nat} {r : RS} {X X' Z : List Value} (h : bdA w0 w p g rb r X Z) (k : Nat) (u : Value) (he : X.toArray.setIfInBounds k u = X'.toArray) : bdA w0 (w.setCell ⟨w0.heap.size, k, none⟩ u) p g rb r X' Z :=
  h.put ((keepBut.refl [w0.heap.size] w).setCell ⟨w0.heap.size, k, none⟩ u (.inl (by simp))) (by rw [← he]; exact h.row.set k u)
theorem bdA.at {w0 w : World} {p g rb : Nat} {r : RS} {X Z : List Value} (h : bdA w0 w p g rb r X Z) {k : Nat} {v : Value} (hv : X.toArray[k]? = some v) : w.cell? ⟨w0.heap.size, k, none⟩ = some v := (h.row.cell k).trans hv
/-- the packet and an error are given -/
theorem bd_end {w0 W : World} {p g rb : Nat} {r' : RS} {X Z : List Value} {S : SF} {E : Int} (h : bdA w0 W p g rb r' X Z) (hl : X.length = 87) (ho : ∀ u ∈ X, u.oneCell' = true) (hE : firstP S.2.2 S.2.1.e = E) (hv : E = 0 → S.2.1 = r' ∧ ∃ G, itemV W G (S.1, X) ∧ newIn w0 W G ∧ ∀ y ∈ G, y ≠ rb) : bodyOut S p g w0 (.returned (.tuple #[.agg X.toArray, .int .i64 E])) (W.setCells rb 0 X) := by
  have ks : keepBut [rb] W (W.setCells rb 0 X) := (keepBut.refl [rb] W).setL (.inl (by simp))
  have hi := h.hi
  have lo := h.lo
  refine ⟨X, by rw [hE], hl, ho, fun e0 => ?_, h.kp.setL (.inr (Nat.le_of_lt hi))⟩
  rw [hE] at e0
  obtain ⟨e1, G, i1, n1, a1⟩ := hv e0
  refine ⟨G, i1.keep ks (fun y hy => by have := a1 y hy; simp; omega), fun y hy => ⟨(n1 y hy).1, Nat.lt_of_lt_of_le (n1 y hy).2 ks.size⟩, ?_⟩
  rw [e1]
  exact h.rd.keep ks (by simp; omega) (fun hne => by have := h.gl hne; simp; omega)
theorem bd_rs {wx : World} {rb : Nat} {X Z : List Value} (hx : X.length = 87) (hz : Z.length = 87) (hh : rowAt wx rb 34 Z.toArray) : rowAt (wx.setCells rb 0 X) rb 34 X.toArray := by
  have := hh.setL (vs := X) (o := 0)
  rw [putL_all (by rw [List.size_toArray, hz, hx])] at this
  exact this
set_option maxHeartbeats 16000000 in
theorem bodyRq (p g : Nat) (q : PK) (r : RS) (w : World) (hk : q.kind = 1 ∨ q.kind = 3) (hv : ∀ wx F, pkV wx F q nilV nilV nilV nilV nilV) (hr : isR2 w p g r) (hb : r.l.length ≤ 1000000) :
    Calls Tryz.prog 100 #[.pointer (some ⟨p, 0, none⟩), .agg (pkL q nilV nilV nilV nilV nilV).toArray] w (bodyOut (bdS (fieldsP q.kind) (q, r, 0)) p g w) := by
  obtain ⟨k0, hk0⟩ : ∃ k, q.kind = k := ⟨_, rfl⟩
  obtain ⟨S, hS⟩ : ∃ s, bdS (fieldsP q.kind) (q, r, 0) = s := ⟨_, rfl⟩
  obtain ⟨X0, hX0⟩ : ∃ X, pkL q nilV nilV nilV nilV nilV = X := ⟨_, rfl⟩
  have xl : X0.length = 87 := by rw [← hX0]; exact pkL_len (hv w []).rn (hv w []).an
  have xo : ∀ u ∈ X0, u.oneCell' = true := by rw [← hX0]; exact pkL_one rfl rfl rfl rfl rfl
  have xk : X0.toArray[0]? = some (.int .i64 k0) := by rw [← hX0, ← hk0]; rfl
  obtain ⟨Z, hZ⟩ : ∃ Z, pkL pkZero nilV nilV nilV nilV nilV = Z := ⟨_, rfl⟩
  have zv := zv_pk
  have zl := pkZ_len
  rw [hZ] at zv zl
  obtain ⟨t, r1, h1⟩ : ∃ t r1, r.text 2048 = (t, r1) := ⟨_, _, rfl⟩
  have s1 : (r1.l ≠ [] → r.l ≠ []) ∧ t.length ≤ r.l.length := by rw [show r1 = (r.text 2048).2 by rw [h1], show t = (r.text 2048).1 by rw [h1]]; exact ⟨text_left, text_len _ _⟩
  have HG : Hid (r1.e = 0 → S = ({ q with req := (parseRq t).1 }, r1, (parseRq t).2) ∧ firstP S.2.2 S.2.1.e = (parseRq t).2) := Lib.hid (fun he => by
    have e1 : S = ({ q with req := (parseRq t).1 }, r1, (parseRq t).2) := by rw [← hS, bdS_rq hk]; show (({ q with req := (rpRq r 0).1 } : PK), (rpRq r 0).2.1, (rpRq r 0).2.2) = _; rw [rpRq_good h1 he]
    exact ⟨e1, by rw [e1]; exact firstP_z he⟩)
  have HBd : Hid (r1.e ≠ 0 → firstP S.2.2 S.2.1.e = r1.e) := Lib.hid (fun he => by
    have e1 : S = ({ q with req := (rpRq r 0).1 }, (rpRq r 0).2.1, (rpRq r 0).2.2) := by rw [← hS, bdS_rq hk]
    rw [e1, rpRq_bad h1 he]; rfl)
  have HT1 := Lib.hid (And.intro h1 s1)
  have HK1 : Hid (reqK.contains k0 = true) := Lib.hid (by rw [← hk0]; rcases hk with h | h <;> rw [h] <;> rfl)
  clear h1 s1 hk hk0
  rw [hS, hX0]
  obtain ⟨w1, hw1⟩ : ∃ W, w.alloc (.cells X0.toArray 34) = W := ⟨_, rfl⟩
  obtain ⟨rb, hrb⟩ : ∃ n, w1.heap.size = n := ⟨_, rfl⟩
  obtain ⟨w2, hw2⟩ : ∃ W, w1.alloc (.cells Z.toArray 34) = W := ⟨_, rfl⟩
  have P0 := Lib.hid (bdA.begin hr hw1 hw2 hrb)
  have HW := Lib.hid (And.intro hw1 (And.intro hw2 (And.intro hrb zv)))
  have HX := Lib.hid (And.intro xl (And.intro xo (And.intro xk (And.intro zl (And.intro hb (And.intro hX0 hv))))))
  have iX : (Tryz.prog.info? 34).map (·.size) = some X0.length := by rw [xl]; exact info_pk
  have HI := Lib.hid iX
  clear xl xo xk zv zl hr hw1 hw2 hrb hb iX hZ hX0 hS hv
  go_enter Tryz.func100, Tryz.ntmps100
  go_upto_region 1 with (first
    | (with_reducible refine wpList_box_to _ _ rfl 34 (.tmp 1) rfl _ rfl HW.out.1 ?_)
    | (with_reducible refine wpList_alloc_to _ _ rfl 34 rfl _ HW.out.2.2.2 HW.out.2.1 ?_; rw [HW.out.2.2.1]))
  have c0 := P0.out.at HX.out.2.2.1
  go_upto_region 2 with (first
    | (go_at_call 57; refine (hasReqR k0 _).mono ?_; rintro e c1w ⟨rfl, k1⟩; rw [HK1.out]; have P1 := Lib.hid (P0.out.over k1); have c1 := P1.out.at HX.out.2.2.1; clear k1))
  go_upto_region 3 with (first
    | (go_at_call 109; refine (text2_any p g r 2048 _ P1.out.rd (by have := HX.out.2.2.2.2.1; omega)).mono ?_; intro e u2 hq; unfold text2Post at hq; rw [HT1.out.1] at hq; obtain ⟨ue, rfl, hfr, hr, hk⟩ := hq; obtain ⟨A6, c6, G6, rfl, hb6, hn6⟩ := hfr.gives; have P2 := Lib.hid (P1.out.read hr hk HT1.out.2.1); have B6 := Lib.hid (And.intro hb6 (show t.length ≤ 1000000 by have := HT1.out.2.2; have := HX.out.2.2.2.2.1; omega)); have c2 := P2.out.at HX.out.2.2.1; clear hr hk hfr hb6 hn6))
  try clear c0
  clear c1 P0 P1
  by_cases he : r1.e = 0
  · have hg := HG.out he
    have HV := Lib.hid hg
    have he' : (r1.e != 0) = false := by simp [he]
    clear he hg
    go_upto_region 6 with (first
      | (go_at_call 110; refine (err2_any p g r1 _ P2.out.rd).mono ?_; rintro e wy ⟨rfl, rfl⟩)
      | (go_at_call 57; refine (hasReqR k0 _).mono ?_; rintro e c3w ⟨rfl, k1⟩; rw [HK1.out]; have P3 := Lib.hid (P2.out.over k1); have c3 := P3.out.at HX.out.2.2.1; have B7 := Lib.hid (And.intro (B6.out.1.keep k1 (by simp)) B6.out.2); clear k1))
    clear c2 c3
    go_upto_region 7 with (first
      | (go_at_call 31; refine (parseReq2_any G6 t _ _ B7.out.1 B7.out.2).mono ?_; rintro e u3 ⟨cv, G, rfl, i3, n3, k3⟩; have ol : cv.oneCell' = true := (by obtain ⟨A9, c9, g9, rfl, _⟩ := id i3.2; rfl); obtain ⟨C, hC⟩ : ∃ C, rqL (parseRq t).1 cv = C := ⟨_, rfl⟩; have cl : C.length = 37 := (by rw [← hC]; exact rqL_len i3.1); have co : ∀ u ∈ C, u.oneCell' = true := (by rw [← hC]; exact rqL_one _ ol); rw [hC]; obtain ⟨tc, htc⟩ : ∃ b, u3.heap.size = b := ⟨_, rfl⟩; obtain ⟨u4, hu4⟩ : ∃ W, u3.alloc (.cells (rqL rqZero nilV).toArray 26) = W := ⟨_, rfl⟩; have k4 : keepBut [] u3 u4 := hu4 ▸ (keepBut.refl [] u3).alloc _; have r4 : rowAt u4 tc 26 (rqL rqZero nilV).toArray := htc ▸ hu4 ▸ rowAt.new _ _ _; have HU := Lib.hid (And.intro hu4 htc); have HC := Lib.hid (And.intro cl co); have H3 := Lib.hid (And.intro i3 (And.intro n3 (And.intro k3 (And.intro k4 (And.intro r4 (And.intro hC ol)))))); clear i3 n3 k3 hC htc hu4 k4 r4 ol cl co)
      | (with_reducible refine wpList_alloc_to _ _ rfl 26 rfl _ zv_rq HU.out.1 ?_; rw [HU.out.2])
      | (refine wpList_store_mid rfl 26 (.tmp 7) (.tmp 45) rfl tc 0 C.toArray rfl rfl (H3.out.2.2.2.2.1.there (by rw [List.size_toArray, HC.out.1]; exact Nat.le_refl _)) (by rw [List.size_toArray, HC.out.1]; exact info_rq) (all_oneCell_toArray HC.out.2) ?_))
    have P4 := (P3.out.over H3.out.2.2.1).over H3.out.2.2.2.1
    have htb : rb < tc := by have := (P3.out.over H3.out.2.2.1).res.lt; have := HU.out.2; omega
    have k5 : keepBut [tc] u4 (u4.setCells tc 0 C) := (keepBut.refl [tc] u4).setL (.inl (by simp))
    have P5 := P4.far k5 (fun x hx => by simp at hx; omega)
    have r5 : rowAt (u4.setCells tc 0 C) tc 26 C.toArray := by
      have := H3.out.2.2.2.2.1.setL (vs := C) (o := 0)
      rw [putL_all (by rw [List.size_toArray, HC.out.1]; exact (rqL_len rqZero_name).symm)] at this
      exact this
    obtain ⟨q6, hq6⟩ : ∃ x, ({ q with req := (parseRq t).1 } : PK) = x := ⟨_, rfl⟩
    obtain ⟨X6, hX6⟩ : ∃ X, pkL q6 cv nilV nilV nilV nilV = X := ⟨_, rfl⟩
    have ep : putL X0.toArray 7 C = X6.toArray := by rw [← HX.out.2.2.2.2.2.1, ← H3.out.2.2.2.2.2.1, ← hX6, ← hq6]; exact pkL_putR _ _ (HX.out.2.2.2.2.2.2 w []).rn H3.out.1.1
    have HT2 := Lib.hid (P5.row.there (o := 7) (n := C.toArray.size) (by rw [List.size_toArray, List.size_toArray, HC.out.1, HX.out.1]; decide))
    have P6 := P5.setL 7 C ep
    have k6 : keepBut [w.heap.size] (u4.setCells tc 0 C) ((u4.setCells tc 0 C).setCells w.heap.size 7 C) := (keepBut.refl [w.heap.size] _).setL (.inl (by simp))
    have hlo : rb < u3.heap.size := (P3.out.over H3.out.2.2.1).res.lt
    have hG : ∀ y ∈ G, rb < y ∧ y < tc ∧ w.heap.size < y := fun y hy => by
      have h1 := H3.out.2.1 y hy
      have h2 := P3.out.res.lt
      have h3 := P3.out.hi
      have h4 := HU.out.2
      omega
    have i6 := H3.out.1
    have it : itemV ((u4.setCells tc 0 C).setCells w.heap.size 7 C) G (q6, X6) := by
      have i7 := And.intro i6.1 (((i6.2.keep H3.out.2.2.2.1 (by simp)).keep k5 (fun y hy => by have := hG y hy; simp; omega)).keep k6 (fun y hy => by have := hG y hy; simp; omega))
      rw [← hX6, ← hq6]
      exact ⟨_, _, _, _, _, rfl, ⟨i7.1, (HX.out.2.2.2.2.2.2 w G).an, i7.2, (HX.out.2.2.2.2.2.2 _ G).ae, (HX.out.2.2.2.2.2.2 _ G).cc, (HX.out.2.2.2.2.2.2 _ G).vs, (HX.out.2.2.2.2.2.2 _ G).bs⟩⟩
    have nG : newIn w ((u4.setCells tc 0 C).setCells w.heap.size 7 C) G := fun y hy => ⟨by have := hG y hy; omega, by
      have h1 := hG y hy; have h2 := HU.out.2; have h3 := H3.out.2.2.2.1.size; have h4 := k5.size; have h5 := k6.size
      omega⟩
    have HT := Lib.hid (bd_end (S := S) P6 it.len it.one HV.out.2 (fun _ => ⟨by rw [HV.out.1], G, by rw [HV.out.1, hq6]; exact it, nG, fun y hy => by have := hG y hy; omega⟩))
    have HP := Lib.hid (And.intro P6 (And.intro r5 (And.intro it.len (And.intro it.one HX.out.2.2.2.1))))
    clear P4 k5 P5 r5 ep P6 hX6 hq6 k6 htb hlo hG i6 it nG
    go_wp2_with (first
      | (refine wpList_load_mid rfl 26 (.tmp 7) rfl tc 0 rfl _ _ HP.out.2.1.rangeAll Tryz.underlying26 rfl (by rw [HC.out.1]; exact info_rq) ?_)
      | (refine wpList_store_mid rfl 26 (.tmp 48) (.tmp 47) rfl w.heap.size 7 C.toArray rfl rfl (HT2.out) (by rw [List.size_toArray, HC.out.1]; exact info_rq) (all_oneCell_toArray HC.out.2) ?_)
      | (refine wpList_load_mid rfl 34 (.tmp 3) rfl w.heap.size 0 rfl _ _ HP.out.1.row.rangeAll Tryz.underlying34 rfl (by rw [HP.out.2.2.1]; exact info_pk) ?_)
      | (refine wpList_store_mid rfl 34 (.tmp 4) (.tmp 49) rfl rb 0 X6.toArray rfl rfl (HP.out.1.res.there (by rw [List.size_toArray, List.size_toArray, HP.out.2.2.1, HP.out.2.2.2.2]; exact Nat.le_refl _)) (by rw [List.size_toArray, HP.out.2.2.1]; exact info_pk) (all_oneCell_toArray HP.out.2.2.2.1) ?_))
    refine bodyPost_ret (results_row_tmp rfl _ _ rb 34 _ (0, 0) _ rfl (bd_rs HP.out.2.2.1 HP.out.2.2.2.2 HP.out.1.res) Tryz.underlying34 rfl (by rw [List.size_toArray, HP.out.2.2.1]; exact info_pk)) rfl ?_
    exact HT.out
  · have hB := HBd.out he
    have HV := Lib.hid hB
    have HN := Lib.hid he
    have he' : (r1.e != 0) = true := by simp [he]
    clear he hB
    go_upto_region 4 with (first
      | (go_at_call 110; refine (err2_any p g r1 _ P2.out.rd).mono ?_; rintro e wy ⟨rfl, rfl⟩))
    have Pd := Lib.hid (P2.out.over ((keepBut.refl [] _).drew))
    have HF := Lib.hid (And.intro HX.out.1 (And.intro HX.out.2.1 HX.out.2.2.2.1))
    have HT := Lib.hid (bd_end (S := S) Pd.out HF.out.1 HF.out.2.1 HV.out (fun e0 => absurd e0 HN.out))
    refine wp_region_held_drew (S := fun _ => True) (by kernel_rfl) trivial (fun _ => ?_)
    refine wpAnyH_ready (rs := [0, 1]) (by kernel_rfl) (by simp) ?_
    refine AllReadyH.cons (o := ⟨_, _, _, _, _, _⟩) rfl (fun K hK => ?_) (AllReadyH.cons (o := ⟨_, _, _, _, _, _⟩) rfl (fun K hK => ?_) AllReadyH.nil)
    · refine step_load_mid rfl 34 (.tmp 3) rfl w.heap.size 0 rfl X0 _ Pd.out.row.rangeAll Tryz.underlying34 rfl (by rw [HF.out.1]; exact info_pk) ?_
      refine hK.out _ _ trivial (fun _ => ?_)
      clear hK K
      try simp only [Act.put, List.setIfInBounds_toArray, List.set_cons_zero, List.set_cons_succ]
      refine wpAnyH_ready (rs := [1]) (by kernel_rfl) (by simp) ?_
      refine AllReadyH.cons (o := ⟨_, _, _, _, _, _⟩) rfl (fun K hK => ?_) AllReadyH.nil
      go_simp
      refine hK.out _ _ trivial (fun _ => ?_)
      clear hK K
      try simp only [Act.put, List.setIfInBounds_toArray, List.set_cons_zero, List.set_cons_succ]
      refine wpAnyH_ready (rs := [2]) (by kernel_rfl) (by simp) ?_
      refine AllReadyH.cons (o := ⟨_, _, _, _, _, _⟩) rfl (fun K hK => ?_) AllReadyH.nil
      go_simp
      refine (err2_any p g r1 _ Pd.out.rd).mono ?_
      rintro e wy ⟨rfl, rfl⟩
      go_wp2_with fail
      refine hK.out _ _ trivial (fun _ => ?_)
      clear hK K
      try simp only [Act.put, List.setIfInBounds_toArray, List.set_cons_zero, List.set_cons_succ]
      refine wpAnyH_ready (rs := [3]) (by kernel_rfl) (by simp) ?_
      refine AllReadyH.cons (o := ⟨_, _, _, _, _, _⟩) rfl (fun K hK => ?_) AllReadyH.nil
      refine step_store_mid rfl 34 (.tmp 4) (.tmp 35) rfl rb 0 X0.toArray rfl rfl (Pd.out.res.there (by rw [List.size_toArray, List.size_toArray, HF.out.2.2, HF.out.1]; exact Nat.le_refl _)) (by rw [List.size_toArray, HF.out.1]; exact info_pk) (all_oneCell_toArray HF.out.2.1) ?_
      refine hK.out _ _ trivial (fun _ => ?_)
      clear hK K
      try simp only [Act.put, List.setIfInBounds_toArray, List.set_cons_zero, List.set_cons_succ]
      refine wpAnyH_ready (rs := [4]) (by kernel_rfl) (by simp) ?_
      refine AllReadyH.cons (o := ⟨_, _, _, _, _, _⟩) rfl (fun K hK => ?_) AllReadyH.nil
      go_simp
      refine hK.out _ _ trivial (fun _ => ?_)
      clear hK K
      try simp only [Act.put, List.setIfInBounds_toArray, List.set_cons_zero, List.set_cons_succ]
      refine wpAnyH_done (by kernel_rfl) ?_ _
      go_wp2_with fail
      refine bodyPost_ret (results_row_tmp rfl _ _ rb 34 _ (0, 0) _ rfl (bd_rs HF.out.1 HF.out.2.2 Pd.out.res) Tryz.underlying34 rfl (by rw [List.size_toArray, HF.out.1]; exact info_pk)) rfl ?_
      exact HT.out
    · go_simp
      refine hK.out _ _ trivial (fun _ => ?_)
      clear hK K
      try simp only [Act.put, List.setIfInBounds_toArray, List.set_cons_zero, List.set_cons_succ]
      refine wpAnyH_ready (rs := [0, 2]) (by kernel_rfl) (by simp) ?_
      refine AllReadyH.cons (o := ⟨_, _, _, _, _, _⟩) rfl (fun K hK => ?_) (AllReadyH.cons (o := ⟨_, _, _, _, _, _⟩) rfl (fun K hK => ?_) AllReadyH.nil)
      · refine step_load_mid rfl 34 (.tmp 3) rfl w.heap.size 0 rfl X0 _ Pd.out.row.rangeAll Tryz.underlying34 rfl (by rw [HF.out.1]; exact info_pk) ?_
        refine hK.out _ _ trivial (fun _ => ?_)
        clear hK K
        try simp only [Act.put, List.setIfInBounds_toArray, List.set_cons_zero, List.set_cons_succ]
        refine wpAnyH_ready (rs := [2]) (by kernel_rfl) (by simp) ?_
        refine AllReadyH.cons (o := ⟨_, _, _, _, _, _⟩) rfl (fun K hK => ?_) AllReadyH.nil
        go_simp
        refine (err2_any p g r1 _ Pd.out.rd).mono ?_
        rintro e wy ⟨rfl, rfl⟩
        go_wp2_with fail
        refine hK.out _ _ trivial (fun _ => ?_)
        clear hK K
        try simp only [Act.put, List.setIfInBounds_toArray, List.set_cons_zero, List.set_cons_succ]
        refine wpAnyH_ready (rs := [3]) (by kernel_rfl) (by simp) ?_
        refine AllReadyH.cons (o := ⟨_, _, _, _, _, _⟩) rfl (fun K hK => ?_) AllReadyH.nil
        refine step_store_mid rfl 34 (.tmp 4) (.tmp 35) rfl rb 0 X0.toArray rfl rfl (Pd.out.res.there (by rw [List.size_toArray, List.size_toArray, HF.out.2.2, HF.out.1]; exact Nat.le_refl _)) (by rw [List.size_toArray, HF.out.1]; exact info_pk) (all_oneCell_toArray HF.out.2.1) ?_
        refine hK.out _ _ trivial (fun _ => ?_)
        clear hK K
        try simp only [Act.put, List.setIfInBounds_toArray, List.set_cons_zero, List.set_cons_succ]
        refine wpAnyH_ready (rs := [4]) (by kernel_rfl) (by simp) ?_
        refine AllReadyH.cons (o := ⟨_, _, _, _, _, _⟩) rfl (fun K hK => ?_) AllReadyH.nil
        go_simp
        refine hK.out _ _ trivial (fun _ => ?_)
        clear hK K
        try simp only [Act.put, List.setIfInBounds_toArray, List.set_cons_zero, List.set_cons_succ]
        refine wpAnyH_done (by kernel_rfl) ?_ _
        go_wp2_with fail
        refine bodyPost_ret (results_row_tmp rfl _ _ rb 34 _ (0, 0) _ rfl (bd_rs HF.out.1 HF.out.2.2 Pd.out.res) Tryz.underlying34 rfl (by rw [List.size_toArray, HF.out.1]; exact info_pk)) rfl ?_
        exact HT.out
      · go_simp
        refine (err2_any p g r1 _ Pd.out.rd).mono ?_
        rintro e wy ⟨rfl, rfl⟩
        go_wp2_with fail
        refine hK.out _ _ trivial (fun _ => ?_)
        clear hK K
        try simp only [Act.put, List.setIfInBounds_toArray, List.set_cons_zero, List.set_cons_succ]
        refine wpAnyH_ready (rs := [0]) (by kernel_rfl) (by simp) ?_
        refine AllReadyH.cons (o := ⟨_, _, _, _, _, _⟩) rfl (fun K hK => ?_) AllReadyH.nil
        refine step_load_mid rfl 34 (.tmp 3) rfl w.heap.size 0 rfl X0 _ Pd.out.row.rangeAll Tryz.underlying34 rfl (by rw [HF.out.1]; exact info_pk) ?_
        refine hK.out _ _ trivial (fun _ => ?_)
        clear hK K
        try simp only [Act.put, List.setIfInBounds_toArray, List.set_cons_zero, List.set_cons_succ]
        refine wpAnyH_ready (rs := [3]) (by kernel_rfl) (by simp) ?_
        refine AllReadyH.cons (o := ⟨_, _, _, _, _, _⟩) rfl (fun K hK => ?_) AllReadyH.nil
        refine step_store_mid rfl 34 (.tmp 4) (.tmp 35) rfl rb 0 X0.toArray rfl rfl (Pd.out.res.there (by rw [List.size_toArray, List.size_toArray, HF.out.2.2, HF.out.1]; exact Nat.le_refl _)) (by rw [List.size_toArray, HF.out.1]; exact info_pk) (all_oneCell_toArray HF.out.2.1) ?_
        refine hK.out _ _ trivial (fun _ => ?_)
        clear hK K
        try simp only [Act.put, List.setIfInBounds_toArray, List.set_cons_zero, List.set_cons_succ]
        refine wpAnyH_ready (rs := [4]) (by kernel_rfl) (by simp) ?_
        refine AllReadyH.cons (o := ⟨_, _, _, _, _, _⟩) rfl (fun K hK => ?_) AllReadyH.nil
        go_simp
        refine hK.out _ _ trivial (fun _ => ?_)
        clear hK K
        try simp only [Act.put, List.setIfInBounds_toArray, List.set_cons_zero, List.set_cons_succ]
        refine wpAnyH_done (by kernel_rfl) ?_ _
        go_wp2_with fail
        refine bodyPost_ret (results_row_tmp rfl _ _ rb 34 _ (0, 0) _ rfl (bd_rs HF.out.1 HF.out.2.2 Pd.out.res) Tryz.underlying34 rfl (by rw [List.size_toArray, HF.out.1]; exact info_pk)) rfl ?_
        exact HT.out
set_option maxHeartbeats 16000000 in
theorem bodyAn (p g : Nat) (q : PK) (r : RS) (w : World) (hk : q.kind = 2) (hv : ∀ wx F, pkV wx F q nilV nilV nilV nilV nilV) (hr : isR2 w p g r) (hb : r.l.length ≤ 1000000) :
    Calls Tryz.prog 100 #[.pointer (some ⟨p, 0, none⟩), .agg (pkL q nilV nilV nilV nilV nilV).toArray] w (bodyOut (bdS (fieldsP q.kind) (q, r, 0)) p g w) := by
  obtain ⟨k0, hk0⟩ : ∃ k, q.kind = k := ⟨_, rfl⟩
  obtain ⟨S, hS⟩ : ∃ s, bdS (fieldsP q.kind) (q, r, 0) = s := ⟨_, rfl⟩
  obtain ⟨X0, hX0⟩ : ∃ X, pkL q nilV nilV nilV nilV nilV = X := ⟨_, rfl⟩
  have xl : X0.length = 87 := by rw [← hX0]; exact pkL_len (hv w []).rn (hv w []).an
  have xo : ∀ u ∈ X0, u.oneCell' = true := by rw [← hX0]; exact pkL_one rfl rfl rfl rfl rfl
  have xk : X0.toArray[0]? = some (.int .i64 k0) := by rw [← hX0, ← hk0]; rfl
  obtain ⟨Z, hZ⟩ : ∃ Z, pkL pkZero nilV nilV nilV nilV nilV = Z := ⟨_, rfl⟩
  have zv := zv_pk
  have zl := pkZ_len
  rw [hZ] at zv zl
  obtain ⟨t, r1, h1⟩ : ∃ t r1, r.text 2048 = (t, r1) := ⟨_, _, rfl⟩
  have s1 : (r1.l ≠ [] → r.l ≠ []) ∧ t.length ≤ r.l.length := by rw [show r1 = (r.text 2048).2 by rw [h1], show t = (r.text 2048).1 by rw [h1]]; exact ⟨text_left, text_len _ _⟩
  have HG : Hid (r1.e = 0 → S = ({ q with ans := (parseAn t).1 }, r1, (parseAn t).2) ∧ firstP S.2.2 S.2.1.e = (parseAn t).2) := Lib.hid (fun he => by
    have e1 : S = ({ q with ans := (parseAn t).1 }, r1, (parseAn t).2) := by rw [← hS, show fieldsP q.kind = fieldsP 2 by rw [hk], bdS_an]; show (({ q with ans := (rpAn r 0).1 } : PK), (rpAn r 0).2.1, (rpAn r 0).2.2) = _; rw [rpAn_good h1 he]
    exact ⟨e1, by rw [e1]; exact firstP_z he⟩)
  have HBd : Hid (r1.e ≠ 0 → firstP S.2.2 S.2.1.e = r1.e) := Lib.hid (fun he => by
    have e1 : S = ({ q with ans := (rpAn r 0).1 }, (rpAn r 0).2.1, (rpAn r 0).2.2) := by rw [← hS, show fieldsP q.kind = fieldsP 2 by rw [hk], bdS_an]
    rw [e1, rpAn_bad h1 he]; rfl)
  have HT1 := Lib.hid (And.intro h1 s1)
  have HK1 : Hid (reqK.contains k0 = false) := Lib.hid (by rw [← hk0]; rw [hk]; rfl)
  have b2 : (k0 == 2) = true := by rw [← hk0, hk]; rfl
  clear h1 s1 hk hk0
  rw [hS, hX0]
  obtain ⟨w1, hw1⟩ : ∃ W, w.alloc (.cells X0.toArray 34) = W := ⟨_, rfl⟩
  obtain ⟨rb, hrb⟩ : ∃ n, w1.heap.size = n := ⟨_, rfl⟩
  obtain ⟨w2, hw2⟩ : ∃ W, w1.alloc (.cells Z.toArray 34) = W := ⟨_, rfl⟩
  have P0 := Lib.hid (bdA.begin hr hw1 hw2 hrb)
  have HW := Lib.hid (And.intro hw1 (And.intro hw2 (And.intro hrb zv)))
  have HX := Lib.hid (And.intro xl (And.intro xo (And.intro xk (And.intro zl (And.intro hb (And.intro hX0 hv))))))
  have iX : (Tryz.prog.info? 34).map (·.size) = some X0.length := by rw [xl]; exact info_pk
  have HI := Lib.hid iX
  clear xl xo xk zv zl hr hw1 hw2 hrb hb iX hZ hX0 hS hv
  go_enter Tryz.func100, Tryz.ntmps100
  go_upto_region 1 with (first
    | (with_reducible refine wpList_box_to _ _ rfl 34 (.tmp 1) rfl _ rfl HW.out.1 ?_)
    | (with_reducible refine wpList_alloc_to _ _ rfl 34 rfl _ HW.out.2.2.2 HW.out.2.1 ?_; rw [HW.out.2.2.1]))
  have c0 := P0.out.at HX.out.2.2.1
  go_upto_region 2 with (first
    | (go_at_call 57; refine (hasReqR k0 _).mono ?_; rintro e c1w ⟨rfl, k1⟩; rw [HK1.out]; have P1 := Lib.hid (P0.out.over k1); have c1 := P1.out.at HX.out.2.2.1; clear k1))
  go_upto_region 3 with (first
    | (go_at_call 109; refine (text2_any p g r 2048 _ P1.out.rd (by have := HX.out.2.2.2.2.1; omega)).mono ?_; intro e u2 hq; unfold text2Post at hq; rw [HT1.out.1] at hq; obtain ⟨ue, rfl, hfr, hr, hk⟩ := hq; obtain ⟨A6, c6, G6, rfl, hb6, hn6⟩ := hfr.gives; have P2 := Lib.hid (P1.out.read hr hk HT1.out.2.1); have B6 := Lib.hid (And.intro hb6 (show t.length ≤ 1000000 by have := HT1.out.2.2; have := HX.out.2.2.2.2.1; omega)); have c2 := P2.out.at HX.out.2.2.1; clear hr hk hfr hb6 hn6))
  try clear c0
  clear c1 P0 P1
  by_cases he : r1.e = 0
  · have hg := HG.out he
    have HV := Lib.hid hg
    have he' : (r1.e != 0) = false := by simp [he]
    clear he hg
    go_upto_region 10 with (first
      | (go_at_call 110; refine (err2_any p g r1 _ P2.out.rd).mono ?_; rintro e wy ⟨rfl, rfl⟩)
      | (go_at_call 57; refine (hasReqR k0 _).mono ?_; rintro e c3w ⟨rfl, k1⟩; rw [HK1.out]; have P3 := Lib.hid (P2.out.over k1); have c3 := P3.out.at HX.out.2.2.1; have B7 := Lib.hid (And.intro (B6.out.1.keep k1 (by simp)) B6.out.2); clear k1))
    clear c2 c3
    go_upto_region 11 with (first
      | (go_at_call 33; refine (parseAns2_any G6 t _ _ B7.out.1 B7.out.2).mono ?_; rintro e u3 ⟨cv, G, rfl, i3, n3, k3⟩; have ol : cv.oneCell' = true := (by obtain ⟨A9, c9, g9, rfl, _⟩ := id i3.2; rfl); obtain ⟨C, hC⟩ : ∃ C, anL (parseAn t).1 cv = C := ⟨_, rfl⟩; have cl : C.length = 38 := (by rw [← hC]; exact anL_len i3.1); have co : ∀ u ∈ C, u.oneCell' = true := (by rw [← hC]; exact anL_one _ ol); rw [hC]; obtain ⟨tc, htc⟩ : ∃ b, u3.heap.size = b := ⟨_, rfl⟩; obtain ⟨u4, hu4⟩ : ∃ W, u3.alloc (.cells (anL anZero nilV).toArray 28) = W := ⟨_, rfl⟩; have k4 : keepBut [] u3 u4 := hu4 ▸ (keepBut.refl [] u3).alloc _; have r4 : rowAt u4 tc 28 (anL anZero nilV).toArray := htc ▸ hu4 ▸ rowAt.new _ _ _; have HU := Lib.hid (And.intro hu4 htc); have HC := Lib.hid (And.intro cl co); have H3 := Lib.hid (And.intro i3 (And.intro n3 (And.intro k3 (And.intro k4 (And.intro r4 (And.intro hC ol)))))); clear i3 n3 k3 hC htc hu4 k4 r4 ol cl co)
      | (with_reducible refine wpList_alloc_to _ _ rfl 28 rfl _ zv_an HU.out.1 ?_; rw [HU.out.2])
      | (refine wpList_store_mid rfl 28 (.tmp 9) (.tmp 58) rfl tc 0 C.toArray rfl rfl (H3.out.2.2.2.2.1.there (by rw [List.size_toArray, HC.out.1]; exact Nat.le_refl _)) (by rw [List.size_toArray, HC.out.1]; exact info_an) (all_oneCell_toArray HC.out.2) ?_))
    have P4 := (P3.out.over H3.out.2.2.1).over H3.out.2.2.2.1
    have htb : rb < tc := by have := (P3.out.over H3.out.2.2.1).res.lt; have := HU.out.2; omega
    have k5 : keepBut [tc] u4 (u4.setCells tc 0 C) := (keepBut.refl [tc] u4).setL (.inl (by simp))
    have P5 := P4.far k5 (fun x hx => by simp at hx; omega)
    have r5 : rowAt (u4.setCells tc 0 C) tc 28 C.toArray := by
      have := H3.out.2.2.2.2.1.setL (vs := C) (o := 0)
      rw [putL_all (by rw [List.size_toArray, HC.out.1]; exact (anL_len anZero_name).symm)] at this
      exact this
    obtain ⟨q6, hq6⟩ : ∃ x, ({ q with ans := (parseAn t).1 } : PK) = x := ⟨_, rfl⟩
    obtain ⟨X6, hX6⟩ : ∃ X, pkL q6 nilV cv nilV nilV nilV = X := ⟨_, rfl⟩
    have ep : putL X0.toArray 44 C = X6.toArray := by rw [← HX.out.2.2.2.2.2.1, ← H3.out.2.2.2.2.2.1, ← hX6, ← hq6]; exact pkL_putA _ _ (HX.out.2.2.2.2.2.2 w []).rn (HX.out.2.2.2.2.2.2 w []).an H3.out.1.1
    have HT2 := Lib.hid (P5.row.there (o := 44) (n := C.toArray.size) (by rw [List.size_toArray, List.size_toArray, HC.out.1, HX.out.1]; decide))
    have P6 := P5.setL 44 C ep
    have k6 : keepBut [w.heap.size] (u4.setCells tc 0 C) ((u4.setCells tc 0 C).setCells w.heap.size 44 C) := (keepBut.refl [w.heap.size] _).setL (.inl (by simp))
    have hlo : rb < u3.heap.size := (P3.out.over H3.out.2.2.1).res.lt
    have hG : ∀ y ∈ G, rb < y ∧ y < tc ∧ w.heap.size < y := fun y hy => by
      have h1 := H3.out.2.1 y hy
      have h2 := P3.out.res.lt
      have h3 := P3.out.hi
      have h4 := HU.out.2
      omega
    have i6 := H3.out.1
    have it : itemV ((u4.setCells tc 0 C).setCells w.heap.size 44 C) G (q6, X6) := by
      have i7 := And.intro i6.1 (((i6.2.keep H3.out.2.2.2.1 (by simp)).keep k5 (fun y hy => by have := hG y hy; simp; omega)).keep k6 (fun y hy => by have := hG y hy; simp; omega))
      rw [← hX6, ← hq6]
      exact ⟨_, _, _, _, _, rfl, ⟨(HX.out.2.2.2.2.2.2 w G).rn, i7.1, (HX.out.2.2.2.2.2.2 _ G).re, i7.2, (HX.out.2.2.2.2.2.2 _ G).cc, (HX.out.2.2.2.2.2.2 _ G).vs, (HX.out.2.2.2.2.2.2 _ G).bs⟩⟩
    have nG : newIn w ((u4.setCells tc 0 C).setCells w.heap.size 44 C) G := fun y hy => ⟨by have := hG y hy; omega, by
      have h1 := hG y hy; have h2 := HU.out.2; have h3 := H3.out.2.2.2.1.size; have h4 := k5.size; have h5 := k6.size
      omega⟩
    have HT := Lib.hid (bd_end (S := S) P6 it.len it.one HV.out.2 (fun _ => ⟨by rw [HV.out.1], G, by rw [HV.out.1, hq6]; exact it, nG, fun y hy => by have := hG y hy; omega⟩))
    have HP := Lib.hid (And.intro P6 (And.intro r5 (And.intro it.len (And.intro it.one HX.out.2.2.2.1))))
    clear P4 k5 P5 r5 ep P6 hX6 hq6 k6 htb hlo hG i6 it nG
    go_wp2_with (first
      | (refine wpList_load_mid rfl 28 (.tmp 9) rfl tc 0 rfl _ _ HP.out.2.1.rangeAll Tryz.underlying28 rfl (by rw [HC.out.1]; exact info_an) ?_)
      | (refine wpList_store_mid rfl 28 (.tmp 61) (.tmp 60) rfl w.heap.size 44 C.toArray rfl rfl (HT2.out) (by rw [List.size_toArray, HC.out.1]; exact info_an) (all_oneCell_toArray HC.out.2) ?_)
      | (refine wpList_load_mid rfl 34 (.tmp 3) rfl w.heap.size 0 rfl _ _ HP.out.1.row.rangeAll Tryz.underlying34 rfl (by rw [HP.out.2.2.1]; exact info_pk) ?_)
      | (refine wpList_store_mid rfl 34 (.tmp 4) (.tmp 62) rfl rb 0 X6.toArray rfl rfl (HP.out.1.res.there (by rw [List.size_toArray, List.size_toArray, HP.out.2.2.1, HP.out.2.2.2.2]; exact Nat.le_refl _)) (by rw [List.size_toArray, HP.out.2.2.1]; exact info_pk) (all_oneCell_toArray HP.out.2.2.2.1) ?_))
    refine bodyPost_ret (results_row_tmp rfl _ _ rb 34 _ (0, 0) _ rfl (bd_rs HP.out.2.2.1 HP.out.2.2.2.2 HP.out.1.res) Tryz.underlying34 rfl (by rw [List.size_toArray, HP.out.2.2.1]; exact info_pk)) rfl ?_
    exact HT.out
  · have hB := HBd.out he
    have HV := Lib.hid hB
    have HN := Lib.hid he
    have he' : (r1.e != 0) = true := by simp [he]
    clear he hB
    go_upto_region 4 with (first
      | (go_at_call 110; refine (err2_any p g r1 _ P2.out.rd).mono ?_; rintro e wy ⟨rfl, rfl⟩))
    have Pd := Lib.hid (P2.out.over ((keepBut.refl [] _).drew))
    have HF := Lib.hid (And.intro HX.out.1 (And.intro HX.out.2.1 HX.out.2.2.2.1))
    have HT := Lib.hid (bd_end (S := S) Pd.out HF.out.1 HF.out.2.1 HV.out (fun e0 => absurd e0 HN.out))
    refine wp_region_held_drew (S := fun _ => True) (by kernel_rfl) trivial (fun _ => ?_)
    refine wpAnyH_ready (rs := [0, 1]) (by kernel_rfl) (by simp) ?_
    refine AllReadyH.cons (o := ⟨_, _, _, _, _, _⟩) rfl (fun K hK => ?_) (AllReadyH.cons (o := ⟨_, _, _, _, _, _⟩) rfl (fun K hK => ?_) AllReadyH.nil)
    · refine step_load_mid rfl 34 (.tmp 3) rfl w.heap.size 0 rfl X0 _ Pd.out.row.rangeAll Tryz.underlying34 rfl (by rw [HF.out.1]; exact info_pk) ?_
      refine hK.out _ _ trivial (fun _ => ?_)
      clear hK K
      try simp only [Act.put, List.setIfInBounds_toArray, List.set_cons_zero, List.set_cons_succ]
      refine wpAnyH_ready (rs := [1]) (by kernel_rfl) (by simp) ?_
      refine AllReadyH.cons (o := ⟨_, _, _, _, _, _⟩) rfl (fun K hK => ?_) AllReadyH.nil
      go_simp
      refine hK.out _ _ trivial (fun _ => ?_)
      clear hK K
      try simp only [Act.put, List.setIfInBounds_toArray, List.set_cons_zero, List.set_cons_succ]
      refine wpAnyH_ready (rs := [2]) (by kernel_rfl) (by simp) ?_
      refine AllReadyH.cons (o := ⟨_, _, _, _, _, _⟩) rfl (fun K hK => ?_) AllReadyH.nil
      go_simp
      refine (err2_any p g r1 _ Pd.out.rd).mono ?_
      rintro e wy ⟨rfl, rfl⟩
      go_wp2_with fail
      refine hK.out _ _ trivial (fun _ => ?_)
      clear hK K
      try simp only [Act.put, List.setIfInBounds_toArray, List.set_cons_zero, List.set_cons_succ]
      refine wpAnyH_ready (rs := [3]) (by kernel_rfl) (by simp) ?_
      refine AllReadyH.cons (o := ⟨_, _, _, _, _, _⟩) rfl (fun K hK => ?_) AllReadyH.nil
      refine step_store_mid rfl 34 (.tmp 4) (.tmp 35) rfl rb 0 X0.toArray rfl rfl (Pd.out.res.there (by rw [List.size_toArray, List.size_toArray, HF.out.2.2, HF.out.1]; exact Nat.le_refl _)) (by rw [List.size_toArray, HF.out.1]; exact info_pk) (all_oneCell_toArray HF.out.2.1) ?_
      refine hK.out _ _ trivial (fun _ => ?_)
      clear hK K
      try simp only [Act.put, List.setIfInBounds_toArray, List.set_cons_zero, List.set_cons_succ]
      refine wpAnyH_ready (rs := [4]) (by kernel_rfl) (by simp) ?_
      refine AllReadyH.cons (o := ⟨_, _, _, _, _, _⟩) rfl (fun K hK => ?_) AllReadyH.nil
      go_simp
      refine hK.out _ _ trivial (fun _ => ?_)
      clear hK K
      try simp only [Act.put, List.setIfInBounds_toArray, List.set_cons_zero, List.set_cons_succ]
      refine wpAnyH_done (by kernel_rfl) ?_ _
      go_wp2_with fail
      refine bodyPost_ret (results_row_tmp rfl _ _ rb 34 _ (0, 0) _ rfl (bd_rs HF.out.1 HF.out.2.2 Pd.out.res) Tryz.underlying34 rfl (by rw [List.size_toArray, HF.out.1]; exact info_pk)) rfl ?_
      exact HT.out
    · go_simp
      refine hK.out _ _ trivial (fun _ => ?_)
      clear hK K
      try simp only [Act.put, List.setIfInBounds_toArray, List.set_cons_zero, List.set_cons_succ]
      refine wpAnyH_ready (rs := [0, 2]) (by kernel_rfl) (by simp) ?_
      refine AllReadyH.cons (o := ⟨_, _, _, _, _, _⟩) rfl (fun K hK => ?_) (AllReadyH.cons (o := ⟨_, _, _, _, _, _⟩) rfl (fun K hK => ?_) AllReadyH.nil)
      · refine step_load_mid rfl 34 (.tmp 3) rfl w.heap.size 0 rfl X0 _ Pd.out.row.rangeAll Tryz.underlying34 rfl (by rw [HF.out.1]; exact info_pk) ?_
        refine hK.out _ _ trivial (fun _ => ?_)
        clear hK K
        try simp only [Act.put, List.setIfInBounds_toArray, List.set_cons_zero, List.set_cons_succ]
        refine wpAnyH_ready (rs := [2]) (by kernel_rfl) (by simp) ?_
        refine AllReadyH.cons (o := ⟨_, _, _, _, _, _⟩) rfl (fun K hK => ?_) AllReadyH.nil
        go_simp
        refine (err2_any p g r1 _ Pd.out.rd).mono ?_
        rintro e wy ⟨rfl, rfl⟩
        go_wp2_with fail
        refine hK.out _ _ trivial (fun _ => ?_)
        clear hK K
        try simp only [Act.put, List.setIfInBounds_toArray, List.set_cons_zero, List.set_cons_succ]
        refine wpAnyH_ready (rs := [3]) (by kernel_rfl) (by simp) ?_
        refine AllReadyH.cons (o := ⟨_, _, _, _, _, _⟩) rfl (fun K hK => ?_) AllReadyH.nil
        refine step_store_mid rfl 34 (.tmp 4) (.tmp 35) rfl rb 0 X0.toArray rfl rfl (Pd.out.res.there (by rw [List.size_toArray, List.size_toArray, HF.out.2.2, HF.out.1]; exact Nat.le_refl _)) (by rw [List.size_toArray, HF.out.1]; exact info_pk) (all_oneCell_toArray HF.out.2.1) ?_
        refine hK.out _ _ trivial (fun _ => ?_)
        clear hK K
        try simp only [Act.put, List.setIfInBounds_toArray, List.set_cons_zero, List.set_cons_succ]
        refine wpAnyH_ready (rs := [4]) (by kernel_rfl) (by simp) ?_
        refine AllReadyH.cons (o := ⟨_, _, _, _, _, _⟩) rfl (fun K hK => ?_) AllReadyH.nil
        go_simp
        refine hK.out _ _ trivial (fun _ => ?_)
        clear hK K
        try simp only [Act.put, List.setIfInBounds_toArray, List.set_cons_zero, List.set_cons_succ]
        refine wpAnyH_done (by kernel_rfl) ?_ _
        go_wp2_with fail
        refine bodyPost_ret (results_row_tmp rfl _ _ rb 34 _ (0, 0) _ rfl (bd_rs HF.out.1 HF.out.2.2 Pd.out.res) Tryz.underlying34 rfl (by rw [List.size_toArray, HF.out.1]; exact info_pk)) rfl ?_
        exact HT.out
      · go_simp
        refine (err2_any p g r1 _ Pd.out.rd).mono ?_
        rintro e wy ⟨rfl, rfl⟩
        go_wp2_with fail
        refine hK.out _ _ trivial (fun _ => ?_)
        clear hK K
        try simp only [Act.put, List.setIfInBounds_toArray, List.set_cons_zero, List.set_cons_succ]
        refine wpAnyH_ready (rs := [0]) (by kernel_rfl) (by simp) ?_
        refine AllReadyH.cons (o := ⟨_, _, _, _, _, _⟩) rfl (fun K hK => ?_) AllReadyH.nil
        refine step_load_mid rfl 34 (.tmp 3) rfl w.heap.size 0 rfl X0 _ Pd.out.row.rangeAll Tryz.underlying34 rfl (by rw [HF.out.1]; exact info_pk) ?_
        refine hK.out _ _ trivial (fun _ => ?_)
        clear hK K
        try simp only [Act.put, List.setIfInBounds_toArray, List.set_cons_zero, List.set_cons_succ]
        refine wpAnyH_ready (rs := [3]) (by kernel_rfl) (by simp) ?_
        refine AllReadyH.cons (o := ⟨_, _, _, _, _, _⟩) rfl (fun K hK => ?_) AllReadyH.nil
        refine step_store_mid rfl 34 (.tmp 4) (.tmp 35) rfl rb 0 X0.toArray rfl rfl (Pd.out.res.there (by rw [List.size_toArray, List.size_toArray, HF.out.2.2, HF.out.1]; exact Nat.le_refl _)) (by rw [List.size_toArray, HF.out.1]; exact info_pk) (all_oneCell_toArray HF.out.2.1) ?_
        refine hK.out _ _ trivial (fun _ => ?_)
        clear hK K
        try simp only [Act.put, List.setIfInBounds_toArray, List.set_cons_zero, List.set_cons_succ]
        refine wpAnyH_ready (rs := [4]) (by kernel_rfl) (by simp) ?_
        refine AllReadyH.cons (o := ⟨_, _, _, _, _, _⟩) rfl (fun K hK => ?_) AllReadyH.nil
        go_simp
        refine hK.out _ _ trivial (fun _ => ?_)
        clear hK K
        try simp only [Act.put, List.setIfInBounds_toArray, List.set_cons_zero, List.set_cons_succ]
        refine wpAnyH_done (by kernel_rfl) ?_ _
        go_wp2_with fail
        refine bodyPost_ret (results_row_tmp rfl _ _ rb 34 _ (0, 0) _ rfl (bd_rs HF.out.1 HF.out.2.2 Pd.out.res) Tryz.underlying34 rfl (by rw [List.size_toArray, HF.out.1]; exact info_pk)) rfl ?_
        exact HT.out
end Go.Proofs.YthfdkonhjpdflaaGreatDoor
