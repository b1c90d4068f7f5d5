/-
  SP11: SPlay11, EqI, SPlay12, SPlay13, joined.
-/
import Derived.Test.YtkpmlcgbffdloaaDoorSP1
import Derived.Test.YtkpmlcgbffdloaaDoorEqB
import Derived.LoopTactic
import Derived.Deep.QuietTactic
import Derived.BigQuiet
import Derived.BigRegion
section
namespace Go.Proofs.YtkpmlcgbffdloaaDoor
open Go.RowKit
set_option linter.unusedVariables false
set_option maxRecDepth 100000
set_option linter.unusedSimpArgs false

set_option maxHeartbeats 4000000 in
theorem sameReqL (F G : List Nat) (r : RQ) (ev ew : Value) (w : World) (hr : rqV w F r ev) (hs : rqV w G r ew) :
    Calls Tryd.prog 56 #[.agg (rqL r ev).toArray, .agg (rqL r ew).toArray] w fun e w' => e = .returned (.bool true) ∧ keepBut [] w w' := by
  obtain ⟨r1, r2, kk⟩ := rowAt.two w 37 (rqL r ev).toArray (rqL r ew).toArray
  obtain ⟨hn, A, c, g, rfl, _, _, sA, _⟩ := hr
  obtain ⟨_, B, d, h, rfl, _, _, sB, _⟩ := hs
  have H12 := Lib.hid kk
  have sA2 := sA.keep kk (by simp)
  have sB2 := sB.keep kk (by simp)
  have xe := (r1.cell 36).trans (rqL_env hn)
  have ye := (r2.cell 36).trans (rqL_env hn)
  have xr := r1.range (rqL_name r (.slice A r.env.length c))
  have yr := r2.range (rqL_name r (.slice B r.env.length d))
  have x0 := r1.cell 0
  have y0 := r2.cell 0
  have x1 := r1.cell 1
  have y1 := r2.cell 1
  have x2 := r1.cell 2
  have y2 := r2.cell 2
  have x3 := r1.cell 3
  have y3 := r2.cell 3
  rw [show (rqL r (.slice A r.env.length c)).toArray[0]? = some (.int .i64 r.client) from rfl] at x0
  rw [show (rqL r (.slice B r.env.length d)).toArray[0]? = some (.int .i64 r.client) from rfl] at y0
  rw [show (rqL r (.slice A r.env.length c)).toArray[1]? = some (.int .i64 r.num) from rfl] at x1
  rw [show (rqL r (.slice B r.env.length d)).toArray[1]? = some (.int .i64 r.num) from rfl] at y1
  rw [show (rqL r (.slice A r.env.length c)).toArray[2]? = some (.int .i64 r.kind) from rfl] at x2
  rw [show (rqL r (.slice B r.env.length d)).toArray[2]? = some (.int .i64 r.kind) from rfl] at y2
  rw [show (rqL r (.slice A r.env.length c)).toArray[3]? = some (.int .i64 r.version) from rfl] at x3
  rw [show (rqL r (.slice B r.env.length d)).toArray[3]? = some (.int .i64 r.version) from rfl] at y3
  obtain ⟨a0, a1, a2, a3, nr, er⟩ := r
  dsimp only at hn xr yr sA2 sB2 x0 y0 x1 y1 x2 y2 x3 y3 xe ye
  obtain ⟨w2, hw2⟩ : ∃ w2, (w.alloc (.cells (rqL ⟨a0, a1, a2, a3, nr, er⟩ (.slice A er.length c)).toArray 37)).alloc (.cells (rqL ⟨a0, a1, a2, a3, nr, er⟩ (.slice B er.length d)).toArray 37) = w2 := ⟨_, rfl⟩
  have HW := Lib.hid hw2
  have HK := H12.out
  dsimp only at HK
  rw [hw2] at HK sA2 sB2 xe ye xr yr x0 y0 x1 y1 x2 y2 x3 y3
  have HKK := Lib.hid HK
  have HX := Lib.hid (And.intro xr yr)
  have HE := Lib.hid (eqBytes_any A B g h c d er er w2 sA2 sB2)
  have HQ := Lib.hid (name_eql nr nr hn hn w2)
  have HI := Lib.hid (show (Tryd.prog.info? 34).map (·.size) = some (nameL nr).length by rw [nameL_len, hn]; exact infoName)
  have hee : (er == er) = true := by simp
  rw [hee] at HE
  have hdn : decide (nr = nr) = true := by simp
  rw [hdn] at HQ
  clear H12 HK sA2 sB2 sA sB hn xr yr hw2 kk r1 r2 hee hdn
  go_enter Tryd.func56, Tryd.ntmps56
  go_upto_region 1 with (first | (with_reducible refine wpList_box_agg _ rfl 37 (.tmp 0) rfl _ rfl ?_) | (with_reducible refine wpList_box_agg _ rfl 37 (.tmp 1) rfl _ rfl ?_))
  rw [HW.out]
  go_wp2_with (first | (refine wpList_load_mid_g 34 (.tmp 32) rfl w.heap.size 4 rfl (nameL nr) _ HX.out.1 Tryd.underlying34 rfl HI.out ?_ ?_; · rfl) | (refine wpList_load_mid_g 34 (.tmp 34) rfl (w.heap.size + 1) 4 rfl (nameL nr) _ HX.out.2 Tryd.underlying34 rfl HI.out ?_ ?_; · rfl) | (refine wpList_bin_agg_g _ .eql 34 34 (.tmp 33) (.tmp 35) rfl guardName (nameL nr).toArray (nameL nr).toArray rfl rfl _ HQ.out ?_ ?_; · rfl) | (go_at_call 58; refine HE.out.mono ?_; rintro e w' ⟨rfl, rfl⟩))
  go_ret
  exact ⟨rfl, HKK.out⟩
set_option maxHeartbeats 4000000 in
theorem sameAnsR (F G : List Nat) (r : AN) (ev ew : Value) (w : World) (hr : anV w F r ev) (hs : anV w G r ew) :
    Calls Tryd.prog 36 #[.agg (anL r ev).toArray, .agg (anL r ew).toArray] w fun e w' => e = .returned (.bool true) ∧ keepBut [] w w' := by
  obtain ⟨r1, r2, kk⟩ := rowAt.two w 39 (anL r ev).toArray (anL r ew).toArray
  obtain ⟨hn, A, c, g, rfl, _, _, sA, _⟩ := hr
  obtain ⟨_, B, d, h, rfl, _, _, sB, _⟩ := hs
  have H12 := Lib.hid kk
  have sA2 := sA.keep kk (by simp)
  have sB2 := sB.keep kk (by simp)
  have xe := (r1.cell 37).trans (anL_env hn)
  have ye := (r2.cell 37).trans (anL_env hn)
  have xr := r1.range (anL_name r (.slice A r.env.length c))
  have yr := r2.range (anL_name r (.slice B r.env.length d))
  have x0 := r1.cell 0
  have y0 := r2.cell 0
  have x1 := r1.cell 1
  have y1 := r2.cell 1
  have x2 := r1.cell 2
  have y2 := r2.cell 2
  have x3 := r1.cell 3
  have y3 := r2.cell 3
  have x4 := r1.cell 4
  have y4 := r2.cell 4
  rw [show (anL r (.slice A r.env.length c)).toArray[0]? = some (.int .i64 r.client) from rfl] at x0
  rw [show (anL r (.slice B r.env.length d)).toArray[0]? = some (.int .i64 r.client) from rfl] at y0
  rw [show (anL r (.slice A r.env.length c)).toArray[1]? = some (.int .i64 r.num) from rfl] at x1
  rw [show (anL r (.slice B r.env.length d)).toArray[1]? = some (.int .i64 r.num) from rfl] at y1
  rw [show (anL r (.slice A r.env.length c)).toArray[2]? = some (.int .i64 r.code) from rfl] at x2
  rw [show (anL r (.slice B r.env.length d)).toArray[2]? = some (.int .i64 r.code) from rfl] at y2
  rw [show (anL r (.slice A r.env.length c)).toArray[3]? = some (.int .i64 r.version) from rfl] at x3
  rw [show (anL r (.slice B r.env.length d)).toArray[3]? = some (.int .i64 r.version) from rfl] at y3
  rw [show (anL r (.slice A r.env.length c)).toArray[4]? = some (.int .i64 r.epoch) from rfl] at x4
  rw [show (anL r (.slice B r.env.length d)).toArray[4]? = some (.int .i64 r.epoch) from rfl] at y4
  obtain ⟨a0, a1, a2, a3, a4, nr, er⟩ := r
  dsimp only at hn xr yr sA2 sB2 x0 y0 x1 y1 x2 y2 x3 y3 x4 y4 xe ye
  obtain ⟨w2, hw2⟩ : ∃ w2, (w.alloc (.cells (anL ⟨a0, a1, a2, a3, a4, nr, er⟩ (.slice A er.length c)).toArray 39)).alloc (.cells (anL ⟨a0, a1, a2, a3, a4, nr, er⟩ (.slice B er.length d)).toArray 39) = w2 := ⟨_, rfl⟩
  have HW := Lib.hid hw2
  have HK := H12.out
  dsimp only at HK
  rw [hw2] at HK sA2 sB2 xe ye xr yr x0 y0 x1 y1 x2 y2 x3 y3 x4 y4
  have HKK := Lib.hid HK
  have HX := Lib.hid (And.intro xr yr)
  have HE := Lib.hid (eqBytes_any A B g h c d er er w2 sA2 sB2)
  have HQ := Lib.hid (name_eql nr nr hn hn w2)
  have HI := Lib.hid (show (Tryd.prog.info? 34).map (·.size) = some (nameL nr).length by rw [nameL_len, hn]; exact infoName)
  have hee : (er == er) = true := by simp
  rw [hee] at HE
  have hdn : decide (nr = nr) = true := by simp
  rw [hdn] at HQ
  clear H12 HK sA2 sB2 sA sB hn xr yr hw2 kk r1 r2 hee hdn
  go_enter Tryd.func36, Tryd.ntmps36
  go_upto_region 1 with (first | (with_reducible refine wpList_box_agg _ rfl 39 (.tmp 0) rfl _ rfl ?_) | (with_reducible refine wpList_box_agg _ rfl 39 (.tmp 1) rfl _ rfl ?_))
  rw [HW.out]
  go_wp2_with (first | (refine wpList_load_mid_g 34 (.tmp 39) rfl w.heap.size 5 rfl (nameL nr) _ HX.out.1 Tryd.underlying34 rfl HI.out ?_ ?_; · rfl) | (refine wpList_load_mid_g 34 (.tmp 41) rfl (w.heap.size + 1) 5 rfl (nameL nr) _ HX.out.2 Tryd.underlying34 rfl HI.out ?_ ?_; · rfl) | (refine wpList_bin_agg_g _ .eql 34 34 (.tmp 40) (.tmp 42) rfl guardName (nameL nr).toArray (nameL nr).toArray rfl rfl _ HQ.out ?_ ?_; · rfl) | (go_at_call 58; refine HE.out.mono ?_; rintro e w' ⟨rfl, rfl⟩))
  go_ret
  exact ⟨rfl, HKK.out⟩
end Go.Proofs.YtkpmlcgbffdloaaDoor
end

section
namespace Go.Proofs.YtkpmlcgbffdloaaDoor
open Go.RowKit
set_option linter.unusedVariables false
set_option maxRecDepth 100000
set_option linter.unusedSimpArgs false

def held (w : World) (F : List Nat) (v : Value) (l : List Int) : Prop :=
  ∃ (A : Option Addr) (c g : Nat), v = .slice A l.length c ∧ l.length ≤ c ∧ c ≤ maxLen ∧ l.length ≤ 1000000 ∧ reads w A g l.length 1 (l.map (Value.int .i64)) ∧ (l ≠ [] → g ∈ F)
theorem held.keep {S F : List Nat} {w w' : World} {v : Value} {l : List Int} (h : held w F v l) (hk : keepBut S w w') (hS : ∀ y ∈ F, y ∉ S) : held w' F v l := by
  obtain ⟨A, c, g, h1, h2, h3, h4, h5, h6⟩ := h
  exact ⟨A, c, g, h1, h2, h3, h4, h5.keepS hk (fun hn => hS g (h6 (by rintro rfl; simp at hn))), h6⟩
theorem held.cell {w : World} {F : List Nat} {A : Option Addr} {n c : Nat} {l : List Int} (h : held w F (.slice A n c) l) (i : Nat) (hi : i < l.length) :
    n = l.length ∧ n ≤ c ∧ ∃ g o x, A = some ⟨g, o, none⟩ ∧ l[i]? = some x ∧ w.cell? ⟨g, o + i, none⟩ = some (.int .i64 x) := by
  obtain ⟨A', c', g, e, h2, h3, h4, h5, h6⟩ := h
  injection e with e1 e2 e3
  subst e1 e2 e3
  obtain ⟨o, rfl, _, hc⟩ := h5.2 (by omega)
  exact ⟨rfl, h2, g, o, l[i], rfl, List.getElem?_eq_getElem hi, hc i _ (by simp [List.getElem?_eq_getElem hi])⟩

def eqRel (w : World) (l m : List Int) (v5 : Value) (wx : World) : Prop := ∃ k : Nat, k ≤ l.length ∧ v5 = .int .i64 (k : Int) ∧ l.take k = m.take k ∧ keepBut [] w wx

set_option maxHeartbeats 2000000 in
theorem eqInts_any (F G : List Nat) (u v : Value) (l m : List Int) (w : World) (hl : held w F u l) (hm : held w G v m) :
    Calls Tryd.prog 41 #[u, v] w fun e w' => e = .returned (.bool (decide (l = m))) ∧ keepBut [] w w' := by
  obtain ⟨A, c, g, rfl, h2, h3, h4, h5, h6⟩ := id hl
  obtain ⟨B, d, k0, rfl, g2, g3, g4, g5, g6⟩ := id hm
  clear h5 h6 g5 g6
  by_cases hlen : l.length = m.length
  · have t1 : ((l.length : Int) == (m.length : Int)) = true := by simp [hlen]
    have t2 : ((l.length : Int) != (m.length : Int)) = false := by simp [hlen]
    have HL := Lib.hid (And.intro hl (And.intro hm hlen))
    clear hl hm hlen
    unfold maxLen at h3 g3
    go_enter Tryd.func41, Tryd.ntmps41
    go_upto_region 4 with fail
    go_loopw [5] (fun v5 wx => eqRel w l m v5 wx) (fun v5 _ => l.length - (intOf v5).toNat)
    case atStart => exact ⟨0, by omega, rfl, by simp, keepBut.refl _ _⟩
    case round =>
      obtain ⟨k, hk, rfl, htk, kk⟩ := hrel
      have hlen := HL.out.2.2
      by_cases hlt : k < l.length
      · obtain ⟨-, -, ga, oa, x, rfl, hx, cx⟩ := (HL.out.1.keep kk (by simp)).cell k hlt
        obtain ⟨-, -, gb, ob, y, rfl, hy, cy⟩ := (HL.out.2.1.keep kk (by simp)).cell k (by omega)
        have h1 : (k : Int) < (l.length : Int) := by omega
        have h2 : (k : Int) < (m.length : Int) := by omega
        have HT := Lib.hid (And.intro htk (And.intro kk (And.intro hx (And.intro hy hlen))))
        clear htk kk hx hy hlen
        go_upto_region 6 with fail
        go_quiet (fail)
        by_cases hxy : x = y
        · have t3 : (x == y) = true := by simpa using hxy
          have t4 : (x != y) = false := by simpa using hxy
          have HXY := Lib.hid hxy
          clear hxy
          go_wp2
          go_roundw
          case rel => exact ⟨k + 1, by omega, by go_num, by rw [List.take_add_one, List.take_add_one, HT.out.1, HT.out.2.2.1, HT.out.2.2.2.1, HXY.out], HT.out.2.1.drewN _⟩
          case measure => simp [intOf]; omega
        · have t3 : (x == y) = false := by simpa using hxy
          have t4 : (x != y) = true := by simpa using hxy
          have HXY := Lib.hid hxy
          clear hxy
          go_wp2
          go_ret
          have hne : decide (l = m) = false := by
            simp
            intro e
            have e1 := HT.out.2.2.1
            rw [e, HT.out.2.2.2.1] at e1
            exact HXY.out (by injection e1 with e1; exact e1.symm)
          rw [hne]
          exact ⟨rfl, HT.out.2.1.drewN _⟩
      · obtain rfl : k = l.length := by omega
        have he : decide (l = m) = true := by
          simp
          rw [List.take_length] at htk
          rw [htk, hlen, List.take_length]
        have HE := Lib.hid (And.intro he kk)
        clear he kk htk hlen
        go_wp2
        go_ret
        rw [HE.out.1]
        exact ⟨rfl, HE.out.2⟩
  · have t1 : ((l.length : Int) == (m.length : Int)) = false := by simp; omega
    have t2 : ((l.length : Int) != (m.length : Int)) = true := by simp; omega
    have HE := Lib.hid (show decide (l = m) = false by simp; intro e; exact hlen (by rw [e]))
    clear hl hm hlen
    go_enter Tryd.func41, Tryd.ntmps41
    go_wp2
    go_ret
    rw [HE.out]
    exact ⟨rfl, keepBut.refl _ _⟩


theorem intsV.held {w : World} {F : List Nat} {v : Value} {l : List Int} (h : intsV w F v l) (hl : l.length ≤ 1000000) : held w F v l := by
  obtain ⟨A, c, g, h1, h2, h3, h5, h6⟩ := h
  exact ⟨A, c, g, h1, h2, h3, hl, h5, h6⟩
end Go.Proofs.YtkpmlcgbffdloaaDoor
end

section
namespace Go.Proofs.YtkpmlcgbffdloaaDoor
open Go.RowKit
set_option linter.unusedVariables false
set_option maxRecDepth 100000
set_option linter.unusedSimpArgs false

def RQ.cut (r : RQ) : RQ := ⟨r.client, r.num, r.kind, r.version, r.name, r.env.take 300⟩
def cutPost (r : RQ) (G : List Nat) (w : World) (e : Ending) (w' : World) : Prop := ∃ ev', e = .returned (.agg (rqL r.cut ev').toArray) ∧ rqV w' G r.cut ev' ∧ keepBut [] w w'
theorem bytesV.cut {w : World} {F : List Nat} {A : Option Addr} {c n k : Nat} {l : List UInt8} (h : bytesV w F (.slice A n c) l) (hk : k ≤ n) : bytesV w F (.slice A k c) (l.take k) := by
  obtain ⟨A', c', g, e, h2, h3, h5, h6⟩ := h
  injection e with e1 e2 e3
  subst e1 e2 e3
  refine ⟨A, c, g, by rw [List.length_take, Nat.min_eq_left hk], by rw [List.length_take]; omega, h3, h5.take k, fun hne => h6 (fun h0 => hne (by rw [h0]; simp))⟩
theorem rqL_env_set {r : RQ} {ev : Value} (h : r.name.length = 32) (v : Value) : (rqL r ev).set 36 v = rqL r v := by
  have e1 : (nameL r.name).length = 32 := by rw [nameL_len, h]
  unfold rqL
  simp only [List.set_cons_succ]
  rw [List.set_append_right _ _ (by omega), e1]
  rfl
set_option maxHeartbeats 2000000 in
theorem cutReq_short (F : List Nat) (r : RQ) (ev : Value) (w : World) (h : rqV w F r ev) (hl : r.env.length ≤ 300) : Calls Tryd.prog 27 #[.agg (rqL r ev).toArray] w (cutPost r F w) := by
  obtain ⟨hn, hb⟩ := h
  have hbb := hb
  obtain ⟨A, c, g, rfl, h2, h3, h5, h6⟩ := hb
  have hXl : (rqL r (.slice A r.env.length c)).length = 37 := rqL_len hn
  have x36 := rqL_env (ev := .slice A r.env.length c) hn
  have hst := rqL_env_set (ev := .slice A r.env.length c) hn
  obtain ⟨X, hX⟩ : ∃ X, rqL r (.slice A r.env.length c) = X := ⟨_, rfl⟩
  rw [hX] at hXl x36 hst ⊢
  obtain ⟨m, hm⟩ : ∃ m, r.env.length = m := ⟨_, rfl⟩
  rw [hm] at x36 h2 hbb
  have hmm : m ≤ 9223372036854775807 := by unfold maxLen at h3; omega
  have hlen : m ≤ 300 := by rw [hm] at hl; exact hl
  have hQ : rqV w F r.cut (.slice A m c) := ⟨hn, by have h := hbb.cut (k := m) (by omega); rwa [show r.env.take m = r.cut.env from (by show r.env.take m = r.env.take 300; rw [List.take_of_length_le (by omega), List.take_of_length_le (by omega)])] at h⟩
  have HQ := Lib.hid hQ
  obtain ⟨Y, hY⟩ : ∃ Y, rqL r.cut (.slice A m c) = Y := ⟨_, rfl⟩
  have hYl : Y.length = 37 := by rw [← hY]; exact rqL_len hn
  have hYo : ∀ u ∈ Y, u.oneCell' = true := by rw [← hY]; exact rqL_one _ hQ.2.one
  have hXY : X.set 36 (.slice A m c) = rqL r (.slice A m c) := hst _
  obtain ⟨Y0, hY0⟩ : ∃ Y0, rqL r (.slice A m c) = Y0 := ⟨_, rfl⟩
  have hYY : Y0 = Y := by rw [← hY, ← hY0]; rfl
  rw [hY0, hYY] at hXY
  have r1 := rowAt.new w 37 X.toArray
  have k1 := (keepBut.refl [] w).alloc (.cells X.toArray 37)
  obtain ⟨w1, hw1⟩ : ∃ w1, w.alloc (.cells X.toArray 37) = w1 := ⟨_, rfl⟩
  have hs1 : w1.heap.size = w.heap.size + 1 := by rw [← hw1]; exact World.size_alloc ..
  rw [hw1] at r1 k1
  obtain ⟨Z, hZ⟩ : ∃ Z, rqL rqZero nilV = Z := ⟨_, rfl⟩
  have hzv := zv_rq
  rw [hZ] at hzv
  have hZl : Z.length = 37 := by rw [← hZ]; exact rqL_len rqZero_name
  have r2 := rowAt.new w1 37 Z.toArray
  have k2 := (keepBut.refl [] w1).alloc (.cells Z.toArray 37)
  obtain ⟨w2, hw2⟩ : ∃ w2, w1.alloc (.cells Z.toArray 37) = w2 := ⟨_, rfl⟩
  rw [hw2] at r2 k2
  have r1' := k2.row r1 (by simp)
  obtain ⟨b, hbb'⟩ : ∃ b, w.heap.size = b := ⟨_, rfl⟩
  obtain ⟨d, hd⟩ : ∃ d, w1.heap.size = d := ⟨_, rfl⟩
  rw [hbb'] at r1'
  rw [hd] at r2
  have HS := Lib.hid (And.intro hbb' (And.intro hd hs1))
  have y36 : w2.cell? ⟨b, 36, none⟩ = some (.slice A m c) := (r1'.cell 36).trans x36
  have g36 := r1'.free 36
  have rs := r1'.set 36 (.slice A m c)
  have ks : keepBut [] w (w2.setCell ⟨b, 36, none⟩ (.slice A m c)) := (k1.then k2 (by simp)).setCell _ _ (.inr (Nat.le_of_eq hbb'))
  have e : X.toArray.setIfInBounds 36 (.slice A m c) = Y.toArray := by rw [← hXY]; simp
  rw [e] at rs
  have rs2 := ((keepBut.refl [b] w2).setCell ⟨b, 36, none⟩ (.slice A m c) (.inl (by simp))).row r2 (by simp only [List.mem_singleton]; omega)
  have HW := Lib.hid (And.intro hw1 (And.intro hw2 hzv))
  have HY := Lib.hid (And.intro hY (And.intro hYl (And.intro hYo hZl)))
  have HR := Lib.hid (And.intro rs (And.intro rs2 ks))
  clear hw1 hw2 hzv hY hYl hYo hZl rs rs2 ks r1 r1' r2 k1 k2 hX hXl x36 hst hZ hXY hbb hQ h5 h6 hn hs1 e hY0 hYY hm
  go_enter Tryd.func27, Tryd.ntmps27
  go_upto_region 1 with (first
    | (with_reducible refine wpList_box_to _ _ rfl 37 (.tmp 0) rfl _ rfl HW.out.1 ?_)
    | (with_reducible refine wpList_alloc_to _ _ rfl 37 rfl _ HW.out.2.2 HW.out.2.1 ?_))
  try simp only [hbb', hd]
  go_upto_region 2 with fail
  generalize w2.setCell ⟨b, 36, none⟩ (.slice A m c) = w3 at HR ⊢
  clear y36 g36
  have HT := Lib.hid (HR.out.2.1.there (o := 0) (n := 37) (by rw [List.size_toArray, HY.out.2.2.2]; decide))
  go_wp2_with (first
    | (refine wpList_load_mid rfl 37 (.tmp 1) rfl b 0 rfl Y _ HR.out.1.rangeAll Tryd.underlying37 rfl (by rw [HY.out.2.1]; exact info_rqS) ?_)
    | (refine wpList_store_mid rfl 37 (.tmp 2) (.tmp 11) rfl d 0 Y.toArray rfl rfl (by rw [List.size_toArray, HY.out.2.1]; exact HT.out) (by rw [List.size_toArray, HY.out.2.1]; exact info_rqS) (by simpa using HY.out.2.2.1) ?_))
  have r9 := set0 HR.out.2.1 (show Y.length = Z.length by rw [HY.out.2.1, HY.out.2.2.2])
  refine bodyPost_ret (results_cell_row rfl _ _ d 37 _ (0, 0) _ rfl r9 Tryd.underlying37 rfl (by rw [List.size_toArray, HY.out.2.1]; exact info_rqS)) rfl ?_
  have k5 : keepBut [] w (w3.setCells d 0 Y) := HR.out.2.2.setL (.inr (by have := HS.out; omega))
  exact ⟨_, by rw [HY.out.1], ⟨HQ.out.1, HQ.out.2.keep k5 (by simp)⟩, k5⟩
set_option maxHeartbeats 2000000 in
theorem cutReq_long (F : List Nat) (r : RQ) (ev : Value) (w : World) (h : rqV w F r ev) (hl : 300 < r.env.length) : Calls Tryd.prog 27 #[.agg (rqL r ev).toArray] w (cutPost r F w) := by
  obtain ⟨hn, hb⟩ := h
  have hbb := hb
  obtain ⟨A, c, g, rfl, h2, h3, h5, h6⟩ := hb
  have hXl : (rqL r (.slice A r.env.length c)).length = 37 := rqL_len hn
  have x36 := rqL_env (ev := .slice A r.env.length c) hn
  have hst := rqL_env_set (ev := .slice A r.env.length c) hn
  obtain ⟨X, hX⟩ : ∃ X, rqL r (.slice A r.env.length c) = X := ⟨_, rfl⟩
  rw [hX] at hXl x36 hst ⊢
  obtain ⟨m, hm⟩ : ∃ m, r.env.length = m := ⟨_, rfl⟩
  rw [hm] at x36 h2 hbb
  have hmm : m ≤ 9223372036854775807 := by unfold maxLen at h3; omega
  have hlen : 300 < m := by rw [hm] at hl; exact hl
  have hQ : rqV w F r.cut (.slice A 300 c) := ⟨hn, by have h := hbb.cut (k := 300) (by omega); rwa [show r.env.take 300 = r.cut.env from rfl] at h⟩
  have HQ := Lib.hid hQ
  obtain ⟨Y, hY⟩ : ∃ Y, rqL r.cut (.slice A 300 c) = Y := ⟨_, rfl⟩
  have hYl : Y.length = 37 := by rw [← hY]; exact rqL_len hn
  have hYo : ∀ u ∈ Y, u.oneCell' = true := by rw [← hY]; exact rqL_one _ hQ.2.one
  have hXY : X.set 36 (.slice A 300 c) = rqL r (.slice A 300 c) := hst _
  obtain ⟨Y0, hY0⟩ : ∃ Y0, rqL r (.slice A 300 c) = Y0 := ⟨_, rfl⟩
  have hYY : Y0 = Y := by rw [← hY, ← hY0]; rfl
  rw [hY0, hYY] at hXY
  have r1 := rowAt.new w 37 X.toArray
  have k1 := (keepBut.refl [] w).alloc (.cells X.toArray 37)
  obtain ⟨w1, hw1⟩ : ∃ w1, w.alloc (.cells X.toArray 37) = w1 := ⟨_, rfl⟩
  have hs1 : w1.heap.size = w.heap.size + 1 := by rw [← hw1]; exact World.size_alloc ..
  rw [hw1] at r1 k1
  obtain ⟨Z, hZ⟩ : ∃ Z, rqL rqZero nilV = Z := ⟨_, rfl⟩
  have hzv := zv_rq
  rw [hZ] at hzv
  have hZl : Z.length = 37 := by rw [← hZ]; exact rqL_len rqZero_name
  have r2 := rowAt.new w1 37 Z.toArray
  have k2 := (keepBut.refl [] w1).alloc (.cells Z.toArray 37)
  obtain ⟨w2, hw2⟩ : ∃ w2, w1.alloc (.cells Z.toArray 37) = w2 := ⟨_, rfl⟩
  rw [hw2] at r2 k2
  have r1' := k2.row r1 (by simp)
  obtain ⟨b, hbb'⟩ : ∃ b, w.heap.size = b := ⟨_, rfl⟩
  obtain ⟨d, hd⟩ : ∃ d, w1.heap.size = d := ⟨_, rfl⟩
  rw [hbb'] at r1'
  rw [hd] at r2
  have HS := Lib.hid (And.intro hbb' (And.intro hd hs1))
  have y36 : w2.cell? ⟨b, 36, none⟩ = some (.slice A m c) := (r1'.cell 36).trans x36
  have g36 := r1'.free 36
  have rs := r1'.set 36 (.slice A 300 c)
  have ks : keepBut [] w (w2.setCell ⟨b, 36, none⟩ (.slice A 300 c)) := (k1.then k2 (by simp)).setCell _ _ (.inr (Nat.le_of_eq hbb'))
  have e : X.toArray.setIfInBounds 36 (.slice A 300 c) = Y.toArray := by rw [← hXY]; simp
  rw [e] at rs
  have rs2 := ((keepBut.refl [b] w2).setCell ⟨b, 36, none⟩ (.slice A 300 c) (.inl (by simp))).row r2 (by simp only [List.mem_singleton]; omega)
  have HW := Lib.hid (And.intro hw1 (And.intro hw2 hzv))
  have HY := Lib.hid (And.intro hY (And.intro hYl (And.intro hYo hZl)))
  have HR := Lib.hid (And.intro rs (And.intro rs2 ks))
  clear hw1 hw2 hzv hY hYl hYo hZl rs rs2 ks r1 r1' r2 k1 k2 hX hXl x36 hst hZ hXY hbb hQ h5 h6 hn hs1 e hY0 hYY hm
  go_enter Tryd.func27, Tryd.ntmps27
  go_upto_region 1 with (first
    | (with_reducible refine wpList_box_to _ _ rfl 37 (.tmp 0) rfl _ rfl HW.out.1 ?_)
    | (with_reducible refine wpList_alloc_to _ _ rfl 37 rfl _ HW.out.2.2 HW.out.2.1 ?_))
  try simp only [hbb', hd]
  go_upto_region 2 with fail
  generalize w2.setCell ⟨b, 36, none⟩ (.slice A 300 c) = w3 at HR ⊢
  clear y36 g36
  have HT := Lib.hid (HR.out.2.1.there (o := 0) (n := 37) (by rw [List.size_toArray, HY.out.2.2.2]; decide))
  go_wp2_with (first
    | (refine wpList_load_mid rfl 37 (.tmp 1) rfl b 0 rfl Y _ HR.out.1.rangeAll Tryd.underlying37 rfl (by rw [HY.out.2.1]; exact info_rqS) ?_)
    | (refine wpList_store_mid rfl 37 (.tmp 2) (.tmp 11) rfl d 0 Y.toArray rfl rfl (by rw [List.size_toArray, HY.out.2.1]; exact HT.out) (by rw [List.size_toArray, HY.out.2.1]; exact info_rqS) (by simpa using HY.out.2.2.1) ?_))
  have r9 := set0 HR.out.2.1 (show Y.length = Z.length by rw [HY.out.2.1, HY.out.2.2.2])
  refine bodyPost_ret (results_cell_row rfl _ _ d 37 _ (0, 0) _ rfl r9 Tryd.underlying37 rfl (by rw [List.size_toArray, HY.out.2.1]; exact info_rqS)) rfl ?_
  have k5 : keepBut [] w (w3.setCells d 0 Y) := HR.out.2.2.setL (.inr (by have := HS.out; omega))
  exact ⟨_, by rw [HY.out.1], ⟨HQ.out.1, HQ.out.2.keep k5 (by simp)⟩, k5⟩
theorem cutReq_any (F : List Nat) (r : RQ) (ev : Value) (w : World) (h : rqV w F r ev) : Calls Tryd.prog 27 #[.agg (rqL r ev).toArray] w (cutPost r F w) := by
  by_cases hl : r.env.length ≤ 300
  · exact cutReq_short F r ev w h hl
  · exact cutReq_long F r ev w h (by omega)
theorem RQ.cut_len (r : RQ) : r.cut.env.length ≤ 300 := by
  show (r.env.take 300).length ≤ 300
  rw [List.length_take]
  omega
end Go.Proofs.YtkpmlcgbffdloaaDoor
end

section
namespace Go.Proofs.YtkpmlcgbffdloaaDoor
open Go.RowKit
set_option linter.unusedVariables false
set_option maxRecDepth 100000
set_option linter.unusedSimpArgs false

/-- a packet of a session's -/
structure PK.plain (p : PK) : Prop where
  num : p.num = 0
  seq : p.seq = 0
  ballot : p.ballot = 0
  votes : p.votes = []
  bytes : p.bytes = []
theorem pkL_votes {p : PK} {ev av cv vv bw : Value} (h1 : p.req.name.length = 32) (h2 : p.ans.name.length = 32) : (pkL p ev av cv vv bw).toArray[85]? = some vv ∧ (pkL p ev av cv vv bw).toArray[86]? = some bw :=
  ⟨pkL_tail h1 h2 3 vv rfl, pkL_tail h1 h2 4 bw rfl⟩
theorem step_alloc_to {P : Program} (w w' : World) {ops : Array Oper} {o : Oper} {a : Act} {K : Act → World → Prop} {Q : Exit → Act → World → Prop} {E : Prop} (hgd : o.guard = none) (t : TypeId) (ho : o.op = .alloc t)
    (zs : Array Value) (hz : (P.info? t).bind (·.zero) = some (.agg zs)) (hw : w.alloc (.cells zs t) = w') (h : K (a.put o.dst (.pointer (some ⟨w.heap.size, 0, none⟩))) w') : if Region.wanted o (yielded ops a.tmps) = true then Oper.wp P o a w K Q else E := by
  subst hw
  rw [if_pos (by simp [Region.wanted, hgd])]
  cases hi : P.info? t with
  | none => rw [hi] at hz; cases hz
  | some i =>
    rw [hi] at hz
    have hz' : i.zero = some (.agg zs) := hz
    unfold Oper.wp execOp
    simp only [ho]
    simpa [Instr.alloc, zeroValue, typeInfo, hi, hz', newVar, newRow, Value.cells, go_sem] using h
set_option maxHeartbeats 4000000 in
theorem samePackets_any (u v : Value) (D E : List (PK × List Value)) (K J : List Nat) (w : World) (hD : ownsO w 44 87 u D.length (flatP D)) (hE : ownsO w 44 87 v E.length (flatP E)) (iD : ∀ t ∈ D, itemV w K t) (iE : ∀ t ∈ E, itemV w J t)
    (hs : D.map (·.1) = E.map (·.1)) (hp : ∀ t ∈ D, t.1.plain) (hl : D.length ≤ 1000) :
    Calls Tryd.prog 31 #[u, v] w fun e w' => e = .returned (.bool true) ∧ keepBut [] w w' := by
  have hDE : E.length = D.length := by have := congrArg List.length hs; simpa using this.symm
  have H0 := Lib.hid (And.intro hD (And.intro hE (And.intro iD (And.intro iE (And.intro hs hp)))))
  obtain ⟨A, c, rfl, hc1, hc2, _⟩ := hD.form
  obtain ⟨B, d, rfl, hd1, hd2, _⟩ := hE.form
  obtain ⟨n0, hn0⟩ : ∃ n, D.length = n := ⟨_, rfl⟩
  have hE0 : E.length = n0 := by omega
  rw [hn0, hE0]
  have hnm : n0 ≤ 9223372036854775807 := by omega
  have HL := Lib.hid (And.intro hn0 (And.intro hE0 hl))
  clear hD hE iD iE hs hp hl hc1 hc2 hn0 hE0 hDE hd1 hd2
  go_enter Tryd.func31, Tryd.ntmps31
  go_wp2_with fail
  go_loopw [5] (fun v5 wx => ∃ i : Nat, i ≤ n0 ∧ v5 = .int .i64 (i : Int) ∧ Hid (keepBut [] w wx)) (fun v5 _ => n0 - (intOf v5).toNat)
  case atStart => exact ⟨0, Nat.zero_le _, rfl, Lib.hid (keepBut.refl _ _)⟩
  case round =>
    obtain ⟨i, hil, rfl, HK⟩ := hrel
    by_cases hlt : i < n0
    · have hlt' : i < D.length := by rw [HL.out.1]; exact hlt
      have hltE : i < E.length := by rw [HL.out.2.1]; exact hlt
      obtain ⟨t, ht⟩ : ∃ t, D[i]? = some t := ⟨D[i], List.getElem?_eq_getElem hlt'⟩
      obtain ⟨r, hr⟩ : ∃ r, E[i]? = some r := ⟨E[i], List.getElem?_eq_getElem hltE⟩
      obtain ⟨t1, t2⟩ := t
      obtain ⟨r1, r2⟩ := r
      have hrt : r1 = t1 := by
        have h1 : (D.map (·.1))[i]? = some t1 := by rw [List.getElem?_map, ht]; rfl
        have h2 : (E.map (·.1))[i]? = some r1 := by rw [List.getElem?_map, hr]; rfl
        rw [H0.out.2.2.2.2.1, h2] at h1
        exact (Option.some.inj h1)
      subst hrt
      have kk := HK.out
      obtain ⟨g, off, c', hv, hg, hcell⟩ := (H0.out.1.keep kk (by simp)).item (fun t ht => (H0.out.2.2.1 t ht).keep kk (by simp)) ht
      injection hv with e1 e2 e3
      subst e1
      obtain ⟨g', off', d', hv', hg', hcell'⟩ := (H0.out.2.1.keep kk (by simp)).item (fun t ht => (H0.out.2.2.2.1 t ht).keep kk (by simp)) hr
      injection hv' with e1' e2' e3'
      subst e1'
      obtain ⟨ev, av, cv, vv, bw, f1, f2⟩ := (H0.out.2.2.1 _ (List.mem_of_getElem? ht)).keep kk (by simp)
      obtain ⟨ev', av', cv', vv', bw', f1', f2'⟩ := (H0.out.2.2.2.1 _ (List.mem_of_getElem? hr)).keep kk (by simp)
      dsimp only at f1 f1' f2 f2' hcell hcell'
      subst f1 f1'
      have hp := H0.out.2.2.2.2.2 _ (List.mem_of_getElem? ht)
      dsimp only at hp
      have hi2 : (i : Int) < (n0 : Int) := by omega
      have hi0 : (0 : Int) ≤ (i : Int) := by omega
      have hwi : IntKind.i64.wrap ((i : Int) + 1) = (i : Int) + 1 := by rw [IntKind.wrap_i64]; have := HL.out; omega
      have hXl := pkL_len (p := r1) (ev := ev) (av := av) (cv := cv) (vv := vv) (bw := bw) f2.rn f2.an
      have hYl := pkL_len (p := r1) (ev := ev') (av := av') (cv := cv') (vv := vv') (bw := bw') f2.rn f2.an
      have hXo : ∀ u ∈ pkL r1 ev av cv vv bw, u.oneCell' = true := pkL_one f2.re.one f2.ae.one f2.cc.one f2.vs.one f2.bs.one
      have hYo : ∀ u ∈ pkL r1 ev' av' cv' vv' bw', u.oneCell' = true := pkL_one f2'.re.one f2'.ae.one f2'.cc.one f2'.vs.one f2'.bs.one
      obtain ⟨X, hX⟩ : ∃ X, pkL r1 ev av cv vv bw = X := ⟨_, rfl⟩
      obtain ⟨Y, hY⟩ : ∃ Y, pkL r1 ev' av' cv' vv' bw' = Y := ⟨_, rfl⟩
      rw [hX] at hcell hXl hXo
      rw [hY] at hcell' hYl hYo
      obtain ⟨Z, hZ⟩ : ∃ Z, pkL pkZero nilV nilV nilV nilV nilV = Z := ⟨_, rfl⟩
      have HZ := Lib.hid (show (Tryd.prog.info? 44).bind (·.zero) = some (.agg Z.toArray) ∧ Z.length = 87 by rw [← hZ]; exact ⟨zv_pk, pkZ_len⟩)
      have HP := Lib.hid (show ∀ w', keepBut [] wr w' → w'.rangeAt g (off + i * 87) X ∧ w'.rangeAt g' (off' + i * 87) Y from fun w' hk => ⟨rangeAt.keep (fun j v hv => hcell j v hv) hk (by simp), rangeAt.keep (fun j v hv => hcell' j v hv) hk (by simp)⟩)
      have HX := Lib.hid (And.intro hX (And.intro hXl (And.intro hXo (show (Tryd.prog.info? 44).map (·.size) = some X.length by rw [hXl]; exact info_pkS))))
      have HY := Lib.hid (And.intro hY (And.intro hYl (And.intro hYo (show (Tryd.prog.info? 44).map (·.size) = some Y.length by rw [hYl]; exact info_pkS))))
      have HV := Lib.hid (And.intro f2 (And.intro f2' hp))
      clear hcell hcell' hX hY hXl hYl hXo hYo hZ f2 f2' hp kk ht hr hlt' hltE hg hg' e2 e3 e2' e3'
      go_upto_region 6 with fail
      go_cut [6, 7] (fun v6 v7 wx => ∃ bx cy : Nat, v6 = .pointer (some ⟨bx, 0, none⟩) ∧ v7 = .pointer (some ⟨cy, 0, none⟩) ∧ rowAt wx bx 44 X.toArray ∧ rowAt wx cy 44 Y.toArray ∧ keepBut [] wr wx)
      case first =>
        have s1 : keepBut [] wr wr.drew := (keepBut.refl [] wr).drew
        refine wp_region_held_drew (S := keepBut [] wr) (by kernel_rfl) s1 (fun _ => ?_)
        obtain ⟨W0, hW0⟩ : ∃ W, wr.drew = W := ⟨_, rfl⟩
        rw [hW0] at s1 ⊢
        clear hW0
        refine wpAnyH_take (i := 0) (oi := ⟨_, _, _, _, _, _⟩) (v := ?_) rfl (by kernel_rfl) (by kernel_rfl) (by kernel_rfl) (fun _ _ _ h => h) (Or.inl ⟨by rfl, ?_⟩) s1 ?_
        rotate_left
        · intro w' hSw; clear hSw; (go_simp; try with_reducible rfl)
        try simp only [Act.put, List.setIfInBounds_toArray, List.set_cons_zero, List.set_cons_succ]
        refine wpAnyH_take (i := 1) (oi := ⟨_, _, _, _, _, _⟩) (v := ?_) rfl (by kernel_rfl) (by kernel_rfl) (by kernel_rfl) (fun _ _ _ h => h) (Or.inl ⟨by rfl, ?_⟩) s1 ?_
        rotate_left
        · intro w' hSw; clear hSw; (go_simp; try with_reducible rfl)
        try simp only [Act.put, List.setIfInBounds_toArray, List.set_cons_zero, List.set_cons_succ]
        refine wpAnyH_take (i := 2) (oi := ⟨_, _, _, _, _, _⟩) (v := ?_) rfl (by kernel_rfl) (by kernel_rfl) (by kernel_rfl) (fun _ _ _ h => h) (Or.inl ⟨by rfl, ?_⟩) s1 ?_
        rotate_left
        · intro w' hSw; clear hSw; (go_simp; try with_reducible rfl)
        try simp only [Act.put, List.setIfInBounds_toArray, List.set_cons_zero, List.set_cons_succ]
        refine wpAnyH_take (i := 3) (oi := ⟨_, _, _, _, _, _⟩) (v := .agg X.toArray) rfl (by kernel_rfl) (by kernel_rfl) (by kernel_rfl) (fun _ _ _ h => h) (yieldsIf_mid 44 (.tmp 21) rfl g (off + i * 87) rfl X _ (fun w' hSw => (HP.out w' hSw).1) Tryd.underlying44 rfl HX.out.2.2.2 ?_) s1 ?_
        · rfl
        try simp only [Act.put, List.setIfInBounds_toArray, List.set_cons_zero, List.set_cons_succ]
        refine wpAnyH_take (i := 4) (oi := ⟨_, _, _, _, _, _⟩) (v := ?_) rfl (by kernel_rfl) (by kernel_rfl) (by kernel_rfl) (fun _ _ _ h => h) (Or.inl ⟨by rfl, ?_⟩) s1 ?_
        rotate_left
        · intro w' hSw; clear hSw; (go_simp; try with_reducible rfl)
        try simp only [Act.put, List.setIfInBounds_toArray, List.set_cons_zero, List.set_cons_succ]
        refine wpAnyH_take (i := 5) (oi := ⟨_, _, _, _, _, _⟩) (v := ?_) rfl (by kernel_rfl) (by kernel_rfl) (by kernel_rfl) (fun _ _ _ h => h) (Or.inl ⟨by rfl, ?_⟩) s1 ?_
        rotate_left
        · intro w' hSw; clear hSw; (go_simp; try with_reducible rfl)
        try simp only [Act.put, List.setIfInBounds_toArray, List.set_cons_zero, List.set_cons_succ]
        refine wpAnyH_take (i := 6) (oi := ⟨_, _, _, _, _, _⟩) (v := ?_) rfl (by kernel_rfl) (by kernel_rfl) (by kernel_rfl) (fun _ _ _ h => h) (Or.inl ⟨by rfl, ?_⟩) s1 ?_
        rotate_left
        · intro w' hSw; clear hSw; (go_simp; try with_reducible rfl)
        try simp only [Act.put, List.setIfInBounds_toArray, List.set_cons_zero, List.set_cons_succ]
        refine wpAnyH_take (i := 7) (oi := ⟨_, _, _, _, _, _⟩) (v := .agg Y.toArray) rfl (by kernel_rfl) (by kernel_rfl) (by kernel_rfl) (fun _ _ _ h => h) (yieldsIf_mid 44 (.tmp 25) rfl g' (off' + i * 87) rfl Y _ (fun w' hSw => (HP.out w' hSw).2) Tryd.underlying44 rfl HY.out.2.2.2 ?_) s1 ?_
        · rfl
        try simp only [Act.put, List.setIfInBounds_toArray, List.set_cons_zero, List.set_cons_succ]
        refine wpAnyH_ready (rs := [8, 9]) (by kernel_rfl) (by simp) ?_
        refine AllReadyH.cons (o := ⟨_, _, _, _, _, _⟩) rfl (fun KK hKK => ?_) (AllReadyH.cons (o := ⟨_, _, _, _, _, _⟩) rfl (fun KK hKK => ?_) AllReadyH.nil)
        · skip
          obtain ⟨W1, hW1⟩ : ∃ W, W0.alloc (.cells Z.toArray 44) = W := ⟨_, rfl⟩
          refine step_alloc_to _ _ rfl 44 rfl _ HZ.out.1 hW1 ?_
          have rW1 : rowAt W1 W0.heap.size 44 Z.toArray := by rw [← hW1]; exact rowAt.new _ _ _
          have qW1 : keepBut [] W0 W1 := by rw [← hW1]; exact (keepBut.refl [] _).alloc _
          have s2 := s1.then qW1 (by simp)
          refine hKK.out _ _ s2 (fun _ => ?_)
          clear hKK KK
          try simp only [Act.put, List.setIfInBounds_toArray, List.set_cons_zero, List.set_cons_succ]
          refine wpAnyH_ready (rs := [9]) (by kernel_rfl) (by simp) ?_
          refine AllReadyH.cons (o := ⟨_, _, _, _, _, _⟩) rfl (fun KK hKK => ?_) AllReadyH.nil
          obtain ⟨W2, hW2⟩ : ∃ W, W1.alloc (.cells Z.toArray 44) = W := ⟨_, rfl⟩
          refine step_alloc_to _ _ rfl 44 rfl _ HZ.out.1 hW2 ?_
          have rW2 : rowAt W2 W1.heap.size 44 Z.toArray := by rw [← hW2]; exact rowAt.new _ _ _
          have qW2 : keepBut [] W1 W2 := by rw [← hW2]; exact (keepBut.refl [] _).alloc _
          have s3 := s2.then qW2 (by simp)
          refine hKK.out _ _ s3 (fun _ => ?_)
          clear hKK KK
          try simp only [Act.put, List.setIfInBounds_toArray, List.set_cons_zero, List.set_cons_succ]
          obtain ⟨b0, hb0⟩ : ∃ b, W0.heap.size = b := ⟨_, rfl⟩
          obtain ⟨b1, hb1⟩ : ∃ b, W1.heap.size = b := ⟨_, rfl⟩
          have l0 := rW1.lt
          rw [hb0] at l0 rW1 ⊢
          rw [hb1] at l0 rW2 ⊢
          have z1 := s1.size
          rw [hb0] at z1
          have rW1b := qW2.row rW1 (by simp)
          refine wpAnyH_ready (rs := [10]) (by kernel_rfl) (by simp) ?_
          refine AllReadyH.cons (o := ⟨_, _, _, _, _, _⟩) rfl (fun KK hKK => ?_) AllReadyH.nil
          have T10 := Lib.hid (rW1b.there (o := 0) (n := 87) (by rw [List.size_toArray, HZ.out.2]; decide))
          refine step_store_mid rfl 44 (.tmp 6) (.tmp 22) rfl b0 0 X.toArray rfl (by rfl) (by rw [List.size_toArray, HX.out.2.1]; exact T10.out) (by rw [List.size_toArray, HX.out.2.1]; exact info_pkS) (by simpa using HX.out.2.2.1) ?_
          have n10 := set0 rW1b (show X.length = Z.length by rw [HX.out.2.1, HZ.out.2])
          have k10 : keepBut [b0] W2 (W2.setCells b0 0 X) := (keepBut.refl _ _).setL (.inl (by simp))
          have s4 := s3.then k10 (fun y hy => .inr (by simp only [List.mem_singleton] at hy; subst hy; omega))
          refine hKK.out _ _ s4 (fun _ => ?_)
          clear hKK KK
          try simp only [Act.put, List.setIfInBounds_toArray, List.set_cons_zero, List.set_cons_succ]
          have y10 := k10.row rW2 (by simp only [List.mem_singleton]; omega)
          refine wpAnyH_ready (rs := [11]) (by kernel_rfl) (by simp) ?_
          refine AllReadyH.cons (o := ⟨_, _, _, _, _, _⟩) rfl (fun KK hKK => ?_) AllReadyH.nil
          have T11 := Lib.hid (y10.there (o := 0) (n := 87) (by rw [List.size_toArray, HZ.out.2]; decide))
          refine step_store_mid rfl 44 (.tmp 7) (.tmp 26) rfl b1 0 Y.toArray rfl (by rfl) (by rw [List.size_toArray, HY.out.2.1]; exact T11.out) (by rw [List.size_toArray, HY.out.2.1]; exact info_pkS) (by simpa using HY.out.2.2.1) ?_
          have n11 := set0 y10 (show Y.length = Z.length by rw [HY.out.2.1, HZ.out.2])
          have k11 : keepBut [b1] (W2.setCells b0 0 X) ((W2.setCells b0 0 X).setCells b1 0 Y) := (keepBut.refl _ _).setL (.inl (by simp))
          have s5 := s4.then k11 (fun y hy => .inr (by simp only [List.mem_singleton] at hy; subst hy; omega))
          refine hKK.out _ _ s5 (fun _ => ?_)
          clear hKK KK
          try simp only [Act.put, List.setIfInBounds_toArray, List.set_cons_zero, List.set_cons_succ]
          refine wpAnyH_done (by kernel_rfl) ?_ _
          go_wp2_with fail
          go_meet
          exact ⟨_, _, rfl, rfl, k11.row n10 (by simp only [List.mem_singleton]; omega), n11, s5⟩
        · skip
          obtain ⟨W1, hW1⟩ : ∃ W, W0.alloc (.cells Z.toArray 44) = W := ⟨_, rfl⟩
          refine step_alloc_to _ _ rfl 44 rfl _ HZ.out.1 hW1 ?_
          have rW1 : rowAt W1 W0.heap.size 44 Z.toArray := by rw [← hW1]; exact rowAt.new _ _ _
          have qW1 : keepBut [] W0 W1 := by rw [← hW1]; exact (keepBut.refl [] _).alloc _
          have s2 := s1.then qW1 (by simp)
          refine hKK.out _ _ s2 (fun _ => ?_)
          clear hKK KK
          try simp only [Act.put, List.setIfInBounds_toArray, List.set_cons_zero, List.set_cons_succ]
          refine wpAnyH_ready (rs := [8]) (by kernel_rfl) (by simp) ?_
          refine AllReadyH.cons (o := ⟨_, _, _, _, _, _⟩) rfl (fun KK hKK => ?_) AllReadyH.nil
          obtain ⟨W2, hW2⟩ : ∃ W, W1.alloc (.cells Z.toArray 44) = W := ⟨_, rfl⟩
          refine step_alloc_to _ _ rfl 44 rfl _ HZ.out.1 hW2 ?_
          have rW2 : rowAt W2 W1.heap.size 44 Z.toArray := by rw [← hW2]; exact rowAt.new _ _ _
          have qW2 : keepBut [] W1 W2 := by rw [← hW2]; exact (keepBut.refl [] _).alloc _
          have s3 := s2.then qW2 (by simp)
          refine hKK.out _ _ s3 (fun _ => ?_)
          clear hKK KK
          try simp only [Act.put, List.setIfInBounds_toArray, List.set_cons_zero, List.set_cons_succ]
          obtain ⟨b0, hb0⟩ : ∃ b, W0.heap.size = b := ⟨_, rfl⟩
          obtain ⟨b1, hb1⟩ : ∃ b, W1.heap.size = b := ⟨_, rfl⟩
          have l0 := rW1.lt
          rw [hb0] at l0 rW1 ⊢
          rw [hb1] at l0 rW2 ⊢
          have z1 := s1.size
          rw [hb0] at z1
          have rW1b := qW2.row rW1 (by simp)
          refine wpAnyH_ready (rs := [10]) (by kernel_rfl) (by simp) ?_
          refine AllReadyH.cons (o := ⟨_, _, _, _, _, _⟩) rfl (fun KK hKK => ?_) AllReadyH.nil
          have T10 := Lib.hid (rW2.there (o := 0) (n := 87) (by rw [List.size_toArray, HZ.out.2]; decide))
          refine step_store_mid rfl 44 (.tmp 6) (.tmp 22) rfl b1 0 X.toArray rfl (by rfl) (by rw [List.size_toArray, HX.out.2.1]; exact T10.out) (by rw [List.size_toArray, HX.out.2.1]; exact info_pkS) (by simpa using HX.out.2.2.1) ?_
          have n10 := set0 rW2 (show X.length = Z.length by rw [HX.out.2.1, HZ.out.2])
          have k10 : keepBut [b1] W2 (W2.setCells b1 0 X) := (keepBut.refl _ _).setL (.inl (by simp))
          have s4 := s3.then k10 (fun y hy => .inr (by simp only [List.mem_singleton] at hy; subst hy; omega))
          refine hKK.out _ _ s4 (fun _ => ?_)
          clear hKK KK
          try simp only [Act.put, List.setIfInBounds_toArray, List.set_cons_zero, List.set_cons_succ]
          have y10 := k10.row rW1b (by simp only [List.mem_singleton]; omega)
          refine wpAnyH_ready (rs := [11]) (by kernel_rfl) (by simp) ?_
          refine AllReadyH.cons (o := ⟨_, _, _, _, _, _⟩) rfl (fun KK hKK => ?_) AllReadyH.nil
          have T11 := Lib.hid (y10.there (o := 0) (n := 87) (by rw [List.size_toArray, HZ.out.2]; decide))
          refine step_store_mid rfl 44 (.tmp 7) (.tmp 26) rfl b0 0 Y.toArray rfl (by rfl) (by rw [List.size_toArray, HY.out.2.1]; exact T11.out) (by rw [List.size_toArray, HY.out.2.1]; exact info_pkS) (by simpa using HY.out.2.2.1) ?_
          have n11 := set0 y10 (show Y.length = Z.length by rw [HY.out.2.1, HZ.out.2])
          have k11 : keepBut [b0] (W2.setCells b1 0 X) ((W2.setCells b1 0 X).setCells b0 0 Y) := (keepBut.refl _ _).setL (.inl (by simp))
          have s5 := s4.then k11 (fun y hy => .inr (by simp only [List.mem_singleton] at hy; subst hy; omega))
          refine hKK.out _ _ s5 (fun _ => ?_)
          clear hKK KK
          try simp only [Act.put, List.setIfInBounds_toArray, List.set_cons_zero, List.set_cons_succ]
          refine wpAnyH_done (by kernel_rfl) ?_ _
          go_wp2_with fail
          go_meet
          exact ⟨_, _, rfl, rfl, k11.row n10 (by simp only [List.mem_singleton]; omega), n11, s5⟩
      case rest =>
        obtain ⟨bx, cy, rfl, rfl, rX, rY, k6⟩ := hcut
        obtain ⟨f2, f2', hp⟩ := HV.out
        obtain ⟨VA, Vc, _, _, rfl, _⟩ := f2.vs
        obtain ⟨BA, Bc, _, rfl, _⟩ := f2.bs
        have hXl := HX.out.2.1
        have hX := HX.out.1
        have hY := HY.out.1
        rw [hp.votes, hp.bytes] at hX
        have e85 := (pkL_votes (p := r1) (ev := ev) (av := av) (cv := cv) (vv := .slice VA ([] : List VT).length Vc) (bw := .slice BA ([] : List UInt8).length Bc) f2.rn f2.an).1
        have e86 := (pkL_votes (p := r1) (ev := ev) (av := av) (cv := cv) (vv := .slice VA ([] : List VT).length Vc) (bw := .slice BA ([] : List UInt8).length Bc) f2.rn f2.an).2
        have q0 : wc.cell? ⟨bx, 0, none⟩ = some (.int .i64 r1.kind) := (rX.cell 0).trans (by rw [← hX]; rfl)
        have q1 : wc.cell? ⟨bx, 1, none⟩ = some (.int .i64 r1.frm) := (rX.cell 1).trans (by rw [← hX]; rfl)
        have q2 : wc.cell? ⟨bx, 2, none⟩ = some (.int .i64 r1.dst) := (rX.cell 2).trans (by rw [← hX]; rfl)
        have q3 : wc.cell? ⟨bx, 3, none⟩ = some (.int .i64 0) := (rX.cell 3).trans (by rw [← hX, ← hp.num]; rfl)
        have q4 : wc.cell? ⟨bx, 4, none⟩ = some (.int .i64 0) := (rX.cell 4).trans (by rw [← hX, ← hp.seq]; rfl)
        have q5 : wc.cell? ⟨bx, 5, none⟩ = some (.int .i64 0) := (rX.cell 5).trans (by rw [← hX, ← hp.ballot]; rfl)
        have q85 : wc.cell? ⟨bx, 85, none⟩ = some (.slice VA 0 Vc) := (rX.cell 85).trans (by rw [← hX]; exact e85)
        have q86 : wc.cell? ⟨bx, 86, none⟩ = some (.slice BA 0 Bc) := (rX.cell 86).trans (by rw [← hX]; exact e86)
        have p0 : wc.cell? ⟨cy, 0, none⟩ = some (.int .i64 r1.kind) := (rY.cell 0).trans (by rw [← hY]; rfl)
        have p1 : wc.cell? ⟨cy, 1, none⟩ = some (.int .i64 r1.frm) := (rY.cell 1).trans (by rw [← hY]; rfl)
        have p2 : wc.cell? ⟨cy, 2, none⟩ = some (.int .i64 r1.dst) := (rY.cell 2).trans (by rw [← hY]; rfl)
        obtain ⟨R, hR⟩ : ∃ R, rqL r1.req ev = R := ⟨_, rfl⟩
        obtain ⟨R', hR'⟩ : ∃ R, rqL r1.req ev' = R := ⟨_, rfl⟩
        have m7 : wc.rangeAt bx 7 R := rX.range (fun j v hv => by rw [← hX]; exact pkL_req j v (by rw [hR]; exact hv))
        have m7' : wc.rangeAt cy 7 R' := rY.range (fun j v hv => by rw [← hY]; exact pkL_req j v (by rw [hR']; exact hv))
        have HM := Lib.hid (And.intro m7 (And.intro m7' (And.intro (show (Tryd.prog.info? 37).map (·.size) = some R.length by rw [← hR, rqL_len f2.rn]; exact info_rqS) (show (Tryd.prog.info? 37).map (·.size) = some R'.length by rw [← hR', rqL_len f2.rn]; exact info_rqS))))
        have HS := Lib.hid (sameReqL K J r1.req ev ev' wc ⟨f2.rn, f2.re.keep k6 (by simp)⟩ ⟨f2.rn, f2'.re.keep k6 (by simp)⟩)
        rw [hR, hR'] at HS
        have HK6 := Lib.hid k6
        have hbl := rX.lt
        have HF := Lib.hid (show ∀ W, keepBut [] wc W → W.cell? ⟨bx, 3, none⟩ = some (.int .i64 0) ∧ W.cell? ⟨bx, 4, none⟩ = some (.int .i64 0) ∧ W.cell? ⟨bx, 5, none⟩ = some (.int .i64 0) ∧ W.cell? ⟨bx, 85, none⟩ = some (.slice VA 0 Vc) ∧ W.cell? ⟨bx, 86, none⟩ = some (.slice BA 0 Bc) from fun W hk => ⟨(hk.cell (p := ⟨bx, 3, none⟩) hbl (by simp)).trans q3, (hk.cell (p := ⟨bx, 4, none⟩) hbl (by simp)).trans q4, (hk.cell (p := ⟨bx, 5, none⟩) hbl (by simp)).trans q5, (hk.cell (p := ⟨bx, 85, none⟩) hbl (by simp)).trans q85, (hk.cell (p := ⟨bx, 86, none⟩) hbl (by simp)).trans q86⟩)
        clear q3 q4 q5 q85 q86
        obtain ⟨kd, hkd⟩ : ∃ k, r1.kind = k := ⟨_, rfl⟩
        obtain ⟨fr, hfr⟩ : ∃ k, r1.frm = k := ⟨_, rfl⟩
        obtain ⟨ds, hds⟩ : ∃ k, r1.dst = k := ⟨_, rfl⟩
        rw [hkd] at q0 p0
        rw [hfr] at q1 p1
        rw [hds] at q2 p2
        clear f2 f2' hp hX hY hXl e85 e86 hR hR' m7 m7' k6 rX rY hkd hfr hds hbl
        go_wp2_with (first
          | (refine wpList_load_mid_g 37 (.tmp 47) rfl bx 7 rfl R _ HM.out.1 Tryd.underlying37 rfl HM.out.2.2.1 ?_ ?_; · rfl)
          | (refine wpList_load_mid_g 37 (.tmp 49) rfl cy 7 rfl R' _ HM.out.2.1 Tryd.underlying37 rfl HM.out.2.2.2 ?_ ?_; · rfl)
          | (go_at_call 56; (with_reducible refine HS.out.mono ?_); rintro e w7 ⟨rfl, k7⟩; obtain ⟨z3, z4, z5, z85, z86⟩ := HF.out _ k7; have HK7 := Lib.hid k7; clear k7))
        go_roundw
        case rel => exact ⟨i + 1, by omega, by go_num, Lib.hid ((HK.out.then HK6.out (by simp)).then HK7.out (by simp))⟩
        case measure => simp only [intOf]; omega
    · obtain rfl : i = n0 := by omega
      go_wp2_with fail
      go_ret
      exact ⟨rfl, HK.out⟩
end Go.Proofs.YtkpmlcgbffdloaaDoor
end
