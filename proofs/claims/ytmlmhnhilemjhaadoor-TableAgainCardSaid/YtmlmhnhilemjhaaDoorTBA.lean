/-
  TBA: CopyB, TB51, TB52, joined.
-/
import Derived.Test.YtmlmhnhilemjhaaDoorEqB
import Derived.Laws.CopyOwn
import Derived.Deep.OwnRows
import Derived.Test.YtmlmhnhilemjhaaDoorTB40
import Derived.Test.YtmlmhnhilemjhaaDoorLow2
section
namespace Go.Proofs.YtmlmhnhilemjhaaDoor
open Go.RowKit
set_option linter.unusedVariables false

theorem run_copy {P : Program} (w : World) (dT sT ty e : TypeId) (hu : P.underlying dT = some (.slice e)) (hsz : (P.info? e).map (·.size) = some 1)
    (g off dLen dCap : Nat) (A : Option Addr) (gs c : Nat) (l : List UInt8) (cur : Array Value) (t : TypeId) (hg : rowAt w g t cur) (hsrc : seen w A gs l)
    (hn : l.length ≤ dLen) (hfit : off + l.length ≤ cur.size) :
    ∃ w', (Builtin.copy_ #[dT, sT] ty #[.slice (some ⟨g, off, none⟩) dLen dCap, .slice A l.length c]).run P w = .ok (.int .i64 (l.length : Int)) w' ∧
      rowAt w' g t (splice cur.toList off (l.map bv)).toArray ∧ keepBut [g] w w' := by
  by_cases h0 : l.length = 0
  · obtain rfl : l = [] := List.eq_nil_of_length_eq_zero h0
    have hr := run_copy_none (P := P) w dT sT ty e (some ⟨g, off, none⟩) A dLen dCap 0 c hu hsz (by simp)
    exact ⟨w, hr, by simpa [splice] using hg, keepBut.refl _ _⟩
  · obtain ⟨o, rfl, hlt, hc⟩ := hsrc (by rintro rfl; simp at h0)
    have hr := run_copy_row (P := P) w dT sT ty e g off dLen dCap ⟨gs, o, none⟩ l.length c cur t (l.map bv) hu hsz hg (by rw [List.length_map]; exact (Nat.min_eq_left hn).symm)
      (fun j v hj => by
        obtain ⟨b, hb, rfl⟩ : ∃ b, l[j]? = some b ∧ bv b = v := by simpa using hj
        rw [add_plain]; exact hc j b hb)
      (by simpa using hfit) (by intro u hu; simp at hu; obtain ⟨b, _, rfl⟩ := hu; rfl)
    rw [goInt, List.length_map] at hr
    refine ⟨_, hr, ?_, ⟨rfl, rfl, rfl, by simp [World.setRow], fun k hk hS => setRow_other w g k _ (fun e => hS (by simp [e])), fun k hs => ?_⟩⟩
    rotate_left
    · by_cases e : k = g
      · subst e
        intro i
        unfold World.frozen?
        dsimp only
        rw [setRow_heap w k cur _ t _ hg]
        simp
      · exact hs.of (setRow_other w g k _ e)
    have := setRow_heap w g cur (cur.toList.take off ++ l.map bv ++ cur.toList.drop (off + l.length)).toArray t _ hg
    unfold rowAt
    rw [this]
    simp [splice]
theorem step_copy {P : Program} {ops : Array Oper} {o : Oper} {a : Act} {w : World} {K : Act → World → Prop} {Q : Exit → Act → World → Prop} {E : Prop} (hgd : o.guard = none) (d s : Operand) (dT sT : TypeId)
    (ho : o.op = .call { callee := .builtin .copy, args := #[d, s], argTypes := #[dT, sT] }) (e : TypeId) (hu : P.underlying dT = some (.slice e)) (hsz : (P.info? e).map (·.size) = some 1)
    (g off dLen dCap : Nat) (A : Option Addr) (gs c : Nat) (l : List UInt8) (hd : a.eval d = .slice (some ⟨g, off, none⟩) dLen dCap) (hs : a.eval s = .slice A l.length c)
    (cur : Array Value) (t : TypeId) (hg : rowAt w g t cur) (hsrc : seen w A gs l) (hn : l.length ≤ dLen) (hfit : off + l.length ≤ cur.size)
    (h : ∀ w', rowAt w' g t (splice cur.toList off (l.map bv)).toArray → keepBut [g] w w' → K (a.put o.dst (.int .i64 (l.length : Int))) w') :
    if Region.wanted o (yielded ops a.tmps) = true then Oper.wp P o a w K Q else E := by
  have hw : Region.wanted o (yielded ops a.tmps) = true := by simp [Region.wanted, hgd]
  rw [if_pos hw]
  obtain ⟨w', hrun, h1, h2⟩ := run_copy (P := P) w dT sT o.type e hu hsz g off dLen dCap A gs c l cur t hg hsrc hn hfit
  unfold Oper.wp
  simp [execOp, ho, resolve, invoke, builtin, hd, hs, hrun, Result.andThen]
  exact h w' h1 h2
end Go.Proofs.YtmlmhnhilemjhaaDoor
end

section
namespace Go.Proofs.YtmlmhnhilemjhaaDoor
open Go.RowKit
set_option linter.unusedVariables false
set_option maxRecDepth 100000
set_option linter.unusedSimpArgs false

def nmOf (l : List UInt8) : List UInt8 := l ++ List.replicate (32 - l.length) 0
theorem nmOf_len {l : List UInt8} (h : l.length ≤ 32) : (nmOf l).length = 32 := by unfold nmOf; simp; omega
theorem nmOf_all {l : List UInt8} (h : l.length = 32) : nmOf l = l := by unfold nmOf; rw [h]; simp
theorem splice_name (l : List UInt8) (h : l.length ≤ 32) : splice (nameL (List.replicate 32 0)) 0 (l.map bv) = nameL (nmOf l) := by
  unfold splice nameL nmOf
  rw [List.map_replicate, List.map_append, List.map_replicate, List.drop_replicate, List.length_map]
  simp
theorem raw32_len (r : RS) : (r.raw 32).1.length ≤ 32 := by
  unfold RS.raw
  rw [if_neg (by omega)]
  unfold RS.take
  split
  · show (r.l.take 32).length ≤ 32
    rw [List.length_take]; omega
  · simp
theorem isR.gl {w : World} {p g : Nat} {r : RS} (h : isR w p g r) (hne : r.l ≠ []) : g < w.heap.size := by
  obtain ⟨A, c, _, _, _, h4, _⟩ := h
  obtain ⟨o, _, h6, _⟩ := h4 hne
  exact h6
theorem past_left {r : RS} {n : Nat} (h : (r.past n).l ≠ []) : r.l ≠ [] := by
  intro e
  unfold RS.past at h
  split at h
  · split at h
    · rw [e] at h; simp at h
    · exact h rfl
  · exact h e
theorem fail_left {r : RS} {x : Int} (h : (r.fail x).l ≠ []) : r.l ≠ [] := by
  intro e
  unfold RS.fail at h
  split at h
  · exact h rfl
  · exact h e
theorem raw_left {r : RS} {n : Int} (h : (r.raw n).2.l ≠ []) : r.l ≠ [] := by
  unfold RS.raw at h
  split at h
  · exact fail_left h
  · exact past_left h
theorem num_left {r : RS} {n : Int} (h : (r.num n).2.l ≠ []) : r.l ≠ [] := by
  unfold RS.num at h
  split at h
  · split at h
    · split at h
      · exact past_left (fail_left h)
      · exact past_left h
    · exact past_left h
  · exact fail_left h
theorem count_left {r : RS} {n : Int} (h : (r.count n).2.l ≠ []) : r.l ≠ [] := by
  intro e
  unfold RS.count at h
  split at h
  · rw [e, cnt_nil] at h; exact h rfl
  · exact h e
theorem text_left {r : RS} {n : Int} (h : (r.text n).2.l ≠ []) : r.l ≠ [] := count_left (raw_left h)
theorem infoSizeB : (Tryd.prog.info? 5).map (·.size) = some 1 := by kernel_rfl
set_option maxHeartbeats 4000000 in
theorem readName_any (p g : Nat) (r : RS) (w : World) (hr : isR w p g r) (hb : r.l.length ≤ 140737488355328) :
    Calls Tryd.prog 64 #[.pointer (some ⟨p, 0, none⟩)] w fun e w' => e = .returned (.agg (nameL (nmOf (r.raw 32).1)).toArray) ∧ isR w' p g (r.raw 32).2 ∧ keepBut [p] w w' := by
  obtain ⟨Z, hZ⟩ : ∃ Z, nameL (List.replicate 32 0) = Z := ⟨_, rfl⟩
  have zl : Z.length = 32 := by rw [← hZ, nameL_len, List.length_replicate]
  have zv : (Tryd.prog.info? 28).bind (·.zero) = some (.agg (nameL (List.replicate 32 0)).toArray) := zv_nm
  have hsp := splice_name (r.raw 32).1 (raw32_len r)
  rw [hZ] at zv hsp
  obtain ⟨wA, hwA⟩ : ∃ wA, w.alloc (.cells Z.toArray 28) = wA := ⟨_, rfl⟩
  obtain ⟨wB, hwB⟩ : ∃ wB, wA.alloc (.cells Z.toArray 28) = wB := ⟨_, rfl⟩
  have rA := rowAt.new w 28 Z.toArray
  have rB := rowAt.new wA 28 Z.toArray
  have kA := (keepBut.refl [] w).alloc (.cells Z.toArray 28)
  have kB := (keepBut.refl [] wA).alloc (.cells Z.toArray 28)
  rw [hwA] at rA kA
  rw [hwB] at rB kB
  have rA3 := kB.row rA (by simp)
  have kk := kA.then kB (by simp)
  have hlA : w.heap.size < wA.heap.size := rA.lt
  have hpl := hr.lt
  have HW := Lib.hid (And.intro hwA (And.intro hwB zv))
  have HR := Lib.hid (And.intro rA3 (And.intro rB (And.intro kk (And.intro (hr.keep kk (by simp) (by simp)) (And.intro hlA (And.intro zl hsp))))))
  have HL := Lib.hid (And.intro hb (And.intro (raw32_len r) (fun hne : r.l ≠ [] => hr.gl hne)))
  clear hwA hwB zv rA rB kA kB rA3 kk hr hlA zl hsp hb hZ
  have hpA : wA.heap.size ≠ p := by have := HR.out.2.2.2.2.1; omega
  have hpw : w.heap.size ≠ p := by omega
  go_enter Tryd.func64, Tryd.ntmps64
  go_upto_region 2 with (first
    | (with_reducible refine wpList_alloc_to _ _ rfl 28 rfl _ HW.out.2.2 HW.out.1 ?_)
    | (with_reducible refine wpList_alloc_to _ _ rfl 28 rfl _ HW.out.2.2 HW.out.2.1 ?_))
  go_region_law (first
    | (go_simp; go_at_call 79; refine (raw_any p g r 32 _ (HR.out.2.2.2.1.keep ((keepBut.refl [] wB).drew) (by simp) (by simp)) HL.out.1).mono ?_; intro e w4 hq; obtain ⟨v, rfl, ⟨ho, hh⟩, hr4, hk4⟩ := hq; obtain ⟨A4, c4, rfl, _, _, _, hrd4⟩ := ho.form; have H4 := Lib.hid (And.intro hr4 (And.intro (((keepBut.refl [p] wB).drew).then hk4 (by simp)) (And.intro (homes_one (.slice A4 (r.raw 32).1.length c4)) (And.intro hrd4 hh)))); clear hr4 hk4 hrd4 ho hh)
    | (obtain ⟨g4, hg4⟩ := H4.out.2.2.1; refine step_copy rfl (.tmp 4) (.tmp 6) 29 29 rfl 5 Tryd.underlying29 infoSizeB wA.heap.size 0 32 32 A4 g4 c4 (r.raw 32).1 rfl rfl _ 28 (H4.out.2.1.row HR.out.2.1 (by simp [hpA])) (reads.seenB (H4.out.2.2.2.1 g4 hg4)) HL.out.2.1 (by simp only [List.size_toArray]; have := HR.out.2.2.2.2.2.1; have := HL.out.2.1; omega) ?_; intro w5 r5 k5; have H5 := Lib.hid (And.intro r5 k5); clear r5 k5))
  have hs : (splice Z 0 ((r.raw 32).1.map bv)) = nameL (nmOf (r.raw 32).1) := HR.out.2.2.2.2.2.2
  have r5 := H5.out.1
  rw [show (Z.toArray).toList = Z from rfl, hs] at r5
  have hnl : (nameL (nmOf (r.raw 32).1)).length = 32 := by rw [nameL_len, nmOf_len HL.out.2.1]
  have rw5 := H5.out.2.row (H4.out.2.1.row HR.out.1 (by simp [hpw])) (by simp; have := HR.out.2.2.2.2.1; omega)
  have hgl : (r.raw 32).2.l ≠ [] → g < w.heap.size := fun hne => HL.out.2.2 (raw_left hne)
  have hr5 := H4.out.1.keep H5.out.2 (by simp; exact fun e => hpA e.symm) (fun hne => by have := hgl hne; have := HR.out.2.2.2.2.1; simp; omega)
  have k05 : keepBut [p] w w5 := ((HR.out.2.2.1.more (by simp)).then H4.out.2.1 (by simp)).then H5.out.2 (fun x hx => .inr (by simp at hx; have := HR.out.2.2.2.2.1; omega))
  have rs := rw5.setL (vs := nameL (nmOf (r.raw 32).1)) (o := 0)
  rw [putL_all (by rw [hnl, List.size_toArray]; exact HR.out.2.2.2.2.2.1.symm)] at rs
  have ks := (keepBut.refl [w.heap.size] w5).setL (vs := nameL (nmOf (r.raw 32).1)) (g := w.heap.size) (o := 0) (by simp)
  have kf := k05.setL (vs := nameL (nmOf (r.raw 32).1)) (g := w.heap.size) (o := 0) (.inr (Nat.le_refl _))
  have hr6 := hr5.keep ks (by simp; exact fun e => hpw e.symm) (fun hne => by have := hgl hne; simp; omega)
  have ht := rw5.there (o := 0) (n := (nameL (nmOf (r.raw 32).1)).toArray.size) (by simp only [List.size_toArray]; have := HR.out.2.2.2.2.2.1; omega)
  have hI : (Tryd.prog.info? 28).map (·.size) = some (nameL (nmOf (r.raw 32).1)).length := by rw [hnl]; exact infoName
  have hJ : (Tryd.prog.info? 28).map (·.size) = some (nameL (nmOf (r.raw 32).1)).toArray.size := by rw [List.size_toArray]; exact hI
  have HS := Lib.hid (And.intro r5.rangeAll (And.intro rs (And.intro ht (And.intro hI (And.intro hJ (And.intro hr6 kf))))))
  have HO := Lib.hid (all_oneCell_toArray (nameL_one (n := nmOf (r.raw 32).1)))
  clear r5 rw5 rs ks kf hr6 ht hI hJ hr5 k05 hgl hnl hs hg4
  go_wp2_with (first
    | (refine wpList_load_mid rfl 28 (.tmp 3) rfl wA.heap.size 0 rfl _ _ HS.out.1 Tryd.underlying28 rfl HS.out.2.2.2.1 ?_)
    | (refine wpList_store_mid rfl 28 (.tmp 2) (.tmp 8) rfl w.heap.size 0 (nameL (nmOf (r.raw 32).1)).toArray rfl rfl HS.out.2.2.1 HS.out.2.2.2.2.1 HO.out ?_))
  refine bodyPost_ret (results_cell_row rfl _ _ w.heap.size 28 _ (0, 0) _ rfl HS.out.2.1 Tryd.underlying28 rfl HS.out.2.2.2.2.1) rfl ?_
  exact ⟨rfl, HS.out.2.2.2.2.2.1, HS.out.2.2.2.2.2.2⟩
end Go.Proofs.YtmlmhnhilemjhaaDoor
end

section
namespace Go.Proofs.YtmlmhnhilemjhaaDoor
open Go.RowKit
set_option linter.unusedVariables false
set_option maxRecDepth 100000
set_option linter.unusedSimpArgs false

def afterI (s : TS) (t : Int) : Option Int := s.keys[posI s t + (if hitI s t = true then 1 else 0)]?
def afterV (s : TS) (t : Int) : Int := match afterI s t with | some n => n | none => 0
set_option maxHeartbeats 4000000 in
theorem afterI_ne (p : Nat) (s : TS) (t : Int) (ht : 0 ≤ t ∧ t ≤ 1000000) (w : World) (h : isT w p s) (hh : hitI s t = false) (hn : afterI s t = none) :
    Calls Tryd.prog 68 #[.pointer (some ⟨p, 4, none⟩), .int .i64 t] w fun e w' => e = .returned (.tuple #[.int .i64 0, .bool false]) ∧ keepBut [] w w' := by
  have hnx : s.keys[(posI s t)]? = none := by unfold afterI at hn; rw [hh] at hn; simpa using hn
  have hle : posI s t ≤ s.keys.length := posOf_le _ _
  have hfew := h.few
  have HT := Lib.hid h
  have HF := Lib.hid (findI_any p s t ht w h)
  rw [hh] at HF
  obtain ⟨A, c, he, _, _, _, hrd⟩ := h.iown.form
  have HE := Lib.hid he
  have hlen : ((posI s t) : Nat) = s.keys.length := by
    have h1 := List.getElem?_eq_none_iff.1 hnx
    omega
  clear h hnx he hrd hn hh
  go_enter Tryd.func68, Tryd.ntmps68
  go_upto_region 3 with (go_at_call 51; refine HF.out.mono ?_; rintro e w2 ⟨rfl, k2⟩; have K2 := Lib.hid k2; clear k2)
  have y5 : w2.cell? ⟨p, 5, none⟩ = some (.slice A s.keys.length c) := ((HT.out.over K2.out).row.cell 5).trans (congrArg some HE.out)
  have hq : (((posI s t) : Nat) : Int) = (s.keys.length : Int) := by omega
  go_wp2_with fail
  go_ret2
  exact ⟨rfl, K2.out⟩
set_option maxHeartbeats 4000000 in
theorem afterI_ye (p : Nat) (s : TS) (t : Int) (ht : 0 ≤ t ∧ t ≤ 1000000) (w : World) (h : isT w p s) (hh : hitI s t = true) (hn : afterI s t = none) :
    Calls Tryd.prog 68 #[.pointer (some ⟨p, 4, none⟩), .int .i64 t] w fun e w' => e = .returned (.tuple #[.int .i64 0, .bool false]) ∧ keepBut [] w w' := by
  have hnx : s.keys[(posI s t + 1)]? = none := by unfold afterI at hn; rw [hh] at hn; simpa using hn
  have hle : posI s t ≤ s.keys.length := posOf_le _ _
  have hfew := h.few
  have HT := Lib.hid h
  have HF := Lib.hid (findI_any p s t ht w h)
  rw [hh] at HF
  obtain ⟨A, c, he, _, _, _, hrd⟩ := h.iown.form
  have HE := Lib.hid he
  have hw1 : IntKind.i64.wrap ((posI s t : Nat) + 1 : Int) = ((posI s t : Nat) : Int) + 1 := by rw [IntKind.wrap_i64]; omega
  have hlen : ((posI s t + 1) : Nat) = s.keys.length := by
    have h1 := List.getElem?_eq_none_iff.1 hnx
    obtain ⟨b, hb, _⟩ := hitI_at hh
    have h2 := (List.getElem?_eq_some_iff.1 hb).1
    have h3 : s.keys.length = s.answers.length := by unfold TS.keys; rw [List.length_map]
    omega
  clear h hnx he hrd hn hh
  go_enter Tryd.func68, Tryd.ntmps68
  go_upto_region 3 with (go_at_call 51; refine HF.out.mono ?_; rintro e w2 ⟨rfl, k2⟩; have K2 := Lib.hid k2; clear k2)
  have y5 : w2.cell? ⟨p, 5, none⟩ = some (.slice A s.keys.length c) := ((HT.out.over K2.out).row.cell 5).trans (congrArg some HE.out)
  have hq : (((posI s t + 1) : Nat) : Int) = (s.keys.length : Int) := by omega
  have hq1 : ((posI s t : Nat) : Int) + 1 = (s.keys.length : Int) := by omega
  go_wp2_with fail
  go_ret2
  exact ⟨rfl, K2.out⟩
set_option maxHeartbeats 4000000 in
theorem afterI_nm (p : Nat) (s : TS) (t : Int) (ht : 0 ≤ t ∧ t ≤ 1000000) (n : Int) (w : World) (h : isT w p s) (hh : hitI s t = false) (hn : afterI s t = some n) :
    Calls Tryd.prog 68 #[.pointer (some ⟨p, 4, none⟩), .int .i64 t] w fun e w' => e = .returned (.tuple #[.int .i64 n, .bool true]) ∧ keepBut [] w w' := by
  have hnx : s.keys[(posI s t)]? = some n := by unfold afterI at hn; rw [hh] at hn; simpa using hn
  have hle : posI s t ≤ s.keys.length := posOf_le _ _
  have hfew := h.few
  have HT := Lib.hid h
  have HF := Lib.hid (findI_any p s t ht w h)
  rw [hh] at HF
  obtain ⟨A, c, he, _, _, _, hrd⟩ := h.iown.form
  have HE := Lib.hid he
  have hlt : (posI s t) < s.keys.length := (List.getElem?_eq_some_iff.1 hnx).1
  obtain ⟨g, cap, hgv, hcell⟩ : ∃ g cap, s.iv = .slice (some ⟨g, 0, none⟩) s.keys.length cap ∧ ∀ W, keepBut [] w W → W.cell? ⟨g, (posI s t), none⟩ = some (.int .i64 n) := by
    rcases h.iown.2 with ⟨_, h0⟩ | ⟨g, cap, cur, he', hr, h1, h2, h3, h4⟩
    · omega
    · refine ⟨g, cap, he', fun W k => ((k.row hr (by simp)).cell _).trans ?_⟩
      refine take_at h4 ?_
      rw [List.getElem?_map, hnx]; rfl
  have HG := Lib.hid hgv
  have HC := Lib.hid hcell
  clear h he hrd hn hh hcell hnx hgv
  go_enter Tryd.func68, Tryd.ntmps68
  go_upto_region 3 with (go_at_call 51; refine HF.out.mono ?_; rintro e w2 ⟨rfl, k2⟩; have K2 := Lib.hid k2; clear k2)
  have y5 : w2.cell? ⟨p, 5, none⟩ = some (.slice (some ⟨g, 0, none⟩) s.keys.length cap) := ((HT.out.over K2.out).row.cell 5).trans (congrArg some HG.out)
  have yc := HC.out w2 K2.out
  have hq : ¬ ((posI s t : Nat) : Int) = (s.keys.length : Int) := by omega
  have hb : ((posI s t : Nat) : Int) < (s.keys.length : Int) := by omega
  go_wp2_with fail
  go_ret2
  exact ⟨rfl, K2.out⟩
set_option maxHeartbeats 4000000 in
theorem afterI_ym (p : Nat) (s : TS) (t : Int) (ht : 0 ≤ t ∧ t ≤ 1000000) (n : Int) (w : World) (h : isT w p s) (hh : hitI s t = true) (hn : afterI s t = some n) :
    Calls Tryd.prog 68 #[.pointer (some ⟨p, 4, none⟩), .int .i64 t] w fun e w' => e = .returned (.tuple #[.int .i64 n, .bool true]) ∧ keepBut [] w w' := by
  have hnx : s.keys[(posI s t + 1)]? = some n := by unfold afterI at hn; rw [hh] at hn; simpa using hn
  have hle : posI s t ≤ s.keys.length := posOf_le _ _
  have hfew := h.few
  have HT := Lib.hid h
  have HF := Lib.hid (findI_any p s t ht w h)
  rw [hh] at HF
  obtain ⟨A, c, he, _, _, _, hrd⟩ := h.iown.form
  have HE := Lib.hid he
  have hw1 : IntKind.i64.wrap ((posI s t : Nat) + 1 : Int) = ((posI s t : Nat) : Int) + 1 := by rw [IntKind.wrap_i64]; omega
  have hlt : (posI s t + 1) < s.keys.length := (List.getElem?_eq_some_iff.1 hnx).1
  obtain ⟨g, cap, hgv, hcell⟩ : ∃ g cap, s.iv = .slice (some ⟨g, 0, none⟩) s.keys.length cap ∧ ∀ W, keepBut [] w W → W.cell? ⟨g, (posI s t + 1), none⟩ = some (.int .i64 n) := by
    rcases h.iown.2 with ⟨_, h0⟩ | ⟨g, cap, cur, he', hr, h1, h2, h3, h4⟩
    · omega
    · refine ⟨g, cap, he', fun W k => ((k.row hr (by simp)).cell _).trans ?_⟩
      refine take_at h4 ?_
      rw [List.getElem?_map, hnx]; rfl
  have HG := Lib.hid hgv
  have HC := Lib.hid hcell
  clear h he hrd hn hh hcell hnx hgv
  go_enter Tryd.func68, Tryd.ntmps68
  go_upto_region 3 with (go_at_call 51; refine HF.out.mono ?_; rintro e w2 ⟨rfl, k2⟩; have K2 := Lib.hid k2; clear k2)
  have y5 : w2.cell? ⟨p, 5, none⟩ = some (.slice (some ⟨g, 0, none⟩) s.keys.length cap) := ((HT.out.over K2.out).row.cell 5).trans (congrArg some HG.out)
  have yc := HC.out w2 K2.out
  have hq : ¬ ((posI s t : Nat) : Int) + 1 = (s.keys.length : Int) := by omega
  have hb : ((posI s t : Nat) : Int) + 1 < (s.keys.length : Int) := by omega
  go_wp2_with fail
  go_ret2
  exact ⟨rfl, K2.out⟩
theorem afterI_any (p : Nat) (s : TS) (t : Int) (ht : 0 ≤ t ∧ t ≤ 1000000) (w : World) (h : isT w p s) :
    Calls Tryd.prog 68 #[.pointer (some ⟨p, 4, none⟩), .int .i64 t] w fun e w' => e = .returned (.tuple #[.int .i64 (afterV s t), .bool (afterI s t).isSome]) ∧ keepBut [] w w' := by
  unfold afterV
  cases hn : afterI s t with
  | none =>
    rcases Bool.eq_false_or_eq_true (hitI s t) with hh | hh
    · exact afterI_ye p s t ht w h hh hn
    · exact afterI_ne p s t ht w h hh hn
  | some n =>
    rcases Bool.eq_false_or_eq_true (hitI s t) with hh | hh
    · exact afterI_ym p s t ht n w h hh hn
    · exact afterI_nm p s t ht n w h hh hn
end Go.Proofs.YtmlmhnhilemjhaaDoor
end
