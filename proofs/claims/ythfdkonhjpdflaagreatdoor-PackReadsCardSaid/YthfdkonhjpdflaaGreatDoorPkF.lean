/-
  PKF: Pk7, Pk8, joined.
-/
import Derived.Test.YthfdkonhjpdflaaGreatDoorPkB
import Derived.Test.YthfdkonhjpdflaaGreatDoorLow3
section
namespace Go.Proofs.YthfdkonhjpdflaaGreatDoor
open Go.RowKit
set_option linter.unusedVariables false
set_option maxRecDepth 100000

set_option maxHeartbeats 400000 in
theorem onlyInt_any (bit : Int) (x : Int) (w : World) :
    Calls Tryz.prog 127 #[.int .i64 bit, .int .i64 x] w fun e w' => e = .returned (if bit = 0 then .int .i64 0 else .int .i64 x) ∧ w = w' := by
  by_cases hb : bit = 0
  · subst hb
    go_enter Tryz.func127, Tryz.ntmps127
    go_wp2
    go_ret
    exact ⟨rfl, rfl⟩
  · have hb1 : (bit == 0) = false := by simpa using hb
    rw [if_neg hb]
    clear hb
    go_enter Tryz.func127, Tryz.ntmps127
    go_wp2
    go_ret
    exact ⟨rfl, rfl⟩
set_option maxHeartbeats 400000 in
theorem onlyBool_any (bit : Int) (x : Bool) (w : World) :
    Calls Tryz.prog 128 #[.int .i64 bit, .bool x] w fun e w' => e = .returned (if bit = 0 then .bool false else .bool x) ∧ w = w' := by
  by_cases hb : bit = 0
  · subst hb
    go_enter Tryz.func128, Tryz.ntmps128
    go_wp2
    go_ret
    exact ⟨rfl, rfl⟩
  · have hb1 : (bit == 0) = false := by simpa using hb
    rw [if_neg hb]
    clear hb
    go_enter Tryz.func128, Tryz.ntmps128
    go_wp2
    go_ret
    exact ⟨rfl, rfl⟩
set_option maxHeartbeats 400000 in
theorem onlyVotes_any (bit : Int) (A : Option Addr) (n c : Nat) (w : World) :
    Calls Tryz.prog 132 #[.int .i64 bit, .slice A n c] w fun e w' => e = .returned (if bit = 0 then .slice none 0 0 else .slice A n c) ∧ w = w' := by
  by_cases hb : bit = 0
  · subst hb
    go_enter Tryz.func132, Tryz.ntmps132
    go_wp2
    go_ret
    exact ⟨rfl, rfl⟩
  · have hb1 : (bit == 0) = false := by simpa using hb
    rw [if_neg hb]
    clear hb
    go_enter Tryz.func132, Tryz.ntmps132
    go_wp2
    go_ret
    exact ⟨rfl, rfl⟩
set_option maxHeartbeats 400000 in
theorem onlyBytes_any (bit : Int) (A : Option Addr) (n c : Nat) (w : World) :
    Calls Tryz.prog 133 #[.int .i64 bit, .slice A n c] w fun e w' => e = .returned (if bit = 0 then .slice none 0 0 else .slice A n c) ∧ w = w' := by
  by_cases hb : bit = 0
  · subst hb
    go_enter Tryz.func133, Tryz.ntmps133
    go_wp2
    go_ret
    exact ⟨rfl, rfl⟩
  · have hb1 : (bit == 0) = false := by simpa using hb
    rw [if_neg hb]
    clear hb
    go_enter Tryz.func133, Tryz.ntmps133
    go_wp2
    go_ret
    exact ⟨rfl, rfl⟩
theorem rqL_one (r : RQ) {ev : Value} (he : ev.oneCell' = true) : ∀ v ∈ rqL r ev, v.oneCell' = true := by
  intro v hv
  simp only [rqL, nameL, List.mem_cons, List.mem_append, List.mem_map, List.not_mem_nil, or_false] at hv
  rcases hv with rfl | rfl | rfl | rfl | ⟨b, _, rfl⟩ | rfl
  all_goals first | rfl | exact he
def rqZero : RQ := ⟨0, 0, 0, 0, List.replicate 32 0, []⟩
theorem rqZero_cells : (rqL rqZero (.slice none 0 0)).toArray = #[.int .i64 0, .int .i64 0, .int .i64 0, .int .i64 0, .int .u8 0, .int .u8 0, .int .u8 0, .int .u8 0, .int .u8 0, .int .u8 0, .int .u8 0, .int .u8 0, .int .u8 0, .int .u8 0, .int .u8 0, .int .u8 0, .int .u8 0, .int .u8 0, .int .u8 0, .int .u8 0, .int .u8 0, .int .u8 0, .int .u8 0, .int .u8 0, .int .u8 0, .int .u8 0, .int .u8 0, .int .u8 0, .int .u8 0, .int .u8 0, .int .u8 0, .int .u8 0, .int .u8 0, .int .u8 0, .int .u8 0, .int .u8 0, .slice none 0 0] := rfl
theorem info_rq : (Tryz.prog.info? 26).map (·.size) = some 37 := by kernel_rfl
set_option maxHeartbeats 4000000 in
theorem onlyReq_any (bit : Int) (r : RQ) (ev : Value) (w : World) (hn : r.name.length = 32) (he : ev.oneCell' = true) :
    Calls Tryz.prog 129 #[.int .i64 bit, .agg (rqL r ev).toArray] w fun e w' => e = .returned (.agg (if bit = 0 then rqL rqZero (.slice none 0 0) else rqL r ev).toArray) ∧ keepBut [] w w' := by
  have hsz : (rqL r ev).length = 37 := rqL_len hn
  have ho := rqL_one r he
  have k1 := (keepBut.refl [] w).alloc (.cells (rqL r ev).toArray 26)
  have k2 := (keepBut.refl [] (w.alloc (.cells (rqL r ev).toArray 26))).alloc (.cells #[.int .i64 0, .int .i64 0, .int .i64 0, .int .i64 0, .int .u8 0, .int .u8 0, .int .u8 0, .int .u8 0, .int .u8 0, .int .u8 0, .int .u8 0, .int .u8 0, .int .u8 0, .int .u8 0, .int .u8 0, .int .u8 0, .int .u8 0, .int .u8 0, .int .u8 0, .int .u8 0, .int .u8 0, .int .u8 0, .int .u8 0, .int .u8 0, .int .u8 0, .int .u8 0, .int .u8 0, .int .u8 0, .int .u8 0, .int .u8 0, .int .u8 0, .int .u8 0, .int .u8 0, .int .u8 0, .int .u8 0, .int .u8 0, .slice none 0 0] 26)
  have k3 := (keepBut.refl [] ((w.alloc (.cells (rqL r ev).toArray 26)).alloc (.cells #[.int .i64 0, .int .i64 0, .int .i64 0, .int .i64 0, .int .u8 0, .int .u8 0, .int .u8 0, .int .u8 0, .int .u8 0, .int .u8 0, .int .u8 0, .int .u8 0, .int .u8 0, .int .u8 0, .int .u8 0, .int .u8 0, .int .u8 0, .int .u8 0, .int .u8 0, .int .u8 0, .int .u8 0, .int .u8 0, .int .u8 0, .int .u8 0, .int .u8 0, .int .u8 0, .int .u8 0, .int .u8 0, .int .u8 0, .int .u8 0, .int .u8 0, .int .u8 0, .int .u8 0, .int .u8 0, .int .u8 0, .int .u8 0, .slice none 0 0] 26))).alloc (.cells #[.int .i64 0, .int .i64 0, .int .i64 0, .int .i64 0, .int .u8 0, .int .u8 0, .int .u8 0, .int .u8 0, .int .u8 0, .int .u8 0, .int .u8 0, .int .u8 0, .int .u8 0, .int .u8 0, .int .u8 0, .int .u8 0, .int .u8 0, .int .u8 0, .int .u8 0, .int .u8 0, .int .u8 0, .int .u8 0, .int .u8 0, .int .u8 0, .int .u8 0, .int .u8 0, .int .u8 0, .int .u8 0, .int .u8 0, .int .u8 0, .int .u8 0, .int .u8 0, .int .u8 0, .int .u8 0, .int .u8 0, .int .u8 0, .slice none 0 0] 26)
  have r1 := k3.row (k2.row (rowAt.new w 26 (rqL r ev).toArray) (by simp)) (by simp)
  have r2 := k3.row (rowAt.new (w.alloc (.cells (rqL r ev).toArray 26)) 26 #[.int .i64 0, .int .i64 0, .int .i64 0, .int .i64 0, .int .u8 0, .int .u8 0, .int .u8 0, .int .u8 0, .int .u8 0, .int .u8 0, .int .u8 0, .int .u8 0, .int .u8 0, .int .u8 0, .int .u8 0, .int .u8 0, .int .u8 0, .int .u8 0, .int .u8 0, .int .u8 0, .int .u8 0, .int .u8 0, .int .u8 0, .int .u8 0, .int .u8 0, .int .u8 0, .int .u8 0, .int .u8 0, .int .u8 0, .int .u8 0, .int .u8 0, .int .u8 0, .int .u8 0, .int .u8 0, .int .u8 0, .int .u8 0, .slice none 0 0]) (by simp)
  have r3 := rowAt.new ((w.alloc (.cells (rqL r ev).toArray 26)).alloc (.cells #[.int .i64 0, .int .i64 0, .int .i64 0, .int .i64 0, .int .u8 0, .int .u8 0, .int .u8 0, .int .u8 0, .int .u8 0, .int .u8 0, .int .u8 0, .int .u8 0, .int .u8 0, .int .u8 0, .int .u8 0, .int .u8 0, .int .u8 0, .int .u8 0, .int .u8 0, .int .u8 0, .int .u8 0, .int .u8 0, .int .u8 0, .int .u8 0, .int .u8 0, .int .u8 0, .int .u8 0, .int .u8 0, .int .u8 0, .int .u8 0, .int .u8 0, .int .u8 0, .int .u8 0, .int .u8 0, .int .u8 0, .int .u8 0, .slice none 0 0] 26)) 26 #[.int .i64 0, .int .i64 0, .int .i64 0, .int .i64 0, .int .u8 0, .int .u8 0, .int .u8 0, .int .u8 0, .int .u8 0, .int .u8 0, .int .u8 0, .int .u8 0, .int .u8 0, .int .u8 0, .int .u8 0, .int .u8 0, .int .u8 0, .int .u8 0, .int .u8 0, .int .u8 0, .int .u8 0, .int .u8 0, .int .u8 0, .int .u8 0, .int .u8 0, .int .u8 0, .int .u8 0, .int .u8 0, .int .u8 0, .int .u8 0, .int .u8 0, .int .u8 0, .int .u8 0, .int .u8 0, .int .u8 0, .int .u8 0, .slice none 0 0]
  have kk := (k1.then k2 (by simp)).then k3 (by simp)
  rw [World.size_alloc] at r2
  rw [World.size_alloc, World.size_alloc] at r3
  obtain ⟨w3, hw3⟩ : ∃ w3, ((w.alloc (.cells (rqL r ev).toArray 26)).alloc (.cells #[.int .i64 0, .int .i64 0, .int .i64 0, .int .i64 0, .int .u8 0, .int .u8 0, .int .u8 0, .int .u8 0, .int .u8 0, .int .u8 0, .int .u8 0, .int .u8 0, .int .u8 0, .int .u8 0, .int .u8 0, .int .u8 0, .int .u8 0, .int .u8 0, .int .u8 0, .int .u8 0, .int .u8 0, .int .u8 0, .int .u8 0, .int .u8 0, .int .u8 0, .int .u8 0, .int .u8 0, .int .u8 0, .int .u8 0, .int .u8 0, .int .u8 0, .int .u8 0, .int .u8 0, .int .u8 0, .int .u8 0, .int .u8 0, .slice none 0 0] 26)).alloc (.cells #[.int .i64 0, .int .i64 0, .int .i64 0, .int .i64 0, .int .u8 0, .int .u8 0, .int .u8 0, .int .u8 0, .int .u8 0, .int .u8 0, .int .u8 0, .int .u8 0, .int .u8 0, .int .u8 0, .int .u8 0, .int .u8 0, .int .u8 0, .int .u8 0, .int .u8 0, .int .u8 0, .int .u8 0, .int .u8 0, .int .u8 0, .int .u8 0, .int .u8 0, .int .u8 0, .int .u8 0, .int .u8 0, .int .u8 0, .int .u8 0, .int .u8 0, .int .u8 0, .int .u8 0, .int .u8 0, .int .u8 0, .int .u8 0, .slice none 0 0] 26) = w3 := ⟨_, rfl⟩
  rw [hw3] at r1 r2 r3 kk
  have HW := Lib.hid hw3
  have HR := Lib.hid (And.intro r1 (And.intro r2 (And.intro r3 kk)))
  have HZ := Lib.hid (And.intro hsz ho)
  clear k1 k2 k3 r1 r2 r3 kk hw3 hsz ho
  by_cases hb : bit = 0
  · subst hb
    have rz : w3.rangeAt (w.heap.size + 1 + 1) 0 (rqL rqZero (.slice none 0 0)) := rowAt.rangeAll (t := 26) (by rw [rqZero_cells]; exact HR.out.2.2.1)
    have hzl : (rqL rqZero (.slice none 0 0)).length = 37 := rqL_len (by rw [show rqZero.name = List.replicate 32 0 from rfl, List.length_replicate])
    have rs := HR.out.2.1.setL (vs := rqL rqZero (.slice none 0 0)) (o := 0)
    rw [putL_all (by rw [hzl]; rfl)] at rs
    have ks := HR.out.2.2.2.setL (vs := rqL rqZero (.slice none 0 0)) (g := w.heap.size + 1) (o := 0) (by simp)
    have ht := HR.out.2.1.there (o := 0) (n := (rqL rqZero (.slice none 0 0)).toArray.size) (by rw [List.size_toArray, hzl]; exact Nat.le_refl _)
    have hI0 : (Tryz.prog.info? 26).map (·.size) = some (rqL rqZero (.slice none 0 0)).length := by rw [hzl]; exact info_rq
    have hJ0 : (Tryz.prog.info? 26).map (·.size) = some (rqL rqZero (.slice none 0 0)).toArray.size := by rw [List.size_toArray]; exact hI0
    have HS := Lib.hid (And.intro rz (And.intro rs (And.intro ks (And.intro ht (And.intro hI0 hJ0)))))
    have HC := Lib.hid (all_oneCell_toArray (rqL_one rqZero (ev := .slice none 0 0) rfl))
    obtain ⟨zl, hzle⟩ : ∃ zl, rqL rqZero (.slice none 0 0) = zl := ⟨_, rfl⟩
    rw [hzle] at HS HC rz rs ks ht hI0 hJ0
    have HE := Lib.hid hzle
    clear hzl hI0 hJ0 hzle
    clear rz rs ks ht
    go_enter Tryz.func129, Tryz.ntmps129
    go_upto_region 2 with (with_reducible refine wpList_box_agg _ rfl 26 (.tmp 1) rfl _ rfl ?_)
    rw [HW.out]
    go_wp2_with (first
      | (refine wpList_load_mid rfl 26 (.tmp 5) rfl (w.heap.size + 1 + 1) 0 rfl zl _ HS.out.1 Tryz.underlying26 rfl HS.out.2.2.2.2.1 ?_)
      | (refine wpList_store_mid rfl 26 (.tmp 4) (.tmp 8) rfl (w.heap.size + 1) 0 zl.toArray rfl rfl HS.out.2.2.2.1 HS.out.2.2.2.2.2 HC.out ?_))
    refine bodyPost_ret (results_cell_row rfl _ _ (w.heap.size + 1) 26 _ (0, 0) _ rfl HS.out.2.1 Tryz.underlying26 rfl HS.out.2.2.2.2.2) rfl ?_
    exact ⟨by rw [← HE.out], HS.out.2.2.1⟩
  · have rz := HR.out.1.rangeAll
    have rs := HR.out.2.1.setL (vs := rqL r ev) (o := 0)
    rw [putL_all (by rw [HZ.out.1]; rfl)] at rs
    have ks := HR.out.2.2.2.setL (vs := rqL r ev) (g := w.heap.size + 1) (o := 0) (by simp)
    have ht := HR.out.2.1.there (o := 0) (n := (rqL r ev).toArray.size) (by rw [List.size_toArray, HZ.out.1]; exact Nat.le_refl _)
    have hI : (Tryz.prog.info? 26).map (·.size) = some (rqL r ev).length := by rw [HZ.out.1]; exact info_rq
    have hJ : (Tryz.prog.info? 26).map (·.size) = some (rqL r ev).toArray.size := by rw [List.size_toArray]; exact hI
    have HS := Lib.hid (And.intro rz (And.intro rs (And.intro ks (And.intro ht (And.intro hI hJ)))))
    have hb1 : (bit == 0) = false := by simpa using hb
    have HC := Lib.hid (all_oneCell_toArray HZ.out.2)
    clear rz rs ks ht hI hJ
    rw [if_neg hb]
    clear hb
    go_enter Tryz.func129, Tryz.ntmps129
    go_upto_region 2 with (with_reducible refine wpList_box_agg _ rfl 26 (.tmp 1) rfl _ rfl ?_)
    rw [HW.out]
    go_wp2_with (first
      | (refine wpList_load_mid rfl 26 (.tmp 3) rfl w.heap.size 0 rfl (rqL r ev) _ HS.out.1 Tryz.underlying26 rfl HS.out.2.2.2.2.1 ?_)
      | (refine wpList_store_mid rfl 26 (.tmp 4) (.tmp 9) rfl (w.heap.size + 1) 0 (rqL r ev).toArray rfl rfl HS.out.2.2.2.1 HS.out.2.2.2.2.2 HC.out ?_))
    refine bodyPost_ret (results_cell_row rfl _ _ (w.heap.size + 1) 26 _ (0, 0) _ rfl HS.out.2.1 Tryz.underlying26 rfl HS.out.2.2.2.2.2) rfl ?_
    exact ⟨rfl, HS.out.2.2.1⟩
theorem anL_one (r : AN) {ev : Value} (he : ev.oneCell' = true) : ∀ v ∈ anL r ev, v.oneCell' = true := by
  intro v hv
  simp only [anL, nameL, List.mem_cons, List.mem_append, List.mem_map, List.not_mem_nil, or_false] at hv
  rcases hv with rfl | rfl | rfl | rfl | rfl | ⟨b, _, rfl⟩ | rfl
  all_goals first | rfl | exact he
def anZero : AN := ⟨0, 0, 0, 0, 0, List.replicate 32 0, []⟩
theorem anZero_cells : (anL anZero (.slice none 0 0)).toArray = #[.int .i64 0, .int .i64 0, .int .i64 0, .int .i64 0, .int .i64 0, .int .u8 0, .int .u8 0, .int .u8 0, .int .u8 0, .int .u8 0, .int .u8 0, .int .u8 0, .int .u8 0, .int .u8 0, .int .u8 0, .int .u8 0, .int .u8 0, .int .u8 0, .int .u8 0, .int .u8 0, .int .u8 0, .int .u8 0, .int .u8 0, .int .u8 0, .int .u8 0, .int .u8 0, .int .u8 0, .int .u8 0, .int .u8 0, .int .u8 0, .int .u8 0, .int .u8 0, .int .u8 0, .int .u8 0, .int .u8 0, .int .u8 0, .int .u8 0, .slice none 0 0] := rfl
theorem info_an : (Tryz.prog.info? 28).map (·.size) = some 38 := by kernel_rfl
set_option maxHeartbeats 4000000 in
theorem onlyAns_any (bit : Int) (r : AN) (ev : Value) (w : World) (hn : r.name.length = 32) (he : ev.oneCell' = true) :
    Calls Tryz.prog 130 #[.int .i64 bit, .agg (anL r ev).toArray] w fun e w' => e = .returned (.agg (if bit = 0 then anL anZero (.slice none 0 0) else anL r ev).toArray) ∧ keepBut [] w w' := by
  have hsz : (anL r ev).length = 38 := anL_len hn
  have ho := anL_one r he
  have k1 := (keepBut.refl [] w).alloc (.cells (anL r ev).toArray 28)
  have k2 := (keepBut.refl [] (w.alloc (.cells (anL r ev).toArray 28))).alloc (.cells #[.int .i64 0, .int .i64 0, .int .i64 0, .int .i64 0, .int .i64 0, .int .u8 0, .int .u8 0, .int .u8 0, .int .u8 0, .int .u8 0, .int .u8 0, .int .u8 0, .int .u8 0, .int .u8 0, .int .u8 0, .int .u8 0, .int .u8 0, .int .u8 0, .int .u8 0, .int .u8 0, .int .u8 0, .int .u8 0, .int .u8 0, .int .u8 0, .int .u8 0, .int .u8 0, .int .u8 0, .int .u8 0, .int .u8 0, .int .u8 0, .int .u8 0, .int .u8 0, .int .u8 0, .int .u8 0, .int .u8 0, .int .u8 0, .int .u8 0, .slice none 0 0] 28)
  have k3 := (keepBut.refl [] ((w.alloc (.cells (anL r ev).toArray 28)).alloc (.cells #[.int .i64 0, .int .i64 0, .int .i64 0, .int .i64 0, .int .i64 0, .int .u8 0, .int .u8 0, .int .u8 0, .int .u8 0, .int .u8 0, .int .u8 0, .int .u8 0, .int .u8 0, .int .u8 0, .int .u8 0, .int .u8 0, .int .u8 0, .int .u8 0, .int .u8 0, .int .u8 0, .int .u8 0, .int .u8 0, .int .u8 0, .int .u8 0, .int .u8 0, .int .u8 0, .int .u8 0, .int .u8 0, .int .u8 0, .int .u8 0, .int .u8 0, .int .u8 0, .int .u8 0, .int .u8 0, .int .u8 0, .int .u8 0, .int .u8 0, .slice none 0 0] 28))).alloc (.cells #[.int .i64 0, .int .i64 0, .int .i64 0, .int .i64 0, .int .i64 0, .int .u8 0, .int .u8 0, .int .u8 0, .int .u8 0, .int .u8 0, .int .u8 0, .int .u8 0, .int .u8 0, .int .u8 0, .int .u8 0, .int .u8 0, .int .u8 0, .int .u8 0, .int .u8 0, .int .u8 0, .int .u8 0, .int .u8 0, .int .u8 0, .int .u8 0, .int .u8 0, .int .u8 0, .int .u8 0, .int .u8 0, .int .u8 0, .int .u8 0, .int .u8 0, .int .u8 0, .int .u8 0, .int .u8 0, .int .u8 0, .int .u8 0, .int .u8 0, .slice none 0 0] 28)
  have r1 := k3.row (k2.row (rowAt.new w 28 (anL r ev).toArray) (by simp)) (by simp)
  have r2 := k3.row (rowAt.new (w.alloc (.cells (anL r ev).toArray 28)) 28 #[.int .i64 0, .int .i64 0, .int .i64 0, .int .i64 0, .int .i64 0, .int .u8 0, .int .u8 0, .int .u8 0, .int .u8 0, .int .u8 0, .int .u8 0, .int .u8 0, .int .u8 0, .int .u8 0, .int .u8 0, .int .u8 0, .int .u8 0, .int .u8 0, .int .u8 0, .int .u8 0, .int .u8 0, .int .u8 0, .int .u8 0, .int .u8 0, .int .u8 0, .int .u8 0, .int .u8 0, .int .u8 0, .int .u8 0, .int .u8 0, .int .u8 0, .int .u8 0, .int .u8 0, .int .u8 0, .int .u8 0, .int .u8 0, .int .u8 0, .slice none 0 0]) (by simp)
  have r3 := rowAt.new ((w.alloc (.cells (anL r ev).toArray 28)).alloc (.cells #[.int .i64 0, .int .i64 0, .int .i64 0, .int .i64 0, .int .i64 0, .int .u8 0, .int .u8 0, .int .u8 0, .int .u8 0, .int .u8 0, .int .u8 0, .int .u8 0, .int .u8 0, .int .u8 0, .int .u8 0, .int .u8 0, .int .u8 0, .int .u8 0, .int .u8 0, .int .u8 0, .int .u8 0, .int .u8 0, .int .u8 0, .int .u8 0, .int .u8 0, .int .u8 0, .int .u8 0, .int .u8 0, .int .u8 0, .int .u8 0, .int .u8 0, .int .u8 0, .int .u8 0, .int .u8 0, .int .u8 0, .int .u8 0, .int .u8 0, .slice none 0 0] 28)) 28 #[.int .i64 0, .int .i64 0, .int .i64 0, .int .i64 0, .int .i64 0, .int .u8 0, .int .u8 0, .int .u8 0, .int .u8 0, .int .u8 0, .int .u8 0, .int .u8 0, .int .u8 0, .int .u8 0, .int .u8 0, .int .u8 0, .int .u8 0, .int .u8 0, .int .u8 0, .int .u8 0, .int .u8 0, .int .u8 0, .int .u8 0, .int .u8 0, .int .u8 0, .int .u8 0, .int .u8 0, .int .u8 0, .int .u8 0, .int .u8 0, .int .u8 0, .int .u8 0, .int .u8 0, .int .u8 0, .int .u8 0, .int .u8 0, .int .u8 0, .slice none 0 0]
  have kk := (k1.then k2 (by simp)).then k3 (by simp)
  rw [World.size_alloc] at r2
  rw [World.size_alloc, World.size_alloc] at r3
  obtain ⟨w3, hw3⟩ : ∃ w3, ((w.alloc (.cells (anL r ev).toArray 28)).alloc (.cells #[.int .i64 0, .int .i64 0, .int .i64 0, .int .i64 0, .int .i64 0, .int .u8 0, .int .u8 0, .int .u8 0, .int .u8 0, .int .u8 0, .int .u8 0, .int .u8 0, .int .u8 0, .int .u8 0, .int .u8 0, .int .u8 0, .int .u8 0, .int .u8 0, .int .u8 0, .int .u8 0, .int .u8 0, .int .u8 0, .int .u8 0, .int .u8 0, .int .u8 0, .int .u8 0, .int .u8 0, .int .u8 0, .int .u8 0, .int .u8 0, .int .u8 0, .int .u8 0, .int .u8 0, .int .u8 0, .int .u8 0, .int .u8 0, .int .u8 0, .slice none 0 0] 28)).alloc (.cells #[.int .i64 0, .int .i64 0, .int .i64 0, .int .i64 0, .int .i64 0, .int .u8 0, .int .u8 0, .int .u8 0, .int .u8 0, .int .u8 0, .int .u8 0, .int .u8 0, .int .u8 0, .int .u8 0, .int .u8 0, .int .u8 0, .int .u8 0, .int .u8 0, .int .u8 0, .int .u8 0, .int .u8 0, .int .u8 0, .int .u8 0, .int .u8 0, .int .u8 0, .int .u8 0, .int .u8 0, .int .u8 0, .int .u8 0, .int .u8 0, .int .u8 0, .int .u8 0, .int .u8 0, .int .u8 0, .int .u8 0, .int .u8 0, .int .u8 0, .slice none 0 0] 28) = w3 := ⟨_, rfl⟩
  rw [hw3] at r1 r2 r3 kk
  have HW := Lib.hid hw3
  have HR := Lib.hid (And.intro r1 (And.intro r2 (And.intro r3 kk)))
  have HZ := Lib.hid (And.intro hsz ho)
  clear k1 k2 k3 r1 r2 r3 kk hw3 hsz ho
  by_cases hb : bit = 0
  · subst hb
    have rz : w3.rangeAt (w.heap.size + 1 + 1) 0 (anL anZero (.slice none 0 0)) := rowAt.rangeAll (t := 28) (by rw [anZero_cells]; exact HR.out.2.2.1)
    have hzl : (anL anZero (.slice none 0 0)).length = 38 := anL_len (by rw [show anZero.name = List.replicate 32 0 from rfl, List.length_replicate])
    have rs := HR.out.2.1.setL (vs := anL anZero (.slice none 0 0)) (o := 0)
    rw [putL_all (by rw [hzl]; rfl)] at rs
    have ks := HR.out.2.2.2.setL (vs := anL anZero (.slice none 0 0)) (g := w.heap.size + 1) (o := 0) (by simp)
    have ht := HR.out.2.1.there (o := 0) (n := (anL anZero (.slice none 0 0)).toArray.size) (by rw [List.size_toArray, hzl]; exact Nat.le_refl _)
    have hI0 : (Tryz.prog.info? 28).map (·.size) = some (anL anZero (.slice none 0 0)).length := by rw [hzl]; exact info_an
    have hJ0 : (Tryz.prog.info? 28).map (·.size) = some (anL anZero (.slice none 0 0)).toArray.size := by rw [List.size_toArray]; exact hI0
    have HS := Lib.hid (And.intro rz (And.intro rs (And.intro ks (And.intro ht (And.intro hI0 hJ0)))))
    have HC := Lib.hid (all_oneCell_toArray (anL_one anZero (ev := .slice none 0 0) rfl))
    obtain ⟨zl, hzle⟩ : ∃ zl, anL anZero (.slice none 0 0) = zl := ⟨_, rfl⟩
    rw [hzle] at HS HC rz rs ks ht hI0 hJ0
    have HE := Lib.hid hzle
    clear hzl hI0 hJ0 hzle
    clear rz rs ks ht
    go_enter Tryz.func130, Tryz.ntmps130
    go_upto_region 2 with (with_reducible refine wpList_box_agg _ rfl 28 (.tmp 1) rfl _ rfl ?_)
    rw [HW.out]
    go_wp2_with (first
      | (refine wpList_load_mid rfl 28 (.tmp 5) rfl (w.heap.size + 1 + 1) 0 rfl zl _ HS.out.1 Tryz.underlying28 rfl HS.out.2.2.2.2.1 ?_)
      | (refine wpList_store_mid rfl 28 (.tmp 4) (.tmp 8) rfl (w.heap.size + 1) 0 zl.toArray rfl rfl HS.out.2.2.2.1 HS.out.2.2.2.2.2 HC.out ?_))
    refine bodyPost_ret (results_cell_row rfl _ _ (w.heap.size + 1) 28 _ (0, 0) _ rfl HS.out.2.1 Tryz.underlying28 rfl HS.out.2.2.2.2.2) rfl ?_
    exact ⟨by rw [← HE.out], HS.out.2.2.1⟩
  · have rz := HR.out.1.rangeAll
    have rs := HR.out.2.1.setL (vs := anL r ev) (o := 0)
    rw [putL_all (by rw [HZ.out.1]; rfl)] at rs
    have ks := HR.out.2.2.2.setL (vs := anL r ev) (g := w.heap.size + 1) (o := 0) (by simp)
    have ht := HR.out.2.1.there (o := 0) (n := (anL r ev).toArray.size) (by rw [List.size_toArray, HZ.out.1]; exact Nat.le_refl _)
    have hI : (Tryz.prog.info? 28).map (·.size) = some (anL r ev).length := by rw [HZ.out.1]; exact info_an
    have hJ : (Tryz.prog.info? 28).map (·.size) = some (anL r ev).toArray.size := by rw [List.size_toArray]; exact hI
    have HS := Lib.hid (And.intro rz (And.intro rs (And.intro ks (And.intro ht (And.intro hI hJ)))))
    have hb1 : (bit == 0) = false := by simpa using hb
    have HC := Lib.hid (all_oneCell_toArray HZ.out.2)
    clear rz rs ks ht hI hJ
    rw [if_neg hb]
    clear hb
    go_enter Tryz.func130, Tryz.ntmps130
    go_upto_region 2 with (with_reducible refine wpList_box_agg _ rfl 28 (.tmp 1) rfl _ rfl ?_)
    rw [HW.out]
    go_wp2_with (first
      | (refine wpList_load_mid rfl 28 (.tmp 3) rfl w.heap.size 0 rfl (anL r ev) _ HS.out.1 Tryz.underlying28 rfl HS.out.2.2.2.2.1 ?_)
      | (refine wpList_store_mid rfl 28 (.tmp 4) (.tmp 9) rfl (w.heap.size + 1) 0 (anL r ev).toArray rfl rfl HS.out.2.2.2.1 HS.out.2.2.2.2.2 HC.out ?_))
    refine bodyPost_ret (results_cell_row rfl _ _ (w.heap.size + 1) 28 _ (0, 0) _ rfl HS.out.2.1 Tryz.underlying28 rfl HS.out.2.2.2.2.2) rfl ?_
    exact ⟨rfl, HS.out.2.2.1⟩
end Go.Proofs.YthfdkonhjpdflaaGreatDoor
end

section
namespace Go.Proofs.YthfdkonhjpdflaaGreatDoor
open Go.RowKit
set_option linter.unusedVariables false
set_option maxRecDepth 100000

def cfZero : CF := ⟨0, 0, []⟩
set_option maxHeartbeats 1000000 in
theorem onlyConf_any (bit : Int) (c : CF) (A : Option Addr) (n k : Nat) (w : World) :
    Calls Tryz.prog 131 #[.int .i64 bit, .agg (cfL c (.slice A n k)).toArray] w fun e w' => e = .returned (.agg (if bit = 0 then cfL cfZero (.slice none 0 0) else cfL c (.slice A n k)).toArray) ∧ keepBut [] w w' := by
  obtain ⟨cn, cf, cl⟩ := c
  unfold cfL
  dsimp only [cfZero]
  have k1 := (keepBut.refl [] w).alloc (.cells #[.int .i64 cn, .int .i64 cf, .slice A n k] 31)
  have k2 := k1.alloc (.cells #[.int .i64 0, .int .i64 0, .slice none 0 0] 31)
  have k3 := k2.alloc (.cells #[.int .i64 0, .int .i64 0, .slice none 0 0] 31)
  have q2 := (keepBut.refl [] (w.alloc (.cells #[.int .i64 cn, .int .i64 cf, .slice A n k] 31))).alloc (.cells #[.int .i64 0, .int .i64 0, .slice none 0 0] 31)
  have q3 := (keepBut.refl [] ((w.alloc (.cells #[.int .i64 cn, .int .i64 cf, .slice A n k] 31)).alloc (.cells #[.int .i64 0, .int .i64 0, .slice none 0 0] 31))).alloc (.cells #[.int .i64 0, .int .i64 0, .slice none 0 0] 31)
  have r1 := q3.row (q2.row (rowAt.new w 31 #[.int .i64 cn, .int .i64 cf, .slice A n k]) (by simp)) (by simp)
  have r2 := q3.row (rowAt.new (w.alloc (.cells #[.int .i64 cn, .int .i64 cf, .slice A n k] 31)) 31 #[.int .i64 0, .int .i64 0, .slice none 0 0]) (by simp)
  rw [World.size_alloc] at r2
  have r3 := rowAt.new ((w.alloc (.cells #[.int .i64 cn, .int .i64 cf, .slice A n k] 31)).alloc (.cells #[.int .i64 0, .int .i64 0, .slice none 0 0] 31)) 31 #[.int .i64 0, .int .i64 0, .slice none 0 0]
  rw [World.size_alloc, World.size_alloc] at r3
  obtain ⟨w3, hw3⟩ : ∃ w3, ((w.alloc (.cells #[.int .i64 cn, .int .i64 cf, .slice A n k] 31)).alloc (.cells #[.int .i64 0, .int .i64 0, .slice none 0 0] 31)).alloc (.cells #[.int .i64 0, .int .i64 0, .slice none 0 0] 31) = w3 := ⟨_, rfl⟩
  rw [hw3] at r1 r2 r3 k3
  have HW := Lib.hid hw3
  have f0 := r2.free 0
  have f1 := r2.free 1
  have f2 := r2.free 2
  have x0 : w3.cell? ⟨w.heap.size, 0, none⟩ = some (.int .i64 cn) := r1.cell 0
  have x1 : w3.cell? ⟨w.heap.size, 1, none⟩ = some (.int .i64 cf) := r1.cell 1
  have x2 : w3.cell? ⟨w.heap.size, 2, none⟩ = some (.slice A n k) := r1.cell 2
  have y0 : w3.cell? ⟨w.heap.size + 1, 0, none⟩ = some (.int .i64 0) := r2.cell 0
  have y1 : w3.cell? ⟨w.heap.size + 1, 1, none⟩ = some (.int .i64 0) := r2.cell 1
  have y2 : w3.cell? ⟨w.heap.size + 1, 2, none⟩ = some (.slice none 0 0) := r2.cell 2
  have z0 : w3.cell? ⟨w.heap.size + 1 + 1, 0, none⟩ = some (.int .i64 0) := r3.cell 0
  have z1 : w3.cell? ⟨w.heap.size + 1 + 1, 1, none⟩ = some (.int .i64 0) := r3.cell 1
  have z2 : w3.cell? ⟨w.heap.size + 1 + 1, 2, none⟩ = some (.slice none 0 0) := r3.cell 2
  have HR := Lib.hid (And.intro r2 k3)
  clear k1 k2 k3 q2 q3 r1 r2 r3 hw3
  by_cases hb : bit = 0
  · subst hb
    have rs := ((HR.out.1.set 0 (.int .i64 0)).set 1 (.int .i64 0)).set 2 (.slice none 0 0)
    have ks := ((HR.out.2.setCell ⟨w.heap.size + 1, 0, none⟩ (.int .i64 0) (.inr (by simp))).setCell ⟨w.heap.size + 1, 1, none⟩ (.int .i64 0) (.inr (by simp))).setCell ⟨w.heap.size + 1, 2, none⟩ (.slice none 0 0) (.inr (by simp))
    have HS := Lib.hid (And.intro rs ks)
    clear rs ks
    go_enter Tryz.func131, Tryz.ntmps131
    go_upto_region 2 with fail
    rw [HW.out]
    go_wp2_with fail
    refine bodyPost_ret (results_cell_row rfl _ _ (w.heap.size + 1) 31 _ (0, 0) _ rfl HS.out.1 Tryz.underlying31 rfl (by kernel_rfl)) rfl ?_
    exact ⟨rfl, HS.out.2⟩
  · have rs := ((HR.out.1.set 0 (.int .i64 cn)).set 1 (.int .i64 cf)).set 2 (.slice A n k)
    have ks := ((HR.out.2.setCell ⟨w.heap.size + 1, 0, none⟩ (.int .i64 cn) (.inr (by simp))).setCell ⟨w.heap.size + 1, 1, none⟩ (.int .i64 cf) (.inr (by simp))).setCell ⟨w.heap.size + 1, 2, none⟩ (.slice A n k) (.inr (by simp))
    have HS := Lib.hid (And.intro rs ks)
    have hb1 : (bit == 0) = false := by simpa using hb
    rw [if_neg hb]
    clear rs ks hb
    go_enter Tryz.func131, Tryz.ntmps131
    go_upto_region 2 with fail
    rw [HW.out]
    go_wp2_with fail
    refine bodyPost_ret (results_cell_row rfl _ _ (w.heap.size + 1) 31 _ (0, 0) _ rfl HS.out.1 Tryz.underlying31 rfl (by kernel_rfl)) rfl ?_
    exact ⟨rfl, HS.out.2⟩
end Go.Proofs.YthfdkonhjpdflaaGreatDoor
end
