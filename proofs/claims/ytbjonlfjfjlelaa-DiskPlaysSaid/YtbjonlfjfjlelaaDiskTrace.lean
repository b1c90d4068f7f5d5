/-
  DISK, 9: Trace.
-/
import Derived.Test.YtbjonlfjfjlelaaDisk8
import Derived.Deep.OwnRows
namespace Go.Proofs.Ytbjonlfjfjlelaa
open Go.RowKit
set_option linter.unusedVariables false
set_option maxRecDepth 100000

/-- where the piece k begins -/
def offT (t : List (List UInt8)) (k : Nat) : Nat := (t.take k).flatten.length
theorem offT_zero (t : List (List UInt8)) : offT t 0 = 0 := by simp [offT]
theorem offT_succ (t : List (List UInt8)) (k : Nat) (l : List UInt8) (h : t[k]? = some l) : offT t (k + 1) = offT t k + l.length := by
  unfold offT
  rw [List.take_add_one, h]
  simp
theorem offT_all (t : List (List UInt8)) : offT t t.length = t.flatten.length := by simp [offT]
theorem offT_le (t : List (List UInt8)) (k : Nat) : offT t k ≤ t.flatten.length := by
  unfold offT
  conv => rhs; rw [← List.take_append_drop k t, List.flatten_append, List.length_append]
  omega

/-- bytes are put behind others, where there is room -/
theorem wp_append_room {P : Program} (w : World) {ops : Array Oper} {rest : List Oper} {o : Oper} {a : Act} {Q : Exit → Act → World → Prop} (hgd : o.guard = none) (s x : Operand) (t : TypeId)
    (ho : o.op = .call { callee := .builtin .append, args := #[s, x], argTypes := #[t, t] })
    (e : TypeId) (i : TypeInfo) (ht : P.underlying t = some (.slice e)) (hi : P.info? e = some i) (hsize : i.size = 1)
    (g n cap : Nat) (cur : Array Value) (hs : a.eval s = .slice (some ⟨g, 0, none⟩) n cap) (hr : rowAt w g e cur) (hcs : cur.size = cap) (hn : n ≤ cap)
    (A : Option Addr) (gs c m : Nat) (l : List UInt8) (hm : l.length = m) (hx : a.eval x = .slice A m c) (hsn : seen w A gs l) (hroom : n + m ≤ cap)
    (h : ∀ w', rowAt w' g e (cur.toList.take n ++ (l.map bv) ++ cur.toList.drop (n + m)).toArray → keepBut [g] w w' → wpList P ops Q rest (a.put o.dst (.slice (some ⟨g, 0, none⟩) (n + m) cap)) w') : wpList P ops Q (o :: rest) a w := by
  refine wpList_plain hgd fun K hK => ?_
  subst hm
  rcases Nat.eq_zero_or_pos l.length with h0 | h0
  · obtain rfl : l = [] := List.eq_nil_of_length_eq_zero h0
    have hr2 : (Builtin.append_ #[t, t] o.type #[.slice (some ⟨g, 0, none⟩) n cap, .slice A 0 c]).run P w = .ok (.slice (some ⟨g, 0, none⟩) n cap) w := by
      cases A <;> simp [Builtin.append_, run_underlying ht, sizeOf, typeInfo, hi, Builtin.lenOf, Builtin.firstCells, hn, storeCells, loadCells, loadCellsFrom]
    unfold Oper.wp execOp
    simp only [ho, resolve, invoke, builtin, Sem.run_bind, Sem.run_pure, Result.andThen_ok, List.map_toArray, List.map_cons, List.map_nil, hs, hx, List.length_nil, hr2]
    refine hK _ _ (h w ?_ (keepBut.refl _ _))
    simpa using hr
  · obtain ⟨o', rfl, hlt, hc⟩ := hsn (by rintro rfl; simp at h0)
    have hrun := run_append_room (P := P) w t o.type e i ht hi g n cap cur hr ⟨gs, o', none⟩ l.length c (l.map bv) (by simp [hsize]) (fun j v hj => by
        obtain ⟨b, hb, rfl⟩ : ∃ b, l[j]? = some b ∧ bv b = v := by simpa using hj
        rw [add_plain]; exact hc j b hb) (by intro u hu; simp at hu; obtain ⟨b, _, rfl⟩ := hu; rfl) hroom (by rw [hsize, List.length_map]; omega)
    unfold Oper.wp execOp
    simp only [ho, resolve, invoke, builtin, Sem.run_bind, Sem.run_pure, Result.andThen_ok, List.map_toArray, List.map_cons, List.map_nil, hs, hx, hrun]
    refine hK _ _ (h _ ?_ ⟨rfl, rfl, rfl, by simp [World.setRow], fun k hk hS => setRow_other w g k _ (fun e => hS (by simp [e]))⟩)
    have := setRow_heap w g cur (cur.toList.take n ++ l.map bv ++ cur.toList.drop (n + l.length)).toArray e _ hr
    unfold rowAt
    simpa [hsize] using this

theorem dOn.arg2 {w0 w : World} {p : Nat} {F : List Nat} {d : DS} {A : Option Addr} {g : Nat} {l : List UInt8} (h : dOn w0 w p F d) (hs : seen w0 A g l) : seen w A g l ∧ (l ≠ [] → g ∉ F) :=
  ⟨hs.keep h.2.2 (by simp), fun hne hm => by obtain ⟨o, _, hlt, _⟩ := hs hne; have := h.2.1 g hm; omega⟩
theorem dOn.keepOff2 {S : List Nat} {w0 w w' : World} {p : Nat} {F : List Nat} {d : DS} (h : dOn w0 w p F d) (hk : keepBut S w w') (hS : ∀ y ∈ F, y ∉ S) (hn : ∀ y ∈ S, w0.heap.size ≤ y) : dOn w0 w' p F d :=
  ⟨h.1.keep hk hS, h.2.1, h.2.2.then hk (fun y hy => .inr (hn y hy))⟩
theorem make_bytes0 (n : Nat) (h : n ≤ 281474976710656) (w : World) :
    (Instr.makeSlice 28 (.int .i64 0) (.int .i64 (n : Int))).run Try.prog w = .ok (.slice (some ⟨w.heap.size, 0, none⟩) 0 n) (w.alloc (.cells (zeroRow n) 5)) := by
  obtain ⟨i0, hi0, hz0, hz1, hz2⟩ := info_parts infoU8
  have := run_make (P := Try.prog) w 28 5 i0 (.int .u8 0) Try.underlying28 hi0 hz0 .i64 .i64 0 (n : Int) (by omega) (by omega) (by rw [hz2]; omega) (by omega)
  rw [this, hz1]
  simp [zeroRow]
  rfl
def nilRow (n : Nat) : Array Value := madeCells #[.slice none 0 0] n
theorem nilRow_size (n : Nat) : (nilRow n).size = n := size_madeCells _ _
theorem make_slices (n : Nat) (h : n ≤ 1000000000) (w : World) :
    (Instr.makeSlice 36 (.int .i64 (n : Int)) (.int .i64 (n : Int))).run Try.prog w = .ok (.slice (some ⟨w.heap.size, 0, none⟩) n n) (w.alloc (.cells (nilRow n) 28)) :=
  run_make_row' 36 28 (.slice none 0 0) 24 Try.underlying36 infoSl rfl .i64 .i64 n (by omega) (by omega) w

/-- the pieces k of a trace that was copied, as slices of one row -/
def pieces (w : World) (ga : Nat) (t : List (List UInt8)) (k : Nat) (cells : Array Value) : Prop :=
  ∀ i l, i < k → t[i]? = some l → ∃ A, cells[i]? = some (.slice A l.length l.length) ∧ (l ≠ [] → A = some ⟨ga, offT t i, none⟩)
/-- what Trace answers -/
def tracePost (t : List (List UInt8)) (w : World) (e : Ending) (w' : World) : Prop :=
  ∃ go ga cells, e = .returned (.slice (some ⟨go, 0, none⟩) t.length t.length) ∧ rowAt w' go 28 cells ∧ cells.size = t.length ∧ rowAt w' ga 5 (t.flatten.map bv).toArray ∧
    pieces w' ga t t.length cells ∧ w.heap.size ≤ go ∧ w.heap.size ≤ ga ∧ keepBut [] w w'
def traceRel1 (t : List (List UInt8)) (v3 v18 : Value) : Prop := ∃ k : Nat, k ≤ t.length ∧ v18 = .int .i64 (k : Int) ∧ v3 = .int .i64 (offT t k : Int)
def traceRel2 (w : World) (t : List (List UInt8)) (tot ga go : Nat) (v6 v40 : Value) (wx : World) : Prop :=
  ∃ (k : Nat) (cur cells : Array Value), k ≤ t.length ∧ v40 = .int .i64 (k : Int) ∧ v6 = .slice (some ⟨ga, 0, none⟩) (offT t k) tot ∧
    rowAt wx ga 5 cur ∧ cur.size = tot ∧ cur.toList.take (offT t k) = (t.take k).flatten.map bv ∧
    rowAt wx go 28 cells ∧ cells.size = t.length ∧ pieces wx ga t k cells ∧ keepBut [] w wx

theorem trace_step {w0 wx w5 : World} {t : List (List UInt8)} {tot ga go k ok : Nat} {cur cells : Array Value} {l : List UInt8}
    (rga : rowAt wx ga 5 cur) (hcs : cur.size = tot) (htake : cur.toList.take ok = (t.take k).flatten.map bv) (rgo : rowAt wx go 28 cells) (hcl : cells.size = t.length)
    (hpc : pieces wx ga t k cells) (kk : keepBut [] w0 wx) (htk : t[k]? = some l) (hoff : offT t (k + 1) = ok + l.length) (hlt : k < t.length) (hroom : ok + l.length ≤ tot) (hne : go ≠ ga)
    (hr5 : rowAt w5 ga 5 (cur.toList.take ok ++ (l.map bv) ++ cur.toList.drop (ok + l.length)).toArray) (hk5 : keepBut [ga] wx w5) (hgo : w0.heap.size ≤ go) (hga : w0.heap.size ≤ ga) :
    traceRel2 w0 t tot ga go (.slice (some ⟨ga, 0, none⟩) (ok + l.length) tot) (.int .i64 ((k : Int) + 1)) (w5.setCell ⟨go, k, none⟩ (.slice (if l = [] then some ⟨ga, 0, none⟩ else some ⟨ga, ok, none⟩) l.length l.length)) := by
  have hok : ok = offT t k := by have := offT_succ t k l htk; omega
  have hok2 : ((t.take k).flatten.map bv).length = ok := by rw [hok, List.length_map]; rfl
  have hr5o := hk5.row rgo (by simpa using hne)
  refine ⟨k + 1, _, _, by omega, by go_num, by rw [hoff], ((keepBut.refl [go] w5).setCell ⟨go, k, none⟩ _ (by simp)).row hr5 (by simpa using hne.symm), ?_, ?_, hr5o.set k _, by simpa using hcl, ?_, (kk.then hk5 (by simpa using hga)).setCell _ _ (.inr hgo)⟩
  · rw [htake]
    simp only [List.size_toArray, List.length_append, List.length_map, List.length_drop, Array.length_toList]
    rw [List.length_map] at hok2
    omega
  · rw [hoff, htake]
    have e : (t.take (k + 1)).flatten = (t.take k).flatten ++ l := by rw [List.take_add_one, htk]; simp
    rw [e, List.map_append]
    have e2 : ok + l.length = ((t.take k).flatten.map bv ++ l.map bv).length := by rw [List.length_append, hok2]; simp
    rw [e2]
    exact List.take_left
  · intro i m hi hm
    rcases Nat.lt_or_ge i k with h1 | h1
    · obtain ⟨A, hA, hA2⟩ := hpc i m h1 hm
      refine ⟨A, ?_, hA2⟩
      rw [Array.getElem?_setIfInBounds, if_neg (by omega)]
      exact hA
    · obtain rfl : i = k := by omega
      rw [htk] at hm
      obtain rfl := Option.some.inj hm
      refine ⟨_, by rw [Array.getElem?_setIfInBounds, if_pos rfl, if_pos (by omega)], fun hne2 => ?_⟩
      rw [if_neg hne2, hok]

set_option maxRecDepth 100000 in
set_option maxHeartbeats 2000000 in
theorem trace_any (p : Nat) (F : List Nat) (d : DS) (w : World) (h : isD w p F d) (ht : d.t.length ≤ 1000000) (hf : d.t.flatten.length ≤ 1000000000) :
    Calls Try.prog 18 #[.pointer (some ⟨p, 0, none⟩)] w (tracePost d.t w) := by
  obtain ⟨vb, vs, vt, x, T, h1, h2, h3, h4, h5, h6, h7, h8, h9, h10, h11, h12, h13⟩ := id h
  obtain ⟨t, hdt⟩ : ∃ t, t = d.t := ⟨_, rfl⟩
  rw [← hdt] at ht hf h7 ⊢
  have hTl : T.length = t.length := by rw [← h7]; simp
  obtain ⟨A3, c3, rfl, hc3, hm3, _, hrd⟩ := h6.form
  have hc4 : w.cell? ⟨p, 4, none⟩ = some (.slice A3 T.length c3) := h1.cell 4
  rw [hTl] at hc4
  obtain ⟨gt, hgt⟩ := homes_one (.slice A3 T.length c3)
  have hrd' := hrd gt hgt
  -- the cells of the trace, and what they show
  have each : ∀ j, j < t.length → ∃ o l A g, A3 = some ⟨gt, o, none⟩ ∧ t[j]? = some l ∧ w.cell? ⟨gt, o + j, none⟩ = some (.slice A l.length l.length) ∧ seen w A g l ∧ gt < w.heap.size := by
    intro j hj
    obtain ⟨o, hA, hlt, hcell⟩ := hrd'.2 (by omega)
    obtain ⟨y, hy⟩ : ∃ y, T[j]? = some y := ⟨T[j]'(by omega), List.getElem?_eq_getElem _⟩
    have hyT := List.mem_of_getElem? hy
    refine ⟨o, y.2, some ⟨y.1, 0, none⟩, y.1, hA, ?_, hcell j (tv y) (by rw [List.getElem?_map, hy]; rfl), seen_row (h8 y hyT).1 (by simp [List.take_of_length_le]), hlt⟩
    rw [← h7, List.getElem?_map, hy]; rfl
  have HE := Lib.hid each
  obtain ⟨tot, htot⟩ : ∃ tot, tot = t.flatten.length := ⟨_, rfl⟩
  rw [← htot] at hf
  have hle := fun k => offT_le t k
  have hall := offT_all t
  rw [← htot] at hall hle
  have HLE := Lib.hid (And.intro hle (And.intro hall htot))
  clear hle hall htot
  have hmk0 := make_bytes0 tot (by omega)
  have hmks := make_slices t.length (by omega)
  clear h1 h2 h5 h6 h7 h8 h9 h10 h11 h12 h13 hrd hrd' hgt each hTl hdt hc3 hm3
  go_enter Try.func18, Try.ntmps18
  go_wp2_with (go_at_call 60; refine (none_any _ _ _ _ h).mono ?_; rintro e w' ⟨rfl, rfl⟩)
  go_loopw [3, 5, 18] (fun v3 v5 v18 wr => traceRel1 t v3 v18 ∧ wr = w) (fun _ _ v18 _ => t.length - (intOf v18).toNat)
  case atStart => exact ⟨⟨0, Nat.zero_le _, rfl, by rw [offT_zero]; rfl⟩, rfl⟩
  case round =>
    obtain ⟨⟨k, hk, rfl, rfl⟩, rfl⟩ := hrel
    by_cases hlt : k < t.length
    · obtain ⟨o, l, A, g, rfl, htk, hcell, hs, _⟩ := HE.out k hlt
      have hoff := offT_succ t k l htk
      have hle := HLE.out.1 (k + 1)
      have HO := Lib.hid hoff
      have hb1 : offT t k + l.length ≤ 1000000000 := by omega
      have hlt' : (k : Int) < (t.length : Int) := by omega
      clear hoff hle htk hs
      go_wp2_with fail
      go_roundw
      case rel => exact ⟨⟨k + 1, by omega, by go_num, by rw [HO.out]; go_num⟩, trivial⟩
      case measure => simp [intOf]; omega
    · obtain rfl : k = t.length := by omega
      rw [HLE.out.2.1]
      have hlt' : ¬ (t.length : Int) < (t.length : Int) := by omega
      have hk1 := (keepBut.refl [] wr).alloc (.cells (zeroRow tot) 5)
      have hr1 := rowAt.new wr 5 (zeroRow tot)
      have hplt : p < wr.heap.size := World.block_lt_of_cell? wr _ hc4
      have c41 := (hk1.cell (p := ⟨p, 4, none⟩) hplt (by simp)).trans hc4
      go_upto_region 10 with fail
      clear hmk0
      generalize hg1 : wr.heap.size = ga at *
      have HG1 := Lib.hid hg1; clear hg1
      generalize wr.alloc (.cells (zeroRow tot) 5) = w1 at *
      have hk2 := (keepBut.refl [] w1).alloc (.cells (nilRow t.length) 28)
      have hr2 := rowAt.new w1 28 (nilRow t.length)
      have hp1 : p < w1.heap.size := by have := hk1.size; have := HG1.out; omega
      have c42 := (hk2.cell (p := ⟨p, 4, none⟩) hp1 (by simp)).trans c41
      go_upto_region 11 with fail
      clear hmks
      generalize hg2 : w1.heap.size = go at *
      have HG2 := Lib.hid hg2; clear hg2
      have hr12 := hk2.row hr1 (by simp)
      generalize w1.alloc (.cells (nilRow t.length) 28) = w2 at *
      have hk12 := hk1.then hk2 (by simp)
      have hgo : wr.heap.size ≤ go := by have := hk1.size; have := HG2.out; omega
      have hga : wr.heap.size ≤ ga := by have := HG1.out; omega
      have H0 := Lib.hid (And.intro hr12 (And.intro hr2 hk12))
      clear hr1 hr2 hr12 hk1 hk2 hk12 c41
      generalize wr = w0 at *
      go_wp2_with fail
      go_loopw [6, 8, 9, 10, 40] (fun v6 v8 v9 v10 v40 wx => traceRel2 w0 t tot ga go v6 v40 wx) (fun _ _ _ _ v40 _ => t.length - (intOf v40).toNat)
      case atStart => exact ⟨0, zeroRow tot, nilRow t.length, Nat.zero_le _, rfl, by rw [offT_zero], H0.out.1, zeroRow_size _, by rw [offT_zero]; rfl, H0.out.2.1, nilRow_size _, fun i l hi => absurd hi (by omega), H0.out.2.2⟩
      case round =>
        clear c42 hlt' hlt hk
        obtain ⟨k, cur, cells, hk, rfl, rfl, rga, hcs, htake, rgo, hcl, hpc, kk⟩ := hrel
        by_cases hlt : k < t.length
        · obtain ⟨o, l, A, g, rfl, htk, hcell, hs, hgt⟩ := HE.out k hlt
          have hcell' := (kk.cell (p := ⟨gt, o + k, none⟩) (by rw [HG1.out]; exact hgt) (by simp)).trans hcell
          have hs' := hs.keep kk (by simp)
          have hoff := offT_succ t k l htk
          have hle := HLE.out.1 (k + 1)
          have hroom : offT t k + l.length ≤ tot := by omega
          obtain ⟨i0, hi0, hz0, hz1, hz2⟩ := info_parts infoU8
          have HH := Lib.hid (And.intro rga (And.intro hcs (And.intro hs' (And.intro htake (And.intro rgo (And.intro hcl (And.intro hpc (And.intro kk (And.intro htk hoff)))))))))
          have hlt' : (k : Int) < (t.length : Int) := by omega
          obtain ⟨u0, hu0⟩ : ∃ u0, cells[k]? = some u0 := ⟨cells[k]'(by omega), Array.getElem?_eq_getElem _⟩
          have HU := Lib.hid hu0
          clear hu0
          have hne : go ≠ ga := rgo.apart rga (by decide)
          clear rga hcs hs' htake rgo hcl hpc kk htk hoff hle hcell hs
          generalize offT t k = ok at *
          go_wp2_with (with_reducible refine wp_append_room _ rfl (.tmp 47) (.tmp 48) 28 rfl 5 i0 Try.underlying28 hi0 hz1 ga ok tot cur rfl HH.out.1 HH.out.2.1 (by omega) A g l.length l.length l rfl rfl HH.out.2.2.1 hroom ?_; intro w5 hr5 hk5; have hr5o := hk5.row HH.out.2.2.2.2.1 (by simpa using hne); have hc5 : w5.cell? ⟨go, k, none⟩ = some u0 := (hr5o.cell k).trans HU.out; have hf5 := hr5o.free k)
          exact ⟨trace_step HH.out.1 HH.out.2.1 HH.out.2.2.2.1 HH.out.2.2.2.2.1 HH.out.2.2.2.2.2.1 HH.out.2.2.2.2.2.2.1 HH.out.2.2.2.2.2.2.2.1 HH.out.2.2.2.2.2.2.2.2.1 HH.out.2.2.2.2.2.2.2.2.2 hlt hroom hne hr5 hk5 hgo hga, by simp [intOf]; omega⟩
        · obtain rfl : k = t.length := by omega
          have hlt' : ¬ (t.length : Int) < (t.length : Int) := by omega
          have HH := Lib.hid (And.intro rga (And.intro hcs (And.intro htake (And.intro rgo (And.intro hcl (And.intro hpc kk))))))
          clear rga hcs htake rgo hcl hpc kk
          go_wp2_with fail
          go_ret
          obtain ⟨rga, hcs, htake, rgo, hcl, hpc, kk⟩ := HH.out
          refine ⟨go, ga, cells, rfl, rgo, hcl, ?_, hpc, hgo, hga, kk⟩
          have e : cur = (t.flatten.map bv).toArray := by
            apply Array.toList_inj.1
            rw [HLE.out.2.1, List.take_length] at htake
            rw [← hcs, ← Array.length_toList, List.take_length] at htake
            exact htake
          rw [← e]; exact rga
end Go.Proofs.Ytbjonlfjfjlelaa
