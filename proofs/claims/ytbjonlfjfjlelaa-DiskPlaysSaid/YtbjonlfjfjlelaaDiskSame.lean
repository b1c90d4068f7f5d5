/-
  DISK: the law's own comparison of both.
-/
import Derived.Test.YtbjonlfjfjlelaaDiskBoth
import Derived.Test.YtbjonlfjfjlelaaDiskTrace
import Derived.BigQuiet
import Derived.BigRegion
namespace Go.Proofs.Ytbjonlfjfjlelaa
open Go.RowKit
set_option linter.unusedVariables false
set_option maxRecDepth 100000

theorem owns.get {w : World} {e : TypeId} {v : Value} {n : Nat} {xs : List Value} (h : owns w e 1 v n xs) (j : Nat) (hj : j < n) :
    ∃ g c u, v = .slice (some ⟨g, 0, none⟩) n c ∧ n ≤ c ∧ w.cell? ⟨g, j, none⟩ = some u ∧ xs[j]? = some u := by
  rcases h.2 with ⟨_, h0⟩ | ⟨g, cap, cur, rfl, hr, h1, h2, h3, h4⟩
  · omega
  · have hjc : j < cur.size := by omega
    refine ⟨g, cap, cur[j], rfl, h1, by rw [hr.cell, Array.getElem?_eq_getElem hjc], ?_⟩
    rw [← h4, List.getElem?_take, if_pos (by omega)]; simp [Array.getElem?_eq_getElem hjc]
/-- the copied pieces from number i on are as they were -/
structure curOk (wx : World) (ga : Nat) (t : List (List UInt8)) (i : Nat) (cur : Array Value) : Prop where
  row : rowAt wx ga 5 cur
  size : cur.size = t.flatten.length
  rest : cur.toList.drop (offT t i) = (t.drop i).flatten.map bv
  ints : ∀ u ∈ cur.toList, ∃ z, u = .int .u8 z
theorem curOk.next {wx : World} {ga : Nat} {t : List (List UInt8)} {i : Nat} {cur : Array Value} {l : List UInt8} (h : curOk wx ga t i cur) (hl : t[i]? = some l) : curOk wx ga t (i + 1) cur := by
  refine ⟨h.row, h.size, ?_, h.ints⟩
  have hi : i < t.length := by
    rcases Nat.lt_or_ge i t.length with q | q
    · exact q
    · rw [List.getElem?_eq_none q] at hl; cases hl
  have e : t.drop i = l :: t.drop (i + 1) := by
    rw [List.drop_eq_getElem_cons hi]
    rw [List.getElem?_eq_getElem hi] at hl
    injection hl with hl
    rw [hl]
  rw [offT_succ t i l hl, ← List.drop_drop, h.rest, e, List.flatten_cons, List.map_append]
  have : l.length = (l.map bv).length := by simp
  rw [this, List.drop_left]
theorem curOk.seen {wx : World} {ga : Nat} {t : List (List UInt8)} {i : Nat} {cur : Array Value} {l : List UInt8} {A : Option Addr} (h : curOk wx ga t i cur) (hl : t[i]? = some l) (hA : l ≠ [] → A = some ⟨ga, offT t i, none⟩) : seen wx A ga l := by
  intro hne
  refine ⟨_, hA hne, h.row.lt, fun j b hb => ?_⟩
  have hi : i < t.length := by
    rcases Nat.lt_or_ge i t.length with q | q
    · exact q
    · rw [List.getElem?_eq_none q] at hl; cases hl
  have e : t.drop i = l :: t.drop (i + 1) := by
    rw [List.drop_eq_getElem_cons hi]
    rw [List.getElem?_eq_getElem hi] at hl
    injection hl with hl
    rw [hl]
  have hj : j < l.length := by
    rcases Nat.lt_or_ge j l.length with q | q
    · exact q
    · rw [List.getElem?_eq_none q] at hb; cases hb
  have h1 : (cur.toList.drop (offT t i))[j]? = some (bv b) := by
    rw [h.rest, e, List.flatten_cons, List.map_append, List.getElem?_append_left (by simpa using hj), List.getElem?_map, hb]; rfl
  rw [List.getElem?_drop] at h1
  rw [h.row.cell]
  simpa using h1
theorem curOk.turn {wx : World} {ga : Nat} {t : List (List UInt8)} {i m : Nat} {cur : Array Value} (h : curOk wx ga t i cur) (hm : m < offT t i) (z : Int) : curOk (wx.setCell ⟨ga, m, none⟩ (.int .u8 z)) ga t i (cur.setIfInBounds m (.int .u8 z)) := by
  refine ⟨h.row.set m _, by simpa using h.size, ?_, fun u hu => ?_⟩
  · rw [Array.toList_setIfInBounds, List.drop_set_of_lt hm]; exact h.rest
  · rw [Array.toList_setIfInBounds] at hu
    rcases List.mem_or_eq_of_mem_set hu with q | q
    · exact h.ints u q
    · exact ⟨z, q⟩
theorem curOk.keep {S : List Nat} {wx wy : World} {ga : Nat} {t : List (List UInt8)} {i : Nat} {cur : Array Value} (h : curOk wx ga t i cur) (hk : keepBut S wx wy) (hS : ga ∉ S) : curOk wy ga t i cur := ⟨hk.row h.row hS, h.size, h.rest, h.ints⟩
theorem eqSame (A B : Option Addr) (g h c d n : Nat) (l : List UInt8) (w : World) (hn : l.length = n) (hl : seen w A g l) (hm : seen w B h l) :
    Calls Try.prog 57 #[.slice A n c, .slice B n d] w fun e w' => e = .returned (.bool true) ∧ w = w' := by
  have := eqBytes_n A B g h c d n n l l w hn hn hl hm
  rw [show (l == l) = true by simp] at this
  exact this
def sameRel (w0 : World) (p : Nat) (F : List Nat) (q : Nat) (G : List Nat) (d : DS) (gb go ga : Nat) (cells : Array Value) (i : Nat) (wx : World) : Prop :=
  both w0 wx p F q G d ∧ rowAt wx go 28 cells ∧ owns wx 5 1 (.slice (some ⟨gb, 0, none⟩) d.b.length d.b.length) d.b.length (d.b.map bv) ∧ ∃ cur, curOk wx ga d.t i cur
def sameRel1 (w0 : World) (p : Nat) (F : List Nat) (q : Nat) (G : List Nat) (d : DS) (gb go ga : Nat) (cells : Array Value) (v7 : Value) (wx : World) : Prop :=
  ∃ i : Nat, i ≤ d.t.length ∧ v7 = .int .i64 (i : Int) ∧ sameRel w0 p F q G d gb go ga cells i wx
def sameRel2 (w0 : World) (p : Nat) (F : List Nat) (q : Nat) (G : List Nat) (d : DS) (gb go ga : Nat) (cells : Array Value) (i n : Nat) (v8 : Value) (wx : World) : Prop :=
  ∃ k : Nat, k ≤ n ∧ v8 = .int .i64 (k : Int) ∧ sameRel w0 p F q G d gb go ga cells (i + 1) wx
def sameRel3 (w0 : World) (p : Nat) (F : List Nat) (q : Nat) (G : List Nat) (d : DS) (gb n : Nat) (v9 : Value) (wx : World) : Prop :=
  ∃ (j : Nat) (xs : List Value), j ≤ n ∧ v9 = .int .i64 (j : Int) ∧ owns wx 5 1 (.slice (some ⟨gb, 0, none⟩) n n) n xs ∧ (∀ u ∈ xs, ∃ z, u = .int .u8 z) ∧ both w0 wx p F q G d
theorem sameRel.over {w0 wx wy : World} {p q : Nat} {F G : List Nat} {d : DS} {gb go ga : Nat} {cells : Array Value} {i : Nat} (h : sameRel w0 p F q G d gb go ga cells i wx) (hk : keepBut [] wx wy) : sameRel w0 p F q G d gb go ga cells i wy := by
  obtain ⟨h1, h2, h3, cur, h4⟩ := h
  exact ⟨h1.over hk, hk.row h2 (by simp), h3.keep hk (by simp), cur, h4.keep hk (by simp)⟩
theorem sameRel.turn {w0 wx : World} {p q : Nat} {F G : List Nat} {d : DS} {gb go ga : Nat} {cells : Array Value} {i m : Nat} (h : sameRel w0 p F q G d gb go ga cells i wx) (hm : m < offT d.t i) (z : Int) (a1 : ga ∉ F) (a2 : ga ∉ G) (a3 : w0.heap.size ≤ ga) (a4 : gb ≠ ga) :
    sameRel w0 p F q G d gb go ga cells i (wx.setCell ⟨ga, m, none⟩ (.int .u8 z)) := by
  obtain ⟨h1, h2, h3, cur, h4⟩ := h
  have hk := (keepBut.refl [ga] wx).setCell ⟨ga, m, none⟩ (.int .u8 z) (by simp)
  have hne : go ≠ ga := rowAt.apart h2 h4.row (by decide)
  exact ⟨h1.poke hk (fun y hy => by rw [List.mem_singleton.1 hy]; exact a1) (fun y hy => by rw [List.mem_singleton.1 hy]; exact a2) (fun y hy => by rw [List.mem_singleton.1 hy]; exact a3), hk.row h2 (by simpa using hne), h3.keep hk (fun x hx hm => by
    simp only [homes_some, List.mem_singleton] at hx
    exact a4 (hx.symm.trans (List.mem_singleton.1 hm))), _, h4.turn hm z⟩
theorem sameRel.next {w0 wx : World} {p q : Nat} {F G : List Nat} {d : DS} {gb go ga : Nat} {cells : Array Value} {i : Nat} {l : List UInt8} (h : sameRel w0 p F q G d gb go ga cells i wx) (hl : d.t[i]? = some l) : sameRel w0 p F q G d gb go ga cells (i + 1) wx := by
  obtain ⟨h1, h2, h3, cur, h4⟩ := h
  exact ⟨h1, h2, h3, cur, h4.next hl⟩
def samePost (w0 : World) (p : Nat) (F : List Nat) (q : Nat) (G : List Nat) (d : DS) (e : Ending) (w' : World) : Prop := e = .returned (.bool true) ∧ both w0 w' p F q G d

set_option maxHeartbeats 8000000 in
theorem sameL_any (w0 w : World) (p : Nat) (F : List Nat) (q : Nat) (G : List Nat) (d : DS) (i0 : Nat) (h : both w0 w p F q G d) (hin : inD d i0) (hi : i0 ≤ 90) :
    Calls Try.prog 14 #[.pointer (some ⟨p, 0, none⟩), .pointer (some ⟨q, 0, none⟩)] w (samePost w0 p F q G d) := by
  have htl := hin.tl
  have htf := hin.tf
  have hbl := hin.len
  have hlt := h.lt
  have hb0 := h.1.2.2.size
  have HB := Lib.hid h
  clear h hin
  go_enter Try.func14, Try.ntmps14
  go_wp2_with fail
  refine (readD_any p F d _ HB.out.1.1).mono ?_; rintro e w1 ⟨rfl, hr1, hk1⟩
  have hB1 := HB.out.over hk1
  have hgb1 : w.heap.size < w1.heap.size := hr1.lt
  obtain ⟨gb, hgb⟩ : ∃ gb, w.heap.size = gb := ⟨_, rfl⟩
  rw [hgb] at hr1 hgb1 hlt hb0 ⊢
  have H1 := Lib.hid (And.intro hB1 hr1)
  clear hk1 hB1 hr1
  go_wp2_with fail
  refine (trace_any p F d _ H1.out.1.1.1 (by omega) (by omega)).mono ?_
  rintro e w2 ⟨go, ga, cells, rfl, hro, hcs, hra, hpc, hgo, hga, hk2⟩
  have hB2 := H1.out.1.over hk2
  have hrb2 := hk2.row H1.out.2 (by simp)
  have hob : owns w2 5 1 (.slice (some ⟨gb, 0, none⟩) d.b.length d.b.length) d.b.length (d.b.map bv) := owns_row_all hrb2 (by unfold maxLen; omega)
  have hcur : curOk w2 ga d.t 0 (d.t.flatten.map bv).toArray := ⟨hra, by rw [List.size_toArray, List.length_map], by rw [offT_zero]; rfl, fun u hu => by
    rw [List.toList_toArray] at hu; obtain ⟨x, _, rfl⟩ := List.mem_map.1 hu; exact ⟨_, rfl⟩⟩
  have hsb : seen w2 (some ⟨gb, 0, none⟩) gb d.b := seen_row hrb2 (by simp [List.take_of_length_le])
  obtain ⟨vb, vt, T, hv⟩ := id hB2.2.1
  obtain ⟨Ab, cb, gg, rfl, _, _, hsr, _⟩ := hv.own.seen
  have hTl : T.length = d.t.length := by rw [← hv.tr]; simp
  obtain ⟨A4, c4, rfl, hc4, _⟩ := hv.ownT.form
  have c0 : w2.cell? ⟨q, 0, none⟩ = some (.slice Ab d.b.length cb) := hv.row.cell 0
  have c1 : w2.cell? ⟨q, 1, none⟩ = some (.int .i64 (d.n : Int)) := hv.row.cell 1
  have c2 : w2.cell? ⟨q, 2, none⟩ = some (.bool d.dead) := hv.row.cell 2
  have c4' : w2.cell? ⟨q, 4, none⟩ = some (.slice A4 d.t.length c4) := by rw [← hTl]; exact hv.row.cell 4
  have HS := Lib.hid (And.intro hsb (And.intro hsr hB2.1.1))
  have HR : Hid (sameRel w0 p F q G d gb go ga cells 0 w2) := Lib.hid ⟨hB2, hro, hob, _, hcur⟩
  have HP := Lib.hid (And.intro hpc hcs)
  clear hro hcs hra hpc hk2 hB2 hrb2 hob hcur hsb hv hsr hTl hc4
  go_upto_region 2 with fail
  go_quiet ((first
    | (go_at_call 57; (with_reducible refine (eqSame (some ⟨gb, 0, none⟩) Ab gb gg d.b.length cb d.b.length d.b _ rfl (HS.out.1.keep ((keepBut.refl [] w2).drewN _) (by simp)) (HS.out.2.1.keep ((keepBut.refl [] w2).drewN _) (by simp))).mono ?_); rintro e w' ⟨rfl, rfl⟩; exact ⟨rfl, _, rfl⟩)
    | (go_at_call 20; (with_reducible refine (synced_any p F d _ (HS.out.2.2.keep ((keepBut.refl [] w2).drewN _) (by simp))).mono ?_); rintro e w' ⟨rfl, rfl⟩; exact ⟨rfl, _, rfl⟩)
    | (go_at_call 23; (with_reducible refine (dead_any p F d _ (HS.out.2.2.keep ((keepBut.refl [] w2).drewN _) (by simp))).mono ?_); rintro e w' ⟨rfl, rfl⟩; exact ⟨rfl, _, rfl⟩)))
  have HR2 := Lib.hid (HR.out.over ((keepBut.refl [] w2).drewN nq))
  have a1 : ga ∉ F := fun hm => by have := hlt.1 ga hm; omega
  have a2 : ga ∉ G := fun hm => by have := hlt.2 ga hm; omega
  have a3 : w0.heap.size ≤ ga := by omega
  have a4 : gb ≠ ga := by omega
  have b1 : gb ∉ F := fun hm => Nat.lt_irrefl _ (hlt.1 gb hm)
  have b2 : gb ∉ G := fun hm => Nat.lt_irrefl _ (hlt.2 gb hm)
  obtain ⟨Lt, hLt⟩ : ∃ Lt, d.t.length = Lt := ⟨_, rfl⟩
  obtain ⟨Lb, hLb⟩ : ∃ Lb, d.b.length = Lb := ⟨_, rfl⟩
  have HL := Lib.hid (And.intro hLt hLb)
  have hLtB : Lt ≤ 90 := by rw [← hLt]; omega
  have hLbB : Lb ≤ 27000 := by rw [← hLb]; omega
  have HF := Lib.hid (show d.t.flatten.length ≤ 27000 by omega)
  clear HR c0 c1 c2 c4' htl htf hbl
  rw [hLt, hLb]
  clear hLt hLb
  go_wp2_with fail
  go_loopw [7] (fun v7 wx => sameRel1 w0 p F q G d gb go ga cells v7 wx) (fun v7 _ => Lt - (intOf v7).toNat)
  case atStart => exact ⟨0, by omega, rfl, HR2.out⟩
  case round =>
    obtain ⟨i, hi2, rfl, hrel2⟩ := hrel
    rw [HL.out.1] at hi2
    clear HR2
    have HX := Lib.hid hrel2
    clear hrel2
    by_cases hlti : i < Lt
    · have hlti' : (i : Int) < (Lt : Int) := by omega
      obtain ⟨l, hl⟩ : ∃ l, d.t[i]? = some l := ⟨d.t[i]'(by rw [HL.out.1]; omega), by simp⟩
      obtain ⟨At, hcell, hAt⟩ := HP.out.1 i l (by rw [HL.out.1]; omega) hl
      obtain ⟨h1, h2, h3, cur, h4⟩ := HX.out
      have cgo := (h2.cell i).trans hcell
      obtain ⟨vb, vt, T', hv⟩ := h1.2.1
      have hTl : T'.length = Lt := by rw [← HL.out.1, ← hv.tr]; simp
      have hT := hv.ownT
      rw [hTl] at hT
      obtain ⟨gT, cT, u, rfl, hcT, cu, hu⟩ := hT.get i hlti
      have q4 : wr.cell? ⟨q, 4, none⟩ = some (.slice (some ⟨gT, 0, none⟩) Lt cT) := hv.row.cell 4
      obtain ⟨y, hy, rfl⟩ : ∃ y, T'[i]? = some y ∧ y.1 = u := by
        rw [List.getElem?_map] at hu
        cases hy : T'[i]? with
        | none => rw [hy] at hu; cases hu
        | some y => rw [hy] at hu; exact ⟨y, rfl, by simpa using hu⟩
      have hyl : y.2 = l := by
        have : (T'.map (·.2))[i]? = some y.2 := by rw [List.getElem?_map, hy]; rfl
        rw [hv.tr, hl] at this
        exact (Option.some.inj this).symm
      have hyo := (hv.rows y (List.mem_of_getElem? hy)).1
      rw [hyl] at hyo
      obtain ⟨Ay, cy, gy, hye, _, _, hsy, _⟩ := hyo.seen
      rw [hye] at cu
      obtain ⟨Ll, hLl⟩ : ∃ Ll, l.length = Ll := ⟨_, rfl⟩
      have hsA := h4.seen hl hAt
      have hoff := offT_succ d.t i l hl
      obtain ⟨O, hO⟩ : ∃ O, offT d.t i = O := ⟨_, rfl⟩
      rw [hLl] at hoff cgo cu
      rw [hO] at hoff hAt
      have hLlB : Ll ≤ 27000 := by have := offT_le d.t (i + 1); have := HF.out; omega
      have HE := Lib.hid (And.intro hsA (And.intro hsy hLl))
      have HN := Lib.hid (HX.out.next hl)
      have hrows := h2
      have HG := Lib.hid (And.intro hoff (And.intro hcell (And.intro hl hLl)))
      clear h1 h2 h3 h4 hv hT hu hy hyl hyo hye hsy hsA hcell hoff hrows HX hO
      go_upto_region 7 with fail
      go_quiet ((go_at_call 57; (with_reducible refine (eqSame At Ay ga gy Ll cy Ll l _ HE.out.2.2 (HE.out.1.keep ((keepBut.refl [] wr).drewN _) (by simp)) (HE.out.2.1.keep ((keepBut.refl [] wr).drewN _) (by simp))).mono ?_); rintro e w' ⟨rfl, rfl⟩; exact ⟨rfl, _, rfl⟩))
      have HN2 := Lib.hid (HN.out.over ((keepBut.refl [] wr).drewN nq))
      clear HN cgo cu q4
      go_wp2_with fail
      go_loopw [8] (fun v8 wx => sameRel2 w0 p F q G d gb go ga cells i Ll v8 wx) (fun v8 _ => Ll - (intOf v8).toNat)
      case atStart => exact ⟨0, by omega, rfl, HN2.out⟩
      case round =>
        obtain ⟨k, hk, rfl, hr2⟩ := hrel
        clear HN2
        have HY := Lib.hid hr2
        obtain ⟨h1, h2, h3, cur2, h4⟩ := hr2
        have cgo := (h2.cell i).trans HG.out.2.1
        rw [HG.out.2.2.2] at cgo
        clear h1 h3
        by_cases hltk : k < Ll
        · have hltk' : (k : Int) < (Ll : Int) := by omega
          have hAe := hAt (by rintro rfl; have := HG.out.2.2.2; simp at this; omega)
          subst hAe
          have hsz : O + k < cur2.size := by
            rw [h4.size]
            have := offT_le d.t (i + 1)
            have := HG.out.1
            omega
          have cga : wr.cell? ⟨ga, O + k, none⟩ = some cur2[O + k] := by rw [h4.row.cell, Array.getElem?_eq_getElem hsz]
          have fga := h4.row.free (O + k)
          obtain ⟨z, hz⟩ := h4.ints cur2[O + k] (Array.getElem_mem_toList hsz)
          rw [hz] at cga
          have hmO : O + k < offT d.t (i + 1) := by rw [HG.out.1]; omega
          clear h2 h4 hsz hz
          go_upto_region 12 with fail
          go_region
          go_wp2_with fail
          go_roundw
          case rel => exact ⟨k + 1, by omega, by go_num, (HY.out.turn hmO _ a1 a2 a3 a4).over ((keepBut.refl [] _).drew)⟩
          case measure => simp [intOf]; omega
        · obtain rfl : k = Ll := by omega
          clear h2 h4
          go_wp2_with fail
          go_roundw
          case rel => exact ⟨i + 1, by rw [HL.out.1]; omega, by go_num, HY.out⟩
          case measure => simp [intOf]; omega
    · obtain rfl : i = Lt := by omega
      obtain ⟨h1, h2, h3, cur, h4⟩ := HX.out
      rw [HL.out.2] at h3
      have H3 : Hid (sameRel3 w0 p F q G d gb Lb (.int .i64 0) wr) := Lib.hid ⟨0, _, by omega, rfl, h3, fun u hu => by
        obtain ⟨x, _, rfl⟩ := List.mem_map.1 hu
        exact ⟨_, rfl⟩, h1⟩
      clear h1 h2 h3 h4 HX
      go_wp2_with fail
      go_loopw [9] (fun v9 wx => sameRel3 w0 p F q G d gb Lb v9 wx) (fun v9 _ => Lb - (intOf v9).toNat)
      case atStart => exact H3.out
      case round =>
        obtain ⟨j, xs, hj, rfl, ho, hxs, hB⟩ := hrel
        clear H3
        by_cases hlt2 : j < Lb
        · have hlt2' : (j : Int) < (Lb : Int) := by omega
          obtain ⟨g, c, u, hve, hLc, hc, hx, hf, hhm, hset⟩ := ho.at j hlt2
          obtain ⟨z, rfl⟩ := hxs u (List.mem_of_getElem? hx)
          injection hve with e1 e2 e3
          injection e1 with e1
          injection e1 with e1
          subst e1
          have HQ := Lib.hid (And.intro hset (And.intro hxs hB))
          clear ho hxs hB hset hhm hx e2 e3
          go_wp2_with fail
          go_roundw
          case rel =>
            refine ⟨j + 1, _, by omega, by go_num, HQ.out.1 _, fun u hu => ?_, HQ.out.2.2.poke (S := [gb]) ((keepBut.refl [gb] wr).setCell _ _ (by simp)) (fun y hy => ?_) (fun y hy => ?_) (fun y hy => ?_)⟩
            · rcases List.mem_or_eq_of_mem_set hu with q1 | q1
              · exact HQ.out.2.1 u q1
              · exact ⟨_, q1⟩
            · rw [List.mem_singleton.1 hy]; exact b1
            · rw [List.mem_singleton.1 hy]; exact b2
            · rw [List.mem_singleton.1 hy]; exact hb0
          case measure => simp [intOf]; omega
        · obtain rfl : j = Lb := by omega
          have HQ := Lib.hid hB
          clear ho hxs hB
          go_wp2_with fail
          go_ret
          exact ⟨rfl, HQ.out⟩
end Go.Proofs.Ytbjonlfjfjlelaa
