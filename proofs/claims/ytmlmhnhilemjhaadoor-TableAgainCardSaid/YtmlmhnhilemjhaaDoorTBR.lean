/-
  TBR: TB57, TB58, TB59, joined.
-/
import Derived.Test.YtmlmhnhilemjhaaDoorTBQ
section
namespace Go.Proofs.YtmlmhnhilemjhaaDoor
open Go.RowKit
set_option linter.unusedVariables false
set_option maxRecDepth 100000
set_option linter.unusedSimpArgs false

theorem rdOs_len : ∀ (k : Nat) (x : RS × PT × Bool), (rdOs k x).2.1.objs.length ≤ x.2.1.objs.length + k
  | 0, x => Nat.le_refl _
  | k + 1, x => by
    have h1 := rdOs_len k x
    have h2 := put_len (rdOs k x).2.1 (rdO (rdOs k x).1).1
    show ((rdOs k x).2.1.put (rdO (rdOs k x).1).1).objs.length ≤ _
    omega
/-- a table that is read: k objects of it -/
def roAt (w wx : World) (p q g : Nat) (s0 : TS) (x : RS × PT × Bool) : Prop :=
  ∃ s, isT wx p s ∧ s.pure = x.2.1 ∧ isR wx q g x.1 ∧ (∀ y ∈ own p s, y ∈ own p s0 ∨ w.heap.size ≤ y) ∧ keepBut (q :: own p s0) w wx
theorem isT.own_le {w : World} {p : Nat} {s : TS} (h : isT w p s) : ∀ y ∈ own p s, y < w.heap.size := fun y hy => by
  unfold own at hy
  rcases List.mem_cons.1 hy with rfl | hy
  · exact h.row.lt
  · rcases List.mem_append.1 hy with hy | hy
    · rcases List.mem_append.1 hy with hy | hy
      · exact h.kown.lt y hy
      · exact h.vown.lt y hy
    · rcases List.mem_append.1 hy with hy | hy
      · exact h.iown.lt y hy
      · exact h.aown.lt y hy
theorem own_kv {p : Nat} {s : TS} : ∀ y ∈ p :: (homes s.kv ++ homes s.vv), y ∈ own p s := fun y hy => by
  unfold own
  rcases List.mem_cons.1 hy with rfl | hy
  · exact List.mem_cons_self
  · exact List.mem_cons_of_mem _ (List.mem_append_left _ hy)
theorem roAt_step {w wr w9 w10 : World} {p q g : Nat} {s0 s : TS} {P : PT} {r3 : RS} {b : OB} {kv vv : Value} {G : List Nat} (hP : s.pure = P) (hO : ∀ y ∈ own p s, y ∈ own p s0 ∨ w.heap.size ≤ y) (hK : keepBut (q :: own p s0) w wr) (kw : keepBut [q] wr w9) (hT : isT w9 p s) (hR : isR w9 q g r3) (hg : g ∉ own p s) (ok : Bool)
    (n : isT w10 p (s.withO b kv vv G) ∧ keepBut (p :: (homes s.kv ++ homes s.vv)) w9.drew w10 ∧ (∀ x ∈ homes kv, x ∈ homes s.kv ∨ w9.drew.heap.size ≤ x) ∧ (∀ x ∈ homes vv, x ∈ homes s.vv ∨ w9.drew.heap.size ≤ x)) :
    roAt w w10 p q g s0 (r3, P.put b.pure, ok) := by
  have k10 : keepBut (p :: (homes s.kv ++ homes s.vv)) w9 w10 := ((keepBut.refl _ w9).drew).then n.2.1 (fun x hx => .inl hx)
  have hs : w.heap.size ≤ w9.drew.heap.size := Nat.le_trans hK.size kw.size
  have k9 : keepBut (q :: own p s0) w w9 := hK.then kw (fun x hx => .inl (by simp at hx; simp [hx]))
  refine ⟨s.withO b kv vv G, n.1, by rw [put_pure, hP], hR.keepT hT k10 own_kv hg, fun y hy => ?_, k9.then k10 (fun x hx => ?_)⟩
  · have hy' : y ∈ p :: (homes kv ++ homes vv ++ (homes s.iv ++ homes s.av)) := hy
    rcases List.mem_cons.1 hy' with rfl | hy'
    · exact hO _ List.mem_cons_self
    · rcases List.mem_append.1 hy' with hy' | hy'
      · rcases List.mem_append.1 hy' with hy' | hy'
        · rcases n.2.2.1 y hy' with h | h
          · exact hO y (own_kv y (List.mem_cons_of_mem _ (List.mem_append_left _ h)))
          · exact .inr (Nat.le_trans hs h)
        · rcases n.2.2.2 y hy' with h | h
          · exact hO y (own_kv y (List.mem_cons_of_mem _ (List.mem_append_right _ h)))
          · exact .inr (Nat.le_trans hs h)
      · exact hO y (List.mem_cons_of_mem _ (List.mem_append_right _ hy'))
  · rcases hO x (own_kv x hx) with h | h
    · exact .inl (List.mem_cons_of_mem _ h)
    · exact .inr h
set_option maxHeartbeats 8000000 in
theorem readObjects_any (p q g : Nat) (s0 : TS) (r : RS) (w : World) (hR : isR w q g r) (hT : isT w p s0) (hg : g ∉ own p s0) (hgl : g < w.heap.size) (hb : r.l.length ≤ 140737488355328) (hn : s0.pure.objs.length ≤ 36) (hsz : sizesAt w) (h0 : 0 ∉ q :: own p s0) :
    Calls Tryd.prog 42 #[.pointer (some ⟨q, 0, none⟩), .pointer (some ⟨p, 0, none⟩)] w fun e w' =>
      e = .returned (.bool (rdOs (r.count 64).1.toNat ((r.count 64).2, s0.pure, true)).2.2) ∧ roAt w w' p q g s0 (rdOs (r.count 64).1.toNat ((r.count 64).2, s0.pure, true)) := by
  have hc := count_range r 64 (by omega)
  have hsh := RS.count_short r 64
  obtain ⟨N, hN⟩ : ∃ N : Nat, (r.count 64).1.toNat = N := ⟨_, rfl⟩
  have hNi : (r.count 64).1 = (N : Int) := by omega
  have hN6 : N ≤ 64 := by omega
  rw [hN]
  obtain ⟨X, hX⟩ : ∃ X : RS × PT × Bool, ((r.count 64).2, s0.pure, true) = X := ⟨_, rfl⟩
  rw [hX]
  have hXl : X.1.l.length ≤ 140737488355328 := by rw [← hX]; exact Nat.le_trans hsh hb
  have hXo : X.2.1.objs.length ≤ 36 := by rw [← hX]; exact hn
  have hq : q ∉ own p s0 := by
    obtain ⟨A, c, hrow, _⟩ := id hR
    exact hT.own_reader hrow
  have HH := Lib.hid (And.intro hR (And.intro hT (And.intro hg (And.intro hgl (And.intro hq (And.intro hNi hX))))))
  have HSZ := Lib.hid (And.intro hsz h0)
  clear hsz h0
  have HN := Lib.hid (And.intro hN6 (And.intro hXl hXo))
  clear hR hT hg hgl hb hn hc hsh hN hNi hXl hXo hq hX hN6
  go_enter Tryd.func42, Tryd.ntmps42
  go_upto_region 3 with (go_at_call 63; refine (count_any q g r 64 _ HH.out.1).mono ?_; intro e u1 hq; unfold countPost at hq; rw [HH.out.2.2.2.2.2.1] at hq; obtain ⟨rfl, hr, hk⟩ := hq; have Q := Lib.hid (And.intro hr hk); clear hr hk)
  have HS : Hid (roAt w u1 p q g s0 X) := Lib.hid (by
    obtain ⟨A, c, hrow, _⟩ := id HH.out.1
    refine ⟨s0, HH.out.2.1.keepR hrow Q.out.2, by rw [← HH.out.2.2.2.2.2.2], by rw [← HH.out.2.2.2.2.2.2]; exact Q.out.1, fun y hy => .inl hy, Q.out.2.more (by simp)⟩)
  clear Q
  go_loopw [5, 14] (fun v5 v14 wx => ∃ i : Nat, i ≤ N ∧ v14 = .int .i64 (i : Int) ∧ v5 = .bool (rdOs i X).2.2 ∧ roAt w wx p q g s0 (rdOs i X)) (fun _ v14 _ => N - (intOf v14).toNat)
  case atStart => exact ⟨0, by omega, rfl, by rw [show rdOs 0 X = X from rfl, ← HH.out.2.2.2.2.2.2], HS.out⟩
  case round =>
    obtain ⟨i, hi, rfl, rfl, hI⟩ := hrel
    by_cases hlt : i < N
    · have hlt' : (i : Int) < (N : Int) := by omega
      have hw1 : IntKind.i64.wrap ((i : Int) + 1) = (i : Int) + 1 := wraps_i64 _ (by omega) (by have := HN.out.1; omega)
      have HW := Lib.hid hw1
      obtain ⟨s, hT, hP, hR, hO, hK⟩ := hI
      have hrl : (rdOs i X).1.l.length ≤ 140737488355328 := Nat.le_trans (rdOs_short i X) HN.out.2.1
      have hno : s.names.length < 100 := by
        have h1 := rdOs_len i X
        have h2 := HN.out.2.2
        have h3 := HN.out.1
        rw [← names_pure s, hP]; unfold PT.names; rw [List.length_map]; omega
      obtain ⟨x, hx⟩ : ∃ x, rdOs i X = x := ⟨_, rfl⟩
      have hx1 : rdOs (i + 1) X = ((rdO x.1).2, x.2.1.put (rdO x.1).1, x.2.2 && !badO x.2.1 (rdO x.1).1) := by rw [← hx]; rfl
      rw [hx] at hP hR hrl
      rw [hx]
      have hgw : g < wr.heap.size := Nat.lt_of_lt_of_le HH.out.2.2.2.1 hK.size
      have hgo : g ∉ own p s := fun hm => by
        rcases hO g hm with h | h
        · exact HH.out.2.2.1 h
        · have := HH.out.2.2.2.1; omega
      have HX1 := Lib.hid hx1
      have HI := Lib.hid (And.intro hP (And.intro hO hK))
      have HB := Lib.hid (And.intro hrl (And.intro hno (And.intro hgw hgo)))
      have HT := Lib.hid (And.intro hT hR)
      obtain ⟨r0, hr0⟩ : ∃ r0, x.1 = r0 := ⟨_, rfl⟩
      clear hT hR hP hO hK hrl hno hgw hgo hx hx1
      rw [hr0] at HX1 HB HT
      obtain ⟨nm, hnm⟩ : ∃ nm, nmOf (r0.raw 32).1 = nm := ⟨_, rfl⟩
      obtain ⟨r1, hr1⟩ : ∃ r1, (r0.raw 32).2 = r1 := ⟨_, rfl⟩
      obtain ⟨vr, hvr⟩ : ∃ vr, (r1.count 9007199254740991).1 = vr := ⟨_, rfl⟩
      obtain ⟨r2, hr2⟩ : ∃ r2, (r1.count 9007199254740991).2 = r2 := ⟨_, rfl⟩
      obtain ⟨env, hen⟩ : ∃ env, (r2.text 285).1 = env := ⟨_, rfl⟩
      obtain ⟨r3, hr3⟩ : ∃ r3, (r2.text 285).2 = r3 := ⟨_, rfl⟩
      have hrd : rdO r0 = (⟨nm, vr, env⟩, r3) := by
        show ((⟨nmOf (r0.raw 32).1, ((r0.raw 32).2.count 9007199254740991).1, (((r0.raw 32).2.count 9007199254740991).2.text 285).1⟩ : OP), (((r0.raw 32).2.count 9007199254740991).2.text 285).2) = _
        rw [hnm, hr1, hvr, hr2, hen, hr3]
      have hrg := rdO_range r0
      rw [hrd] at hrg HX1
      have hl1 : r1.l.length ≤ r0.l.length := by rw [← hr1]; exact raw_short _ _
      have hl2 : r2.l.length ≤ r1.l.length := by rw [← hr2]; exact RS.count_short _ _
      have HL := Lib.hid (And.intro hl1 hl2)
      have HE := Lib.hid (And.intro hnm (And.intro hr1 (And.intro hvr (And.intro hr2 (And.intro hen hr3)))))
      have HG : Hid (nm.length = 32 ∧ (0 ≤ vr ∧ vr ≤ 9007199254740991) ∧ env.length ≤ 285) := Lib.hid hrg
      clear hnm hr1 hvr hr2 hen hr3 hrd hrg hl1 hl2 hr0
      go_upto_region 5 with (first
        | (go_at_call 64; refine (readName_any q g r0 _ HT.out.2 HB.out.1).mono ?_; rintro e w2 ⟨rfl, hr, hk⟩; rw [HE.out.1]; rw [HE.out.2.1] at hr; obtain ⟨w3, hw3⟩ : ∃ w3, w2.alloc (.cells (nameL nameZ).toArray 28) = w3 := ⟨_, rfl⟩; obtain ⟨b6, hb6⟩ : ∃ b6, w2.heap.size = b6 := ⟨_, rfl⟩; have ra : rowAt w3 b6 28 (nameL nameZ).toArray := hb6 ▸ hw3 ▸ rowAt.new _ _ _; have ka : keepBut [] w2 w3 := hw3 ▸ (keepBut.refl [] w2).alloc _; have H2 := Lib.hid (And.intro hr hk); have H3 := Lib.hid (And.intro hw3 (And.intro hb6 (And.intro ra ka))); clear hr hk hw3 ra ka hb6)
        | (with_reducible refine wpList_alloc_to _ _ rfl 28 rfl _ zv_nm H3.out.1 ?_; rw [H3.out.2.1])
        | (refine wpList_store_mid rfl 28 (.tmp 6) (.tmp 17) rfl b6 0 (nameL nm).toArray rfl rfl (H3.out.2.2.1.there (by simp only [List.size_toArray, nameL_len]; rw [HG.out.1]; decide)) (by rw [List.size_toArray, nameL_len, HG.out.1]; exact infoName) (all_oneCell_toArray (nameL_one (n := nm))) ?_))
      have r4 := H3.out.2.2.1.setL (vs := nameL nm) (o := 0)
      rw [putL_all (by simp only [List.size_toArray, nameL_len]; rw [HG.out.1]; decide)] at r4
      have k4 := H3.out.2.2.2.setL (vs := nameL nm) (g := b6) (o := 0) (.inr (by have := H3.out.2.1; omega))
      have hb6 : wr.heap.size ≤ b6 := by have := H3.out.2.1; have := H2.out.2.size; omega
      have hq6 : q ≠ b6 := by
        obtain ⟨A, c, hrow, _⟩ := id HT.out.2
        have := hrow.lt; omega
      have hr4 := H2.out.1.keep k4 (by simp) (by simp)
      have kk4 := H2.out.2.then k4 (by simp)
      generalize w3.setCells b6 0 (nameL nm) = w4 at *
      have H4 := Lib.hid (And.intro r4 (And.intro hr4 (And.intro kk4 (And.intro hb6 hq6))))
      clear r4 k4 hr4 kk4 hb6 hq6 H2 H3
      go_upto_region 6 with (first
        | (go_at_call 63; refine (count_any q g r1 9007199254740991 _ H4.out.2.1).mono ?_; intro e w5 hq; unfold countPost at hq; rw [HE.out.2.2.1, HE.out.2.2.2.1] at hq; obtain ⟨rfl, hr, hk⟩ := hq; have H5 := Lib.hid (And.intro hr hk); clear hr hk)
        | (go_at_call 65; refine (text_any q g r2 285 _ H5.out.1 (by have := HL.out; have := HB.out.1; omega)).mono ?_; intro e w6 hq; obtain ⟨v, rfl, ho, hr, hk⟩ := hq; rw [HE.out.2.2.2.2.1] at ho; rw [HE.out.2.2.2.2.2] at hr; obtain ⟨A, c, rfl, _, _, _, _⟩ := ho.1.form; have H6 := Lib.hid (And.intro ho (And.intro hr (And.intro hk hk.size))); clear ho hr hk))
      have r4 := H4.out.1
      have kB := H6.out.2.2.1
      have kA := H5.out.2
      have k46 := kA.then kB (by simp)
      have hq6 := H4.out.2.2.2.2
      have r6 := k46.row r4 (by simp; exact fun e => hq6 e.symm)
      have hGn : ∀ y ∈ homes (.slice A env.length c), w5.heap.size ≤ y := H6.out.1.2
      have hs5 : wr.heap.size ≤ w5.heap.size := Nat.le_trans H4.out.2.2.1.size kA.size
      have hb : bytesV w6 (homes (.slice A env.length c)) (.slice A env.length c) env := owns.bytes H6.out.1.1
      have hu := u8_homes H6.out.1.1
      have k07 := H4.out.2.2.1.then k46 (fun x hx => .inl hx)
      obtain ⟨w7, hw7⟩ : ∃ w7, w6.alloc (.cells #[.int .i64 vr, .slice A env.length c] 72) = w7 := ⟨_, rfl⟩
      obtain ⟨b7, hb7⟩ : ∃ b7, w6.heap.size = b7 := ⟨_, rfl⟩
      have r7 : rowAt w7 b7 72 #[.int .i64 vr, .slice A env.length c] := hb7 ▸ hw7 ▸ rowAt.new _ _ _
      have k7 : keepBut [] w6 w7 := hw7 ▸ (keepBut.refl [] w6).alloc _
      rw [hw7, hb7]
      have kw := k07.then k7 (by simp)
      obtain ⟨Ar, cr, hrow, _⟩ := id HT.out.2
      have hT7 := HT.out.1.keepR hrow kw
      have hR7 : isR w7 q g r3 := H6.out.2.1.keep k7 (by simp) (by simp)
      have HF := Lib.hid (And.intro (k7.row r6 (by simp)) (And.intro r7 (And.intro hT7 (And.intro hR7 kw))))
      have HBV : Hid (bytesV w7 (homes (.slice A env.length c)) (.slice A env.length c) env ∧ u8rows w7 (homes (.slice A env.length c)) ∧ ∀ y ∈ homes (.slice A env.length c), wr.heap.size ≤ y) := Lib.hid ⟨hb.keep k7 (by simp), fun y hy => let ⟨cs, hc⟩ := hu y hy; ⟨cs, k7.row hc (by simp)⟩, fun y hy => by have := hGn y hy; omega⟩
      have HSW : Hid (sizesAt w7) := Lib.hid ((HSZ.out.1.keep HI.out.2.2 HSZ.out.2).keep kw (fun hm => HSZ.out.2 (by simp at hm; simp [hm])))
      have HFB := Lib.hid (And.intro (show b6 ∉ own p s from fun hm => by have := HT.out.1.own_le b6 hm; have := H4.out.2.2.2.1; omega) (show b7 ∉ own p s from fun hm => by have := HT.out.1.own_le b7 hm; have := k07.size; omega))
      obtain ⟨hev, hel⟩ := hT7.evN nm
      obtain ⟨LA, hLA⟩ : ∃ LA, nameL (afterC s nm) = LA := ⟨_, rfl⟩
      have HLA := Lib.hid (And.intro (show LA.length = 32 by rw [← hLA, nameL_len, afterC_len hT7 nm]) (And.intro (show ∀ u ∈ LA, u.oneCell' = true by rw [← hLA]; exact nameL_one) hLA))
      obtain ⟨LG, hLG⟩ : ∃ LG, cellsO (getN s nm) = LG := ⟨_, rfl⟩
      have HLG := Lib.hid (And.intro (show LG.length = 2 by rw [← hLG, cellsO_eq]; rfl) (And.intro (show ∀ u ∈ LG, u.oneCell' = true by rw [← hLG, cellsO_eq]; intro u hu; rcases List.mem_cons.1 hu with rfl | hu; rfl; rw [List.mem_singleton.1 hu]; exact hev.one) hLG))
      obtain ⟨Z2, hZ2⟩ : ∃ Z2 : List Value, ([.int .i64 0, nilV] : List Value) = Z2 := ⟨_, rfl⟩
      have HZ2 : Hid ((Tryd.prog.info? 72).bind (·.zero) = some (.agg Z2.toArray) ∧ Z2.length = 2) := Lib.hid ⟨hZ2 ▸ zv_ob, hZ2 ▸ rfl⟩
      clear hZ2
      have HZN := Lib.hid (show (nameL nameZ).length = 32 by rw [nameL_len, nameZ_len])
      clear r4 kB kA k46 hq6 r6 hGn hs5 hb hu k07 hw7 hb7 r7 k7 kw hrow hT7 hR7 hev hel hLA hLG H4 H5 H6
      have HRG : Hid (∀ W, keepBut [] w7 W → isT W p s ∧ W.rangeAt b6 0 (nameL nm)) := Lib.hid (fun W k => ⟨HF.out.2.2.1.over k, (k.row HF.out.1 (by simp)).rangeAll⟩)
      have KS : keepBut [] w7 w7.drew := (keepBut.refl [] w7).drew
      refine wp_region_held_drew (S := fun W => keepBut [] w7 W) (by kernel_rfl) KS (fun _ => ?_)
      refine wpAnyH_take (i := 0) (oi := ⟨_, _, _, _, _, _⟩) (v := ?_) rfl (by kernel_rfl) (by kernel_rfl) (by kernel_rfl) (fun _ _ _ h => h) (Or.inl ⟨by rfl, ?_⟩) KS ?_
      rotate_left
      · intro w' hSw; (go_simp; try with_reducible rfl)
      try simp only [Act.put, List.setIfInBounds_toArray, List.set_cons_zero, List.set_cons_succ]
      refine wpAnyH_take (i := 1) (oi := ⟨_, _, _, _, _, _⟩) (v := ?_) rfl (by kernel_rfl) (by kernel_rfl) (by kernel_rfl) (fun _ _ _ h => h) (Or.inl ⟨by rfl, ?_⟩) KS ?_
      rotate_left
      · intro w' hSw; (go_simp; try with_reducible rfl)
      try simp only [Act.put, List.setIfInBounds_toArray, List.set_cons_zero, List.set_cons_succ]
      refine wpAnyH_take (i := 2) (oi := ⟨_, _, _, _, _, _⟩) (v := ?_) rfl (by kernel_rfl) (by kernel_rfl) (by kernel_rfl) (fun _ _ _ h => h) (Or.inl ⟨by rfl, ?_⟩) KS ?_
      rotate_left
      · intro w' hSw; (go_simp; try with_reducible rfl)
      try simp only [Act.put, List.setIfInBounds_toArray, List.set_cons_zero, List.set_cons_succ]
      refine wpAnyH_take (i := 3) (oi := ⟨_, _, _, _, _, _⟩) (v := .agg (nameL nm).toArray) rfl (by kernel_rfl) (by kernel_rfl) (by kernel_rfl) (fun _ _ _ h => h) (yieldsIf_mid 28 (.tmp 6) rfl b6 0 rfl (nameL nm) _ (fun w' hSw => (HRG.out w' hSw).2) Tryd.underlying28 rfl (by rw [nameL_len, HG.out.1]; exact infoName) ?_) KS ?_
      · rfl
      try simp only [Act.put, List.setIfInBounds_toArray, List.set_cons_zero, List.set_cons_succ]
      refine wpAnyH_ready (rs := [4, 8]) (by kernel_rfl) (by simp) ?_
      refine AllReadyH.cons (o := ⟨_, _, _, _, _, _⟩) rfl (fun K hK => ?_) (AllReadyH.cons (o := ⟨_, _, _, _, _, _⟩) rfl (fun K hK => ?_) AllReadyH.nil)
      focus (
        go_simp
        refine (afterN_any p s nm HG.out.1 _ (HRG.out _ KS).1).mono ?_
        rintro e wA ⟨rfl, kk⟩
        rw [HLA.out.2.2]
        have K2 := Lib.hid (KS.then kk (by simp))
        clear kk
        go_wp2_with fail
        refine hK.out _ _ K2.out (fun _ => ?_)
        clear hK K
        try simp only [Act.put, List.setIfInBounds_toArray, List.set_cons_zero, List.set_cons_succ]
        refine wpAnyH_take (i := 5) (oi := ⟨_, _, _, _, _, _⟩) (v := ?_) rfl (by kernel_rfl) (by kernel_rfl) (by kernel_rfl) (fun _ _ _ h => h) (Or.inl ⟨by rfl, ?_⟩) K2.out ?_
        rotate_left
        · intro w' hSw; (go_simp; try with_reducible rfl)
        try simp only [Act.put, List.setIfInBounds_toArray, List.set_cons_zero, List.set_cons_succ]
        refine wpAnyH_take (i := 6) (oi := ⟨_, _, _, _, _, _⟩) (v := ?_) rfl (by kernel_rfl) (by kernel_rfl) (by kernel_rfl) (fun _ _ _ h => h) (Or.inl ⟨by rfl, ?_⟩) K2.out ?_
        rotate_left
        · intro w' hSw; (go_simp; try with_reducible rfl)
        try simp only [Act.put, List.setIfInBounds_toArray, List.set_cons_zero, List.set_cons_succ]
        refine wpAnyH_take (i := 7) (oi := ⟨_, _, _, _, _, _⟩) (v := ?_) rfl (by kernel_rfl) (by kernel_rfl) (by kernel_rfl) (fun _ _ _ h => h) (Or.inl ⟨by rfl, ?_⟩) K2.out ?_
        rotate_left
        · intro w' hSw; (go_simp; try with_reducible rfl)
        try simp only [Act.put, List.setIfInBounds_toArray, List.set_cons_zero, List.set_cons_succ]
        refine wpAnyH_ready (rs := [8]) (by kernel_rfl) (by simp) ?_
        refine AllReadyH.cons (o := ⟨_, _, _, _, _, _⟩) rfl (fun K hK => ?_) AllReadyH.nil
        refine step_alloc_to _ _ rfl 28 rfl (nameL nameZ).toArray zv_nm (rfl : wA.alloc (.cells (nameL nameZ).toArray 28) = _) ?_
        refine hK.out _ _ (K2.out.alloc (.cells (nameL nameZ).toArray 28)) (fun _ => ?_)
        clear hK K
        try simp only [Act.put, List.setIfInBounds_toArray, List.set_cons_zero, List.set_cons_succ]
        have RQ := Lib.hid (rowAt.new wA 28 (nameL nameZ).toArray)
        have KQ := Lib.hid (And.intro (K2.out.alloc (.cells (nameL nameZ).toArray 28)) (show w7.heap.size ≤ wA.heap.size from K2.out.size))
        obtain ⟨d, hd⟩ : ∃ d, wA.heap.size = d := ⟨_, rfl⟩
        rw [hd] at RQ KQ ⊢
        generalize wA.alloc (.cells (nameL nameZ).toArray 28) = W at *
        clear hd)
      rotate_left
      focus (
        refine step_alloc_to _ _ rfl 28 rfl (nameL nameZ).toArray zv_nm (rfl : w7.drew.alloc (.cells (nameL nameZ).toArray 28) = _) ?_
        refine hK.out _ _ (KS.alloc (.cells (nameL nameZ).toArray 28)) (fun _ => ?_)
        clear hK K
        try simp only [Act.put, List.setIfInBounds_toArray, List.set_cons_zero, List.set_cons_succ]
        refine wpAnyH_ready (rs := [4]) (by kernel_rfl) (by simp) ?_
        refine AllReadyH.cons (o := ⟨_, _, _, _, _, _⟩) rfl (fun K hK => ?_) AllReadyH.nil
        go_simp
        refine (afterN_any p s nm HG.out.1 _ (HRG.out _ (KS.alloc (.cells (nameL nameZ).toArray 28))).1).mono ?_
        rintro e wA ⟨rfl, kk⟩
        rw [HLA.out.2.2]
        have K2 := Lib.hid ((KS.alloc (.cells (nameL nameZ).toArray 28)).then kk (by simp))
        have RQ := Lib.hid (kk.row (rowAt.new w7.drew 28 (nameL nameZ).toArray) (by simp))
        clear kk
        go_wp2_with fail
        refine hK.out _ _ K2.out (fun _ => ?_)
        clear hK K
        try simp only [Act.put, List.setIfInBounds_toArray, List.set_cons_zero, List.set_cons_succ]
        have KQ := Lib.hid (And.intro K2.out (show w7.heap.size ≤ w7.drew.heap.size from Nat.le_refl _))
        refine wpAnyH_take (i := 5) (oi := ⟨_, _, _, _, _, _⟩) (v := ?_) rfl (by kernel_rfl) (by kernel_rfl) (by kernel_rfl) (fun _ _ _ h => h) (Or.inl ⟨by rfl, ?_⟩) K2.out ?_
        rotate_left
        · intro w' hSw; (go_simp; try with_reducible rfl)
        try simp only [Act.put, List.setIfInBounds_toArray, List.set_cons_zero, List.set_cons_succ]
        refine wpAnyH_take (i := 6) (oi := ⟨_, _, _, _, _, _⟩) (v := ?_) rfl (by kernel_rfl) (by kernel_rfl) (by kernel_rfl) (fun _ _ _ h => h) (Or.inl ⟨by rfl, ?_⟩) K2.out ?_
        rotate_left
        · intro w' hSw; (go_simp; try with_reducible rfl)
        try simp only [Act.put, List.setIfInBounds_toArray, List.set_cons_zero, List.set_cons_succ]
        refine wpAnyH_take (i := 7) (oi := ⟨_, _, _, _, _, _⟩) (v := ?_) rfl (by kernel_rfl) (by kernel_rfl) (by kernel_rfl) (fun _ _ _ h => h) (Or.inl ⟨by rfl, ?_⟩) K2.out ?_
        rotate_left
        · intro w' hSw; (go_simp; try with_reducible rfl)
        try simp only [Act.put, List.setIfInBounds_toArray, List.set_cons_zero, List.set_cons_succ]
        obtain ⟨d, hd⟩ : ∃ d, w7.drew.heap.size = d := ⟨_, rfl⟩
        rw [hd] at RQ KQ
        try rw [hd]
        change w7.heap.size = d at hd
        try rw [hd]
        clear hd
        generalize wA = W at *)
      all_goals (
        refine wpAnyH_ready (rs := [9]) (by kernel_rfl) (by simp) ?_
        refine AllReadyH.cons (o := ⟨_, _, _, _, _, _⟩) rfl (fun K hK => ?_) AllReadyH.nil
        refine step_store_mid rfl 28 (.tmp 8) (.tmp 29) rfl d 0 LA.toArray rfl rfl (RQ.out.there (by have h1 := HLA.out.1; have h2 := HZN.out; simp only [List.size_toArray]; omega)) (by rw [List.size_toArray, HLA.out.1]; exact infoName) (all_oneCell_toArray HLA.out.2.1) ?_
        refine hK.out _ _ (KQ.out.1.setL (vs := LA) (o := 0) (.inr KQ.out.2)) (fun _ => ?_)
        clear hK K
        try simp only [Act.put, List.setIfInBounds_toArray, List.set_cons_zero, List.set_cons_succ]
        refine wpAnyH_take (i := 10) (oi := ⟨_, _, _, _, _, _⟩) (v := ?_) rfl (by kernel_rfl) (by kernel_rfl) (by kernel_rfl) (fun _ _ _ h => h) (Or.inl ⟨by rfl, ?_⟩) (KQ.out.1.setL (vs := LA) (o := 0) (.inr KQ.out.2)) ?_
        rotate_left
        · intro w' hSw; (go_simp; try with_reducible rfl)
        try simp only [Act.put, List.setIfInBounds_toArray, List.set_cons_zero, List.set_cons_succ]
        refine wpAnyH_done (by kernel_rfl) ?_ _
        have k5 : keepBut [] w7 (W.setCells d 0 LA) := (KQ.out.1.setL (vs := LA) (o := 0) (.inr KQ.out.2))
        go_upto_region 7 with fail
        try simp only [List.toList_toArray]
        generalize W.setCells d 0 LA = w8 at *
        have K8 := Lib.hid k5
        clear k5 RQ KQ K2 KS
        have HRG8 : Hid (∀ W, keepBut [] w8 W → isT W p s ∧ W.rangeAt b6 0 (nameL nm)) := Lib.hid (fun W k => HRG.out W (K8.out.then k (by simp)))
        have KS : keepBut [] w8 w8.drew := (keepBut.refl [] w8).drew
        refine wp_region_held_drew (S := fun W => keepBut [] w8 W) (by kernel_rfl) KS (fun _ => ?_)
        refine wpAnyH_take (i := 0) (oi := ⟨_, _, _, _, _, _⟩) (v := ?_) rfl (by kernel_rfl) (by kernel_rfl) (by kernel_rfl) (fun _ _ _ h => h) (Or.inl ⟨by rfl, ?_⟩) KS ?_
        rotate_left
        · intro w' hSw; (go_simp; try with_reducible rfl)
        try simp only [Act.put, List.setIfInBounds_toArray, List.set_cons_zero, List.set_cons_succ]
        refine wpAnyH_take (i := 1) (oi := ⟨_, _, _, _, _, _⟩) (v := ?_) rfl (by kernel_rfl) (by kernel_rfl) (by kernel_rfl) (fun _ _ _ h => h) (Or.inl ⟨by rfl, ?_⟩) KS ?_
        rotate_left
        · intro w' hSw; (go_simp; try with_reducible rfl)
        try simp only [Act.put, List.setIfInBounds_toArray, List.set_cons_zero, List.set_cons_succ]
        refine wpAnyH_take (i := 2) (oi := ⟨_, _, _, _, _, _⟩) (v := ?_) rfl (by kernel_rfl) (by kernel_rfl) (by kernel_rfl) (fun _ _ _ h => h) (Or.inl ⟨by rfl, ?_⟩) KS ?_
        rotate_left
        · intro w' hSw; (go_simp; try with_reducible rfl)
        try simp only [Act.put, List.setIfInBounds_toArray, List.set_cons_zero, List.set_cons_succ]
        refine wpAnyH_take (i := 3) (oi := ⟨_, _, _, _, _, _⟩) (v := .agg (nameL nm).toArray) rfl (by kernel_rfl) (by kernel_rfl) (by kernel_rfl) (fun _ _ _ h => h) (yieldsIf_mid 28 (.tmp 6) rfl b6 0 rfl (nameL nm) _ (fun w' hSw => (HRG8.out w' hSw).2) Tryd.underlying28 rfl (by rw [nameL_len, HG.out.1]; exact infoName) ?_) KS ?_
        · rfl
        try simp only [Act.put, List.setIfInBounds_toArray, List.set_cons_zero, List.set_cons_succ]
        refine wpAnyH_ready (rs := [4, 8]) (by kernel_rfl) (by simp) ?_
        refine AllReadyH.cons (o := ⟨_, _, _, _, _, _⟩) rfl (fun K hK => ?_) (AllReadyH.cons (o := ⟨_, _, _, _, _, _⟩) rfl (fun K hK => ?_) AllReadyH.nil)
        focus (
          go_simp
          refine (getN_any p s nm HG.out.1 _ (HRG8.out _ KS).1).mono ?_
          rintro e wA ⟨rfl, kk⟩
          rw [HLG.out.2.2]
          have K2 := Lib.hid (KS.then kk (by simp))
          clear kk
          go_wp2_with fail
          refine hK.out _ _ K2.out (fun _ => ?_)
          clear hK K
          try simp only [Act.put, List.setIfInBounds_toArray, List.set_cons_zero, List.set_cons_succ]
          refine wpAnyH_take (i := 5) (oi := ⟨_, _, _, _, _, _⟩) (v := ?_) rfl (by kernel_rfl) (by kernel_rfl) (by kernel_rfl) (fun _ _ _ h => h) (Or.inl ⟨by rfl, ?_⟩) K2.out ?_
          rotate_left
          · intro w' hSw; (go_simp; try with_reducible rfl)
          try simp only [Act.put, List.setIfInBounds_toArray, List.set_cons_zero, List.set_cons_succ]
          refine wpAnyH_take (i := 6) (oi := ⟨_, _, _, _, _, _⟩) (v := ?_) rfl (by kernel_rfl) (by kernel_rfl) (by kernel_rfl) (fun _ _ _ h => h) (Or.inl ⟨by rfl, ?_⟩) K2.out ?_
          rotate_left
          · intro w' hSw; (go_simp; try with_reducible rfl)
          try simp only [Act.put, List.setIfInBounds_toArray, List.set_cons_zero, List.set_cons_succ]
          refine wpAnyH_take (i := 7) (oi := ⟨_, _, _, _, _, _⟩) (v := ?_) rfl (by kernel_rfl) (by kernel_rfl) (by kernel_rfl) (fun _ _ _ h => h) (Or.inl ⟨by rfl, ?_⟩) K2.out ?_
          rotate_left
          · intro w' hSw; (go_simp; try with_reducible rfl)
          try simp only [Act.put, List.setIfInBounds_toArray, List.set_cons_zero, List.set_cons_succ]
          refine wpAnyH_ready (rs := [8]) (by kernel_rfl) (by simp) ?_
          refine AllReadyH.cons (o := ⟨_, _, _, _, _, _⟩) rfl (fun K hK => ?_) AllReadyH.nil
          refine step_alloc_to _ _ rfl 72 rfl Z2.toArray HZ2.out.1 (rfl : wA.alloc (.cells Z2.toArray 72) = _) ?_
          refine hK.out _ _ (K2.out.alloc (.cells Z2.toArray 72)) (fun _ => ?_)
          clear hK K
          try simp only [Act.put, List.setIfInBounds_toArray, List.set_cons_zero, List.set_cons_succ]
          have RQ := Lib.hid (rowAt.new wA 72 Z2.toArray)
          have KQ := Lib.hid (And.intro (K2.out.alloc (.cells Z2.toArray 72)) (show w8.heap.size ≤ wA.heap.size from K2.out.size))
          obtain ⟨d, hd⟩ : ∃ d, wA.heap.size = d := ⟨_, rfl⟩
          rw [hd] at RQ KQ ⊢
          generalize wA.alloc (.cells Z2.toArray 72) = W at *
          clear hd)
        rotate_left
        focus (
          refine step_alloc_to _ _ rfl 72 rfl Z2.toArray HZ2.out.1 (rfl : w8.drew.alloc (.cells Z2.toArray 72) = _) ?_
          refine hK.out _ _ (KS.alloc (.cells Z2.toArray 72)) (fun _ => ?_)
          clear hK K
          try simp only [Act.put, List.setIfInBounds_toArray, List.set_cons_zero, List.set_cons_succ]
          refine wpAnyH_ready (rs := [4]) (by kernel_rfl) (by simp) ?_
          refine AllReadyH.cons (o := ⟨_, _, _, _, _, _⟩) rfl (fun K hK => ?_) AllReadyH.nil
          go_simp
          refine (getN_any p s nm HG.out.1 _ (HRG8.out _ (KS.alloc (.cells Z2.toArray 72))).1).mono ?_
          rintro e wA ⟨rfl, kk⟩
          rw [HLG.out.2.2]
          have K2 := Lib.hid ((KS.alloc (.cells Z2.toArray 72)).then kk (by simp))
          have RQ := Lib.hid (kk.row (rowAt.new w8.drew 72 Z2.toArray) (by simp))
          clear kk
          go_wp2_with fail
          refine hK.out _ _ K2.out (fun _ => ?_)
          clear hK K
          try simp only [Act.put, List.setIfInBounds_toArray, List.set_cons_zero, List.set_cons_succ]
          have KQ := Lib.hid (And.intro K2.out (show w8.heap.size ≤ w8.drew.heap.size from Nat.le_refl _))
          refine wpAnyH_take (i := 5) (oi := ⟨_, _, _, _, _, _⟩) (v := ?_) rfl (by kernel_rfl) (by kernel_rfl) (by kernel_rfl) (fun _ _ _ h => h) (Or.inl ⟨by rfl, ?_⟩) K2.out ?_
          rotate_left
          · intro w' hSw; (go_simp; try with_reducible rfl)
          try simp only [Act.put, List.setIfInBounds_toArray, List.set_cons_zero, List.set_cons_succ]
          refine wpAnyH_take (i := 6) (oi := ⟨_, _, _, _, _, _⟩) (v := ?_) rfl (by kernel_rfl) (by kernel_rfl) (by kernel_rfl) (fun _ _ _ h => h) (Or.inl ⟨by rfl, ?_⟩) K2.out ?_
          rotate_left
          · intro w' hSw; (go_simp; try with_reducible rfl)
          try simp only [Act.put, List.setIfInBounds_toArray, List.set_cons_zero, List.set_cons_succ]
          refine wpAnyH_take (i := 7) (oi := ⟨_, _, _, _, _, _⟩) (v := ?_) rfl (by kernel_rfl) (by kernel_rfl) (by kernel_rfl) (fun _ _ _ h => h) (Or.inl ⟨by rfl, ?_⟩) K2.out ?_
          rotate_left
          · intro w' hSw; (go_simp; try with_reducible rfl)
          try simp only [Act.put, List.setIfInBounds_toArray, List.set_cons_zero, List.set_cons_succ]
          obtain ⟨d, hd⟩ : ∃ d, w8.drew.heap.size = d := ⟨_, rfl⟩
          rw [hd] at RQ KQ
          try rw [hd]
          change w8.heap.size = d at hd
          try rw [hd]
          clear hd
          generalize wA = W at *)
        all_goals (
          refine wpAnyH_ready (rs := [9]) (by kernel_rfl) (by simp) ?_
          refine AllReadyH.cons (o := ⟨_, _, _, _, _, _⟩) rfl (fun K hK => ?_) AllReadyH.nil
          refine step_store_mid rfl 72 (.tmp 10) (.tmp 37) rfl d 0 LG.toArray rfl rfl (RQ.out.there (by have h1 := HLG.out.1; have h2 := HZ2.out.2; simp only [List.size_toArray]; omega)) (by rw [List.size_toArray, HLG.out.1]; exact info_ob) (all_oneCell_toArray HLG.out.2.1) ?_
          refine hK.out _ _ (KQ.out.1.setL (vs := LG) (o := 0) (.inr KQ.out.2)) (fun _ => ?_)
          clear hK K
          try simp only [Act.put, List.setIfInBounds_toArray, List.set_cons_zero, List.set_cons_succ]
          refine wpAnyH_take (i := 10) (oi := ⟨_, _, _, _, _, _⟩) (v := ?_) rfl (by kernel_rfl) (by kernel_rfl) (by kernel_rfl) (fun _ _ _ h => h) (Or.inl ⟨by rfl, ?_⟩) (KQ.out.1.setL (vs := LG) (o := 0) (.inr KQ.out.2)) ?_
          rotate_left
          · intro w' hSw; (go_simp; try with_reducible rfl)
          try simp only [Act.put, List.setIfInBounds_toArray, List.set_cons_zero, List.set_cons_succ]
          refine wpAnyH_done (by kernel_rfl) ?_ _
          have k5 : keepBut [] w8 (W.setCells d 0 LG) := (KQ.out.1.setL (vs := LG) (o := 0) (.inr KQ.out.2))
          go_upto_region 8 with fail
          try simp only [List.toList_toArray]
          generalize W.setCells d 0 LG = w9 at *
          have K9 := Lib.hid (K8.out.then k5 (by simp))
          clear k5 RQ KQ K2 KS HRG8 HRG
          have R9 := K9.out.row HF.out.2.1 (by simp)
          have y0 : w9.cell? ⟨b7, 0, none⟩ = some (.int .i64 vr) := R9.cell 0
          have y1 : w9.cell? ⟨b7, 1, none⟩ = some (.slice A env.length c) := R9.cell 1
          have HZ9 : Hid (sizesAt w9) := Lib.hid (HSW.out.keep K9.out (by simp))
          have KE : Hid (keepBut [] w7 w9.drew) := Lib.hid (K9.out.then ((keepBut.refl [] w9).drew) (by simp))
          have HC : Hid (∀ W, keepBut (p :: (homes s.kv ++ homes s.vv)) w9 W → W.rangeAt b6 0 (nameL nm) ∧ W.rangeAt b7 0 (obL ⟨nm, vr, env, .slice A env.length c⟩)) := Lib.hid (fun W k => ⟨(k.row (K9.out.row HF.out.1 (by simp)) (fun hm => HFB.out.1 (own_kv _ hm))).rangeAll, (k.row R9 (fun hm => HFB.out.2 (own_kv _ hm))).rangeAll⟩)
          clear R9
          have HBD : Hid (badO x.2.1 ⟨nm, vr, env⟩ = ((afterN s nm).isSome || (hitN s nm || ((vr == 0) || !sizedP (env.length : Int))))) := Lib.hid (by unfold badO; rw [← HI.out.1, next_pure, hit_pure])
          generalize (afterN s nm).isSome = a at *
          generalize hitN s nm = bb at *
          generalize hsd : sizedP (env.length : Int) = sd at *
          have HSD := Lib.hid hsd
          clear hsd
          have hway : a = true ∨ (a = false ∧ bb = true) ∨ (a = false ∧ bb = false ∧ vr = 0) ∨ (a = false ∧ bb = false ∧ ¬ vr = 0 ∧ sd = false) ∨ (a = false ∧ bb = false ∧ ¬ vr = 0 ∧ sd = true) := by cases a <;> cases bb <;> cases sd <;> by_cases hv : vr = 0 <;> simp [hv]
          rcases hway with rfl | ⟨rfl, rfl⟩ | ⟨rfl, rfl, rfl⟩ | ⟨rfl, rfl, hv, rfl⟩ | ⟨rfl, rfl, hv, rfl⟩
          all_goals (
            go_upto_region 10 with (first | (go_at_call 50; refine (sized_any _ _ HZ9.out).mono ?_; rintro e wq ⟨rfl, rfl⟩; rw [HSD.out]))
            clear y0 y1
            have KT : keepBut (p :: (homes s.kv ++ homes s.vv)) w9 w9.drew := (keepBut.refl _ w9).drew
            refine wp_region_held_drew (S := fun V => keepBut (p :: (homes s.kv ++ homes s.vv)) w9 V) (by kernel_rfl) KT (fun _ => ?_)
            refine wpAnyH_take (i := 0) (oi := ⟨_, _, _, _, _, _⟩) (v := ?_) rfl (by kernel_rfl) (by kernel_rfl) (by kernel_rfl) (fun _ _ _ h => h) (Or.inl ⟨by rfl, ?_⟩) KT ?_
            rotate_left
            · intro w' hSw; (go_simp; try with_reducible rfl)
            try simp only [Act.put, List.setIfInBounds_toArray, List.set_cons_zero, List.set_cons_succ]
            refine wpAnyH_take (i := 1) (oi := ⟨_, _, _, _, _, _⟩) (v := ?_) rfl (by kernel_rfl) (by kernel_rfl) (by kernel_rfl) (fun _ _ _ h => h) (Or.inl ⟨by rfl, ?_⟩) KT ?_
            rotate_left
            · intro w' hSw; (go_simp; try with_reducible rfl)
            try simp only [Act.put, List.setIfInBounds_toArray, List.set_cons_zero, List.set_cons_succ]
            refine wpAnyH_take (i := 2) (oi := ⟨_, _, _, _, _, _⟩) (v := ?_) rfl (by kernel_rfl) (by kernel_rfl) (by kernel_rfl) (fun _ _ _ h => h) (Or.inl ⟨by rfl, ?_⟩) KT ?_
            rotate_left
            · intro w' hSw; (go_simp; try with_reducible rfl)
            try simp only [Act.put, List.setIfInBounds_toArray, List.set_cons_zero, List.set_cons_succ]
            refine wpAnyH_take (i := 3) (oi := ⟨_, _, _, _, _, _⟩) (v := .agg (nameL nm).toArray) rfl (by kernel_rfl) (by kernel_rfl) (by kernel_rfl) (fun _ _ _ h => h) (yieldsIf_mid 28 (.tmp 6) rfl b6 0 rfl (nameL nm) _ (fun w' hSw => (HC.out w' hSw).1) Tryd.underlying28 rfl (by rw [nameL_len, HG.out.1]; exact infoName) ?_) KT ?_
            · rfl
            try simp only [Act.put, List.setIfInBounds_toArray, List.set_cons_zero, List.set_cons_succ]
            refine wpAnyH_take (i := 4) (oi := ⟨_, _, _, _, _, _⟩) (v := .agg ((obL ⟨nm, _, env, .slice A env.length c⟩)).toArray) rfl (by kernel_rfl) (by kernel_rfl) (by kernel_rfl) (fun _ _ _ h => h) (yieldsIf_mid 72 (.tmp 7) rfl b7 0 rfl ((obL ⟨nm, _, env, .slice A env.length c⟩)) _ (fun w' hSw => (HC.out w' hSw).2) Tryd.underlying72 rfl (info_ob) ?_) KT ?_
            · rfl
            try simp only [Act.put, List.setIfInBounds_toArray, List.set_cons_zero, List.set_cons_succ]
            refine wpAnyH_ready (rs := [5]) (by kernel_rfl) (by simp) ?_
            refine AllReadyH.cons (o := ⟨_, _, _, _, _, _⟩) rfl (fun K hK => ?_) AllReadyH.nil
            go_simp
            refine (putO_any p s ⟨nm, _, env, .slice A env.length c⟩ (homes (.slice A env.length c)) HG.out.1 _ (HF.out.2.2.1.over KE.out) HB.out.2.1 (by have := HG.out.2.2; show env.length ≤ 1000; omega) (HBV.out.1.keep KE.out (by simp)) (fun y hy => let ⟨cs, hc⟩ := HBV.out.2.1 y hy; ⟨cs, KE.out.row hc (by simp)⟩)).mono ?_
            rintro e w10 ⟨kv, vv, rfl, n10⟩
            have N10 := Lib.hid n10
            clear n10
            go_wp2_with fail
            refine hK.out _ _ (KT.then N10.out.2.1 (fun x hx => .inl hx)) (fun _ => ?_)
            clear hK K
            try simp only [Act.put, List.setIfInBounds_toArray, List.set_cons_zero, List.set_cons_succ]
            refine wpAnyH_done (by kernel_rfl) ?_ _
            go_wp2_with fail
            go_roundw
            case' rel => exact ⟨i + 1, by omega, by go_num, by rw [HX1.out, HBD.out]; first | (simp; done) | (simp [hv]; done), by rw [HX1.out]; exact roAt_step (b := ⟨nm, _, env, .slice A env.length c⟩) HI.out.1 HI.out.2.1 HI.out.2.2 (HF.out.2.2.2.2.then K9.out (by simp)) (HF.out.2.2.1.over K9.out) (HF.out.2.2.2.1.keep K9.out (by simp) (by simp)) HB.out.2.2.2 _ N10.out⟩
            case' measure => simp [intOf]; omega)))
    · obtain rfl : i = N := by omega
      have hI' := Lib.hid hI
      clear hI
      go_wp2_with fail
      go_ret
      exact ⟨rfl, hI'.out⟩
end Go.Proofs.YtmlmhnhilemjhaaDoor
end

section
namespace Go.Proofs.YtmlmhnhilemjhaaDoor
open Go.RowKit
set_option linter.unusedVariables false
set_option maxRecDepth 100000
set_option linter.unusedSimpArgs false

theorem build_an01234 (client num code version epoch : Int) : Tryd.prog.built 40 [(0, .int .i64 client), (1, .int .i64 num), (2, .int .i64 code), (3, .int .i64 version), (4, .int .i64 epoch)] = some (anL ⟨client, num, code, version, epoch, nameZ, []⟩ nilV).toArray := by
  rw [built_an]
  rw [fill_cons _ _ 0 _ _ 0 1 rfl rfl (by simp only [List.size_toArray]; rw [anL_len (by first | exact anZero_name | rfl)]; omega)]
  rw [show (Value.int .i64 client).cells.toList = [.int .i64 client] from rfl, an_put_client]
  rw [fill_cons _ _ 1 _ _ 1 1 rfl rfl (by simp only [List.size_toArray]; rw [anL_len (by first | exact anZero_name | rfl)]; omega)]
  rw [show (Value.int .i64 num).cells.toList = [.int .i64 num] from rfl, an_put_num]
  rw [fill_cons _ _ 2 _ _ 2 1 rfl rfl (by simp only [List.size_toArray]; rw [anL_len (by first | exact anZero_name | rfl)]; omega)]
  rw [show (Value.int .i64 code).cells.toList = [.int .i64 code] from rfl, an_put_code]
  rw [fill_cons _ _ 3 _ _ 3 1 rfl rfl (by simp only [List.size_toArray]; rw [anL_len (by first | exact anZero_name | rfl)]; omega)]
  rw [show (Value.int .i64 version).cells.toList = [.int .i64 version] from rfl, an_put_version]
  rw [fill_cons _ _ 4 _ _ 4 1 rfl rfl (by simp only [List.size_toArray]; rw [anL_len (by first | exact anZero_name | rfl)]; omega)]
  rw [show (Value.int .i64 epoch).cells.toList = [.int .i64 epoch] from rfl, an_put_epoch]
  rfl
theorem putA_lenP (P : PT) (b : AN) : (P.putA b).answers.length ≤ P.answers.length + 1 := by
  unfold PT.putA
  dsimp only
  split
  · simp
  · unfold insAt; simp; omega
theorem rdAs_len : ∀ (k : Nat) (x : RS × PT × Bool), (rdAs k x).2.1.answers.length ≤ x.2.1.answers.length + k
  | 0, x => Nat.le_refl _
  | k + 1, x => by
    have h1 := rdAs_len k x
    have h2 := putA_lenP (rdAs k x).2.1 (rdA (rdAs k x).1).1
    show ((rdAs k x).2.1.putA (rdA (rdAs k x).1).1).answers.length ≤ _
    omega
theorem num_short (r : RS) (n : Int) : (r.num n).2.l.length ≤ r.l.length := by
  unfold RS.num
  split
  · split
    · split
      · unfold RS.fail RS.past; split <;> (try split) <;> simp
      · unfold RS.past; split <;> (try split) <;> simp
    · unfold RS.past; split <;> (try split) <;> simp
  · unfold RS.fail; split <;> simp
theorem rdA_short (r : RS) : (rdA r).2.l.length ≤ r.l.length :=
  Nat.le_trans (text_short _ _) (Nat.le_trans (raw_short _ _) (Nat.le_trans (num_short _ _) (Nat.le_trans (RS.count_short _ _) (Nat.le_trans (num_short _ _) (Nat.le_trans (RS.count_short _ _) (num_short _ _))))))
theorem rdAs_short : ∀ (k : Nat) (x : RS × PT × Bool), (rdAs k x).1.l.length ≤ x.1.l.length
  | 0, x => Nat.le_refl _
  | k + 1, x => Nat.le_trans (rdA_short _) (rdAs_short k x)
theorem own_ia {p : Nat} {s : TS} : ∀ y ∈ p :: (homes s.iv ++ homes s.av), y ∈ own p s := fun y hy => by
  unfold own
  rcases List.mem_cons.1 hy with rfl | hy
  · exact List.mem_cons_self
  · exact List.mem_cons_of_mem _ (List.mem_append_right _ hy)
theorem roAt_stepA {w wr w9 w10 : World} {p q g : Nat} {s0 s : TS} {P : PT} {r3 : RS} {b : AB} {iv av : Value} {G : List Nat} (hP : s.pure = P) (hO : ∀ y ∈ own p s, y ∈ own p s0 ∨ w.heap.size ≤ y) (hK : keepBut (q :: own p s0) w wr) (kw : keepBut [q] wr w9) (hT : isT w9 p s) (hR : isR w9 q g r3) (hg : g ∉ own p s) (ok : Bool)
    (n : isT w10 p (s.withA b iv av G) ∧ keepBut (p :: (homes s.iv ++ homes s.av)) w9.drew w10 ∧ (∀ x ∈ homes iv, x ∈ homes s.iv ∨ w9.drew.heap.size ≤ x) ∧ (∀ x ∈ homes av, x ∈ homes s.av ∨ w9.drew.heap.size ≤ x)) :
    roAt w w10 p q g s0 (r3, P.putA b.ans, ok) := by
  have k10 : keepBut (p :: (homes s.iv ++ homes s.av)) w9 w10 := ((keepBut.refl _ w9).drew).then n.2.1 (fun x hx => .inl hx)
  have hs : w.heap.size ≤ w9.drew.heap.size := Nat.le_trans hK.size kw.size
  have k9 : keepBut (q :: own p s0) w w9 := hK.then kw (fun x hx => .inl (by simp at hx; simp [hx]))
  refine ⟨s.withA b iv av G, n.1, by rw [putA_pure, hP], hR.keepT hT k10 own_ia hg, fun y hy => ?_, k9.then k10 (fun x hx => ?_)⟩
  · have hy' : y ∈ p :: (homes s.kv ++ homes s.vv ++ (homes iv ++ homes av)) := hy
    rcases List.mem_cons.1 hy' with rfl | hy'
    · exact hO _ List.mem_cons_self
    · rcases List.mem_append.1 hy' with hy' | hy'
      · exact hO y (List.mem_cons_of_mem _ (List.mem_append_left _ hy'))
      · rcases List.mem_append.1 hy' with hy' | hy'
        · rcases n.2.2.1 y hy' with h | h
          · exact hO y (own_ia y (List.mem_cons_of_mem _ (List.mem_append_left _ h)))
          · exact .inr (Nat.le_trans hs h)
        · rcases n.2.2.2 y hy' with h | h
          · exact hO y (own_ia y (List.mem_cons_of_mem _ (List.mem_append_right _ h)))
          · exact .inr (Nat.le_trans hs h)
  · rcases hO x (own_ia x hx) with h | h
    · exact .inl (List.mem_cons_of_mem _ h)
    · exact .inr h
set_option maxHeartbeats 8000000 in
theorem readAnswers_any (p q g : Nat) (s0 : TS) (r : RS) (w : World) (hR : isR w q g r) (hT : isT w p s0) (hg : g ∉ own p s0) (hgl : g < w.heap.size) (hb : r.l.length ≤ 140737488355328) (hn : s0.pure.answers.length ≤ 36) (hsz : sizesAt w) (h0 : 0 ∉ q :: own p s0) :
    Calls Tryd.prog 43 #[.pointer (some ⟨q, 0, none⟩), .pointer (some ⟨p, 0, none⟩)] w fun e w' =>
      e = .returned (.bool (rdAs (r.count 3).1.toNat ((r.count 3).2, s0.pure, true)).2.2) ∧ roAt w w' p q g s0 (rdAs (r.count 3).1.toNat ((r.count 3).2, s0.pure, true)) := by
  have hc := count_range r 3 (by omega)
  have hsh := RS.count_short r 3
  obtain ⟨N, hN⟩ : ∃ N : Nat, (r.count 3).1.toNat = N := ⟨_, rfl⟩
  have hNi : (r.count 3).1 = (N : Int) := by omega
  have hN6 : N ≤ 3 := by omega
  rw [hN]
  obtain ⟨X, hX⟩ : ∃ X : RS × PT × Bool, ((r.count 3).2, s0.pure, true) = X := ⟨_, rfl⟩
  rw [hX]
  have hXl : X.1.l.length ≤ 140737488355328 := by rw [← hX]; exact Nat.le_trans hsh hb
  have hXo : X.2.1.answers.length ≤ 36 := by rw [← hX]; exact hn
  have hq : q ∉ own p s0 := by
    obtain ⟨A, c, hrow, _⟩ := id hR
    exact hT.own_reader hrow
  have HH := Lib.hid (And.intro hR (And.intro hT (And.intro hg (And.intro hgl (And.intro hq (And.intro hNi hX))))))
  have HSZ := Lib.hid (And.intro hsz h0)
  clear hsz h0
  have HN := Lib.hid (And.intro hN6 (And.intro hXl hXo))
  clear hR hT hg hgl hb hn hc hsh hN hNi hXl hXo hq hX hN6
  go_enter Tryd.func43, Tryd.ntmps43
  go_upto_region 3 with (go_at_call 63; refine (count_any q g r 3 _ HH.out.1).mono ?_; intro e u1 hq; unfold countPost at hq; rw [HH.out.2.2.2.2.2.1] at hq; obtain ⟨rfl, hr, hk⟩ := hq; have Q := Lib.hid (And.intro hr hk); clear hr hk)
  have HS : Hid (roAt w u1 p q g s0 X) := Lib.hid (by
    obtain ⟨A, c, hrow, _⟩ := id HH.out.1
    refine ⟨s0, HH.out.2.1.keepR hrow Q.out.2, by rw [← HH.out.2.2.2.2.2.2], by rw [← HH.out.2.2.2.2.2.2]; exact Q.out.1, fun y hy => .inl hy, Q.out.2.more (by simp)⟩)
  clear Q
  go_loopw [5, 13] (fun v5 v14 wx => ∃ i : Nat, i ≤ N ∧ v14 = .int .i64 (i : Int) ∧ v5 = .bool (rdAs i X).2.2 ∧ roAt w wx p q g s0 (rdAs i X)) (fun _ v14 _ => N - (intOf v14).toNat)
  case atStart => exact ⟨0, by omega, rfl, by rw [show rdAs 0 X = X from rfl, ← HH.out.2.2.2.2.2.2], HS.out⟩
  case round =>
    obtain ⟨i, hi, rfl, rfl, hI⟩ := hrel
    by_cases hlt : i < N
    · have hlt' : (i : Int) < (N : Int) := by omega
      have hw1 : IntKind.i64.wrap ((i : Int) + 1) = (i : Int) + 1 := wraps_i64 _ (by omega) (by have := HN.out.1; omega)
      have HW := Lib.hid hw1
      obtain ⟨s, hT, hP, hR, hO, hK⟩ := hI
      have hrl : (rdAs i X).1.l.length ≤ 140737488355328 := Nat.le_trans (rdAs_short i X) HN.out.2.1
      have hno : s.keys.length < 100 := by
        have h1 := rdAs_len i X
        have h2 := HN.out.2.2
        have h3 := HN.out.1
        rw [← keys_pure s, hP]; unfold PT.keys; rw [List.length_map]; omega
      obtain ⟨x, hx⟩ : ∃ x, rdAs i X = x := ⟨_, rfl⟩
      have hx1 : rdAs (i + 1) X = ((rdA x.1).2, x.2.1.putA (rdA x.1).1, x.2.2 && !badA x.2.1 (rdA x.1).1) := by rw [← hx]; rfl
      rw [hx] at hP hR hrl
      rw [hx]
      have hgw : g < wr.heap.size := Nat.lt_of_lt_of_le HH.out.2.2.2.1 hK.size
      have hgo : g ∉ own p s := fun hm => by
        rcases hO g hm with h | h
        · exact HH.out.2.2.1 h
        · have := HH.out.2.2.2.1; omega
      have HX1 := Lib.hid hx1
      have HI := Lib.hid (And.intro hP (And.intro hO hK))
      have HB := Lib.hid (And.intro hrl (And.intro hno (And.intro hgw hgo)))
      obtain ⟨Ar, cr, hrow, -⟩ := id hR
      have HRR := Lib.hid (And.intro hT hrow)
      have HT := Lib.hid (And.intro hT hR)
      obtain ⟨r0, hr0⟩ : ∃ r0, x.1 = r0 := ⟨_, rfl⟩
      clear hT hR hP hO hK hrl hno hgw hgo hx hx1 hrow
      rw [hr0] at HX1 HB HT
      obtain ⟨cl, e1⟩ : ∃ v, (r0.num 1).1 = v := ⟨_, rfl⟩
      obtain ⟨r1, f1⟩ : ∃ v, (r0.num 1).2 = v := ⟨_, rfl⟩
      obtain ⟨nu, e2⟩ : ∃ v, (r1.count 9007199254740991).1 = v := ⟨_, rfl⟩
      obtain ⟨r2, f2⟩ : ∃ v, (r1.count 9007199254740991).2 = v := ⟨_, rfl⟩
      obtain ⟨co, e3⟩ : ∃ v, (r2.num 1).1 = v := ⟨_, rfl⟩
      obtain ⟨r3, f3⟩ : ∃ v, (r2.num 1).2 = v := ⟨_, rfl⟩
      obtain ⟨ve, e4⟩ : ∃ v, (r3.count 9007199254740991).1 = v := ⟨_, rfl⟩
      obtain ⟨r4, f4⟩ : ∃ v, (r3.count 9007199254740991).2 = v := ⟨_, rfl⟩
      obtain ⟨ep, e5⟩ : ∃ v, (r4.num 1).1 = v := ⟨_, rfl⟩
      obtain ⟨r5, f5⟩ : ∃ v, (r4.num 1).2 = v := ⟨_, rfl⟩
      obtain ⟨nm, e6⟩ : ∃ v, nmOf (r5.raw 32).1 = v := ⟨_, rfl⟩
      obtain ⟨r6, f6⟩ : ∃ v, (r5.raw 32).2 = v := ⟨_, rfl⟩
      obtain ⟨env, e7⟩ : ∃ v, (r6.text 285).1 = v := ⟨_, rfl⟩
      obtain ⟨r7, f7⟩ : ∃ v, (r6.text 285).2 = v := ⟨_, rfl⟩
      have hrd : rdA r0 = (⟨cl, nu, co, ve, ep, nm, env⟩, r7) := by
        unfold rdA mxI2
        dsimp only
        rw [e1, f1, e2, f2, e3, f3, e4, f4, e5, f5, e6, f6, e7, f7]
      have hrg := rdA_range r0
      rw [hrd] at hrg HX1
      have hl5 : r5.l.length ≤ r0.l.length := by rw [← f5, ← f4, ← f3, ← f2, ← f1]; exact Nat.le_trans (num_short _ _) (Nat.le_trans (RS.count_short _ _) (Nat.le_trans (num_short _ _) (Nat.le_trans (RS.count_short _ _) (num_short _ _))))
      have hl6 : r6.l.length ≤ r5.l.length := by rw [← f6]; exact raw_short _ _
      have HL := Lib.hid (And.intro hl5 hl6)
      have HE := Lib.hid (And.intro (And.intro e1 f1) (And.intro (And.intro e2 f2) (And.intro (And.intro e3 f3) (And.intro (And.intro e4 f4) (And.intro (And.intro e5 f5) (And.intro (And.intro e6 f6) (And.intro e7 f7)))))))
      have HG : Hid (nm.length = 32 ∧ ((0 ≤ cl ∧ cl < 256) ∧ (0 ≤ nu ∧ nu ≤ 9007199254740991) ∧ (0 ≤ co ∧ co < 256) ∧ (0 ≤ ve ∧ ve ≤ 9007199254740991) ∧ (0 ≤ ep ∧ ep < 256)) ∧ env.length ≤ 285) := Lib.hid hrg
      clear e1 f1 e2 f2 e3 f3 e4 f4 e5 f5 e6 f6 e7 f7 hrd hrg hl5 hl6 hr0
      obtain ⟨Z, hZ⟩ : ∃ Z, anL anZero nilV = Z := ⟨_, rfl⟩
      have HZ : Hid ((Tryd.prog.info? 40).bind (·.zero) = some (.agg Z.toArray) ∧ Z.length = 38) := Lib.hid ⟨hZ ▸ zv_an, hZ ▸ anL_len anZero_name⟩
      obtain ⟨B, hB⟩ : ∃ B, anL ⟨cl, nu, co, ve, ep, nameZ, []⟩ nilV = B := ⟨_, rfl⟩
      have HBB := Lib.hid (And.intro (show B.length = 38 by rw [← hB]; exact anL_len nameZ_len) (And.intro (show ∀ v ∈ B, v.oneCell' = true by rw [← hB]; exact anL_one _ rfl) (And.intro hB (hB ▸ build_an01234 cl nu co ve ep))))
      clear hZ hB
      go_upto_region 5 with (first
        | (go_at_call 41; (with_reducible refine (num_any q g r0 1 _ HT.out.2).mono ?_); intro e u2 hq; unfold numPost at hq; rw [HE.out.1.1, HE.out.1.2] at hq; obtain ⟨rfl, hr, hk⟩ := hq; have Q1 := Lib.hid (And.intro hr hk); clear hr hk)
        | (go_at_call 63; (with_reducible refine (count_any q g r1 9007199254740991 _ Q1.out.1).mono ?_); intro e u3 hq; unfold countPost at hq; rw [HE.out.2.1.1, HE.out.2.1.2] at hq; obtain ⟨rfl, hr, hk⟩ := hq; have Q2 := Lib.hid (And.intro hr (Q1.out.2.then hk (fun y hy => .inl hy))); clear hr hk Q1)
        | (go_at_call 41; (with_reducible refine (num_any q g r2 1 _ Q2.out.1).mono ?_); intro e u4 hq; unfold numPost at hq; rw [HE.out.2.2.1.1, HE.out.2.2.1.2] at hq; obtain ⟨rfl, hr, hk⟩ := hq; have Q3 := Lib.hid (And.intro hr (Q2.out.2.then hk (fun y hy => .inl hy))); clear hr hk Q2)
        | (go_at_call 63; (with_reducible refine (count_any q g r3 9007199254740991 _ Q3.out.1).mono ?_); intro e u5 hq; unfold countPost at hq; rw [HE.out.2.2.2.1.1, HE.out.2.2.2.1.2] at hq; obtain ⟨rfl, hr, hk⟩ := hq; have Q4 := Lib.hid (And.intro hr (Q3.out.2.then hk (fun y hy => .inl hy))); clear hr hk Q3)
        | (go_at_call 41; (with_reducible refine (num_any q g r4 1 _ Q4.out.1).mono ?_); intro e u6 hq; unfold numPost at hq; rw [HE.out.2.2.2.2.1.1, HE.out.2.2.2.2.1.2] at hq; obtain ⟨rfl, hr, hk⟩ := hq; obtain ⟨u7, hu7⟩ : ∃ W, u6.alloc (.cells Z.toArray 40) = W := ⟨_, rfl⟩; obtain ⟨b6, hb6⟩ : ∃ b, u6.heap.size = b := ⟨_, rfl⟩; have ra : rowAt u7 b6 40 Z.toArray := hb6 ▸ hu7 ▸ rowAt.new _ _ _; have ka : keepBut [] u6 u7 := hu7 ▸ (keepBut.refl [] u6).alloc _; have Q5 := Lib.hid (And.intro hr (Q4.out.2.then hk (fun y hy => .inl hy))); have Q6 := Lib.hid (And.intro hu7 (And.intro hb6 (And.intro ra ka))); clear hr hk hu7 hb6 ra ka Q4; (try dsimp only); rename_i hK; refine hK _ _ ?_; clear hK; refine wpList_build_pt _ rfl 40 _ rfl B.toArray (by simp only [List.map_toArray, List.map_cons, List.map_nil]; go_simp; exact HBB.out.2.2.2) ?_)
        | (with_reducible refine wpList_alloc_to _ _ rfl 40 rfl _ HZ.out.1 Q6.out.1 ?_; rw [Q6.out.2.1])
        | (refine wpList_store_mid rfl 40 (.tmp 6) (.tmp 25) rfl b6 0 B.toArray rfl rfl (Q6.out.2.2.1.there (by simp only [List.size_toArray]; rw [HBB.out.1, HZ.out.2]; decide)) (by rw [List.size_toArray, HBB.out.1]; exact info_an) (all_oneCell_toArray HBB.out.2.1) ?_))
      have r8 := Q6.out.2.2.1.setL (vs := B) (o := 0)
      rw [putL_all (by simp only [List.size_toArray]; rw [HBB.out.1, HZ.out.2])] at r8
      have k8 := Q6.out.2.2.2.setL (vs := B) (g := b6) (o := 0) (.inr (by have := Q6.out.2.1; omega))
      have hb6 : wr.heap.size ≤ b6 := by have := Q6.out.2.1; have := Q5.out.2.size; omega
      have hq6 : q ≠ b6 := by
        obtain ⟨A, c, hrow, _⟩ := id HT.out.2
        have := hrow.lt; omega
      have hgb : g ≠ b6 := by have := HB.out.2.2.1; omega
      have hr8 := Q5.out.1.keep k8 (by simp) (by simp)
      have kk8 := Q5.out.2.then k8 (by simp)
      try simp only [List.toList_toArray]
      generalize u7.setCells b6 0 B = w4 at *
      have H4 := Lib.hid (And.intro r8 (And.intro hr8 (And.intro kk8 (And.intro hb6 (And.intro hq6 hgb)))))
      clear r8 k8 hr8 kk8 hb6 hq6 hgb Q5 Q6
      go_upto_region 6 with (first
        | (go_at_call 64; refine (readName_any q g r5 _ H4.out.2.1 (by have := HL.out; have := HB.out.1; omega)).mono ?_; rintro e w5 ⟨rfl, hr, hk⟩; rw [HE.out.2.2.2.2.2.1.1]; rw [HE.out.2.2.2.2.2.1.2] at hr; have H5 := Lib.hid (And.intro (hk.row H4.out.1 (by simp; exact fun e => H4.out.2.2.2.2.1 e.symm)) (And.intro hr (H4.out.2.2.1.then hk (fun y hy => .inl hy)))); clear hr hk)
        | (refine wpList_store_mid rfl 28 (.tmp 28) (.tmp 27) rfl b6 5 (nameL nm).toArray rfl rfl (H5.out.1.there (by simp only [List.size_toArray, nameL_len]; rw [HG.out.1, HBB.out.1]; decide)) (by rw [List.size_toArray, nameL_len, HG.out.1]; exact infoName) (all_oneCell_toArray (nameL_one (n := nm))) ?_))
      have r9 : rowAt (w5.setCells b6 5 (nameL nm)) b6 40 (anL ⟨cl, nu, co, ve, ep, nm, []⟩ nilV).toArray := by
        have := H5.out.1.setL (vs := nameL nm) (o := 5)
        rw [← HBB.out.2.2.1, anL_setName nameZ_len HG.out.1] at this
        exact this
      have k9 : keepBut [b6] w5 (w5.setCells b6 5 (nameL nm)) := (keepBut.refl _ _).setL (.inl (by simp))
      have hr9 := H5.out.2.1.keep k9 (by simp; exact H4.out.2.2.2.2.1) (fun _ => by simp; exact H4.out.2.2.2.2.2)
      have kk9 : keepBut [q] wr (w5.setCells b6 5 (nameL nm)) := H5.out.2.2.then k9 (fun y hy => .inr (by simp only [List.mem_singleton] at hy; have := H4.out.2.2.2.1; omega))
      try simp only [List.toList_toArray]
      generalize w5.setCells b6 5 (nameL nm) = w6 at *
      have H6 := Lib.hid (And.intro r9 (And.intro hr9 kk9))
      have hnm2 : (AN.mk cl nu co ve ep nm []).name.length = 32 := HG.out.1
      clear r9 k9 hr9 kk9 H5
      go_upto_region 7 with (first
        | (go_at_call 65; refine (text_any q g r6 285 _ H6.out.2.1 (by have := HL.out; have := HB.out.1; omega)).mono ?_; intro e w7 hq; obtain ⟨v, rfl, ho, hr, hk⟩ := hq; rw [HE.out.2.2.2.2.2.2.1] at ho; rw [HE.out.2.2.2.2.2.2.2] at hr; obtain ⟨A, c, rfl, _, _, _, _⟩ := ho.1.form; have R7 := hk.row H6.out.1 (by simp; exact fun e => H4.out.2.2.2.2.1 e.symm); have y37 : w7.cell? ⟨b6, 37, none⟩ = some nilV := (R7.cell 37).trans (anL_env hnm2); have f37 := R7.free 37; have H7 := Lib.hid (And.intro ho (And.intro hr (And.intro (H6.out.2.2.then hk (fun y hy => .inl hy)) (And.intro R7 H6.out.2.2.size)))); have HH7 := Lib.hid hk; clear ho hr hk R7))
      obtain ⟨LB, hLB⟩ : ∃ LB, abL ⟨⟨cl, nu, co, ve, ep, nm, env⟩, .slice A env.length c⟩ = LB := ⟨_, rfl⟩
      have R8 : rowAt (w7.setCell ⟨b6, 37, none⟩ (.slice A env.length c)) b6 40 LB.toArray := by
        have := H7.out.2.2.2.1.set 37 (.slice A env.length c)
        rw [anL_set hnm2] at this
        rw [← hLB]
        exact this
      have KS8 : keepBut [b6] w7 (w7.setCell ⟨b6, 37, none⟩ (.slice A env.length c)) := kset w7 b6 37 _
      have hGn : ∀ y ∈ homes (.slice A env.length c), w6.heap.size ≤ y := H7.out.1.2
      have hb6w : b6 < w6.heap.size := H6.out.1.lt
      have hGb : ∀ y ∈ homes (.slice A env.length c), y ∉ [b6] := fun y hy => by have := hGn y hy; simp; omega
      have hb := (owns.bytes H7.out.1.1).keep KS8 hGb
      have hu : u8rows (w7.setCell ⟨b6, 37, none⟩ (.slice A env.length c)) (homes (.slice A env.length c)) := fun y hy => let ⟨cs, hc⟩ := u8_homes H7.out.1.1 y hy; ⟨cs, KS8.row hc (hGb y hy)⟩
      have hr8 := H7.out.2.1.keep KS8 (by simp; exact H4.out.2.2.2.2.1) (fun _ => by simp; exact H4.out.2.2.2.2.2)
      have kw : keepBut [q] wr (w7.setCell ⟨b6, 37, none⟩ (.slice A env.length c)) := H7.out.2.2.1.then KS8 (fun y hy => .inr (by simp only [List.mem_singleton] at hy; have := H4.out.2.2.2.1; omega))
      have hs6 := H7.out.2.2.2.2
      generalize w7.setCell ⟨b6, 37, none⟩ (.slice A env.length c) = w8 at *
      have hT8 := HRR.out.1.keepR HRR.out.2 kw
      have HLB := Lib.hid (And.intro (show LB.length = 38 by rw [← hLB]; exact anL_len HG.out.1) (And.intro (show ∀ u ∈ LB, u.oneCell' = true by rw [← hLB]; exact anL_one _ rfl) hLB))
      have y0 : w8.cell? ⟨b6, 0, none⟩ = some (.int .i64 cl) := by rw [R8.cell, ← hLB]; rfl
      have y1 : w8.cell? ⟨b6, 1, none⟩ = some (.int .i64 nu) := by rw [R8.cell, ← hLB]; rfl
      have y2 : w8.cell? ⟨b6, 2, none⟩ = some (.int .i64 co) := by rw [R8.cell, ← hLB]; rfl
      have y7 : w8.cell? ⟨b6, 37, none⟩ = some (.slice A env.length c) := by rw [R8.cell, ← hLB]; exact anL_env (a := ⟨cl, nu, co, ve, ep, nm, env⟩) HG.out.1
      have HF := Lib.hid (And.intro R8 (And.intro hT8 (And.intro hr8 kw)))
      have HY := Lib.hid (And.intro y0 (And.intro y1 (And.intro y2 y7)))
      have HBV : Hid (bytesV w8 (homes (.slice A env.length c)) (.slice A env.length c) env ∧ u8rows w8 (homes (.slice A env.length c))) := Lib.hid ⟨hb, hu⟩
      have HSW : Hid (sizesAt w8) := Lib.hid ((HSZ.out.1.keep HI.out.2.2 HSZ.out.2).keep kw (fun hm => HSZ.out.2 (by simp at hm; simp [hm])))
      have HFB := Lib.hid (show b6 ∉ own p s from fun hm => by have := HT.out.1.own_le b6 hm; have := H4.out.2.2.2.1; omega)
      have HCI := Lib.hid (show 0 ≤ cl ∧ cl ≤ 1000000 by have := HG.out.2.1.1; omega)
      clear R8 KS8 hGn hGb hb hu hr8 kw hs6 hT8 hLB y0 y1 y2 y7 H4 H6 H7 HH7 y37 f37 hnm2 hb6w HBB
      obtain ⟨LG, hLG⟩ : ∃ LG, cellsA (getI s cl) = LG := ⟨_, rfl⟩
      have HLG := Lib.hid (And.intro (show LG.length = 38 by rw [← hLG, cellsA_eq]; exact anL_len (HF.out.2.1.ansV cl).1.1) (And.intro (show ∀ u ∈ LG, u.oneCell' = true by rw [← hLG, cellsA_eq]; exact anL_one _ (HF.out.2.1.ansV cl).1.2.one) hLG))
      clear hLG
      obtain ⟨av, hav⟩ : ∃ av, afterV s cl = av := ⟨_, rfl⟩
      have HAV := Lib.hid hav
      clear hav
      have HRG : Hid (∀ W, keepBut [] w8 W → isT W p s ∧ W.cell? ⟨b6, 0, none⟩ = some (.int .i64 cl)) := Lib.hid (fun W k => ⟨HF.out.2.1.over k, ((k.row HF.out.1 (by simp)).cell 0).trans ((HF.out.1.cell 0).symm.trans HY.out.1)⟩)
      have KS : keepBut [] w8 w8.drew := (keepBut.refl [] w8).drew
      refine wp_region_held_drew (S := fun W => keepBut [] w8 W) (by kernel_rfl) KS (fun _ => ?_)
      refine wpAnyH_take (i := 0) (oi := ⟨_, _, _, _, _, _⟩) (v := ?_) rfl (by kernel_rfl) (by kernel_rfl) (by kernel_rfl) (fun _ _ _ h => h) (Or.inl ⟨by rfl, ?_⟩) KS ?_
      rotate_left
      · intro w' hSw; (go_simp; try with_reducible rfl)
      try simp only [Act.put, List.setIfInBounds_toArray, List.set_cons_zero, List.set_cons_succ]
      refine wpAnyH_take (i := 1) (oi := ⟨_, _, _, _, _, _⟩) (v := ?_) rfl (by kernel_rfl) (by kernel_rfl) (by kernel_rfl) (fun _ _ _ h => h) (Or.inl ⟨by rfl, ?_⟩) KS ?_
      rotate_left
      · intro w' hSw; (go_simp; try with_reducible rfl)
      try simp only [Act.put, List.setIfInBounds_toArray, List.set_cons_zero, List.set_cons_succ]
      refine wpAnyH_take (i := 2) (oi := ⟨_, _, _, _, _, _⟩) (v := ?_) rfl (by kernel_rfl) (by kernel_rfl) (by kernel_rfl) (fun _ _ _ h => h) (Or.inl ⟨by rfl, ?_⟩) KS ?_
      rotate_left
      · intro w' hSw; (go_simp; try with_reducible rfl)
      try simp only [Act.put, List.setIfInBounds_toArray, List.set_cons_zero, List.set_cons_succ]
      refine wpAnyH_take (i := 3) (oi := ⟨_, _, _, _, _, _⟩) (v := ?_) rfl (by kernel_rfl) (by kernel_rfl) (by kernel_rfl) (fun _ _ _ h => h) (Or.inl ⟨by rfl, ?_⟩) KS ?_
      rotate_left
      · intro w' hSw; (go_simp; try with_reducible rfl)
      try simp only [Act.put, List.setIfInBounds_toArray, List.set_cons_zero, List.set_cons_succ]
      refine wpAnyH_take (i := 4) (oi := ⟨_, _, _, _, _, _⟩) (v := ?_) rfl (by kernel_rfl) (by kernel_rfl) (by kernel_rfl) (fun _ _ _ h => h) (Or.inl ⟨by rfl, ?_⟩) KS ?_
      rotate_left
      · intro w' hSw; have hy := (HRG.out w' hSw).2; (go_simp; try with_reducible rfl)
      try simp only [Act.put, List.setIfInBounds_toArray, List.set_cons_zero, List.set_cons_succ]
      refine wpAnyH_ready (rs := [5]) (by kernel_rfl) (by simp) ?_
      refine AllReadyH.cons (o := ⟨_, _, _, _, _, _⟩) rfl (fun K hK => ?_) AllReadyH.nil
      go_simp
      refine (afterI_any p s cl HCI.out _ (HRG.out _ KS).1).mono ?_
      rintro e wA ⟨rfl, kk⟩
      rw [HAV.out]
      have K2 := Lib.hid (KS.then kk (by simp))
      clear kk
      go_wp2_with fail
      refine hK.out _ _ K2.out (fun _ => ?_)
      clear hK K
      try simp only [Act.put, List.setIfInBounds_toArray, List.set_cons_zero, List.set_cons_succ]
      refine wpAnyH_take (i := 6) (oi := ⟨_, _, _, _, _, _⟩) (v := ?_) rfl (by kernel_rfl) (by kernel_rfl) (by kernel_rfl) (fun _ _ _ h => h) (Or.inl ⟨by rfl, ?_⟩) K2.out ?_
      rotate_left
      · intro w' hSw; (go_simp; try with_reducible rfl)
      try simp only [Act.put, List.setIfInBounds_toArray, List.set_cons_zero, List.set_cons_succ]
      refine wpAnyH_take (i := 7) (oi := ⟨_, _, _, _, _, _⟩) (v := ?_) rfl (by kernel_rfl) (by kernel_rfl) (by kernel_rfl) (fun _ _ _ h => h) (Or.inl ⟨by rfl, ?_⟩) K2.out ?_
      rotate_left
      · intro w' hSw; (go_simp; try with_reducible rfl)
      try simp only [Act.put, List.setIfInBounds_toArray, List.set_cons_zero, List.set_cons_succ]
      refine wpAnyH_take (i := 8) (oi := ⟨_, _, _, _, _, _⟩) (v := ?_) rfl (by kernel_rfl) (by kernel_rfl) (by kernel_rfl) (fun _ _ _ h => h) (Or.inl ⟨by rfl, ?_⟩) K2.out ?_
      rotate_left
      · intro w' hSw; (go_simp; try with_reducible rfl)
      try simp only [Act.put, List.setIfInBounds_toArray, List.set_cons_zero, List.set_cons_succ]
      refine wpAnyH_take (i := 9) (oi := ⟨_, _, _, _, _, _⟩) (v := ?_) rfl (by kernel_rfl) (by kernel_rfl) (by kernel_rfl) (fun _ _ _ h => h) (Or.inl ⟨by rfl, ?_⟩) K2.out ?_
      rotate_left
      · intro w' hSw; (go_simp; try with_reducible rfl)
      try simp only [Act.put, List.setIfInBounds_toArray, List.set_cons_zero, List.set_cons_succ]
      refine wpAnyH_take (i := 10) (oi := ⟨_, _, _, _, _, _⟩) (v := ?_) rfl (by kernel_rfl) (by kernel_rfl) (by kernel_rfl) (fun _ _ _ h => h) (Or.inl ⟨by rfl, ?_⟩) K2.out ?_
      rotate_left
      · intro w' hSw; (go_simp; try with_reducible rfl)
      try simp only [Act.put, List.setIfInBounds_toArray, List.set_cons_zero, List.set_cons_succ]
      refine wpAnyH_done (by kernel_rfl) ?_ _
      go_upto_region 8 with fail
      have HRG8 : Hid (∀ W, keepBut [] wA W → isT W p s ∧ W.cell? ⟨b6, 0, none⟩ = some (.int .i64 cl)) := Lib.hid (fun W k => HRG.out W (K2.out.then k (by simp)))
      have K8 := Lib.hid K2.out
      clear KS HRG K2
      have KS : keepBut [] wA wA.drew := (keepBut.refl [] wA).drew
      refine wp_region_held_drew (S := fun W => keepBut [] wA W) (by kernel_rfl) KS (fun _ => ?_)
      refine wpAnyH_take (i := 0) (oi := ⟨_, _, _, _, _, _⟩) (v := ?_) rfl (by kernel_rfl) (by kernel_rfl) (by kernel_rfl) (fun _ _ _ h => h) (Or.inl ⟨by rfl, ?_⟩) KS ?_
      rotate_left
      · intro w' hSw; (go_simp; try with_reducible rfl)
      try simp only [Act.put, List.setIfInBounds_toArray, List.set_cons_zero, List.set_cons_succ]
      refine wpAnyH_take (i := 1) (oi := ⟨_, _, _, _, _, _⟩) (v := ?_) rfl (by kernel_rfl) (by kernel_rfl) (by kernel_rfl) (fun _ _ _ h => h) (Or.inl ⟨by rfl, ?_⟩) KS ?_
      rotate_left
      · intro w' hSw; (go_simp; try with_reducible rfl)
      try simp only [Act.put, List.setIfInBounds_toArray, List.set_cons_zero, List.set_cons_succ]
      refine wpAnyH_take (i := 2) (oi := ⟨_, _, _, _, _, _⟩) (v := ?_) rfl (by kernel_rfl) (by kernel_rfl) (by kernel_rfl) (fun _ _ _ h => h) (Or.inl ⟨by rfl, ?_⟩) KS ?_
      rotate_left
      · intro w' hSw; (go_simp; try with_reducible rfl)
      try simp only [Act.put, List.setIfInBounds_toArray, List.set_cons_zero, List.set_cons_succ]
      refine wpAnyH_take (i := 3) (oi := ⟨_, _, _, _, _, _⟩) (v := ?_) rfl (by kernel_rfl) (by kernel_rfl) (by kernel_rfl) (fun _ _ _ h => h) (Or.inl ⟨by rfl, ?_⟩) KS ?_
      rotate_left
      · intro w' hSw; (go_simp; try with_reducible rfl)
      try simp only [Act.put, List.setIfInBounds_toArray, List.set_cons_zero, List.set_cons_succ]
      refine wpAnyH_take (i := 4) (oi := ⟨_, _, _, _, _, _⟩) (v := ?_) rfl (by kernel_rfl) (by kernel_rfl) (by kernel_rfl) (fun _ _ _ h => h) (Or.inl ⟨by rfl, ?_⟩) KS ?_
      rotate_left
      · intro w' hSw; have hy := (HRG8.out w' hSw).2; (go_simp; try with_reducible rfl)
      try simp only [Act.put, List.setIfInBounds_toArray, List.set_cons_zero, List.set_cons_succ]
      refine wpAnyH_ready (rs := [5, 9]) (by kernel_rfl) (by simp) ?_
      refine AllReadyH.cons (o := ⟨_, _, _, _, _, _⟩) rfl (fun K hK => ?_) (AllReadyH.cons (o := ⟨_, _, _, _, _, _⟩) rfl (fun K hK => ?_) AllReadyH.nil)
      focus (
        go_simp
        refine (getI_any p s cl HCI.out _ (HRG8.out _ KS).1).mono ?_
        rintro e wB ⟨rfl, kk⟩
        rw [HLG.out.2.2]
        have K2 := Lib.hid (KS.then kk (by simp))
        clear kk
        go_wp2_with fail
        refine hK.out _ _ K2.out (fun _ => ?_)
        clear hK K
        try simp only [Act.put, List.setIfInBounds_toArray, List.set_cons_zero, List.set_cons_succ]
        refine wpAnyH_take (i := 6) (oi := ⟨_, _, _, _, _, _⟩) (v := ?_) rfl (by kernel_rfl) (by kernel_rfl) (by kernel_rfl) (fun _ _ _ h => h) (Or.inl ⟨by rfl, ?_⟩) K2.out ?_
        rotate_left
        · intro w' hSw; (go_simp; try with_reducible rfl)
        try simp only [Act.put, List.setIfInBounds_toArray, List.set_cons_zero, List.set_cons_succ]
        refine wpAnyH_take (i := 7) (oi := ⟨_, _, _, _, _, _⟩) (v := ?_) rfl (by kernel_rfl) (by kernel_rfl) (by kernel_rfl) (fun _ _ _ h => h) (Or.inl ⟨by rfl, ?_⟩) K2.out ?_
        rotate_left
        · intro w' hSw; (go_simp; try with_reducible rfl)
        try simp only [Act.put, List.setIfInBounds_toArray, List.set_cons_zero, List.set_cons_succ]
        refine wpAnyH_take (i := 8) (oi := ⟨_, _, _, _, _, _⟩) (v := ?_) rfl (by kernel_rfl) (by kernel_rfl) (by kernel_rfl) (fun _ _ _ h => h) (Or.inl ⟨by rfl, ?_⟩) K2.out ?_
        rotate_left
        · intro w' hSw; (go_simp; try with_reducible rfl)
        try simp only [Act.put, List.setIfInBounds_toArray, List.set_cons_zero, List.set_cons_succ]
        refine wpAnyH_ready (rs := [9]) (by kernel_rfl) (by simp) ?_
        refine AllReadyH.cons (o := ⟨_, _, _, _, _, _⟩) rfl (fun K hK => ?_) AllReadyH.nil
        refine step_alloc_to _ _ rfl 40 rfl Z.toArray HZ.out.1 (rfl : wB.alloc (.cells Z.toArray 40) = _) ?_
        refine hK.out _ _ (K2.out.alloc (.cells Z.toArray 40)) (fun _ => ?_)
        clear hK K
        try simp only [Act.put, List.setIfInBounds_toArray, List.set_cons_zero, List.set_cons_succ]
        have RQ := Lib.hid (rowAt.new wB 40 Z.toArray)
        have KQ := Lib.hid (And.intro (K2.out.alloc (.cells Z.toArray 40)) (show wA.heap.size ≤ wB.heap.size from K2.out.size))
        obtain ⟨d, hd⟩ : ∃ d, wB.heap.size = d := ⟨_, rfl⟩
        rw [hd] at RQ KQ ⊢
        generalize wB.alloc (.cells Z.toArray 40) = W at *
        clear hd)
      rotate_left
      focus (
        refine step_alloc_to _ _ rfl 40 rfl Z.toArray HZ.out.1 (rfl : wA.drew.alloc (.cells Z.toArray 40) = _) ?_
        refine hK.out _ _ (KS.alloc (.cells Z.toArray 40)) (fun _ => ?_)
        clear hK K
        try simp only [Act.put, List.setIfInBounds_toArray, List.set_cons_zero, List.set_cons_succ]
        refine wpAnyH_ready (rs := [5]) (by kernel_rfl) (by simp) ?_
        refine AllReadyH.cons (o := ⟨_, _, _, _, _, _⟩) rfl (fun K hK => ?_) AllReadyH.nil
        go_simp
        refine (getI_any p s cl HCI.out _ (HRG8.out _ (KS.alloc (.cells Z.toArray 40))).1).mono ?_
        rintro e wB ⟨rfl, kk⟩
        rw [HLG.out.2.2]
        have K2 := Lib.hid ((KS.alloc (.cells Z.toArray 40)).then kk (by simp))
        have RQ := Lib.hid (kk.row (rowAt.new wA.drew 40 Z.toArray) (by simp))
        clear kk
        go_wp2_with fail
        refine hK.out _ _ K2.out (fun _ => ?_)
        clear hK K
        try simp only [Act.put, List.setIfInBounds_toArray, List.set_cons_zero, List.set_cons_succ]
        have KQ := Lib.hid (And.intro K2.out (show wA.heap.size ≤ wA.drew.heap.size from Nat.le_refl _))
        refine wpAnyH_take (i := 6) (oi := ⟨_, _, _, _, _, _⟩) (v := ?_) rfl (by kernel_rfl) (by kernel_rfl) (by kernel_rfl) (fun _ _ _ h => h) (Or.inl ⟨by rfl, ?_⟩) K2.out ?_
        rotate_left
        · intro w' hSw; (go_simp; try with_reducible rfl)
        try simp only [Act.put, List.setIfInBounds_toArray, List.set_cons_zero, List.set_cons_succ]
        refine wpAnyH_take (i := 7) (oi := ⟨_, _, _, _, _, _⟩) (v := ?_) rfl (by kernel_rfl) (by kernel_rfl) (by kernel_rfl) (fun _ _ _ h => h) (Or.inl ⟨by rfl, ?_⟩) K2.out ?_
        rotate_left
        · intro w' hSw; (go_simp; try with_reducible rfl)
        try simp only [Act.put, List.setIfInBounds_toArray, List.set_cons_zero, List.set_cons_succ]
        refine wpAnyH_take (i := 8) (oi := ⟨_, _, _, _, _, _⟩) (v := ?_) rfl (by kernel_rfl) (by kernel_rfl) (by kernel_rfl) (fun _ _ _ h => h) (Or.inl ⟨by rfl, ?_⟩) K2.out ?_
        rotate_left
        · intro w' hSw; (go_simp; try with_reducible rfl)
        try simp only [Act.put, List.setIfInBounds_toArray, List.set_cons_zero, List.set_cons_succ]
        obtain ⟨d, hd⟩ : ∃ d, wA.drew.heap.size = d := ⟨_, rfl⟩
        rw [hd] at RQ KQ
        try rw [hd]
        change wA.heap.size = d at hd
        try rw [hd]
        clear hd
        generalize wB = W at *)
      all_goals (
        refine wpAnyH_ready (rs := [10]) (by kernel_rfl) (by simp) ?_
        refine AllReadyH.cons (o := ⟨_, _, _, _, _, _⟩) rfl (fun K hK => ?_) AllReadyH.nil
        refine step_store_mid rfl 40 (.tmp 9) (.tmp 48) rfl d 0 LG.toArray rfl rfl (RQ.out.there (by have h1 := HLG.out.1; have h2 := HZ.out.2; simp only [List.size_toArray]; omega)) (by rw [List.size_toArray, HLG.out.1]; exact info_an) (all_oneCell_toArray HLG.out.2.1) ?_
        refine hK.out _ _ (KQ.out.1.setL (vs := LG) (o := 0) (.inr KQ.out.2)) (fun _ => ?_)
        clear hK K
        try simp only [Act.put, List.setIfInBounds_toArray, List.set_cons_zero, List.set_cons_succ]
        refine wpAnyH_take (i := 11) (oi := ⟨_, _, _, _, _, _⟩) (v := ?_) rfl (by kernel_rfl) (by kernel_rfl) (by kernel_rfl) (fun _ _ _ h => h) (Or.inl ⟨by rfl, ?_⟩) (KQ.out.1.setL (vs := LG) (o := 0) (.inr KQ.out.2)) ?_
        rotate_left
        · intro w' hSw; (go_simp; try with_reducible rfl)
        try simp only [Act.put, List.setIfInBounds_toArray, List.set_cons_zero, List.set_cons_succ]
        refine wpAnyH_done (by kernel_rfl) ?_ _
        have k5 : keepBut [] wA (W.setCells d 0 LG) := (KQ.out.1.setL (vs := LG) (o := 0) (.inr KQ.out.2))
        go_upto_region 9 with fail
        try simp only [List.toList_toArray]
        generalize W.setCells d 0 LG = w9 at *
        have K9 := Lib.hid (K8.out.then k5 (by simp))
        clear k5 RQ KQ K2 KS HRG8
        have R9 := K9.out.row HF.out.1 (by simp)
        have y0 : w9.cell? ⟨b6, 0, none⟩ = some (.int .i64 cl) := (R9.cell 0).trans ((HF.out.1.cell 0).symm.trans HY.out.1)
        have y1 : w9.cell? ⟨b6, 1, none⟩ = some (.int .i64 nu) := (R9.cell 1).trans ((HF.out.1.cell 1).symm.trans HY.out.2.1)
        have y2 : w9.cell? ⟨b6, 2, none⟩ = some (.int .i64 co) := (R9.cell 2).trans ((HF.out.1.cell 2).symm.trans HY.out.2.2.1)
        have y7 : w9.cell? ⟨b6, 37, none⟩ = some (.slice A env.length c) := (R9.cell 37).trans ((HF.out.1.cell 37).symm.trans HY.out.2.2.2)
        have HZ9 : Hid (sizesAt w9) := Lib.hid (HSW.out.keep K9.out (by simp))
        have KE : Hid (keepBut [] w8 w9.drew) := Lib.hid (K9.out.then ((keepBut.refl [] w9).drew) (by simp))
        have HC : Hid (∀ W, keepBut (p :: (homes s.iv ++ homes s.av)) w9 W → W.cell? ⟨b6, 0, none⟩ = some (.int .i64 cl) ∧ W.rangeAt b6 0 LB) := Lib.hid (fun W k => by
          have rr := k.row (K9.out.row HF.out.1 (by simp)) (fun hm => HFB.out (own_ia _ hm))
          exact ⟨(rr.cell 0).trans ((HF.out.1.cell 0).symm.trans HY.out.1), rr.rangeAll⟩)
        clear R9
        have HBD : Hid (badA x.2.1 ⟨cl, nu, co, ve, ep, nm, env⟩ = ((afterI s cl).isSome || (hitI s cl || (!inP cl 0 2 || ((nu == 0) || (decide (2 < co) || (decide (0 < env.length) && !sizedP (env.length : Int)))))))) := Lib.hid (by unfold badA; dsimp only; rw [← HI.out.1, nextA_pure, hitA_pure, show decide ((0 : Int) < (env.length : Int)) = decide (0 < env.length) by simp])
        generalize (afterI s cl).isSome = a at *
        generalize hitI s cl = bb at *
        generalize hic : inP cl 0 2 = ic at *
        generalize hsd : sizedP (env.length : Int) = sd at *
        have HSD := Lib.hid (And.intro hsd hic)
        clear hsd hic
        have hway : a = true ∨ (a = false ∧ bb = true) ∨ (a = false ∧ bb = false ∧ ic = false) ∨ (a = false ∧ bb = false ∧ ic = true ∧ (nu == 0) = true) ∨ (a = false ∧ bb = false ∧ ic = true ∧ (nu == 0) = false ∧ decide (2 < co) = true) ∨ (a = false ∧ bb = false ∧ ic = true ∧ (nu == 0) = false ∧ decide (2 < co) = false ∧ 0 < env.length ∧ sd = false) ∨ (a = false ∧ bb = false ∧ ic = true ∧ (nu == 0) = false ∧ decide (2 < co) = false ∧ 0 < env.length ∧ sd = true) ∨ (a = false ∧ bb = false ∧ ic = true ∧ (nu == 0) = false ∧ decide (2 < co) = false ∧ ¬ 0 < env.length) := by cases a <;> cases bb <;> cases ic <;> cases sd <;> cases (nu == 0) <;> cases (decide (2 < co)) <;> by_cases hl : 0 < env.length <;> simp [hl]
        rcases hway with rfl | ⟨rfl, rfl⟩ | ⟨rfl, rfl, rfl⟩ | ⟨rfl, rfl, rfl, hnu⟩ | ⟨rfl, rfl, rfl, hnu, hco⟩ | ⟨rfl, rfl, rfl, hnu, hco, hln, rfl⟩ | ⟨rfl, rfl, rfl, hnu, hco, hln, rfl⟩ | ⟨rfl, rfl, rfl, hnu, hco, hln⟩
        all_goals (
          go_upto_region 11 with (first | (go_at_call 47; refine (isClient_any _ _).mono ?_; rintro e wq ⟨rfl, rfl⟩; rw [HSD.out.2]) | (go_at_call 50; refine (sized_any _ _ HZ9.out).mono ?_; rintro e wq ⟨rfl, rfl⟩; rw [HSD.out.1]))
          clear y0 y1 y2 y7
          have KT : keepBut (p :: (homes s.iv ++ homes s.av)) w9 w9.drew := (keepBut.refl _ w9).drew
          have hput := putI_any p s ⟨⟨cl, nu, co, ve, ep, nm, env⟩, .slice A env.length c⟩ (homes (.slice A env.length c)) cl rfl HG.out.1 HCI.out w9.drew (HF.out.2.1.over KE.out) HB.out.2.1 (by have := HG.out.2.2; show env.length ≤ 1000; omega) (HBV.out.1.keep KE.out (by simp)) (fun y hy => let ⟨cs, hc⟩ := HBV.out.2 y hy; ⟨cs, KE.out.row hc (by simp)⟩)
          rw [HLB.out.2.2] at hput
          have HPUT := Lib.hid hput
          clear hput
          refine wp_region_held_drew (S := fun V => keepBut (p :: (homes s.iv ++ homes s.av)) w9 V) (by kernel_rfl) KT (fun _ => ?_)
          refine wpAnyH_take (i := 0) (oi := ⟨_, _, _, _, _, _⟩) (v := ?_) rfl (by kernel_rfl) (by kernel_rfl) (by kernel_rfl) (fun _ _ _ h => h) (Or.inl ⟨by rfl, ?_⟩) KT ?_
          rotate_left
          · intro w' hSw; (go_simp; try with_reducible rfl)
          try simp only [Act.put, List.setIfInBounds_toArray, List.set_cons_zero, List.set_cons_succ]
          refine wpAnyH_take (i := 1) (oi := ⟨_, _, _, _, _, _⟩) (v := ?_) rfl (by kernel_rfl) (by kernel_rfl) (by kernel_rfl) (fun _ _ _ h => h) (Or.inl ⟨by rfl, ?_⟩) KT ?_
          rotate_left
          · intro w' hSw; (go_simp; try with_reducible rfl)
          try simp only [Act.put, List.setIfInBounds_toArray, List.set_cons_zero, List.set_cons_succ]
          refine wpAnyH_take (i := 2) (oi := ⟨_, _, _, _, _, _⟩) (v := ?_) rfl (by kernel_rfl) (by kernel_rfl) (by kernel_rfl) (fun _ _ _ h => h) (Or.inl ⟨by rfl, ?_⟩) KT ?_
          rotate_left
          · intro w' hSw; (go_simp; try with_reducible rfl)
          try simp only [Act.put, List.setIfInBounds_toArray, List.set_cons_zero, List.set_cons_succ]
          refine wpAnyH_take (i := 3) (oi := ⟨_, _, _, _, _, _⟩) (v := ?_) rfl (by kernel_rfl) (by kernel_rfl) (by kernel_rfl) (fun _ _ _ h => h) (Or.inl ⟨by rfl, ?_⟩) KT ?_
          rotate_left
          · intro w' hSw; (go_simp; try with_reducible rfl)
          try simp only [Act.put, List.setIfInBounds_toArray, List.set_cons_zero, List.set_cons_succ]
          refine wpAnyH_take (i := 4) (oi := ⟨_, _, _, _, _, _⟩) (v := ?_) rfl (by kernel_rfl) (by kernel_rfl) (by kernel_rfl) (fun _ _ _ h => h) (Or.inl ⟨by rfl, ?_⟩) KT ?_
          rotate_left
          · intro w' hSw; have hy := (HC.out w' hSw).1; (go_simp; try with_reducible rfl)
          try simp only [Act.put, List.setIfInBounds_toArray, List.set_cons_zero, List.set_cons_succ]
          refine wpAnyH_take (i := 5) (oi := ⟨_, _, _, _, _, _⟩) (v := .agg (LB).toArray) rfl (by kernel_rfl) (by kernel_rfl) (by kernel_rfl) (fun _ _ _ h => h) (yieldsIf_mid 40 (.tmp 6) rfl b6 0 rfl (LB) _ (fun w' hSw => (HC.out w' hSw).2) Tryd.underlying40 rfl (by rw [HLB.out.1]; exact info_an) ?_) KT ?_
          · rfl
          try simp only [Act.put, List.setIfInBounds_toArray, List.set_cons_zero, List.set_cons_succ]
          refine wpAnyH_ready (rs := [6]) (by kernel_rfl) (by simp) ?_
          refine AllReadyH.cons (o := ⟨_, _, _, _, _, _⟩) rfl (fun K hK => ?_) AllReadyH.nil
          go_simp
          refine HPUT.out.mono ?_
          rintro e w10 ⟨iv, av2, rfl, n10⟩
          have N10 := Lib.hid n10
          clear n10
          go_wp2_with fail
          refine hK.out _ _ (KT.then N10.out.2.1 (fun x hx => .inl hx)) (fun _ => ?_)
          clear hK K
          try simp only [Act.put, List.setIfInBounds_toArray, List.set_cons_zero, List.set_cons_succ]
          refine wpAnyH_done (by kernel_rfl) ?_ _
          go_wp2_with fail
          go_roundw
          case' rel => exact ⟨i + 1, by omega, by go_num, by rw [HX1.out, HBD.out]; first | (simp; done) | (simp [hnu]; done) | (simp [hnu, hco]; done) | (simp [hnu, hco, hln]; done), by rw [HX1.out]; exact roAt_stepA (b := ⟨⟨cl, nu, co, ve, ep, nm, env⟩, .slice A env.length c⟩) HI.out.1 HI.out.2.1 HI.out.2.2 (HF.out.2.2.2.then K9.out (by simp)) (HF.out.2.1.over K9.out) (HF.out.2.2.1.keep K9.out (by simp) (by simp)) HB.out.2.2.2 _ N10.out⟩
          case' measure => simp [intOf]; omega))
    · obtain rfl : i = N := by omega
      have hI' := Lib.hid hI
      clear hI
      go_wp2_with fail
      go_ret
      exact ⟨rfl, hI'.out⟩
end Go.Proofs.YtmlmhnhilemjhaaDoor
end

section
namespace Go.Proofs.YtmlmhnhilemjhaaDoor
open Go.RowKit
set_option linter.unusedVariables false
set_option maxRecDepth 100000
set_option linter.unusedSimpArgs false

theorem infoU8d : (Tryd.prog.info? 5).map (fun i => (i.zero, i.size, i.bytes)) = some (some (.int .u8 0), 1, 1) := by kernel_rfl
set_option maxHeartbeats 2000000 in
theorem numRead_any (A : Option Addr) (g c : Nat) (b : List UInt8) (w : World) (hs : seen w A g b) (hlc : b.length ≤ c) (hb : b.length ≤ 1000000) :
    Calls Tryd.prog 40 #[.slice A b.length c] w fun e w' => ∃ p g, e = .returned (.pointer (some ⟨p, 0, none⟩)) ∧ isR w' p g ⟨b, 0⟩ ∧ w.heap.size ≤ p ∧ w.heap.size ≤ g ∧ g < w'.heap.size ∧ keepBut [] w w' := by
  obtain ⟨i0, hi0, hz0, hz1, hz2⟩ := info_parts infoU8d
  have H := Lib.hid (And.intro (seen.reads hs) (owns.nil w 5 1))
  clear hs
  go_enter Tryd.func40, Tryd.ntmps40
  go_wp2_with (at_builtin; refine wp_append _ rfl _ _ 29 rfl 5 i0 (.int .u8 0) 1 1 Tryd.underlying29 hi0 hz0 hz1 hz2 rfl (by decide) (.slice none 0 0) 0 [] rfl H.out.2 A g b.length c _ (by simp [Act.eval]) H.out.1 (by intro u hu; simp at hu; obtain ⟨b, _, rfl⟩ := hu; rfl) (by omega) (by unfold maxLen; omega) ?_; intro A2 c2 w2 hown2 hkb2 hloc2)
  go_ret
  simp only [Nat.zero_add, List.nil_append] at hown2 hloc2 ⊢
  obtain ⟨A3, c3, e3, h31, h32, h33, h34⟩ := hown2.form
  injection e3 with e3a e3b e3c
  subst e3a e3c
  obtain ⟨g3, hg3⟩ := homes_one (.slice A2 b.length c2)
  have hk3 := (keepBut.refl [] w2).alloc (.cells #[.slice A2 b.length c2, .int .i64 0] 111)
  have hin : b ≠ [] → g3 ∈ homes (.slice A2 b.length c2) := fun hne => by
    obtain ⟨o, hA, _⟩ := (h34 g3 hg3).2 (List.length_pos_iff.2 hne)
    rw [hA]; simp [homes_some]
  have hks := hkb2.size
  have hrow := rowAt.new w2 111 #[.slice A2 b.length c2, .int .i64 0]
  have hlt := hrow.lt
  by_cases hne : b = []
  · subst hne
    exact ⟨w2.heap.size, w2.heap.size, rfl, ⟨A2, c2, hrow, h31, h32, seen.nil _ _ _, fun h => absurd rfl h⟩, hks, hks, hlt, (hkb2.more (by simp [homes_none])).then hk3 (by simp)⟩
  · have hg := h33 g3 (hin hne)
    refine ⟨w2.heap.size, g3, rfl, ⟨A2, c2, hrow, h31, h32, (reads.seenB (h34 g3 hg3)).keep hk3 (by simp), fun _ => by show g3 ≠ w2.heap.size; omega⟩, hks, ?_, by omega, (hkb2.more (by simp [homes_none])).then hk3 (by simp)⟩
    rcases hloc2 g3 (hin hne) with h | h
    · simp [homes_none] at h
    · exact h
theorem isT_newE {w : World} {p : Nat} (n : Int) (h : rowAt w p 67 #[.int .i64 n, ordN, nilV, nilV, ordI, nilV, nilV]) : isT w p { sNew with epoch := n } :=
  ⟨h, owns.nil _ _ _, owns.nil _ _ _, owns.nil _ _ _, owns.nil _ _ _, by simp [sNew, TS.names], by simp [sNew, TS.keys], by simp [sNew, TS.names], by simp [sNew, TS.keys], by simp [sNew, TS.names], by simp [sNew, TS.keys], by simp [sNew], by simp [sNew], by simp [sNew], by simp [sNew], by simp [sNew], by simp [sNew]⟩
theorem put_ans (P : PT) (b : OP) : (P.put b).answers = P.answers := by
  unfold PT.put
  split <;> rfl
theorem rdOs_ans : ∀ (k : Nat) (x : RS × PT × Bool), (rdOs k x).2.1.answers = x.2.1.answers
  | 0, x => rfl
  | k + 1, x => (put_ans _ _).trans (rdOs_ans k x)
/-- what Open gives -/
def openPost (b : List UInt8) (w : World) (e : Ending) (w' : World) : Prop :=
  keepBut [] w w' ∧ (((openP b).2.2 ≠ 0 ∧ e = .returned (.tuple #[.pointer none, .int .i64 (openP b).2.2])) ∨ ((openP b).2.2 = 0 ∧ (openP b).2.1 = false ∧ e = .returned (.tuple #[.pointer none, .int .i64 4])) ∨
    ((openP b).2.2 = 0 ∧ (openP b).2.1 = true ∧ ∃ p s, e = .returned (.tuple #[.pointer (some ⟨p, 0, none⟩), .int .i64 0]) ∧ isT w' p s ∧ s.pure = (openP b).1))
set_option maxHeartbeats 8000000 in
theorem topen_any (A : Option Addr) (g0 c : Nat) (b : List UInt8) (w : World) (hs : seen w A g0 b) (hlc : b.length ≤ c) (hb : b.length ≤ 1000000) (hsz : sizesAt w) :
    Calls Tryd.prog 15 #[.slice A b.length c] w (openPost b w) := by
  obtain ⟨O, hO⟩ : ∃ O, openP b = O := ⟨_, rfl⟩
  unfold openPost
  rw [hO]
  unfold openP at hO
  dsimp only at hO
  have h00 : 0 < w.heap.size := by
    have := hsz.1
    exact World.block_lt_of_cell? w _ this
  obtain ⟨ep, e1⟩ : ∃ v, ((RS.mk b 0).num 1).1 = v := ⟨_, rfl⟩
  obtain ⟨r1, f1⟩ : ∃ v, ((RS.mk b 0).num 1).2 = v := ⟨_, rfl⟩
  rw [e1, f1] at hO
  have hl1 : r1.l.length ≤ 1000000 := by rw [← f1]; exact Nat.le_trans (num_short _ _) hb
  have H0 := Lib.hid (And.intro hs (And.intro hb (And.intro hsz (And.intro h00 (And.intro e1 (And.intro f1 hl1))))))
  obtain ⟨X, hX⟩ : ∃ X, rdOs (r1.count 64).1.toNat ((r1.count 64).2, (⟨ep, [], []⟩ : PT), true) = X := ⟨_, rfl⟩
  rw [hX] at hO
  have hXs : X.1.l.length ≤ 1000000 := by rw [← hX]; exact Nat.le_trans (rdOs_short _ _) (Nat.le_trans (RS.count_short _ _) hl1)
  have hXa : X.2.1.answers.length ≤ 36 := by rw [← hX, rdOs_ans]; simp
  obtain ⟨Y, hY⟩ : ∃ Y, rdAs (X.1.count 3).1.toNat ((X.1.count 3).2, X.2.1, true) = Y := ⟨_, rfl⟩
  rw [hY] at hO
  have HX := Lib.hid (And.intro hX (And.intro hXs (And.intro hXa hY)))
  have HO := Lib.hid hO
  clear hs hsz h00 e1 f1 hX hXs hXa hY hO hl1
  go_enter Tryd.func15, Tryd.ntmps15
  go_upto_region 2 with (go_at_call 40; refine (numRead_any A g0 c b _ H0.out.1 hlc hb).mono ?_; rintro e w1 ⟨q, g, rfl, hR, hq, hg, hgl, hk⟩; have H1 := Lib.hid (And.intro hR (And.intro hq (And.intro hg (And.intro hgl hk)))); clear hR hq hg hgl hk)
  go_upto_region 3 with (go_at_call 7; refine (new_any _).mono ?_; rintro e w2 ⟨rfl, hT, hk⟩; have H2 := Lib.hid (And.intro hT hk); clear hT hk)
  obtain ⟨p, hp⟩ : ∃ p, w1.heap.size = p := ⟨_, rfl⟩
  rw [hp] at H2
  try rw [hp]
  have HP := Lib.hid hp
  clear hp
  go_upto_region 4 with (go_at_call 41; (with_reducible refine (num_any q g ⟨b, 0⟩ 1 _ (H1.out.1.keep H2.out.2 (by simp) (by simp))).mono ?_); intro e w3 hq; unfold numPost at hq; rw [H0.out.2.2.2.2.1, H0.out.2.2.2.2.2.1] at hq; obtain ⟨rfl, hr, hk⟩ := hq; have RP := hk.row H2.out.1.row (by have := H1.out.1.lt; have := HP.out; simp; omega); have yp : w3.cell? ⟨p, 0, none⟩ = some (.int .i64 0) := RP.cell 0; have fp := RP.free 0; have H3 := Lib.hid (And.intro hr (And.intro hk RP)); clear hr hk RP)
  have r4 : rowAt (w3.setCell ⟨p, 0, none⟩ (.int .i64 ep)) p 67 #[.int .i64 ep, ordN, nilV, nilV, ordI, nilV, nilV] := H3.out.2.2.set 0 _
  have k4 := kset w3 p 0 (.int .i64 ep)
  obtain ⟨w4, hw4⟩ : ∃ W, w3.setCell ⟨p, 0, none⟩ (.int .i64 ep) = W := ⟨_, rfl⟩
  rw [hw4] at r4 k4
  try rw [hw4]
  have hqp : q < p := by have := H1.out.1.lt; have := HP.out; omega
  have hgp : g < p := by have := H1.out.2.2.2.1; have := HP.out; omega
  have hR4 : isR w4 q g r1 := H3.out.1.keep k4 (by simp; omega) (fun _ => by simp; omega)
  have hT4 := isT_newE ep r4
  have hwp : w.heap.size ≤ p := by have := H1.out.2.2.2.2.size; have := HP.out; omega
  have k04 : keepBut [] w w4 := (((H1.out.2.2.2.2.then H2.out.2 (by simp)).then H3.out.2.1 (fun x hx => .inr (by simp at hx; have := H1.out.2.1; omega)))).then k4 (fun x hx => .inr (by simp at hx; omega))
  have H4 := Lib.hid (And.intro hR4 (And.intro hT4 k04))
  have HQ := Lib.hid (And.intro hqp (And.intro hgp hwp))
  have hown : ∀ y ∈ own p { sNew with epoch := ep }, y = p := fun y hy => by
    unfold own at hy
    rcases List.mem_cons.1 hy with h | h
    · exact h
    · exact absurd h (show ¬ y ∈ homes nilV ++ homes nilV ++ (homes nilV ++ homes nilV) by rw [show homes nilV = [] from homes_none _ _]; simp)
  have HOW := Lib.hid hown
  have hro := readObjects_any p q g { sNew with epoch := ep } r1 w4 hR4 hT4 (fun hm => by have := hown _ hm; omega) (Nat.lt_trans hgp hT4.row.lt) (by have := H0.out.2.2.2.2.2.2; omega) (by show ([] : List OP).length ≤ 36; simp) (H0.out.2.2.1.keep k04 (by simp)) (fun hm => by
    have h0 := H0.out.2.2.2.1
    rcases List.mem_cons.1 hm with h | h
    · have := H1.out.2.1; omega
    · have := hown _ h; omega)
  rw [show (TS.pure { sNew with epoch := ep }) = (⟨ep, [], []⟩ : PT) from rfl, HX.out.1] at hro
  have HRO := Lib.hid hro
  clear hro hown hqp hgp hwp hR4 hT4 r4 k4 k04 hw4 yp fp H3 H2 w3
  go_upto_region 5 with (go_at_call 42; refine HRO.out.mono ?_; rintro e w5 ⟨rfl, h5⟩; have H5 := Lib.hid h5; clear h5)
  obtain ⟨s5, t5, p5, R5, o5, k5⟩ := H5.out
  have ge5 : ∀ y ∈ q :: own p s5, w.heap.size ≤ y := fun y hy => by
    rcases List.mem_cons.1 hy with rfl | hy
    · exact H1.out.2.1
    · rcases o5 y hy with h | h
      · have := HOW.out _ h; have := HQ.out.2.2; omega
      · have := H4.out.2.2.size; omega
  have hg5 : g ∉ own p s5 := fun hm => by
    rcases o5 g hm with h | h
    · have := HOW.out _ h; have := HQ.out.2.1; omega
    · have := H4.out.2.1.row.lt; have := HQ.out.2.1; omega
  have k05 : keepBut [] w w5 := H4.out.2.2.then k5 (fun y hy => .inr (by
    rcases List.mem_cons.1 hy with rfl | hy
    · exact H1.out.2.1
    · have := HOW.out _ hy; have := HQ.out.2.2; omega))
  have hra := readAnswers_any p q g s5 X.1 w5 R5 t5 hg5 (by have := t5.row.lt; have := HQ.out.2.1; omega) (by have := HX.out.2.1; omega) (by rw [p5]; exact HX.out.2.2.1) (H0.out.2.2.1.keep k05 (by simp)) (fun hm => by have := ge5 _ hm; have := H0.out.2.2.2.1; omega)
  rw [p5, HX.out.2.2.2] at hra
  have HRA := Lib.hid hra
  have H55 := Lib.hid (And.intro ge5 k05)
  clear hra ge5 k05 hg5 t5 p5 R5 o5 k5
  obtain ⟨f5, hf5⟩ : ∃ f, X.2.2 = f := ⟨_, rfl⟩
  obtain ⟨f6, hf6⟩ : ∃ f, Y.2.2 = f := ⟨_, rfl⟩
  have HF := Lib.hid (And.intro hf5 hf6)
  rw [hf6] at HRA
  try rw [hf5]
  clear hf5 hf6
  obtain ⟨E, hE⟩ : ∃ E, Y.1.end_ = E := ⟨_, rfl⟩
  have HE := Lib.hid hE
  have hcase : E ≠ 0 ∨ E = 0 := by omega
  clear hE
  go_upto_region 5 with fail
  rcases hcase with hE | rfl
  · have hEb : (E != 0) = true := by simp [hE]
    have HN := Lib.hid hE
    clear hE
    cases f6 <;> cases f5
    all_goals (
      go_wp2_with (first
        | (go_at_call 43; refine HRA.out.mono ?_; rintro e w6 ⟨rfl, h6⟩; obtain ⟨s6, t6, p6, R6, o6, k6⟩ := h6; have H6 := Lib.hid (And.intro t6 (And.intro p6 (And.intro R6 (And.intro o6 k6)))); clear t6 p6 R6 o6 k6)
        | (go_at_call 44; (with_reducible refine (end_any q g Y.1 _ H6.out.2.2.1).mono ?_); rintro e w7 ⟨rfl, rfl⟩; rw [HE.out]))
      go_ret2
      have kw := H55.out.2.then H6.out.2.2.2.2 (fun y hy => .inr (H55.out.1 y hy))
      refine ⟨kw, .inl ?_⟩
      rw [← HO.out]
      dsimp only
      rw [HE.out]
      exact ⟨HN.out, rfl⟩)
  · cases f6 <;> cases f5
    all_goals (
      go_wp2_with (first
        | (go_at_call 43; refine HRA.out.mono ?_; rintro e w6 ⟨rfl, h6⟩; obtain ⟨s6, t6, p6, R6, o6, k6⟩ := h6; have H6 := Lib.hid (And.intro t6 (And.intro p6 (And.intro R6 (And.intro o6 k6)))); clear t6 p6 R6 o6 k6)
        | (go_at_call 44; (with_reducible refine (end_any q g Y.1 _ H6.out.2.2.1).mono ?_); rintro e w7 ⟨rfl, rfl⟩; rw [HE.out]))
      go_ret2
      have kw := H55.out.2.then H6.out.2.2.2.2 (fun y hy => .inr (H55.out.1 y hy))
      refine ⟨kw, ?_⟩
      rw [← HO.out]
      dsimp only
      rw [HE.out, HF.out.1, HF.out.2]
      first
        | exact .inr (.inl ⟨rfl, rfl, rfl⟩)
        | exact .inr (.inr ⟨rfl, rfl, p, s6, rfl, H6.out.1, H6.out.2.1⟩))
end Go.Proofs.YtmlmhnhilemjhaaDoor
end
