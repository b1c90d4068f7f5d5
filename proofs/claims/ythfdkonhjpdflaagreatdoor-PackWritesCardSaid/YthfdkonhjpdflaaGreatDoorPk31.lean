/-
  PACK, 31: votes out of bytes.
-/
import Derived.Test.YthfdkonhjpdflaaGreatDoorPk30
namespace Go.Proofs.YthfdkonhjpdflaaGreatDoor
open Go.RowKit
set_option linter.unusedVariables false
set_option maxRecDepth 100000
set_option linter.unusedSimpArgs false

theorem reads_rowP {w : World} {g : Nat} {t : TypeId} {cs : List Value} (h : rowAt w g t cs.toArray) (n sz : Nat) (hs : cs.length = n * sz) : reads w (some ⟨g, 0, none⟩) g n sz cs :=
  ⟨hs, fun _ => ⟨0, rfl, h.lt, fun j u hu => by rw [h.cell]; simpa using hu⟩⟩
def rdVs : Nat → List VT → RS → Int → List VT × RS × Int
  | 0, acc, r, part => (acc, r, part)
  | k + 1, acc, r, part =>
    if firstP (rpCf (r.count 9007199254740991).2 part).2.2 (rpCf (r.count 9007199254740991).2 part).2.1.e = 0 then
      rdVs k (acc ++ [⟨(r.count 9007199254740991).1, (rpCf (r.count 9007199254740991).2 part).1⟩]) (rpCf (r.count 9007199254740991).2 part).2.1 (rpCf (r.count 9007199254740991).2 part).2.2
    else ([], (rpCf (r.count 9007199254740991).2 part).2.1, (rpCf (r.count 9007199254740991).2 part).2.2)
def vtK (n : Int) : Nat := (if n ≤ 9 then n else 9).toNat
def rvAll (r : RS) (part : Int) : List VT × RS × Int := rdVs (vtK (r.num 1).1) [] (r.num 1).2 part
/-- the votes that are being read -/
def rvAt (w0 w : World) (sb p g : Nat) (R : List VT × RS × Int) (K i : Nat) (v3 : Value) : Prop :=
  ∃ acc r part A c T G, v3 = .slice A i c ∧ rdVs (K - i) acc r part = R ∧ T.map (·.1) = acc ∧ T.length = i ∧ isS w sb p g r part ∧ (r.l ≠ [] → g < w0.heap.size) ∧
    owns w 69 4 (.slice A i c) i (flatVT T) ∧ (∀ y ∈ homes (.slice A i c), w0.heap.size ≤ y) ∧ (∀ t ∈ T, intsV w G t.2 t.1.conf.chain) ∧ newIn w0 w G ∧ (∀ y ∈ G, y ∉ homes (.slice A i c)) ∧ keepBut [sb, p] w0 w
theorem infoVTd : (Tryz.prog.info? 69).map (fun i => (i.zero, i.size, i.bytes)) = some (some (.agg #[.int .i64 0, .int .i64 0, .int .i64 0, .slice none 0 0]), 4, 48) := by kernel_rfl
theorem flatVT_snoc : ∀ (T : List (VT × Value)) (t : VT × Value), flatVT (T ++ [t]) = flatVT T ++ vtL t.1 t.2
  | [], t => by simp [flatVT]
  | a :: r, t => by rw [List.cons_append, flatVT, flatVT, flatVT_snoc r t, List.append_assoc]
set_option maxHeartbeats 16000000 in
theorem readVotes_any (p g sb : Nat) (r : RS) (part : Int) (w : World) (hs : isS w sb p g r part) :
    Calls Tryz.prog 146 #[.pointer (some ⟨sb, 0, none⟩)] w fun e w' => ∃ v G, e = .returned v ∧ votesV w' G v (rvAll r part).1 ∧ newIn w w' G ∧ isS w' sb p g (rvAll r part).2.1 (rvAll r part).2.2 ∧ keepBut [sb, p] w w' := by
  obtain ⟨x1, hx1⟩ : ∃ x, (r.num 1).1 = x := ⟨_, rfl⟩
  obtain ⟨r1, hr1⟩ : ∃ x, (r.num 1).2 = x := ⟨_, rfl⟩
  have S1 : Hid ((r1.l ≠ [] → r.l ≠ []) ∧ r1.l.length ≤ r.l.length) := Lib.hid (by rw [← hr1]; exact ⟨num_left, num_short _ _⟩)
  have hx1r : 0 ≤ x1 ∧ x1 ≤ 255 := by rw [← hx1]; exact num1_range _
  obtain ⟨K, hK⟩ : ∃ K, vtK x1 = K := ⟨_, rfl⟩
  have hK9 : K ≤ 9 := by rw [← hK]; unfold vtK; split <;> omega
  obtain ⟨R, hR⟩ : ∃ R, rvAll r part = R := ⟨_, rfl⟩
  have hRR : rdVs K [] r1 part = R := by rw [← hR]; unfold rvAll; rw [hx1, hr1, hK]
  have HX := Lib.hid (And.intro hx1 (And.intro hr1 (And.intro hK hRR)))
  rw [hR]
  clear hx1 hr1 hK hRR hR
  have c0 : w.cell? ⟨sb, 0, none⟩ = some (.pointer (some ⟨p, 0, none⟩)) := hs.row.cell 0
  have hsl := hs.row.lt
  have hpl := hs.rd.lt
  have H := Lib.hid (And.intro hs (fun hne => hs.rd.gl hne))
  clear hs
  go_enter Tryz.func146, Tryz.ntmps146
  go_upto_region 2 with fail
  go_cut [10, 11] (fun v10 v11 wx => v10 = .int .i64 (K : Int) ∧ v11 = .int .i64 0 ∧ isS wx sb p g r1 part ∧ keepBut [sb, p] w wx)
  case first =>
    have hcs : (x1 ≤ 9 ∧ x1 = (K : Int)) ∨ (¬ x1 ≤ 9 ∧ 9 = (K : Int)) := by
      have hk := HX.out.2.2.1
      unfold vtK at hk
      split at hk <;> omega
    rcases hcs with ⟨h5, hxk⟩ | ⟨h5, hxk⟩
    all_goals
      have HXK := Lib.hid hxk
      clear hxk
      go_wp2_with (first
        | (go_at_call 94; refine (num_any p g r 1 _ H.out.1.rd).mono ?_; intro e u3 hq; unfold numPost at hq; rw [HX.out.1, HX.out.2.1] at hq; obtain ⟨rfl, hr, hk⟩ := hq; have Q := Lib.hid (And.intro (H.out.1.read hr hk S1.out.1 S1.out.2) hk); clear hr hk))
      go_meet
      exact ⟨by rw [← HXK.out], rfl, Q.out.1, Q.out.2.more (by simp)⟩
  case rest =>
    obtain ⟨rfl, rfl, hs1, hk1⟩ := hcut
    generalize wc = w1 at *
    have P1 := Lib.hid (And.intro hs1 hk1)
    clear hs1 hk1 c0
    obtain ⟨i0, hi0, hz0, hz1, hz2⟩ := info_parts infoVTd
    have HI := Lib.hid (And.intro hi0 (And.intro hz0 (And.intro hz1 hz2)))
    clear hi0 hz0 hz1 hz2
    go_wp2_with fail
    go_loopw [3, 4, 11] (fun v3 _ v11 wx => ∃ i : Nat, i ≤ K ∧ v11 = .int .i64 (i : Int) ∧ rvAt w wx sb p g R K i v3) (fun _ _ v11 _ => K - (intOf v11).toNat)
    case atStart => exact ⟨0, by omega, rfl, [], r1, part, none, 0, [], [], rfl, HX.out.2.2.2, rfl, rfl, P1.out.1, fun hne => H.out.2 (S1.out.1 hne), owns.nil _ _ _, by simp [homes_none], by simp, (fun y hy => by simp at hy), by simp, P1.out.2⟩
    case round =>
      obtain ⟨i, hi, rfl, acc, r2, part2, A, c, T, G, rfl, hres, hmap, hTl, hS, hgl, hO, hH, hV, hN, hGH, hk⟩ := hrel
      by_cases hlt : i < K
      · have hlt' : (i : Int) < (K : Int) := by omega
        have hn0 : (0 : Int) ≤ (i : Int) := by omega
        have hw1 : IntKind.i64.wrap ((i : Int) + 1) = (i : Int) + 1 := wraps_i64 _ (by omega) (by omega)
        have c0 : wr.cell? ⟨sb, 0, none⟩ = some (.pointer (some ⟨p, 0, none⟩)) := hS.row.cell 0
        obtain ⟨b1, hb1⟩ : ∃ x, (r2.count 9007199254740991).1 = x := ⟨_, rfl⟩
        obtain ⟨r3, hr3⟩ : ∃ x, (r2.count 9007199254740991).2 = x := ⟨_, rfl⟩
        obtain ⟨cf, hcf⟩ : ∃ x, (rpCf r3 part2).1 = x := ⟨_, rfl⟩
        obtain ⟨r4, hr4⟩ : ∃ x, (rpCf r3 part2).2.1 = x := ⟨_, rfl⟩
        obtain ⟨part4, hp4⟩ : ∃ x, (rpCf r3 part2).2.2 = x := ⟨_, rfl⟩
        have S3 : Hid ((r3.l ≠ [] → r2.l ≠ []) ∧ r3.l.length ≤ r2.l.length) := Lib.hid (by rw [← hr3]; exact ⟨count_left, RS.count_short _ _⟩)
        have S4 : Hid (r4.l ≠ [] → r3.l ≠ []) := Lib.hid (by rw [← hr4]; unfold rpCf; split <;> exact text_left)
        have hres2 : (if firstP part4 r4.e = 0 then rdVs (K - (i + 1)) (acc ++ [⟨b1, cf⟩]) r4 part4 else ([], r4, part4)) = R := by
          rw [← hres, show K - i = (K - (i + 1)) + 1 by omega]
          rw [rdVs, hr3, hb1, hcf, hr4, hp4]
        have HP := Lib.hid (And.intro hS (And.intro hO (And.intro hH (And.intro hV (And.intro hN (And.intro hGH (And.intro hk (And.intro hgl (And.intro hmap hTl)))))))))
        have HY := Lib.hid (And.intro hb1 (And.intro hr3 (And.intro hcf (And.intro hr4 (And.intro hp4 hres2)))))
        clear hS hO hH hV hN hGH hk hgl hmap hTl hb1 hr3 hcf hr4 hp4 hres hres2
        go_upto_region 5 with (first
          | (go_at_call 102; refine (count_any p g r2 9007199254740991 _ HP.out.1.rd).mono ?_; intro e u1 hq; unfold countPost at hq; rw [HY.out.1, HY.out.2.1] at hq; obtain ⟨rfl, hr, hkq⟩ := hq; have Q := Lib.hid (And.intro (HP.out.1.read hr hkq S3.out.1 S3.out.2) hkq); clear hr hkq))
        have k7 := (keepBut.refl [] u1).alloc (.cells #[.int .i64 b1, .int .i64 0, .int .i64 0, .slice none 0 0] 69)
        have r7 := rowAt.new u1 69 #[.int .i64 b1, .int .i64 0, .int .i64 0, .slice none 0 0]
        obtain ⟨wv, hwv⟩ : ∃ wv, u1.alloc (.cells #[.int .i64 b1, .int .i64 0, .int .i64 0, .slice none 0 0] 69) = wv := ⟨_, rfl⟩
        rw [hwv] at k7 r7 ⊢
        obtain ⟨tv, htv⟩ : ∃ tv, u1.heap.size = tv := ⟨_, rfl⟩
        rw [htv] at r7 ⊢
        have hS3 := Q.out.1.over k7
        have kv := Q.out.2.then k7 (by simp)
        have htl : w.heap.size ≤ tv := by have h1 := HP.out.2.2.2.2.2.2.1.size; have h2 := Q.out.2.size; omega
        have hts : tv ≠ sb := by omega
        have htp : tv ≠ p := by omega
        have hwt : wr.heap.size ≤ tv := by have h2 := Q.out.2.size; omega
        have H3 := Lib.hid (And.intro hS3 (And.intro kv (And.intro r7 hwt)))
        clear k7 r7 hwv htv hS3 kv Q hwt c0
        go_upto_region 6 with (first
          | (go_at_call 145; refine (readPartCf_any p g sb r3 part2 _ H3.out.1).mono ?_; intro e u3 hq; rw [HY.out.2.2.1, HY.out.2.2.2.1, HY.out.2.2.2.2.1] at hq; obtain ⟨ev, G2, rfl, gv, gn, gs, gk⟩ := hq; obtain ⟨A7, c7, g7, rfl, _⟩ := id gv; dsimp only [cfL]; have r8 := gk.row H3.out.2.2.1 (by simp [hts, htp]); have y1 : u3.cell? ⟨tv, 1, none⟩ = some (.int .i64 0) := r8.cell 1; have y2 : u3.cell? ⟨tv, 2, none⟩ = some (.int .i64 0) := r8.cell 2; have y3 : u3.cell? ⟨tv, 3, none⟩ = some (.slice none 0 0) := r8.cell 3; have f1 := r8.free 1; have f2 := r8.free 2; have f3 := r8.free 3; have H4 := Lib.hid (And.intro gv (And.intro gn (And.intro gs (And.intro gk r8)))); clear gv gn gs gk r8))
        have ks := ((kset u3 tv 1 (.int .i64 cf.num)).setCell ⟨tv, 2, none⟩ (.int .i64 cf.full) (.inl (by simp))).setCell ⟨tv, 3, none⟩ (.slice A7 cf.chain.length c7) (.inl (by simp))
        have r9 := ((H4.out.2.2.2.2.set 1 (.int .i64 cf.num)).set 2 (.int .i64 cf.full)).set 3 (.slice A7 cf.chain.length c7)
        rw [show (((#[.int .i64 b1, .int .i64 0, .int .i64 0, .slice none 0 0] : Array Value).setIfInBounds 1 (.int .i64 cf.num)).setIfInBounds 2 (.int .i64 cf.full)).setIfInBounds 3 (.slice A7 cf.chain.length c7) = #[.int .i64 b1, .int .i64 cf.num, .int .i64 cf.full, .slice A7 cf.chain.length c7] from rfl] at r9
        obtain ⟨w4, hw4⟩ : ∃ w4, ((u3.setCell ⟨tv, 1, none⟩ (.int .i64 cf.num)).setCell ⟨tv, 2, none⟩ (.int .i64 cf.full)).setCell ⟨tv, 3, none⟩ (.slice A7 cf.chain.length c7) = w4 := ⟨_, rfl⟩
        rw [hw4] at ks r9 ⊢
        have hgl4 : r4.l ≠ [] → g < w.heap.size := fun hne => HP.out.2.2.2.2.2.2.2.1 (S3.out.1 (S4.out hne))
        have hS4 := H4.out.2.2.1.keep ks (by simp; exact fun e => hts e.symm) (by simp; exact fun e => htp e.symm) (fun hne => by have := hgl4 hne; simp; omega)
        have kall : keepBut [sb, p] wr w4 := ((H3.out.2.1.more (by simp)).then H4.out.2.2.2.1 (fun x hx => .inl hx)).then ks (fun x hx => .inr (by simp at hx; have := H3.out.2.2.2; omega))
        have hiv := H4.out.1.keep ks (fun y hy => by have h1 := (H4.out.2.1 y hy).1; have h2 := H3.out.2.2.1.lt; simp; omega)
        have hO4 := HP.out.2.1.keep kall (fun y hy => by have h1 := HP.out.2.2.1 y hy; simp; omega)
        have hV4 : ∀ t ∈ T, intsV w4 G t.2 t.1.conf.chain := fun t ht => (HP.out.2.2.2.1 t ht).keep kall (fun y hy => by have h1 := (HP.out.2.2.2.2.1 y hy).1; simp; omega)
        have hG2 : newIn w w4 G2 := fun y hy => ⟨by have h1 := (H4.out.2.1 y hy).1; have h2 := H3.out.2.2.1.lt; omega, Nat.lt_of_lt_of_le (H4.out.2.1 y hy).2 ks.size⟩
        have hG2h : ∀ y ∈ G2, y ∉ homes (.slice A i c) := fun y hy hm => by have h1 := (H4.out.2.1 y hy).1; have h2 := H3.out.2.2.1.lt; have h3 := HP.out.2.1.lt y hm; have h4 := H3.out.2.2.2; omega
        have H5 := Lib.hid (And.intro hS4 (And.intro kall (And.intro hiv (And.intro hO4 (And.intro hV4 (And.intro hG2 (And.intro hG2h (And.intro hgl4 r9))))))))
        have z0 : w4.cell? ⟨tv, 0, none⟩ = some (.int .i64 b1) := r9.cell 0
        have z1 : w4.cell? ⟨tv, 1, none⟩ = some (.int .i64 cf.num) := r9.cell 1
        have z2 : w4.cell? ⟨tv, 2, none⟩ = some (.int .i64 cf.full) := r9.cell 2
        have z3 : w4.cell? ⟨tv, 3, none⟩ = some (.slice A7 cf.chain.length c7) := r9.cell 3
        clear ks r9 hw4 hgl4 hS4 kall hiv hO4 hV4 hG2 hG2h y1 y2 y3 f1 f2 f3
        by_cases hf : firstP part4 r4.e = 0
        · have HF := Lib.hid hf
          have HRR : Hid (rdVs (K - (i + 1)) (acc ++ [⟨b1, cf⟩]) r4 part4 = R) := Lib.hid (by have := HY.out.2.2.2.2.2; rwa [if_pos hf] at this)
          clear hf
          go_wp2_with (first
            | (go_at_call 95; refine (first_any _ sb p g r4 part4 H5.out.1).mono ?_; rintro e u9 ⟨rfl, rfl⟩; rw [HF.out])
            | (at_builtin; refine wp_append _ rfl (.tmp 25) (.tmp 27) 32 rfl 69 i0 (.agg #[.int .i64 0, .int .i64 0, .int .i64 0, .slice none 0 0]) 4 48 Tryz.underlying32 HI.out.1 HI.out.2.1 HI.out.2.2.1 HI.out.2.2.2 rfl (by decide) (.slice A i c) i (flatVT T) rfl (H5.out.2.2.2.1.keep ((keepBut.refl [] w4).alloc (.cells #[.int .i64 b1, .int .i64 cf.num, .int .i64 cf.full, .slice A7 cf.chain.length c7] 69)) (by simp)) (some ⟨w4.heap.size, 0, none⟩) w4.heap.size 1 1 [.int .i64 b1, .int .i64 cf.num, .int .i64 cf.full, .slice A7 cf.chain.length c7] rfl (reads_rowP (rowAt.new w4 69 #[.int .i64 b1, .int .i64 cf.num, .int .i64 cf.full, .slice A7 cf.chain.length c7]) 1 4 rfl) (by intro u hu; simp at hu; rcases hu with rfl | rfl | rfl | rfl <;> rfl) (by omega) (by unfold maxLen; omega) ?_; intro A6 c6 w6 hown6 hkb6 hloc6))
          have hRV : rvAt w w6 sb p g R K (i + 1) (.slice A6 (i + 1) c6) := by
            have kwa := (keepBut.refl [] w4).alloc (.cells #[.int .i64 b1, .int .i64 cf.num, .int .i64 cf.full, .slice A7 cf.chain.length c7] 69)
            have hsa : (w4.alloc (.cells #[.int .i64 b1, .int .i64 cf.num, .int .i64 cf.full, .slice A7 cf.chain.length c7] 69)).heap.size = w4.heap.size + 1 := World.size_alloc _ _
            have hH := HP.out.2.2.1
            have hk4 := HP.out.2.2.2.2.2.2.1
            have hnew : ∀ x ∈ homes (.slice A6 (i + 1) c6), x ∈ homes (.slice A i c) ∨ w4.heap.size ≤ x := fun x hx => (hloc6 x hx).imp id (by omega)
            have hs0 := hk4.size
            have hs1 := H5.out.2.1.size
            have hs6 := hkb6.size
            refine ⟨acc ++ [⟨b1, cf⟩], r4, part4, A6, c6, T ++ [(⟨b1, cf⟩, .slice A7 cf.chain.length c7)], G ++ G2, rfl, HRR.out, ?_, ?_, ?_, H5.out.2.2.2.2.2.2.2.1, ?_, ?_, ?_, ?_, ?_, ?_⟩
            · rw [List.map_append, HP.out.2.2.2.2.2.2.2.2.1]; rfl
            · rw [List.length_append, HP.out.2.2.2.2.2.2.2.2.2]; rfl
            · exact (H5.out.1.over kwa).keep hkb6 (fun hm => by have := hH _ hm; omega) (fun hm => by have := hH _ hm; omega) (fun hne hm => by have := hH _ hm; have := H5.out.2.2.2.2.2.2.2.1 hne; omega)
            · rw [flatVT_snoc]; exact hown6
            · intro y hy
              rcases hnew y hy with h | h
              · exact hH y h
              · omega
            · intro t ht
              rcases List.mem_append.1 ht with ht | ht
              · exact (((H5.out.2.2.2.2.1 t ht).keep kwa (by simp)).keep hkb6 (fun y hy => HP.out.2.2.2.2.2.1 y hy)).more (fun y hy => List.mem_append.2 (.inl hy))
              · simp at ht
                subst ht
                exact ((H5.out.2.2.1.keep kwa (by simp)).keep hkb6 (fun y hy => H5.out.2.2.2.2.2.2.1 y hy)).more (fun y hy => List.mem_append.2 (.inr hy))
            · intro y hy
              rcases List.mem_append.1 hy with hy | hy
              · have := HP.out.2.2.2.2.1 y hy; omega
              · have := H5.out.2.2.2.2.2.1 y hy; omega
            · intro y hy hm
              rcases List.mem_append.1 hy with hy | hy
              · rcases hnew y hm with h | h
                · exact HP.out.2.2.2.2.2.1 y hy h
                · have := HP.out.2.2.2.2.1 y hy; omega
              · rcases hnew y hm with h | h
                · exact H5.out.2.2.2.2.2.2.1 y hy h
                · have := H5.out.2.2.2.2.2.1 y hy; omega
            · exact ((hk4.then H5.out.2.1 (fun x hx => .inl hx)).then kwa (by simp)).then hkb6 (fun x hx => .inr (hH x hx))
          exact ⟨⟨i + 1, by omega, by go_num, hRV⟩, by simp [intOf]; omega⟩
        · have hfb : (firstP part4 r4.e != 0) = true := by simp [hf]
          have HRR : Hid (([], r4, part4) = R) := Lib.hid (by have := HY.out.2.2.2.2.2; rwa [if_neg hf] at this)
          clear hf
          go_wp2_with (first
            | (go_at_call 95; refine (first_any _ sb p g r4 part4 H5.out.1).mono ?_; rintro e u9 ⟨rfl, rfl⟩))
          go_ret
          rw [← HRR.out]
          exact ⟨_, [], rfl, votesV.nil _ _, fun y hy => by simp at hy, H5.out.1, HP.out.2.2.2.2.2.2.1.then H5.out.2.1 (fun x hx => .inl hx)⟩
      · obtain rfl : i = K := by omega
        have hf : (acc, r2, part2) = R := by rw [← hres, Nat.sub_self]; rfl
        have HQ := Lib.hid (And.intro hf (And.intro hmap (And.intro hTl (And.intro hS (And.intro hO (And.intro hH (And.intro hV (And.intro hN hk))))))))
        clear hf hmap hTl hS hO hH hV hN hk hres hgl hGH
        go_wp2_with fail
        go_ret
        obtain ⟨hf, hmap, hTl, hS, hO, hH, hV, hN, hk⟩ := HQ.out
        rw [← hf]
        refine ⟨_, G ++ homes (.slice A i c), rfl, ?_, fun y hy => ?_, hS, hk⟩
        · obtain ⟨A3, c3, e3, h31, h32, h33, h34⟩ := hO.form
          injection e3 with e3a e3b e3c
          subst e3a e3c
          obtain ⟨g3, hg3⟩ := homes_one (.slice A i c)
          have hal : acc.length = i := by rw [← hmap, List.length_map, hTl]
          refine ⟨A, c, g3, T, by rw [hal]; rfl, by rw [hal]; exact h31, h32, hmap, by rw [hal]; exact h34 g3 hg3, fun t ht => (hV t ht).more (fun y hy => List.mem_append.2 (.inl hy)), fun hne => ?_⟩
          have hne' : acc ≠ [] := hne
          obtain ⟨o, hA, _⟩ := (h34 g3 hg3).2 (by have := List.length_pos_iff.2 hne'; omega)
          rw [hA]; simp [homes_some]
        · rcases List.mem_append.1 hy with hy | hy
          · exact hN y hy
          · exact ⟨hH y hy, hO.lt y hy⟩
end Go.Proofs.YthfdkonhjpdflaaGreatDoor
