/-
  PKI: Pk31, Pk32, joined.
-/
import Derived.Test.YthfdkonhjpdflaaGreatDoorPk30
section
namespace Go.Proofs.YthfdkonhjpdflaaGreatDoor
open Go.RowKit
set_option linter.unusedVariables false
set_option maxRecDepth 100000
set_option linter.unusedSimpArgs false

theorem reads_rowP {w : World} {g : Nat} {t : TypeId} {cs : List Value} (h : rowAt w g t cs.toArray) (n sz : Nat) (hs : cs.length = n * sz) : reads w (some ⟨g, 0, none⟩) g n sz cs :=
  ⟨hs, fun _ => ⟨0, rfl, h.lt, fun j u hu => by rw [h.cell]; simpa using hu⟩⟩
def rdVs : Nat → List VT → RS → Int → List VT × RS × Int
  | 0, acc, r, part => (acc, r, part)
  | k + 1, acc, r, part =>
    if firstP (rpCf (r.count 9007199254740991).2 part).2.2 (rpCf (r.count 9007199254740991).2 part).2.1.e = 0 then
      rdVs k (acc ++ [⟨(r.count 9007199254740991).1, (rpCf (r.count 9007199254740991).2 part).1⟩]) (rpCf (r.count 9007199254740991).2 part).2.1 (rpCf (r.count 9007199254740991).2 part).2.2
    else ([], (rpCf (r.count 9007199254740991).2 part).2.1, (rpCf (r.count 9007199254740991).2 part).2.2)
def vtK (n : Int) : Nat := (if n ≤ 9 then n else 9).toNat
def rvAll (r : RS) (part : Int) : List VT × RS × Int := rdVs (vtK (r.num 1).1) [] (r.num 1).2 part
/-- the votes that are being read -/
def rvAt (w0 w : World) (sb p g : Nat) (R : List VT × RS × Int) (K i : Nat) (v3 : Value) : Prop :=
  ∃ acc r part A c T G, v3 = .slice A i c ∧ rdVs (K - i) acc r part = R ∧ T.map (·.1) = acc ∧ T.length = i ∧ isS w sb p g r part ∧ (r.l ≠ [] → g < w0.heap.size) ∧
    owns w 69 4 (.slice A i c) i (flatVT T) ∧ (∀ y ∈ homes (.slice A i c), w0.heap.size ≤ y) ∧ (∀ t ∈ T, intsV w G t.2 t.1.conf.chain) ∧ newIn w0 w G ∧ (∀ y ∈ G, y ∉ homes (.slice A i c)) ∧ keepBut [sb, p] w0 w
theorem infoVTd : (Tryz.prog.info? 69).map (fun i => (i.zero, i.size, i.bytes)) = some (some (.agg #[.int .i64 0, .int .i64 0, .int .i64 0, .slice none 0 0]), 4, 48) := by kernel_rfl
theorem flatVT_snoc : ∀ (T : List (VT × Value)) (t : VT × Value), flatVT (T ++ [t]) = flatVT T ++ vtL t.1 t.2
  | [], t => by simp [flatVT]
  | a :: r, t => by rw [List.cons_append, flatVT, flatVT, flatVT_snoc r t, List.append_assoc]
set_option maxHeartbeats 16000000 in
theorem readVotes_any (p g sb : Nat) (r : RS) (part : Int) (w : World) (hs : isS w sb p g r part) :
    Calls Tryz.prog 146 #[.pointer (some ⟨sb, 0, none⟩)] w fun e w' => ∃ v G, e = .returned v ∧ votesV w' G v (rvAll r part).1 ∧ newIn w w' G ∧ isS w' sb p g (rvAll r part).2.1 (rvAll r part).2.2 ∧ keepBut [sb, p] w w' := by
  obtain ⟨x1, hx1⟩ : ∃ x, (r.num 1).1 = x := ⟨_, rfl⟩
  obtain ⟨r1, hr1⟩ : ∃ x, (r.num 1).2 = x := ⟨_, rfl⟩
  have S1 : Hid ((r1.l ≠ [] → r.l ≠ []) ∧ r1.l.length ≤ r.l.length) := Lib.hid (by rw [← hr1]; exact ⟨num_left, num_short _ _⟩)
  have hx1r : 0 ≤ x1 ∧ x1 ≤ 255 := by rw [← hx1]; exact num1_range _
  obtain ⟨K, hK⟩ : ∃ K, vtK x1 = K := ⟨_, rfl⟩
  have hK9 : K ≤ 9 := by rw [← hK]; unfold vtK; split <;> omega
  obtain ⟨R, hR⟩ : ∃ R, rvAll r part = R := ⟨_, rfl⟩
  have hRR : rdVs K [] r1 part = R := by rw [← hR]; unfold rvAll; rw [hx1, hr1, hK]
  have HX := Lib.hid (And.intro hx1 (And.intro hr1 (And.intro hK hRR)))
  rw [hR]
  clear hx1 hr1 hK hRR hR
  have c0 : w.cell? ⟨sb, 0, none⟩ = some (.pointer (some ⟨p, 0, none⟩)) := hs.row.cell 0
  have hsl := hs.row.lt
  have hpl := hs.rd.lt
  have H := Lib.hid (And.intro hs (fun hne => hs.rd.gl hne))
  clear hs
  go_enter Tryz.func146, Tryz.ntmps146
  go_upto_region 2 with fail
  go_cut [10, 11] (fun v10 v11 wx => v10 = .int .i64 (K : Int) ∧ v11 = .int .i64 0 ∧ isS wx sb p g r1 part ∧ keepBut [sb, p] w wx)
  case first =>
    have hcs : (x1 ≤ 9 ∧ x1 = (K : Int)) ∨ (¬ x1 ≤ 9 ∧ 9 = (K : Int)) := by
      have hk := HX.out.2.2.1
      unfold vtK at hk
      split at hk <;> omega
    rcases hcs with ⟨h5, hxk⟩ | ⟨h5, hxk⟩
    all_goals
      have HXK := Lib.hid hxk
      clear hxk
      go_wp2_with (first
        | (go_at_call 94; refine (num_any p g r 1 _ H.out.1.rd).mono ?_; intro e u3 hq; unfold numPost at hq; rw [HX.out.1, HX.out.2.1] at hq; obtain ⟨rfl, hr, hk⟩ := hq; have Q := Lib.hid (And.intro (H.out.1.read hr hk S1.out.1 S1.out.2) hk); clear hr hk))
      go_meet
      exact ⟨by rw [← HXK.out], rfl, Q.out.1, Q.out.2.more (by simp)⟩
  case rest =>
    obtain ⟨rfl, rfl, hs1, hk1⟩ := hcut
    generalize wc = w1 at *
    have P1 := Lib.hid (And.intro hs1 hk1)
    clear hs1 hk1 c0
    obtain ⟨i0, hi0, hz0, hz1, hz2⟩ := info_parts infoVTd
    have HI := Lib.hid (And.intro hi0 (And.intro hz0 (And.intro hz1 hz2)))
    clear hi0 hz0 hz1 hz2
    go_wp2_with fail
    go_loopw [3, 4, 11] (fun v3 _ v11 wx => ∃ i : Nat, i ≤ K ∧ v11 = .int .i64 (i : Int) ∧ rvAt w wx sb p g R K i v3) (fun _ _ v11 _ => K - (intOf v11).toNat)
    case atStart => exact ⟨0, by omega, rfl, [], r1, part, none, 0, [], [], rfl, HX.out.2.2.2, rfl, rfl, P1.out.1, fun hne => H.out.2 (S1.out.1 hne), owns.nil _ _ _, by simp [homes_none], by simp, (fun y hy => by simp at hy), by simp, P1.out.2⟩
    case round =>
      obtain ⟨i, hi, rfl, acc, r2, part2, A, c, T, G, rfl, hres, hmap, hTl, hS, hgl, hO, hH, hV, hN, hGH, hk⟩ := hrel
      by_cases hlt : i < K
      · have hlt' : (i : Int) < (K : Int) := by omega
        have hn0 : (0 : Int) ≤ (i : Int) := by omega
        have hw1 : IntKind.i64.wrap ((i : Int) + 1) = (i : Int) + 1 := wraps_i64 _ (by omega) (by omega)
        have c0 : wr.cell? ⟨sb, 0, none⟩ = some (.pointer (some ⟨p, 0, none⟩)) := hS.row.cell 0
        obtain ⟨b1, hb1⟩ : ∃ x, (r2.count 9007199254740991).1 = x := ⟨_, rfl⟩
        obtain ⟨r3, hr3⟩ : ∃ x, (r2.count 9007199254740991).2 = x := ⟨_, rfl⟩
        obtain ⟨cf, hcf⟩ : ∃ x, (rpCf r3 part2).1 = x := ⟨_, rfl⟩
        obtain ⟨r4, hr4⟩ : ∃ x, (rpCf r3 part2).2.1 = x := ⟨_, rfl⟩
        obtain ⟨part4, hp4⟩ : ∃ x, (rpCf r3 part2).2.2 = x := ⟨_, rfl⟩
        have S3 : Hid ((r3.l ≠ [] → r2.l ≠ []) ∧ r3.l.length ≤ r2.l.length) := Lib.hid (by rw [← hr3]; exact ⟨count_left, RS.count_short _ _⟩)
        have S4 : Hid (r4.l ≠ [] → r3.l ≠ []) := Lib.hid (by rw [← hr4]; unfold rpCf; split <;> exact text_left)
        have hres2 : (if firstP part4 r4.e = 0 then rdVs (K - (i + 1)) (acc ++ [⟨b1, cf⟩]) r4 part4 else ([], r4, part4)) = R := by
          rw [← hres, show K - i = (K - (i + 1)) + 1 by omega]
          rw [rdVs, hr3, hb1, hcf, hr4, hp4]
        have HP := Lib.hid (And.intro hS (And.intro hO (And.intro hH (And.intro hV (And.intro hN (And.intro hGH (And.intro hk (And.intro hgl (And.intro hmap hTl)))))))))
        have HY := Lib.hid (And.intro hb1 (And.intro hr3 (And.intro hcf (And.intro hr4 (And.intro hp4 hres2)))))
        clear hS hO hH hV hN hGH hk hgl hmap hTl hb1 hr3 hcf hr4 hp4 hres hres2
        go_upto_region 5 with (first
          | (go_at_call 102; refine (count_any p g r2 9007199254740991 _ HP.out.1.rd).mono ?_; intro e u1 hq; unfold countPost at hq; rw [HY.out.1, HY.out.2.1] at hq; obtain ⟨rfl, hr, hkq⟩ := hq; have Q := Lib.hid (And.intro (HP.out.1.read hr hkq S3.out.1 S3.out.2) hkq); clear hr hkq))
        have k7 := (keepBut.refl [] u1).alloc (.cells #[.int .i64 b1, .int .i64 0, .int .i64 0, .slice none 0 0] 69)
        have r7 := rowAt.new u1 69 #[.int .i64 b1, .int .i64 0, .int .i64 0, .slice none 0 0]
        obtain ⟨wv, hwv⟩ : ∃ wv, u1.alloc (.cells #[.int .i64 b1, .int .i64 0, .int .i64 0, .slice none 0 0] 69) = wv := ⟨_, rfl⟩
        rw [hwv] at k7 r7 ⊢
        obtain ⟨tv, htv⟩ : ∃ tv, u1.heap.size = tv := ⟨_, rfl⟩
        rw [htv] at r7 ⊢
        have hS3 := Q.out.1.over k7
        have kv := Q.out.2.then k7 (by simp)
        have htl : w.heap.size ≤ tv := by have h1 := HP.out.2.2.2.2.2.2.1.size; have h2 := Q.out.2.size; omega
        have hts : tv ≠ sb := by omega
        have htp : tv ≠ p := by omega
        have hwt : wr.heap.size ≤ tv := by have h2 := Q.out.2.size; omega
        have H3 := Lib.hid (And.intro hS3 (And.intro kv (And.intro r7 hwt)))
        clear k7 r7 hwv htv hS3 kv Q hwt c0
        go_upto_region 6 with (first
          | (go_at_call 145; refine (readPartCf_any p g sb r3 part2 _ H3.out.1).mono ?_; intro e u3 hq; rw [HY.out.2.2.1, HY.out.2.2.2.1, HY.out.2.2.2.2.1] at hq; obtain ⟨ev, G2, rfl, gv, gn, gs, gk⟩ := hq; obtain ⟨A7, c7, g7, rfl, _⟩ := id gv; dsimp only [cfL]; have r8 := gk.row H3.out.2.2.1 (by simp [hts, htp]); have y1 : u3.cell? ⟨tv, 1, none⟩ = some (.int .i64 0) := r8.cell 1; have y2 : u3.cell? ⟨tv, 2, none⟩ = some (.int .i64 0) := r8.cell 2; have y3 : u3.cell? ⟨tv, 3, none⟩ = some (.slice none 0 0) := r8.cell 3; have f1 := r8.free 1; have f2 := r8.free 2; have f3 := r8.free 3; have H4 := Lib.hid (And.intro gv (And.intro gn (And.intro gs (And.intro gk r8)))); clear gv gn gs gk r8))
        have ks := ((kset u3 tv 1 (.int .i64 cf.num)).setCell ⟨tv, 2, none⟩ (.int .i64 cf.full) (.inl (by simp))).setCell ⟨tv, 3, none⟩ (.slice A7 cf.chain.length c7) (.inl (by simp))
        have r9 := ((H4.out.2.2.2.2.set 1 (.int .i64 cf.num)).set 2 (.int .i64 cf.full)).set 3 (.slice A7 cf.chain.length c7)
        rw [show (((#[.int .i64 b1, .int .i64 0, .int .i64 0, .slice none 0 0] : Array Value).setIfInBounds 1 (.int .i64 cf.num)).setIfInBounds 2 (.int .i64 cf.full)).setIfInBounds 3 (.slice A7 cf.chain.length c7) = #[.int .i64 b1, .int .i64 cf.num, .int .i64 cf.full, .slice A7 cf.chain.length c7] from rfl] at r9
        obtain ⟨w4, hw4⟩ : ∃ w4, ((u3.setCell ⟨tv, 1, none⟩ (.int .i64 cf.num)).setCell ⟨tv, 2, none⟩ (.int .i64 cf.full)).setCell ⟨tv, 3, none⟩ (.slice A7 cf.chain.length c7) = w4 := ⟨_, rfl⟩
        rw [hw4] at ks r9 ⊢
        have hgl4 : r4.l ≠ [] → g < w.heap.size := fun hne => HP.out.2.2.2.2.2.2.2.1 (S3.out.1 (S4.out hne))
        have hS4 := H4.out.2.2.1.keep ks (by simp; exact fun e => hts e.symm) (by simp; exact fun e => htp e.symm) (fun hne => by have := hgl4 hne; simp; omega)
        have kall : keepBut [sb, p] wr w4 := ((H3.out.2.1.more (by simp)).then H4.out.2.2.2.1 (fun x hx => .inl hx)).then ks (fun x hx => .inr (by simp at hx; have := H3.out.2.2.2; omega))
        have hiv := H4.out.1.keep ks (fun y hy => by have h1 := (H4.out.2.1 y hy).1; have h2 := H3.out.2.2.1.lt; simp; omega)
        have hO4 := HP.out.2.1.keep kall (fun y hy => by have h1 := HP.out.2.2.1 y hy; simp; omega)
        have hV4 : ∀ t ∈ T, intsV w4 G t.2 t.1.conf.chain := fun t ht => (HP.out.2.2.2.1 t ht).keep kall (fun y hy => by have h1 := (HP.out.2.2.2.2.1 y hy).1; simp; omega)
        have hG2 : newIn w w4 G2 := fun y hy => ⟨by have h1 := (H4.out.2.1 y hy).1; have h2 := H3.out.2.2.1.lt; omega, Nat.lt_of_lt_of_le (H4.out.2.1 y hy).2 ks.size⟩
        have hG2h : ∀ y ∈ G2, y ∉ homes (.slice A i c) := fun y hy hm => by have h1 := (H4.out.2.1 y hy).1; have h2 := H3.out.2.2.1.lt; have h3 := HP.out.2.1.lt y hm; have h4 := H3.out.2.2.2; omega
        have H5 := Lib.hid (And.intro hS4 (And.intro kall (And.intro hiv (And.intro hO4 (And.intro hV4 (And.intro hG2 (And.intro hG2h (And.intro hgl4 r9))))))))
        have z0 : w4.cell? ⟨tv, 0, none⟩ = some (.int .i64 b1) := r9.cell 0
        have z1 : w4.cell? ⟨tv, 1, none⟩ = some (.int .i64 cf.num) := r9.cell 1
        have z2 : w4.cell? ⟨tv, 2, none⟩ = some (.int .i64 cf.full) := r9.cell 2
        have z3 : w4.cell? ⟨tv, 3, none⟩ = some (.slice A7 cf.chain.length c7) := r9.cell 3
        clear ks r9 hw4 hgl4 hS4 kall hiv hO4 hV4 hG2 hG2h y1 y2 y3 f1 f2 f3
        by_cases hf : firstP part4 r4.e = 0
        · have HF := Lib.hid hf
          have HRR : Hid (rdVs (K - (i + 1)) (acc ++ [⟨b1, cf⟩]) r4 part4 = R) := Lib.hid (by have := HY.out.2.2.2.2.2; rwa [if_pos hf] at this)
          clear hf
          go_wp2_with (first
            | (go_at_call 95; refine (first_any _ sb p g r4 part4 H5.out.1).mono ?_; rintro e u9 ⟨rfl, rfl⟩; rw [HF.out])
            | (at_builtin; refine wp_append _ rfl (.tmp 25) (.tmp 27) 32 rfl 69 i0 (.agg #[.int .i64 0, .int .i64 0, .int .i64 0, .slice none 0 0]) 4 48 Tryz.underlying32 HI.out.1 HI.out.2.1 HI.out.2.2.1 HI.out.2.2.2 rfl (by decide) (.slice A i c) i (flatVT T) rfl (H5.out.2.2.2.1.keep ((keepBut.refl [] w4).alloc (.cells #[.int .i64 b1, .int .i64 cf.num, .int .i64 cf.full, .slice A7 cf.chain.length c7] 69)) (by simp)) (some ⟨w4.heap.size, 0, none⟩) w4.heap.size 1 1 [.int .i64 b1, .int .i64 cf.num, .int .i64 cf.full, .slice A7 cf.chain.length c7] rfl (reads_rowP (rowAt.new w4 69 #[.int .i64 b1, .int .i64 cf.num, .int .i64 cf.full, .slice A7 cf.chain.length c7]) 1 4 rfl) (by intro u hu; simp at hu; rcases hu with rfl | rfl | rfl | rfl <;> rfl) (by omega) (by unfold maxLen; omega) ?_; intro A6 c6 w6 hown6 hkb6 hloc6))
          have hRV : rvAt w w6 sb p g R K (i + 1) (.slice A6 (i + 1) c6) := by
            have kwa := (keepBut.refl [] w4).alloc (.cells #[.int .i64 b1, .int .i64 cf.num, .int .i64 cf.full, .slice A7 cf.chain.length c7] 69)
            have hsa : (w4.alloc (.cells #[.int .i64 b1, .int .i64 cf.num, .int .i64 cf.full, .slice A7 cf.chain.length c7] 69)).heap.size = w4.heap.size + 1 := World.size_alloc _ _
            have hH := HP.out.2.2.1
            have hk4 := HP.out.2.2.2.2.2.2.1
            have hnew : ∀ x ∈ homes (.slice A6 (i + 1) c6), x ∈ homes (.slice A i c) ∨ w4.heap.size ≤ x := fun x hx => (hloc6 x hx).imp id (by omega)
            have hs0 := hk4.size
            have hs1 := H5.out.2.1.size
            have hs6 := hkb6.size
            refine ⟨acc ++ [⟨b1, cf⟩], r4, part4, A6, c6, T ++ [(⟨b1, cf⟩, .slice A7 cf.chain.length c7)], G ++ G2, rfl, HRR.out, ?_, ?_, ?_, H5.out.2.2.2.2.2.2.2.1, ?_, ?_, ?_, ?_, ?_, ?_⟩
            · rw [List.map_append, HP.out.2.2.2.2.2.2.2.2.1]; rfl
            · rw [List.length_append, HP.out.2.2.2.2.2.2.2.2.2]; rfl
            · exact (H5.out.1.over kwa).keep hkb6 (fun hm => by have := hH _ hm; omega) (fun hm => by have := hH _ hm; omega) (fun hne hm => by have := hH _ hm; have := H5.out.2.2.2.2.2.2.2.1 hne; omega)
            · rw [flatVT_snoc]; exact hown6
            · intro y hy
              rcases hnew y hy with h | h
              · exact hH y h
              · omega
            · intro t ht
              rcases List.mem_append.1 ht with ht | ht
              · exact (((H5.out.2.2.2.2.1 t ht).keep kwa (by simp)).keep hkb6 (fun y hy => HP.out.2.2.2.2.2.1 y hy)).more (fun y hy => List.mem_append.2 (.inl hy))
              · simp at ht
                subst ht
                exact ((H5.out.2.2.1.keep kwa (by simp)).keep hkb6 (fun y hy => H5.out.2.2.2.2.2.2.1 y hy)).more (fun y hy => List.mem_append.2 (.inr hy))
            · intro y hy
              rcases List.mem_append.1 hy with hy | hy
              · have := HP.out.2.2.2.2.1 y hy; omega
              · have := H5.out.2.2.2.2.2.1 y hy; omega
            · intro y hy hm
              rcases List.mem_append.1 hy with hy | hy
              · rcases hnew y hm with h | h
                · exact HP.out.2.2.2.2.2.1 y hy h
                · have := HP.out.2.2.2.2.1 y hy; omega
              · rcases hnew y hm with h | h
                · exact H5.out.2.2.2.2.2.2.1 y hy h
                · have := H5.out.2.2.2.2.2.1 y hy; omega
            · exact ((hk4.then H5.out.2.1 (fun x hx => .inl hx)).then kwa (by simp)).then hkb6 (fun x hx => .inr (hH x hx))
          exact ⟨⟨i + 1, by omega, by go_num, hRV⟩, by simp [intOf]; omega⟩
        · have hfb : (firstP part4 r4.e != 0) = true := by simp [hf]
          have HRR : Hid (([], r4, part4) = R) := Lib.hid (by have := HY.out.2.2.2.2.2; rwa [if_neg hf] at this)
          clear hf
          go_wp2_with (first
            | (go_at_call 95; refine (first_any _ sb p g r4 part4 H5.out.1).mono ?_; rintro e u9 ⟨rfl, rfl⟩))
          go_ret
          rw [← HRR.out]
          exact ⟨_, [], rfl, votesV.nil _ _, fun y hy => by simp at hy, H5.out.1, HP.out.2.2.2.2.2.2.1.then H5.out.2.1 (fun x hx => .inl hx)⟩
      · obtain rfl : i = K := by omega
        have hf : (acc, r2, part2) = R := by rw [← hres, Nat.sub_self]; rfl
        have HQ := Lib.hid (And.intro hf (And.intro hmap (And.intro hTl (And.intro hS (And.intro hO (And.intro hH (And.intro hV (And.intro hN hk))))))))
        clear hf hmap hTl hS hO hH hV hN hk hres hgl hGH
        go_wp2_with fail
        go_ret
        obtain ⟨hf, hmap, hTl, hS, hO, hH, hV, hN, hk⟩ := HQ.out
        rw [← hf]
        refine ⟨_, G ++ homes (.slice A i c), rfl, ?_, fun y hy => ?_, hS, hk⟩
        · obtain ⟨A3, c3, e3, h31, h32, h33, h34⟩ := hO.form
          injection e3 with e3a e3b e3c
          subst e3a e3c
          obtain ⟨g3, hg3⟩ := homes_one (.slice A i c)
          have hal : acc.length = i := by rw [← hmap, List.length_map, hTl]
          refine ⟨A, c, g3, T, by rw [hal]; rfl, by rw [hal]; exact h31, h32, hmap, by rw [hal]; exact h34 g3 hg3, fun t ht => (hV t ht).more (fun y hy => List.mem_append.2 (.inl hy)), fun hne => ?_⟩
          have hne' : acc ≠ [] := hne
          obtain ⟨o, hA, _⟩ := (h34 g3 hg3).2 (by have := List.length_pos_iff.2 hne'; omega)
          rw [hA]; simp [homes_some]
        · rcases List.mem_append.1 hy with hy | hy
          · exact hN y hy
          · exact ⟨hH y hy, hO.lt y hy⟩
end Go.Proofs.YthfdkonhjpdflaaGreatDoor
end

section
namespace Go.Proofs.YthfdkonhjpdflaaGreatDoor
open Go.RowKit
set_option linter.unusedVariables false
set_option maxRecDepth 100000
set_option linter.unusedSimpArgs false

abbrev SF := PK × RS × Int
def f1 (h : Int) (s : SF) : SF := if bitA h 1 = 0 then s else ({ s.1 with num := (s.2.1.count 9007199254740991).1 }, (s.2.1.count 9007199254740991).2, s.2.2)
def f2 (h : Int) (s : SF) : SF := if bitA h 2 = 0 then s else ({ s.1 with seq := (s.2.1.count 9007199254740991).1 - 1 }, (s.2.1.count 9007199254740991).2, s.2.2)
def f3 (h : Int) (s : SF) : SF := if bitA h 4 = 0 then s else ({ s.1 with ballot := (s.2.1.count 9007199254740991).1 }, (s.2.1.count 9007199254740991).2, s.2.2)
def f4 (h : Int) (s : SF) : SF := if bitA h 8 = 0 then s else ({ s.1 with ready := decide ((s.2.1.num 1).1 = 1) }, rdyR s.2.1, rdyP s.2.1 s.2.2)
def f5 (h : Int) (s : SF) : SF := if bitA h 16 = 0 then s else ({ s.1 with req := (rpRq s.2.1 s.2.2).1 }, (rpRq s.2.1 s.2.2).2.1, (rpRq s.2.1 s.2.2).2.2)
def f6 (h : Int) (s : SF) : SF := if bitA h 32 = 0 then s else ({ s.1 with ans := (rpAn s.2.1 s.2.2).1 }, (rpAn s.2.1 s.2.2).2.1, (rpAn s.2.1 s.2.2).2.2)
def f7 (h : Int) (s : SF) : SF := if bitA h 64 = 0 then s else ({ s.1 with conf := (rpCf s.2.1 s.2.2).1 }, (rpCf s.2.1 s.2.2).2.1, (rpCf s.2.1 s.2.2).2.2)
def f8 (h : Int) (s : SF) : SF := if bitA h 128 = 0 then s else ({ s.1 with votes := (rvAll s.2.1 s.2.2).1 }, (rvAll s.2.1 s.2.2).2.1, (rvAll s.2.1 s.2.2).2.2)
def f9 (h : Int) (s : SF) : SF := if bitA h 256 = 0 then s else ({ s.1 with bytes := (s.2.1.text 32768).1 }, (s.2.1.text 32768).2, s.2.2)
def fAll (h : Int) (s : SF) : SF := f9 h (f8 h (f7 h (f6 h (f5 h (f4 h (f3 h (f2 h (f1 h s))))))))
theorem rpRq_left {r : RS} {part : Int} (h : (rpRq r part).2.1.l ≠ []) : r.l ≠ [] := by unfold rpRq at h; split at h <;> exact text_left h
theorem rpAn_left {r : RS} {part : Int} (h : (rpAn r part).2.1.l ≠ []) : r.l ≠ [] := by unfold rpAn at h; split at h <;> exact text_left h
theorem rpCf_left {r : RS} {part : Int} (h : (rpCf r part).2.1.l ≠ []) : r.l ≠ [] := by unfold rpCf at h; split at h <;> exact text_left h
theorem rdVs_left : ∀ (k : Nat) (acc : List VT) (r : RS) (part : Int), (rdVs k acc r part).2.1.l ≠ [] → r.l ≠ []
  | 0, acc, r, part, h => h
  | k + 1, acc, r, part, h => by
    unfold rdVs at h
    split at h
    · exact count_left (rpCf_left (rdVs_left k _ _ _ h))
    · exact count_left (rpCf_left h)
theorem rvAll_left {r : RS} {part : Int} (h : (rvAll r part).2.1.l ≠ []) : r.l ≠ [] := num_left (rdVs_left _ _ _ _ h)
section
variable {q : PK} {ev av cv vv bw : Value}
theorem pkL_num (x : Int) : (pkL q ev av cv vv bw).toArray.setIfInBounds 3 (.int .i64 x) = (pkL { q with num := x } ev av cv vv bw).toArray := by simp [pkL]
theorem pkL_seq (x : Int) : (pkL q ev av cv vv bw).toArray.setIfInBounds 4 (.int .i64 x) = (pkL { q with seq := x } ev av cv vv bw).toArray := by simp [pkL]
theorem pkL_bal (x : Int) : (pkL q ev av cv vv bw).toArray.setIfInBounds 5 (.int .i64 x) = (pkL { q with ballot := x } ev av cv vv bw).toArray := by simp [pkL]
theorem pkL_rdy (x : Bool) : (pkL q ev av cv vv bw).toArray.setIfInBounds 6 (.bool x) = (pkL { q with ready := x } ev av cv vv bw).toArray := by simp [pkL]
theorem pkL_putR (x : RQ) (u : Value) (h : q.req.name.length = 32) (h' : x.name.length = 32) : putL (pkL q ev av cv vv bw).toArray 7 (rqL x u) = (pkL { q with req := x } u av cv vv bw).toArray :=
  putL_mid [.int .i64 q.kind, .int .i64 q.frm, .int .i64 q.dst, .int .i64 q.num, .int .i64 q.seq, .int .i64 q.ballot, .bool q.ready] (rqL q.req ev) (rqL x u) _ (by rw [rqL_len h, rqL_len h'])
theorem pkL_at44 : pkL q ev av cv vv bw = (.int .i64 q.kind :: .int .i64 q.frm :: .int .i64 q.dst :: .int .i64 q.num :: .int .i64 q.seq :: .int .i64 q.ballot :: .bool q.ready :: rqL q.req ev) ++ (anL q.ans av ++ (cfL q.conf cv ++ [vv, bw])) := by simp [pkL]
theorem pkL_at82 : pkL q ev av cv vv bw = ((.int .i64 q.kind :: .int .i64 q.frm :: .int .i64 q.dst :: .int .i64 q.num :: .int .i64 q.seq :: .int .i64 q.ballot :: .bool q.ready :: rqL q.req ev) ++ anL q.ans av) ++ (cfL q.conf cv ++ [vv, bw]) := by simp [pkL]
theorem pkL_putA (x : AN) (u : Value) (hr : q.req.name.length = 32) (h : q.ans.name.length = 32) (h' : x.name.length = 32) : putL (pkL q ev av cv vv bw).toArray 44 (anL x u) = (pkL { q with ans := x } ev u cv vv bw).toArray := by
  rw [pkL_at44, pkL_at44]
  have := putL_mid (.int .i64 q.kind :: .int .i64 q.frm :: .int .i64 q.dst :: .int .i64 q.num :: .int .i64 q.seq :: .int .i64 q.ballot :: .bool q.ready :: rqL q.req ev) (anL q.ans av) (anL x u) (cfL q.conf cv ++ [vv, bw]) (by rw [anL_len h, anL_len h'])
  rw [show (.int .i64 q.kind :: .int .i64 q.frm :: .int .i64 q.dst :: .int .i64 q.num :: .int .i64 q.seq :: .int .i64 q.ballot :: .bool q.ready :: rqL q.req ev : List Value).length = 44 by simp [rqL_len hr]] at this
  exact this
theorem pkL_putC (x : CF) (u : Value) (hr : q.req.name.length = 32) (ha : q.ans.name.length = 32) : putL (pkL q ev av cv vv bw).toArray 82 (cfL x u) = (pkL { q with conf := x } ev av u vv bw).toArray := by
  rw [pkL_at82, pkL_at82]
  have := putL_mid ((.int .i64 q.kind :: .int .i64 q.frm :: .int .i64 q.dst :: .int .i64 q.num :: .int .i64 q.seq :: .int .i64 q.ballot :: .bool q.ready :: rqL q.req ev) ++ anL q.ans av) (cfL q.conf cv) (cfL x u) [vv, bw] rfl
  rw [show ((.int .i64 q.kind :: .int .i64 q.frm :: .int .i64 q.dst :: .int .i64 q.num :: .int .i64 q.seq :: .int .i64 q.ballot :: .bool q.ready :: rqL q.req ev : List Value) ++ anL q.ans av).length = 82 by simp [rqL_len hr, anL_len ha]] at this
  exact this
theorem pkL_votes (hr : q.req.name.length = 32) (ha : q.ans.name.length = 32) (x : List VT) (u : Value) : (pkL q ev av cv vv bw).toArray.setIfInBounds 85 u = (pkL { q with votes := x } ev av cv u bw).toArray := (pkL_setT hr ha u).2.2.2.1
theorem pkL_bytes (hr : q.req.name.length = 32) (ha : q.ans.name.length = 32) (x : List UInt8) (u : Value) : (pkL q ev av cv vv bw).toArray.setIfInBounds 86 u = (pkL { q with bytes := x } ev av cv vv u).toArray := (pkL_setT hr ha u).2.2.2.2
end
/-- a packet that is being read into block pb -/
structure pfA (w0 w : World) (sb p g pb : Nat) (s : SF) (ev av cv vv bw : Value) (F : List Nat) : Prop where
  src : isS w sb p g s.2.1 s.2.2
  row : rowAt w pb 34 (pkL s.1 ev av cv vv bw).toArray
  val : pkV w F s.1 ev av cv vv bw
  new : newIn w0 w F
  kp : keepBut [sb, p, pb] w0 w
  gl : s.2.1.l ≠ [] → g < w0.heap.size ∧ g ≠ pb
  sl : sb < w0.heap.size
  pl : p < w0.heap.size
  bl : pb < w0.heap.size
  ns : pb ≠ sb
  np : pb ≠ p
def pfx (w0 w : World) (sb p g pb : Nat) (s : SF) : Prop := ∃ ev av cv vv bw F, pfA w0 w sb p g pb s ev av cv vv bw F
section
variable {w0 w u : World} {sb p g pb : Nat} {s : SF} {ev av cv vv bw : Value} {F : List Nat}
theorem pfA.read (h : pfA w0 w sb p g pb s ev av cv vv bw F) {r : RS} {part : Int} (hs : isS u sb p g r part) (hk : keepBut [sb, p] w u) (hl : r.l ≠ [] → s.2.1.l ≠ []) : pfA w0 u sb p g pb (s.1, r, part) ev av cv vv bw F :=
  ⟨hs, hk.row h.row (by simp [h.ns, h.np]), h.val.keep hk (fun y hy => by have h1 := (h.new y hy).1; have h2 := h.sl; have h3 := h.pl; simp; omega), fun y hy => ⟨(h.new y hy).1, Nat.lt_of_lt_of_le (h.new y hy).2 hk.size⟩, h.kp.then hk (fun x hx => .inl (by simp at hx; simp; omega)), fun hne => h.gl (hl hne), h.sl, h.pl, h.bl, h.ns, h.np⟩
theorem pfA.put (h : pfA w0 w sb p g pb s ev av cv vv bw F) {q : PK} {ev' av' cv' vv' bw' : Value} {F' : List Nat} (hk : keepBut [pb] w u) (hrow : rowAt u pb 34 (pkL q ev' av' cv' vv' bw').toArray) (hv : pkV w F' q ev' av' cv' vv' bw') (hn : newIn w0 w F') : pfA w0 u sb p g pb (q, s.2.1, s.2.2) ev' av' cv' vv' bw' F' :=
  ⟨h.src.keep hk (by have := h.ns; simp; exact fun e => this e.symm) (by have := h.np; simp; exact fun e => this e.symm) (fun hne => by have := (h.gl hne).2; simp [this]), hrow, hv.keep hk (fun y hy => by have h1 := (hn y hy).1; have h2 := h.bl; simp; omega), fun y hy => ⟨(hn y hy).1, Nat.lt_of_lt_of_le (hn y hy).2 hk.size⟩, h.kp.then hk (fun x hx => .inl (by simp at hx; simp [hx])), h.gl, h.sl, h.pl, h.bl, h.ns, h.np⟩
theorem pfA.set (h : pfA w0 w sb p g pb s ev av cv vv bw F) {q : PK} {ev' av' cv' vv' bw' : Value} {F' : List Nat} (k : Nat) (x : Value) (he : (pkL s.1 ev av cv vv bw).toArray.setIfInBounds k x = (pkL q ev' av' cv' vv' bw').toArray) (hv : pkV w F' q ev' av' cv' vv' bw') (hn : newIn w0 w F') : pfA w0 (w.setCell ⟨pb, k, none⟩ x) sb p g pb (q, s.2.1, s.2.2) ev' av' cv' vv' bw' F' :=
  h.put (kset w pb k x) (by rw [← he]; exact h.row.set k x) hv hn
theorem pfA.setL (h : pfA w0 w sb p g pb s ev av cv vv bw F) {q : PK} {ev' av' cv' vv' bw' : Value} {F' : List Nat} (k : Nat) (xs : List Value) (he : putL (pkL s.1 ev av cv vv bw).toArray k xs = (pkL q ev' av' cv' vv' bw').toArray) (hv : pkV w F' q ev' av' cv' vv' bw') (hn : newIn w0 w F') : pfA w0 (w.setCells pb k xs) sb p g pb (q, s.2.1, s.2.2) ev' av' cv' vv' bw' F' :=
  h.put ((keepBut.refl [pb] w).setL (.inl (by simp))) (by rw [← he]; exact h.row.setL) hv hn
theorem newIn.app {G : List Nat} (h1 : newIn w0 u F) (h2 : newIn w u G) (hs : w0.heap.size ≤ w.heap.size) : newIn w0 u (F ++ G) := fun y hy => by
  rcases List.mem_append.1 hy with h | h
  · exact h1 y h
  · have := h2 y h; omega
end
set_option maxHeartbeats 16000000 in
theorem readFields_any (w : World) (sb p g pb : Nat) (s0 : SF) (h : Int) (hp : pfx w w sb p g pb s0) :
    Calls Tryz.prog 96 #[.pointer (some ⟨sb, 0, none⟩), .pointer (some ⟨pb, 0, none⟩), .int .i64 h] w fun e w' => e = .returned (.tuple #[]) ∧ pfx w w' sb p g pb (fAll h s0) := by
  have O := Lib.hid hp
  clear hp
  go_enter Tryz.func96, Tryz.ntmps96
  go_upto_if 8 with fail
  go_cut [] (fun wx => pfx w wx sb p g pb (f1 h s0))
  case first =>
   obtain ⟨ev, av, cv, vv, bw, F, hA⟩ := O.out
   have A := Lib.hid hA
   have hrn := hA.val.rn
   have han := hA.val.an
   clear hA
   by_cases hb : bitA h 1 = 0
   · have hbb : (bits .and .i64 h 1 != 0) = false := by have := hb; unfold bitA at this; simp [this]
     have E := Lib.hid (show f1 h s0 = s0 by unfold f1; rw [if_pos hb])
     clear hb
     go_wp2_with fail
     go_meet
     exact (by rw [E.out]; exact ⟨ev, av, cv, vv, bw, F, A.out⟩)
   · have hbb : (bits .and .i64 h 1 != 0) = true := by have := hb; unfold bitA at this; simp [this]
     have E := Lib.hid (show f1 h s0 = _ by unfold f1; rw [if_neg hb])
     clear hb
     have c0 := (A.out.src.row.cell 0).trans (show _ = some (Value.pointer (some ⟨p, 0, none⟩)) from rfl)
     go_wp2_with (first
       | (go_at_call 102; refine (count_any p g s0.2.1 9007199254740991 _ A.out.src.rd).mono ?_; intro e u hq; unfold countPost at hq; obtain ⟨rfl, hr, hk⟩ := hq; have B := Lib.hid (A.out.read (A.out.src.read hr hk count_left (RS.count_short _ _)) (hk.more (by simp)) count_left); have y := (B.out.row.pk hrn han).c3; have y2 := B.out.row.free 3; clear hr hk))
     go_meet
     exact (by rw [E.out]; exact ⟨ev, av, cv, vv, bw, F, B.out.set 3 _ (pkL_num ((s0.2.1.count 9007199254740991).1)) ⟨B.out.val.rn, B.out.val.an, B.out.val.re, B.out.val.ae, B.out.val.cc, B.out.val.vs, B.out.val.bs⟩ B.out.new⟩)
  obtain ⟨s1, hs1⟩ : ∃ s, f1 h s0 = s := ⟨_, rfl⟩
  rw [hs1] at hcut
  have O := Lib.hid hcut
  have HS1 := Lib.hid hs1
  clear hcut hs1
  go_upto_if 19 with fail
  go_cut [] (fun wx => pfx w wx sb p g pb (f2 h s1))
  case first =>
   obtain ⟨ev, av, cv, vv, bw, F, hA⟩ := O.out
   have A := Lib.hid hA
   have hrn := hA.val.rn
   have han := hA.val.an
   clear hA
   by_cases hb : bitA h 2 = 0
   · have hbb : (bits .and .i64 h 2 != 0) = false := by have := hb; unfold bitA at this; simp [this]
     have E := Lib.hid (show f2 h s1 = s1 by unfold f2; rw [if_pos hb])
     clear hb
     go_wp2_with fail
     go_meet
     exact (by rw [E.out]; exact ⟨ev, av, cv, vv, bw, F, A.out⟩)
   · have hbb : (bits .and .i64 h 2 != 0) = true := by have := hb; unfold bitA at this; simp [this]
     have E := Lib.hid (show f2 h s1 = _ by unfold f2; rw [if_neg hb])
     clear hb
     have c0 := (A.out.src.row.cell 0).trans (show _ = some (Value.pointer (some ⟨p, 0, none⟩)) from rfl)
     have hws : IntKind.i64.wrap ((s1.2.1.count 9007199254740991).1 - 1) = (s1.2.1.count 9007199254740991).1 - 1 := by
       have h1 := (RS.count_range s1.2.1 9007199254740991).1
       have h2 : (s1.2.1.count 9007199254740991).1 ≤ 9007199254740991 := (RS.count_range s1.2.1 9007199254740991).2
       rw [IntKind.wrap_i64]; omega
     go_wp2_with (first
       | (go_at_call 102; refine (count_any p g s1.2.1 9007199254740991 _ A.out.src.rd).mono ?_; intro e u hq; unfold countPost at hq; obtain ⟨rfl, hr, hk⟩ := hq; have B := Lib.hid (A.out.read (A.out.src.read hr hk count_left (RS.count_short _ _)) (hk.more (by simp)) count_left); have y := (B.out.row.pk hrn han).c4; have y2 := B.out.row.free 4; clear hr hk))
     go_meet
     exact (by rw [E.out]; exact ⟨ev, av, cv, vv, bw, F, B.out.set 4 _ (pkL_seq ((s1.2.1.count 9007199254740991).1 - 1)) ⟨B.out.val.rn, B.out.val.an, B.out.val.re, B.out.val.ae, B.out.val.cc, B.out.val.vs, B.out.val.bs⟩ B.out.new⟩)
  obtain ⟨s2, hs2⟩ : ∃ s, f2 h s1 = s := ⟨_, rfl⟩
  rw [hs2] at hcut
  have O := Lib.hid hcut
  have HS2 := Lib.hid hs2
  clear hcut hs2
  go_upto_if 31 with fail
  go_cut [] (fun wx => pfx w wx sb p g pb (f3 h s2))
  case first =>
   obtain ⟨ev, av, cv, vv, bw, F, hA⟩ := O.out
   have A := Lib.hid hA
   have hrn := hA.val.rn
   have han := hA.val.an
   clear hA
   by_cases hb : bitA h 4 = 0
   · have hbb : (bits .and .i64 h 4 != 0) = false := by have := hb; unfold bitA at this; simp [this]
     have E := Lib.hid (show f3 h s2 = s2 by unfold f3; rw [if_pos hb])
     clear hb
     go_wp2_with fail
     go_meet
     exact (by rw [E.out]; exact ⟨ev, av, cv, vv, bw, F, A.out⟩)
   · have hbb : (bits .and .i64 h 4 != 0) = true := by have := hb; unfold bitA at this; simp [this]
     have E := Lib.hid (show f3 h s2 = _ by unfold f3; rw [if_neg hb])
     clear hb
     have c0 := (A.out.src.row.cell 0).trans (show _ = some (Value.pointer (some ⟨p, 0, none⟩)) from rfl)
     go_wp2_with (first
       | (go_at_call 102; refine (count_any p g s2.2.1 9007199254740991 _ A.out.src.rd).mono ?_; intro e u hq; unfold countPost at hq; obtain ⟨rfl, hr, hk⟩ := hq; have B := Lib.hid (A.out.read (A.out.src.read hr hk count_left (RS.count_short _ _)) (hk.more (by simp)) count_left); have y := (B.out.row.pk hrn han).c5; have y2 := B.out.row.free 5; clear hr hk))
     go_meet
     exact (by rw [E.out]; exact ⟨ev, av, cv, vv, bw, F, B.out.set 5 _ (pkL_bal ((s2.2.1.count 9007199254740991).1)) ⟨B.out.val.rn, B.out.val.an, B.out.val.re, B.out.val.ae, B.out.val.cc, B.out.val.vs, B.out.val.bs⟩ B.out.new⟩)
  obtain ⟨s3, hs3⟩ : ∃ s, f3 h s2 = s := ⟨_, rfl⟩
  rw [hs3] at hcut
  have O := Lib.hid hcut
  have HS3 := Lib.hid hs3
  clear hcut hs3
  go_upto_if 42 with fail
  go_cut [] (fun wx => pfx w wx sb p g pb (f4 h s3))
  case first =>
   obtain ⟨ev, av, cv, vv, bw, F, hA⟩ := O.out
   have A := Lib.hid hA
   have hrn := hA.val.rn
   have han := hA.val.an
   clear hA
   by_cases hb : bitA h 8 = 0
   · have hbb : (bits .and .i64 h 8 != 0) = false := by have := hb; unfold bitA at this; simp [this]
     have E := Lib.hid (show f4 h s3 = s3 by unfold f4; rw [if_pos hb])
     clear hb
     go_wp2_with fail
     go_meet
     exact (by rw [E.out]; exact ⟨ev, av, cv, vv, bw, F, A.out⟩)
   · have hbb : (bits .and .i64 h 8 != 0) = true := by have := hb; unfold bitA at this; simp [this]
     have E := Lib.hid (show f4 h s3 = _ by unfold f4; rw [if_neg hb])
     clear hb
     have c0 := (A.out.src.row.cell 0).trans (show _ = some (Value.pointer (some ⟨p, 0, none⟩)) from rfl)
     go_wp2_with (first
       | (go_at_call 142; refine (readReady_any p g sb s3.2.1 s3.2.2 _ A.out.src).mono ?_; rintro e u ⟨rfl, hs, hk⟩; have B := Lib.hid (A.out.read hs hk num_left); have y := (B.out.row.pk hrn han).c6; have y2 := B.out.row.free 6; clear hs hk))
     go_meet
     exact (by rw [E.out]; exact ⟨ev, av, cv, vv, bw, F, B.out.set 6 _ (pkL_rdy _) ⟨B.out.val.rn, B.out.val.an, B.out.val.re, B.out.val.ae, B.out.val.cc, B.out.val.vs, B.out.val.bs⟩ B.out.new⟩)
  obtain ⟨s4, hs4⟩ : ∃ s, f4 h s3 = s := ⟨_, rfl⟩
  rw [hs4] at hcut
  have O := Lib.hid hcut
  have HS4 := Lib.hid hs4
  clear hcut hs4
  go_upto_if 50 with fail
  go_cut [] (fun wx => pfx w wx sb p g pb (f5 h s4))
  case first =>
   obtain ⟨ev, av, cv, vv, bw, F, hA⟩ := O.out
   have A := Lib.hid hA
   have hrn := hA.val.rn
   have han := hA.val.an
   clear hA
   by_cases hb : bitA h 16 = 0
   · have hbb : (bits .and .i64 h 16 != 0) = false := by have := hb; unfold bitA at this; simp [this]
     have E := Lib.hid (show f5 h s4 = s4 by unfold f5; rw [if_pos hb])
     clear hb
     go_wp2_with fail
     go_meet
     exact (by rw [E.out]; exact ⟨ev, av, cv, vv, bw, F, A.out⟩)
   · have hbb : (bits .and .i64 h 16 != 0) = true := by have := hb; unfold bitA at this; simp [this]
     have E := Lib.hid (show f5 h s4 = _ by unfold f5; rw [if_neg hb])
     clear hb
     have c0 := (A.out.src.row.cell 0).trans (show _ = some (Value.pointer (some ⟨p, 0, none⟩)) from rfl)
     obtain ⟨X, hX⟩ : ∃ X, rpRq s4.2.1 s4.2.2 = X := ⟨_, rfl⟩
     have HX := Lib.hid (And.intro hX (fun hne : X.2.1.l ≠ [] => rpRq_left (by rw [hX]; exact hne)))
     rw [hX] at E
     clear hX
     go_wp2_with (first
       | (go_at_call 143; refine (readPartRq_any p g sb s4.2.1 s4.2.2 _ A.out.src).mono ?_; intro e u hq; rw [HX.out.1] at hq; obtain ⟨ex, G, rfl, hv, hn, hs, hk⟩ := hq; have B := Lib.hid (A.out.read hs hk HX.out.2); have hL : Hid ((rqL X.1 ex).length = 37 ∧ ∀ v ∈ rqL X.1 ex, v.oneCell' = true) := Lib.hid ⟨rqL_len hv.1, rqL_one _ hv.2.one⟩; have HV := Lib.hid (And.intro hv (And.intro hn (A.out.kp.size))); clear hv hn hs hk)
       | (refine wpList_store_mid rfl 26 (.tmp 55) (.tmp 53) rfl pb 7 (rqL X.1 ex).toArray rfl rfl (B.out.row.there (by rw [List.size_toArray, List.size_toArray, hL.out.1, pkL_len hrn han]; omega)) (by rw [List.size_toArray, hL.out.1]; exact info_rq) (all_oneCell_toArray hL.out.2) ?_))
     try simp only [Act.put]
     go_meet
     exact (by rw [E.out]; exact ⟨ex, av, cv, vv, bw, F ++ G, B.out.setL 7 _ (pkL_putR X.1 ex hrn HV.out.1.1) ⟨HV.out.1.1, B.out.val.an, HV.out.1.2.more (fun y hy => List.mem_append.2 (.inr hy)), B.out.val.ae.more (fun y hy => List.mem_append.2 (.inl hy)), B.out.val.cc.more (fun y hy => List.mem_append.2 (.inl hy)), B.out.val.vs.more (fun y hy => List.mem_append.2 (.inl hy)), B.out.val.bs.more (fun y hy => List.mem_append.2 (.inl hy))⟩ (B.out.new.app HV.out.2.1 HV.out.2.2)⟩)
  obtain ⟨s5, hs5⟩ : ∃ s, f5 h s4 = s := ⟨_, rfl⟩
  rw [hs5] at hcut
  have O := Lib.hid hcut
  have HS5 := Lib.hid hs5
  clear hcut hs5
  go_upto_if 58 with fail
  go_cut [] (fun wx => pfx w wx sb p g pb (f6 h s5))
  case first =>
   obtain ⟨ev, av, cv, vv, bw, F, hA⟩ := O.out
   have A := Lib.hid hA
   have hrn := hA.val.rn
   have han := hA.val.an
   clear hA
   by_cases hb : bitA h 32 = 0
   · have hbb : (bits .and .i64 h 32 != 0) = false := by have := hb; unfold bitA at this; simp [this]
     have E := Lib.hid (show f6 h s5 = s5 by unfold f6; rw [if_pos hb])
     clear hb
     go_wp2_with fail
     go_meet
     exact (by rw [E.out]; exact ⟨ev, av, cv, vv, bw, F, A.out⟩)
   · have hbb : (bits .and .i64 h 32 != 0) = true := by have := hb; unfold bitA at this; simp [this]
     have E := Lib.hid (show f6 h s5 = _ by unfold f6; rw [if_neg hb])
     clear hb
     have c0 := (A.out.src.row.cell 0).trans (show _ = some (Value.pointer (some ⟨p, 0, none⟩)) from rfl)
     obtain ⟨X, hX⟩ : ∃ X, rpAn s5.2.1 s5.2.2 = X := ⟨_, rfl⟩
     have HX := Lib.hid (And.intro hX (fun hne : X.2.1.l ≠ [] => rpAn_left (by rw [hX]; exact hne)))
     rw [hX] at E
     clear hX
     go_wp2_with (first
       | (go_at_call 144; refine (readPartAn_any p g sb s5.2.1 s5.2.2 _ A.out.src).mono ?_; intro e u hq; rw [HX.out.1] at hq; obtain ⟨ex, G, rfl, hv, hn, hs, hk⟩ := hq; have B := Lib.hid (A.out.read hs hk HX.out.2); have hL : Hid ((anL X.1 ex).length = 38 ∧ ∀ v ∈ anL X.1 ex, v.oneCell' = true) := Lib.hid ⟨anL_len hv.1, anL_one _ hv.2.one⟩; have HV := Lib.hid (And.intro hv (And.intro hn (A.out.kp.size))); clear hv hn hs hk)
       | (refine wpList_store_mid rfl 28 (.tmp 63) (.tmp 61) rfl pb 44 (anL X.1 ex).toArray rfl rfl (B.out.row.there (by rw [List.size_toArray, List.size_toArray, hL.out.1, pkL_len hrn han]; omega)) (by rw [List.size_toArray, hL.out.1]; exact info_an) (all_oneCell_toArray hL.out.2) ?_))
     try simp only [Act.put]
     go_meet
     exact (by rw [E.out]; exact ⟨ev, ex, cv, vv, bw, F ++ G, B.out.setL 44 _ (pkL_putA X.1 ex hrn han HV.out.1.1) ⟨B.out.val.rn, HV.out.1.1, B.out.val.re.more (fun y hy => List.mem_append.2 (.inl hy)), HV.out.1.2.more (fun y hy => List.mem_append.2 (.inr hy)), B.out.val.cc.more (fun y hy => List.mem_append.2 (.inl hy)), B.out.val.vs.more (fun y hy => List.mem_append.2 (.inl hy)), B.out.val.bs.more (fun y hy => List.mem_append.2 (.inl hy))⟩ (B.out.new.app HV.out.2.1 HV.out.2.2)⟩)
  obtain ⟨s6, hs6⟩ : ∃ s, f6 h s5 = s := ⟨_, rfl⟩
  rw [hs6] at hcut
  have O := Lib.hid hcut
  have HS6 := Lib.hid hs6
  clear hcut hs6
  go_upto_if 66 with fail
  go_cut [] (fun wx => pfx w wx sb p g pb (f7 h s6))
  case first =>
   obtain ⟨ev, av, cv, vv, bw, F, hA⟩ := O.out
   have A := Lib.hid hA
   have hrn := hA.val.rn
   have han := hA.val.an
   clear hA
   by_cases hb : bitA h 64 = 0
   · have hbb : (bits .and .i64 h 64 != 0) = false := by have := hb; unfold bitA at this; simp [this]
     have E := Lib.hid (show f7 h s6 = s6 by unfold f7; rw [if_pos hb])
     clear hb
     go_wp2_with fail
     go_meet
     exact (by rw [E.out]; exact ⟨ev, av, cv, vv, bw, F, A.out⟩)
   · have hbb : (bits .and .i64 h 64 != 0) = true := by have := hb; unfold bitA at this; simp [this]
     have E := Lib.hid (show f7 h s6 = _ by unfold f7; rw [if_neg hb])
     clear hb
     have c0 := (A.out.src.row.cell 0).trans (show _ = some (Value.pointer (some ⟨p, 0, none⟩)) from rfl)
     obtain ⟨X, hX⟩ : ∃ X, rpCf s6.2.1 s6.2.2 = X := ⟨_, rfl⟩
     have HX := Lib.hid (And.intro hX (fun hne : X.2.1.l ≠ [] => rpCf_left (by rw [hX]; exact hne)))
     rw [hX] at E
     clear hX
     go_wp2_with (first
       | (go_at_call 145; refine (readPartCf_any p g sb s6.2.1 s6.2.2 _ A.out.src).mono ?_; intro e u hq; rw [HX.out.1] at hq; obtain ⟨ex, G, rfl, hv, hn, hs, hk⟩ := hq; have B := Lib.hid (A.out.read hs hk HX.out.2); have hL : Hid ((cfL X.1 ex).length = 3 ∧ ∀ v ∈ cfL X.1 ex, v.oneCell' = true) := Lib.hid ⟨rfl, cfL_one _ hv.one⟩; have HV := Lib.hid (And.intro hv (And.intro hn (A.out.kp.size))); clear hv hn hs hk)
       | (refine wpList_store_mid rfl 31 (.tmp 71) (.tmp 69) rfl pb 82 (cfL X.1 ex).toArray rfl rfl (B.out.row.there (by rw [List.size_toArray, List.size_toArray, hL.out.1, pkL_len hrn han]; omega)) (by rw [List.size_toArray, hL.out.1]; exact info_cf) (all_oneCell_toArray hL.out.2) ?_))
     try simp only [Act.put]
     go_meet
     exact (by rw [E.out]; exact ⟨ev, av, ex, vv, bw, F ++ G, B.out.setL 82 _ (pkL_putC X.1 ex hrn han) ⟨B.out.val.rn, B.out.val.an, B.out.val.re.more (fun y hy => List.mem_append.2 (.inl hy)), B.out.val.ae.more (fun y hy => List.mem_append.2 (.inl hy)), HV.out.1.more (fun y hy => List.mem_append.2 (.inr hy)), B.out.val.vs.more (fun y hy => List.mem_append.2 (.inl hy)), B.out.val.bs.more (fun y hy => List.mem_append.2 (.inl hy))⟩ (B.out.new.app HV.out.2.1 HV.out.2.2)⟩)
  obtain ⟨s7, hs7⟩ : ∃ s, f7 h s6 = s := ⟨_, rfl⟩
  rw [hs7] at hcut
  have O := Lib.hid hcut
  have HS7 := Lib.hid hs7
  clear hcut hs7
  go_upto_if 74 with fail
  go_cut [] (fun wx => pfx w wx sb p g pb (f8 h s7))
  case first =>
   obtain ⟨ev, av, cv, vv, bw, F, hA⟩ := O.out
   have A := Lib.hid hA
   have hrn := hA.val.rn
   have han := hA.val.an
   clear hA
   by_cases hb : bitA h 128 = 0
   · have hbb : (bits .and .i64 h 128 != 0) = false := by have := hb; unfold bitA at this; simp [this]
     have E := Lib.hid (show f8 h s7 = s7 by unfold f8; rw [if_pos hb])
     clear hb
     go_wp2_with fail
     go_meet
     exact (by rw [E.out]; exact ⟨ev, av, cv, vv, bw, F, A.out⟩)
   · have hbb : (bits .and .i64 h 128 != 0) = true := by have := hb; unfold bitA at this; simp [this]
     have E := Lib.hid (show f8 h s7 = _ by unfold f8; rw [if_neg hb])
     clear hb
     have c0 := (A.out.src.row.cell 0).trans (show _ = some (Value.pointer (some ⟨p, 0, none⟩)) from rfl)
     obtain ⟨X, hX⟩ : ∃ X, rvAll s7.2.1 s7.2.2 = X := ⟨_, rfl⟩
     have HX := Lib.hid (And.intro hX (fun hne : X.2.1.l ≠ [] => rvAll_left (by rw [hX]; exact hne)))
     rw [hX] at E
     clear hX
     obtain ⟨A3, c3, g3, T3, rfl, _⟩ := id A.out.val.vs
     go_wp2_with (first
       | (go_at_call 146; refine (readVotes_any p g sb s7.2.1 s7.2.2 _ A.out.src).mono ?_; intro e u hq; rw [HX.out.1] at hq; obtain ⟨ex, G, rfl, hv, hn, hs, hk⟩ := hq; obtain ⟨A4, c4, g4, T4, rfl, _⟩ := id hv; have B := Lib.hid (A.out.read hs hk HX.out.2); have y := (B.out.row.pk hrn han).d3; have y2 := B.out.row.free 85; have HV := Lib.hid (And.intro hv (And.intro hn (A.out.kp.size))); clear hv hn hs hk))
     go_meet
     exact (by rw [E.out]; exact ⟨ev, av, cv, _, bw, F ++ G, B.out.set 85 _ (pkL_votes hrn han X.1 _) ⟨B.out.val.rn, B.out.val.an, B.out.val.re.more (fun y hy => List.mem_append.2 (.inl hy)), B.out.val.ae.more (fun y hy => List.mem_append.2 (.inl hy)), B.out.val.cc.more (fun y hy => List.mem_append.2 (.inl hy)), HV.out.1.more (fun y hy => List.mem_append.2 (.inr hy)), B.out.val.bs.more (fun y hy => List.mem_append.2 (.inl hy))⟩ (B.out.new.app HV.out.2.1 HV.out.2.2)⟩)
  obtain ⟨s8, hs8⟩ : ∃ s, f8 h s7 = s := ⟨_, rfl⟩
  rw [hs8] at hcut
  have O := Lib.hid hcut
  have HS8 := Lib.hid hs8
  clear hcut hs8
  go_upto_if 82 with fail
  have HE := Lib.hid (show fAll h s0 = f9 h s8 by unfold fAll; rw [HS1.out, HS2.out, HS3.out, HS4.out, HS5.out, HS6.out, HS7.out, HS8.out])
  obtain ⟨ev, av, cv, vv, bw, F, hA⟩ := O.out
  have A := Lib.hid hA
  have hrn := hA.val.rn
  have han := hA.val.an
  clear hA
  by_cases hb : bitA h 256 = 0
  · have hbb : (bits .and .i64 h 256 != 0) = false := by have := hb; unfold bitA at this; simp [this]
    have E := Lib.hid (show f9 h s8 = s8 by unfold f9; rw [if_pos hb])
    clear hb
    go_wp2_with fail
    go_end0
    exact ⟨rfl, by rw [HE.out]; exact (by rw [E.out]; exact ⟨ev, av, cv, vv, bw, F, A.out⟩)⟩
  · have hbb : (bits .and .i64 h 256 != 0) = true := by have := hb; unfold bitA at this; simp [this]
    have E := Lib.hid (show f9 h s8 = _ by unfold f9; rw [if_neg hb])
    clear hb
    have c0 := (A.out.src.row.cell 0).trans (show _ = some (Value.pointer (some ⟨p, 0, none⟩)) from rfl)
    obtain ⟨A3, c3, g3, rfl, _⟩ := id A.out.val.bs
    go_wp2_with (first
      | (go_at_call 104; refine (text_any p g s8.2.1 32768 _ A.out.src.rd (by have := A.out.src.len; omega)).mono ?_; intro e u hq; unfold textPost at hq; obtain ⟨ue, rfl, hfr, hr, hk⟩ := hq; obtain ⟨A6, c6, G, rfl, hb6, hn6⟩ := hfr.gives; have B := Lib.hid (A.out.read (A.out.src.read hr hk text_left (text_short _ _)) (hk.more (by simp)) text_left); have y := (B.out.row.pk hrn han).d4; have y2 := B.out.row.free 86; have HV := Lib.hid (And.intro hb6 (And.intro hn6 (A.out.kp.size))); clear hr hk hfr hb6 hn6))
    go_end0
    exact ⟨rfl, by rw [HE.out]; exact (by rw [E.out]; exact ⟨ev, av, cv, vv, _, F ++ G, B.out.set 86 _ (pkL_bytes hrn han _ _) ⟨B.out.val.rn, B.out.val.an, B.out.val.re.more (fun y hy => List.mem_append.2 (.inl hy)), B.out.val.ae.more (fun y hy => List.mem_append.2 (.inl hy)), B.out.val.cc.more (fun y hy => List.mem_append.2 (.inl hy)), B.out.val.vs.more (fun y hy => List.mem_append.2 (.inl hy)), HV.out.1.more (fun y hy => List.mem_append.2 (.inr hy))⟩ (B.out.new.app HV.out.2.1 HV.out.2.2)⟩)⟩
end Go.Proofs.YthfdkonhjpdflaaGreatDoor
end
