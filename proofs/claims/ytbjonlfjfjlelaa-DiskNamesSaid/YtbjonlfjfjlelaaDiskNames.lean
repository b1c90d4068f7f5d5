/-
  DiskNames: a full disk; both ends; disks that are none.
-/
import Derived.Test.YtbjonlfjfjlelaaDiskNone
namespace Go.Proofs.Ytbjonlfjfjlelaa
open Go.RowKit
set_option linter.unusedVariables false
set_option maxRecDepth 100000

/-- between two rounds over what is no disk -/
def namesRel (w : World) (v5 v6 : Value) (wr : World) : Prop := ∃ (k : Nat) (v : Option Addr), k ≤ 2 ∧ v6 = .int .i64 (k : Int) ∧ v5 = .pointer v ∧ nilD wr v ∧ keepBut [] w wr

theorem nilD.fresh (w : World) : nilD (w.alloc (.cells #[.slice none 0 0, .int .i64 0, .bool false, .nilFunc, .slice none 0 0] 44)) (some ⟨w.heap.size, 0, none⟩) :=
  .inr ⟨_, rfl, (rowAt.new w _ _).cell 3⟩

/-- append onto a row that is full: the new row lies elsewhere, and nothing that was there has changed -/
theorem run_append_full {P : Program} (w : World) (t ty e : TypeId) (i : TypeInfo) (z : Value) (bytes : Nat) (ht : P.underlying t = some (.slice e)) (hi : P.info? e = some i) (hz : i.zero = some z)
    (hsize : i.size = 1) (hby : i.bytes = bytes) (hzs : z.cells.size = 1) (g' n : Nat) (xs : List Value) (hxl : xs.length = n) (hg : rowAt w g' e xs.toArray)
    (A : Option Addr) (g m c : Nat) (news : List Value) (hr : reads w A g m 1 news) (hm : 0 < m)
    (hbytes : (n + m) * bytes ≤ 140737488355328) (hlen : n + m ≤ maxLen) :
    ∃ A' c' w', (Builtin.append_ #[t, t] ty #[.slice (some ⟨g', 0, none⟩) n n, .slice A m c]).run P w = .ok (.slice A' (n + m) c') w' ∧ owns w' e 1 (.slice A' (n + m) c') (n + m) (xs ++ news) ∧ keepBut [] w w' ∧
      ∀ x ∈ homes (.slice A' (n + m) c'), w.heap.size ≤ x := by
  subst hby
  have h63 : n + m ≤ maxLen := hlen
  have hall : (xs ++ news).length = (n + m) * 1 := by rw [List.length_append, hxl, hr.1]; omega
  obtain ⟨o, rfl, hlt, hc⟩ := hr.2 hm
  have hcells : ∀ j u, news[j]? = some u → w.cell? ((⟨g, o, none⟩ : Addr).add j) = some u := fun j u hu => by rw [add_plain]; exact hc j u hu
  have holds : ∀ j u, xs[j]? = some u → w.cell? ((⟨g', 0, none⟩ : Addr).add j) = some u := by
    intro j u hu
    rw [add_plain, Nat.zero_add, rowAt.cell hg]
    simpa using hu
  have hge := grownCap_ge w (n + m) n e
  have hcm : grownCap w (n + m) n e ≤ maxLen := grownCap_le_maxLen w (n + m) n e h63
  have hrun := run_append_grow (P := P) w t ty e i z ht hi hz ⟨g', 0, none⟩ n n xs (by rw [hsize, hxl]; omega) holds ⟨g, o, none⟩ m c news (by rw [hsize]; exact hr.1) hcells (by omega) (by simp only [maxLen] at h63; omega) (growslice_fits (by omega) hbytes)
  refine ⟨_, _, _, hrun, ⟨hall, .inr ⟨w.heap.size, _, _, rfl, rowAt.new w.drew _ _, hge, hcm, ?_, ?_⟩⟩, ((keepBut.refl _ _).drew).alloc _, by simp [homes_some]⟩
  · simp only [Array.size_append, List.size_toArray, size_zeroCells, hzs, hr.1, hxl]
    omega
  · simp only [Array.toList_append, List.append_assoc]
    rw [← List.append_assoc, ← hall]
    exact List.take_left
theorem wp_append_full_g {P : Program} (w : World) {ops : Array Oper} {rest : List Oper} {o : Oper} {a : Act} {Q : Exit → Act → World → Prop} (s x : Operand) (t : TypeId)
    (ho : o.op = .call { callee := .builtin .append, args := #[s, x], argTypes := #[t, t] })
    (e : TypeId) (i : TypeInfo) (z : Value) (bytes : Nat) (ht : P.underlying t = some (.slice e)) (hi : P.info? e = some i) (hz : i.zero = some z)
    (hsize : i.size = 1) (hby : i.bytes = bytes) (hzs : z.cells.size = 1) (g' n : Nat) (xs : List Value) (hs : a.eval s = .slice (some ⟨g', 0, none⟩) n n) (hxl : xs.length = n) (hg : rowAt w g' e xs.toArray)
    (A : Option Addr) (g m c : Nat) (news : List Value) (hx : a.eval x = .slice A m c) (hr : reads w A g m 1 news) (hm : 0 < m)
    (hbytes : (n + m) * bytes ≤ 140737488355328) (hlen : n + m ≤ maxLen)
    (h : ∀ A' c' w', owns w' e 1 (.slice A' (n + m) c') (n + m) (xs ++ news) → keepBut [] w w' → (∀ x ∈ homes (.slice A' (n + m) c'), w.heap.size ≤ x) → wpList P ops Q rest (a.put o.dst (.slice A' (n + m) c')) w')
    (hw : Region.wanted o (yielded ops a.tmps) = true) : wpList P ops Q (o :: rest) a w :=
  wpList_wanted hw fun K hK => by
    obtain ⟨A', c', w', hr2, h2, h3, h4⟩ := run_append_full (P := P) w t o.type e i z bytes ht hi hz hsize hby hzs g' n xs hxl hg A g m c news hr hm hbytes hlen
    unfold Oper.wp execOp
    simp only [ho, resolve, invoke, builtin, Sem.run_bind, Sem.run_pure, Result.andThen_ok, List.map_toArray, List.map_cons, List.map_nil, hs, hx, hr2]
    exact hK _ _ (h A' c' w' h2 h3 h4)

/-- a disk that was made since w0; beside it the bytes l lie in block g -/
def bOn (w0 w : World) (p : Nat) (F : List Nat) (d : DS) (g : Nat) (l : List UInt8) : Prop := dOn w0 w p F d ∧ rowAt w g 5 (l.map bv).toArray ∧ g ∉ F
theorem bOn.step {w0 w w' : World} {p : Nat} {F : List Nat} {d d' : DS} {r : Int} {e : Ending} {g : Nat} {l : List UInt8} (h : bOn w0 w p F d g l) (hp : dPost p F d' r w e w') :
    e = .returned (.int .i64 r) ∧ ∃ F', bOn w0 w' p F' d' g l := by
  obtain ⟨he, F', a, b, c⟩ := h.1.step hp
  refine ⟨he, F', a, b.row h.2.1 h.2.2, fun hm => ?_⟩
  rcases c g hm with h1 | h1
  · exact h.2.2 h1
  · have := h.2.1.lt; omega
theorem bOn.over {w0 w w' : World} {p : Nat} {F : List Nat} {d : DS} {g : Nat} {l : List UInt8} (h : bOn w0 w p F d g l) (hk : keepBut [] w w') : bOn w0 w' p F d g l :=
  ⟨h.1.over hk, hk.row h.2.1 (by simp), h.2.2⟩
theorem bOn.alloc {w0 w : World} {p : Nat} {F : List Nat} {d : DS} {g : Nat} {l : List UInt8} (h : bOn w0 w p F d g l) (o : Obj) : bOn w0 (w.alloc o) p F d g l := h.over ((keepBut.refl [] w).alloc o)
theorem bOn.reads {w0 w : World} {p : Nat} {F : List Nat} {d : DS} {g : Nat} {l : List UInt8} (h : bOn w0 w p F d g l) : seen w (some ⟨g, 0, none⟩) g l ∧ (l ≠ [] → g ∉ F) :=
  ⟨seen_row h.2.1 (by simp [List.take_of_length_le]), fun _ => h.2.2⟩
theorem bOn.start {w0 w : World} {p : Nat} {F : List Nat} {l : List UInt8} {Z : Array Value} (h : dOn w0 w p F DS.new) (hZ : Z = (l.map bv).toArray) :
    bOn w0 (w.alloc (.cells Z 5)) p F DS.new w.heap.size l :=
  ⟨h.alloc _, by subst hZ; exact rowAt.new _ _ _, h.notin⟩

def namesCut1 (w : World) (p : Nat) (g : Nat) (big : List UInt8) (v3 : Value) (wx : World) : Prop :=
  v3 = .bool true ∧ ∃ F, bOn w wx p F ⟨big, 1048576, false, none, [big, [], big]⟩ g big
def namesCut2 (w : World) (v4 : Value) (wx : World) : Prop := v4 = .bool true ∧ keepBut [] w wx

set_option maxHeartbeats 4000000 in
theorem diskNames_walk (w : World) : Calls Try.prog 4 #[] w (yesPost w) := by
  obtain ⟨big, hbig⟩ : ∃ big, big = List.replicate 1048576 (0 : UInt8) := ⟨_, rfl⟩
  have hbl : big.length = 1048576 := by rw [hbig, List.length_replicate]
  have hz : zeroRow 1048576 = (big.map bv).toArray := by rw [zeroRow_eq, hbig]
  obtain ⟨Z, hZ⟩ : ∃ Z, Z = zeroRow 1048576 := ⟨_, rfl⟩
  rw [← hZ] at hz
  have hmk : ∀ w, (Instr.makeSlice 28 (.int .i64 1048576) (.int .i64 1048576)).run Try.prog w = .ok (.slice (some ⟨w.heap.size, 0, none⟩) 1048576 1048576) (w.alloc (.cells Z 5)) :=
    fun w => by have := make_bytes 1048576 (by omega) w; rw [← hZ] at this; exact this
  obtain ⟨i0, hi0, hz0, hz1, hz2⟩ := info_parts infoU8
  have B := Lib.hid (And.intro hbl hz)
  clear hbl hz hbig hZ
  go_enter Try.func4, Try.ntmps4
  go_wp2_with fail
  refine (newD_any _).mono ?_; intro e w1 hq; obtain ⟨p, F1, rfl, h1⟩ := dOn.start (keepBut.refl [] w) hq; clear hq
  go_upto_region 5 with fail
  have b1 := bOn.start h1 B.out.2
  generalize hgg : w1.heap.size = g at *
  have HG := Lib.hid hgg; clear hgg h1
  generalize w1.alloc (.cells Z 5) = w2 at *
  clear hmk
  have q1 : DS.new.write big = (0, ⟨big, 0, false, none, [big]⟩) := by
    have : ¬ 1048576 < (0 : Nat) + big.length := by rw [B.out.1]; omega
    simp only [DS.write, DS.new, List.length_nil]
    simp; exact Nat.le_of_eq B.out.1
  have q2 : DS.write ⟨big, 0, false, none, [big]⟩ [1] = (5, ⟨big, 0, false, none, [big]⟩) := by
    have : 1048576 < big.length + [(1 : UInt8)].length := by rw [B.out.1]; simp
    simp only [DS.write, if_pos this]
    simp
  have q3 : DS.write ⟨big, 0, false, none, [big]⟩ [] = (0, ⟨big, 0, false, none, [big, []]⟩) := by
    have : ¬ 1048576 < big.length + ([] : List UInt8).length := by rw [B.out.1]; simp
    simp only [DS.write, if_neg this]
    simp
  have q4 : DS.swap ⟨big, 0, false, none, [big, []]⟩ (big ++ [1]) = (5, ⟨big, 0, false, none, [big, []]⟩) := by
    have : 1048576 < (big ++ [(1 : UInt8)]).length := by rw [List.length_append, B.out.1]; simp
    simp only [DS.swap, if_pos this]
    simp
  have q5 : DS.swap ⟨big, 0, false, none, [big, []]⟩ big = (0, ⟨big, 1048576, false, none, [big, [], big]⟩) := by
    simp only [DS.swap, B.out.1]
    simp
  have Q := Lib.hid (And.intro q1 (And.intro q2 (And.intro q3 (And.intro q4 q5))))
  clear q1 q2 q3 q4 q5
  go_cut [3] (fun v3 wx => namesCut1 w p g big v3 wx)
  case first =>
    go_wp2_with fail
    refine (writeD_n _ _ _ _ _ _ 1048576 big _ B.out.1 b1.1.1 b1.reads.1 b1.reads.2 (by omega) (by simp [DS.new])).mono ?_; intro e w3 hq; obtain ⟨rfl, F3, b3⟩ := b1.step hq; clear hq b1
    rw [Q.out.1] at b3 ⊢
    go_wp2_with fail
    have g3 := b3.1.notin
    have b3a := b3.alloc (.cells #[.int .u8 1] 5)
    refine (writeD_n _ _ _ _ _ _ 1 [1] _ rfl b3a.1.1 (by exact seen_new w3 _ [1] _ _ rfl) (fun _ => g3) (by omega) (by simp)).mono ?_; intro e w4 hq; obtain ⟨rfl, F4, b4⟩ := b3a.step hq; clear hq b3 b3a g3
    rw [Q.out.2.1] at b4 ⊢
    go_wp2_with fail
    refine (writeD_n _ _ _ _ 0 _ 0 [] _ rfl b4.1.1 (seen.nil _ _ _) (fun h => absurd rfl h) (by omega) (by simp)).mono ?_; intro e w5 hq; obtain ⟨rfl, F5, b5⟩ := b4.step hq; clear hq b4
    rw [Q.out.2.2.1] at b5 ⊢
    have HB5 := Lib.hid b5
    have HR5 := Lib.hid (b5.alloc (.cells #[.int .u8 1] 5)).2.1
    go_wp2_with (at_builtin; refine wp_append_full_g _ (.tmp 28) (.tmp 29) 28 rfl 5 i0 (.int .u8 0) 1 Try.underlying28 hi0 hz0 hz1 hz2 rfl g 1048576 (big.map bv) rfl (by rw [List.length_map]; exact B.out.1) HR5.out _ _ 1 1 _ rfl (reads_one _ _ _) (by omega) (by omega) (by unfold maxLen; omega) ?_ (by rfl); intro A6 c6 w6 hown6 hkb6 hloc6)
    have b6 := (b5.alloc (.cells #[.int .u8 1] 5)).over hkb6
    have hbl1 : (big ++ [(1 : UInt8)]).length = 1048577 := by rw [List.length_append, B.out.1]; rfl
    have hown6' : owns w6 5 1 (.slice A6 (big ++ [(1 : UInt8)]).length c6) (big ++ [(1 : UInt8)]).length ((big ++ [(1 : UInt8)]).map bv) := by
      rw [hbl1, List.map_append]; exact hown6
    obtain ⟨A6', c6', g6, e6, -, -, sn6, hm6⟩ := hown6'.seen
    injection e6 with e6a e6b e6c
    subst e6a e6c
    have hF6 : (big ++ [(1 : UInt8)]) ≠ [] → g6 ∉ F5 := fun hne hm => by
      have h1 := hm6 hne
      rw [hbl1] at h1
      have h2 := hloc6 g6 h1
      have h3 := b5.1.1.lt g6 hm
      simp at h2
      omega
    have HS6 := Lib.hid (And.intro sn6 (And.intro hF6 hbl1))
    clear b5 HB5 HR5 hown6 hown6' hkb6 hloc6 sn6 hm6 hF6 hbl1
    refine (swapD_n _ _ _ _ _ _ 1048577 (big ++ [1]) _ HS6.out.2.2 b6.1.1 HS6.out.1 HS6.out.2.1 (by omega) (by simp)).mono ?_; intro e w7 hq; obtain ⟨rfl, F7, b7⟩ := b6.step hq; clear hq b6
    rw [Q.out.2.2.2.1] at b7 ⊢
    go_wp2_with fail
    refine (swapD_n _ _ _ _ _ _ 1048576 big _ B.out.1 b7.1.1 b7.reads.1 b7.reads.2 (by omega) (by simp)).mono ?_; intro e w8 hq; obtain ⟨rfl, F8, b8⟩ := b7.step hq; clear hq b7
    rw [Q.out.2.2.2.2] at b8 ⊢
    go_wp2_with fail
    refine (trace_any p F8 _ _ b8.1.1 (by simp) (by simp only [List.flatten_cons, List.flatten_nil, List.length_append, List.length_nil, B.out.1]; omega)).mono ?_; rintro e wt ⟨go, ga, cells, rfl, rgo, hcl, rga, hpc, hgo, hga2, hkt⟩
    have b9 := b8.over hkt
    clear rgo hcl rga hpc hgo hga2 hkt b8
    go_wp2_with fail
    go_meet
    exact ⟨rfl, F8, b9⟩
  case rest =>
    obtain ⟨rfl, F, b0⟩ := hcut
    generalize wc = w0 at *
    clear b1
    obtain ⟨T, hT⟩ : ∃ T, T = [big, [], big] := ⟨_, rfl⟩
    obtain ⟨t3, ht3⟩ : ∃ t3, t3 = big.take 3 := ⟨_, rfl⟩
    have hl3 : t3.length = 3 := by rw [ht3, List.length_take, B.out.1]; omega
    have p1 : DS.cut ⟨big, 1048576, false, none, T⟩ (-1) = (9, ⟨big, 1048576, false, none, T⟩) := by simp [DS.cut]
    have p2 : DS.cut ⟨big, 1048576, false, none, T⟩ 1048577 = (9, ⟨big, 1048576, false, none, T⟩) := by
      have : (big.length : Int) < 1048577 := by rw [B.out.1]; omega
      simp [DS.cut, this]
    have p3 : DS.cut ⟨big, 1048576, false, none, T⟩ 3 = (0, ⟨t3, 3, false, none, T⟩) := by
      have : ¬ (big.length : Int) < 3 := by rw [B.out.1]; omega
      simp [DS.cut, this, ht3]
    have p4 : ∀ dd k, DS.die ⟨t3, 3, dd, none, T⟩ k = ⟨t3, 3, true, none, T⟩ := by
      intro dd k
      simp [DS.die, hl3, List.take_of_length_le]
    rw [← hT] at b0
    have P := Lib.hid (And.intro p1 (And.intro p2 (And.intro p3 (And.intro p4 hl3))))
    clear p1 p2 p3 p4 hl3 ht3 hT Q
    go_upto_region 6 with fail
    go_cut [4] (fun v4 wx => namesCut2 w v4 wx)
    case first =>
      have h0 := b0.1
      clear b0
      go_wp2_with fail
      refine (cutD_any _ _ _ _ _ h0.1 (by omega)).mono ?_; intro e w1' hq; obtain ⟨rfl, Fa, ha, -, -⟩ := h0.step hq; clear hq h0
      rw [P.out.1] at ha ⊢
      go_wp2_with fail
      refine (cutD_any _ _ _ _ _ ha.1 (by omega)).mono ?_; intro e w2' hq; obtain ⟨rfl, Fb, hb, -, -⟩ := ha.step hq; clear hq ha
      rw [P.out.2.1] at hb ⊢
      go_wp2_with fail
      refine (cutD_any _ _ _ _ _ hb.1 (by omega)).mono ?_; intro e w3' hq; obtain ⟨rfl, Fc, hc, -, -⟩ := hb.step hq; clear hq hb
      rw [P.out.2.2.1] at hc ⊢
      go_wp2_with fail
      refine (synced_any _ _ _ _ hc.1).mono ?_; rintro e w4' ⟨rfl, rfl⟩
      go_wp2_with fail
      refine (arm_any _ _ _ _ _ hc.1 (by omega)).mono ?_; intro e w5' hq; obtain ⟨rfl, Fd, hd, -, -⟩ := hc.step hq; clear hq hc
      rw [show DS.armed ⟨t3, 3, false, none, T⟩ (-1) = (2, ⟨t3, 3, false, none, T⟩) by simp [DS.armed]] at hd ⊢
      go_wp2_with fail
      refine (crash_any _ _ _ _ _ hd.1 (by omega)).mono ?_; intro e w6' hq; obtain ⟨rfl, Fe, he, -, -⟩ := hd.step hq; clear hq hd
      rw [show DS.crash ⟨t3, 3, false, none, T⟩ (-1) = (2, ⟨t3, 3, false, none, T⟩) by simp [DS.crash]] at he ⊢
      go_wp2_with fail
      refine (dead_any _ _ _ _ he.1).mono ?_; rintro e w7' ⟨rfl, rfl⟩
      go_wp2_with fail
      refine (crash_any _ _ _ _ _ he.1 (by omega)).mono ?_; intro e w8' hq; obtain ⟨rfl, Ff, hf, -, -⟩ := he.step hq; clear hq he
      rw [show DS.crash ⟨t3, 3, false, none, T⟩ 4611686018427387904 = (0, ⟨t3, 3, true, none, T⟩) by simp [DS.crash, P.out.2.2.2.1]] at hf ⊢
      go_wp2_with fail
      refine (crash_any _ _ _ _ _ hf.1 (by omega)).mono ?_; intro e w9' hq; obtain ⟨rfl, Fg, hg, -, -⟩ := hf.step hq; clear hq hf
      rw [show DS.crash ⟨t3, 3, true, none, T⟩ 0 = (0, ⟨t3, 3, true, none, T⟩) by simp [DS.crash, P.out.2.2.2.1]] at hg ⊢
      go_wp2_with fail
      refine (readD_any _ _ _ _ hg.1).mono ?_; rintro e w10' ⟨rfl, hr10, hk10⟩
      have hh := hg.over hk10
      clear hr10 hk10 hg
      rw [show (⟨t3, 3, true, none, T⟩ : DS).b.length = 3 from P.out.2.2.2.2]
      go_wp2_with fail
      go_meet
      exact ⟨rfl, hh.2.2⟩
    case rest =>
      obtain ⟨rfl, hk0⟩ := hcut
      generalize wc = wd at *
      clear b0 P B
      have HK0 := Lib.hid hk0
      clear hk0
      go_wp2_with fail
      go_loopw [5, 6] (fun v5 v6 wx => namesRel w v5 v6 wx) (fun _ v6 _ => 2 - (intOf v6).toNat)
      case atStart => exact ⟨0, none, by omega, rfl, rfl, .inl rfl, HK0.out⟩
      case round =>
        obtain ⟨k, v, hk, rfl, rfl, hn, hkb⟩ := hrel
        by_cases hlt : k < 2
        · have HN := Lib.hid (And.intro hn hkb)
          clear hn hkb
          have hlt' : (k : Int) < 2 := by omega
          go_wp2_with fail
          refine (writeN_any v _ _ HN.out.1 rfl).mono ?_; rintro e w1' ⟨rfl, rfl⟩
          go_wp2_with fail
          refine (syncN_any v _ HN.out.1).mono ?_; rintro e w1' ⟨rfl, rfl⟩
          go_wp2_with fail
          refine (swapN_any v _ _ HN.out.1 rfl).mono ?_; rintro e w1' ⟨rfl, rfl⟩
          go_wp2_with fail
          refine (cutN_any v _ _ HN.out.1).mono ?_; rintro e w1' ⟨rfl, rfl⟩
          go_wp2_with fail
          refine (armN_any v _ _ HN.out.1).mono ?_; rintro e w1' ⟨rfl, rfl⟩
          go_wp2_with fail
          refine (crashN_any v _ _ HN.out.1).mono ?_; rintro e w1' ⟨rfl, rfl⟩
          go_wp2_with fail
          refine (reviveN_any v _ HN.out.1).mono ?_; rintro e w1' ⟨rfl, rfl⟩
          go_wp2_with fail
          refine (readN_any v _ HN.out.1).mono ?_; rintro e w1' ⟨rfl, rfl⟩
          go_wp2_with fail
          refine (syncedN_any v _ HN.out.1).mono ?_; rintro e w1' ⟨rfl, rfl⟩
          go_wp2_with fail
          refine (traceN_any v _ HN.out.1).mono ?_; rintro e w1' ⟨rfl, rfl⟩
          go_wp2_with fail
          refine (deadN_any v _ HN.out.1).mono ?_; rintro e w1' ⟨rfl, rfl⟩
          go_wp2_with fail
          go_roundw
          case rel => exact ⟨k + 1, _, by omega, by go_num, rfl, nilD.fresh _, HN.out.2.alloc _⟩
          case measure => simp [intOf]; omega
        · obtain rfl : k = 2 := by omega
          have HN := Lib.hid hkb
          clear hn hkb
          go_wp2_with fail
          refine (works_any _).mono ?_; rintro e w2' ⟨rfl, hkw⟩
          have HKW := Lib.hid (HN.out.then hkw (by simp))
          clear hkw
          go_wp2_with fail
          go_ret
          exact ⟨rfl, HKW.out⟩
end Go.Proofs.Ytbjonlfjfjlelaa
