/-
  SESSPLAYS, 15: the law's packet: a config, an answer.
-/
import Derived.Test.YtkpmlcgbffdloaaDoorSPlay14
namespace Go.Proofs.YtkpmlcgbffdloaaDoor
open Go.RowKit
set_option linter.unusedVariables false
set_option maxRecDepth 100000
set_option linter.unusedSimpArgs false

/-- a call -/
structure DO where
  kind : Int
  n : Int
  chain : List Int
  r : RQ
  p : PK
def doL (d : DO) (cv ev xe xa xc xv xb : Value) : List Value := .int .i64 d.kind :: .int .i64 d.n :: cv :: (rqL d.r ev ++ pkL d.p xe xa xc xv xb)
structure doV (w : World) (G : List Nat) (d : DO) (cv ev xe xa xc xv xb : Value) : Prop where
  k : i64P d.kind
  n : i64P d.n
  c : intsV w G cv d.chain
  r : rqV w G d.r ev
  p : pkV w G d.p xe xa xc xv xb
theorem doV.over {w w' : World} {G : List Nat} {d : DO} {cv ev xe xa xc xv xb : Value} (h : doV w G d cv ev xe xa xc xv xb) (hk : keepBut [] w w') : doV w' G d cv ev xe xa xc xv xb :=
  ⟨h.k, h.n, h.c.keep hk (by simp), ⟨h.r.1, h.r.2.keep hk (by simp)⟩, h.p.over hk⟩
theorem doL_len {d : DO} {cv ev xe xa xc xv xb : Value} (h1 : d.r.name.length = 32) (h2 : d.p.req.name.length = 32) (h3 : d.p.ans.name.length = 32) : (doL d cv ev xe xa xc xv xb).length = 127 := by
  have e1 : (rqL d.r ev).length = 37 := rqL_len h1
  have e2 : (pkL d.p xe xa xc xv xb).length = 87 := pkL_len h2 h3
  unfold doL
  simp only [List.length_cons, List.length_append, e1, e2]
theorem doL_req (d : DO) (cv ev xe xa xc xv xb : Value) : ∀ j v, (rqL d.r ev)[j]? = some v → (doL d cv ev xe xa xc xv xb).toArray[3 + j]? = some v := fun j v hv => by
  have := mid_at (l := [.int .i64 d.kind, .int .i64 d.n, cv]) (m := rqL d.r ev) (r := pkL d.p xe xa xc xv xb) rfl j v hv
  simpa [doL] using this
theorem doL_pk {d : DO} {cv ev xe xa xc xv xb : Value} (h1 : d.r.name.length = 32) : ∀ j v, (pkL d.p xe xa xc xv xb)[j]? = some v → (doL d cv ev xe xa xc xv xb).toArray[40 + j]? = some v := fun j v hv => by
  have e1 : (rqL d.r ev).length = 37 := rqL_len h1
  have := mid_at (l := .int .i64 d.kind :: .int .i64 d.n :: cv :: rqL d.r ev) (m := pkL d.p xe xa xc xv xb) (r := []) (k := 40) (by simp [e1]) j v hv
  simpa [doL] using this
def z32 : List UInt8 := List.replicate 32 0
def DO.pkt5 (d : DO) (s : SS) : PK := ⟨7, d.n % 3, 20 + s.client, 0, 0, 0, false, rqZero, anZero, ⟨d.n % 9, 1, d.chain.take 6⟩, [], []⟩
def DO.ans6 (d : DO) (s : SS) : AN := ⟨s.client, IntKind.i64.wrap (s.last - IntKind.i64.wrap ((d.n % 7).tdiv 6)), d.n % 3, d.n, 0, anZero.name, d.r.env.take 300⟩
def DO.pkt6 (d : DO) (s : SS) : PK := ⟨2, 10, 20 + s.client, 0, 0, 0, false, rqZero, d.ans6 s, cfZero, [], []⟩
def DO.pkt7 (d : DO) (s : SS) : PK := ⟨d.p.kind, d.p.frm, if 0 < d.n.tmod 3 then 20 + s.client else d.p.dst, d.p.num, d.p.seq, d.p.ballot, d.p.ready, d.p.req, ⟨d.p.ans.client, d.p.ans.num, d.p.ans.code, d.p.ans.version, d.p.ans.epoch, d.p.ans.name, d.p.ans.env.take 300⟩, ⟨d.p.conf.num, d.p.conf.full, d.p.conf.chain.take 6⟩, d.p.votes, d.p.bytes⟩
def DO.pkt (d : DO) (s : SS) : PK := if d.kind % 8 = 5 then d.pkt5 s else if d.kind % 8 = 6 then d.pkt6 s else d.pkt7 s
def pktPost (G : List Nat) (x : PK) (w : World) (e : Ending) (w' : World) : Prop :=
  ∃ xe xa xc xv xb, e = .returned (.agg (pkL x xe xa xc xv xb).toArray) ∧ pkV w' G x xe xa xc xv xb ∧ keepBut [] w w'
theorem intsV.cut {w : World} {F : List Nat} {A : Option Addr} {c n k : Nat} {l : List Int} (h : intsV w F (.slice A n c) l) (hk : k ≤ n) : intsV w F (.slice A k c) (l.take k) := by
  obtain ⟨A', c', g, e, h2, h3, h5, h6⟩ := h
  injection e with e1 e2 e3
  subst e1 e2 e3
  refine ⟨A, c, g, by rw [List.length_take, Nat.min_eq_left hk], by rw [List.length_take]; omega, h3, ⟨by simp, fun hn => ?_⟩, fun hne => h6 (fun h0 => hne (by rw [h0]; simp))⟩
  rw [List.length_take] at hn
  obtain ⟨o, q1, q2, q3⟩ := h5.2 (by omega)
  refine ⟨o, q1, q2, fun j u hu => q3 j u ?_⟩
  rw [List.map_take, List.getElem?_take] at hu
  split at hu
  · exact hu
  · cases hu
theorem build_conf5 (a b : Int) (A : Option Addr) (k c : Nat) (l : List Int) : Tryd.prog.built 41 [(0, .int .i64 a), (1, .int .i64 b), (2, .slice A k c)] = some (cfL ⟨a, b, l⟩ (.slice A k c)).toArray := by kernel_rfl
theorem build_pkt5 (f n a b : Int) (A : Option Addr) (k c : Nat) (l : List Int) : Tryd.prog.built 44 [(0, .int .i64 7), (1, .int .i64 f), (2, .int .i64 n), (9, .agg (cfL ⟨a, b, l⟩ (.slice A k c)).toArray)] = some (pkL ⟨7, f, n, 0, 0, 0, false, rqZero, anZero, ⟨a, b, l⟩, [], []⟩ nilV nilV (.slice A k c) nilV nilV).toArray := by kernel_rfl
theorem build_ans6 (a b e f : Int) (A : Option Addr) (k c : Nat) (l : List UInt8) : Tryd.prog.built 39 [(0, .int .i64 a), (1, .int .i64 b), (2, .int .i64 e), (3, .int .i64 f), (6, .slice A k c)] = some (anL ⟨a, b, e, f, 0, anZero.name, l⟩ (.slice A k c)).toArray := by kernel_rfl
theorem build_pkt6 (n a b e f : Int) (A : Option Addr) (k c : Nat) (l : List UInt8) : Tryd.prog.built 44 [(0, .int .i64 2), (1, .int .i64 10), (2, .int .i64 n), (8, .agg (anL ⟨a, b, e, f, 0, anZero.name, l⟩ (.slice A k c)).toArray)] = some (pkL ⟨2, 10, n, 0, 0, 0, false, rqZero, ⟨a, b, e, f, 0, anZero.name, l⟩, cfZero, [], []⟩ nilV (.slice A k c) nilV nilV nilV).toArray := by kernel_rfl
set_option maxHeartbeats 4000000 in
theorem packet_conf1 (mb : Nat) (s : SS) (sv sev : Value) (SF : List Nat) (G : List Nat) (d : DO) (cv ev xe xa xc xv xb : Value) (w : World) (hM : isM w mb s sv sev SF) (hb : 0 ≤ s.client ∧ s.client ≤ 2) (hd : doV w G d cv ev xe xa xc xv xb) (hG : ∀ y ∈ G, y < w.heap.size) (hk5 : d.kind % 8 = 5) (hl : d.chain.length ≤ 6) :
    Calls Tryd.prog 32 #[.pointer (some ⟨mb, 0, none⟩), .agg (doL d cv ev xe xa xc xv xb).toArray] w (pktPost G (d.pkt5 s) w) := by
  have hXl : (doL d cv ev xe xa xc xv xb).length = 127 := doL_len hd.r.1 hd.p.rn hd.p.an
  have x0 : (doL d cv ev xe xa xc xv xb).toArray[0]? = some (.int .i64 d.kind) := rfl
  have x1 : (doL d cv ev xe xa xc xv xb).toArray[1]? = some (.int .i64 d.n) := rfl
  have x2 : (doL d cv ev xe xa xc xv xb).toArray[2]? = some cv := rfl
  have x39 : (doL d cv ev xe xa xc xv xb).toArray[39]? = some ev := doL_req d cv ev xe xa xc xv xb 36 ev (by have := rqL_env (ev := ev) hd.r.1; simpa using this)
  have xp : ∀ j v, (pkL d.p xe xa xc xv xb)[j]? = some v → (doL d cv ev xe xa xc xv xb).toArray[40 + j]? = some v := doL_pk hd.r.1
  obtain ⟨X, hX⟩ : ∃ X, doL d cv ev xe xa xc xv xb = X := ⟨_, rfl⟩
  rw [hX] at hXl x0 x1 x2 x39 xp ⊢
  obtain ⟨Z, hZ⟩ : ∃ Z, pkL pkZero nilV nilV nilV nilV nilV = Z := ⟨_, rfl⟩
  have hzv := zv_pk
  have hzl := pkZ_len
  rw [hZ] at hzv hzl
  have k1 := (keepBut.refl [] w).alloc (.cells X.toArray 46)
  have r1 := rowAt.new w 46 X.toArray
  have hs1 : (w.alloc (.cells X.toArray 46)).heap.size = w.heap.size + 1 := World.size_alloc ..
  obtain ⟨w1, hw1⟩ : ∃ w1, w.alloc (.cells X.toArray 46) = w1 := ⟨_, rfl⟩
  rw [hw1] at k1 r1 hs1
  have k2 := (keepBut.refl [] w1).alloc (.cells Z.toArray 44)
  have r2 := rowAt.new w1 44 Z.toArray
  obtain ⟨w2, hw2⟩ : ∃ w2, w1.alloc (.cells Z.toArray 44) = w2 := ⟨_, rfl⟩
  rw [hw2] at k2 r2
  have r1' := k2.row r1 (by simp)
  have k12 := k1.then k2 (by simp)
  obtain ⟨b, hbb⟩ : ∃ b, w.heap.size = b := ⟨_, rfl⟩
  obtain ⟨dd, hdd⟩ : ∃ d, w1.heap.size = d := ⟨_, rfl⟩
  rw [hbb] at r1'
  rw [hdd] at r2
  have hmw := hM.row.lt
  have hbd : b ≠ dd ∧ mb ≠ dd ∧ mb ≠ b := by omega
  have HS := Lib.hid (And.intro hbb (And.intro hdd (And.intro hs1 hmw)))
  have hM2 := hM.over k12
  have z0 := hM2.cells.1
  have y0 : w2.cell? ⟨b, 0, none⟩ = some (.int .i64 d.kind) := (r1'.cell 0).trans x0
  have y1 : w2.cell? ⟨b, 1, none⟩ = some (.int .i64 d.n) := (r1'.cell 1).trans x1
  have HP := Lib.hid (show ∀ w', keepBut [dd] w2 w' → w'.cell? ⟨b, 1, none⟩ = some (.int .i64 d.n) ∧ w'.cell? ⟨b, 2, none⟩ = some cv ∧ w'.cell? ⟨b, 39, none⟩ = some ev ∧ w'.cell? ⟨mb, 0, none⟩ = some (.int .i64 s.client) ∧ w'.cell? ⟨mb, 48, none⟩ = some (.int .i64 s.last) from fun w' hk => by
    have q := hM2.keep hk (by simpa using hbd.2.1) (fun y hy hm => by have h1 := (hM.far y hy).1; simp only [List.mem_singleton] at hm; omega)
    exact ⟨((hk.row r1' (by simpa using hbd.1)).cell 1).trans x1, ((hk.row r1' (by simpa using hbd.1)).cell 2).trans x2, ((hk.row r1' (by simpa using hbd.1)).cell 39).trans x39, q.cells.1, q.cells.2.2.2.2.2.2.2.2.2.2.2⟩)
  have HD := Lib.hid (And.intro hd hX)
  have HW := Lib.hid (And.intro hw1 (And.intro hw2 hzv))
  have HR := Lib.hid (And.intro r1' (And.intro r2 (And.intro k12 (And.intro hzl hXl))))
  have HXP := Lib.hid xp
  have HGO := Lib.hid hG
  obtain ⟨hb1, hb2⟩ := hb
  have hwr : IntKind.i64.wrap (20 + s.client) = 20 + s.client := by rw [IntKind.wrap_i64]; omega
  have HBK := Lib.hid (fun W => bring_any d.kind 8 hd.k.1 hd.k.2 (by decide) (by decide) W)
  have HB3 := Lib.hid (fun W => bring_any d.n 3 hd.n.1 hd.n.2 (by decide) (by decide) W)
  have HB9 := Lib.hid (fun W => bring_any d.n 9 hd.n.1 hd.n.2 (by decide) (by decide) W)
  have HB7 := Lib.hid (fun W => bring_any d.n 7 hd.n.1 hd.n.2 (by decide) (by decide) W)
  clear k1 r1 k2 r2 hw1 hw2 hzv hzl hs1 hX r1' k12 hXl x0 x1 x2 x39 xp hM hmw hbd hM2 hZ hG
  have HKK := Lib.hid hk5
  clear hk5
  have hdv := hd.c
  obtain ⟨A, c, g, rfl, h2, h3, h5, h6⟩ := hd.c
  obtain ⟨mm, hmm⟩ : ∃ m, d.chain.length = m := ⟨_, rfl⟩
  rw [hmm] at HP h2 hdv
  rw [hmm] at HD
  have hmx : mm ≤ 9223372036854775807 := by unfold maxLen at h3; omega
  have hlen : mm ≤ 6 := by rw [hmm] at hl; exact hl
  have hKc : (mm : Nat) ≤ c := by omega
  have hQ : intsV w G (.slice A mm c) (d.chain.take 6) := by have h := hdv.cut (k := mm) (by omega); rwa [show d.chain.take mm = d.chain.take 6 from (by rw [List.take_of_length_le (by omega), List.take_of_length_le (by omega)])] at h
  have HQ := Lib.hid hQ
  have hC := build_conf5 (d.n % 9) 1 A mm c (d.chain.take 6)
  have hY := build_pkt5 (d.n % 3) (20 + s.client) (d.n % 9) 1 A mm c (d.chain.take 6)
  obtain ⟨C, hCC⟩ : ∃ C, cfL ⟨d.n % 9, 1, d.chain.take 6⟩ (.slice A mm c) = C := ⟨_, rfl⟩
  obtain ⟨Y, hYY⟩ : ∃ Y, pkL (d.pkt5 s) nilV nilV (.slice A mm c) nilV nilV = Y := ⟨_, rfl⟩
  rw [hCC] at hC hY
  rw [show (⟨7, d.n % 3, 20 + s.client, 0, 0, 0, false, rqZero, anZero, ⟨d.n % 9, 1, d.chain.take 6⟩, [], []⟩ : PK) = d.pkt5 s from rfl, hYY] at hY
  have hYl : Y.length = 87 := by rw [← hYY]; exact pkL_len rqZero_name anZero_name
  have hYo : ∀ u ∈ Y, u.oneCell' = true := by rw [← hYY]; exact pkL_one rfl rfl hQ.one rfl rfl
  have HY := Lib.hid (And.intro hYY (And.intro hYl (And.intro hYo (And.intro hC hY))))
  clear hl hdv h5 h6 hmm hQ hC hY hCC hYY hYl hYo hd
  go_enter Tryd.func32, Tryd.ntmps32
  go_upto_region 4 with (first
    | (with_reducible refine wpList_box_to _ _ rfl 46 (.tmp 1) rfl _ rfl HW.out.1 ?_)
    | (with_reducible refine wpList_alloc_to _ _ rfl 44 rfl _ HW.out.2.2 HW.out.2.1 ?_)
    | (go_at_call 16; (with_reducible refine (HBK.out _).mono ?_); rintro e w' ⟨rfl, rfl⟩; rw [HKK.out]))
  try simp only [hbb, hdd]
  clear y0 y1 z0
  refine wp_region_held_drew (S := keepBut [dd] w2) (by kernel_rfl) ((keepBut.refl [] w2).drew.more (by simp)) (fun _ => ?_)
  have kW := (keepBut.refl [] w2).drew
  obtain ⟨W0, hW0⟩ : ∃ W, w2.drew = W := ⟨_, rfl⟩
  rw [hW0] at kW ⊢
  clear hW0
  refine wpAnyH_take (i := 0) (oi := ⟨_, _, _, _, _, _⟩) (v := ?_) rfl (by kernel_rfl) (by kernel_rfl) (by kernel_rfl) (fun _ _ _ h => h) (Or.inl ⟨by rfl, ?_⟩) (kW.more (by simp)) ?_
  rotate_left
  · intro w' hSw; clear hSw; (go_simp; try with_reducible rfl)
  try simp only [Act.put, List.setIfInBounds_toArray, List.set_cons_zero, List.set_cons_succ]
  refine wpAnyH_take (i := 1) (oi := ⟨_, _, _, _, _, _⟩) (v := ?_) rfl (by kernel_rfl) (by kernel_rfl) (by kernel_rfl) (fun _ _ _ h => h) (Or.inl ⟨by rfl, ?_⟩) (kW.more (by simp)) ?_
  rotate_left
  · intro w' hSw; have xc := (HP.out w' hSw).1; clear hSw; (go_simp; try with_reducible rfl)
  try simp only [Act.put, List.setIfInBounds_toArray, List.set_cons_zero, List.set_cons_succ]
  refine wpAnyH_take (i := 3) (oi := ⟨_, _, _, _, _, _⟩) (v := ?_) rfl (by kernel_rfl) (by kernel_rfl) (by kernel_rfl) (fun _ _ _ h => h) (Or.inl ⟨by rfl, ?_⟩) (kW.more (by simp)) ?_
  rotate_left
  · intro w' hSw; clear hSw; (go_simp; try with_reducible rfl)
  try simp only [Act.put, List.setIfInBounds_toArray, List.set_cons_zero, List.set_cons_succ]
  refine wpAnyH_take (i := 4) (oi := ⟨_, _, _, _, _, _⟩) (v := ?_) rfl (by kernel_rfl) (by kernel_rfl) (by kernel_rfl) (fun _ _ _ h => h) (Or.inl ⟨by rfl, ?_⟩) (kW.more (by simp)) ?_
  rotate_left
  · intro w' hSw; clear hSw; (go_simp; try with_reducible rfl)
  try simp only [Act.put, List.setIfInBounds_toArray, List.set_cons_zero, List.set_cons_succ]
  refine wpAnyH_take (i := 5) (oi := ⟨_, _, _, _, _, _⟩) (v := ?_) rfl (by kernel_rfl) (by kernel_rfl) (by kernel_rfl) (fun _ _ _ h => h) (Or.inl ⟨by rfl, ?_⟩) (kW.more (by simp)) ?_
  rotate_left
  · intro w' hSw; have xc := (HP.out w' hSw).1; clear hSw; (go_simp; try with_reducible rfl)
  try simp only [Act.put, List.setIfInBounds_toArray, List.set_cons_zero, List.set_cons_succ]
  refine wpAnyH_take (i := 7) (oi := ⟨_, _, _, _, _, _⟩) (v := ?_) rfl (by kernel_rfl) (by kernel_rfl) (by kernel_rfl) (fun _ _ _ h => h) (Or.inl ⟨by rfl, ?_⟩) (kW.more (by simp)) ?_
  rotate_left
  · intro w' hSw; clear hSw; (go_simp; try with_reducible rfl)
  try simp only [Act.put, List.setIfInBounds_toArray, List.set_cons_zero, List.set_cons_succ]
  refine wpAnyH_take (i := 8) (oi := ⟨_, _, _, _, _, _⟩) (v := ?_) rfl (by kernel_rfl) (by kernel_rfl) (by kernel_rfl) (fun _ _ _ h => h) (Or.inl ⟨by rfl, ?_⟩) (kW.more (by simp)) ?_
  rotate_left
  · intro w' hSw; have xc := (HP.out w' hSw).2.1; clear hSw; (go_simp; try with_reducible rfl)
  try simp only [Act.put, List.setIfInBounds_toArray, List.set_cons_zero, List.set_cons_succ]
  refine wpAnyH_take (i := 9) (oi := ⟨_, _, _, _, _, _⟩) (v := ?_) rfl (by kernel_rfl) (by kernel_rfl) (by kernel_rfl) (fun _ _ _ h => h) (Or.inl ⟨by rfl, ?_⟩) (kW.more (by simp)) ?_
  rotate_left
  · intro w' hSw; clear hSw; (go_simp; try with_reducible rfl)
  try simp only [Act.put, List.setIfInBounds_toArray, List.set_cons_zero, List.set_cons_succ]
  refine wpAnyH_take (i := 10) (oi := ⟨_, _, _, _, _, _⟩) (v := ?_) rfl (by kernel_rfl) (by kernel_rfl) (by kernel_rfl) (fun _ _ _ h => h) (Or.inl ⟨by rfl, ?_⟩) (kW.more (by simp)) ?_
  rotate_left
  · intro w' hSw; have xc := (HP.out w' hSw).2.1; clear hSw; (go_simp; try with_reducible rfl)
  try simp only [Act.put, List.setIfInBounds_toArray, List.set_cons_zero, List.set_cons_succ]
  refine wpAnyH_take (i := 11) (oi := ⟨_, _, _, _, _, _⟩) (v := ?_) rfl (by kernel_rfl) (by kernel_rfl) (by kernel_rfl) (fun _ _ _ h => h) (Or.inl ⟨by rfl, ?_⟩) (kW.more (by simp)) ?_
  rotate_left
  · intro w' hSw; clear hSw; (go_simp; try with_reducible rfl)
  try simp only [Act.put, List.setIfInBounds_toArray, List.set_cons_zero, List.set_cons_succ]
  refine wpAnyH_take (i := 12) (oi := ⟨_, _, _, _, _, _⟩) (v := .int .i64 (mm : Int)) rfl (by kernel_rfl) (by kernel_rfl) (by kernel_rfl) (fun _ _ _ h => h) (Or.inl ⟨by rfl, ?_⟩) (kW.more (by simp)) ?_
  · intro w' hSw; clear hSw; (go_simp; first | done | with_reducible rfl | (intro _; omega) | omega | (simp; omega))
  try simp only [Act.put, List.setIfInBounds_toArray, List.set_cons_zero, List.set_cons_succ]
  refine wpAnyH_take (i := 13) (oi := ⟨_, _, _, _, _, _⟩) (v := .slice A mm c) rfl (by kernel_rfl) (by kernel_rfl) (by kernel_rfl) (fun _ _ _ h => h) (Or.inl ⟨by rfl, ?_⟩) (kW.more (by simp)) ?_
  · intro w' hSw; clear hSw; (go_simp; first | done | with_reducible rfl | (intro _; omega) | omega | (simp; omega))
  try simp only [Act.put, List.setIfInBounds_toArray, List.set_cons_zero, List.set_cons_succ]
  refine wpAnyH_ready (rs := [2]) (by kernel_rfl) (by simp) ?_
  refine AllReadyH.cons (o := ⟨_, _, _, _, _, _⟩) rfl (fun KK hKK => ?_) AllReadyH.nil
  go_simp
  (with_reducible refine (HB3.out _).mono ?_); rintro e w9 ⟨rfl, rfl⟩
  go_wp2_with fail
  refine hKK.out _ _ (kW.more (by simp)) (fun _ => ?_)
  clear hKK KK
  try simp only [Act.put, List.setIfInBounds_toArray, List.set_cons_zero, List.set_cons_succ]
  refine wpAnyH_ready (rs := [6]) (by kernel_rfl) (by simp) ?_
  refine AllReadyH.cons (o := ⟨_, _, _, _, _, _⟩) rfl (fun KK hKK => ?_) AllReadyH.nil
  go_simp
  (with_reducible refine (HB9.out _).mono ?_); rintro e w9 ⟨rfl, rfl⟩
  go_wp2_with fail
  refine hKK.out _ _ (kW.more (by simp)) (fun _ => ?_)
  clear hKK KK
  try simp only [Act.put, List.setIfInBounds_toArray, List.set_cons_zero, List.set_cons_succ]
  refine wpAnyH_take (i := 14) (oi := ⟨_, _, _, _, _, _⟩) (v := .agg C.toArray) rfl (by kernel_rfl) (by kernel_rfl) (by kernel_rfl) (fun _ _ _ h => h) (yieldsIf_build 41 _ rfl ?_ _ ?_) (kW.more (by simp)) ?_
  · rfl
  · simp only [List.map_toArray, List.map_cons, List.map_nil]
    go_simp
    exact HY.out.2.2.2.1
  try simp only [Act.put, List.setIfInBounds_toArray, List.set_cons_zero, List.set_cons_succ]
  refine wpAnyH_take (i := 15) (oi := ⟨_, _, _, _, _, _⟩) (v := .agg Y.toArray) rfl (by kernel_rfl) (by kernel_rfl) (by kernel_rfl) (fun _ _ _ h => h) (yieldsIf_build 44 _ rfl ?_ _ ?_) (kW.more (by simp)) ?_
  · rfl
  · simp only [List.map_toArray, List.map_cons, List.map_nil]
    go_simp
    exact HY.out.2.2.2.2
  try simp only [Act.put, List.setIfInBounds_toArray, List.set_cons_zero, List.set_cons_succ]
  have hr3 := kW.row HR.out.2.1 (by simp)
  have HT := Lib.hid (hr3.there (o := 0) (n := 87) (by rw [List.size_toArray, HR.out.2.2.2.1]; decide))
  have H3 := Lib.hid hr3
  clear hr3
  have k5 : keepBut [dd] W0 (W0.setCells dd 0 Y) := (keepBut.refl _ _).setL (.inl (by simp))
  have HK5 := Lib.hid (And.intro kW k5)
  clear kW k5
  refine wpAnyH_ready (rs := [16]) (by kernel_rfl) (by simp) ?_
  refine AllReadyH.cons (o := ⟨_, _, _, _, _, _⟩) rfl (fun KK hKK => ?_) AllReadyH.nil
  refine step_store_mid rfl 44 (.tmp 4) (.tmp 33) rfl dd 0 Y.toArray rfl (by rfl) (by rw [List.size_toArray, HY.out.2.1]; exact HT.out) (by rw [List.size_toArray, HY.out.2.1]; exact info_pkS) (by simpa using HY.out.2.2.1) ?_
  refine hKK.out _ _ ((HK5.out.1.more (T := [dd]) (by simp)).then HK5.out.2 (fun x hx => .inl hx)) (fun _ => ?_)
  clear hKK KK
  try simp only [Act.put, List.setIfInBounds_toArray, List.set_cons_zero, List.set_cons_succ]
  refine wpAnyH_done (by kernel_rfl) ?_ _
  go_wp2_with fail
  have r9 := set0 H3.out (show Y.length = Z.length by rw [HY.out.2.1, HR.out.2.2.2.1])
  refine bodyPost_ret (results_cell_row rfl _ _ dd 44 _ (0, 0) _ rfl r9 Tryd.underlying44 rfl (by rw [List.size_toArray, HY.out.2.1]; exact info_pkS)) rfl ?_
  have KF := (HK5.out.1.more (T := [dd]) (by simp)).then HK5.out.2 (fun x hx => .inl hx)
  refine ⟨nilV, nilV, .slice A mm c, nilV, nilV, by rw [HY.out.1], ⟨rqZero_name, anZero_name, bytesV.nil _ _, bytesV.nil _ _, (HQ.out.keep HR.out.2.2.1 (by simp)).keep KF (fun y hy hm => ?_), votesV.nil _ _, bytesV.nil _ _⟩, HR.out.2.2.1.then KF (fun y hy => .inr ?_)⟩
  · have h1 := HGO.out y hy
    have h2 := HS.out
    simp only [List.mem_singleton] at hm
    omega
  · have h2 := HS.out
    simp only [List.mem_singleton] at hy
    omega
set_option maxHeartbeats 4000000 in
theorem packet_conf2 (mb : Nat) (s : SS) (sv sev : Value) (SF : List Nat) (G : List Nat) (d : DO) (cv ev xe xa xc xv xb : Value) (w : World) (hM : isM w mb s sv sev SF) (hb : 0 ≤ s.client ∧ s.client ≤ 2) (hd : doV w G d cv ev xe xa xc xv xb) (hG : ∀ y ∈ G, y < w.heap.size) (hk5 : d.kind % 8 = 5) (hl : 6 < d.chain.length) :
    Calls Tryd.prog 32 #[.pointer (some ⟨mb, 0, none⟩), .agg (doL d cv ev xe xa xc xv xb).toArray] w (pktPost G (d.pkt5 s) w) := by
  have hXl : (doL d cv ev xe xa xc xv xb).length = 127 := doL_len hd.r.1 hd.p.rn hd.p.an
  have x0 : (doL d cv ev xe xa xc xv xb).toArray[0]? = some (.int .i64 d.kind) := rfl
  have x1 : (doL d cv ev xe xa xc xv xb).toArray[1]? = some (.int .i64 d.n) := rfl
  have x2 : (doL d cv ev xe xa xc xv xb).toArray[2]? = some cv := rfl
  have x39 : (doL d cv ev xe xa xc xv xb).toArray[39]? = some ev := doL_req d cv ev xe xa xc xv xb 36 ev (by have := rqL_env (ev := ev) hd.r.1; simpa using this)
  have xp : ∀ j v, (pkL d.p xe xa xc xv xb)[j]? = some v → (doL d cv ev xe xa xc xv xb).toArray[40 + j]? = some v := doL_pk hd.r.1
  obtain ⟨X, hX⟩ : ∃ X, doL d cv ev xe xa xc xv xb = X := ⟨_, rfl⟩
  rw [hX] at hXl x0 x1 x2 x39 xp ⊢
  obtain ⟨Z, hZ⟩ : ∃ Z, pkL pkZero nilV nilV nilV nilV nilV = Z := ⟨_, rfl⟩
  have hzv := zv_pk
  have hzl := pkZ_len
  rw [hZ] at hzv hzl
  have k1 := (keepBut.refl [] w).alloc (.cells X.toArray 46)
  have r1 := rowAt.new w 46 X.toArray
  have hs1 : (w.alloc (.cells X.toArray 46)).heap.size = w.heap.size + 1 := World.size_alloc ..
  obtain ⟨w1, hw1⟩ : ∃ w1, w.alloc (.cells X.toArray 46) = w1 := ⟨_, rfl⟩
  rw [hw1] at k1 r1 hs1
  have k2 := (keepBut.refl [] w1).alloc (.cells Z.toArray 44)
  have r2 := rowAt.new w1 44 Z.toArray
  obtain ⟨w2, hw2⟩ : ∃ w2, w1.alloc (.cells Z.toArray 44) = w2 := ⟨_, rfl⟩
  rw [hw2] at k2 r2
  have r1' := k2.row r1 (by simp)
  have k12 := k1.then k2 (by simp)
  obtain ⟨b, hbb⟩ : ∃ b, w.heap.size = b := ⟨_, rfl⟩
  obtain ⟨dd, hdd⟩ : ∃ d, w1.heap.size = d := ⟨_, rfl⟩
  rw [hbb] at r1'
  rw [hdd] at r2
  have hmw := hM.row.lt
  have hbd : b ≠ dd ∧ mb ≠ dd ∧ mb ≠ b := by omega
  have HS := Lib.hid (And.intro hbb (And.intro hdd (And.intro hs1 hmw)))
  have hM2 := hM.over k12
  have z0 := hM2.cells.1
  have y0 : w2.cell? ⟨b, 0, none⟩ = some (.int .i64 d.kind) := (r1'.cell 0).trans x0
  have y1 : w2.cell? ⟨b, 1, none⟩ = some (.int .i64 d.n) := (r1'.cell 1).trans x1
  have HP := Lib.hid (show ∀ w', keepBut [dd] w2 w' → w'.cell? ⟨b, 1, none⟩ = some (.int .i64 d.n) ∧ w'.cell? ⟨b, 2, none⟩ = some cv ∧ w'.cell? ⟨b, 39, none⟩ = some ev ∧ w'.cell? ⟨mb, 0, none⟩ = some (.int .i64 s.client) ∧ w'.cell? ⟨mb, 48, none⟩ = some (.int .i64 s.last) from fun w' hk => by
    have q := hM2.keep hk (by simpa using hbd.2.1) (fun y hy hm => by have h1 := (hM.far y hy).1; simp only [List.mem_singleton] at hm; omega)
    exact ⟨((hk.row r1' (by simpa using hbd.1)).cell 1).trans x1, ((hk.row r1' (by simpa using hbd.1)).cell 2).trans x2, ((hk.row r1' (by simpa using hbd.1)).cell 39).trans x39, q.cells.1, q.cells.2.2.2.2.2.2.2.2.2.2.2⟩)
  have HD := Lib.hid (And.intro hd hX)
  have HW := Lib.hid (And.intro hw1 (And.intro hw2 hzv))
  have HR := Lib.hid (And.intro r1' (And.intro r2 (And.intro k12 (And.intro hzl hXl))))
  have HXP := Lib.hid xp
  have HGO := Lib.hid hG
  obtain ⟨hb1, hb2⟩ := hb
  have hwr : IntKind.i64.wrap (20 + s.client) = 20 + s.client := by rw [IntKind.wrap_i64]; omega
  have HBK := Lib.hid (fun W => bring_any d.kind 8 hd.k.1 hd.k.2 (by decide) (by decide) W)
  have HB3 := Lib.hid (fun W => bring_any d.n 3 hd.n.1 hd.n.2 (by decide) (by decide) W)
  have HB9 := Lib.hid (fun W => bring_any d.n 9 hd.n.1 hd.n.2 (by decide) (by decide) W)
  have HB7 := Lib.hid (fun W => bring_any d.n 7 hd.n.1 hd.n.2 (by decide) (by decide) W)
  clear k1 r1 k2 r2 hw1 hw2 hzv hzl hs1 hX r1' k12 hXl x0 x1 x2 x39 xp hM hmw hbd hM2 hZ hG
  have HKK := Lib.hid hk5
  clear hk5
  have hdv := hd.c
  obtain ⟨A, c, g, rfl, h2, h3, h5, h6⟩ := hd.c
  obtain ⟨mm, hmm⟩ : ∃ m, d.chain.length = m := ⟨_, rfl⟩
  rw [hmm] at HP h2 hdv
  rw [hmm] at HD
  have hmx : mm ≤ 9223372036854775807 := by unfold maxLen at h3; omega
  have hlen : 6 < mm := by rw [hmm] at hl; exact hl
  have hKc : (6 : Nat) ≤ c := by omega
  have hQ : intsV w G (.slice A 6 c) (d.chain.take 6) := by have h := hdv.cut (k := 6) (by omega); rwa [show d.chain.take 6 = d.chain.take 6 from rfl] at h
  have HQ := Lib.hid hQ
  have hC := build_conf5 (d.n % 9) 1 A 6 c (d.chain.take 6)
  have hY := build_pkt5 (d.n % 3) (20 + s.client) (d.n % 9) 1 A 6 c (d.chain.take 6)
  obtain ⟨C, hCC⟩ : ∃ C, cfL ⟨d.n % 9, 1, d.chain.take 6⟩ (.slice A 6 c) = C := ⟨_, rfl⟩
  obtain ⟨Y, hYY⟩ : ∃ Y, pkL (d.pkt5 s) nilV nilV (.slice A 6 c) nilV nilV = Y := ⟨_, rfl⟩
  rw [hCC] at hC hY
  rw [show (⟨7, d.n % 3, 20 + s.client, 0, 0, 0, false, rqZero, anZero, ⟨d.n % 9, 1, d.chain.take 6⟩, [], []⟩ : PK) = d.pkt5 s from rfl, hYY] at hY
  have hYl : Y.length = 87 := by rw [← hYY]; exact pkL_len rqZero_name anZero_name
  have hYo : ∀ u ∈ Y, u.oneCell' = true := by rw [← hYY]; exact pkL_one rfl rfl hQ.one rfl rfl
  have HY := Lib.hid (And.intro hYY (And.intro hYl (And.intro hYo (And.intro hC hY))))
  clear hl hdv h5 h6 hmm hQ hC hY hCC hYY hYl hYo hd
  go_enter Tryd.func32, Tryd.ntmps32
  go_upto_region 4 with (first
    | (with_reducible refine wpList_box_to _ _ rfl 46 (.tmp 1) rfl _ rfl HW.out.1 ?_)
    | (with_reducible refine wpList_alloc_to _ _ rfl 44 rfl _ HW.out.2.2 HW.out.2.1 ?_)
    | (go_at_call 16; (with_reducible refine (HBK.out _).mono ?_); rintro e w' ⟨rfl, rfl⟩; rw [HKK.out]))
  try simp only [hbb, hdd]
  clear y0 y1 z0
  refine wp_region_held_drew (S := keepBut [dd] w2) (by kernel_rfl) ((keepBut.refl [] w2).drew.more (by simp)) (fun _ => ?_)
  have kW := (keepBut.refl [] w2).drew
  obtain ⟨W0, hW0⟩ : ∃ W, w2.drew = W := ⟨_, rfl⟩
  rw [hW0] at kW ⊢
  clear hW0
  refine wpAnyH_take (i := 0) (oi := ⟨_, _, _, _, _, _⟩) (v := ?_) rfl (by kernel_rfl) (by kernel_rfl) (by kernel_rfl) (fun _ _ _ h => h) (Or.inl ⟨by rfl, ?_⟩) (kW.more (by simp)) ?_
  rotate_left
  · intro w' hSw; clear hSw; (go_simp; try with_reducible rfl)
  try simp only [Act.put, List.setIfInBounds_toArray, List.set_cons_zero, List.set_cons_succ]
  refine wpAnyH_take (i := 1) (oi := ⟨_, _, _, _, _, _⟩) (v := ?_) rfl (by kernel_rfl) (by kernel_rfl) (by kernel_rfl) (fun _ _ _ h => h) (Or.inl ⟨by rfl, ?_⟩) (kW.more (by simp)) ?_
  rotate_left
  · intro w' hSw; have xc := (HP.out w' hSw).1; clear hSw; (go_simp; try with_reducible rfl)
  try simp only [Act.put, List.setIfInBounds_toArray, List.set_cons_zero, List.set_cons_succ]
  refine wpAnyH_take (i := 3) (oi := ⟨_, _, _, _, _, _⟩) (v := ?_) rfl (by kernel_rfl) (by kernel_rfl) (by kernel_rfl) (fun _ _ _ h => h) (Or.inl ⟨by rfl, ?_⟩) (kW.more (by simp)) ?_
  rotate_left
  · intro w' hSw; clear hSw; (go_simp; try with_reducible rfl)
  try simp only [Act.put, List.setIfInBounds_toArray, List.set_cons_zero, List.set_cons_succ]
  refine wpAnyH_take (i := 4) (oi := ⟨_, _, _, _, _, _⟩) (v := ?_) rfl (by kernel_rfl) (by kernel_rfl) (by kernel_rfl) (fun _ _ _ h => h) (Or.inl ⟨by rfl, ?_⟩) (kW.more (by simp)) ?_
  rotate_left
  · intro w' hSw; clear hSw; (go_simp; try with_reducible rfl)
  try simp only [Act.put, List.setIfInBounds_toArray, List.set_cons_zero, List.set_cons_succ]
  refine wpAnyH_take (i := 5) (oi := ⟨_, _, _, _, _, _⟩) (v := ?_) rfl (by kernel_rfl) (by kernel_rfl) (by kernel_rfl) (fun _ _ _ h => h) (Or.inl ⟨by rfl, ?_⟩) (kW.more (by simp)) ?_
  rotate_left
  · intro w' hSw; have xc := (HP.out w' hSw).1; clear hSw; (go_simp; try with_reducible rfl)
  try simp only [Act.put, List.setIfInBounds_toArray, List.set_cons_zero, List.set_cons_succ]
  refine wpAnyH_take (i := 7) (oi := ⟨_, _, _, _, _, _⟩) (v := ?_) rfl (by kernel_rfl) (by kernel_rfl) (by kernel_rfl) (fun _ _ _ h => h) (Or.inl ⟨by rfl, ?_⟩) (kW.more (by simp)) ?_
  rotate_left
  · intro w' hSw; clear hSw; (go_simp; try with_reducible rfl)
  try simp only [Act.put, List.setIfInBounds_toArray, List.set_cons_zero, List.set_cons_succ]
  refine wpAnyH_take (i := 8) (oi := ⟨_, _, _, _, _, _⟩) (v := ?_) rfl (by kernel_rfl) (by kernel_rfl) (by kernel_rfl) (fun _ _ _ h => h) (Or.inl ⟨by rfl, ?_⟩) (kW.more (by simp)) ?_
  rotate_left
  · intro w' hSw; have xc := (HP.out w' hSw).2.1; clear hSw; (go_simp; try with_reducible rfl)
  try simp only [Act.put, List.setIfInBounds_toArray, List.set_cons_zero, List.set_cons_succ]
  refine wpAnyH_take (i := 9) (oi := ⟨_, _, _, _, _, _⟩) (v := ?_) rfl (by kernel_rfl) (by kernel_rfl) (by kernel_rfl) (fun _ _ _ h => h) (Or.inl ⟨by rfl, ?_⟩) (kW.more (by simp)) ?_
  rotate_left
  · intro w' hSw; clear hSw; (go_simp; try with_reducible rfl)
  try simp only [Act.put, List.setIfInBounds_toArray, List.set_cons_zero, List.set_cons_succ]
  refine wpAnyH_take (i := 10) (oi := ⟨_, _, _, _, _, _⟩) (v := ?_) rfl (by kernel_rfl) (by kernel_rfl) (by kernel_rfl) (fun _ _ _ h => h) (Or.inl ⟨by rfl, ?_⟩) (kW.more (by simp)) ?_
  rotate_left
  · intro w' hSw; have xc := (HP.out w' hSw).2.1; clear hSw; (go_simp; try with_reducible rfl)
  try simp only [Act.put, List.setIfInBounds_toArray, List.set_cons_zero, List.set_cons_succ]
  refine wpAnyH_take (i := 11) (oi := ⟨_, _, _, _, _, _⟩) (v := ?_) rfl (by kernel_rfl) (by kernel_rfl) (by kernel_rfl) (fun _ _ _ h => h) (Or.inl ⟨by rfl, ?_⟩) (kW.more (by simp)) ?_
  rotate_left
  · intro w' hSw; clear hSw; (go_simp; try with_reducible rfl)
  try simp only [Act.put, List.setIfInBounds_toArray, List.set_cons_zero, List.set_cons_succ]
  refine wpAnyH_take (i := 12) (oi := ⟨_, _, _, _, _, _⟩) (v := .int .i64 (6 : Int)) rfl (by kernel_rfl) (by kernel_rfl) (by kernel_rfl) (fun _ _ _ h => h) (Or.inl ⟨by rfl, ?_⟩) (kW.more (by simp)) ?_
  · intro w' hSw; clear hSw; (go_simp; first | done | with_reducible rfl | (intro _; omega) | omega | (simp; omega))
  try simp only [Act.put, List.setIfInBounds_toArray, List.set_cons_zero, List.set_cons_succ]
  refine wpAnyH_take (i := 13) (oi := ⟨_, _, _, _, _, _⟩) (v := .slice A 6 c) rfl (by kernel_rfl) (by kernel_rfl) (by kernel_rfl) (fun _ _ _ h => h) (Or.inl ⟨by rfl, ?_⟩) (kW.more (by simp)) ?_
  · intro w' hSw; clear hSw; (go_simp; first | done | with_reducible rfl | (intro _; omega) | omega | (simp; omega))
  try simp only [Act.put, List.setIfInBounds_toArray, List.set_cons_zero, List.set_cons_succ]
  refine wpAnyH_ready (rs := [2]) (by kernel_rfl) (by simp) ?_
  refine AllReadyH.cons (o := ⟨_, _, _, _, _, _⟩) rfl (fun KK hKK => ?_) AllReadyH.nil
  go_simp
  (with_reducible refine (HB3.out _).mono ?_); rintro e w9 ⟨rfl, rfl⟩
  go_wp2_with fail
  refine hKK.out _ _ (kW.more (by simp)) (fun _ => ?_)
  clear hKK KK
  try simp only [Act.put, List.setIfInBounds_toArray, List.set_cons_zero, List.set_cons_succ]
  refine wpAnyH_ready (rs := [6]) (by kernel_rfl) (by simp) ?_
  refine AllReadyH.cons (o := ⟨_, _, _, _, _, _⟩) rfl (fun KK hKK => ?_) AllReadyH.nil
  go_simp
  (with_reducible refine (HB9.out _).mono ?_); rintro e w9 ⟨rfl, rfl⟩
  go_wp2_with fail
  refine hKK.out _ _ (kW.more (by simp)) (fun _ => ?_)
  clear hKK KK
  try simp only [Act.put, List.setIfInBounds_toArray, List.set_cons_zero, List.set_cons_succ]
  refine wpAnyH_take (i := 14) (oi := ⟨_, _, _, _, _, _⟩) (v := .agg C.toArray) rfl (by kernel_rfl) (by kernel_rfl) (by kernel_rfl) (fun _ _ _ h => h) (yieldsIf_build 41 _ rfl ?_ _ ?_) (kW.more (by simp)) ?_
  · rfl
  · simp only [List.map_toArray, List.map_cons, List.map_nil]
    go_simp
    exact HY.out.2.2.2.1
  try simp only [Act.put, List.setIfInBounds_toArray, List.set_cons_zero, List.set_cons_succ]
  refine wpAnyH_take (i := 15) (oi := ⟨_, _, _, _, _, _⟩) (v := .agg Y.toArray) rfl (by kernel_rfl) (by kernel_rfl) (by kernel_rfl) (fun _ _ _ h => h) (yieldsIf_build 44 _ rfl ?_ _ ?_) (kW.more (by simp)) ?_
  · rfl
  · simp only [List.map_toArray, List.map_cons, List.map_nil]
    go_simp
    exact HY.out.2.2.2.2
  try simp only [Act.put, List.setIfInBounds_toArray, List.set_cons_zero, List.set_cons_succ]
  have hr3 := kW.row HR.out.2.1 (by simp)
  have HT := Lib.hid (hr3.there (o := 0) (n := 87) (by rw [List.size_toArray, HR.out.2.2.2.1]; decide))
  have H3 := Lib.hid hr3
  clear hr3
  have k5 : keepBut [dd] W0 (W0.setCells dd 0 Y) := (keepBut.refl _ _).setL (.inl (by simp))
  have HK5 := Lib.hid (And.intro kW k5)
  clear kW k5
  refine wpAnyH_ready (rs := [16]) (by kernel_rfl) (by simp) ?_
  refine AllReadyH.cons (o := ⟨_, _, _, _, _, _⟩) rfl (fun KK hKK => ?_) AllReadyH.nil
  refine step_store_mid rfl 44 (.tmp 4) (.tmp 33) rfl dd 0 Y.toArray rfl (by rfl) (by rw [List.size_toArray, HY.out.2.1]; exact HT.out) (by rw [List.size_toArray, HY.out.2.1]; exact info_pkS) (by simpa using HY.out.2.2.1) ?_
  refine hKK.out _ _ ((HK5.out.1.more (T := [dd]) (by simp)).then HK5.out.2 (fun x hx => .inl hx)) (fun _ => ?_)
  clear hKK KK
  try simp only [Act.put, List.setIfInBounds_toArray, List.set_cons_zero, List.set_cons_succ]
  refine wpAnyH_done (by kernel_rfl) ?_ _
  go_wp2_with fail
  have r9 := set0 H3.out (show Y.length = Z.length by rw [HY.out.2.1, HR.out.2.2.2.1])
  refine bodyPost_ret (results_cell_row rfl _ _ dd 44 _ (0, 0) _ rfl r9 Tryd.underlying44 rfl (by rw [List.size_toArray, HY.out.2.1]; exact info_pkS)) rfl ?_
  have KF := (HK5.out.1.more (T := [dd]) (by simp)).then HK5.out.2 (fun x hx => .inl hx)
  refine ⟨nilV, nilV, .slice A 6 c, nilV, nilV, by rw [HY.out.1], ⟨rqZero_name, anZero_name, bytesV.nil _ _, bytesV.nil _ _, (HQ.out.keep HR.out.2.2.1 (by simp)).keep KF (fun y hy hm => ?_), votesV.nil _ _, bytesV.nil _ _⟩, HR.out.2.2.1.then KF (fun y hy => .inr ?_)⟩
  · have h1 := HGO.out y hy
    have h2 := HS.out
    simp only [List.mem_singleton] at hm
    omega
  · have h2 := HS.out
    simp only [List.mem_singleton] at hy
    omega
end Go.Proofs.YtkpmlcgbffdloaaDoor
