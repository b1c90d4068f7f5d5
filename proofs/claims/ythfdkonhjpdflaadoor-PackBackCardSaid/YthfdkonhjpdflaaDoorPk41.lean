/-
  PACK, 41: the law's helper made.
-/
import Derived.Test.YthfdkonhjpdflaaDoorPkReq
import Derived.BigQuiet
namespace Go.Proofs.YthfdkonhjpdflaaDoor
open Go.RowKit
set_option linter.unusedVariables false
set_option maxRecDepth 100000
set_option linter.unusedSimpArgs false

set_option maxHeartbeats 1000000 in
theorem cpB_any (F : List Nat) (v : Value) (l : List UInt8) (w : World) (h : bytesV w F v l) (hb : l.length ≤ 1000000) :
    Calls Tryd.prog 21 #[v] w fun e w' => ∃ u G, e = .returned u ∧ bytesV w' G u l ∧ newIn w w' G ∧ keepBut [] w w' := by
  obtain ⟨A, c, g, rfl, h2, h3, h4, h5⟩ := h
  obtain ⟨i0, hi0, hz0, hz1, hz2⟩ := info_parts infoU8c
  have H := Lib.hid (And.intro (seen.reads h4) (owns.nil w 5 1))
  clear h4 h5 h3
  go_enter Tryd.func21, Tryd.ntmps21
  go_wp2_with (at_builtin; refine wp_append _ rfl _ _ 23 rfl 5 i0 (.int .u8 0) 1 1 Tryd.underlying23 hi0 hz0 hz1 hz2 rfl (by decide) (.slice none 0 0) 0 [] rfl H.out.2 A g l.length c _ (by simp [Act.eval]) H.out.1 (by intro u hu; simp at hu; obtain ⟨b, _, rfl⟩ := hu; rfl) (by omega) (by unfold maxLen; omega) ?_; intro A2 c2 w2 hown2 hkb2 hloc2)
  go_ret
  simp only [Nat.zero_add, List.nil_append] at hown2 hloc2 ⊢
  obtain ⟨A3, c3, e3, h31, h32, h33, h34⟩ := hown2.form
  injection e3 with e3a e3b e3c
  subst e3a e3c
  obtain ⟨g3, hg3⟩ := homes_one (.slice A2 l.length c2)
  refine ⟨_, homes (.slice A2 l.length c2), rfl, ⟨A2, c2, g3, rfl, h31, h32, reads.seenB (h34 g3 hg3), fun hne => ?_⟩, fun y hy => ⟨?_, h33 y hy⟩, hkb2.more (by simp [homes_none])⟩
  · obtain ⟨o, hA, _⟩ := (h34 g3 hg3).2 (List.length_pos_iff.2 hne)
    rw [hA]; simp [homes_some]
  · rcases hloc2 y hy with h | h
    · simp [homes_none] at h
    · exact h
/-- a packet that is being made in block tb -/
structure mdA (w0 w : World) (tb : Nat) (Y Z : List Value) (p : PK) (ev av cv vv bw : Value) (F : List Nat) : Prop where
  sr : rowAt w w0.heap.size 25 Y.toArray
  zr : rowAt w (w0.heap.size + 1) 38 Z.toArray
  row : rowAt w tb 38 (pkL p ev av cv vv bw).toArray
  val : pkV w F p ev av cv vv bw
  new : ∀ y ∈ F, tb < y ∧ y < w.heap.size
  kp : keepBut [] w0 w
  gt : w0.heap.size + 1 < tb
section
variable {w0 w u : World} {tb : Nat} {Y Z : List Value} {p q : PK} {ev av cv vv bw ev' av' cv' vv' bw' : Value} {F F' : List Nat}
theorem mdA.over (h : mdA w0 w tb Y Z p ev av cv vv bw F) (hk : keepBut [] w u) : mdA w0 u tb Y Z p ev av cv vv bw F :=
  ⟨hk.row h.sr (by simp), hk.row h.zr (by simp), hk.row h.row (by simp), h.val.keep hk (by simp), fun y hy => ⟨(h.new y hy).1, Nat.lt_of_lt_of_le (h.new y hy).2 hk.size⟩, h.kp.then hk (by simp), h.gt⟩
theorem mdA.put (h : mdA w0 w tb Y Z p ev av cv vv bw F) (hk : keepBut [tb] w u) (hrow : rowAt u tb 38 (pkL q ev' av' cv' vv' bw').toArray) (hv : pkV w F' q ev' av' cv' vv' bw') (hn : ∀ y ∈ F', tb < y ∧ y < w.heap.size) : mdA w0 u tb Y Z q ev' av' cv' vv' bw' F' :=
  ⟨hk.row h.sr (by have := h.gt; simp; omega), hk.row h.zr (by have := h.gt; simp; omega), hrow, hv.keep hk (fun y hy => by have := (hn y hy).1; simp; omega), fun y hy => ⟨(hn y hy).1, Nat.lt_of_lt_of_le (hn y hy).2 hk.size⟩, h.kp.then hk (fun x hx => .inr (by have := h.gt; simp at hx; omega)), h.gt⟩
theorem mdA.set (h : mdA w0 w tb Y Z p ev av cv vv bw F) (k : Nat) (x : Value) (he : (pkL p ev av cv vv bw).toArray.setIfInBounds k x = (pkL q ev' av' cv' vv' bw').toArray) (hv : pkV w F' q ev' av' cv' vv' bw') (hn : ∀ y ∈ F', tb < y ∧ y < w.heap.size) : mdA w0 (w.setCell ⟨tb, k, none⟩ x) tb Y Z q ev' av' cv' vv' bw' F' :=
  h.put (kset w tb k x) (by rw [← he]; exact h.row.set k x) hv hn
theorem mdA.setL (h : mdA w0 w tb Y Z p ev av cv vv bw F) (k : Nat) (xs : List Value) (he : putL (pkL p ev av cv vv bw).toArray k xs = (pkL q ev' av' cv' vv' bw').toArray) (hv : pkV w F' q ev' av' cv' vv' bw') (hn : ∀ y ∈ F', tb < y ∧ y < w.heap.size) : mdA w0 (w.setCells tb k xs) tb Y Z q ev' av' cv' vv' bw' F' :=
  h.put ((keepBut.refl [tb] w).setL (.inl (by simp))) (by rw [← he]; exact h.row.setL) hv hn
theorem mdA.num (h : mdA w0 w tb Y Z p ev av cv vv bw F) (x : Int) : mdA w0 (w.setCell ⟨tb, 3, none⟩ (.int .i64 x)) tb Y Z { p with num := x } ev av cv vv bw F :=
  h.set 3 _ (pkL_num x) ⟨h.val.rn, h.val.an, h.val.re, h.val.ae, h.val.cc, h.val.vs, h.val.bs⟩ h.new
theorem mdA.seq (h : mdA w0 w tb Y Z p ev av cv vv bw F) (x : Int) : mdA w0 (w.setCell ⟨tb, 4, none⟩ (.int .i64 x)) tb Y Z { p with seq := x } ev av cv vv bw F :=
  h.set 4 _ (pkL_seq x) ⟨h.val.rn, h.val.an, h.val.re, h.val.ae, h.val.cc, h.val.vs, h.val.bs⟩ h.new
theorem mdA.bal (h : mdA w0 w tb Y Z p ev av cv vv bw F) (x : Int) : mdA w0 (w.setCell ⟨tb, 5, none⟩ (.int .i64 x)) tb Y Z { p with ballot := x } ev av cv vv bw F :=
  h.set 5 _ (pkL_bal x) ⟨h.val.rn, h.val.an, h.val.re, h.val.ae, h.val.cc, h.val.vs, h.val.bs⟩ h.new
theorem mdA.rdy (h : mdA w0 w tb Y Z p ev av cv vv bw F) (x : Bool) : mdA w0 (w.setCell ⟨tb, 6, none⟩ (.bool x)) tb Y Z { p with ready := x } ev av cv vv bw F :=
  h.set 6 _ (pkL_rdy x) ⟨h.val.rn, h.val.an, h.val.re, h.val.ae, h.val.cc, h.val.vs, h.val.bs⟩ h.new
end
theorem nodes_at {x : Int} {a : Nat} (h : x % 10 = (a : Int)) (h10 : a < 10) : (nodesI.map (Value.int .i64)).toArray[a]? = some (.int .i64 (ndOf x)) := by
  unfold ndOf
  rw [h, show ((a : Int)).toNat = a from Int.toNat_natCast a, List.getElem?_toArray, List.getElem?_map, List.getD_eq_getElem?_getD, List.getElem?_eq_getElem (by exact h10)]
  rfl
theorem madeP1 (s : SD) (h : 1 + s.kind % 14 = 1) : madeP s = { baseP s with req := rqOf s } := by
  unfold madeP
  rw [show (s.kind % 14).toNat = 0 by omega]
  rfl
theorem madeP2 (s : SD) (h : 1 + s.kind % 14 = 2) : madeP s = { baseP s with ans := anOf s } := by
  unfold madeP
  rw [show (s.kind % 14).toNat = 1 by omega]
  rfl
theorem madeP3 (s : SD) (h : 1 + s.kind % 14 = 3) : madeP s = { { { baseP s with num := s.n0 % 1125899906842624 } with seq := s.n1 % 1125899906842624 } with req := rqOf s } := by
  unfold madeP
  rw [show (s.kind % 14).toNat = 2 by omega]
  rfl
theorem madeP4 (s : SD) (h : 1 + s.kind % 14 = 4) : madeP s = { { baseP s with num := s.n0 % 1125899906842624 } with seq := s.n1 % 1125899906842624 } := by
  unfold madeP
  rw [show (s.kind % 14).toNat = 3 by omega]
  rfl
theorem madeP5 (s : SD) (h : 1 + s.kind % 14 = 5) : madeP s = { { baseP s with num := s.n0 % 1125899906842624 } with seq := s.n1 % 1125899906842624 - 1 } := by
  unfold madeP
  rw [show (s.kind % 14).toNat = 4 by omega]
  rfl
theorem madeP6 (s : SD) (h : 1 + s.kind % 14 = 6) : madeP s = { { { baseP s with num := s.n0 % 1125899906842624 } with seq := s.n1 % 1125899906842624 } with bytes := s.b.take 3000 } := by
  unfold madeP
  rw [show (s.kind % 14).toNat = 5 by omega]
  rfl
theorem madeP7 (s : SD) (h : 1 + s.kind % 14 = 7) : madeP s = { baseP s with conf := cfOf s.n0 s.n1 } := by
  unfold madeP
  rw [show (s.kind % 14).toNat = 6 by omega]
  rfl
theorem madeP8 (s : SD) (h : 1 + s.kind % 14 = 8) : madeP s = { { baseP s with num := s.n0 % 1125899906842624 } with ready := decide (s.n1 % 1125899906842624 % 2 = 0) } := by
  unfold madeP
  rw [show (s.kind % 14).toNat = 7 by omega]
  rfl
theorem madeP9 (s : SD) (h : 1 + s.kind % 14 = 9) : madeP s = baseP s := by
  unfold madeP
  rw [show (s.kind % 14).toNat = 8 by omega]
  rfl
theorem madeP10 (s : SD) (h : 1 + s.kind % 14 = 10) : madeP s = { { baseP s with ballot := s.n4 % 1125899906842624 } with seq := s.n1 % 1125899906842624 } := by
  unfold madeP
  rw [show (s.kind % 14).toNat = 9 by omega]
  rfl
theorem madeP11 (s : SD) (h : 1 + s.kind % 14 = 11) : madeP s = { { { baseP s with ballot := s.n4 % 1125899906842624 } with seq := s.n1 % 1125899906842624 } with votes := vtsOf s (s.n2 % 9).toNat } := by
  unfold madeP
  rw [show (s.kind % 14).toNat = 10 by omega]
  rfl
theorem madeP12 (s : SD) (h : 1 + s.kind % 14 = 12) : madeP s = { { { baseP s with ballot := s.n4 % 1125899906842624 } with seq := s.n1 % 1125899906842624 } with conf := cfOf s.n0 s.n1 } := by
  unfold madeP
  rw [show (s.kind % 14).toNat = 11 by omega]
  rfl
theorem madeP13 (s : SD) (h : 1 + s.kind % 14 = 13) : madeP s = { { baseP s with ballot := s.n4 % 1125899906842624 } with seq := s.n1 % 1125899906842624 } := by
  unfold madeP
  rw [show (s.kind % 14).toNat = 12 by omega]
  rfl
theorem madeP14 (s : SD) (h : 1 + s.kind % 14 = 14) : madeP s = { baseP s with ballot := s.n4 % 1125899906842624 } := by
  unfold madeP
  rw [show (s.kind % 14).toNat = 13 by omega]
  rfl
def anPlaces : List (Nat × Nat) := [(0, 1), (1, 1), (2, 1), (3, 1), (4, 1), (5, 32), (37, 1)]
theorem an_places : (match Tryd.prog.underlying 32 with | some (.struct fields) => fields.toList.mapM (fun f => (Tryd.prog.info? f.type).map fun i => (f.offset, i.size)) | _ => none) = some anPlaces := by kernel_rfl
theorem an_zero : ((Tryd.prog.info? 32).bind (·.zero)).map (·.cells.size) = some 38 := by kernel_rfl
theorem built_an : ∃ z : Array Value, z.size = 38 ∧ ∀ parts, Tryd.prog.built 32 parts = Instr.fill (anPlaces.toArray[·]?) z parts := by
  have h1 := an_places
  have h2 := an_zero
  cases hu : Tryd.prog.underlying 32 with
  | none => rw [hu] at h1; cases h1
  | some d =>
    rw [hu] at h1
    cases d with
    | struct fields =>
      cases hi : Tryd.prog.info? 32 with
      | none => rw [hi] at h2; cases h2
      | some it =>
        rw [hi] at h2
        cases hz : it.zero with
        | none => simp [hz] at h2
        | some z =>
          simp [hz] at h2
          refine ⟨z.cells, h2, fun parts => ?_⟩
          unfold Program.built
          simp only [hi, hu, hz, h1]
    | _ => cases h1
theorem build_an (p : AN) (ev : Value) (h1 : p.name.length = 32) (hv : ev.oneCell' = true) :
    Tryd.prog.built 32 [(0, .int .i64 p.client), (1, .int .i64 p.num), (2, .int .i64 p.code), (3, .int .i64 p.version), (4, .int .i64 p.epoch), (5, .agg (nameL p.name).toArray), (6, ev)] = some (anL p ev).toArray := by
  obtain ⟨z, hz, hf⟩ := built_an
  have e1 : (nameL p.name).length = 32 := by rw [nameL_len]; exact h1
  rw [hf]
  rw [fill_cons _ _ 0 _ _ 0 1 rfl rfl (by rw [hz]; omega)]
  rw [fill_cons _ _ 1 _ _ 1 1 rfl rfl (by simp only [putL_size, hz]; omega)]
  rw [fill_cons _ _ 2 _ _ 2 1 rfl rfl (by simp only [putL_size, hz]; omega)]
  rw [fill_cons _ _ 3 _ _ 3 1 rfl rfl (by simp only [putL_size, hz]; omega)]
  rw [fill_cons _ _ 4 _ _ 4 1 rfl rfl (by simp only [putL_size, hz]; omega)]
  rw [fill_cons _ _ 5 _ _ 5 32 rfl (by simp only [Value.cells, List.size_toArray, e1]) (by simp only [putL_size, hz]; omega)]
  rw [fill_cons _ _ 6 _ _ 37 1 rfl (by rw [cells_one hv]; rfl) (by simp only [putL_size, hz]; omega)]
  rw [Instr.fill]
  rw [cells_one hv]
  have q : ∀ (a b c : List Value) (k : Nat), k = a.length → a ++ b = c → putL (putL z 0 a) k b = putL z 0 c := fun a b c k h hc => by rw [putL_putL a b z 0 k (by omega), hc]
  have hl : (anL p ev).length = z.size := by rw [anL_len h1, hz]
  rw [← putL_all hl]
  obtain ⟨R, hR⟩ : ∃ R, nameL p.name = R := ⟨_, rfl⟩
  unfold anL
  rw [hR] at e1 ⊢
  refine congrArg some ?_
  show putL (putL (putL (putL (putL (putL (putL z 0 [_]) 1 [_]) 2 [_]) 3 [_]) 4 [_]) 5 R) 37 [ev] = _
  rw [q _ _ _ 1 rfl rfl, q _ _ _ 2 rfl rfl, q _ _ _ 3 rfl rfl, q _ _ _ 4 rfl rfl, q _ _ _ 5 rfl rfl]
  rw [putL_putL _ _ _ 0 37 (by simp [e1])]
  refine congrArg (putL z 0) ?_
  simp only [List.append_assoc, List.cons_append, List.nil_append]
theorem info_sd : (Tryd.prog.info? 25).map (·.size) = some 9 := by kernel_rfl
/-- the votes that are being made -/
structure mvS (w0 w : World) (tb : Nat) (Y Z : List Value) (p : PK) (s : SD) (i : Nat) (A : Option Addr) (c : Nat) (T : List (VT × Value)) (G : List Nat) : Prop where
  sr : rowAt w w0.heap.size 25 Y.toArray
  zr : rowAt w (w0.heap.size + 1) 38 Z.toArray
  row : rowAt w tb 38 (pkL p nilV nilV nilV (.slice A i c) nilV).toArray
  mp : T.map (·.1) = vtsOf s i
  own : owns w 69 4 (.slice A i c) i (flatVT T)
  hh : ∀ y ∈ homes (.slice A i c), tb < y
  iv : ∀ t ∈ T, intsV w G t.2 t.1.conf.chain
  gn : ∀ y ∈ G, tb < y ∧ y < w.heap.size
  gh : ∀ y ∈ G, y ∉ homes (.slice A i c)
  kp : keepBut [] w0 w
  gt : w0.heap.size + 1 < tb
theorem mvS.step {w0 w W w6 : World} {tb : Nat} {Y Z : List Value} {p : PK} {s : SD} {i : Nat} {A A6 : Option Addr} {c c6 : Nat} {T : List (VT × Value)} {G G2 : List Nat} {ev : Value} (h : mvS w0 w tb Y Z p s i A c T G) (hr : p.req.name.length = 32) (ha : p.ans.name.length = 32)
    (k : keepBut [] w W) (iv2 : intsV W G2 ev (vtOf s i).conf.chain) (n2 : newIn w W G2) (k6 : keepBut (homes (.slice A i c)) W w6) (own6 : owns w6 69 4 (.slice A6 (i + 1) c6) (i + 1) (flatVT T ++ vtL (vtOf s i) ev)) (loc6 : ∀ x ∈ homes (.slice A6 (i + 1) c6), x ∈ homes (.slice A i c) ∨ W.heap.size ≤ x) :
    mvS w0 (w6.setCell ⟨tb, 85, none⟩ (.slice A6 (i + 1) c6)) tb Y Z p s (i + 1) A6 c6 (T ++ [(vtOf s i, ev)]) (G ++ G2) := by
  have hg := h.gt
  have hh := h.hh
  have htb := h.row.lt
  have hlt := h.own.lt
  have ks := kset w6 tb 85 (.slice A6 (i + 1) c6)
  have kk : keepBut (homes (.slice A i c)) w w6 := (k.more (by simp)).then k6 (fun x hx => .inl hx)
  have hh6 : ∀ y ∈ homes (.slice A6 (i + 1) c6), tb < y := fun y hy => by
    rcases loc6 y hy with h1 | h1
    · exact hh y h1
    · have := k.size; omega
  have hG2 : ∀ y ∈ G2, tb < y := fun y hy => by have := (n2 y hy).1; omega
  have r1 := kk.row h.row (fun hm => Nat.lt_irrefl _ (hh tb hm))
  refine ⟨ks.row (kk.row h.sr (fun hm => by have := hh _ hm; omega)) (by simp; omega), ks.row (kk.row h.zr (fun hm => by have := hh _ hm; omega)) (by simp; omega), ?_, ?_, ?_, hh6, ?_, ?_, ?_, ?_, h.gt⟩
  · have := r1.set 85 (.slice A6 (i + 1) c6)
    rw [pkL_votes hr ha p.votes] at this
    exact this
  · rw [List.map_append, h.mp]
    simp [vtsOf, List.range_succ]
  · rw [flatVT_snoc]
    exact own6.keep ks (fun y hy => by have := hh6 y hy; simp; omega)
  · intro t ht
    rcases List.mem_append.1 ht with h1 | h1
    · exact (((h.iv t h1).keep kk (fun y hy => h.gh y hy)).keep ks (fun y hy => by have := (h.gn y hy).1; simp; omega)).more (fun y hy => List.mem_append.2 (.inl hy))
    · simp at h1
      subst h1
      exact ((iv2.keep k6 (fun y hy hm => by have h2 := (n2 y hy).1; have h3 := hlt y hm; omega)).keep ks (fun y hy => by have := hG2 y hy; simp; omega)).more (fun y hy => List.mem_append.2 (.inr hy))
  · intro y hy
    have h1 := kk.size
    have h2 := ks.size
    have h3 := k6.size
    rcases List.mem_append.1 hy with hy | hy
    · have := h.gn y hy; omega
    · have := hG2 y hy; have := (n2 y hy).2; omega
  · intro y hy hm
    have h1 := loc6 y hm
    rcases List.mem_append.1 hy with hy | hy
    · rcases h1 with h1 | h1
      · exact h.gh y hy h1
      · have := (h.gn y hy).2; have := k.size; omega
    · rcases h1 with h1 | h1
      · have := (n2 y hy).1; have := hlt y h1; omega
      · have := (n2 y hy).2; omega
  · exact (h.kp.then kk (fun x hx => .inr (by have := hh x hx; have := h.kp.size; omega))).setCell _ _ (.inr (by simp; omega))
theorem mvS.done {w0 w : World} {tb : Nat} {Y Z : List Value} {p : PK} {s : SD} {i : Nat} {A : Option Addr} {c : Nat} {T : List (VT × Value)} {G : List Nat} (h : mvS w0 w tb Y Z p s i A c T G) (hr : p.req.name.length = 32) (ha : p.ans.name.length = 32) (hre : p.req.env = []) (hae : p.ans.env = []) (hc : p.conf.chain = []) (hb : p.bytes = []) : ∃ F, mdA w0 w tb Y Z { p with votes := vtsOf s i } nilV nilV nilV (.slice A i c) nilV F := by
  obtain ⟨A3, c3, e3, h31, h32, h33, h34⟩ := h.own.form
  injection e3 with e3a e3b e3c
  subst e3a e3c
  obtain ⟨g3, hg3⟩ := homes_one (.slice A i c)
  have hl : (vtsOf s i).length = i := by simp [vtsOf]
  have hrd := h34 g3 hg3
  refine ⟨G ++ homes (.slice A i c), h.sr, h.zr, h.row, ⟨hr, ha, by show bytesV _ _ _ p.req.env; rw [hre]; exact bytesV.nil _ _, by show bytesV _ _ _ p.ans.env; rw [hae]; exact bytesV.nil _ _, by show intsV _ _ _ p.conf.chain; rw [hc]; exact intsV.nil _ _, ⟨A, c, g3, T, by show _ = Value.slice A (vtsOf s i).length c; rw [hl], by show (vtsOf s i).length ≤ c; rw [hl]; exact h31, h32, h.mp, by show reads w A g3 (vtsOf s i).length 4 _; rw [hl]; exact hrd, fun t ht => (h.iv t ht).more (fun y hy => List.mem_append.2 (.inl hy)), fun hne => ?_⟩, by show bytesV _ _ _ p.bytes; rw [hb]; exact bytesV.nil _ _⟩, fun y hy => ?_, h.kp, h.gt⟩
  · have hi : 0 < i := by
      have h0 : vtsOf s i ≠ [] := hne
      have := List.length_pos_iff.2 h0
      rwa [hl] at this
    obtain ⟨o, hA, _⟩ := hrd.2 hi
    rw [hA]; simp [homes_some]
  · rcases List.mem_append.1 hy with hy | hy
    · exact h.gn y hy
    · exact ⟨h.hh y hy, h33 y hy⟩
theorem i64P_wrap (x : Int) : i64P (IntKind.i64.wrap x) := by
  unfold i64P
  rw [IntKind.wrap_i64]
  omega
def MADE (s : SD) (w : World) (e : Ending) (w' : World) : Prop := ∃ ev av cv vv bw G, e = .returned (.agg (pkL (madeP s) ev av cv vv bw).toArray) ∧ pkV w' G (madeP s) ev av cv vv bw ∧ newIn w w' G ∧ keepBut [] w w'
end Go.Proofs.YthfdkonhjpdflaaDoor
