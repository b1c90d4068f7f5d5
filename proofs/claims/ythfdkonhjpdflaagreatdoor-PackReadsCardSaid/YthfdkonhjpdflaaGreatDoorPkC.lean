/-
  PKC: Pk13, Pk14, joined.
-/
import Derived.Test.YthfdkonhjpdflaaGreatDoorPkG
import Derived.Laws.Tables
import Derived.Deep.MidRow
section
namespace Go.Proofs.YthfdkonhjpdflaaGreatDoor
open Go.RowKit
set_option linter.unusedVariables false
set_option maxRecDepth 100000

def VT.ok (v : VT) : Bool := inP v.ballot 1 9007199254740991 && v.conf.ok
def vtsB : List VT → Bool
  | [] => true
  | v :: r => v.ok && vtsB r
theorem vtsB_step {l : List VT} {i : Nat} {a : VT} (h : l[i]? = some a) : vtsB (l.drop i) = (a.ok && vtsB (l.drop (i + 1))) := by
  obtain ⟨hl, ha⟩ := List.getElem?_eq_some_iff.1 h
  rw [List.drop_eq_getElem_cons hl, ha]
  rfl
def vtsOk (l : List VT) : Bool := decide (l.length ≤ 8) && vtsB l
set_option maxHeartbeats 8000000 in
theorem checkVotes_any (F : List Nat) (l : List VT) (v : Value) (w : World) (h : votesV w F v l) :
    Calls Tryz.prog 65 #[v] w fun e w' => e = .returned (.int .i64 (toldP (vtsOk l))) ∧ keepBut [] w w' := by
  obtain ⟨A, c, gA, TA, rfl, _, hc, _⟩ := id h
  obtain ⟨L, hL⟩ : ∃ L, l.length = L := ⟨_, rfl⟩
  have hmx : L ≤ 9223372036854775807 := by unfold maxLen at hc; omega
  have HS0 := Lib.hid (show vtsOk l = (decide (l.length ≤ 8) && vtsB (l.drop 0)) from rfl)
  generalize vtsOk l = ok at *
  have HA := Lib.hid h
  rw [hL] at HA HS0 ⊢
  clear h
  by_cases e1 : (L : Int) > 8
  · have e1d := decide_eq_true e1
    have hn : ¬ L ≤ 8 := by omega
    have HS := Lib.hid (show ok = false by rw [HS0.out]; simp [hn])
    clear HS0
    go_enter Tryz.func65, Tryz.ntmps65
    go_wp2_with fail
    go_ret
    exact ⟨by rw [HS.out]; rfl, keepBut.refl _ _⟩
  · have e1d := decide_eq_false e1
    have hn : L ≤ 8 := by omega
    have HS := Lib.hid (show ok = vtsB (l.drop 0) by rw [HS0.out]; simp [hn])
    clear HS0
    go_enter Tryz.func65, Tryz.ntmps65
    go_wp2_with fail
    go_loopw [4, 10] (fun _ v10 wx => ∃ i : Nat, i ≤ L ∧ v10 = .int .i64 (i : Int) ∧ vtsB (l.drop 0) = vtsB (l.drop i) ∧ keepBut [] w wx) (fun _ v10 _ => L - (intOf v10).toNat)
    case atStart => exact ⟨0, by omega, rfl, rfl, keepBut.refl _ _⟩
    case round =>
      obtain ⟨i, hi, rfl, ht, hk⟩ := hrel
      by_cases hlt : i < L
      · have hlt' : (i : Int) < (L : Int) := by omega
        obtain ⟨a, ha⟩ : ∃ a, l[i]? = some a := ⟨_, List.getElem?_eq_getElem (by omega)⟩
        obtain ⟨g, o, cv, rfl, hgl, _, hcv, x0, x1, x2, x3⟩ := (HA.out.keep hk (by simp)).at ha
        have hw1 : IntKind.i64.wrap ((i : Int) + 1) = (i : Int) + 1 := wraps_i64 _ (by omega) (by omega)
        have hs := ht.trans (vtsB_step ha)
        have HR := Lib.hid (And.intro hs (And.intro hk hcv))
        clear ht hk ha hcv hs
        obtain ⟨ab, an, af, al⟩ := a
        dsimp only at x0 x1 x2 x3
        obtain ⟨CA, cc, cg, rfl, _⟩ := id HR.out.2.2
        dsimp only at x3
        go_upto_region 6 with fail
        have r1 := rowAt.new wr 69 #[.int .i64 ab, .int .i64 an, .int .i64 af, .slice CA al.length cc]
        have k1 := (keepBut.refl [] wr).alloc (.cells #[.int .i64 ab, .int .i64 an, .int .i64 af, .slice CA al.length cc] 69)
        obtain ⟨w1, hw1e⟩ : ∃ w1, wr.alloc (.cells #[.int .i64 ab, .int .i64 an, .int .i64 af, .slice CA al.length cc] 69) = w1 := ⟨_, rfl⟩
        rw [hw1e] at r1 k1 ⊢
        clear hw1e
        have p0 : w1.cell? ⟨wr.heap.size, 0, none⟩ = some (.int .i64 ab) := r1.cell 0
        have p1 : w1.cell? ⟨wr.heap.size, 1, none⟩ = some (.int .i64 an) := r1.cell 1
        have p2 : w1.cell? ⟨wr.heap.size, 2, none⟩ = some (.int .i64 af) := r1.cell 2
        have p3 : w1.cell? ⟨wr.heap.size, 3, none⟩ = some (.slice CA al.length cc) := r1.cell 3
        have HC := Lib.hid (checkConf_any F ⟨an, af, al⟩ _ w1 (HR.out.2.2.keep k1 (by simp)))
        have HK := Lib.hid (HR.out.2.1.then k1 (by simp))
        clear x0 x1 x2 x3 k1 r1
        rcases Bool.eq_false_or_eq_true (inP ab 1 9007199254740991) with c0 | c0
        · rcases Bool.eq_false_or_eq_true (CF.ok ⟨an, af, al⟩) with c1 | c1
          · rw [c1] at HC
            have HS2 := Lib.hid (show vtsB (l.drop 0) = vtsB (l.drop (i + 1)) by rw [HR.out.1]; simp [VT.ok, c0, c1])
            go_wp2_with (first
              | (go_at_call 85; refine (isPositive_any _ _).mono ?_; rintro e w' ⟨rfl, rfl⟩; rw [c0])
              | (go_at_call 22; refine HC.out.mono ?_; rintro e w' ⟨rfl, k3⟩; have HK3 := Lib.hid (HK.out.then k3 (by simp)); clear k3 p0 p1 p2 p3))
            go_roundw
            case rel => exact ⟨i + 1, by omega, by go_num, HS2.out, HK3.out⟩
            case measure => simp [intOf]; omega
          · rw [c1] at HC
            have HS2 := Lib.hid (show ok = false by rw [HS.out, HR.out.1]; simp [VT.ok, c0, c1])
            go_wp2_with (first
              | (go_at_call 85; refine (isPositive_any _ _).mono ?_; rintro e w' ⟨rfl, rfl⟩; rw [c0])
              | (go_at_call 22; refine HC.out.mono ?_; rintro e w' ⟨rfl, k3⟩; have HK3 := Lib.hid (HK.out.then k3 (by simp)); clear k3 p0 p1 p2 p3))
            go_ret
            exact ⟨by rw [HS2.out]; rfl, HK3.out⟩
        · have HS2 := Lib.hid (show ok = false by rw [HS.out, HR.out.1]; simp [VT.ok, c0])
          go_wp2_with (first
            | (go_at_call 85; refine (isPositive_any _ _).mono ?_; rintro e w' ⟨rfl, rfl⟩; rw [c0]))
          go_ret
          exact ⟨by rw [HS2.out]; rfl, HK.out⟩
      · obtain rfl : i = L := by omega
        have HS2 := Lib.hid (show ok = true by rw [HS.out, ht, ← hL, List.drop_length]; rfl)
        have HK := Lib.hid hk
        clear ht hk
        go_wp2_with fail
        go_ret
        exact ⟨by rw [HS2.out]; rfl, HK.out⟩
end Go.Proofs.YthfdkonhjpdflaaGreatDoor
end

section
namespace Go.Proofs.YthfdkonhjpdflaaGreatDoor
open Go.RowKit
set_option linter.unusedVariables false
set_option maxRecDepth 100000

theorem fold_putL : ∀ (l : List Value) (k off : Nat) (cs : Array Value), (l.zipIdx k).foldl (fun cs (x : Value × Nat) => cs.setIfInBounds (off + x.2) x.1) cs = putL cs (off + k) l
  | [], _, _, _ => rfl
  | v :: r, k, off, cs => by
    rw [List.zipIdx_cons, List.foldl_cons, fold_putL r (k + 1) off, putL]
    rfl
theorem fill_cons (place : Nat → Option (Nat × Nat)) (cells : Array Value) (i : Nat) (v : Value) (rest : List (Nat × Value)) (off size : Nat) (hp : place i = some (off, size)) (hs : v.cells.size = size) (hl : off + size ≤ cells.size) :
    Instr.fill place cells ((i, v) :: rest) = Instr.fill place (putL cells off v.cells.toList) rest := by
  rw [Instr.fill, hp]
  have h1 : decide (v.cells.size ≠ size) = false := by simp [hs]
  have h2 : decide (off + v.cells.size > cells.size) = false := by simp [hs]; omega
  simp only [h1, h2]
  rw [if_neg (by simp)]
  congr 1
  rw [← Array.foldl_toList, Array.toList_zipIdx]
  exact fold_putL v.cells.toList 0 off cells
theorem putL_putL : ∀ (a b : List Value) (cs : Array Value) (o k : Nat), k = o + a.length → putL (putL cs o a) k b = putL cs o (a ++ b)
  | [], b, cs, o, k, h => by subst h; rfl
  | v :: r, b, cs, o, k, h => by
    rw [putL, putL_putL r b _ (o + 1) k (by rw [h, List.length_cons]; omega)]
    rfl
theorem cells_one {v : Value} (h : v.oneCell' = true) : v.cells = #[v] := by
  cases v <;> first | rfl | (simp [Value.oneCell'] at h)
def pkPlaces : List (Nat × Nat) := [(0, 1), (1, 1), (2, 1), (3, 1), (4, 1), (5, 1), (6, 1), (7, 37), (44, 38), (82, 3), (85, 1), (86, 1)]
theorem pk_places : (match Tryz.prog.underlying 34 with | some (.struct fields) => fields.toList.mapM (fun f => (Tryz.prog.info? f.type).map fun i => (f.offset, i.size)) | _ => none) = some pkPlaces := by kernel_rfl
theorem pk_zero : ((Tryz.prog.info? 34).bind (·.zero)).map (·.cells.size) = some 87 := by kernel_rfl
theorem info_pk : (Tryz.prog.info? 34).map (·.size) = some 87 := by kernel_rfl
theorem built_pk : ∃ z : Array Value, z.size = 87 ∧ ∀ parts, Tryz.prog.built 34 parts = Instr.fill (pkPlaces.toArray[·]?) z parts := by
  have h1 := pk_places
  have h2 := pk_zero
  cases hu : Tryz.prog.underlying 34 with
  | none => rw [hu] at h1; cases h1
  | some d =>
    rw [hu] at h1
    cases d with
    | struct fields =>
      cases hi : Tryz.prog.info? 34 with
      | none => rw [hi] at h2; cases h2
      | some it =>
        rw [hi] at h2
        cases hz : it.zero with
        | none => simp [hz] at h2
        | some z =>
          simp [hz] at h2
          refine ⟨z.cells, h2, fun parts => ?_⟩
          unfold Program.built
          simp only [hi, hu, hz, h1]
    | _ => cases h1
theorem build_pk (p : PK) (ev av cv vv bw : Value) (h1 : p.req.name.length = 32) (h2 : p.ans.name.length = 32) (hv : vv.oneCell' = true) (hb : bw.oneCell' = true) :
    Tryz.prog.built 34 [(0, .int .i64 p.kind), (1, .int .i64 p.frm), (2, .int .i64 p.dst), (3, .int .i64 p.num), (4, .int .i64 p.seq), (5, .int .i64 p.ballot), (6, .bool p.ready), (7, .agg (rqL p.req ev).toArray), (8, .agg (anL p.ans av).toArray), (9, .agg (cfL p.conf cv).toArray), (10, vv), (11, bw)] = some (pkL p ev av cv vv bw).toArray := by
  obtain ⟨z, hz, hf⟩ := built_pk
  have e1 : (rqL p.req ev).length = 37 := rqL_len h1
  have e2 : (anL p.ans av).length = 38 := anL_len h2
  have hsz : ∀ (o : Nat) (l : List Value) (c : Array Value), c.size = 87 → (putL c o l).size = 87 := fun o l c h => by rw [putL_size, h]
  rw [hf]
  rw [fill_cons _ _ 0 _ _ 0 1 rfl rfl (by rw [hz]; omega)]
  rw [fill_cons _ _ 1 _ _ 1 1 rfl rfl (by rw [hsz _ _ _ hz]; omega)]
  rw [fill_cons _ _ 2 _ _ 2 1 rfl rfl (by rw [hsz _ _ _ (hsz _ _ _ hz)]; omega)]
  rw [fill_cons _ _ 3 _ _ 3 1 rfl rfl (by simp only [putL_size, hz]; omega)]
  rw [fill_cons _ _ 4 _ _ 4 1 rfl rfl (by simp only [putL_size, hz]; omega)]
  rw [fill_cons _ _ 5 _ _ 5 1 rfl rfl (by simp only [putL_size, hz]; omega)]
  rw [fill_cons _ _ 6 _ _ 6 1 rfl rfl (by simp only [putL_size, hz]; omega)]
  rw [fill_cons _ _ 7 _ _ 7 37 rfl (by simp only [Value.cells, List.size_toArray, e1]) (by simp only [putL_size, hz]; omega)]
  rw [fill_cons _ _ 8 _ _ 44 38 rfl (by simp only [Value.cells, List.size_toArray, e2]) (by simp only [putL_size, hz]; omega)]
  rw [fill_cons _ _ 9 _ _ 82 3 rfl rfl (by simp only [putL_size, hz]; omega)]
  rw [fill_cons _ _ 10 _ _ 85 1 rfl (by rw [cells_one hv]; rfl) (by simp only [putL_size, hz]; omega)]
  rw [fill_cons _ _ 11 _ _ 86 1 rfl (by rw [cells_one hb]; rfl) (by simp only [putL_size, hz]; omega)]
  rw [Instr.fill]
  rw [cells_one hv, cells_one hb]
  have q : ∀ (a b c : List Value) (k : Nat), k = a.length → a ++ b = c → putL (putL z 0 a) k b = putL z 0 c := fun a b c k h hc => by rw [putL_putL a b z 0 k (by omega), hc]
  have hl : (pkL p ev av cv vv bw).length = z.size := by rw [pkL_len h1 h2, hz]
  rw [← putL_all hl]
  clear hl hf hsz
  obtain ⟨R, hR⟩ : ∃ R, rqL p.req ev = R := ⟨_, rfl⟩
  obtain ⟨N, hN⟩ : ∃ N, anL p.ans av = N := ⟨_, rfl⟩
  unfold pkL
  rw [hR] at e1 ⊢
  rw [hN] at e2 ⊢
  refine congrArg some ?_
  show putL (putL (putL (putL (putL (putL (putL (putL (putL (putL (putL (putL z 0 [_]) 1 [_]) 2 [_]) 3 [_]) 4 [_]) 5 [_]) 6 [_]) 7 R) 44 N) 82 (cfL p.conf cv)) 85 [vv]) 86 [bw] = _
  rw [q _ _ _ 1 rfl rfl, q _ _ _ 2 rfl rfl, q _ _ _ 3 rfl rfl, q _ _ _ 4 rfl rfl, q _ _ _ 5 rfl rfl, q _ _ _ 6 rfl rfl, q _ _ _ 7 rfl rfl]
  rw [putL_putL _ _ _ 0 44 (by simp [e1]), putL_putL _ _ _ 0 82 (by simp [e1, e2]), putL_putL _ _ _ 0 85 (by simp [e1, e2, cfL]), putL_putL _ _ _ 0 86 (by simp [e1, e2, cfL])]
  refine congrArg (putL z 0) ?_
  simp only [List.append_assoc, List.cons_append, List.nil_append]
section
variable {P : Program} {ops : Array Oper} {S : World → Prop} {o : Oper} {a : Act}
theorem yieldsIf_build (t : TypeId) (parts : Array (Nat × Operand)) (ho : o.op = .build t parts) (hw : Region.wanted o (yielded ops a.tmps) = true) (cells : Array Value) (h : P.built t (parts.map fun (i, x) => (i, a.eval x)).toList = some cells) : YieldsIf P ops S o (.agg cells) a :=
  Or.inl ⟨hw, fun w _ => by unfold execOp; simp only [ho, Sem.run_bind, run_build w t _ cells h, Result.andThen_ok]; rfl⟩
theorem yieldsIf_mid (ty : TypeId) (x : Operand) (ho : o.op = .load ty x) (b k : Nat) (hx : a.eval x = .pointer (some ⟨b, k, none⟩)) (cs : List Value) (d : TypeDesc) (hc : ∀ w, S w → w.rangeAt b k cs)
    (hu : P.underlying ty = some d) (hd : d.isRow = true) (hi : (P.info? ty).map (·.size) = some cs.length) (hw : Region.wanted o (yielded ops a.tmps) = true) : YieldsIf P ops S o (.agg cs.toArray) a :=
  Or.inl ⟨hw, fun w hS => by unfold execOp; simp only [ho, hx, Instr.loadAt, Instr.sureAddr, Sem.run_bind, Sem.run_pure, Result.andThen_ok, run_loadVar_mid w b k ty cs d (hc w hS) hu hd hi]⟩
end
def oI (bit x : Int) : Int := if bit = 0 then 0 else x
def oB (bit : Int) (x : Bool) : Bool := if bit = 0 then false else x
def oV {α : Type} (bit : Int) (z x : α) : α := if bit = 0 then z else x
def nilV : Value := .slice none 0 0
theorem onlyI (bit : Int) (x : Int) (w : World) : Calls Tryz.prog 127 #[.int .i64 bit, .int .i64 x] w fun e w' => e = .returned (.int .i64 (oI bit x)) ∧ w = w' :=
  (onlyInt_any bit x w).mono fun e w' ⟨h, h'⟩ => ⟨by rw [h]; unfold oI; split <;> rfl, h'⟩
theorem onlyB (bit : Int) (x : Bool) (w : World) : Calls Tryz.prog 128 #[.int .i64 bit, .bool x] w fun e w' => e = .returned (.bool (oB bit x)) ∧ w = w' :=
  (onlyBool_any bit x w).mono fun e w' ⟨h, h'⟩ => ⟨by rw [h]; unfold oB; split <;> rfl, h'⟩
theorem onlyVs (bit : Int) (A : Option Addr) (n c : Nat) (w : World) : Calls Tryz.prog 132 #[.int .i64 bit, .slice A n c] w fun e w' => e = .returned (oV bit nilV (.slice A n c)) ∧ w = w' :=
  (onlyVotes_any bit A n c w).mono fun e w' ⟨h, h'⟩ => ⟨by rw [h]; unfold oV nilV; split <;> rfl, h'⟩
theorem onlyBs (bit : Int) (A : Option Addr) (n c : Nat) (w : World) : Calls Tryz.prog 133 #[.int .i64 bit, .slice A n c] w fun e w' => e = .returned (oV bit nilV (.slice A n c)) ∧ w = w' :=
  (onlyBytes_any bit A n c w).mono fun e w' ⟨h, h'⟩ => ⟨by rw [h]; unfold oV nilV; split <;> rfl, h'⟩
theorem onlyR (bit : Int) (r : RQ) (ev : Value) (w : World) (hn : r.name.length = 32) (he : ev.oneCell' = true) : Calls Tryz.prog 129 #[.int .i64 bit, .agg (rqL r ev).toArray] w fun e w' => e = .returned (.agg (rqL (oV bit rqZero r) (oV bit nilV ev)).toArray) ∧ keepBut [] w w' :=
  (onlyReq_any bit r ev w hn he).mono fun e w' ⟨h, h'⟩ => ⟨by rw [h]; unfold oV nilV; split <;> rfl, h'⟩
theorem onlyA (bit : Int) (r : AN) (ev : Value) (w : World) (hn : r.name.length = 32) (he : ev.oneCell' = true) : Calls Tryz.prog 130 #[.int .i64 bit, .agg (anL r ev).toArray] w fun e w' => e = .returned (.agg (anL (oV bit anZero r) (oV bit nilV ev)).toArray) ∧ keepBut [] w w' :=
  (onlyAns_any bit r ev w hn he).mono fun e w' ⟨h, h'⟩ => ⟨by rw [h]; unfold oV nilV; split <;> rfl, h'⟩
theorem onlyC (bit : Int) (c : CF) (A : Option Addr) (n k : Nat) (w : World) : Calls Tryz.prog 131 #[.int .i64 bit, .agg (cfL c (.slice A n k)).toArray] w fun e w' => e = .returned (.agg (cfL (oV bit cfZero c) (oV bit nilV (.slice A n k))).toArray) ∧ keepBut [] w w' :=
  (onlyConf_any bit c A n k w).mono fun e w' ⟨h, h'⟩ => ⟨by rw [h]; unfold oV nilV; split <;> rfl, h'⟩
/-- what a packet would be with these fields alone -/
def bitA (n m : Int) : Int := bits .and .i64 n m
def PK.cut (p : PK) (n : Int) : PK :=
  ⟨p.kind, p.frm, p.dst, oI (bitA n 1) p.num, oI (bitA n 2) p.seq, oI (bitA n 4) p.ballot, oB (bitA n 8) p.ready, oV (bitA n 16) rqZero p.req, oV (bitA n 32) anZero p.ans, oV (bitA n 64) cfZero p.conf, oV (bitA n 128) [] p.votes, oV (bitA n 256) [] p.bytes⟩
theorem oV_bytes {w : World} {F : List Nat} {v : Value} {l : List UInt8} (b : Int) (h : bytesV w F v l) : bytesV w F (oV b nilV v) (oV b [] l) := by
  unfold oV; split
  · exact bytesV.nil w F
  · exact h
theorem pkV.cut {w : World} {F : List Nat} {p : PK} {ev av cv vv bw : Value} (h : pkV w F p ev av cv vv bw) (n : Int) :
    pkV w F (p.cut n) (oV (bitA n 16) nilV ev) (oV (bitA n 32) nilV av) (oV (bitA n 64) nilV cv) (oV (bitA n 128) nilV vv) (oV (bitA n 256) nilV bw) := by
  have hz : rqZero.name.length = 32 := by rw [show rqZero.name = List.replicate 32 0 from rfl, List.length_replicate]
  have hy : anZero.name.length = 32 := by rw [show anZero.name = List.replicate 32 0 from rfl, List.length_replicate]
  refine ⟨?_, ?_, ?_, ?_, ?_, ?_, oV_bytes _ h.bs⟩
  · show (oV (bitA n 16) rqZero p.req).name.length = 32
    unfold oV; split
    · exact hz
    · exact h.rn
  · show (oV (bitA n 32) anZero p.ans).name.length = 32
    unfold oV; split
    · exact hy
    · exact h.an
  · show bytesV w F _ (oV (bitA n 16) rqZero p.req).env
    unfold oV; split
    · exact bytesV.nil w F
    · exact h.re
  · show bytesV w F _ (oV (bitA n 32) anZero p.ans).env
    unfold oV; split
    · exact bytesV.nil w F
    · exact h.ae
  · show intsV w F _ (oV (bitA n 64) cfZero p.conf).chain
    unfold oV; split
    · exact intsV.nil w F
    · exact h.cc
  · show votesV w F _ (oV (bitA n 128) [] p.votes)
    unfold oV; split
    · exact votesV.nil w F
    · exact h.vs
end Go.Proofs.YthfdkonhjpdflaaGreatDoor
end
