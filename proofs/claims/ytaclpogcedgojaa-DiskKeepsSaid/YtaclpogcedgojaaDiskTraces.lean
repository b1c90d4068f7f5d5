/-
  DiskTraces: the trace is what was ever written, or swapped in, whatever became of it, and only grows.
-/
import Derived.Test.YtaclpogcedgojaaDiskTrace
import Derived.Test.YtaclpogcedgojaaDos
import Derived.LoopTactic
import Derived.Deep.CutBlock
import Derived.Deep.DeepCutAuto
import Derived.Deep.QuietTactic
import Derived.BigQuiet
namespace Go.Proofs.Ytaclpogcedgojaa
open Go.RowKit
set_option linter.unusedVariables false

theorem bd_int {a : Int} (h : (Lit.int .i64 a).wf = true) : -9223372036854775808 ≤ a ∧ a ≤ 9223372036854775807 := by
  simpa [Lit.wf, IntKind.min, IntKind.max, IntKind.signed, IntKind.bits] using h

/-- a list of pieces of bytes, of the call's own; what they show lies in G -/
def wants (w : World) (v : Value) (ls : List (List UInt8)) (G : List Nat) : Prop :=
  ∃ vs : List Value, owns w 28 1 v ls.length vs ∧ ∀ (j : Nat) (l : List UInt8), ls[j]? = some l → ∃ A c g, vs[j]? = some (Value.slice A l.length c) ∧ seen w A g l ∧ (l ≠ [] → g ∈ G)
theorem wants.keep {S : List Nat} {w w' : World} {v : Value} {ls : List (List UInt8)} {G : List Nat} (h : wants w v ls G) (hk : keepBut S w w') (hv : ∀ y ∈ homes v, y ∉ S) (hG : ∀ y ∈ G, y ∉ S) : wants w' v ls G := by
  obtain ⟨vs, h1, h2⟩ := h
  refine ⟨vs, h1.keep hk hv, fun j l hj => ?_⟩
  obtain ⟨A, c, g, a, b, c'⟩ := h2 j l hj
  exact ⟨A, c, g, a, b.keep hk (fun hne => hG g (c' hne)), c'⟩

theorem write_t (d : DS) (b : List UInt8) : ((d.write b).1 = 0 ∧ (d.write b).2.t = d.t ++ [b]) ∨ ((d.write b).1 ≠ 0 ∧ (d.write b).2.t = d.t) := by
  unfold DS.write
  split
  · exact .inr ⟨by simp, rfl⟩
  · split
    · exact .inr ⟨by simp, rfl⟩
    · exact .inl ⟨rfl, rfl⟩
theorem swap_t (d : DS) (b : List UInt8) : ((d.swap b).1 = 0 ∧ (d.swap b).2.t = d.t ++ [b]) ∨ ((d.swap b).1 ≠ 0 ∧ (d.swap b).2.t = d.t) := by
  unfold DS.swap
  split
  · exact .inr ⟨by simp, rfl⟩
  · split
    · exact .inr ⟨by simp, rfl⟩
    · cases d.arm with
      | none => exact .inl ⟨rfl, rfl⟩
      | some k => exact .inr ⟨by simp, rfl⟩
theorem sync_t (d : DS) : d.sync.2.t = d.t := by
  unfold DS.sync
  split
  · rfl
  · cases d.arm <;> rfl
theorem armed_t (d : DS) (k : Int) : (d.armed k).2.t = d.t := by
  unfold DS.armed
  split
  · rfl
  · split <;> rfl
theorem crash_t (d : DS) (k : Int) : (d.crash k).2.t = d.t := by
  unfold DS.crash
  split <;> rfl

/-- what the call of a round leaves -/
def callRel (w0 wb : World) (p : Nat) (F : List Nat) (d : DS) (b : List UInt8) (v8 : Value) (wx : World) : Prop :=
  ∃ F' d' e, v8 = .int .i64 e ∧ dOn w0 wx p F' d' ∧ ((e = 0 ∧ d'.t = d.t ++ [b]) ∨ (e ≠ 0 ∧ d'.t = d.t)) ∧ keepBut F wb wx ∧ ∀ y ∈ F', y ∈ F ∨ wb.heap.size ≤ y
theorem callRel.of {w0 wb wx : World} {p : Nat} {F : List Nat} {d d' : DS} {b : List UInt8} {r x : Int} {e : Ending} (h : dOn w0 wb p F d) (hp : dPost p F d' r wb e wx) (ht : (x = 0 ∧ d'.t = d.t ++ [b]) ∨ (x ≠ 0 ∧ d'.t = d.t)) : callRel w0 wb p F d b (.int .i64 x) wx := by
  obtain ⟨_, F', a, b', c⟩ := h.step hp
  exact ⟨F', d', x, rfl, a, ht, b', c⟩

/-- behind the call, and behind what is noted of it -/
def midRel (w0 : World) (p : Nat) (F : List Nat) (d : DS) (v4 : Value) (wx : World) : Prop :=
  ∃ G, dOn w0 wx p F d ∧ wants wx v4 d.t G ∧ (∀ y ∈ F, y ∉ homes v4 ∧ y ∉ G) ∧ (∀ y ∈ homes v4, w0.heap.size ≤ y) ∧ ∀ y ∈ G, y < wx.heap.size ∧ y ∉ homes v4
def innerRel (N : Nat) (w3 : World) (v10 : Value) (wx : World) : Prop := ∃ k : Nat, k ≤ N ∧ v10 = .int .i64 (k : Int) ∧ keepBut [] w3 wx
theorem wants.lt {w : World} {v : Value} {ls : List (List UInt8)} {G : List Nat} (h : wants w v ls G) : ∀ y ∈ homes v, y < w.heap.size := by
  obtain ⟨vs, h1, _⟩ := h; exact h1.lt
theorem wants.form {w : World} {v : Value} {ls : List (List UInt8)} {G : List Nat} (h : wants w v ls G) :
    ∃ A c, v = .slice A ls.length c ∧ ∀ j l, ls[j]? = some l → ∃ g o B d k, A = some ⟨g, o, none⟩ ∧ g < w.heap.size ∧ w.cell? ⟨g, o + j, none⟩ = some (.slice B l.length d) ∧ seen w B k l := by
  obtain ⟨vs, h1, h2⟩ := h
  obtain ⟨A, c, rfl, _, _, _, hrd⟩ := h1.form
  refine ⟨A, c, rfl, fun j l hj => ?_⟩
  obtain ⟨B, d, k, hv, hs, _⟩ := h2 j l hj
  obtain ⟨g, hg⟩ := homes_one (.slice A ls.length c)
  have hjl : j < ls.length := (List.getElem?_eq_some_iff.1 hj).1
  obtain ⟨o, hA, hlt, hc⟩ := (hrd g hg).2 (by omega)
  exact ⟨g, o, B, d, k, hA, hlt, hc j _ hv, hs⟩
theorem pieces.seen {w : World} {ga N : Nat} {t : List (List UInt8)} {cells : Array Value} (h : pieces w ga t N cells) (hr : rowAt w ga 5 (t.flatten.map bv).toArray) {j : Nat} {l : List UInt8} (hj : j < N) (hl : t[j]? = some l) :
    ∃ A, cells[j]? = some (.slice A l.length l.length) ∧ seen w A ga l := by
  obtain ⟨A, hA, hA2⟩ := h j l hj hl
  refine ⟨A, hA, fun hne => ⟨offT t j, hA2 hne, hr.lt, fun i b hb => ?_⟩⟩
  rw [hr.cell]
  have e : t.flatten = (t.take j).flatten ++ (l ++ (t.drop (j + 1)).flatten) := by
    have hjl : j < t.length := (List.getElem?_eq_some_iff.1 hl).1
    have h1 : t.drop j = l :: t.drop (j + 1) := by
      rw [List.drop_eq_getElem_cons hjl]
      congr 1
      exact (List.getElem?_eq_some_iff.1 hl).2
    conv => lhs; rw [← List.take_append_drop j t, List.flatten_append, h1]
    rfl
  have hil : i < l.length := (List.getElem?_eq_some_iff.1 hb).1
  have h2 : t.flatten[offT t j + i]? = some b := by
    rw [e, List.getElem?_append_right (by unfold offT; omega)]
    have : offT t j + i - (t.take j).flatten.length = i := by unfold offT; omega
    rw [this, List.getElem?_append_left hil, hb]
  rw [List.getElem?_toArray, List.getElem?_map, h2]; rfl

theorem traces_note {w0 wb w2 w5 : World} {p : Nat} {F' : List Nat} {d d' : DS} {Aw A2 A5 : Option Addr} {cw c2 c5 : Nat} {vs : List Value} {G : List Nat} {b : List UInt8}
    (hd' : dOn w0 wb p F' d') (ho : owns wb 28 1 (.slice Aw d.t.length cw) d.t.length vs)
    (hvs : ∀ (j : Nat) (l : List UInt8), d.t[j]? = some l → ∃ A c g, vs[j]? = some (Value.slice A l.length c) ∧ seen wb A g l ∧ (l ≠ [] → g ∈ G))
    (hdis : ∀ y ∈ F', y ∉ homes (.slice Aw d.t.length cw) ∧ y ∉ G) (hv4 : ∀ y ∈ homes (.slice Aw d.t.length cw), w0.heap.size ≤ y) (hg : ∀ y ∈ G, y < wb.heap.size ∧ y ∉ homes (.slice Aw d.t.length cw))
    (ho2 : owns w2 5 1 (.slice A2 b.length c2) b.length (b.map bv)) (hf2 : ∀ y ∈ homes (.slice A2 b.length c2), wb.heap.size ≤ y) (hk2 : keepBut [] wb w2) (ht : d'.t = d.t ++ [b])
    (ho5 : owns w5 28 1 (.slice A5 (d.t.length + 1) c5) (d.t.length + 1) (vs ++ [.slice A2 b.length c2])) {o : Obj} (hk5 : keepBut (homes (.slice Aw d.t.length cw)) (w2.alloc o) w5)
    (hl5 : ∀ y ∈ homes (.slice A5 (d.t.length + 1) c5), y ∈ homes (.slice Aw d.t.length cw) ∨ (w2.alloc o).heap.size ≤ y) : midRel w0 p F' d' (.slice A5 (d.t.length + 1) c5) w5 := by
  have hka := (keepBut.refl [] w2).alloc o
  have hs2 := hk2.size
  have hsa : (w2.alloc o).heap.size = w2.heap.size + 1 := by simp
  have hs5 := hk5.size
  have hlt := ho.lt
  have hF := hd'.1.lt
  have h2lt := ho2.lt
  have hvl : vs.length = d.t.length := by have := ho.1; omega
  refine ⟨homes (.slice A2 b.length c2) ++ G, ((hd'.over hk2).over hka).keepOff2 hk5 (fun y hy => (hdis y hy).1) hv4, ⟨vs ++ [.slice A2 b.length c2], by rw [ht, List.length_append]; exact ho5, ?_⟩, ?_, ?_, ?_⟩
  · intro j l hj
    rw [ht] at hj
    rcases Nat.lt_or_ge j d.t.length with h1 | h1
    · rw [List.getElem?_append_left h1] at hj
      obtain ⟨A, c, g, hv, hs, hgG⟩ := hvs j l hj
      refine ⟨A, c, g, by rw [List.getElem?_append_left (by omega)]; exact hv, ?_, fun hne => List.mem_append_right _ (hgG hne)⟩
      exact ((hs.keep hk2 (by simp)).keep hka (by simp)).keep hk5 (fun hne => (hg g (hgG hne)).2)
    · rw [List.getElem?_append_right h1] at hj
      obtain ⟨rfl, hj0⟩ : b = l ∧ j - d.t.length = 0 := by
        cases hx : j - d.t.length with
        | zero => rw [hx] at hj; simp at hj; exact ⟨hj, rfl⟩
        | succ m => rw [hx] at hj; simp at hj
      obtain ⟨A', c', g', he', _, _, hs', hg'⟩ := ho2.seen
      obtain ⟨rfl, rfl⟩ : A2 = A' ∧ c2 = c' := by injection he' with e1 e2 e3; exact ⟨e1, e3⟩
      refine ⟨A2, c2, g', by rw [List.getElem?_append_right (by omega), hvl, hj0]; rfl, (hs'.keep hka (by simp)).keep hk5 (fun hne hm => ?_), fun hne => List.mem_append_left _ (hg' hne)⟩
      have := hlt g' hm; have := hf2 g' (hg' hne); omega
  · intro y hy
    refine ⟨fun hm => ?_, fun hm => ?_⟩
    · rcases hl5 y hm with h1 | h1
      · exact (hdis y hy).1 h1
      · have := hF y hy; omega
    · rcases List.mem_append.1 hm with h1 | h1
      · have := hf2 y h1; have := hF y hy; omega
      · exact (hdis y hy).2 h1
  · intro y hy
    rcases hl5 y hy with h1 | h1
    · exact hv4 y h1
    · have := hd'.2.2.size; omega
  · intro y hy
    rcases List.mem_append.1 hy with h1 | h1
    · refine ⟨by have := h2lt y h1; omega, fun hm => ?_⟩
      rcases hl5 y hm with h3 | h3
      · have := hlt y h3; have := hf2 y h1; omega
      · have := h2lt y h1; omega
    · refine ⟨by have := (hg y h1).1; omega, fun hm => ?_⟩
      rcases hl5 y hm with h3 | h3
      · exact (hg y h1).2 h3
      · have := (hg y h1).1; omega

/-- at the head of every round -/
def tracesRel (w0 : World) (p n : Nat) (v4 v5 : Value) (wx : World) : Prop :=
  ∃ (i : Nat) (F : List Nat) (d : DS) (G : List Nat), v5 = .int .i64 (i : Int) ∧ i ≤ n ∧ i ≤ 60 ∧ dOn w0 wx p F d ∧ wants wx v4 d.t G ∧ d.t.length ≤ i ∧ d.t.flatten.length ≤ 300 * i ∧
    (∀ y ∈ F, y ∉ homes v4 ∧ y ∉ G) ∧ (∀ y ∈ homes v4, w0.heap.size ≤ y) ∧ (∀ y ∈ G, y < wx.heap.size ∧ y ∉ homes v4)

set_option maxRecDepth 100000 in
set_option maxHeartbeats 4000000 in
theorem diskTraces_law (B : Option Addr) (n c : Nat) (w : World) (ps : dos w B n) (hn : n ≤ c) (hc : c ≤ maxLen) :
    Calls Try.prog 7 #[.slice B n c] w (yesPost w) := by
  unfold maxLen at hc
  have PS := Lib.hid ps
  clear ps
  go_enter Try.func7, Try.ntmps7
  go_wp2_with fail
  refine (newD_any _).mono ?_; intro e w1 hq; obtain ⟨p, F1, rfl, h1⟩ := dOn.start (keepBut.refl [] w) hq; clear hq
  go_wp2_with fail
  go_loopw [4, 5] (fun v4 v5 wr => tracesRel w p n v4 v5 wr) (fun _ v5 _ => n - (intOf v5).toNat)
  case atStart => exact ⟨0, F1, DS.new, [], rfl, Nat.zero_le _, by omega, h1, ⟨[], owns.nil _ _ _, fun j l hj => by simp [DS.new] at hj⟩, by simp [DS.new], by simp [DS.new], by simp [homes_none], by simp [homes_none], by simp⟩
  case round =>
    clear h1
    obtain ⟨i, F, d, G, rfl, hin, hi60, hd, hw, htl, htf, hdis, hv4, hG⟩ := hrel
    by_cases hlt : i < n ∧ i < 60
    · obtain ⟨hi1, hi2⟩ := hlt
      obtain ⟨k0, o, rfl, hkl, hput⟩ := PS.out (by omega)
      obtain ⟨x0, x1, x2, A3, h3, c3, l3, e0, e1, e2, e3, q0, q1, a3, b3, s3, z3⟩ := hput i hi1
      have q0' := bd_int q0
      have q1' := bd_int q1
      have hcl := fun x => hd.2.2.cell (p := ⟨k0, x, none⟩) hkl (by simp)
      have f0 := (hcl _).trans e0
      have f1 := (hcl _).trans e1
      have f2 := (hcl _).trans e2
      have f3 := (hcl _).trans e3
      unfold maxLen at b3
      have hi1' : (i : Int) < (n : Int) := by omega
      have hi2' : (i : Int) < 60 := by omega
      obtain ⟨b, hb⟩ : ∃ b, b = l3.take 300 := ⟨_, rfl⟩
      have sb : seen w A3 h3 b := by rw [hb]; exact s3.take 300
      have hb300 : b.length ≤ 300 := by rw [hb, List.length_take]; omega
      have hmin : (if 300 < (l3.length : Int) then 300 else (l3.length : Int)).toNat = b.length := by rw [hb, List.length_take]; split <;> omega
      have HM := Lib.hid hmin
      have HD := Lib.hid (And.intro hd (And.intro hw (And.intro hdis (And.intro hv4 hG))))
      clear hcl e0 e1 e2 e3 hput hb s3 z3 hmin hd hw hdis hv4 hG q0 q1
      go_upto_region 8 with fail
      simp only [HM.out]
      generalize (if 300 < (l3.length : Int) then 300 else (l3.length : Int)) = zz
      obtain ⟨hd, hw, hdis, hv4, hG⟩ := HD.out
      have hka := (keepBut.refl [] wr).alloc (.cells #[.int .i64 x0, .int .i64 x1, .bool x2, .slice A3 l3.length c3] 30)
      have hda := hd.over hka
      have hwa := hw.keep hka (by simp) (by simp)
      have hga : ∀ y ∈ G, y < (wr.alloc (.cells #[.int .i64 x0, .int .i64 x1, .bool x2, .slice A3 l3.length c3] 30)).heap.size ∧ y ∉ homes u4 := fun y hy => ⟨by have := (hG y hy).1; have := hka.size; omega, (hG y hy).2⟩
      have hra := rowAt.new wr 30 #[.int .i64 x0, .int .i64 x1, .bool x2, .slice A3 l3.length c3]
      clear hd hw HD f0 f1 f2 f3 hka hG
      generalize wr.alloc (.cells #[.int .i64 x0, .int .i64 x1, .bool x2, .slice A3 l3.length c3] 30) = wa at *
      generalize wr.heap.size = ta at *
      have c0 : wa.cell? ⟨ta, 0, none⟩ = some (.int .i64 x0) := hra.cell 0
      have c1 : wa.cell? ⟨ta, 1, none⟩ = some (.int .i64 x1) := hra.cell 1
      have HD := Lib.hid (And.intro hda (And.intro hwa (And.intro hdis (And.intro hv4 hga))))
      have ab := hda.arg2 sb
      have HAB := Lib.hid ab
      clear hra hda hwa hdis hv4 hga ab
      go_wp2_with fail
      refine (bring_any _ _ q0'.1 q0'.2 (by omega) (by omega) _).mono ?_; rintro e w' ⟨rfl, rfl⟩
      have cs : x0 % 10 = 0 ∨ x0 % 10 = 1 ∨ x0 % 10 = 2 ∨ x0 % 10 = 3 ∨ x0 % 10 = 4 ∨ x0 % 10 = 5 ∨ x0 % 10 = 6 ∨ x0 % 10 = 7 ∨ x0 % 10 = 8 ∨ x0 % 10 = 9 := by omega
      generalize x0 % 10 = ma at cs ⊢
      go_upto_block 2 with fail
      go_cut [8] (fun v8 wx => callRel w wa p F d b v8 wx)
      case first =>
        have hd := HD.out.1
        rcases cs with rfl | rfl | rfl | rfl | rfl | rfl | rfl | rfl | rfl | rfl
        · go_wp2_with fail
          refine (writeD_any p F d A3 h3 c3 b _ hd.1 HAB.out.1 HAB.out.2 (by omega) (by omega)).mono ?_; intro e wq hq
          obtain ⟨he, hqq⟩ := id hq
          subst he
          have hr := callRel.of hd hq (write_t d b)
          go_wp2_with fail
          go_meet
          exact hr
        · go_wp2_with fail
          refine (writeD_any p F d A3 h3 c3 b _ hd.1 HAB.out.1 HAB.out.2 (by omega) (by omega)).mono ?_; intro e wq hq
          obtain ⟨he, hqq⟩ := id hq
          subst he
          have hr := callRel.of hd hq (write_t d b)
          go_wp2_with fail
          go_meet
          exact hr
        · go_wp2_with fail
          refine (writeD_any p F d A3 h3 c3 b _ hd.1 HAB.out.1 HAB.out.2 (by omega) (by omega)).mono ?_; intro e wq hq
          obtain ⟨he, hqq⟩ := id hq
          subst he
          have hr := callRel.of hd hq (write_t d b)
          go_wp2_with fail
          go_meet
          exact hr
        · go_wp2_with fail
          refine (sync_any p F d _ hd.1).mono ?_; intro e wq hq
          obtain ⟨he, hqq⟩ := id hq
          subst he
          have hr : callRel w wa p F d b (.int .i64 2) wq := callRel.of hd hq (.inr ⟨by omega, sync_t d⟩)
          go_wp2_with fail
          go_meet
          exact hr
        · go_wp2_with fail
          refine (sync_any p F d _ hd.1).mono ?_; intro e wq hq
          obtain ⟨he, hqq⟩ := id hq
          subst he
          have hr : callRel w wa p F d b (.int .i64 2) wq := callRel.of hd hq (.inr ⟨by omega, sync_t d⟩)
          go_wp2_with fail
          go_meet
          exact hr
        · go_wp2_with fail
          refine (swapD_any p F d A3 h3 c3 b _ hd.1 HAB.out.1 HAB.out.2 (by omega) (by omega)).mono ?_; intro e wq hq
          obtain ⟨he, hqq⟩ := id hq
          subst he
          have hr := callRel.of hd hq (swap_t d b)
          go_wp2_with fail
          go_meet
          exact hr
        · go_wp2_with fail
          refine (writeD_any p F d A3 h3 c3 b _ hd.1 HAB.out.1 HAB.out.2 (by omega) (by omega)).mono ?_; intro e wq hq
          obtain ⟨he, hqq⟩ := id hq
          subst he
          have hr := callRel.of hd hq (write_t d b)
          go_wp2_with fail
          go_meet
          exact hr
        · go_wp2_with fail
          refine (bring_any _ _ q1'.1 q1'.2 (by omega) (by omega) _).mono ?_; rintro e w' ⟨rfl, rfl⟩
          go_wp2_with fail
          refine (arm_any p F d (x1 % 9) _ hd.1 (by omega)).mono ?_; intro e wq hq
          obtain ⟨he, hqq⟩ := id hq
          subst he
          have hr : callRel w wa p F d b (.int .i64 2) wq := callRel.of hd hq (.inr ⟨by omega, armed_t d _⟩)
          go_wp2_with fail
          go_meet
          exact hr
        · go_wp2_with fail
          refine (bring_any _ _ q1'.1 q1'.2 (by omega) (by omega) _).mono ?_; rintro e w' ⟨rfl, rfl⟩
          go_wp2_with fail
          refine (crash_any p F d (x1 % 9) _ hd.1 (by omega)).mono ?_; intro e wq hq
          obtain ⟨he, hqq⟩ := id hq
          subst he
          have hr : callRel w wa p F d b (.int .i64 2) wq := callRel.of hd hq (.inr ⟨by omega, crash_t d _⟩)
          go_wp2_with fail
          go_meet
          exact hr
        · go_wp2_with fail
          refine (revive_any p F d _ hd.1).mono ?_; intro e wq hq
          obtain ⟨he, hqq⟩ := id hq
          subst he
          have hr : callRel w wa p F d b (.int .i64 2) wq := callRel.of hd hq (.inr ⟨by omega, rfl⟩)
          go_wp2_with fail
          go_meet
          exact hr
      case rest =>
        obtain ⟨F', d', e8, rfl, hd', ht', hk', hF'⟩ := hcut
        generalize wc = wb at *
        obtain ⟨hd0, hw0, hdis, hv4, hga⟩ := HD.out
        have hwlt := hw0.lt
        have hwb := hw0.keep hk' (fun y hy hm => (hdis y hm).1 hy) (fun y hy hm => (hdis y hm).2 hy)
        have hdis' : ∀ y ∈ F', y ∉ homes u4 ∧ y ∉ G := fun y hy => by
          rcases hF' y hy with h1 | h1
          · exact hdis y h1
          · exact ⟨fun hm => by have := hwlt y hm; omega, fun hm => by have := (hga y hm).1; omega⟩
        have hgb : ∀ y ∈ G, y < wb.heap.size ∧ y ∉ homes u4 := fun y hy => ⟨by have := (hga y hy).1; have := hk'.size; omega, (hga y hy).2⟩
        have sb' := (hd'.arg2 sb).1
        have HB := Lib.hid (And.intro hd' (And.intro hwb (And.intro hdis' (And.intro hv4 (And.intro hgb sb')))))
        have HT := Lib.hid ht'
        clear hd0 hw0 hdis hv4 hga hwlt hwb hdis' hgb sb' hd' ht' hk' hF' HD HAB c0 c1 cs
        go_upto_if 68 with fail
        go_cut [4] (fun v4 wx => midRel w p F' d' v4 wx)
        case first =>
          rcases HT.out with ⟨h0, ht⟩ | ⟨h0, ht⟩
          · subst h0
            obtain ⟨hd', hwb, hdis', hv4, hgb, sb'⟩ := HB.out
            obtain ⟨vs, ho, hvs⟩ := id hwb
            obtain ⟨Aw, cw, rfl, _, _, _, _⟩ := ho.form
            obtain ⟨i1, hi1, hz3, hz4, hz5⟩ := info_parts infoSl
            have HO := Lib.hid (And.intro ho hvs)
            clear hd' hwb hdis' hv4 hgb ho hvs
            have hl60 : d.t.length ≤ 60 := by omega
            go_wp2_with fail
            refine (copyBytes_n _ h3 _ b.length b _ rfl sb' (by omega)).mono ?_; rintro e w2 ⟨v2, rfl, ho2, hf2, hk2⟩
            obtain ⟨A2, c2, g2, rfl, hc2, hm2, s2, hg2⟩ := ho2.seen
            have HO2 := Lib.hid (HO.out.1.keep hk2 (by simp))
            clear sb'
            go_wp2_with (at_builtin; refine wp_append _ rfl (.tmp 69) (.tmp 72) 45 rfl 28 i1 (.slice none 0 0) 1 24 Try.underlying45 hi1 hz3 hz4 hz5 rfl (by decide) (.slice Aw d.t.length cw) d.t.length vs rfl (HO2.out.alloc _) _ _ 1 1 _ rfl (reads_one _ _ _) (by intro u hu; simp at hu; subst hu; rfl) (by omega) (by unfold maxLen; omega) ?_; intro A5 c5 w5 hown5 hkb5 hloc5)
            go_meet
            obtain ⟨hd', hwb, hdis', hv4, hgb, _⟩ := HB.out
            exact traces_note hd' HO.out.1 HO.out.2 hdis' hv4 hgb ho2 hf2 hk2 ht hown5 hkb5 hloc5
          · have he : (e8 == 0) = false := by simpa using h0
            obtain ⟨hd', hwb, hdis', hv4, hgb, sb'⟩ := HB.out
            have HW := Lib.hid hwb
            clear hd' hwb hdis' hv4 hgb sb'
            go_wp2_with fail
            go_meet
            obtain ⟨hd', hwb, hdis', hv4, hgb, _⟩ := HB.out
            exact ⟨G, hd', by rw [ht]; exact hwb, hdis', hv4, hgb⟩
        case rest =>
          obtain ⟨G', hdm, hwm, hdism, hvm, hgm⟩ := hcut
          generalize wc = wm at *
          have hlen : d'.t.length ≤ i + 1 := by
            rcases HT.out with ⟨_, ht⟩ | ⟨_, ht⟩
            · rw [ht, List.length_append]; simp; omega
            · rw [ht]; omega
          have hflat : d'.t.flatten.length ≤ 300 * (i + 1) := by
            rcases HT.out with ⟨_, ht⟩ | ⟨_, ht⟩
            · rw [ht, List.flatten_append, List.length_append]; simp only [List.flatten_cons, List.flatten_nil, List.append_nil]; omega
            · rw [ht]; omega
          obtain ⟨Av, cv, rfl, hcells⟩ := hwm.form
          have HMid := Lib.hid (And.intro hdm (And.intro hwm (And.intro hdism (And.intro hvm (And.intro hgm hflat)))))
          have HC := Lib.hid hcells
          have hdd := hdm.1
          obtain ⟨N, hN⟩ : ∃ N, N = d'.t.length := ⟨_, rfl⟩
          have hN60 : N ≤ 60 := by omega
          clear HB hdm hwm hdism hvm hgm hflat hcells
          go_wp2_with fail
          refine (trace_any p F' d' _ hdd (by omega) (by have := HMid.out.2.2.2.2.2; omega)).mono ?_; rintro e wt ⟨go, ga, cells, rfl, rgo, hcl, rga, hpc, hgo, hga2, hkt⟩
          rw [← hN] at hcl hpc ⊢
          have HN := Lib.hid hN
          have HT2 := Lib.hid (And.intro rgo (And.intro hcl (And.intro rga (And.intro hpc hkt))))
          clear hN rgo hcl rga hpc hkt hdd
          go_wp2_with fail
          generalize wt = w3 at *
          go_loopw [10] (fun v10 wx => innerRel N w3 v10 wx) (fun v10 _ => N - (intOf v10).toNat)
          case atStart => exact ⟨0, Nat.zero_le _, rfl, keepBut.refl _ _⟩
          case round =>
            obtain ⟨k, hk, rfl, kk⟩ := hrel
            by_cases hkN : k < N
            · obtain ⟨l, hl⟩ : ∃ l, d'.t[k]? = some l := ⟨d'.t[k]'(by have := HN.out; omega), List.getElem?_eq_getElem _⟩
              obtain ⟨A, hA, hsA⟩ := HT2.out.2.2.2.1.seen HT2.out.2.2.1 hkN hl
              obtain ⟨gv, ov, B2, d2, k2, rfl, hgv, hcv, hsB⟩ := HC.out k l hl
              have kt := HT2.out.2.2.2.2.then kk (by simp)
              have c1 : wr.cell? ⟨go, k, none⟩ = some (.slice A l.length l.length) := (kk.row HT2.out.1 (by simp)).cell k |>.trans hA
              have c2 := (kt.cell (p := ⟨gv, ov + k, none⟩) hgv (by simp)).trans hcv
              have s1 := hsA.keep kk (by simp)
              have s2 := hsB.keep kt (by simp)
              have hkN' : (k : Int) < (N : Int) := by omega
              have heq := fun W => (eqBytes_any A B2 ga k2 l.length d2 l l W)
              have HS := Lib.hid (And.intro s1 (And.intro s2 kk))
              have hNc : N ≤ N := Nat.le_refl _
              clear hsA hA hcv hsB kt s1 s2 kk hl heq
              go_upto_region 30 with fail
              go_quiet ((go_at_call 24; exact Calls.quiet_of_same ((eqBytes_any A B2 ga k2 l.length d2 l l _ (HS.out.1.keep ((keepBut.refl [] wr).drewN _) (by simp)) (HS.out.2.1.keep ((keepBut.refl [] wr).drewN _) (by simp))).mono (fun _ _ ⟨a, b⟩ => ⟨a, b.symm⟩))))
              have HK2 := Lib.hid ((HS.out.2.2).drewN nq)
              clear c1 c2 HS
              go_wp2_with fail
              go_roundw
              case rel => exact ⟨k + 1, by omega, by go_num, HK2.out⟩
              case measure => simp [intOf]; omega
            · obtain rfl : k = N := by omega
              have hkN' : ¬ (k : Int) < (k : Int) := by omega
              have HK2 := Lib.hid (HT2.out.2.2.2.2.then kk (by simp))
              clear kk
              go_wp2_with fail
              go_roundw
              case rel =>
                obtain ⟨hdm, hwm, hdism, hvm, hgm, hflat⟩ := HMid.out
                have hkt := HK2.out
                exact ⟨i + 1, F', d', G', by go_num, by omega, by omega, hdm.over hkt, by rw [HN.out]; exact hwm.keep hkt (by simp) (by simp), by have := HN.out; omega, hflat, by rw [HN.out]; exact hdism, by rw [HN.out]; exact hvm, fun y hy => ⟨by have := (hgm y hy).1; have := hkt.size; omega, by rw [HN.out]; exact (hgm y hy).2⟩⟩
              case measure => simp [intOf]; omega
    · have HD := Lib.hid hd.2.2
      have hx : ¬ (i : Int) < (n : Int) ∨ ((i : Int) < (n : Int) ∧ ¬ (i : Int) < 60) := by omega
      clear hd hw hdis hv4 hG
      rcases hx with h1 | ⟨h1, h2⟩
      all_goals
        go_wp2_with fail
        refine (works_any _).mono ?_; rintro e w7 ⟨rfl, k7⟩
        go_wp2_with fail
        go_ret
        exact ⟨rfl, HD.out.then k7 (by simp)⟩
end Go.Proofs.Ytaclpogcedgojaa
