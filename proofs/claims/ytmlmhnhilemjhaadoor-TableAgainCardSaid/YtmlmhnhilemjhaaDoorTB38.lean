/-
  TABLE, 38: a law's table: each call by what the pure table says.
-/
import Derived.Test.YtmlmhnhilemjhaaDoorTB37
namespace Go.Proofs.YtmlmhnhilemjhaaDoor
open Go.RowKit
set_option linter.unusedVariables false
set_option maxRecDepth 100000
set_option linter.unusedSimpArgs false

/-- nothing of N has changed -/
def keepN (N : List Nat) (w w' : World) : Prop := ∃ S, keepBut S w w' ∧ ∀ y ∈ S, y ∉ N
theorem keepN.of {N : List Nat} {w w' : World} (k : keepBut [] w w') : keepN N w w' := ⟨[], k, by simp⟩
theorem keepN.refl (N : List Nat) (w : World) : keepN N w w := .of (keepBut.refl _ _)
theorem keepN.then {N : List Nat} {a b c : World} (h : keepN N a b) (k : keepN N b c) : keepN N a c := by
  obtain ⟨S, h1, h2⟩ := h
  obtain ⟨T, k1, k2⟩ := k
  refine ⟨S ++ T, (h1.more (fun y hy => List.mem_append.2 (.inl hy))).then k1 (fun y hy => .inl (List.mem_append.2 (.inr hy))), fun y hy => ?_⟩
  rcases List.mem_append.1 hy with hy | hy
  · exact h2 y hy
  · exact k2 y hy
theorem keepN.less {M N : List Nat} {a b : World} (h : keepN N a b) (hM : ∀ y ∈ M, y ∈ N) : keepN M a b := by
  obtain ⟨S, h1, h2⟩ := h
  exact ⟨S, h1, fun y hy hm => h2 y hy (hM y hm)⟩
theorem keepN.row {N : List Nat} {w w' : World} (h : keepN N w w') {g : Nat} {t : TypeId} {cs : Array Value} (hr : rowAt w g t cs) (hg : g ∈ N) : rowAt w' g t cs := by
  obtain ⟨S, h1, h2⟩ := h
  exact h1.row hr (fun hm => h2 _ hm hg)
theorem keepN.bytes {N G : List Nat} {w w' : World} (h : keepN N w w') {v : Value} {l : List UInt8} (hv : bytesV w G v l) (hG : ∀ y ∈ G, y ∈ N) : bytesV w' G v l := by
  obtain ⟨S, h1, h2⟩ := h
  exact hv.keep h1 (fun y hy hm => h2 _ hm (hG y hy))
theorem keepN.size {N : List Nat} {w w' : World} (h : keepN N w w') : w.heap.size ≤ w'.heap.size := by
  obtain ⟨S, h1, _⟩ := h
  exact h1.size
theorem isT.lt {w : World} {p : Nat} {s : TS} (h : isT w p s) : ∀ y ∈ own p s, y < w.heap.size := fun y hy => by
  unfold own at hy
  rcases List.mem_cons.1 hy with rfl | hy
  · exact h.row.lt
  · rcases List.mem_append.1 hy with hy | hy
    · rcases List.mem_append.1 hy with hy | hy
      · exact h.kown.lt _ hy
      · exact h.vown.lt _ hy
    · rcases List.mem_append.1 hy with hy | hy
      · exact h.iown.lt _ hy
      · exact h.aown.lt _ hy
theorem isT.keepAll {S : List Nat} {w w' : World} {p : Nat} {s : TS} (h : isT w p s) (k : keepBut S w w') (hO : ∀ y ∈ own p s, y ∉ S) (hF : ∀ y ∈ s.F, y ∉ S) : isT w' p s := by
  have o1 : p ∉ S := hO p (by unfold own; simp)
  have o2 : ∀ x ∈ homes s.kv, x ∉ S := fun x hx => hO x (by unfold own; exact List.mem_cons_of_mem _ (List.mem_append.2 (.inl (List.mem_append.2 (.inl hx)))))
  have o3 : ∀ x ∈ homes s.vv, x ∉ S := fun x hx => hO x (by unfold own; exact List.mem_cons_of_mem _ (List.mem_append.2 (.inl (List.mem_append.2 (.inr hx)))))
  have o4 : ∀ x ∈ homes s.iv, x ∉ S := fun x hx => hO x (by unfold own; exact List.mem_cons_of_mem _ (List.mem_append.2 (.inr (List.mem_append.2 (.inl hx)))))
  have o5 : ∀ x ∈ homes s.av, x ∉ S := fun x hx => hO x (by unfold own; exact List.mem_cons_of_mem _ (List.mem_append.2 (.inr (List.mem_append.2 (.inr hx)))))
  exact ⟨k.row h.row o1, h.kown.keep k o2, h.vown.keep k o3, h.iown.keep k o4, h.aown.keep k o5, h.names, h.clients, h.small, h.few, h.sortN, h.sortI, h.ansN,
    fun b hb => (h.envO b hb).keep k hF, fun b hb => (h.envA b hb).keep k hF, fun y hy => let ⟨cs, hc⟩ := h.blocks y hy; ⟨cs, k.row hc (hF y hy)⟩, h.lensO, h.lensA⟩
theorem done_name' {w : World} {p : Nat} {s : TS} (h : isT w p s) (r : RQ) (hr : r.name.length = 32) : (s.pure.done r).2.1.name.length = 32 := by
  unfold PT.done
  split
  · exact anZero_name
  · split
    · rw [last_pure]; exact (h.ansV r.client).1.1
    · split
      · exact hr
      · exact (act_facts h r ⟨r.client, r.num, 0, 0, 0, r.name, []⟩ hr rfl).2.2.1
/-- nothing of the pure table is out of order -/
structure PT.ok (P : PT) : Prop where
  fit : P.fit
  low : P.low
  names : ∀ n ∈ P.names, n.length = 32
  sortN : P.names.Pairwise (fun a b => Lib.compareBytes a b < 0)
  sortI : P.keys.Pairwise (fun a b => a < b)
/-- a table that a law has made since w0, apart from N -/
structure lawT (w0 : World) (N : List Nat) (w : World) (p : Nat) (P : PT) : Prop where
  is : ∃ s, isT w p s ∧ s.pure = P ∧ ∀ y ∈ own p s, y ∉ N ∧ w0.heap.size ≤ y
  fit : P.fit
  low : P.low
  old : ∀ y ∈ N, y < w.heap.size
  kept : keepBut [] w0 w
  sz : sizesAt w0
section
variable {w0 : World} {N : List Nat} {w : World} {p : Nat} {P : PT} (h : lawT w0 N w p P)
include h
theorem lawT.sizes : sizesAt w := h.sz.keep h.kept (by simp)
theorem lawT.ok : P.ok := by
  obtain ⟨s, h1, h2, _⟩ := h.is
  refine ⟨h.fit, h.low, ?_, ?_, ?_⟩
  · rw [← h2, names_pure]; exact h1.names
  · rw [← h2, names_pure]; exact h1.sortN
  · rw [← h2, keys_pure]; exact h1.sortI
theorem lawT.over {w' : World} (hk : keepBut [] w w') : lawT w0 N w' p P := by
  obtain ⟨s, h1, h2, h3⟩ := h.is
  exact ⟨⟨s, h1.over hk, h2, h3⟩, h.fit, h.low, fun y hy => Nat.lt_of_lt_of_le (h.old y hy) hk.size, h.kept.then hk (by simp), h.sz⟩
/-- with more to be apart from: blocks that are new -/
theorem lawT.also {M : List Nat} {w' : World} (hk : keepBut [] w w') (hM : ∀ y ∈ M, w.heap.size ≤ y ∧ y < w'.heap.size) : lawT w0 (N ++ M) w' p P := by
  obtain ⟨s, h1, h2, h3⟩ := h.is
  refine ⟨⟨s, h1.over hk, h2, fun y hy => ⟨fun hm => ?_, (h3 y hy).2⟩⟩, h.fit, h.low, fun y hy => ?_, h.kept.then hk (by simp), h.sz⟩
  · rcases List.mem_append.1 hm with hm | hm
    · exact (h3 y hy).1 hm
    · have a := h1.lt y hy
      have b := (hM y hm).1
      omega
  · rcases List.mem_append.1 hy with hy | hy
    · exact Nat.lt_of_lt_of_le (h.old y hy) hk.size
    · exact (hM y hy).2
theorem lawT.less {M : List Nat} (hM : ∀ y ∈ M, y ∈ N) : lawT w0 M w p P := by
  obtain ⟨s, h1, h2, h3⟩ := h.is
  exact ⟨⟨s, h1, h2, fun y hy => ⟨fun hm => (h3 y hy).1 (hM y hm), (h3 y hy).2⟩⟩, h.fit, h.low, fun y hy => h.old y (hM y hy), h.kept, h.sz⟩
/-- what stands in N, and is not bytes, may change -/
theorem lawT.poke {S : List Nat} {w' : World} (hk : keepBut S w w') (hS : ∀ y ∈ S, y ∈ N ∧ w0.heap.size ≤ y ∧ ∃ t cs, rowAt w y t cs ∧ t ≠ 5) : lawT w0 N w' p P := by
  obtain ⟨s, h1, h2, h3⟩ := h.is
  have hO : ∀ y ∈ own p s, y ∉ S := fun y hy hm => (h3 y hy).1 (hS y hm).1
  have hF : ∀ y ∈ s.F, y ∉ S := fun y hy hm => by
    obtain ⟨cs, hc⟩ := h1.blocks y hy
    obtain ⟨t, ds, hr, ht⟩ := (hS y hm).2.2
    exact ht (hr.uniq hc).1
  exact ⟨⟨s, h1.keepAll hk hO hF, h2, h3⟩, h.fit, h.low, fun y hy => Nat.lt_of_lt_of_le (h.old y hy) hk.size, h.kept.then hk (fun y hy => .inr (hS y hy).2.1), h.sz⟩
def doneOn (w0 : World) (N : List Nat) (p : Nat) (x : PT × AN × Int) (w : World) (e : Ending) (w' : World) : Prop :=
  ∃ v G, e = .returned (.tuple #[.agg (anL x.2.1 v).toArray, .int .i64 x.2.2]) ∧ bytesV w' G v x.2.1.env ∧ newIn w w' G ∧ lawT w0 N w' p x.1 ∧ keepN N w w' ∧ x.2.1.name.length = 32
theorem lawT.done {F : List Nat} {r : RQ} {ev : Value} (hr : rqV w F r ev) :
    Calls Tryd.prog 11 #[.pointer (some ⟨p, 0, none⟩), .agg (rqL r ev).toArray] w (doneOn w0 N p (P.done r) w) := by
  obtain ⟨s, h1, h2, h3⟩ := h.is
  have hv := h.fit.ver r.name
  have hlen : s.keys.length < 100 := by
    have := sorted_len s.keys 0 2 h1.sortI (fun x hx => by
      obtain ⟨b, hb, rfl⟩ := List.mem_map.1 hx
      have hm : b.ans ∈ P.answers := by rw [← h2]; exact List.mem_map.2 ⟨b, hb, rfl⟩
      exact ⟨(h.fit.ans _ hm).1.1, h.low _ hm⟩)
    omega
  have hb : IntKind.i64.wrap (verN s r.name + 1) = verN s r.name + 1 := by rw [← ver_pure, h2, IntKind.wrap_i64]; omega
  have hep : 0 ≤ s.epoch ∧ s.epoch ≤ 255 := by have := h.fit.ep; rw [← h2] at this; exact this
  refine (do_any p s F r ev w h1 hr h.sizes hep hb hlen).mono ?_
  intro e w' hd
  rw [h2] at hd
  obtain ⟨v, G, he, hbv, _, hG⟩ := hd.ret
  obtain ⟨s', t1, t2, t3⟩ := hd.is
  have hf := done_fit h.fit h.low r
  have hs := h.kept.size
  refine ⟨v, G, he, hbv, hG, ⟨⟨s', t1, t2, fun y hy => ?_⟩, hf.1, hf.2, fun y hy => Nat.lt_of_lt_of_le (h.old y hy) hd.kept.size, h.kept.then hd.kept (fun y hy => .inr (h3 y hy).2), h.sz⟩, ⟨own p s, hd.kept, fun y hy => (h3 y hy).1⟩, h2 ▸ done_name' h1 r hr.1⟩
  rcases t3 y hy with q | q
  · exact h3 y q
  · exact ⟨fun hm => by have := h.old y hm; omega, by omega⟩
theorem lawT.get {t : List UInt8} (ht : t.length = 32) :
    Calls Tryd.prog 9 #[.pointer (some ⟨p, 0, none⟩), .agg (nameL t).toArray] w
      fun e w' => ∃ v G, e = .returned (.tuple #[.int .i64 (P.ver t), v]) ∧ bytesV w' G v (P.env t) ∧ newIn w w' G ∧ keepBut [] w w' := by
  obtain ⟨s, h1, h2, h3⟩ := h.is
  refine (get_any p s t ht w h1).mono ?_
  intro e w' hd
  obtain ⟨v, G, he, hb⟩ := hd
  rw [← ver_pure, h2] at he
  rw [← env_pure, h2] at hb
  exact ⟨v, G, he, hb.1, hb.2.2.1, hb.2.2.2⟩
theorem lawT.epoch {n : Int} (hn : P.epoch = n) : Calls Tryd.prog 10 #[.pointer (some ⟨p, 0, none⟩)] w fun e w' => e = .returned (.int .i64 n) ∧ w = w' := by
  obtain ⟨s, h1, h2, h3⟩ := h.is
  subst hn
  rw [← h2]
  exact epoch_any p s w h1
theorem lawT.bytes : Calls Tryd.prog 13 #[.pointer (some ⟨p, 0, none⟩)] w fun e w' => ∃ v G, e = .returned v ∧ bytesV w' G v (bytesT P) ∧ newIn w w' G ∧ keepBut [] w w' := by
  obtain ⟨s, h1, h2, h3⟩ := h.is
  have := tbytes_any p s w h1 (by rw [h2]; exact h.fit)
  rw [h2] at this
  exact this
theorem lawT.names : Calls Tryd.prog 14 #[.pointer (some ⟨p, 0, none⟩)] w fun e w' => ∃ v, e = .returned v ∧ owns w' 28 32 v P.names.length (flatN P.names) ∧ (∀ y ∈ homes v, w.heap.size ≤ y) ∧ keepBut [] w w' := by
  obtain ⟨s, h1, h2, h3⟩ := h.is
  have := names_any p s w h1
  rw [← names_pure, h2] at this
  exact this
theorem lawT.last {c : Int} (hc : 0 ≤ c ∧ c ≤ 1000000) : Calls Tryd.prog 19 #[.pointer (some ⟨p, 0, none⟩), .int .i64 c] w
      fun e w' => ∃ v G, e = .returned (.tuple #[.agg (anL (P.last c) v).toArray, .bool (P.hitA c)]) ∧ bytesV w' G v (P.last c).env ∧ newIn w w' G ∧ keepBut [] w w' := by
  obtain ⟨s, h1, h2, h3⟩ := h.is
  refine (last_any p s c hc w h1).mono ?_
  intro e w' hd
  obtain ⟨v, G, he, hb⟩ := hd
  rw [← last_pure, ← hitA_pure, h2] at he
  rw [← last_pure, h2] at hb
  exact ⟨v, G, he, hb.1, hb.2.2.1, hb.2.2.2⟩
end
def P0 : PT := ⟨0, [], []⟩
theorem new_law (w0 : World) (N : List Nat) (w : World) (hk : keepBut [] w0 w) (hsz : sizesAt w0) (hN : ∀ y ∈ N, y < w.heap.size) :
    Calls Tryd.prog 7 #[] w fun e w' => ∃ p, e = .returned (.pointer (some ⟨p, 0, none⟩)) ∧ lawT w0 N w' p P0 ∧ keepBut [] w w' ∧ w.heap.size ≤ p := by
  refine (new_any w).mono ?_
  rintro e w' ⟨rfl, h1, h2⟩
  have hs := hk.size
  refine ⟨w.heap.size, rfl, ⟨⟨sNew, h1, rfl, fun y hy => ?_⟩, ⟨by show (0 : Int) ≤ 0 ∧ (0 : Int) ≤ 255; omega, by simp [P0], by simp [P0]⟩, by simp [PT.low, P0], fun y hy => Nat.lt_of_lt_of_le (hN y hy) h2.size, hk.then h2 (by simp), hsz⟩, h2, Nat.le_refl _⟩
  have hy' : y = w.heap.size := by
    unfold own at hy
    simpa [sNew, nilV, homes_none] using hy
  subst hy'
  exact ⟨fun hm => Nat.lt_irrefl _ (hN _ hm), hs⟩
end Go.Proofs.YtmlmhnhilemjhaaDoor
