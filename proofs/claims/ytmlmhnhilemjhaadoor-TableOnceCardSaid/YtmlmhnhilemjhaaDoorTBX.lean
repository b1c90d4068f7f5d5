/-
  TBX: TB45, TB46, TB47, TB49, TB50, joined.
-/
import Derived.Test.YtmlmhnhilemjhaaDoorTB42
import Derived.Test.YtmlmhnhilemjhaaDoorTB43
import Derived.Test.YtmlmhnhilemjhaaDoorTB44
import Derived.Test.YtmlmhnhilemjhaaDoorLQ
section
namespace Go.Proofs.YtmlmhnhilemjhaaDoor
open Go.RowKit
set_option linter.unusedVariables false
set_option maxRecDepth 100000
set_option linter.unusedSimpArgs false

theorem made_any (w0 : World) (N : List Nat) (w : World) (p g : Nat) (P : PT) (x : ASK) (ns : List Int) (h : lawT w0 N w p P) (hx : x.ok) (hl : ns.length = 3) (hg : rowAt w g 26 (ns.map (Value.int .i64)).toArray) (hN : g ∈ N ∧ w0.heap.size ≤ g) (hb : ∀ j, 0 ≤ numAt ns j ∧ numAt ns j ≤ 1000000) :
    Calls Tryd.prog 8 #[.pointer (some ⟨p, 0, none⟩), .agg (askL x).toArray, .pointer (some ⟨g, 0, none⟩)] w (madePost w0 N p g P x ns w) := by
  have hk : 1 + x.kind % 4 = 2 ∨ 1 + x.kind % 4 = 4 ∨ (¬ 1 + x.kind % 4 = 2 ∧ ¬ 1 + x.kind % 4 = 4) := by omega
  rcases Bool.eq_false_or_eq_true x.again with ha | ha
  · by_cases hz : numAt ns x.c3 = 0
    · rcases hk with hk | hk | hk
      · exact made_z2 w0 N w p g P x ns h hx hl hg hN hb ⟨ha, hz⟩ hk
      · exact made_z4 w0 N w p g P x ns h hx hl hg hN hb ⟨ha, hz⟩ hk
      · exact made_z1 w0 N w p g P x ns h hx hl hg hN hb ⟨ha, hz⟩ hk
    · rcases hk with hk | hk | hk
      · exact made_n2 w0 N w p g P x ns h hx hl hg hN hb ⟨ha, hz⟩ hk
      · exact made_n4 w0 N w p g P x ns h hx hl hg hN hb ⟨ha, hz⟩ hk
      · exact made_n1 w0 N w p g P x ns h hx hl hg hN hb ⟨ha, hz⟩ hk
  · rcases hk with hk | hk | hk
    · exact made_f2 w0 N w p g P x ns h hx hl hg hN hb ha hk
    · exact made_f4 w0 N w p g P x ns h hx hl hg hN hb ha hk
    · exact made_f1 w0 N w p g P x ns h hx hl hg hN hb ha hk
end Go.Proofs.YtmlmhnhilemjhaaDoor
end

section
namespace Go.Proofs.YtmlmhnhilemjhaaDoor
open Go.RowKit
set_option linter.unusedVariables false
set_option maxRecDepth 100000
set_option linter.unusedSimpArgs false

/-- strictly increasing, as a comparison with a key sees it -/
def strictF {α : Type} (f : α → Int) (l : List α) : Prop := ∀ (a b : Nat) (x y : α), a < b → l[a]? = some x → l[b]? = some y → f y ≤ 0 → f x < 0
theorem strictN_of {l : List (List UInt8)} (h : l.Pairwise (fun a b => Lib.compareBytes a b < 0)) (t : List UInt8) : strictF (fun n => Lib.compareBytes n t) l := fun a b x y hab hx hy hle => by
  obtain ⟨ha, rfl⟩ := List.getElem?_eq_some_iff.1 hx
  obtain ⟨hb, rfl⟩ := List.getElem?_eq_some_iff.1 hy
  have h1 := List.pairwise_iff_getElem.1 h a b ha hb hab
  dsimp only at hle ⊢
  rcases cmpB_range l[b] t with h2 | h2 | h2
  · rw [← cmpB_eq _ _ h2]; exact h1
  · omega
  · exact cmpB_trans _ _ _ h1 (by omega)
theorem strictI_of {l : List Int} (h : l.Pairwise (fun a b => a < b)) (t : Int) : strictF (fun n => n - t) l := fun a b x y hab hx hy hle => by
  obtain ⟨ha, rfl⟩ := List.getElem?_eq_some_iff.1 hx
  obtain ⟨hb, rfl⟩ := List.getElem?_eq_some_iff.1 hy
  have := List.pairwise_iff_getElem.1 h a b ha hb hab
  dsimp only at hle ⊢
  omega
theorem posOf_eq {α : Type} {f : α → Int} {l : List α} (h : strictF f l) {i : Nat} {x : α} (hi : l[i]? = some x) (hx : f x = 0) : posOf f l = i := by
  have hl := (List.getElem?_eq_some_iff.1 hi).1
  refine posOf_at f l i (by omega) (fun t y ht hy => h t i y x ht hy hi (by omega)) (fun t y ht hy => ?_)
  rcases Nat.lt_or_ge i t with h1 | h1
  · refine Int.not_lt.1 fun hc => ?_
    have := h i t x y h1 hi hy (by omega)
    omega
  · obtain rfl : t = i := by omega
    rw [hi] at hy
    injection hy with hy
    subst hy
    omega
theorem hitOf_eq {α : Type} {f : α → Int} {l : List α} (h : strictF f l) {i : Nat} {x : α} (hi : l[i]? = some x) (hx : f x = 0) : hitOf f l = true := by
  unfold hitOf
  rw [posOf_eq h hi hx, hi]
  simp [hx]
theorem hitOf_no {α : Type} {f : α → Int} {l : List α} (h : ∀ x ∈ l, f x ≠ 0) : hitOf f l = false := by
  unfold hitOf
  split
  · rename_i x hx
    exact decide_eq_false (h x (List.mem_of_getElem? hx))
  · rfl
section
variable {P : PT}
theorem PT.get_mem (hs : P.names.Pairwise (fun a b => Lib.compareBytes a b < 0)) {b : OP} (hb : b ∈ P.objs) : P.get b.name = some b := by
  obtain ⟨i, hi⟩ := List.getElem?_of_mem hb
  have hn : P.names[i]? = some b.name := by unfold PT.names; rw [List.getElem?_map, hi]; rfl
  have hst := strictN_of hs b.name
  unfold PT.get PT.hit PT.pos
  rw [hitOf_eq hst hn (cmpB_refl _), if_pos rfl, posOf_eq hst hn (cmpB_refl _), hi]
theorem PT.last_mem (hs : P.keys.Pairwise (fun a b => a < b)) {b : AN} (hb : b ∈ P.answers) : P.last b.client = b := by
  obtain ⟨i, hi⟩ := List.getElem?_of_mem hb
  have hn : P.keys[i]? = some b.client := by unfold PT.keys; rw [List.getElem?_map, hi]; rfl
  have hst := strictI_of hs b.client
  unfold PT.last PT.hitA PT.posA
  rw [hitOf_eq hst hn (by omega), if_pos rfl, posOf_eq hst hn (by omega), hi]
theorem PT.last_no {c : Int} (h : ∀ b ∈ P.answers, b.client ≠ c) : P.last c = anZero := by
  unfold PT.last PT.hitA
  rw [hitOf_no (fun x hx => by
    obtain ⟨b, hb, rfl⟩ := List.mem_map.1 hx
    have := h b hb
    omega)]
  rfl
theorem PT.mem_put (hs : P.names.Pairwise (fun a b => Lib.compareBytes a b < 0)) (b : OP) : b ∈ (P.put b).objs := by
  unfold PT.put
  dsimp only
  split
  · rename_i h
    unfold PT.hit hitOf at h
    split at h
    · rename_i x hx
      have hl := (List.getElem?_eq_some_iff.1 hx).1
      refine List.mem_of_getElem? (i := P.pos b.name) ?_
      rw [List.getElem?_set, if_pos rfl, if_pos (by unfold PT.names at hl; rw [List.length_map] at hl; exact hl)]
    · cases h
  · unfold insAt; simp
theorem PT.mem_putA (a : AN) : a ∈ (P.putA a).answers := by
  unfold PT.putA
  dsimp only
  split
  · rename_i h
    unfold PT.hitA hitOf at h
    split at h
    · rename_i x hx
      have hl := (List.getElem?_eq_some_iff.1 hx).1
      refine List.mem_of_getElem? (i := P.posA a.client) ?_
      rw [List.getElem?_set, if_pos rfl, if_pos (by unfold PT.keys at hl; rw [List.length_map] at hl; exact hl)]
    · cases h
  · unfold insAt; simp
/-- another client's answer stays -/
theorem PT.mem_putA' {a b : AN} (hb : b ∈ P.answers) (hne : b.client ≠ a.client) : b ∈ (P.putA a).answers := by
  obtain ⟨i, hi⟩ := List.getElem?_of_mem hb
  unfold PT.putA
  dsimp only
  split
  · rename_i h
    unfold PT.hitA hitOf at h
    split at h
    · rename_i x hx
      have h0 : x - a.client = 0 := of_decide_eq_true h
      refine List.mem_of_getElem? (i := i) ?_
      rw [List.getElem?_set, if_neg (fun e => ?_), hi]
      have hx' : P.keys[P.posA a.client]? = some x := hx
      rw [e] at hx'
      unfold PT.keys at hx'
      rw [List.getElem?_map, hi] at hx'
      have : b.client = x := by simpa using hx'
      omega
    · cases h
  · unfold insAt
    rw [List.mem_append]
    by_cases hlt : i < P.posA a.client
    · exact .inl (List.mem_of_getElem? (i := i) (by rw [List.getElem?_take, if_pos hlt, hi]))
    · exact .inr (List.mem_cons_of_mem _ (List.mem_of_getElem? (i := i - P.posA a.client) (by rw [List.getElem?_drop, show P.posA a.client + (i - P.posA a.client) = i by omega, hi])))
theorem PT.last_putA (hs : P.keys.Pairwise (fun a b => a < b)) {a : AN} (hs' : (P.putA a).keys.Pairwise (fun a b => a < b)) (c : Int) : (P.putA a).last c = if c = a.client then a else P.last c := by
  split
  · rename_i h
    subst h
    exact PT.last_mem hs' (PT.mem_putA a)
  · rename_i h
    by_cases he : ∃ b ∈ P.answers, b.client = c
    · obtain ⟨b, hb, rfl⟩ := he
      rw [PT.last_mem hs' (PT.mem_putA' hb h), PT.last_mem hs hb]
    · have hno : ∀ b ∈ P.answers, b.client ≠ c := fun b hb hc => he ⟨b, hb, hc⟩
      rw [PT.last_no hno, PT.last_no (fun b hb => ?_)]
      rcases Go.Proofs.YtmlmhnhilemjhaaDoor.mem_putA hb with rfl | hb
      · exact fun hc => h hc.symm
      · exact hno b hb
theorem PT.last_client {c : Int} (hs : P.keys.Pairwise (fun a b => a < b)) (h : (P.last c).num ≠ 0) : (P.last c).client = c := by
  by_cases he : ∃ b ∈ P.answers, b.client = c
  · obtain ⟨b, hb, rfl⟩ := he
    rw [PT.last_mem hs hb]
  · rw [PT.last_no (fun b hb hc => he ⟨b, hb, hc⟩)] at h
    exact absurd rfl h
end
/-- what holds in a law's loop -/
structure PT.inv (P : PT) (ns : List Int) (i : Nat) : Prop where
  ok : P.ok
  len : ns.length = 3
  nums : ∀ j, 0 ≤ numAt ns j ∧ numAt ns j ≤ i
  last : ∀ j : Nat, j < 3 → (P.last (j : Int)).num = numAt ns j
  vers : ∀ b ∈ P.objs, 1 ≤ b.version ∧ b.version ≤ i
theorem numAt_zero (j : Nat) : numAt [0, 0, 0] j = 0 := by
  unfold numAt
  match j with
  | 0 | 1 | 2 => rfl
  | j + 3 => rfl
theorem inv_new (h : P0.ok) : P0.inv [0, 0, 0] 0 := ⟨h, rfl, fun j => by rw [numAt_zero]; omega, fun j hj => by rw [numAt_zero]; rfl, by simp [P0]⟩
theorem PT.inv.ver {P : PT} {ns : List Int} {i : Nat} (h : P.inv ns i) (t : List UInt8) : 0 ≤ P.ver t ∧ P.ver t ≤ i := by
  unfold PT.ver PT.get
  split
  · rename_i b hb
    split at hb
    · have := h.vers b (List.mem_of_getElem? hb); omega
    · cases hb
  · omega
theorem envP_len (c : Int) : (envP c).length = 45 := by unfold envP; simp
theorem made_facts {P : PT} {ns : List Int} {i : Nat} (h : P.inv ns i) (hi : i ≤ 1000) (x : ASK) :
    (madeP P x ns).tok = true ∧ (madeP P x ns).client = x.c3 ∧ (madeP P x ns).num = numAt (numsP x ns) x.c3 ∧ (madeP P x ns).name.length = 32 ∧ (madeP P x ns).kind = 1 + x.kind % 4 := by
  have hj := (c3_lt x).1
  have hv := h.ver (nameP x.n6)
  have hn : 1 ≤ numAt (numsP x ns) x.c3 ∧ numAt (numsP x ns) x.c3 ≤ 1001 := by
    rw [numsP_at h.len hj]
    have h1 := h.nums x.c3
    split
    · omega
    · rename_i hc
      have : ¬ (x.again = false ∨ numAt ns x.c3 = 0) := fun hh => hc ⟨rfl, hh⟩
      have : numAt ns x.c3 ≠ 0 := fun hh => this (.inr hh)
      omega
  have hep := h.ok.fit.ep
  unfold madeP
  split
  · rename_i hk
    refine ⟨?_, rfl, rfl, rfl, rfl⟩
    unfold RQ.tok
    rw [inP_yes (by show (0 : Int) ≤ x.c3 ∧ (x.c3 : Int) ≤ 2; omega), inP_yes (by show (1 : Int) ≤ numAt (numsP x ns) x.c3 ∧ numAt (numsP x ns) x.c3 ≤ _; omega)]
    rw [if_neg (by show ¬ (1 + x.kind % 4 = 1 ∨ 1 + x.kind % 4 = 3); omega), if_pos hk, inP_yes (by show (1 : Int) ≤ max 1 _ ∧ max 1 _ ≤ _; omega)]
    show (true && (true && (true && sizedP ((envP _).length : Int)))) = true
    rw [envP_len]
    rfl
  · split
    · rename_i hk0 hk
      refine ⟨?_, rfl, rfl, rfl, rfl⟩
      unfold RQ.tok
      rw [inP_yes (by show (0 : Int) ≤ x.c3 ∧ (x.c3 : Int) ≤ 2; omega), inP_yes (by show (1 : Int) ≤ numAt (numsP x ns) x.c3 ∧ numAt (numsP x ns) x.c3 ≤ _; omega)]
      rw [if_neg (by show ¬ (1 + x.kind % 4 = 1 ∨ 1 + x.kind % 4 = 3); omega), if_neg hk0, if_pos hk, inP_yes (by show (1 : Int) ≤ max 1 (min 255 _) ∧ max 1 (min 255 _) ≤ 255; omega)]
      simp
    · rename_i hk0 hk1
      refine ⟨?_, rfl, rfl, rfl, rfl⟩
      unfold RQ.tok
      rw [inP_yes (by show (0 : Int) ≤ x.c3 ∧ (x.c3 : Int) ≤ 2; omega), inP_yes (by show (1 : Int) ≤ numAt (numsP x ns) x.c3 ∧ numAt (numsP x ns) x.c3 ≤ _; omega)]
      rw [if_pos (by show 1 + x.kind % 4 = 1 ∨ 1 + x.kind % 4 = 3; omega)]
      rfl
/-- what an act does to the objects and the epoch -/
theorem act_objs (P : PT) (hok : P.ok) (r : RQ) (a : AN) (ha : a.code = 0) (ht : r.tok = true) :
    ((P.act r a).1.objs = P.objs ∨ (r.kind = 2 ∧ r.version = P.ver r.name + 1 ∧ (P.act r a).1 = P.put ⟨r.name, r.version, r.env⟩ ∧ (P.act r a).2 = { a with version := r.version })) ∧ (P.epoch ≤ (P.act r a).1.epoch ∧ (P.act r a).1.epoch ≤ P.epoch + 1) := by
  unfold PT.act
  split
  · exact ⟨.inl rfl, by show P.epoch ≤ P.epoch ∧ P.epoch ≤ P.epoch + 1; omega⟩
  · split
    · rename_i hk
      unfold aPut
      split
      · rename_i hc
        exact ⟨.inr ⟨hk, hc.1, rfl, rfl⟩, by show P.epoch ≤ P.epoch ∧ P.epoch ≤ P.epoch + 1; omega⟩
      · exact ⟨.inl rfl, by show P.epoch ≤ P.epoch ∧ P.epoch ≤ P.epoch + 1; omega⟩
    · split
      · exact ⟨.inl rfl, by show P.epoch ≤ P.epoch ∧ P.epoch ≤ P.epoch + 1; omega⟩
      · unfold aRaise
        split
        · rename_i hv
          exact ⟨.inl rfl, by show P.epoch ≤ r.version ∧ r.version ≤ P.epoch + 1; omega⟩
        · exact ⟨.inl rfl, by show P.epoch ≤ P.epoch ∧ P.epoch ≤ P.epoch + 1; omega⟩
theorem ver_objs {P Q : PT} (h : P.objs = Q.objs) (t : List UInt8) : P.ver t = Q.ver t ∧ P.env t = Q.env t := by
  have hg : P.get t = Q.get t := by
    unfold PT.get PT.hit PT.pos PT.names
    rw [h]
  unfold PT.ver PT.env
  rw [hg]
  exact ⟨rfl, rfl⟩
/-- what a law sees of a request that it has made -/
structure onceP (P : PT) (r : RQ) (x : PT × AN × Int) : Prop where
  e : x.2.2 = 0
  num : x.2.1.num = r.num
  client : x.2.1.client = r.client
  objs : (x.1.ver r.name = P.ver r.name ∧ x.1.env r.name = P.env r.name) ∨ (x.1.ver r.name = P.ver r.name + 1 ∧ r.kind = 2 ∧ x.2.1.code = 0 ∧ x.2.1.version = x.1.ver r.name ∧ x.1.env r.name = r.env)
  epoch : P.epoch ≤ x.1.epoch ∧ x.1.epoch ≤ P.epoch + 1
  again : x.1.done r = (x.1, x.2.1, 0)
  old : 0 < r.num - 1 → ∃ a, x.1.done { r with num := r.num - 1 } = (x.1, a, 0) ∧ a.code = 3
  none : ¬ 0 < r.num - 1 → x.1.done { r with num := r.num - 1 } = (x.1, anZero, 2)
theorem tok_less {r : RQ} (ht : r.tok = true) (h : 0 < r.num - 1) : RQ.tok { r with num := r.num - 1 } = true := by
  unfold RQ.tok at ht ⊢
  have h1 := (Bool.and_eq_true_iff.1 ht).1
  have h2 := inP_iff.1 (Bool.and_eq_true_iff.1 (Bool.and_eq_true_iff.1 ht).2).1
  have h3 := (Bool.and_eq_true_iff.1 (Bool.and_eq_true_iff.1 ht).2).2
  rw [h1, inP_yes (by show 1 ≤ r.num - 1 ∧ r.num - 1 ≤ _; omega)]
  exact h3
theorem tok_none {r : RQ} (h : ¬ 0 < r.num - 1) : RQ.tok { r with num := r.num - 1 } = false := by
  unfold RQ.tok
  rw [show inP (r.num - 1) 1 9007199254740991 = false from inP_no (by omega)]
  simp
theorem once_tail {P : PT} {r : RQ} (ht : r.tok = true) {a : AN} (hl : P.last r.client = a) (hn : a.num = r.num) :
    P.done r = (P, a, 0) ∧ (0 < r.num - 1 → ∃ a, P.done { r with num := r.num - 1 } = (P, a, 0) ∧ a.code = 3) ∧ (¬ 0 < r.num - 1 → P.done { r with num := r.num - 1 } = (P, anZero, 2)) := by
  refine ⟨?_, fun h => ?_, fun h => ?_⟩
  · unfold PT.done
    rw [if_neg (by rw [ht]; simp), if_pos (by rw [hl, hn]), hl]
  · refine ⟨⟨r.client, r.num - 1, 3, 0, P.epoch, r.name, []⟩, ?_, rfl⟩
    unfold PT.done
    rw [if_neg (by rw [tok_less ht h]; simp)]
    rw [if_neg (by show ¬ (r.num - 1 = (P.last r.client).num); rw [hl, hn]; omega), if_pos (by show r.num - 1 < (P.last r.client).num; rw [hl, hn]; omega)]
  · unfold PT.done
    rw [if_pos (tok_none h)]
theorem once_made {P : PT} {ns : List Int} {i : Nat} (h : P.inv ns i) (hi : i ≤ 1000) (x : ASK) (hok' : (P.done (madeP P x ns)).1.ok) :
    onceP P (madeP P x ns) (P.done (madeP P x ns)) ∧ (P.done (madeP P x ns)).1.inv (numsP x ns) (i + 1) := by
  have hm := made_facts h hi x
  have hj := (c3_lt x).1
  obtain ⟨r, hr⟩ : ∃ r, madeP P x ns = r := ⟨_, rfl⟩
  rw [hr] at hm hok' ⊢
  obtain ⟨ht, hc, hn, hnl, hkk⟩ := hm
  have hlast := h.last x.c3 hj
  have hnum := numsP_at (x := x) h.len hj
  have hnn := h.nums x.c3
  have hb1 : ∀ j, 0 ≤ numAt (numsP x ns) j ∧ numAt (numsP x ns) j ≤ ((i + 1 : Nat) : Int) := fun j => by
    by_cases hj3 : j < 3
    · rw [numsP_at h.len hj3]
      have h1 := h.nums j
      split
      · omega
      · omega
    · unfold numAt
      rw [List.getElem?_eq_none (by rw [numsP_len h.len]; omega)]
      dsimp only
      omega
  have hv1 : ∀ b ∈ P.objs, 1 ≤ b.version ∧ b.version ≤ ((i + 1 : Nat) : Int) := fun b hb => by have := h.vers b hb; omega
  by_cases hsame : x.again = false ∨ numAt ns x.c3 = 0
  · -- a new number: an act is done
    have hnum1 : r.num = numAt ns x.c3 + 1 := by rw [hn, hnum, if_pos ⟨rfl, hsame⟩]
    have hd : P.done r = (PT.putA (P.act r ⟨r.client, r.num, 0, 0, 0, r.name, []⟩).1 { (P.act r ⟨r.client, r.num, 0, 0, 0, r.name, []⟩).2 with epoch := (P.act r ⟨r.client, r.num, 0, 0, 0, r.name, []⟩).1.epoch },
        { (P.act r ⟨r.client, r.num, 0, 0, 0, r.name, []⟩).2 with epoch := (P.act r ⟨r.client, r.num, 0, 0, 0, r.name, []⟩).1.epoch }, 0) := by
      unfold PT.done
      rw [if_neg (by rw [ht]; simp), if_neg (by rw [hc, hlast]; omega), if_neg (by rw [hc, hlast]; omega)]
    have ha := act_objs P h.ok r ⟨r.client, r.num, 0, 0, 0, r.name, []⟩ rfl ht
    have hf := act_fit h.ok.fit ht r.name
    have hans := act_answers P r ⟨r.client, r.num, 0, 0, 0, r.name, []⟩
    rw [hd] at hok' ⊢
    obtain ⟨y, hy⟩ : ∃ y, P.act r ⟨r.client, r.num, 0, 0, 0, r.name, []⟩ = y := ⟨_, rfl⟩
    rw [hy] at ha hf hans hok' ⊢
    have hsI : y.1.keys.Pairwise (fun a b => a < b) := by
      have := h.ok.sortI
      unfold PT.keys at this ⊢
      rw [hans]; exact this
    have hl2 : ∀ c : Int, y.1.last c = P.last c := fun c => by unfold PT.last PT.hitA PT.posA PT.keys; rw [hans]
    have hcl : y.2.client = r.client := hf.2.1
    have hnm : y.2.num = r.num := hf.2.2.1
    have hlp : (y.1.putA { y.2 with epoch := y.1.epoch }).last r.client = { y.2 with epoch := y.1.epoch } := by
      rw [PT.last_putA hsI hok'.sortI, if_pos hcl.symm]
    have htl := once_tail (P := y.1.putA { y.2 with epoch := y.1.epoch }) ht hlp hnm
    have hob : ∀ t, (y.1.putA { y.2 with epoch := y.1.epoch }).ver t = y.1.ver t ∧ (y.1.putA { y.2 with epoch := y.1.epoch }).env t = y.1.env t := fun t => ver_objs rfl t
    have hput : r.kind = 2 ∧ r.version = P.ver r.name + 1 ∧ y.1 = P.put ⟨r.name, r.version, r.env⟩ ∧ y.2 = { (⟨r.client, r.num, 0, 0, 0, r.name, []⟩ : AN) with version := r.version } → y.1.get r.name = some ⟨r.name, r.version, r.env⟩ := fun hq => by
      have hso : (P.put ⟨r.name, r.version, r.env⟩).names.Pairwise (fun a b => Lib.compareBytes a b < 0) := by rw [← hq.2.2.1]; exact hok'.sortN
      rw [hq.2.2.1]
      exact PT.get_mem hso (PT.mem_put h.ok.sortN ⟨r.name, r.version, r.env⟩)
    refine ⟨⟨rfl, hnm, hcl, ?_, ?_, htl.1, htl.2.1, htl.2.2⟩, ⟨hok', numsP_len h.len, hb1, fun j hj3 => ?_, fun b hb => ?_⟩⟩
    · rcases ha.1 with ho | hq
      · left
        have := ver_objs ho r.name
        exact ⟨(hob _).1.trans this.1, (hob _).2.trans this.2⟩
      · right
        have hg := hput hq
        have h1 : y.1.ver r.name = r.version := by unfold PT.ver; rw [hg]
        have h2 : y.1.env r.name = r.env := by unfold PT.env; rw [hg]
        refine ⟨(hob _).1.trans (h1.trans hq.2.1), hq.1, ?_, ?_, (hob _).2.trans h2⟩
        · show y.2.code = 0
          rw [hq.2.2.2]
        · show y.2.version = _
          rw [(hob _).1, h1, hq.2.2.2]
    · exact ha.2
    · rw [PT.last_putA hsI hok'.sortI]
      rw [numsP_at h.len hj3]
      by_cases e : j = x.c3
      · subst e
        rw [if_pos (by show ((x.c3 : Nat) : Int) = y.2.client; rw [hcl, hc]), if_pos ⟨rfl, hsame⟩]
        show y.2.num = _
        rw [hnm, hnum1]
      · rw [if_neg (by show ¬ ((j : Nat) : Int) = y.2.client; rw [hcl, hc]; omega), if_neg (fun hh => e hh.1), hl2]
        exact h.last j hj3
    · rcases ha.1 with ho | hq
      · exact hv1 b (by rw [← ho]; exact hb)
      · have hb' : b ∈ (P.put ⟨r.name, r.version, r.env⟩).objs := by rw [← hq.2.2.1]; exact hb
        rcases Go.Proofs.YtmlmhnhilemjhaaDoor.mem_put hb' with rfl | hb'
        · have := h.ver r.name
          show 1 ≤ r.version ∧ r.version ≤ _
          rw [hq.2.1]
          omega
        · exact hv1 b hb'
  · -- the number of the last one: answered as it was
    have hnum1 : r.num = numAt ns x.c3 := by rw [hn, hnum, if_neg (fun hh => hsame hh.2)]
    have hne : numAt ns x.c3 ≠ 0 := fun hh => hsame (.inr hh)
    have hle : (P.last r.client).num = r.num := by rw [hc, hlast, hnum1]
    have hd : P.done r = (P, P.last r.client, 0) := by
      unfold PT.done
      rw [if_neg (by rw [ht]; simp), if_pos hle.symm]
    rw [hd] at hok' ⊢
    have htl := once_tail (P := P) ht rfl hle
    refine ⟨⟨rfl, hle, PT.last_client h.ok.sortI (by rw [hle, hnum1]; exact hne), .inl ⟨rfl, rfl⟩, by show P.epoch ≤ P.epoch ∧ P.epoch ≤ P.epoch + 1; omega, htl.1, htl.2.1, htl.2.2⟩, ⟨h.ok, numsP_len h.len, hb1, fun j hj3 => ?_, hv1⟩⟩
    rw [numsP_at h.len hj3, if_neg (fun hh => hsame hh.2)]
    exact h.last j hj3
end Go.Proofs.YtmlmhnhilemjhaaDoor
end

section
namespace Go.Proofs.YtmlmhnhilemjhaaDoor
open Go.RowKit
set_option linter.unusedVariables false
set_option maxRecDepth 100000
set_option linter.unusedSimpArgs false

theorem isT.own_u8 {w : World} {p : Nat} {s : TS} (h : isT w p s) {G : List Nat} (hG : u8rows w G) : ∀ y ∈ own p s, y ∉ G := fun y hy hm => by
  obtain ⟨cs, hr⟩ := hG y hm
  unfold own at hy
  rcases List.mem_cons.1 hy with rfl | hy
  · exact (hr.apart h.row (by decide)) rfl
  · rcases List.mem_append.1 hy with hy | hy
    · rcases List.mem_append.1 hy with hy | hy
      · exact h.kown.apart hr (by decide) hy
      · exact h.vown.apart hr (by decide) hy
    · rcases List.mem_append.1 hy with hy | hy
      · exact h.iown.apart hr (by decide) hy
      · exact h.aown.apart hr (by decide) hy
def doneOn2 (w0 : World) (N : List Nat) (p : Nat) (x : PT × AN × Int) (w : World) (e : Ending) (w' : World) : Prop :=
  ∃ v G, e = .returned (.tuple #[.agg (anL x.2.1 v).toArray, .int .i64 x.2.2]) ∧ bytesV w' G v x.2.1.env ∧ newIn w w' G ∧ lawT w0 (N ++ G) w' p x.1 ∧ keepN N w w' ∧ x.2.1.name.length = 32
theorem lawT.done2 {w0 : World} {N : List Nat} {w : World} {p : Nat} {P : PT} (h : lawT w0 N w p P) {F : List Nat} {r : RQ} {ev : Value} (hr : rqV w F r ev) {X : List Value} (hX : rqL r ev = X) {x : PT × AN × Int} (hx : P.done r = x) :
    Calls Tryd.prog 11 #[.pointer (some ⟨p, 0, none⟩), .agg X.toArray] w (doneOn2 w0 N p x w) := by
  subst hx
  subst hX
  obtain ⟨s, h1, h2, h3⟩ := h.is
  have hv := h.fit.ver r.name
  have hlen : s.keys.length < 100 := by
    have := sorted_len s.keys 0 2 h1.sortI (fun x hx => by
      obtain ⟨b, hb, rfl⟩ := List.mem_map.1 hx
      have hm : b.ans ∈ P.answers := by rw [← h2]; exact List.mem_map.2 ⟨b, hb, rfl⟩
      exact ⟨(h.fit.ans _ hm).1.1, h.low _ hm⟩)
    omega
  have hb : IntKind.i64.wrap (verN s r.name + 1) = verN s r.name + 1 := by rw [← ver_pure, h2, IntKind.wrap_i64]; omega
  have hep : 0 ≤ s.epoch ∧ s.epoch ≤ 255 := by have := h.fit.ep; rw [← h2] at this; exact this
  refine (do_any p s F r ev w h1 hr h.sizes hep hb hlen).mono ?_
  intro e w' hd
  rw [h2] at hd
  obtain ⟨v, G, he, hbv, hu, hG⟩ := hd.ret
  obtain ⟨s', t1, t2, t3⟩ := hd.is
  have hf := done_fit h.fit h.low r
  have hs := h.kept.size
  have hks := hd.kept.size
  refine ⟨v, G, he, hbv, hG, ⟨⟨s', t1, t2, fun y hy => ?_⟩, hf.1, hf.2, fun y hy => ?_, h.kept.then hd.kept (fun y hy => .inr (h3 y hy).2), h.sz⟩, ⟨own p s, hd.kept, fun y hy => (h3 y hy).1⟩, h2 ▸ done_name' h1 r hr.1⟩
  · have hnG := t1.own_u8 hu y hy
    rcases t3 y hy with q | q
    · exact ⟨fun hm => by rcases List.mem_append.1 hm with hm | hm; exact (h3 y q).1 hm; exact hnG hm, (h3 y q).2⟩
    · exact ⟨fun hm => by rcases List.mem_append.1 hm with hm | hm; have := h.old y hm; omega; exact hnG hm, by omega⟩
  · rcases List.mem_append.1 hy with hy | hy
    · exact Nat.lt_of_lt_of_le (h.old y hy) hks
    · exact (hG y hy).2
theorem lawT.pokeAlso {w0 : World} {N : List Nat} {w : World} {p : Nat} {P : PT} (h : lawT w0 N w p P) {S M : List Nat} {w' : World} (hk : keepBut S w w') (hS : ∀ y ∈ S, y ∈ N ∧ w0.heap.size ≤ y ∧ ∃ t cs, rowAt w y t cs ∧ t ≠ 5) (hM : ∀ y ∈ M, w.heap.size ≤ y ∧ y < w'.heap.size) : lawT w0 (N ++ M) w' p P := by
  obtain ⟨s, h1, h2, h3⟩ := h.is
  have hO : ∀ y ∈ own p s, y ∉ S := fun y hy hm => (h3 y hy).1 (hS y hm).1
  have hF : ∀ y ∈ s.F, y ∉ S := fun y hy hm => by
    obtain ⟨cs, hc⟩ := h1.blocks y hy
    obtain ⟨t, ds, hr, ht⟩ := (hS y hm).2.2
    exact ht (hr.uniq hc).1
  refine ⟨⟨s, h1.keepAll hk hO hF, h2, fun y hy => ⟨fun hm => ?_, (h3 y hy).2⟩⟩, h.fit, h.low, fun y hy => ?_, h.kept.then hk (fun y hy => .inr (hS y hy).2.1), h.sz⟩
  · rcases List.mem_append.1 hm with hm | hm
    · exact (h3 y hy).1 hm
    · have a := h1.lt y hy
      have b := (hM y hm).1
      omega
  · rcases List.mem_append.1 hy with hy | hy
    · exact Nat.lt_of_lt_of_le (h.old y hy) hk.size
    · exact (hM y hy).2
/-- a new block in a world that only grew -/
theorem keepN.row2 {N : List Nat} {w w' : World} (h : keepN N w w') {g : Nat} {t : TypeId} {cs : Array Value} (hr : rowAt w g t cs) (hg : g ∈ N) : rowAt w' g t cs := h.row hr hg
theorem name_neq (n : List UInt8) (hn : n.length = 32) (w : World) :
    (binOp .neq 28 (.agg (nameL n).toArray) (.agg (nameL n).toArray)).run Tryd.prog w = .ok (.bool false) w := by
  obtain ⟨i0, hi0, _⟩ := info_parts infoU8n
  obtain ⟨r, hr, hiff⟩ := run_eqItems_plain (P := Tryd.prog) w 9998 plainU8 (nameL n).toArray (nameL n).toArray _ _ _ (nameL_lits n hn) (nameL_lits n hn)
  rw [run_neq_struct, run_equalIn_array w 9999 (nameL n).toArray (nameL n).toArray Tryd.underlying28 hi0, hr]
  simp only [Result.andThen_ok]
  congr 2
  rw [hiff.2 rfl]
  rfl
end Go.Proofs.YtmlmhnhilemjhaaDoor
end

section
namespace Go.Proofs.YtmlmhnhilemjhaaDoor
open Go.RowKit
set_option linter.unusedVariables false
set_option maxRecDepth 100000
set_option linter.unusedSimpArgs false
set_option linter.unusedSectionVars false

theorem cmp_zero : ∀ (k : Nat) (l : List UInt8), l.length = k → 0 ≤ Lib.compareBytes l (List.replicate k 0)
  | 0, [], _ => by simp [Lib.compareBytes]
  | k + 1, b :: l, h => by
    rw [List.replicate_succ]
    unfold Lib.compareBytes
    have hb : ¬ b < 0 := UInt8.not_lt.2 (UInt8.le_iff_toNat_le.2 (by simp))
    rw [if_neg hb]
    split
    · omega
    · exact cmp_zero k l (by simpa using h)
section
variable {P : PT} (hok : P.ok)
include hok
theorem PT.ok.next_at {i : Nat} {n : List UInt8} (hi : P.names[i]? = some n) : P.next n = P.names[i + 1]? ∧ P.hit n = true := by
  have hst := strictN_of hok.sortN n
  have h1 : P.hit n = true := hitOf_eq hst hi (cmpB_refl n)
  have h2 : P.pos n = i := posOf_eq hst hi (cmpB_refl n)
  unfold PT.next
  rw [h1, h2, if_pos rfl]
  exact ⟨rfl, rfl⟩
theorem PT.ok.next_zero : (P.hit nameZ = false → P.next nameZ = P.names[0]?) ∧ (P.hit nameZ = true → P.names[0]? = some nameZ) := by
  have hge : ∀ (t : Nat) (x : List UInt8), 0 ≤ t → P.names[t]? = some x → 0 ≤ Lib.compareBytes x nameZ := fun t x _ hx => cmp_zero 32 x (hok.names x (List.mem_of_getElem? hx))
  have hp : P.pos nameZ = 0 := posOf_at _ P.names 0 (by omega) (fun t x h => absurd h (by omega)) hge
  refine ⟨fun h => ?_, fun h => ?_⟩
  · unfold PT.next
    rw [hp, h]
    simp
  · unfold PT.hit hitOf at h
    have hp' : posOf (fun n => Lib.compareBytes n nameZ) P.names = 0 := hp
    rw [hp'] at h
    split at h
    · rename_i x hx
      rw [hx, cmpB_eq x nameZ (of_decide_eq_true h)]
    · cases h
theorem PT.ok.ver_hit (hv : ∀ b ∈ P.objs, 1 ≤ b.version) (n : List UInt8) : (P.hit n = true → 1 ≤ P.ver n) ∧ (P.hit n = false → P.ver n = 0) := by
  refine ⟨fun h => ?_, fun h => ?_⟩
  · unfold PT.ver PT.get
    rw [if_pos h]
    have hl : ∃ b, P.objs[P.pos n]? = some b := by
      unfold PT.hit hitOf at h
      split at h
      · rename_i x hx
        have := (List.getElem?_eq_some_iff.1 hx).1
        unfold PT.names at this
        rw [List.length_map] at this
        exact ⟨_, List.getElem?_eq_getElem this⟩
      · cases h
    obtain ⟨b, hb⟩ := hl
    rw [hb]
    exact hv b (List.mem_of_getElem? hb)
  · unfold PT.ver PT.get
    rw [if_neg (by rw [h]; simp)]
/-- the request for the next one -/
theorem PT.ok.ask_next {m : Int} (hl : (P.last 0).num = m) (hm : 0 ≤ m ∧ m ≤ 1000000) (at_ : List UInt8) :
    P.done ⟨0, m + 1, 3, 0, at_, []⟩ = match P.next at_ with
      | some n => (P.putA ⟨0, m + 1, 0, P.ver n, P.epoch, n, P.env n⟩, ⟨0, m + 1, 0, P.ver n, P.epoch, n, P.env n⟩, 0)
      | none => (P.putA ⟨0, m + 1, 1, 0, P.epoch, at_, []⟩, ⟨0, m + 1, 1, 0, P.epoch, at_, []⟩, 0) := by
  have ht : RQ.tok ⟨0, m + 1, 3, 0, at_, []⟩ = true := by
    unfold RQ.tok
    rw [inP_yes (by show (0 : Int) ≤ 0 ∧ (0 : Int) ≤ 2; omega), inP_yes (by show (1 : Int) ≤ m + 1 ∧ m + 1 ≤ 9007199254740991; omega)]
    rfl
  unfold PT.done
  rw [if_neg (by rw [ht]; simp), if_neg (by show ¬ (m + 1 = (P.last 0).num); rw [hl]; omega), if_neg (by show ¬ (m + 1 < (P.last 0).num); rw [hl]; omega)]
  unfold PT.act
  rw [if_neg (by show ¬ (3 : Int) = 1; decide), if_neg (by show ¬ (3 : Int) = 2; decide), if_pos (by rfl)]
  unfold aNext
  dsimp only
  cases hn : P.next at_ with
  | none => rfl
  | some n =>
    obtain ⟨i, hi⟩ : ∃ i, P.names[i]? = some n := ⟨_, by unfold PT.next at hn; exact hn⟩
    have hh := (PT.ok.next_at hok hi).2
    dsimp only
    unfold aGet
    dsimp only
    rw [if_pos hh]
end
/-- what holds in TableNext's second loop: the objects are P's -/
structure walkI (P Q : PT) (m : Int) (at_ : List UInt8) (k : Nat) : Prop where
  ok : Q.ok
  objs : Q.objs = P.objs
  last : (Q.last 0).num = m
  len : at_.length = 32
  next : Q.next at_ = P.names[k]?
theorem walkI.names {P Q : PT} {m : Int} {at_ : List UInt8} {k : Nat} (h : walkI P Q m at_ k) : Q.names = P.names := by unfold PT.names; rw [h.objs]
theorem walkI.step {P Q : PT} {m : Int} {at_ n : List UInt8} {k : Nat} (h : walkI P Q m at_ k) (hm : 0 ≤ m ∧ m ≤ 1000000) (hk : P.names[k]? = some n) {Q' : PT} {a : AN} {e : Int} (hd : Q.done ⟨0, m + 1, 3, 0, at_, []⟩ = (Q', a, e)) (hok : Q'.ok) :
    e = 0 ∧ a.code = 0 ∧ a.name = n ∧ a.version = Q'.ver n ∧ a.env = Q'.env n ∧ walkI P Q' (m + 1) n (k + 1) := by
  have h1 := PT.ok.ask_next h.ok h.last hm at_
  rw [h.next, hk] at h1
  dsimp only at h1
  rw [hd] at h1
  injection h1 with h1 h2
  injection h2 with h2 h3
  have hob : Q'.objs = Q.objs := by rw [h1]; rfl
  have hv := ver_objs hob n
  have hcl : (Q'.last 0).num = m + 1 := by
    have hs : (Q.putA ⟨0, m + 1, 0, Q.ver n, Q.epoch, n, Q.env n⟩).keys.Pairwise (fun a b => a < b) := by rw [← h1]; exact hok.sortI
    rw [h1, PT.last_putA h.ok.sortI hs, if_pos rfl]
  have hnm : Q'.names = P.names := by unfold PT.names; rw [hob, h.objs]
  refine ⟨h3, by rw [h2], by rw [h2], by rw [h2, hv.1], by rw [h2, hv.2], ⟨hok, hob.trans h.objs, hcl, ?_, ?_⟩⟩
  · exact hok.names n (by rw [hnm]; exact List.mem_of_getElem? hk)
  · rw [(PT.ok.next_at hok (i := k) (by rw [hnm]; exact hk)).1, hnm]
theorem walkI.last_ {P Q : PT} {m : Int} {at_ : List UInt8} {k : Nat} (h : walkI P Q m at_ k) (hm : 0 ≤ m ∧ m ≤ 1000000) (hk : P.names[k]? = none) {Q' : PT} {a : AN} {e : Int} (hd : Q.done ⟨0, m + 1, 3, 0, at_, []⟩ = (Q', a, e)) :
    e = 0 ∧ a.code = 1 ∧ a.name = at_ := by
  have h1 := PT.ok.ask_next h.ok h.last hm at_
  rw [h.next, hk] at h1
  dsimp only at h1
  rw [hd] at h1
  injection h1 with h1 h2
  injection h2 with h2 h3
  exact ⟨h3, by rw [h2], by rw [h2]⟩
theorem walkI.start {P : PT} {ns : List Int} {i : Nat} (h : P.inv ns i) : (P.hit nameZ = false → walkI P P (numAt ns 0) nameZ 0 ∧ P.ver nameZ = 0) ∧ (P.hit nameZ = true → walkI P P (numAt ns 0) nameZ 1 ∧ 1 ≤ P.ver nameZ) := by
  have hz := PT.ok.next_zero h.ok
  have hv := PT.ok.ver_hit h.ok (fun b hb => (h.vers b hb).1) nameZ
  have hl := h.last 0 (by omega)
  refine ⟨fun hh => ⟨⟨h.ok, rfl, hl, nameZ_len, hz.1 hh⟩, hv.2 hh⟩, fun hh => ⟨⟨h.ok, rfl, hl, nameZ_len, ?_⟩, hv.1 hh⟩⟩
  exact (PT.ok.next_at h.ok (hz.2 hh)).1
end Go.Proofs.YtmlmhnhilemjhaaDoor
end

section
namespace Go.Proofs.YtmlmhnhilemjhaaDoor
open Go.RowKit
set_option linter.unusedVariables false
set_option maxRecDepth 100000
set_option linter.unusedSimpArgs false

theorem ownsN_at {w : World} {v : Value} {ns : List (List UInt8)} (hl : ∀ n ∈ ns, n.length = 32) (h : owns w 28 32 v ns.length (flatN ns)) {i : Nat} {n : List UInt8} (hi : ns[i]? = some n) :
    ∃ g c, v = .slice (some ⟨g, 0, none⟩) ns.length c ∧ w.rangeAt g (i * 32) (nameL n) := by
  have hlt := (List.getElem?_eq_some_iff.1 hi).1
  rcases h.2 with ⟨_, h0⟩ | ⟨g, cap, cur, he, hr, h1, h2, h3, h4⟩
  · omega
  · exact ⟨g, cap, he, fun j u hu => (hr.cell _).trans (take_at h4 (flatN_at _ _ _ hl hi j u hu))⟩
theorem keepN.owns {N : List Nat} {w w' : World} (h : keepN N w w') {e : TypeId} {sz n : Nat} {v : Value} {xs : List Value} (ho : owns w e sz v n xs) (hN : ∀ y ∈ homes v, y ∈ N) : owns w' e sz v n xs := by
  obtain ⟨S, h1, h2⟩ := h
  exact ho.keep h1 (fun y hy hm => h2 y hm (hN y hy))
theorem aQue.read {w : World} {g o : Nat} (h : aQue w g o) : ∃ x : ASK, x.ok ∧ w.rangeAt g o (askL x) := by
  obtain ⟨x0, x1, x2, x3, x4, e0, e1, e2, e3, e4, q0, q1, q2, q3⟩ := h
  have hr : ∀ {x : Int}, (Lit.int .i64 x).wf = true → -9223372036854775808 ≤ x ∧ x ≤ 9223372036854775807 := fun hx => by
    simp [Lit.wf, IntKind.min, IntKind.max, IntKind.signed, IntKind.bits] at hx
    omega
  refine ⟨⟨x0, x1, x2, x3, x4⟩, ⟨hr q0, hr q1, hr q2, hr q3⟩, fun j v hv => ?_⟩
  match j, hv with
  | 0, hv => simp [askL] at hv; subst hv; exact e0
  | 1, hv => simp [askL] at hv; subst hv; exact e1
  | 2, hv => simp [askL] at hv; subst hv; exact e2
  | 3, hv => simp [askL] at hv; subst hv; exact e3
  | 4, hv => simp [askL] at hv; subst hv; exact e4
  | j + 5, hv => simp [askL] at hv
theorem quesAt.keep {w w' : World} {g o : Nat} {l : List Value} (h : w.rangeAt g o l) (hg : g < w.heap.size) (hk : keepBut [] w w') : w'.rangeAt g o l := fun j v hv => by
  rw [hk.cell (p := ⟨g, o + j, none⟩) hg (by simp)]
  exact h j v hv
theorem yieldsIf_bin_agg {P : Program} {ops : Array Oper} {S : World → Prop} {o : Oper} {a : Act} (op : BinOp) (t t2 : TypeId) (x y : Operand) (ho : o.op = .binOp op t x y t2)
    (hgt : P.eqGuardType P.depth t = false) (xs ys : Array Value) (hx : a.eval x = .agg xs) (hy : a.eval y = .agg ys) (v : Value) (hr : ∀ w, (binOp op t (.agg xs) (.agg ys)).run P w = .ok v w)
    (hw : Region.wanted o (yielded ops a.tmps) = true) : YieldsIf P ops S o v a :=
  Or.inl ⟨hw, fun w _ => by
    have hg : (eqGuard op t x y (.agg xs) (.agg ys)).run P w = .ok () w := by
      cases op <;> simp [eqGuard, hgt, go_sem]
    unfold execOp
    simp only [ho, hx, hy, Sem.run_bind, hg, hr, Result.andThen_ok, Sem.run_pure]⟩
theorem three {ns : List Int} (h : ns.length = 3) : ∃ a b c, ns = [a, b, c] := by
  match ns, h with
  | [a, b, c], _ => exact ⟨a, b, c, rfl⟩
end Go.Proofs.YtmlmhnhilemjhaaDoor
end
