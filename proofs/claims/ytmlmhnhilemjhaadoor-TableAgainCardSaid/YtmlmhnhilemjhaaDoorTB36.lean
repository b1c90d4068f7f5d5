/-
  TABLE, 36: Bytes.
-/
import Derived.Test.YtmlmhnhilemjhaaDoorTB35
namespace Go.Proofs.YtmlmhnhilemjhaaDoor
open Go.RowKit
set_option linter.unusedVariables false
set_option maxRecDepth 100000
set_option linter.unusedSimpArgs false

def obB (b : OP) : List UInt8 := ((b.name ++ cb b.version.toNat) ++ cb b.env.length) ++ b.env
def anB (a : AN) : List UInt8 := ((((((beBytes 1 a.client.toNat ++ cb a.num.toNat) ++ beBytes 1 a.code.toNat) ++ cb a.version.toNat) ++ beBytes 1 a.epoch.toNat) ++ a.name) ++ cb a.env.length) ++ a.env
def objsB : List OP → List UInt8
  | [] => []
  | b :: r => obB b ++ objsB r
def ansB : List AN → List UInt8
  | [] => []
  | a :: r => anB a ++ ansB r
def headB (P : PT) : List UInt8 := ([] ++ beBytes 1 P.epoch.toNat) ++ cb P.objs.length
def bytesT (P : PT) : List UInt8 := ((headB P ++ objsB P.objs) ++ cb P.answers.length) ++ ansB P.answers
structure PT.fit (P : PT) : Prop where
  ep : 0 ≤ P.epoch ∧ P.epoch ≤ 255
  vers : ∀ b ∈ P.objs, 0 ≤ b.version ∧ b.version ≤ 9007199254740991
  ans : ∀ a ∈ P.answers, (0 ≤ a.client ∧ a.client < 256) ∧ (0 ≤ a.num ∧ a.num ≤ 9007199254740991) ∧ (0 ≤ a.code ∧ a.code < 256) ∧ (0 ≤ a.version ∧ a.version ≤ 9007199254740991) ∧ (0 ≤ a.epoch ∧ a.epoch < 256)
theorem objsB_snoc : ∀ (l : List OP) (i : Nat) (b : OP), l[i]? = some b → objsB (l.take (i + 1)) = objsB (l.take i) ++ obB b
  | [], _, _, h => by simp at h
  | c :: r, 0, b, h => by simp at h; subst h; simp [objsB]
  | c :: r, i + 1, b, h => by
    have := objsB_snoc r i b (by simpa using h)
    rw [List.take_succ_cons, List.take_succ_cons, objsB, objsB, this, List.append_assoc]
theorem ansB_snoc : ∀ (l : List AN) (i : Nat) (b : AN), l[i]? = some b → ansB (l.take (i + 1)) = ansB (l.take i) ++ anB b
  | [], _, _, h => by simp at h
  | c :: r, 0, b, h => by simp at h; subst h; simp [ansB]
  | c :: r, i + 1, b, h => by
    have := ansB_snoc r i b (by simpa using h)
    rw [List.take_succ_cons, List.take_succ_cons, ansB, ansB, this, List.append_assoc]
theorem cb_short {n : Nat} (h : n ≤ 9007199254740991) : (cb n).length ≤ 8 := cb_len_le n (by unfold mxN; exact h)
theorem obB_len {b : OP} (hn : b.name.length = 32) (hv : 0 ≤ b.version ∧ b.version ≤ 9007199254740991) (he : b.env.length ≤ 1000) : (obB b).length ≤ 1100 := by
  unfold obB
  have h1 := cb_short (n := b.version.toNat) (by omega)
  have h2 := cb_short (n := b.env.length) (by omega)
  simp only [List.length_append]
  omega
theorem anB_len {a : AN} (hn : a.name.length = 32) (h1 : 0 ≤ a.num ∧ a.num ≤ 9007199254740991) (h2 : 0 ≤ a.version ∧ a.version ≤ 9007199254740991) (he : a.env.length ≤ 1000) : (anB a).length ≤ 1100 := by
  unfold anB
  have h3 := cb_short (n := a.num.toNat) (by omega)
  have h4 := cb_short (n := a.version.toNat) (by omega)
  have h5 := cb_short (n := a.env.length) (by omega)
  simp only [List.length_append, beBytes_length]
  omega
theorem objsB_len : ∀ l : List OP, (∀ b ∈ l, b.name.length = 32 ∧ (0 ≤ b.version ∧ b.version ≤ 9007199254740991) ∧ b.env.length ≤ 1000) → (objsB l).length ≤ l.length * 1100
  | [], _ => by simp [objsB]
  | b :: r, h => by
    have h1 := obB_len (h b (by simp)).1 (h b (by simp)).2.1 (h b (by simp)).2.2
    have h2 := objsB_len r (fun c hc => h c (by simp [hc]))
    rw [objsB, List.length_append, List.length_cons]
    omega
theorem ansB_len : ∀ l : List AN, (∀ a ∈ l, a.name.length = 32 ∧ (0 ≤ a.num ∧ a.num ≤ 9007199254740991) ∧ (0 ≤ a.version ∧ a.version ≤ 9007199254740991) ∧ a.env.length ≤ 1000) → (ansB l).length ≤ l.length * 1100
  | [], _ => by simp [ansB]
  | b :: r, h => by
    have h1 := anB_len (h b (by simp)).1 (h b (by simp)).2.1 (h b (by simp)).2.2.1 (h b (by simp)).2.2.2
    have h2 := ansB_len r (fun c hc => h c (by simp [hc]))
    rw [ansB, List.length_append, List.length_cons]
    omega
theorem rowAt.seenAt {w : World} {d o : Nat} {t : TypeId} {cs : Array Value} {n : List UInt8} (h : rowAt w d t cs) (hl : ∀ j v, (nameL n)[j]? = some v → cs[o + j]? = some v) : seen w (some ⟨d, o, none⟩) d n := fun _ =>
  ⟨o, rfl, h.lt, fun j b hb => by
    rw [h.cell]
    exact hl j (bv b) (by unfold nameL; rw [List.getElem?_map, hb]; rfl)⟩
/-- a writer that has met no error since w0, where its slice was v0 -/
def wOn (w0 : World) (v0 : Value) (w : World) (p : Nat) (l : List UInt8) : Prop :=
  ∃ v, isWr w p v ⟨l, 0⟩ ∧ keepBut (p :: homes v0) w0 w ∧ ∀ x ∈ homes v, x ∈ homes v0 ∨ w0.heap.size ≤ x
theorem wOn.kept {w0 w : World} {v0 : Value} {p : Nat} {l : List UInt8} (h : wOn w0 v0 w p l) : keepBut (p :: homes v0) w0 w := by obtain ⟨_, _, k, _⟩ := h; exact k
theorem wOn.step {w0 w w' : World} {v0 v : Value} {p : Nat} {l m : List UInt8} {e : Ending} (h : isWr w p v ⟨l, 0⟩) (k : keepBut (p :: homes v0) w0 w) (hh : ∀ x ∈ homes v, x ∈ homes v0 ∨ w0.heap.size ≤ x) (hp : wrPost p v ⟨m, 0⟩ w e w') :
    e = .returned (.pointer (some ⟨p, 0, none⟩)) ∧ wOn w0 v0 w' p m := by
  obtain ⟨he, v', hw, hk, hh'⟩ := hp
  refine ⟨he, v', hw, k.then hk (fun x hx => ?_), fun x hx => ?_⟩
  · rcases List.mem_cons.1 hx with rfl | hx
    · exact .inl (by simp)
    · exact (hh x hx).imp (List.mem_cons_of_mem _) id
  · rcases hh' x hx with q | q
    · exact hh x q
    · have := k.size; exact .inr (by omega)
def onPost2 (w0 : World) (v0 : Value) (p : Nat) (l : List UInt8) (e : Ending) (w' : World) : Prop := e = .returned (.pointer (some ⟨p, 0, none⟩)) ∧ wOn w0 v0 w' p l
theorem wOn.num {w0 w : World} {v0 : Value} {p : Nat} {l : List UInt8} (h : wOn w0 v0 w p l) (n : Int) (hn : 0 ≤ n ∧ n < 256) (hb : l.length ≤ 1000000000) :
    Calls Tryd.prog 32 #[.pointer (some ⟨p, 0, none⟩), .int .i64 1, .int .i64 n] w (onPost2 w0 v0 p (l ++ beBytes 1 n.toNat)) := by
  obtain ⟨v, a, b, c⟩ := h
  refine (wnum_any p v _ 1 n w a hb).mono fun e w' hp => ?_
  rw [ws_num1 l hn.1 hn.2] at hp
  exact wOn.step a b c hp
theorem wOn.count {w0 w : World} {v0 : Value} {p : Nat} {l : List UInt8} (h : wOn w0 v0 w p l) (n : Int) (hn : 0 ≤ n ∧ n ≤ 9007199254740991) (hb : l.length ≤ 1000000000) :
    Calls Tryd.prog 33 #[.pointer (some ⟨p, 0, none⟩), .int .i64 n] w (onPost2 w0 v0 p (l ++ cb n.toNat)) := by
  obtain ⟨v, a, b, c⟩ := h
  refine (wcount_any p v _ n w a hb).mono fun e w' hp => ?_
  rw [ws_count l hn.1 hn.2] at hp
  exact wOn.step a b c hp
theorem wOn.raw {w0 w : World} {v0 : Value} {p : Nat} {l : List UInt8} (h : wOn w0 v0 w p l) (A : Option Addr) (g n c : Nat) (t : List UInt8) (hn : t.length = n) (hs : seen w A g t) (hb : l.length ≤ 1000000000) (hb2 : t.length ≤ 1000000000) :
    Calls Tryd.prog 35 #[.pointer (some ⟨p, 0, none⟩), .slice A n c] w (onPost2 w0 v0 p (l ++ t)) := by
  subst hn
  obtain ⟨v, a, b, d⟩ := h
  refine (wraw_any p v _ A g c t w a hs (show l.length + t.length ≤ _ by omega)).mono fun e w' hp => ?_
  rw [ws_raw] at hp
  exact wOn.step a b d hp
theorem wOn.text {w0 w : World} {v0 : Value} {p : Nat} {l : List UInt8} (h : wOn w0 v0 w p l) (A : Option Addr) (g n c b0 : Nat) (t : List UInt8) (hn : t.length = n) (hs : seen w0 A g t) (hg : t ≠ [] → g < b0) (h0 : b0 ≤ p ∧ (∀ x ∈ homes v0, b0 ≤ x) ∧ b0 ≤ w0.heap.size) (hb : l.length ≤ 1000000000) (hb2 : t.length ≤ 1000000000) :
    Calls Tryd.prog 36 #[.pointer (some ⟨p, 0, none⟩), .slice A n c] w (onPost2 w0 v0 p ((l ++ cb t.length) ++ t)) := by
  subst hn
  obtain ⟨v, a, b, d⟩ := h
  have hap : ∀ x ∈ homes v, b0 ≤ x := fun x hx => by rcases d x hx with q | q; exact h0.2.1 x q; omega
  refine (wtext_any p v _ A g c t w a (hs.keep b (fun hne hm => by
    have := hg hne
    rcases List.mem_cons.1 hm with q | q
    · omega
    · have := h0.2.1 _ q; omega)) (fun hne => ⟨fun e => by have := hg hne; omega, fun hm => by have := hg hne; have := hap g hm; omega⟩) hb hb2).mono fun e w' hp => ?_
  rw [ws_text l t hb2] at hp
  exact wOn.step a b d hp
theorem wOk.on {w0 w w7 : World} {p : Nat} {l : List UInt8} (h : wOk w0 w p l) (k : keepBut [] w w7) : ∃ v, wOn w7 v w7 p l ∧ p < w.heap.size ∧ (∀ x ∈ homes v, x < w.heap.size) ∧ w0.heap.size ≤ p ∧ (∀ x ∈ homes v, w0.heap.size ≤ x) := by
  obtain ⟨v, a, b, c, d⟩ := h
  exact ⟨v, ⟨v, a.keep k (by simp) (by simp), keepBut.refl _ _, fun x hx => .inl hx⟩, a.1.lt, fun x hx => a.2.lt x hx, b, c⟩
theorem wOn.ok {w0 w7 w : World} {v0 : Value} {p : Nat} {l : List UInt8} (h : wOn w7 v0 w p l) (k : keepBut [] w0 w7) (hp : w0.heap.size ≤ p) (hv : ∀ x ∈ homes v0, w0.heap.size ≤ x) : wOk w0 w p l := by
  obtain ⟨v, a, b, c⟩ := h
  have hs := k.size
  refine ⟨v, a, hp, fun x hx => ?_, k.then b (fun x hx => .inr ?_)⟩
  · rcases c x hx with q | q
    · exact hv x q
    · omega
  · rcases List.mem_cons.1 hx with rfl | hx
    · exact hp
    · exact hv x hx
theorem isT.oFacts {w : World} {p : Nat} {s : TS} (h : isT w p s) (hf : s.pure.fit) : ∀ b ∈ s.pure.objs, b.name.length = 32 ∧ (0 ≤ b.version ∧ b.version ≤ 9007199254740991) ∧ b.env.length ≤ 1000 := fun b hb => by
  obtain ⟨c, hc, rfl⟩ := List.mem_map.1 (show b ∈ s.objs.map OB.pure from hb)
  exact ⟨h.names _ (List.mem_map.2 ⟨c, hc, rfl⟩), hf.vers _ hb, h.lensO c hc⟩
theorem isT.aFacts {w : World} {p : Nat} {s : TS} (h : isT w p s) (hf : s.pure.fit) : ∀ a ∈ s.pure.answers, a.name.length = 32 ∧ (0 ≤ a.num ∧ a.num ≤ 9007199254740991) ∧ (0 ≤ a.version ∧ a.version ≤ 9007199254740991) ∧ a.env.length ≤ 1000 := fun a ha => by
  obtain ⟨c, hc, rfl⟩ := List.mem_map.1 (show a ∈ s.answers.map (·.ans) from ha)
  have := hf.ans _ ha
  exact ⟨h.ansN c hc, this.2.1, this.2.2.2.1, h.lensA c hc⟩
set_option maxHeartbeats 8000000 in
theorem tbytes_any (p : Nat) (s : TS) (w : World) (h : isT w p s) (hf : s.pure.fit) :
    Calls Tryd.prog 13 #[.pointer (some ⟨p, 0, none⟩)] w fun e w' => ∃ v G, e = .returned v ∧ bytesV w' G v (bytesT s.pure) ∧ newIn w w' G ∧ keepBut [] w w' := by
  have hof := h.oFacts hf
  have haf := h.aFacts hf
  have hs1 := h.small
  have hs2 := h.few
  have hno : s.names.length = s.objs.length := by unfold TS.names; rw [List.length_map]
  have hna : s.keys.length = s.answers.length := by unfold TS.keys; rw [List.length_map]
  have hpo : s.pure.objs.length = s.objs.length := by unfold TS.pure; simp
  have hpa : s.pure.answers.length = s.answers.length := by unfold TS.pure; simp
  have hlo : ∀ i, (objsB (s.pure.objs.take i)).length ≤ 110000 := fun i => by
    have h1 := objsB_len (s.pure.objs.take i) (fun b hb => hof b (List.mem_of_mem_take hb))
    have h2 : (s.pure.objs.take i).length ≤ 100 := by rw [List.length_take]; omega
    omega
  have hla : ∀ i, (ansB (s.pure.answers.take i)).length ≤ 110000 := fun i => by
    have h1 := ansB_len (s.pure.answers.take i) (fun b hb => haf b (List.mem_of_mem_take hb))
    have h2 : (s.pure.answers.take i).length ≤ 100 := by rw [List.length_take]; omega
    omega
  have hhd : (headB s.pure).length ≤ 10 := by
    unfold headB
    have := cb_short (n := s.pure.objs.length) (by omega)
    simp only [List.length_append, beBytes_length, List.length_nil]
    omega
  have hca := cb_short (n := s.pure.answers.length) (by omega)
  have HH := Lib.hid (And.intro h (And.intro hf (And.intro hof haf)))
  have HL := Lib.hid (And.intro hlo (And.intro hla (And.intro hhd hca)))
  have HN := Lib.hid (And.intro hpo (And.intro hpa (And.intro (show s.objs.length ≤ 100 by omega) (show s.answers.length ≤ 100 by omega))))
  obtain ⟨gk, ck, hkv, _⟩ := h.kown.form
  obtain ⟨gv, cv, hvv, _⟩ := h.vown.form
  obtain ⟨ga, ca, hav, _⟩ := h.aown.form
  rw [hno] at hkv
  have HV := Lib.hid (And.intro hkv (And.intro hvv hav))
  clear h hf hof haf hlo hla hhd hca hs1 hs2 hno hna hpo hpa hkv hvv hav
  go_enter Tryd.func13, Tryd.ntmps13
  go_upto_region 3 with (go_at_call 23; refine (none_no p s _ HH.out.1).mono ?_; rintro e w' ⟨rfl, rfl⟩)
  have KS : keepBut [] w w.drew := (keepBut.refl [] w).drew
  refine wp_region_held_drew (S := fun W => keepBut [] w W) (by kernel_rfl) KS (fun _ => ?_)
  refine wpAnyH_take (i := 1) (oi := ⟨_, _, _, _, _, _⟩) (v := ?_) rfl (by kernel_rfl) (by kernel_rfl) (by kernel_rfl) (fun _ _ _ h => h) (Or.inl ⟨by rfl, ?_⟩) KS ?_
  rotate_left
  · intro w' hSw; (go_simp; try with_reducible rfl)
  try simp only [Act.put, List.setIfInBounds_toArray, List.set_cons_zero, List.set_cons_succ]
  refine wpAnyH_take (i := 2) (oi := ⟨_, _, _, _, _, _⟩) (v := ?_) rfl (by kernel_rfl) (by kernel_rfl) (by kernel_rfl) (fun _ _ _ h => h) (Or.inl ⟨by rfl, ?_⟩) KS ?_
  rotate_left
  · intro w' hSw; (go_simp; try with_reducible rfl)
  try simp only [Act.put, List.setIfInBounds_toArray, List.set_cons_zero, List.set_cons_succ]
  refine wpAnyH_take (i := 3) (oi := ⟨_, _, _, _, _, _⟩) (v := ?_) rfl (by kernel_rfl) (by kernel_rfl) (by kernel_rfl) (fun _ _ _ h => h) (Or.inl ⟨by rfl, ?_⟩) KS ?_
  rotate_left
  · intro w' hSw; (go_simp; try with_reducible rfl)
  try simp only [Act.put, List.setIfInBounds_toArray, List.set_cons_zero, List.set_cons_succ]
  refine wpAnyH_take (i := 4) (oi := ⟨_, _, _, _, _, _⟩) (v := ?_) rfl (by kernel_rfl) (by kernel_rfl) (by kernel_rfl) (fun _ _ _ h => h) (Or.inl ⟨by rfl, ?_⟩) KS ?_
  rotate_left
  · intro w' hSw; have hy := ((HH.out.1.over hSw).row.cell 0); (go_simp; try with_reducible rfl)
  try simp only [Act.put, List.setIfInBounds_toArray, List.set_cons_zero, List.set_cons_succ]
  refine wpAnyH_take (i := 6) (oi := ⟨_, _, _, _, _, _⟩) (v := ?_) rfl (by kernel_rfl) (by kernel_rfl) (by kernel_rfl) (fun _ _ _ h => h) (Or.inl ⟨by rfl, ?_⟩) KS ?_
  rotate_left
  · intro w' hSw; (go_simp; try with_reducible rfl)
  try simp only [Act.put, List.setIfInBounds_toArray, List.set_cons_zero, List.set_cons_succ]
  refine wpAnyH_take (i := 7) (oi := ⟨_, _, _, _, _, _⟩) (v := ?_) rfl (by kernel_rfl) (by kernel_rfl) (by kernel_rfl) (fun _ _ _ h => h) (Or.inl ⟨by rfl, ?_⟩) KS ?_
  rotate_left
  · intro w' hSw; (go_simp; try with_reducible rfl)
  try simp only [Act.put, List.setIfInBounds_toArray, List.set_cons_zero, List.set_cons_succ]
  refine wpAnyH_take (i := 8) (oi := ⟨_, _, _, _, _, _⟩) (v := ?_) rfl (by kernel_rfl) (by kernel_rfl) (by kernel_rfl) (fun _ _ _ h => h) (Or.inl ⟨by rfl, ?_⟩) KS ?_
  rotate_left
  · intro w' hSw; (go_simp; try with_reducible rfl)
  try simp only [Act.put, List.setIfInBounds_toArray, List.set_cons_zero, List.set_cons_succ]
  refine wpAnyH_ready (rs := [0]) (by kernel_rfl) (by simp) ?_
  refine AllReadyH.cons (o := ⟨_, _, _, _, _, _⟩) rfl (fun K hK => ?_) AllReadyH.nil
  go_simp
  refine (wOk.start).mono ?_
  rintro e w1 ⟨pw, rfl, o1⟩
  have O1 := Lib.hid o1
  have K1 := Lib.hid (KS.then o1.kept (by simp))
  clear o1
  go_wp2_with fail
  refine hK.out _ _ K1.out (fun _ => ?_)
  clear hK K
  try simp only [Act.put, List.setIfInBounds_toArray, List.set_cons_zero, List.set_cons_succ]
  refine wpAnyH_ready (rs := [5]) (by kernel_rfl) (by simp) ?_
  refine AllReadyH.cons (o := ⟨_, _, _, _, _, _⟩) rfl (fun K hK => ?_) AllReadyH.nil
  go_simp
  refine (O1.out.num s.epoch HH.out.2.1.ep.1 (by have h1 := HH.out.2.1.ep.2; have h2 : s.pure.epoch = s.epoch := rfl; omega) (by simp)).mono ?_
  rintro e w2 ⟨rfl, o2⟩
  have O2 := Lib.hid o2
  have K2 := Lib.hid (KS.then o2.kept (by simp))
  clear o2
  go_wp2_with fail
  refine hK.out _ _ K2.out (fun _ => ?_)
  clear hK K
  try simp only [Act.put, List.setIfInBounds_toArray, List.set_cons_zero, List.set_cons_succ]
  refine wpAnyH_ready (rs := [9]) (by kernel_rfl) (by simp) ?_
  refine AllReadyH.cons (o := ⟨_, _, _, _, _, _⟩) rfl (fun K hK => ?_) AllReadyH.nil
  go_simp
  refine (countN_any p s _ (HH.out.1.over K2.out)).mono ?_
  rintro e w3 ⟨rfl, rfl⟩
  go_wp2_with fail
  refine hK.out _ _ K2.out (fun _ => ?_)
  clear hK K
  try simp only [Act.put, List.setIfInBounds_toArray, List.set_cons_zero, List.set_cons_succ]
  refine wpAnyH_ready (rs := [10]) (by kernel_rfl) (by simp) ?_
  refine AllReadyH.cons (o := ⟨_, _, _, _, _, _⟩) rfl (fun K hK => ?_) AllReadyH.nil
  go_simp
  refine (O2.out.count (s.objs.length : Nat) (by omega) (by have := HN.out.2.2.1; omega) (by simp [beBytes_length])).mono ?_
  rintro e w4 ⟨rfl, o4⟩
  have O4 := Lib.hid o4
  have K4 := Lib.hid (KS.then o4.kept (by simp))
  clear o4
  go_wp2_with fail
  refine hK.out _ _ K4.out (fun _ => ?_)
  clear hK K
  try simp only [Act.put, List.setIfInBounds_toArray, List.set_cons_zero, List.set_cons_succ]
  refine wpAnyH_take (i := 11) (oi := ⟨_, _, _, _, _, _⟩) (v := ?_) rfl (by kernel_rfl) (by kernel_rfl) (by kernel_rfl) (fun _ _ _ h => h) (Or.inl ⟨by rfl, ?_⟩) K4.out ?_
  rotate_left
  · intro w' hSw; (go_simp; try with_reducible rfl)
  try simp only [Act.put, List.setIfInBounds_toArray, List.set_cons_zero, List.set_cons_succ]
  refine wpAnyH_done (by kernel_rfl) ?_ _
  have O5 : Hid (wOk w.drew w4 pw (headB s.pure ++ objsB (s.pure.objs.take 0))) := Lib.hid (by
    have h1 := O4.out
    have e1 : headB s.pure ++ objsB (s.pure.objs.take 0) = ([] ++ beBytes 1 s.epoch.toNat) ++ cb ((s.objs.length : Nat) : Int).toNat := by
      unfold headB; rw [HN.out.1, List.take_zero, objsB, List.append_nil, Int.toNat_natCast]; rfl
    rw [e1]; exact h1)
  have yk : w4.cell? ⟨p, 2, none⟩ = some (.slice gk s.objs.length ck) := ((HH.out.1.over K4.out).row.cell 2).trans (congrArg some HV.out.1)
  go_upto_region 5 with fail
  go_loopw [4, 5, 6, 30] (fun _ _ _ i wr => ∃ j : Nat, i = .int .i64 j ∧ j ≤ s.objs.length ∧ wOk w.drew wr pw (headB s.pure ++ objsB (s.pure.objs.take j))) (fun _ _ _ i _ => s.objs.length - (intOf i).toNat)
  case atStart => exact ⟨0, rfl, by omega, O5.out⟩
  case round =>
    obtain ⟨j, rfl, hj, ho⟩ := hrel
    have HO := Lib.hid ho
    have hjl : s.objs.length ≤ 100 := HN.out.2.2.1
    clear ho yk
    by_cases hlt : j < s.objs.length
    · obtain ⟨b, hb⟩ : ∃ b, s.objs[j]? = some b := ⟨_, List.getElem?_eq_getElem hlt⟩
      have hbm := List.mem_of_getElem? hb
      have hnm : s.names[j]? = some b.name := by unfold TS.names; rw [List.getElem?_map, hb]; rfl
      have hpb : s.pure.objs[j]? = some b.pure := by show (s.objs.map OB.pure)[j]? = _; rw [List.getElem?_map, hb]; rfl
      have kr := ((keepBut.refl [] w).drew).then HO.out.kept (by simp)
      have hT := HH.out.1.over kr
      obtain ⟨g1, c1, e1, rk⟩ := hT.kAt hnm
      obtain ⟨g2, c2, e2, rv⟩ := hT.vAt hb
      have e1 := HV.out.1.symm.trans e1
      have e2 := HV.out.2.1.symm.trans e2
      injection e1 with e1 el1 e1c
      injection e2 with e2 el2 e2c
      clear el1
      try clear el2
      subst e1
      subst e2
      subst e1c
      subst e2c
      obtain ⟨Ae, ce, ge, hev, hce, hme, hse, hFe⟩ := HH.out.1.envO b hbm
      have hln : b.name.length = 32 := HH.out.1.names _ (List.mem_of_getElem? hnm)
      obtain ⟨Z, hZ⟩ : ∃ Z, nameL nameZ = Z := ⟨_, rfl⟩
      have hz := zv_nm
      rw [hZ] at hz
      have HZ := Lib.hid (And.intro hz (show Z.length = 32 by rw [← hZ, nameL_len, nameZ_len]))
      obtain ⟨Y, hY⟩ : ∃ Y, nameL b.name = Y := ⟨_, rfl⟩
      have HY := Lib.hid (And.intro (show Y.length = 32 by rw [← hY, nameL_len, hln]) (And.intro (show ∀ u ∈ Y, u.oneCell' = true by rw [← hY]; exact nameL_one) hY))
      rw [hY] at rk
      have hobl : obL b = [.int .i64 b.version, .slice Ae b.env.length ce] := by unfold obL; rw [hev]
      rw [hobl] at rv
      obtain ⟨w5, hw5⟩ : ∃ w5, wr.alloc (.cells Z.toArray 28) = w5 := ⟨_, rfl⟩
      obtain ⟨d, hd⟩ : ∃ d, wr.heap.size = d := ⟨_, rfl⟩
      have r5 : rowAt w5 d 28 Z.toArray := hd ▸ hw5 ▸ rowAt.new _ _ _
      have k5 : keepBut [] wr w5 := hw5 ▸ (keepBut.refl [] wr).alloc _
      have HW5 := Lib.hid hw5
      have HD := Lib.hid hd
      have HK5 := Lib.hid k5
      have R5 := Lib.hid r5
      have RK := Lib.hid rk
      have HT := Lib.hid hT
      have HB := Lib.hid (And.intro hb (And.intro hpb (And.intro hln hbm)))
      have HE := Lib.hid (And.intro hse (And.intro hFe hev))
      have RV := Lib.hid rv
      have HKR := Lib.hid kr
      have bj : (j : Int) < (s.objs.length : Int) := by omega
      clear hw5 hd r5 k5 rk rv hT hb hpb hln hbm hse hFe hev hnm hz hZ hY hobl kr hce hme
      go_upto_region 7 with (first
        | (refine wpList_load_mid rfl 28 (.tmp 33) rfl g1 (j * 32) rfl Y _ RK.out Tryd.underlying28 rfl (by rw [HY.out.1]; exact infoName) ?_)
        | (with_reducible refine wpList_alloc_to _ _ rfl 28 rfl _ HZ.out.1 HW5.out ?_)
        | (rw [HD.out]; refine wpList_store_mid rfl 28 (.tmp 5) (.tmp 34) rfl d 0 Y.toArray rfl rfl (R5.out.there (by simp only [List.size_toArray]; rw [HY.out.1, HZ.out.2]; omega)) (by rw [List.size_toArray, HY.out.1]; exact infoName) (all_oneCell_toArray HY.out.2.1) ?_))
      have r6 := R5.out.setL (vs := Y) (o := 0)
      rw [putL_all (by simp only [List.size_toArray]; rw [HY.out.1, HZ.out.2])] at r6
      have k6 := (keepBut.refl [d] w5).setL (vs := Y) (g := d) (o := 0) (.inl (by simp))
      try simp only [List.toList_toArray]
      generalize w5.setCells d 0 Y = w6 at *
      have k56 : keepBut [] wr w6 := (keepBut.refl [] wr).then (HK5.out.then k6 (fun x hx => by simp at hx; subst hx; right; have := HD.out; omega)) (by simp)
      have K56 := Lib.hid k56
      have R6 := Lib.hid r6
      have HT6 := HT.out.over k56
      obtain ⟨g3, c3, e3, rv6⟩ := HT6.vAt HB.out.1
      have e3 := HV.out.2.1.symm.trans e3
      injection e3 with e3 el3 e3c
      try clear el3
      injection e3 with e3
      injection e3 with e3
      subst e3
      subst e3c
      have hobl : obL b = [.int .i64 b.version, .slice Ae b.env.length ce] := by unfold obL; rw [HE.out.2.2]
      rw [hobl] at rv6
      have RV6 := Lib.hid rv6
      have yv : w6.cell? ⟨p, 3, none⟩ = some (.slice (some ⟨g2, 0, none⟩) s.objs.length cv) := (HT6.row.cell 3).trans (congrArg some HV.out.2.1)
      have HIO : Hid ((Tryd.prog.info? 72).map (·.size) = some 2) := Lib.hid info_ob
      clear r6 k6 k56 HT6 rv6 hobl
      go_upto_region 8 with (refine wpList_load_mid rfl 72 (.tmp 41) rfl g2 (j * 2) rfl [.int .i64 b.version, .slice Ae b.env.length ce] _ RV6.out Tryd.underlying72 rfl HIO.out ?_)
      have re := rowAt.new w6 72 #[.int .i64 b.version, .slice Ae b.env.length ce]
      have ke := K56.out.then ((keepBut.refl [] w6).alloc (.cells #[.int .i64 b.version, .slice Ae b.env.length ce] 72)) (by simp)
      have kd := (keepBut.refl [] w6).alloc (.cells #[.int .i64 b.version, .slice Ae b.env.length ce] 72)
      obtain ⟨e0, he0⟩ : ∃ e0, w6.heap.size = e0 := ⟨_, rfl⟩
      rw [he0] at re
      try rw [he0]
      generalize w6.alloc (.cells #[.int .i64 b.version, .slice Ae b.env.length ce] 72) = w7 at *
      have hd7 := kd.row R6.out (by simp)
      obtain ⟨v0, on, hp0, hv0, hp1, hv1⟩ := HO.out.on (ke.then ((keepBut.refl [] w7).drew) (by simp))
      have hde : d < e0 := by rw [← he0]; exact R6.out.lt
      have hdN : d ∉ pw :: homes v0 := fun hm => by
        have := HD.out
        rcases List.mem_cons.1 hm with q | q
        · omega
        · have := hv0 _ q; omega
      have heN : e0 ∉ pw :: homes v0 := fun hm => by
        have := HD.out
        rcases List.mem_cons.1 hm with q | q
        · omega
        · have := hv0 _ q; omega
      have HRD : Hid (∀ V, keepBut (pw :: homes v0) w7.drew V → V.cell? ⟨e0, 0, none⟩ = some (.int .i64 b.version) ∧ V.cell? ⟨e0, 1, none⟩ = some (.slice Ae b.env.length ce)) := Lib.hid (fun V k =>
        have r := k.row (show rowAt w7.drew e0 72 _ from re) heN
        ⟨r.cell 0, r.cell 1⟩)
      have HSN : Hid (seen w7.drew (some ⟨d, 0, none⟩) d b.name) := Lib.hid (rowAt.seenAt (show rowAt w7.drew d 28 Y.toArray from hd7) (fun j v hv => by rw [HY.out.2.2] at hv; rw [Nat.zero_add]; simpa using hv))
      have HON := Lib.hid on
      have HP0 := Lib.hid (And.intro hp1 hv1)
      have KE7 := Lib.hid (ke.then ((keepBut.refl [] w7).drew) (by simp))
      have HSE : Hid (seen w7.drew Ae ge b.env) := Lib.hid (HE.out.1.keep (HKR.out.then KE7.out (by simp)) (by simp))
      have HLN := Lib.hid (HL.out.1 j)
      have HSZ : Hid (w.heap.size ≤ w7.drew.heap.size) := Lib.hid (HKR.out.then KE7.out (by simp)).size
      clear re ke kd on hp0 hv0 hp1 hv1 hd7 hde hdN heN he0
      have hof : b.name.length = 32 ∧ (0 ≤ b.version ∧ b.version ≤ 9007199254740991) ∧ b.env.length ≤ 1000 := HH.out.2.2.1 b.pure (List.mem_of_getElem? HB.out.2.1)
      have HOF := Lib.hid hof
      clear hof yv
      have hb32 : b.name.length = 32 := HB.out.2.2.1
      have KT : keepBut (pw :: homes v0) w7.drew w7.drew := keepBut.refl _ _
      refine wp_region_held_drew (S := fun V => keepBut (pw :: homes v0) w7.drew V) (by kernel_rfl) KT (fun _ => ?_)
      refine wpAnyH_take (i := 0) (oi := ⟨_, _, _, _, _, _⟩) (v := ?_) rfl (by kernel_rfl) (by kernel_rfl) (by kernel_rfl) (fun _ _ _ h => h) (Or.inl ⟨by rfl, ?_⟩) KT ?_
      rotate_left
      · intro w' hSw; (go_simp; try with_reducible rfl)
      try simp only [Act.put, List.setIfInBounds_toArray, List.set_cons_zero, List.set_cons_succ]
      refine wpAnyH_take (i := 1) (oi := ⟨_, _, _, _, _, _⟩) (v := ?_) rfl (by kernel_rfl) (by kernel_rfl) (by kernel_rfl) (fun _ _ _ h => h) (Or.inl ⟨by rfl, ?_⟩) KT ?_
      rotate_left
      · intro w' hSw; (go_simp; try with_reducible rfl)
      try simp only [Act.put, List.setIfInBounds_toArray, List.set_cons_zero, List.set_cons_succ]
      refine wpAnyH_take (i := 3) (oi := ⟨_, _, _, _, _, _⟩) (v := ?_) rfl (by kernel_rfl) (by kernel_rfl) (by kernel_rfl) (fun _ _ _ h => h) (Or.inl ⟨by rfl, ?_⟩) KT ?_
      rotate_left
      · intro w' hSw; (go_simp; try with_reducible rfl)
      try simp only [Act.put, List.setIfInBounds_toArray, List.set_cons_zero, List.set_cons_succ]
      refine wpAnyH_take (i := 4) (oi := ⟨_, _, _, _, _, _⟩) (v := ?_) rfl (by kernel_rfl) (by kernel_rfl) (by kernel_rfl) (fun _ _ _ h => h) (Or.inl ⟨by rfl, ?_⟩) KT ?_
      rotate_left
      · intro w' hSw; have hy := (HRD.out w' hSw).1; (go_simp; try with_reducible rfl)
      try simp only [Act.put, List.setIfInBounds_toArray, List.set_cons_zero, List.set_cons_succ]
      refine wpAnyH_take (i := 6) (oi := ⟨_, _, _, _, _, _⟩) (v := ?_) rfl (by kernel_rfl) (by kernel_rfl) (by kernel_rfl) (fun _ _ _ h => h) (Or.inl ⟨by rfl, ?_⟩) KT ?_
      rotate_left
      · intro w' hSw; (go_simp; try with_reducible rfl)
      try simp only [Act.put, List.setIfInBounds_toArray, List.set_cons_zero, List.set_cons_succ]
      refine wpAnyH_take (i := 7) (oi := ⟨_, _, _, _, _, _⟩) (v := ?_) rfl (by kernel_rfl) (by kernel_rfl) (by kernel_rfl) (fun _ _ _ h => h) (Or.inl ⟨by rfl, ?_⟩) KT ?_
      rotate_left
      · intro w' hSw; have hy := (HRD.out w' hSw).2; (go_simp; try with_reducible rfl)
      try simp only [Act.put, List.setIfInBounds_toArray, List.set_cons_zero, List.set_cons_succ]
      refine wpAnyH_ready (rs := [2]) (by kernel_rfl) (by simp) ?_
      refine AllReadyH.cons (o := ⟨_, _, _, _, _, _⟩) rfl (fun K hK => ?_) AllReadyH.nil
      go_simp
      refine (HON.out.raw (some ⟨d, 0, none⟩) d 32 32 b.name HB.out.2.2.1 HSN.out (by have h1 := HL.out.2.2.1; have h2 := HLN.out; rw [List.length_append]; omega) (by rw [HB.out.2.2.1]; omega)).mono ?_
      rintro e wA ⟨rfl, oA⟩
      have OA := Lib.hid oA
      have KA := Lib.hid oA.kept
      clear oA
      go_wp2_with fail
      refine hK.out _ _ KA.out (fun _ => ?_)
      clear hK K
      try simp only [Act.put, List.setIfInBounds_toArray, List.set_cons_zero, List.set_cons_succ]
      refine wpAnyH_ready (rs := [5]) (by kernel_rfl) (by simp) ?_
      refine AllReadyH.cons (o := ⟨_, _, _, _, _, _⟩) rfl (fun K hK => ?_) AllReadyH.nil
      go_simp
      refine (OA.out.count b.version HOF.out.2.1 (by have h1 := HL.out.2.2.1; have h2 := HLN.out; simp only [List.length_append]; rw [HB.out.2.2.1]; omega)).mono ?_
      rintro e wB ⟨rfl, oB⟩
      have OY := Lib.hid oB
      have KB := Lib.hid oB.kept
      clear oB
      go_wp2_with fail
      refine hK.out _ _ KB.out (fun _ => ?_)
      clear hK K
      try simp only [Act.put, List.setIfInBounds_toArray, List.set_cons_zero, List.set_cons_succ]
      refine wpAnyH_ready (rs := [8]) (by kernel_rfl) (by simp) ?_
      refine AllReadyH.cons (o := ⟨_, _, _, _, _, _⟩) rfl (fun K hK => ?_) AllReadyH.nil
      go_simp
      refine (OY.out.text Ae ge b.env.length ce w.heap.size b.env rfl HSE.out (fun hne => by obtain ⟨o, _, hlt, _⟩ := HE.out.1 hne; exact hlt) ⟨HP0.out.1, HP0.out.2, HSZ.out⟩ (by have h1 := HL.out.2.2.1; have h2 := HLN.out; have h3 := cb_short (n := b.version.toNat) (by have := HOF.out.2.1; omega); simp only [List.length_append]; rw [HB.out.2.2.1]; omega) (by have := HOF.out.2.2; omega)).mono ?_
      rintro e wC ⟨rfl, oC⟩
      have OC := Lib.hid oC
      have KC := Lib.hid oC.kept
      clear oC
      go_wp2_with fail
      refine hK.out _ _ KC.out (fun _ => ?_)
      clear hK K
      try simp only [Act.put, List.setIfInBounds_toArray, List.set_cons_zero, List.set_cons_succ]
      refine wpAnyH_done (by kernel_rfl) ?_ _
      have hend : wOk w.drew wC pw (headB s.pure ++ objsB (s.pure.objs.take (j + 1))) := by
        have h1 := OC.out.ok (HO.out.kept.then KE7.out (by simp)) HP0.out.1 HP0.out.2
        rw [objsB_snoc _ j _ HB.out.2.1]
        have e1 : headB s.pure ++ (objsB (s.pure.objs.take j) ++ obB b.pure) = (((headB s.pure ++ objsB (s.pure.objs.take j)) ++ b.name ++ cb b.version.toNat) ++ cb b.env.length) ++ b.env := by
          unfold obB OB.pure; simp only [List.append_assoc]
        rw [e1]; exact h1
      have HEND := Lib.hid hend
      clear hend
      go_wp2
      go_roundw
      case rel => exact ⟨j + 1, by go_num, by omega, HEND.out⟩
      case measure => simp [intOf]; omega
    · obtain rfl : j = s.objs.length := by omega
      have hall : s.pure.objs.take s.objs.length = s.pure.objs := List.take_of_length_le (by rw [HN.out.1]; exact Nat.le_refl _)
      have ho : wOk w.drew wr pw (headB s.pure ++ objsB s.pure.objs) := by have := HO.out; rw [hall] at this; exact this
      have HO2 := Lib.hid ho
      have hlo : (objsB s.pure.objs).length ≤ 110000 := by have := HL.out.1 s.objs.length; rw [hall] at this; exact this
      have HLO := Lib.hid hlo
      clear hall ho HO hlo hj hlt
      go_wp2_with (first
        | (go_at_call 37; refine (countI_any p s _ (HH.out.1.over (((keepBut.refl [] w).drew).then HO2.out.kept (by simp)))).mono ?_; rintro e w5 ⟨rfl, rfl⟩)
        | (go_at_call 33; refine (HO2.out.count (s.answers.length : Nat) (by omega) (by have := HN.out.2.2.2; omega) (by have h1 := HL.out.2.2.1; have h2 := HLO.out; rw [List.length_append]; omega)).mono ?_; rintro e wD ⟨rfl, oD⟩; have OD := Lib.hid oD; have ya : wD.cell? ⟨p, 6, none⟩ = some (.slice ga s.answers.length ca) := ((HH.out.1.over (((keepBut.refl [] w).drew).then oD.kept (by simp))).row.cell 6).trans (congrArg some HV.out.2.2); clear oD))
      have O6 : Hid (wOk w.drew wD pw (((headB s.pure ++ objsB s.pure.objs) ++ cb s.pure.answers.length) ++ ansB (s.pure.answers.take 0))) := Lib.hid (by have h1 := OD.out; rw [Int.toNat_natCast, ← HN.out.2.1] at h1; rw [List.take_zero, ansB, List.append_nil]; exact h1)
      clear ya
      go_loopw [8, 65] (fun _ i wr => ∃ j : Nat, i = .int .i64 j ∧ j ≤ s.answers.length ∧ wOk w.drew wr pw (((headB s.pure ++ objsB s.pure.objs) ++ cb s.pure.answers.length) ++ ansB (s.pure.answers.take j))) (fun _ i _ => s.answers.length - (intOf i).toNat)
      case atStart => exact ⟨0, rfl, by omega, O6.out⟩
      case round =>
        obtain ⟨j, rfl, hj, ho⟩ := hrel
        have HO := Lib.hid ho
        have hjl : s.answers.length ≤ 100 := HN.out.2.2.2
        clear ho
        by_cases hlt : j < s.answers.length
        · obtain ⟨b, hb⟩ : ∃ b, s.answers[j]? = some b := ⟨_, List.getElem?_eq_getElem hlt⟩
          have hbm := List.mem_of_getElem? hb
          have hpb : s.pure.answers[j]? = some b.ans := by show (s.answers.map (fun c : AB => c.ans))[j]? = _; rw [List.getElem?_map, hb]; rfl
          have kr := ((keepBut.refl [] w).drew).then HO.out.kept (by simp)
          have hT := HH.out.1.over kr
          obtain ⟨g1, c1, e1, rk⟩ := hT.aAt hb
          have e1 := HV.out.2.2.symm.trans e1
          injection e1 with e1 el1 e1c
          subst e1
          subst e1c
          try clear el1
          obtain ⟨Ae, ce, ge, hev, hce, hme, hse, hFe⟩ := HH.out.1.envA b hbm
          have hln : b.ans.name.length = 32 := HH.out.1.ansN b hbm
          obtain ⟨Z, hZ⟩ : ∃ Z, anL anZero nilV = Z := ⟨_, rfl⟩
          have hz := zv_an
          rw [hZ] at hz
          have HZ := Lib.hid (And.intro hz (show Z.length = 38 by rw [← hZ]; exact anZ_len))
          obtain ⟨Y, hY⟩ : ∃ Y, anL b.ans b.ev = Y := ⟨_, rfl⟩
          have HY := Lib.hid (And.intro (show Y.length = 38 by rw [← hY]; exact anL_len hln) (And.intro (show ∀ u ∈ Y, u.oneCell' = true by rw [← hY]; exact anL_one _ (by rw [hev]; rfl)) hY))
          have hYe : Y.toArray[37]? = some (.slice Ae b.ans.env.length ce) := by rw [← hY, ← hev]; exact anL_env hln
          have hY0 : Y.toArray[0]? = some (.int .i64 b.ans.client) ∧ Y.toArray[1]? = some (.int .i64 b.ans.num) ∧ Y.toArray[2]? = some (.int .i64 b.ans.code) ∧ Y.toArray[3]? = some (.int .i64 b.ans.version) ∧ Y.toArray[4]? = some (.int .i64 b.ans.epoch) := by rw [← hY]; exact ⟨rfl, rfl, rfl, rfl, rfl⟩
          rw [hY] at rk
          obtain ⟨w5, hw5⟩ : ∃ w5, wr.alloc (.cells Z.toArray 40) = w5 := ⟨_, rfl⟩
          obtain ⟨d, hd⟩ : ∃ d, wr.heap.size = d := ⟨_, rfl⟩
          have r5 : rowAt w5 d 40 Z.toArray := hd ▸ hw5 ▸ rowAt.new _ _ _
          have k5 : keepBut [] wr w5 := hw5 ▸ (keepBut.refl [] wr).alloc _
          have HW5 := Lib.hid hw5
          have HD := Lib.hid hd
          have HK5 := Lib.hid k5
          have R5 := Lib.hid r5
          have RK := Lib.hid rk
          have HB := Lib.hid (And.intro hb (And.intro hpb (And.intro hln hbm)))
          have HE := Lib.hid (And.intro hse (And.intro hFe (And.intro hYe hY0)))
          have HKR := Lib.hid kr
          have hof := HH.out.2.2.2 b.ans (List.mem_of_getElem? hpb)
          have hfa := HH.out.2.1.ans b.ans (List.mem_of_getElem? hpb)
          have HOF := Lib.hid (And.intro hof hfa)
          have bj : (j : Int) < (s.answers.length : Int) := by omega
          clear hw5 hd r5 k5 rk hT hb hpb hln hbm hse hFe hev hz hZ hY hYe hY0 kr hce hme hof hfa
          go_upto_region 14 with (first
            | (refine wpList_load_mid rfl 40 (.tmp 67) rfl g1 (j * 38) rfl Y _ RK.out Tryd.underlying40 rfl (by rw [HY.out.1]; exact info_an) ?_)
            | (with_reducible refine wpList_alloc_to _ _ rfl 40 rfl _ HZ.out.1 HW5.out ?_)
            | (rw [HD.out]; refine wpList_store_mid rfl 40 (.tmp 8) (.tmp 68) rfl d 0 Y.toArray rfl rfl (R5.out.there (by simp only [List.size_toArray]; rw [HY.out.1, HZ.out.2]; omega)) (by rw [List.size_toArray, HY.out.1]; exact info_an) (all_oneCell_toArray HY.out.2.1) ?_))
          have r6 := R5.out.setL (vs := Y) (o := 0)
          rw [putL_all (by simp only [List.size_toArray]; rw [HY.out.1, HZ.out.2])] at r6
          have k6 := (keepBut.refl [d] w5).setL (vs := Y) (g := d) (o := 0) (.inl (by simp))
          try simp only [List.toList_toArray]
          generalize w5.setCells d 0 Y = w7 at *
          have ke : keepBut [] wr w7 := (keepBut.refl [] wr).then (HK5.out.then k6 (fun x hx => by simp at hx; subst hx; right; have := HD.out; omega)) (by simp)
          obtain ⟨v0, on, hp0, hv0, hp1, hv1⟩ := HO.out.on (ke.then ((keepBut.refl [] w7).drew) (by simp))
          have hdN : d ∉ pw :: homes v0 := fun hm => by
            have := HD.out
            rcases List.mem_cons.1 hm with q | q
            · omega
            · have := hv0 _ q; omega
          have HRD : Hid (∀ V, keepBut (pw :: homes v0) w7.drew V → rowAt V d 40 Y.toArray) := Lib.hid (fun V k => k.row (show rowAt w7.drew d 40 _ from r6) hdN)
          have HRC : Hid (∀ V, keepBut (pw :: homes v0) w7.drew V → V.cell? ⟨d, 0, none⟩ = some (.int .i64 b.ans.client) ∧ V.cell? ⟨d, 1, none⟩ = some (.int .i64 b.ans.num) ∧ V.cell? ⟨d, 2, none⟩ = some (.int .i64 b.ans.code) ∧ V.cell? ⟨d, 3, none⟩ = some (.int .i64 b.ans.version) ∧ V.cell? ⟨d, 4, none⟩ = some (.int .i64 b.ans.epoch) ∧ V.cell? ⟨d, 37, none⟩ = some (.slice Ae b.ans.env.length ce)) := Lib.hid (fun V k =>
            have r := HRD.out V k
            ⟨(r.cell 0).trans HE.out.2.2.2.1, (r.cell 1).trans HE.out.2.2.2.2.1, (r.cell 2).trans HE.out.2.2.2.2.2.1, (r.cell 3).trans HE.out.2.2.2.2.2.2.1, (r.cell 4).trans HE.out.2.2.2.2.2.2.2, (r.cell 37).trans HE.out.2.2.1⟩)
          have HSN : Hid (∀ V, keepBut (pw :: homes v0) w7.drew V → seen V (some ⟨d, 5, none⟩) d b.ans.name) := Lib.hid (fun V k => (HRD.out V k).seenAt (fun j v hv => by rw [← HY.out.2.2]; exact anL_name b.ans b.ev j v hv))
          have HON := Lib.hid on
          have HP0 := Lib.hid (And.intro hp1 hv1)
          have KE7 := Lib.hid (ke.then ((keepBut.refl [] w7).drew) (by simp))
          have HSE : Hid (seen w7.drew Ae ge b.ans.env) := Lib.hid (HE.out.1.keep (HKR.out.then KE7.out (by simp)) (by simp))
          have HLN := Lib.hid (HL.out.2.1 j)
          have HSZ : Hid (w.heap.size ≤ w7.drew.heap.size) := Lib.hid (HKR.out.then KE7.out (by simp)).size
          clear r6 k6 ke on hp0 hv0 hp1 hv1 hdN
          have KT : keepBut (pw :: homes v0) w7.drew w7.drew := keepBut.refl _ _
          refine wp_region_held_drew (S := fun V => keepBut (pw :: homes v0) w7.drew V) (by kernel_rfl) KT (fun _ => ?_)
          refine wpAnyH_take (i := 0) (oi := ⟨_, _, _, _, _, _⟩) (v := ?_) rfl (by kernel_rfl) (by kernel_rfl) (by kernel_rfl) (fun _ _ _ h => h) (Or.inl ⟨by rfl, ?_⟩) KT ?_
          rotate_left
          · intro w' hSw; (go_simp; try with_reducible rfl)
          try simp only [Act.put, List.setIfInBounds_toArray, List.set_cons_zero, List.set_cons_succ]
          refine wpAnyH_take (i := 1) (oi := ⟨_, _, _, _, _, _⟩) (v := ?_) rfl (by kernel_rfl) (by kernel_rfl) (by kernel_rfl) (fun _ _ _ h => h) (Or.inl ⟨by rfl, ?_⟩) KT ?_
          rotate_left
          · intro w' hSw; (go_simp; try with_reducible rfl)
          try simp only [Act.put, List.setIfInBounds_toArray, List.set_cons_zero, List.set_cons_succ]
          refine wpAnyH_take (i := 2) (oi := ⟨_, _, _, _, _, _⟩) (v := ?_) rfl (by kernel_rfl) (by kernel_rfl) (by kernel_rfl) (fun _ _ _ h => h) (Or.inl ⟨by rfl, ?_⟩) KT ?_
          rotate_left
          · intro w' hSw; have hy := (HRC.out w' hSw).1; (go_simp; try with_reducible rfl)
          try simp only [Act.put, List.setIfInBounds_toArray, List.set_cons_zero, List.set_cons_succ]
          refine wpAnyH_take (i := 4) (oi := ⟨_, _, _, _, _, _⟩) (v := ?_) rfl (by kernel_rfl) (by kernel_rfl) (by kernel_rfl) (fun _ _ _ h => h) (Or.inl ⟨by rfl, ?_⟩) KT ?_
          rotate_left
          · intro w' hSw; (go_simp; try with_reducible rfl)
          try simp only [Act.put, List.setIfInBounds_toArray, List.set_cons_zero, List.set_cons_succ]
          refine wpAnyH_take (i := 5) (oi := ⟨_, _, _, _, _, _⟩) (v := ?_) rfl (by kernel_rfl) (by kernel_rfl) (by kernel_rfl) (fun _ _ _ h => h) (Or.inl ⟨by rfl, ?_⟩) KT ?_
          rotate_left
          · intro w' hSw; have hy := (HRC.out w' hSw).2.1; (go_simp; try with_reducible rfl)
          try simp only [Act.put, List.setIfInBounds_toArray, List.set_cons_zero, List.set_cons_succ]
          refine wpAnyH_take (i := 7) (oi := ⟨_, _, _, _, _, _⟩) (v := ?_) rfl (by kernel_rfl) (by kernel_rfl) (by kernel_rfl) (fun _ _ _ h => h) (Or.inl ⟨by rfl, ?_⟩) KT ?_
          rotate_left
          · intro w' hSw; (go_simp; try with_reducible rfl)
          try simp only [Act.put, List.setIfInBounds_toArray, List.set_cons_zero, List.set_cons_succ]
          refine wpAnyH_take (i := 8) (oi := ⟨_, _, _, _, _, _⟩) (v := ?_) rfl (by kernel_rfl) (by kernel_rfl) (by kernel_rfl) (fun _ _ _ h => h) (Or.inl ⟨by rfl, ?_⟩) KT ?_
          rotate_left
          · intro w' hSw; have hy := (HRC.out w' hSw).2.2.1; (go_simp; try with_reducible rfl)
          try simp only [Act.put, List.setIfInBounds_toArray, List.set_cons_zero, List.set_cons_succ]
          refine wpAnyH_take (i := 10) (oi := ⟨_, _, _, _, _, _⟩) (v := ?_) rfl (by kernel_rfl) (by kernel_rfl) (by kernel_rfl) (fun _ _ _ h => h) (Or.inl ⟨by rfl, ?_⟩) KT ?_
          rotate_left
          · intro w' hSw; (go_simp; try with_reducible rfl)
          try simp only [Act.put, List.setIfInBounds_toArray, List.set_cons_zero, List.set_cons_succ]
          refine wpAnyH_take (i := 11) (oi := ⟨_, _, _, _, _, _⟩) (v := ?_) rfl (by kernel_rfl) (by kernel_rfl) (by kernel_rfl) (fun _ _ _ h => h) (Or.inl ⟨by rfl, ?_⟩) KT ?_
          rotate_left
          · intro w' hSw; have hy := (HRC.out w' hSw).2.2.2.1; (go_simp; try with_reducible rfl)
          try simp only [Act.put, List.setIfInBounds_toArray, List.set_cons_zero, List.set_cons_succ]
          refine wpAnyH_take (i := 13) (oi := ⟨_, _, _, _, _, _⟩) (v := ?_) rfl (by kernel_rfl) (by kernel_rfl) (by kernel_rfl) (fun _ _ _ h => h) (Or.inl ⟨by rfl, ?_⟩) KT ?_
          rotate_left
          · intro w' hSw; (go_simp; try with_reducible rfl)
          try simp only [Act.put, List.setIfInBounds_toArray, List.set_cons_zero, List.set_cons_succ]
          refine wpAnyH_take (i := 14) (oi := ⟨_, _, _, _, _, _⟩) (v := ?_) rfl (by kernel_rfl) (by kernel_rfl) (by kernel_rfl) (fun _ _ _ h => h) (Or.inl ⟨by rfl, ?_⟩) KT ?_
          rotate_left
          · intro w' hSw; have hy := (HRC.out w' hSw).2.2.2.2.1; (go_simp; try with_reducible rfl)
          try simp only [Act.put, List.setIfInBounds_toArray, List.set_cons_zero, List.set_cons_succ]
          refine wpAnyH_take (i := 16) (oi := ⟨_, _, _, _, _, _⟩) (v := ?_) rfl (by kernel_rfl) (by kernel_rfl) (by kernel_rfl) (fun _ _ _ h => h) (Or.inl ⟨by rfl, ?_⟩) KT ?_
          rotate_left
          · intro w' hSw; (go_simp; try with_reducible rfl)
          try simp only [Act.put, List.setIfInBounds_toArray, List.set_cons_zero, List.set_cons_succ]
          refine wpAnyH_take (i := 17) (oi := ⟨_, _, _, _, _, _⟩) (v := ?_) rfl (by kernel_rfl) (by kernel_rfl) (by kernel_rfl) (fun _ _ _ h => h) (Or.inl ⟨by rfl, ?_⟩) KT ?_
          rotate_left
          · intro w' hSw; (go_simp; try with_reducible rfl)
          try simp only [Act.put, List.setIfInBounds_toArray, List.set_cons_zero, List.set_cons_succ]
          refine wpAnyH_take (i := 19) (oi := ⟨_, _, _, _, _, _⟩) (v := ?_) rfl (by kernel_rfl) (by kernel_rfl) (by kernel_rfl) (fun _ _ _ h => h) (Or.inl ⟨by rfl, ?_⟩) KT ?_
          rotate_left
          · intro w' hSw; (go_simp; try with_reducible rfl)
          try simp only [Act.put, List.setIfInBounds_toArray, List.set_cons_zero, List.set_cons_succ]
          refine wpAnyH_take (i := 20) (oi := ⟨_, _, _, _, _, _⟩) (v := ?_) rfl (by kernel_rfl) (by kernel_rfl) (by kernel_rfl) (fun _ _ _ h => h) (Or.inl ⟨by rfl, ?_⟩) KT ?_
          rotate_left
          · intro w' hSw; have hy := (HRC.out w' hSw).2.2.2.2.2; (go_simp; try with_reducible rfl)
          try simp only [Act.put, List.setIfInBounds_toArray, List.set_cons_zero, List.set_cons_succ]
          refine wpAnyH_ready (rs := [3]) (by kernel_rfl) (by simp) ?_
          refine AllReadyH.cons (o := ⟨_, _, _, _, _, _⟩) rfl (fun K hK => ?_) AllReadyH.nil
          go_simp
          refine (HON.out.num b.ans.client HOF.out.2.1 (by have h1 := HL.out.2.2.1; have h2 := HLN.out; have h3 := HLO.out; have h4 := HL.out.2.2.2; have h5 := cb_short (n := b.ans.num.toNat) (by have := HOF.out.1.2.1; omega); have h6 := cb_short (n := b.ans.version.toNat) (by have := HOF.out.1.2.2.1; omega); simp only [List.length_append, beBytes_length]; omega)).mono ?_
          rintro e wa ⟨rfl, oa⟩
          have Qa := Lib.hid oa
          have Pa := Lib.hid oa.kept
          clear oa
          go_wp2_with fail
          refine hK.out _ _ Pa.out (fun _ => ?_)
          clear hK K
          try simp only [Act.put, List.setIfInBounds_toArray, List.set_cons_zero, List.set_cons_succ]
          refine wpAnyH_ready (rs := [6]) (by kernel_rfl) (by simp) ?_
          refine AllReadyH.cons (o := ⟨_, _, _, _, _, _⟩) rfl (fun K hK => ?_) AllReadyH.nil
          go_simp
          refine (Qa.out.count b.ans.num HOF.out.2.2.1 (by have h1 := HL.out.2.2.1; have h2 := HLN.out; have h3 := HLO.out; have h4 := HL.out.2.2.2; have h5 := cb_short (n := b.ans.num.toNat) (by have := HOF.out.1.2.1; omega); have h6 := cb_short (n := b.ans.version.toNat) (by have := HOF.out.1.2.2.1; omega); simp only [List.length_append, beBytes_length]; omega)).mono ?_
          rintro e wb ⟨rfl, ob⟩
          have Qb := Lib.hid ob
          have Pb := Lib.hid ob.kept
          clear ob
          go_wp2_with fail
          refine hK.out _ _ Pb.out (fun _ => ?_)
          clear hK K
          try simp only [Act.put, List.setIfInBounds_toArray, List.set_cons_zero, List.set_cons_succ]
          refine wpAnyH_ready (rs := [9]) (by kernel_rfl) (by simp) ?_
          refine AllReadyH.cons (o := ⟨_, _, _, _, _, _⟩) rfl (fun K hK => ?_) AllReadyH.nil
          go_simp
          refine (Qb.out.num b.ans.code HOF.out.2.2.2.1 (by have h1 := HL.out.2.2.1; have h2 := HLN.out; have h3 := HLO.out; have h4 := HL.out.2.2.2; have h5 := cb_short (n := b.ans.num.toNat) (by have := HOF.out.1.2.1; omega); have h6 := cb_short (n := b.ans.version.toNat) (by have := HOF.out.1.2.2.1; omega); simp only [List.length_append, beBytes_length]; omega)).mono ?_
          rintro e wc ⟨rfl, oc⟩
          have Qc := Lib.hid oc
          have Pc := Lib.hid oc.kept
          clear oc
          go_wp2_with fail
          refine hK.out _ _ Pc.out (fun _ => ?_)
          clear hK K
          try simp only [Act.put, List.setIfInBounds_toArray, List.set_cons_zero, List.set_cons_succ]
          refine wpAnyH_ready (rs := [12]) (by kernel_rfl) (by simp) ?_
          refine AllReadyH.cons (o := ⟨_, _, _, _, _, _⟩) rfl (fun K hK => ?_) AllReadyH.nil
          go_simp
          refine (Qc.out.count b.ans.version HOF.out.2.2.2.2.1 (by have h1 := HL.out.2.2.1; have h2 := HLN.out; have h3 := HLO.out; have h4 := HL.out.2.2.2; have h5 := cb_short (n := b.ans.num.toNat) (by have := HOF.out.1.2.1; omega); have h6 := cb_short (n := b.ans.version.toNat) (by have := HOF.out.1.2.2.1; omega); simp only [List.length_append, beBytes_length]; omega)).mono ?_
          rintro e wd ⟨rfl, od⟩
          have Qd := Lib.hid od
          have Pd := Lib.hid od.kept
          clear od
          go_wp2_with fail
          refine hK.out _ _ Pd.out (fun _ => ?_)
          clear hK K
          try simp only [Act.put, List.setIfInBounds_toArray, List.set_cons_zero, List.set_cons_succ]
          refine wpAnyH_ready (rs := [15]) (by kernel_rfl) (by simp) ?_
          refine AllReadyH.cons (o := ⟨_, _, _, _, _, _⟩) rfl (fun K hK => ?_) AllReadyH.nil
          go_simp
          refine (Qd.out.num b.ans.epoch HOF.out.2.2.2.2.2 (by have h1 := HL.out.2.2.1; have h2 := HLN.out; have h3 := HLO.out; have h4 := HL.out.2.2.2; have h5 := cb_short (n := b.ans.num.toNat) (by have := HOF.out.1.2.1; omega); have h6 := cb_short (n := b.ans.version.toNat) (by have := HOF.out.1.2.2.1; omega); simp only [List.length_append, beBytes_length]; omega)).mono ?_
          rintro e we ⟨rfl, oe⟩
          have Qe := Lib.hid oe
          have Pe := Lib.hid oe.kept
          clear oe
          go_wp2_with fail
          refine hK.out _ _ Pe.out (fun _ => ?_)
          clear hK K
          try simp only [Act.put, List.setIfInBounds_toArray, List.set_cons_zero, List.set_cons_succ]
          refine wpAnyH_ready (rs := [18]) (by kernel_rfl) (by simp) ?_
          refine AllReadyH.cons (o := ⟨_, _, _, _, _, _⟩) rfl (fun K hK => ?_) AllReadyH.nil
          go_simp
          refine (Qe.out.raw (some ⟨d, 5, none⟩) d 32 32 b.ans.name HB.out.2.2.1 (HSN.out _ Pe.out) (by have h1 := HL.out.2.2.1; have h2 := HLN.out; have h3 := HLO.out; have h4 := HL.out.2.2.2; have h5 := cb_short (n := b.ans.num.toNat) (by have := HOF.out.1.2.1; omega); have h6 := cb_short (n := b.ans.version.toNat) (by have := HOF.out.1.2.2.1; omega); simp only [List.length_append, beBytes_length]; omega) (by rw [HB.out.2.2.1]; omega)).mono ?_
          rintro e wf ⟨rfl, of⟩
          have Qf := Lib.hid of
          have Pf := Lib.hid of.kept
          clear of
          go_wp2_with fail
          refine hK.out _ _ Pf.out (fun _ => ?_)
          clear hK K
          try simp only [Act.put, List.setIfInBounds_toArray, List.set_cons_zero, List.set_cons_succ]
          refine wpAnyH_ready (rs := [21]) (by kernel_rfl) (by simp) ?_
          refine AllReadyH.cons (o := ⟨_, _, _, _, _, _⟩) rfl (fun K hK => ?_) AllReadyH.nil
          go_simp
          refine (Qf.out.text Ae ge b.ans.env.length ce w.heap.size b.ans.env rfl HSE.out (fun hne => by obtain ⟨o, _, hlt, _⟩ := HE.out.1 hne; exact hlt) ⟨HP0.out.1, HP0.out.2, HSZ.out⟩ (by have h1 := HL.out.2.2.1; have h2 := HLN.out; have h3 := HLO.out; have h4 := HL.out.2.2.2; have h5 := cb_short (n := b.ans.num.toNat) (by have := HOF.out.1.2.1; omega); have h6 := cb_short (n := b.ans.version.toNat) (by have := HOF.out.1.2.2.1; omega); simp only [List.length_append, beBytes_length]; rw [HB.out.2.2.1]; omega) (by have := HOF.out.1.2.2.2; omega)).mono ?_
          rintro e wg ⟨rfl, og⟩
          have Qg := Lib.hid og
          have Pg := Lib.hid og.kept
          clear og
          go_wp2_with fail
          refine hK.out _ _ Pg.out (fun _ => ?_)
          clear hK K
          try simp only [Act.put, List.setIfInBounds_toArray, List.set_cons_zero, List.set_cons_succ]
          refine wpAnyH_done (by kernel_rfl) ?_ _
          have hend : wOk w.drew wg pw (((headB s.pure ++ objsB s.pure.objs) ++ cb s.pure.answers.length) ++ ansB (s.pure.answers.take (j + 1))) := by
            have h1 := Qg.out.ok (HO.out.kept.then KE7.out (by simp)) HP0.out.1 HP0.out.2
            rw [ansB_snoc _ j _ HB.out.2.1]
            unfold anB
            simp only [List.append_assoc] at h1 ⊢
            exact h1
          have HEND := Lib.hid hend
          clear hend
          go_wp2
          go_roundw
          case rel => exact ⟨j + 1, by go_num, by omega, HEND.out⟩
          case measure => simp [intOf]; omega
        · obtain rfl : j = s.answers.length := by omega
          have hall : s.pure.answers.take s.answers.length = s.pure.answers := List.take_of_length_le (by rw [HN.out.2.1]; exact Nat.le_refl _)
          have ho : wOk w.drew wr pw (bytesT s.pure) := by have := HO.out; rw [hall] at this; exact this
          have hle : (bytesT s.pure).length ≤ 1000000000 := by
            have h1 := HL.out.2.1 s.answers.length
            rw [hall] at h1
            have h2 := HL.out.2.2.1
            have h3 := HLO.out
            have h4 := HL.out.2.2.2
            unfold bytesT
            simp only [List.length_append]
            omega
          have HBY := Lib.hid (ho.bytes hle)
          clear hall ho hle hlt
          go_wp2_with (go_at_call 38; refine HBY.out.mono ?_; rintro e wE ⟨vE, GE, rfl, nE⟩; have NE := Lib.hid nE; clear nE)
          go_ret
          exact ⟨vE, GE, rfl, NE.out.1, NE.out.2.1, ((keepBut.refl [] w).drew).then NE.out.2.2 (by simp)⟩
end Go.Proofs.YtmlmhnhilemjhaaDoor
