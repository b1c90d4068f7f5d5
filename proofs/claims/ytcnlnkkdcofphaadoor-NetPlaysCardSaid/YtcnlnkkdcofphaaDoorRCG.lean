/-
  RCG: RC15, RC16, RC17, joined.
-/
import Derived.Test.YtcnlnkkdcofphaaDoorRC8
import Derived.Test.YtcnlnkkdcofphaaDoorRC11
import Derived.Test.YtcnlnkkdcofphaaDoorRC14
import Derived.Test.YtcnlnkkdcofphaaDoorNet8
section
namespace Go.Proofs.YtcnlnkkdcofphaaDoor
open Go.RowKit
set_option linter.unusedVariables false
set_option maxRecDepth 100000
set_option linter.unusedSimpArgs false

theorem checkDX (F : List Nat) (p : PK) (X : List Value) (w : World) (h : itemV w F (p, X)) (hf : p.fits) :
    Calls Tryd.prog 48 #[.agg X.toArray] w fun e w' => e = .returned (.int .i64 (toldP p.ok)) ∧ keepBut [] w w' := by
  obtain ⟨ev, av, cv, vv, bw, h1, h2⟩ := h
  dsimp only at h1 h2
  subst h1
  rw [← okD_ok]
  exact checkD F p ev av cv vv bw w h2 hf
theorem sameDX (F G : List Nat) (p q : PK) (X Y : List Value) (w : World) (h : itemV w F (p, X)) (h' : itemV w G (q, Y)) (hf : p.fits) (hg : q.fits) :
    Calls Tryd.prog 18 #[.agg X.toArray, .agg Y.toArray] w fun e w' => e = .returned (.bool (p.same q)) ∧ keepBut [] w w' := by
  obtain ⟨ev, av, cv, vv, bw, h1, h2⟩ := h
  obtain ⟨ev', av', cv', vv', bw', h1', h2'⟩ := h'
  dsimp only at h1 h2 h1' h2'
  subst h1
  subst h1'
  exact pkSameD F G p q ev av cv vv bw ev' av' cv' vv' bw' w h2 h2' hf hg
theorem copyDX (F : List Nat) (p : PK) (X : List Value) (w : World) (h : itemV w F (p, X)) (hf : p.fits) :
    Calls Tryd.prog 47 #[.agg X.toArray] w (copyPostX p w) := by
  obtain ⟨ev, av, cv, vv, bw, h1, h2⟩ := h
  dsimp only at h1 h2
  subst h1
  refine (copyD F p ev av cv vv bw w h2 hf).mono ?_
  rintro e w' ⟨G, ev', av', cv', vv', bw', rfl, h3, h4, h5⟩
  exact ⟨_, G, rfl, ⟨_, _, _, _, _, rfl, h3⟩, h4, h5⟩
theorem RQ.ok_env {r : RQ} (h : r.ok = true) : r.env.length ≤ 1024 := by
  simp only [RQ.ok, Bool.and_eq_true] at h
  obtain ⟨_, _, h⟩ := h
  split at h
  · simp at h
    simp [h.2]
  · split at h
    · simp only [Bool.and_eq_true, inP_iff] at h
      omega
    · split at h
      · simp at h
        simp [h.2.2]
      · cases h
theorem AN.ok_env {r : AN} (h : r.ok = true) : r.env.length ≤ 1024 := by
  simp only [AN.ok, Bool.and_eq_true, decide_eq_true_eq] at h
  exact h.2.2.2.2.2
theorem CF.ok_chain {c : CF} (h : c.ok = true) : c.chain.length ≤ 4 := by
  simp only [CF.ok, Bool.and_eq_true, decide_eq_true_eq] at h
  exact h.2.2.1
theorem vtsB_chain : ∀ {l : List VT}, vtsB l = true → ∀ v ∈ l, v.conf.chain.length ≤ 4
  | [], _, v, hv => by simp at hv
  | a :: r, h, v, hv => by
    simp only [vtsB, VT.ok, Bool.and_eq_true] at h
    rcases List.mem_cons.1 hv with rfl | hv
    · exact CF.ok_chain h.1.2
    · exact vtsB_chain h.2 v hv
theorem PK.ok_fits {p : PK} (h : p.ok = true) : p.fits := by
  rw [← okD_ok] at h
  simp only [PK.okD, Bool.and_eq_true] at h
  have hp := h.2
  simp only [PK.partsD, Bool.and_eq_true] at hp
  obtain ⟨hv, hb, hr, ha, hc⟩ := hp
  have hr2 : p.req.env.length ≤ 1024 := by
    split at hr
    · exact RQ.ok_env hr
    · simp [RQ.same, rqZero] at hr
      rw [hr.2.2.2.2.2]; simp
  have ha2 : p.ans.env.length ≤ 1024 := by
    split at ha
    · exact AN.ok_env ha
    · simp [AN.same, anZero] at ha
      rw [ha.2.2.2.2.2.2]; simp
  have hc2 : p.conf.chain.length ≤ 4 := by
    split at hc
    · exact CF.ok_chain hc
    · simp [CF.same, cfZero] at hc
      rw [of_decide_eq_true hc.2.2]; simp
  have hv2 : p.votes.length ≤ 8 ∧ ∀ v ∈ p.votes, v.conf.chain.length ≤ 4 := by
    simp only [Bool.or_eq_true, Bool.and_eq_true, decide_eq_true_eq] at hv
    rcases hv with ⟨_, h1⟩ | h1
    · simp only [vtsOk, Bool.and_eq_true, decide_eq_true_eq] at h1
      exact ⟨h1.1, vtsB_chain h1.2⟩
    · have := List.length_eq_zero_iff.1 h1
      rw [this]; simp
  have hb2 : p.bytes.length ≤ 32768 := by
    simp only [Bool.or_eq_true, Bool.and_eq_true, decide_eq_true_eq] at hb
    omega
  exact ⟨by omega, by omega, by omega, by omega, fun v hv => by have := hv2.2 v hv; omega, by omega⟩
theorem nodeP_i64 {n : Int} (h : nodeP n = true) : i64P n := by
  simp only [nodeP, Bool.or_eq_true, inP_iff] at h
  unfold i64P
  omega
theorem PK.ok_ends {p : PK} (h : p.ok = true) : i64P p.frm ∧ i64P p.dst := by
  rw [← okD_ok] at h
  simp only [PK.okD, PK.headD, Bool.and_eq_true] at h
  exact ⟨nodeP_i64 h.1.1.1.2.1, nodeP_i64 h.1.1.1.2.2⟩
theorem PK.same_self (p : PK) : p.same p = true := by simp [PK.same, RQ.same_self, AN.same_self, CF.same_self, vEq_self]
end Go.Proofs.YtcnlnkkdcofphaaDoor
end

section
namespace Go.Proofs.YtcnlnkkdcofphaaDoor
open Go.RowKit
set_option linter.unusedVariables false
set_option maxRecDepth 100000
set_option linter.unusedSimpArgs false

/-- block p is the document's net; its bag v holds T, their lists lie in F; c were ever put -/
structure isM (w : World) (p : Nat) (v : Value) (T : List (PK × List Value)) (F : List Nat) (c : Nat) : Prop where
  row : rowAt w p 46 #[v, .int .i64 c]
  own : ownsO w 40 87 v T.length (flatP T)
  its : ∀ t ∈ T, itemV w F t
  far : ∀ y ∈ F, y < w.heap.size ∧ y ≠ p ∧ y ∉ homes v
theorem isM.apart {w : World} {p : Nat} {v : Value} {T : List (PK × List Value)} {F : List Nat} {c : Nat} (h : isM w p v T F c) : p ∉ homes v := h.own.apart h.row (by decide)
theorem isM.keep {S : List Nat} {w w' : World} {p : Nat} {v : Value} {T : List (PK × List Value)} {F : List Nat} {c : Nat} (h : isM w p v T F c) (hk : keepBut S w w') (hp : p ∉ S) (hv : ∀ x ∈ homes v, x ∉ S) (hF : ∀ y ∈ F, y ∉ S) : isM w' p v T F c :=
  ⟨hk.row h.row hp, h.own.keep hk hv, fun t ht => (h.its t ht).keep hk hF, fun y hy => ⟨Nat.lt_of_lt_of_le (h.far y hy).1 hk.size, (h.far y hy).2⟩⟩
theorem isM.over {w w' : World} {p : Nat} {v : Value} {T : List (PK × List Value)} {F : List Nat} {c : Nat} (h : isM w p v T F c) (hk : keepBut [] w w') : isM w' p v T F c := h.keep hk (by simp) (by simp) (by simp)
theorem isM.lens {w : World} {p : Nat} {v : Value} {T : List (PK × List Value)} {F : List Nat} {c : Nat} (h : isM w p v T F c) : ∀ t ∈ T, t.2.length = 87 := fun t ht => (h.its t ht).len
theorem isM.form {w : World} {p : Nat} {v : Value} {T : List (PK × List Value)} {F : List Nat} {c : Nat} (h : isM w p v T F c) : ∃ A k, v = .slice A T.length k ∧ T.length ≤ k ∧ k ≤ maxLen := by
  obtain ⟨A, k, h1, h2, h3, _⟩ := h.own.form
  exact ⟨A, k, h1, h2, h3⟩

theorem newM_any (w : World) :
    Calls Tryd.prog 9 #[] w fun e w' => ∃ p, e = .returned (.pointer (some ⟨p, 0, none⟩)) ∧ isM w' p (.slice none 0 0) [] [] 0 ∧ keepBut [] w w' ∧ w.heap.size ≤ p := by
  go_enter Tryd.func9, Tryd.ntmps9
  go_wp2
  go_ret
  exact ⟨_, rfl, ⟨rowAt.new w _ _, ownsO.nil _ _ _, by simp, by simp⟩, (keepBut.refl [] w).alloc _, Nat.le_refl _⟩
def addPostM (p : Nat) (v : Value) (T : List (PK × List Value)) (F : List Nat) (c : Nat) (pk : PK) (w : World) (e : Ending) (w' : World) : Prop :=
  ∃ v' X G, e = .returned (.int .i64 0) ∧ isM w' p v' (T ++ [(pk, X)]) (F ++ G) (c + 1) ∧ keepBut (p :: homes v) w w' ∧ (∀ x ∈ homes v', x ∈ homes v ∨ w.heap.size ≤ x) ∧ newIn w w' G
theorem addMidM {w1 w1d w2 w4 : World} {p c n : Nat} {v v4 : Value} {T : List (PK × List Value)} {F F0 G : List Nat} {pk : PK} {X2 : List Value} (h : isM w1 p v T F c) (hd : keepBut [] w1 w1d) (i2 : itemV w2 G (pk, X2)) (n2 : newIn w1d w2 G) (k2 : keepBut [] w1d w2)
    (o4 : ownsO w4 40 87 v4 n (flatP T ++ X2)) (k4 : keepBut (homes v) (w2.alloc (.cells X2.toArray 40)) w4) (n4 : ∀ x ∈ homes v4, x ∈ homes v ∨ (w2.alloc (.cells X2.toArray 40)).heap.size ≤ x) :
    rowAt w4 p 46 #[v, .int .i64 c] ∧ keepBut (homes v) w1 w4 ∧ (∀ x ∈ homes v4, x ∈ homes v ∨ w1.heap.size ≤ x) ∧ ownsO w4 40 87 v4 n (flatP (T ++ [(pk, X2)])) ∧ (∀ t ∈ T ++ [(pk, X2)], itemV w4 (F ++ G) t) ∧ (∀ y ∈ F ++ G, y < w4.heap.size ∧ y ≠ p ∧ y ∉ homes v4) ∧ newIn w1 w4 G := by
  have kk : keepBut [] w1 (w2.alloc (.cells X2.toArray 40)) := hd.then (k2.alloc _) (by simp)
  have ka : keepBut (homes v) w1 w4 := (kk.more (by simp)).then k4 (fun x hx => .inl hx)
  have s1 := hd.size
  have s2 := k2.size
  have s4 := k4.size
  rw [World.size_alloc] at s4 n4
  have hlt := h.own.lt
  refine ⟨ka.row h.row h.apart, ka, fun x hx => (n4 x hx).imp id (fun h => by omega), by rw [flatP_append]; simpa [flatP] using o4, fun t ht => ?_, fun y hy => ?_, fun y hy => ⟨by have := (n2 y hy).1; omega, by have := (n2 y hy).2; omega⟩⟩
  · rcases List.mem_append.1 ht with ht | ht
    · exact ((h.its t ht).keep ka (fun y hy => (h.far y hy).2.2)).more (fun y hy => List.mem_append_left _ hy)
    · simp only [List.mem_singleton] at ht
      subst ht
      refine ((i2.keep ((keepBut.refl [] w2).alloc _) (by simp)).keep k4 (fun y hy hm => ?_)).more (fun y hy => List.mem_append_right _ hy)
      have := hlt y hm
      have := (n2 y hy).1
      omega
  · rcases List.mem_append.1 hy with hy | hy
    · have hf := h.far y hy
      exact ⟨by omega, hf.2.1, fun hm => by rcases n4 y hm with h1 | h1; exact hf.2.2 h1; omega⟩
    · have hn := n2 y hy
      have hp := h.row.lt
      exact ⟨by omega, by omega, fun hm => by
        rcases n4 y hm with h1 | h1
        · have := hlt y h1; omega
        · omega⟩
theorem addEndM {w w1 w4 : World} {p c : Nat} {v v4 : Value} {T : List (PK × List Value)} {F G : List Nat} {pk : PK} {X2 : List Value} (h : isM w p v T F c) (k1 : keepBut [] w w1)
    (a : rowAt w4 p 46 #[v, .int .i64 c] ∧ keepBut (homes v) w1 w4 ∧ (∀ x ∈ homes v4, x ∈ homes v ∨ w1.heap.size ≤ x) ∧ ownsO w4 40 87 v4 (T.length + 1) (flatP (T ++ [(pk, X2)])) ∧ (∀ t ∈ T ++ [(pk, X2)], itemV w4 (F ++ G) t) ∧ (∀ y ∈ F ++ G, y < w4.heap.size ∧ y ≠ p ∧ y ∉ homes v4) ∧ newIn w1 w4 G) :
    addPostM p v T F c pk w (.returned (.int .i64 0)) ((w4.setCell ⟨p, 0, none⟩ v4).setCell ⟨p, 1, none⟩ (.int .i64 ((c : Int) + 1))) := by
  obtain ⟨r, k, hh, o, it, far, nw⟩ := a
  have ks := ((keepBut.refl [p] w4).setCell ⟨p, 0, none⟩ v4 (.inl (by simp))).setCell ⟨p, 1, none⟩ (.int .i64 ((c : Int) + 1)) (.inl (by simp))
  have r2 := (r.set 0 v4).set 1 (.int .i64 ((c : Int) + 1))
  have hp4 : p ∉ homes v4 := o.apart r (by decide)
  have hn : T.length + 1 = (T ++ [(pk, X2)]).length := by simp
  have s1 := k1.size
  rw [hn] at o
  refine ⟨v4, X2, G, rfl, ⟨by simpa using r2, o.keep ks (fun x hx hm => hp4 (by simpa using (List.mem_singleton.1 hm) ▸ hx)), fun t ht => (it t ht).keep ks (fun y hy hm => (far y hy).2.1 (List.mem_singleton.1 hm)), fun y hy => ⟨Nat.lt_of_lt_of_le (far y hy).1 ks.size, (far y hy).2⟩⟩, ?_, fun x hx => (hh x hx).imp id (fun h => by omega), fun y hy => ⟨by have := (nw y hy).1; omega, Nat.lt_of_lt_of_le (nw y hy).2 ks.size⟩⟩
  exact ((k1.more (by simp)).then (k.more (fun x hx => List.mem_cons_of_mem _ hx)) (fun x hx => .inl hx)).then (ks.more (by simp)) (fun x hx => .inl hx)
theorem addPostM.lift {p : Nat} {v : Value} {T : List (PK × List Value)} {F : List Nat} {c : Nat} {pk : PK} {w w1 w' : World} {e : Ending} (h : addPostM p v T F c pk w1 e w') (k : keepBut [] w w1) : addPostM p v T F c pk w e w' := by
  obtain ⟨v', X, G, h1, h2, h3, h4, h5⟩ := h
  have s := k.size
  exact ⟨v', X, G, h1, h2, (k.more (by simp)).then h3 (fun x hx => .inl hx), fun x hx => (h4 x hx).imp id (fun h => by omega), fun y hy => ⟨by have := (h5 y hy).1; omega, (h5 y hy).2⟩⟩
/-- item i lies in the bag -/
theorem isM.item {w : World} {p : Nat} {A : Option Addr} {n k : Nat} {T : List (PK × List Value)} {F : List Nat} {c : Nat} (h : isM w p (.slice A n k) T F c) {i : Nat} {t : PK × List Value} (ht : T[i]? = some t) : ∃ g off, A = some ⟨g, off, none⟩ ∧ g < w.heap.size ∧ homes (.slice A n k) = [g] ∧ w.rangeAt g (off + i * 87) t.2 := by
  have hi : i < T.length := (List.getElem?_eq_some_iff.1 ht).1
  obtain ⟨A', k', e, _⟩ := h.form
  injection e with e1 e2 e3
  subst e2
  obtain ⟨g, off, h1, h2, h3, h4⟩ := h.own.cell (by omega)
  refine ⟨g, off, h1, h2, h3, fun j u hu => ?_⟩
  rw [Nat.add_assoc]
  exact h4 _ u (flatP_at T i t h.lens ht j u hu)
set_option maxHeartbeats 4000000 in
theorem putM_no (p : Nat) (F0 : List Nat) (pk : PK) (X : List Value) (w : World) (ht : itemV w F0 (pk, X)) (hf : pk.fits) (hok : pk.ok = false) :
    Calls Tryd.prog 35 #[.pointer (some ⟨p, 0, none⟩), .agg X.toArray] w fun e w' => e = .returned (.int .i64 2) ∧ keepBut [] w w' := by
  have k1 := (keepBut.refl [] w).alloc (.cells X.toArray 40)
  have r1 := rowAt.new w 40 X.toArray
  obtain ⟨w1, hw1⟩ : ∃ w1, w.alloc (.cells X.toArray 40) = w1 := ⟨_, rfl⟩
  rw [hw1] at k1 r1
  have HI := Lib.hid (show (Tryd.prog.info? 40).map (·.size) = some X.length by rw [ht.len]; exact info_pk)
  have HC := Lib.hid (checkDX F0 pk X w1 (ht.keep k1 (by simp)) hf)
  rw [hok] at HC
  have HW := Lib.hid hw1
  have R1 := Lib.hid r1
  have K1 := Lib.hid k1
  clear ht hf hok k1 r1 hw1
  simp only [toldP, Bool.false_eq_true, if_false] at HC
  go_enter Tryd.func35, Tryd.ntmps35
  go_wp2_with (first
    | (with_reducible refine wpList_box_to _ _ rfl 40 (.tmp 1) rfl _ rfl HW.out ?_)
    | (refine wpList_load_mid_g 40 (.tmp 3) rfl w.heap.size 0 rfl X _ R1.out.rangeAll Tryd.underlying40 rfl HI.out rfl ?_)
    | (go_at_call 48; refine HC.out.mono ?_; rintro e w2 ⟨rfl, k2⟩; have K2 := Lib.hid k2; clear k2))
  go_ret
  exact ⟨rfl, K1.out.then K2.out (by simp)⟩
set_option maxHeartbeats 8000000 in
theorem putM_any (p : Nat) (v : Value) (T : List (PK × List Value)) (F : List Nat) (c : Nat) (F0 : List Nat) (pk : PK) (X : List Value) (w : World) (h : isM w p v T F c) (ht : itemV w F0 (pk, X)) (hF0 : ∀ y ∈ F0, y ∉ homes v) (hf : pk.fits) (hl : T.length < 2000) (hc : c < 1000000) (hok : pk.ok = true) :
    Calls Tryd.prog 35 #[.pointer (some ⟨p, 0, none⟩), .agg X.toArray] w (addPostM p v T F c pk w) := by
  have hXl : X.length = 87 := ht.len
  have hX1 : ∀ u ∈ X, u.oneCell' = true := ht.one
  obtain ⟨A, k, rfl, hk1, hk2⟩ := h.form
  have k1 := (keepBut.refl [] w).alloc (.cells X.toArray 40)
  have r1 := rowAt.new w 40 X.toArray
  obtain ⟨w0, hw0⟩ : ∃ w1, w.alloc (.cells X.toArray 40) = w1 := ⟨_, rfl⟩
  rw [hw0] at k1 r1
  have HC0 := Lib.hid (checkDX F0 pk X w0 (ht.keep k1 (by simp)) hf)
  rw [hok] at HC0
  simp only [toldP, if_true] at HC0
  have HI := Lib.hid (show (Tryd.prog.info? 40).map (·.size) = some X.length by rw [ht.len]; exact info_pk)
  have HT0 := Lib.hid (ht.keep k1 (by simp))
  have HW := Lib.hid hw0
  have HK := Lib.hid (And.intro hXl (And.intro hX1 (And.intro hF0 (And.intro hk1 hk2))))
  have HN0 := Lib.hid (h.over k1)
  have H0 := Lib.hid h
  have R0 := Lib.hid r1
  have K0 := Lib.hid k1
  have hlt : decide ((2000 : Int) ≤ (T.length : Int)) = false := by simp; omega
  have hl' : (T.length : Int) < 2000 := by omega
  have HL := Lib.hid hl
  clear hXl hX1 hF0 hk1 hk2 h r1 k1 ht hw0 hl hok
  go_enter Tryd.func35, Tryd.ntmps35
  go_upto_region 4 with (first
    | (with_reducible refine wpList_box_to _ _ rfl 40 (.tmp 1) rfl _ rfl HW.out ?_)
    | (refine wpList_load_mid_g 40 (.tmp 3) rfl w.heap.size 0 rfl X _ R0.out.rangeAll Tryd.underlying40 rfl HI.out rfl ?_)
    | (go_at_call 48; refine HC0.out.mono ?_; rintro e w1 ⟨rfl, k2⟩; have K1 := Lib.hid (K0.out.then k2 (by simp)); have HT := Lib.hid (HT0.out.keep k2 (by simp)); have HN := Lib.hid (HN0.out.over k2); have R1 := Lib.hid (k2.row R0.out (by simp)); clear k2))
  have x1 : w1.cell? ⟨p, 0, none⟩ = some (.slice A T.length k) := HN.out.row.cell 0
  have HC := Lib.hid (And.intro hlt hc)
  clear hlt hc HC0 HT0 HN0 R0
  go_upto_region 6 with fail
  have kd : keepBut [] w1 w1.drew := (keepBut.refl [] w1).drew
  have HB : Hid (∀ w', keepBut [] w1 w' → w'.cell? ⟨p, 0, none⟩ = some (.slice A T.length k)) := Lib.hid (fun w' hk => (HN.out.over hk).row.cell 0)
  have HX := Lib.hid (And.intro (kd.row R1.out (by simp)).rangeAll (show (Tryd.prog.info? 40).map (·.size) = some X.length by rw [HK.out.1]; exact info_pk))
  have KD := Lib.hid kd
  obtain ⟨iP, zP, hiP, hsP, hbP, hzP, hcP⟩ := info_P
  have HIP := Lib.hid (And.intro hiP (And.intro hsP (And.intro hbP (And.intro hzP hcP))))
  clear kd hiP hsP hbP hzP hcP x1 hl'
  refine wp_region_held_drew (S := fun _ => True) (by kernel_rfl) trivial (fun _ => ?_)
  refine wpAnyH_take (i := 0) (oi := ⟨_, _, _, _, _, _⟩) (v := ?_) rfl (by kernel_rfl) (by kernel_rfl) (by kernel_rfl) (fun _ _ _ h => h) (Or.inl ⟨by rfl, ?_⟩) trivial ?_
  rotate_left
  · intro w' hSw; (try dsimp only at hSw); (go_simp; try with_reducible rfl)
  try simp only [Act.put, List.setIfInBounds_toArray, List.set_cons_zero, List.set_cons_succ]
  refine wpAnyH_take (i := 1) (oi := ⟨_, _, _, _, _, _⟩) (v := ?_) rfl (by kernel_rfl) (by kernel_rfl) (by kernel_rfl) (fun _ _ _ h => h) (Or.inl ⟨by rfl, ?_⟩) trivial ?_
  rotate_left
  · intro w' hSw; (try dsimp only at hSw); (go_simp; try with_reducible rfl)
  try simp only [Act.put, List.setIfInBounds_toArray, List.set_cons_zero, List.set_cons_succ]
  refine wpAnyH_take (i := 2) (oi := ⟨_, _, _, _, _, _⟩) (v := ?_) rfl (by kernel_rfl) (by kernel_rfl) (by kernel_rfl) (fun _ _ _ h => h) (Or.inl ⟨by rfl, ?_⟩) trivial ?_
  rotate_left
  · intro w' hSw; (try dsimp only at hSw); (go_simp; try with_reducible rfl)
  try simp only [Act.put, List.setIfInBounds_toArray, List.set_cons_zero, List.set_cons_succ]
  refine wpAnyH_take (i := 3) (oi := ⟨_, _, _, _, _, _⟩) (v := ?_) rfl (by kernel_rfl) (by kernel_rfl) (by kernel_rfl) (fun _ _ _ h => h) (Or.inl ⟨by rfl, ?_⟩) trivial ?_
  rotate_left
  · intro w' hSw; (try dsimp only at hSw); (go_simp; try with_reducible rfl)
  try simp only [Act.put, List.setIfInBounds_toArray, List.set_cons_zero, List.set_cons_succ]
  refine wpAnyH_ready (rs := [4, 5]) (by kernel_rfl) (by simp) ?_
  refine AllReadyH.cons (o := ⟨_, _, _, _, _, _⟩) rfl (fun K hK => ?_) (AllReadyH.cons (o := ⟨_, _, _, _, _, _⟩) rfl (fun K hK => ?_) AllReadyH.nil)
  · skip
    have yb := HB.out _ (KD.out)
    go_simp
    refine hK.out _ _ trivial (fun _ => ?_)
    clear hK K
    try simp only [Act.put, List.setIfInBounds_toArray, List.set_cons_zero, List.set_cons_succ]
    clear yb
    refine wpAnyH_ready (rs := [5]) (by kernel_rfl) (by simp) ?_
    refine AllReadyH.cons (o := ⟨_, _, _, _, _, _⟩) rfl (fun K hK => ?_) AllReadyH.nil
    refine step_load_mid rfl 40 (.tmp 3) rfl w.heap.size 0 rfl X _ HX.out.1 Tryd.underlying40 rfl HX.out.2 ?_
    refine hK.out _ _ trivial (fun _ => ?_)
    clear hK K
    try simp only [Act.put, List.setIfInBounds_toArray, List.set_cons_zero, List.set_cons_succ]
    refine wpAnyH_ready (rs := [6]) (by kernel_rfl) (by simp) ?_
    refine AllReadyH.cons (o := ⟨_, _, _, _, _, _⟩) rfl (fun K hK => ?_) AllReadyH.nil
    go_simp
    refine (copyDX F0 pk X _ (HT.out.keep KD.out (by simp)) hf).mono ?_
    rintro e w2 ⟨X2, G, rfl, i2, n2, k2⟩
    go_wp2_with fail
    refine hK.out _ _ trivial (fun _ => ?_)
    clear hK K
    try simp only [Act.put, List.setIfInBounds_toArray, List.set_cons_zero, List.set_cons_succ]
    have I2 := Lib.hid (And.intro i2 (And.intro n2 k2))
    have XL2 := Lib.hid i2.len
    have XO2 := Lib.hid i2.one
    clear i2 n2 k2
    dsimp only at XL2 XO2
    refine wpAnyH_ready (rs := [7]) (by kernel_rfl) (by simp) ?_
    refine AllReadyH.cons (o := ⟨_, _, _, _, _, _⟩) rfl (fun K hK => ?_) AllReadyH.nil
    refine step_build_one _ rfl 44 (.tmp 23) rfl 40 iP zP X2 rfl Tryd.underlying44 HIP.out.1 HIP.out.2.2.2.1 (by rw [HIP.out.2.1]; exact XL2.out.symm) (by have := XL2.out; omega) (by have := XL2.out; omega) ?_
    refine hK.out _ _ trivial (fun _ => ?_)
    clear hK K
    try simp only [Act.put, List.setIfInBounds_toArray, List.set_cons_zero, List.set_cons_succ]
    refine wpAnyH_ready (rs := [8]) (by kernel_rfl) (by simp) ?_
    refine AllReadyH.cons (o := ⟨_, _, _, _, _, _⟩) rfl (fun K hK => ?_) AllReadyH.nil
    refine step_appendO _ rfl (.tmp 21) (.tmp 24) 44 rfl 40 iP zP 87 iP.bytes Tryd.underlying44 HIP.out.1 HIP.out.2.2.2.1 HIP.out.2.1 rfl HIP.out.2.2.2.2 (by decide) (.slice A T.length k) T.length (flatP T) rfl (HN.out.own.keep (KD.out.then (I2.out.2.2.alloc _) (by simp)) (by simp)) (some ⟨w2.heap.size, 0, none⟩) w2.heap.size 1 1 X2 rfl (by have h := reads_row w2 40 X2; rw [XL2.out] at h; exact h) XO2.out (by decide) (by have h1 := HIP.out.2.2.1; have h2 := HL.out; exact Nat.le_trans (Nat.mul_le_mul (show T.length + 1 ≤ 2000 by omega) h1) (by decide)) (by have h2 := HL.out; simp only [maxLen]; omega) (fun A4 c4 w4 o4 k4 n4 => ?_)
    refine hK.out _ _ trivial (fun _ => ?_)
    clear hK K
    try simp only [Act.put, List.setIfInBounds_toArray, List.set_cons_zero, List.set_cons_succ]
    have a4 := addMidM (F0 := F0) HN.out KD.out I2.out.1 I2.out.2.1 I2.out.2.2 o4 k4 n4
    have y4 : w4.cell? ⟨p, 0, none⟩ = some (.slice A T.length k) := a4.1.cell 0
    have f4 : w4.frozen? ⟨p, 0, none⟩ = false := a4.1.free 0
    have y5 : w4.cell? ⟨p, 1, none⟩ = some (.int .i64 c) := a4.1.cell 1
    have f5 : w4.frozen? ⟨p, 1, none⟩ = false := a4.1.free 1
    have A4H := Lib.hid a4
    clear a4 o4 k4 n4
    refine wpAnyH_ready (rs := [9]) (by kernel_rfl) (by simp) ?_
    refine AllReadyH.cons (o := ⟨_, _, _, _, _, _⟩) rfl (fun K hK => ?_) AllReadyH.nil
    go_simp
    refine hK.out _ _ trivial (fun _ => ?_)
    clear hK K
    try simp only [Act.put, List.setIfInBounds_toArray, List.set_cons_zero, List.set_cons_succ]
    refine wpAnyH_ready (rs := [10]) (by kernel_rfl) (by simp) ?_
    refine AllReadyH.cons (o := ⟨_, _, _, _, _, _⟩) rfl (fun K hK => ?_) AllReadyH.nil
    go_simp
    refine hK.out _ _ trivial (fun _ => ?_)
    clear hK K
    try simp only [Act.put, List.setIfInBounds_toArray, List.set_cons_zero, List.set_cons_succ]
    refine wpAnyH_ready (rs := [11]) (by kernel_rfl) (by simp) ?_
    refine AllReadyH.cons (o := ⟨_, _, _, _, _, _⟩) rfl (fun K hK => ?_) AllReadyH.nil
    go_simp
    refine hK.out _ _ trivial (fun _ => ?_)
    clear hK K
    try simp only [Act.put, List.setIfInBounds_toArray, List.set_cons_zero, List.set_cons_succ]
    refine wpAnyH_done (by kernel_rfl) ?_ _
    have hw : IntKind.i64.wrap ((c : Int) + 1) = (c : Int) + 1 := by have := HC.out.2; rw [IntKind.wrap_i64]; omega
    go_wp2_with fail
    go_ret
    exact addEndM H0.out K1.out A4H.out
  · skip
    refine step_load_mid rfl 40 (.tmp 3) rfl w.heap.size 0 rfl X _ HX.out.1 Tryd.underlying40 rfl HX.out.2 ?_
    refine hK.out _ _ trivial (fun _ => ?_)
    clear hK K
    try simp only [Act.put, List.setIfInBounds_toArray, List.set_cons_zero, List.set_cons_succ]
    refine wpAnyH_ready (rs := [4, 6]) (by kernel_rfl) (by simp) ?_
    refine AllReadyH.cons (o := ⟨_, _, _, _, _, _⟩) rfl (fun K hK => ?_) (AllReadyH.cons (o := ⟨_, _, _, _, _, _⟩) rfl (fun K hK => ?_) AllReadyH.nil)
    · skip
      have yb := HB.out _ (KD.out)
      go_simp
      refine hK.out _ _ trivial (fun _ => ?_)
      clear hK K
      try simp only [Act.put, List.setIfInBounds_toArray, List.set_cons_zero, List.set_cons_succ]
      clear yb
      refine wpAnyH_ready (rs := [6]) (by kernel_rfl) (by simp) ?_
      refine AllReadyH.cons (o := ⟨_, _, _, _, _, _⟩) rfl (fun K hK => ?_) AllReadyH.nil
      go_simp
      refine (copyDX F0 pk X _ (HT.out.keep KD.out (by simp)) hf).mono ?_
      rintro e w2 ⟨X2, G, rfl, i2, n2, k2⟩
      go_wp2_with fail
      refine hK.out _ _ trivial (fun _ => ?_)
      clear hK K
      try simp only [Act.put, List.setIfInBounds_toArray, List.set_cons_zero, List.set_cons_succ]
      have I2 := Lib.hid (And.intro i2 (And.intro n2 k2))
      have XL2 := Lib.hid i2.len
      have XO2 := Lib.hid i2.one
      clear i2 n2 k2
      dsimp only at XL2 XO2
      refine wpAnyH_ready (rs := [7]) (by kernel_rfl) (by simp) ?_
      refine AllReadyH.cons (o := ⟨_, _, _, _, _, _⟩) rfl (fun K hK => ?_) AllReadyH.nil
      refine step_build_one _ rfl 44 (.tmp 23) rfl 40 iP zP X2 rfl Tryd.underlying44 HIP.out.1 HIP.out.2.2.2.1 (by rw [HIP.out.2.1]; exact XL2.out.symm) (by have := XL2.out; omega) (by have := XL2.out; omega) ?_
      refine hK.out _ _ trivial (fun _ => ?_)
      clear hK K
      try simp only [Act.put, List.setIfInBounds_toArray, List.set_cons_zero, List.set_cons_succ]
      refine wpAnyH_ready (rs := [8]) (by kernel_rfl) (by simp) ?_
      refine AllReadyH.cons (o := ⟨_, _, _, _, _, _⟩) rfl (fun K hK => ?_) AllReadyH.nil
      refine step_appendO _ rfl (.tmp 21) (.tmp 24) 44 rfl 40 iP zP 87 iP.bytes Tryd.underlying44 HIP.out.1 HIP.out.2.2.2.1 HIP.out.2.1 rfl HIP.out.2.2.2.2 (by decide) (.slice A T.length k) T.length (flatP T) rfl (HN.out.own.keep (KD.out.then (I2.out.2.2.alloc _) (by simp)) (by simp)) (some ⟨w2.heap.size, 0, none⟩) w2.heap.size 1 1 X2 rfl (by have h := reads_row w2 40 X2; rw [XL2.out] at h; exact h) XO2.out (by decide) (by have h1 := HIP.out.2.2.1; have h2 := HL.out; exact Nat.le_trans (Nat.mul_le_mul (show T.length + 1 ≤ 2000 by omega) h1) (by decide)) (by have h2 := HL.out; simp only [maxLen]; omega) (fun A4 c4 w4 o4 k4 n4 => ?_)
      refine hK.out _ _ trivial (fun _ => ?_)
      clear hK K
      try simp only [Act.put, List.setIfInBounds_toArray, List.set_cons_zero, List.set_cons_succ]
      have a4 := addMidM (F0 := F0) HN.out KD.out I2.out.1 I2.out.2.1 I2.out.2.2 o4 k4 n4
      have y4 : w4.cell? ⟨p, 0, none⟩ = some (.slice A T.length k) := a4.1.cell 0
      have f4 : w4.frozen? ⟨p, 0, none⟩ = false := a4.1.free 0
      have y5 : w4.cell? ⟨p, 1, none⟩ = some (.int .i64 c) := a4.1.cell 1
      have f5 : w4.frozen? ⟨p, 1, none⟩ = false := a4.1.free 1
      have A4H := Lib.hid a4
      clear a4 o4 k4 n4
      refine wpAnyH_ready (rs := [9]) (by kernel_rfl) (by simp) ?_
      refine AllReadyH.cons (o := ⟨_, _, _, _, _, _⟩) rfl (fun K hK => ?_) AllReadyH.nil
      go_simp
      refine hK.out _ _ trivial (fun _ => ?_)
      clear hK K
      try simp only [Act.put, List.setIfInBounds_toArray, List.set_cons_zero, List.set_cons_succ]
      refine wpAnyH_ready (rs := [10]) (by kernel_rfl) (by simp) ?_
      refine AllReadyH.cons (o := ⟨_, _, _, _, _, _⟩) rfl (fun K hK => ?_) AllReadyH.nil
      go_simp
      refine hK.out _ _ trivial (fun _ => ?_)
      clear hK K
      try simp only [Act.put, List.setIfInBounds_toArray, List.set_cons_zero, List.set_cons_succ]
      refine wpAnyH_ready (rs := [11]) (by kernel_rfl) (by simp) ?_
      refine AllReadyH.cons (o := ⟨_, _, _, _, _, _⟩) rfl (fun K hK => ?_) AllReadyH.nil
      go_simp
      refine hK.out _ _ trivial (fun _ => ?_)
      clear hK K
      try simp only [Act.put, List.setIfInBounds_toArray, List.set_cons_zero, List.set_cons_succ]
      refine wpAnyH_done (by kernel_rfl) ?_ _
      have hw : IntKind.i64.wrap ((c : Int) + 1) = (c : Int) + 1 := by have := HC.out.2; rw [IntKind.wrap_i64]; omega
      go_wp2_with fail
      go_ret
      exact addEndM H0.out K1.out A4H.out
    · skip
      go_simp
      refine (copyDX F0 pk X _ (HT.out.keep KD.out (by simp)) hf).mono ?_
      rintro e w2 ⟨X2, G, rfl, i2, n2, k2⟩
      go_wp2_with fail
      refine hK.out _ _ trivial (fun _ => ?_)
      clear hK K
      try simp only [Act.put, List.setIfInBounds_toArray, List.set_cons_zero, List.set_cons_succ]
      have I2 := Lib.hid (And.intro i2 (And.intro n2 k2))
      have XL2 := Lib.hid i2.len
      have XO2 := Lib.hid i2.one
      clear i2 n2 k2
      dsimp only at XL2 XO2
      refine wpAnyH_ready (rs := [4, 7]) (by kernel_rfl) (by simp) ?_
      refine AllReadyH.cons (o := ⟨_, _, _, _, _, _⟩) rfl (fun K hK => ?_) (AllReadyH.cons (o := ⟨_, _, _, _, _, _⟩) rfl (fun K hK => ?_) AllReadyH.nil)
      · skip
        have yb := HB.out _ (KD.out.then I2.out.2.2 (by simp))
        go_simp
        refine hK.out _ _ trivial (fun _ => ?_)
        clear hK K
        try simp only [Act.put, List.setIfInBounds_toArray, List.set_cons_zero, List.set_cons_succ]
        clear yb
        refine wpAnyH_ready (rs := [7]) (by kernel_rfl) (by simp) ?_
        refine AllReadyH.cons (o := ⟨_, _, _, _, _, _⟩) rfl (fun K hK => ?_) AllReadyH.nil
        refine step_build_one _ rfl 44 (.tmp 23) rfl 40 iP zP X2 rfl Tryd.underlying44 HIP.out.1 HIP.out.2.2.2.1 (by rw [HIP.out.2.1]; exact XL2.out.symm) (by have := XL2.out; omega) (by have := XL2.out; omega) ?_
        refine hK.out _ _ trivial (fun _ => ?_)
        clear hK K
        try simp only [Act.put, List.setIfInBounds_toArray, List.set_cons_zero, List.set_cons_succ]
        refine wpAnyH_ready (rs := [8]) (by kernel_rfl) (by simp) ?_
        refine AllReadyH.cons (o := ⟨_, _, _, _, _, _⟩) rfl (fun K hK => ?_) AllReadyH.nil
        refine step_appendO _ rfl (.tmp 21) (.tmp 24) 44 rfl 40 iP zP 87 iP.bytes Tryd.underlying44 HIP.out.1 HIP.out.2.2.2.1 HIP.out.2.1 rfl HIP.out.2.2.2.2 (by decide) (.slice A T.length k) T.length (flatP T) rfl (HN.out.own.keep (KD.out.then (I2.out.2.2.alloc _) (by simp)) (by simp)) (some ⟨w2.heap.size, 0, none⟩) w2.heap.size 1 1 X2 rfl (by have h := reads_row w2 40 X2; rw [XL2.out] at h; exact h) XO2.out (by decide) (by have h1 := HIP.out.2.2.1; have h2 := HL.out; exact Nat.le_trans (Nat.mul_le_mul (show T.length + 1 ≤ 2000 by omega) h1) (by decide)) (by have h2 := HL.out; simp only [maxLen]; omega) (fun A4 c4 w4 o4 k4 n4 => ?_)
        refine hK.out _ _ trivial (fun _ => ?_)
        clear hK K
        try simp only [Act.put, List.setIfInBounds_toArray, List.set_cons_zero, List.set_cons_succ]
        have a4 := addMidM (F0 := F0) HN.out KD.out I2.out.1 I2.out.2.1 I2.out.2.2 o4 k4 n4
        have y4 : w4.cell? ⟨p, 0, none⟩ = some (.slice A T.length k) := a4.1.cell 0
        have f4 : w4.frozen? ⟨p, 0, none⟩ = false := a4.1.free 0
        have y5 : w4.cell? ⟨p, 1, none⟩ = some (.int .i64 c) := a4.1.cell 1
        have f5 : w4.frozen? ⟨p, 1, none⟩ = false := a4.1.free 1
        have A4H := Lib.hid a4
        clear a4 o4 k4 n4
        refine wpAnyH_ready (rs := [9]) (by kernel_rfl) (by simp) ?_
        refine AllReadyH.cons (o := ⟨_, _, _, _, _, _⟩) rfl (fun K hK => ?_) AllReadyH.nil
        go_simp
        refine hK.out _ _ trivial (fun _ => ?_)
        clear hK K
        try simp only [Act.put, List.setIfInBounds_toArray, List.set_cons_zero, List.set_cons_succ]
        refine wpAnyH_ready (rs := [10]) (by kernel_rfl) (by simp) ?_
        refine AllReadyH.cons (o := ⟨_, _, _, _, _, _⟩) rfl (fun K hK => ?_) AllReadyH.nil
        go_simp
        refine hK.out _ _ trivial (fun _ => ?_)
        clear hK K
        try simp only [Act.put, List.setIfInBounds_toArray, List.set_cons_zero, List.set_cons_succ]
        refine wpAnyH_ready (rs := [11]) (by kernel_rfl) (by simp) ?_
        refine AllReadyH.cons (o := ⟨_, _, _, _, _, _⟩) rfl (fun K hK => ?_) AllReadyH.nil
        go_simp
        refine hK.out _ _ trivial (fun _ => ?_)
        clear hK K
        try simp only [Act.put, List.setIfInBounds_toArray, List.set_cons_zero, List.set_cons_succ]
        refine wpAnyH_done (by kernel_rfl) ?_ _
        have hw : IntKind.i64.wrap ((c : Int) + 1) = (c : Int) + 1 := by have := HC.out.2; rw [IntKind.wrap_i64]; omega
        go_wp2_with fail
        go_ret
        exact addEndM H0.out K1.out A4H.out
      · skip
        refine step_build_one _ rfl 44 (.tmp 23) rfl 40 iP zP X2 rfl Tryd.underlying44 HIP.out.1 HIP.out.2.2.2.1 (by rw [HIP.out.2.1]; exact XL2.out.symm) (by have := XL2.out; omega) (by have := XL2.out; omega) ?_
        refine hK.out _ _ trivial (fun _ => ?_)
        clear hK K
        try simp only [Act.put, List.setIfInBounds_toArray, List.set_cons_zero, List.set_cons_succ]
        refine wpAnyH_ready (rs := [4]) (by kernel_rfl) (by simp) ?_
        refine AllReadyH.cons (o := ⟨_, _, _, _, _, _⟩) rfl (fun K hK => ?_) AllReadyH.nil
        have yb := HB.out _ (KD.out.then (I2.out.2.2.alloc (.cells X2.toArray 40)) (by simp))
        go_simp
        refine hK.out _ _ trivial (fun _ => ?_)
        clear hK K
        try simp only [Act.put, List.setIfInBounds_toArray, List.set_cons_zero, List.set_cons_succ]
        clear yb
        refine wpAnyH_ready (rs := [8]) (by kernel_rfl) (by simp) ?_
        refine AllReadyH.cons (o := ⟨_, _, _, _, _, _⟩) rfl (fun K hK => ?_) AllReadyH.nil
        refine step_appendO _ rfl (.tmp 21) (.tmp 24) 44 rfl 40 iP zP 87 iP.bytes Tryd.underlying44 HIP.out.1 HIP.out.2.2.2.1 HIP.out.2.1 rfl HIP.out.2.2.2.2 (by decide) (.slice A T.length k) T.length (flatP T) rfl (HN.out.own.keep (KD.out.then (I2.out.2.2.alloc _) (by simp)) (by simp)) (some ⟨w2.heap.size, 0, none⟩) w2.heap.size 1 1 X2 rfl (by have h := reads_row w2 40 X2; rw [XL2.out] at h; exact h) XO2.out (by decide) (by have h1 := HIP.out.2.2.1; have h2 := HL.out; exact Nat.le_trans (Nat.mul_le_mul (show T.length + 1 ≤ 2000 by omega) h1) (by decide)) (by have h2 := HL.out; simp only [maxLen]; omega) (fun A4 c4 w4 o4 k4 n4 => ?_)
        refine hK.out _ _ trivial (fun _ => ?_)
        clear hK K
        try simp only [Act.put, List.setIfInBounds_toArray, List.set_cons_zero, List.set_cons_succ]
        have a4 := addMidM (F0 := F0) HN.out KD.out I2.out.1 I2.out.2.1 I2.out.2.2 o4 k4 n4
        have y4 : w4.cell? ⟨p, 0, none⟩ = some (.slice A T.length k) := a4.1.cell 0
        have f4 : w4.frozen? ⟨p, 0, none⟩ = false := a4.1.free 0
        have y5 : w4.cell? ⟨p, 1, none⟩ = some (.int .i64 c) := a4.1.cell 1
        have f5 : w4.frozen? ⟨p, 1, none⟩ = false := a4.1.free 1
        have A4H := Lib.hid a4
        clear a4 o4 k4 n4
        refine wpAnyH_ready (rs := [9]) (by kernel_rfl) (by simp) ?_
        refine AllReadyH.cons (o := ⟨_, _, _, _, _, _⟩) rfl (fun K hK => ?_) AllReadyH.nil
        go_simp
        refine hK.out _ _ trivial (fun _ => ?_)
        clear hK K
        try simp only [Act.put, List.setIfInBounds_toArray, List.set_cons_zero, List.set_cons_succ]
        refine wpAnyH_ready (rs := [10]) (by kernel_rfl) (by simp) ?_
        refine AllReadyH.cons (o := ⟨_, _, _, _, _, _⟩) rfl (fun K hK => ?_) AllReadyH.nil
        go_simp
        refine hK.out _ _ trivial (fun _ => ?_)
        clear hK K
        try simp only [Act.put, List.setIfInBounds_toArray, List.set_cons_zero, List.set_cons_succ]
        refine wpAnyH_ready (rs := [11]) (by kernel_rfl) (by simp) ?_
        refine AllReadyH.cons (o := ⟨_, _, _, _, _, _⟩) rfl (fun K hK => ?_) AllReadyH.nil
        go_simp
        refine hK.out _ _ trivial (fun _ => ?_)
        clear hK K
        try simp only [Act.put, List.setIfInBounds_toArray, List.set_cons_zero, List.set_cons_succ]
        refine wpAnyH_done (by kernel_rfl) ?_ _
        have hw : IntKind.i64.wrap ((c : Int) + 1) = (c : Int) + 1 := by have := HC.out.2; rw [IntKind.wrap_i64]; omega
        go_wp2_with fail
        go_ret
        exact addEndM H0.out K1.out A4H.out
end Go.Proofs.YtcnlnkkdcofphaaDoor
end

section
namespace Go.Proofs.YtcnlnkkdcofphaaDoor
open Go.RowKit
set_option linter.unusedVariables false
set_option maxRecDepth 100000
set_option linter.unusedSimpArgs false

set_option maxHeartbeats 4000000 in
theorem atM_no (p : Nat) (v : Value) (T : List (PK × List Value)) (F : List Nat) (c : Nat) (i : Int) (w : World) (h : isM w p v T F c) (hi : ¬ (0 ≤ i ∧ i < T.length)) :
    Calls Tryd.prog 33 #[.pointer (some ⟨p, 0, none⟩), .int .i64 i] w (nonePost w) := by
  obtain ⟨Z, hZl, hZ, hZb, hZi⟩ := zeroP
  have HZ := Lib.hid (And.intro hZ hZl)
  have HZB := Lib.hid hZb
  have HZI := Lib.hid hZi
  obtain ⟨A, k, rfl, _⟩ := h.form
  have k1 := (keepBut.refl [] w).alloc (.cells Z.toArray 40)
  have r1 := rowAt.new w 40 Z.toArray
  obtain ⟨w1, hw1⟩ : ∃ w1, w.alloc (.cells Z.toArray 40) = w1 := ⟨_, rfl⟩
  rw [hw1] at k1 r1
  have x1 : w1.cell? ⟨p, 0, none⟩ = some (.slice A T.length k) := (h.over k1).row.cell 0
  have HW := Lib.hid hw1
  have R1 := Lib.hid r1
  have K1 := Lib.hid k1
  have RS := Lib.hid (r1.there (o := 0) (n := Z.toArray.size) (by omega))
  have HH := Lib.hid hi
  clear h hZ hZl hZb hZi hw1 k1 r1
  by_cases h0 : i < 0
  all_goals
    (try have h1 : (T.length : Int) ≤ i := by omega)
    clear hi
    go_enter Tryd.func33, Tryd.ntmps33
    go_wp2_with (first
      | (with_reducible refine wpList_alloc_to _ _ rfl 40 rfl _ HZ.out.1 HW.out ?_)
      | (with_reducible refine wpList_build_v _ rfl 40 rfl _ (HZB.out _) ?_)
      | (refine wpList_store_mid rfl 40 (.tmp 4) (.tmp 17) rfl w.heap.size 0 Z.toArray rfl rfl RS.out (by rw [List.size_toArray, HZ.out.2]; exact info_pk) (all_oneCell_toArray (HZI.out w).one) ?_))
    have r3 := R1.out.setL (vs := Z) (o := 0)
    rw [putL_all (by rw [List.size_toArray])] at r3
    have k3 := (keepBut.refl [w.heap.size] w1).setL (vs := Z) (g := w.heap.size) (o := 0) (.inl (by simp))
    refine bodyPost_ret (results_row_tmp rfl _ _ w.heap.size 40 _ (0, 0) _ rfl r3 Tryd.underlying40 rfl (by rw [List.size_toArray, HZ.out.2]; exact info_pk)) rfl ?_
    exact ⟨Z, rfl, HZI.out _, K1.out.then k3 (by simp)⟩
set_option maxHeartbeats 4000000 in
theorem atM_any (p : Nat) (v : Value) (T : List (PK × List Value)) (F : List Nat) (c : Nat) (i : Nat) (t : PK × List Value) (w : World) (h : isM w p v T F c) (ht : T[i]? = some t) (hf : t.1.fits) :
    Calls Tryd.prog 33 #[.pointer (some ⟨p, 0, none⟩), .int .i64 i] w (atPost t.1 w) := by
  have hi : i < T.length := (List.getElem?_eq_some_iff.1 ht).1
  obtain ⟨Z, hZl, hZ, hZb, hZi⟩ := zeroP
  have HZ := Lib.hid (And.intro hZ hZl)
  have k1 := (keepBut.refl [] w).alloc (.cells Z.toArray 40)
  have r1 := rowAt.new w 40 Z.toArray
  obtain ⟨w1, hw1⟩ : ∃ w1, w.alloc (.cells Z.toArray 40) = w1 := ⟨_, rfl⟩
  rw [hw1] at k1 r1
  have h1 := h.over k1
  obtain ⟨A, k, rfl, hk1, hk2⟩ := h.form
  obtain ⟨g, off, rfl, hg, hh, hr⟩ := h1.item ht
  have x1 : w1.cell? ⟨p, 0, none⟩ = some (.slice (some ⟨g, off, none⟩) T.length k) := h1.row.cell 0
  have HT := Lib.hid (h1.its t (List.mem_of_getElem? ht))
  have HI := Lib.hid (show (Tryd.prog.info? 40).map (·.size) = some t.2.length by rw [HT.out.len]; exact info_pk)
  have HR := Lib.hid hr
  have HN := Lib.hid h1
  have HW := Lib.hid hw1
  have R1 := Lib.hid r1
  have K1 := Lib.hid k1
  have hi0 : (0 : Int) ≤ (i : Int) := by omega
  have hi1 : (i : Int) < (T.length : Int) := by omega
  clear ht hr h h1 hi hg hZ hZl hZb hZi hw1 k1 r1 hh
  go_enter Tryd.func33, Tryd.ntmps33
  go_wp2_with (first
    | (with_reducible refine wpList_alloc_to _ _ rfl 40 rfl _ HZ.out.1 HW.out ?_)
    | (refine wpList_load_mid_g 40 (.tmp 23) rfl g (off + i * 87) rfl t.2 _ HR.out Tryd.underlying40 rfl HI.out rfl ?_)
    | (go_at_call 47; refine (copyDX F t.1 t.2 _ HT.out hf).mono ?_; rintro e w2 ⟨X2, G, rfl, i2, n2, k2⟩; have Q2 := Lib.hid (And.intro i2 (And.intro n2 k2)); have RS := Lib.hid ((k2.row R1.out (by simp)).there (o := 0) (n := X2.toArray.size) (by have := i2.len; have := HZ.out.2; simp only [List.size_toArray] at *; omega)); clear i2 n2 k2)
    | (refine wpList_store_mid rfl 40 (.tmp 4) (.tmp 25) rfl w.heap.size 0 X2.toArray rfl rfl RS.out (by rw [List.size_toArray, Q2.out.1.len]; exact info_pk) (all_oneCell_toArray Q2.out.1.one) ?_))
  have l2 : X2.length = 87 := Q2.out.1.len
  have r3 := (Q2.out.2.2.row R1.out (by simp)).setL (vs := X2) (o := 0)
  rw [putL_all (by rw [l2, List.size_toArray]; exact HZ.out.2.symm)] at r3
  have k3 := (keepBut.refl [w.heap.size] w2).setL (vs := X2) (g := w.heap.size) (o := 0) (.inl (by simp))
  have s1 := K1.out.size
  have hs1 : w1.heap.size = w.heap.size + 1 := by rw [← HW.out]; exact World.size_alloc _ _
  refine bodyPost_ret (results_row_tmp rfl _ _ w.heap.size 40 _ (0, 0) _ rfl r3 Tryd.underlying40 rfl (by rw [List.size_toArray, l2]; exact info_pk)) rfl ?_
  refine ⟨X2, G, rfl, Q2.out.1.keep k3 (fun y hy hm => ?_), fun y hy => ⟨by have := (Q2.out.2.1 y hy).1; omega, Nat.lt_of_lt_of_le (Q2.out.2.1 y hy).2 k3.size⟩, (K1.out.then Q2.out.2.2 (by simp)).then k3 (by simp)⟩
  have := (Q2.out.2.1 y hy).1
  simp only [List.mem_singleton] at hm
  omega
set_option maxHeartbeats 4000000 in
theorem twiceM_no (p : Nat) (v : Value) (T : List (PK × List Value)) (F : List Nat) (c : Nat) (i : Int) (w : World) (h : isM w p v T F c) (hi : ¬ (0 ≤ i ∧ i < T.length)) :
    Calls Tryd.prog 32 #[.pointer (some ⟨p, 0, none⟩), .int .i64 i] w fun e w' => e = .returned (.int .i64 9) ∧ keepBut [] w w' := by
  obtain ⟨Z, hZl, hZ, hZb, hZi⟩ := zeroP
  have HZ := Lib.hid (And.intro hZ hZl)
  clear hZl hZ hZb hZi
  go_enter Tryd.func32, Tryd.ntmps32
  go_wp2_with (first
    | (go_at_call 33; refine (atM_no _ _ _ _ _ _ _ h hi).mono ?_; rintro e w2 ⟨X2, rfl, i2, k2⟩; have Q2 := Lib.hid (And.intro i2 k2); clear i2 k2)
    | (with_reducible refine wpList_alloc_to _ _ rfl 40 rfl _ HZ.out.1 rfl ?_)
    | (refine wpList_store_mid rfl 40 (.tmp 5) (.tmp 11) rfl w2.heap.size 0 X2.toArray rfl rfl (there_newP (by rw [Q2.out.1.len]; exact HZ.out.2.symm)) (by rw [List.size_toArray, Q2.out.1.len]; exact info_pk) (all_oneCell_toArray Q2.out.1.one) ?_))
  go_ret
  exact ⟨rfl, Q2.out.2.then (storedP (by rw [Q2.out.1.len]; exact HZ.out.2.symm)).2 (by simp)⟩
set_option maxHeartbeats 4000000 in
theorem twiceM_any (p : Nat) (v : Value) (T : List (PK × List Value)) (F : List Nat) (c : Nat) (i : Nat) (t : PK × List Value) (w : World) (h : isM w p v T F c) (ht : T[i]? = some t) (hok : t.1.ok = true) (hl : T.length < 2000) (hc : c < 1000000) :
    Calls Tryd.prog 32 #[.pointer (some ⟨p, 0, none⟩), .int .i64 i] w (addPostM p v T F c t.1 w) := by
  obtain ⟨Z, hZl, hZ, hZb, hZi⟩ := zeroP
  have HZ := Lib.hid (And.intro hZ hZl)
  have HA := Lib.hid (atM_any p v T F c i t w h ht (PK.ok_fits hok))
  have HN := Lib.hid h
  have HO := Lib.hid (And.intro hok (And.intro hl hc))
  clear hZl hZ hZb hZi h ht hok hl hc
  go_enter Tryd.func32, Tryd.ntmps32
  go_wp2_with (first
    | (go_at_call 33; refine HA.out.mono ?_; rintro e w2 ⟨X2, G, rfl, i2, n2, k2⟩; have Q2 := Lib.hid (And.intro i2 (And.intro n2 k2)); have ST := Lib.hid (storedP (w := w2) (t := 40) (Z := Z) (X := X2) (by rw [i2.len]; exact HZ.out.2.symm)); obtain ⟨q, hq⟩ : ∃ q, w2.heap.size = q := ⟨_, rfl⟩; have HTH := Lib.hid (there_newP (w := w2) (t := 40) (Z := Z) (X := X2) (by rw [i2.len]; exact HZ.out.2.symm)); rw [hq] at ST HTH; obtain ⟨w3, hw3⟩ : ∃ w3, (w2.alloc (.cells Z.toArray 40)).setCells q 0 X2 = w3 := ⟨_, rfl⟩; rw [hw3] at ST; have HW3 := Lib.hid hw3; clear i2 n2 k2 hw3)
    | (with_reducible refine wpList_alloc_to _ _ rfl 40 rfl _ HZ.out.1 rfl ?_)
    | (simp only [hq]; refine wpList_store_mid rfl 40 (.tmp 5) (.tmp 11) rfl q 0 X2.toArray rfl rfl HTH.out (by rw [List.size_toArray, Q2.out.1.len]; exact info_pk) (all_oneCell_toArray Q2.out.1.one) ?_)
    | (refine wpList_load_mid rfl 40 (.tmp 5) rfl q 0 rfl X2 _ (by simp only [HW3.out]; exact ST.out.1.rangeAll) Tryd.underlying40 rfl (by rw [Q2.out.1.len]; exact info_pk) ?_)
    | (simp only [HW3.out]; go_at_call 35; refine (putM_any p v T F c G t.1 X2 w3 ((HN.out.over Q2.out.2.2).over ST.out.2) (Q2.out.1.keep ST.out.2 (by simp)) (fun y hy hm => by have := (Q2.out.2.1 y hy).1; have := HN.out.own.lt y hm; omega) (PK.ok_fits HO.out.1) HO.out.2.1 HO.out.2.2 HO.out.1).mono ?_; rintro e w4 ⟨v4, X4, G4, rfl, q4⟩; have Q4 := Lib.hid q4; clear q4))
  go_ret
  exact addPostM.lift (addPostM.lift ⟨v4, X4, G4, rfl, Q4.out⟩ ST.out.2) Q2.out.2.2
end Go.Proofs.YtcnlnkkdcofphaaDoor
end
