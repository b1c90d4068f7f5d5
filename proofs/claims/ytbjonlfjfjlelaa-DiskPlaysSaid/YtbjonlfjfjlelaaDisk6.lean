/-
  DISK, 6: Cut, Write.
-/
import Derived.Test.YtbjonlfjfjlelaaDisk5
import Derived.Deep.CutBlock
import Derived.Deep.DeepCutAuto
namespace Go.Proofs.Ytbjonlfjfjlelaa
open Go.RowKit
set_option linter.unusedVariables false

def DS.cut (d : DS) (k : Int) : Int × DS := if d.dead then (130, d) else if k < 0 ∨ (d.b.length : Int) < k then (9, d) else (0, { d with b := d.b.take k.toNat, n := k.toNat })

theorem infoSl : (Try.prog.info? 28).map (fun i => (i.zero, i.size, i.bytes)) = some (some (.slice none 0 0), 1, 24) := by kernel_rfl

set_option maxHeartbeats 1000000 in
theorem cutD_any (p : Nat) (F : List Nat) (d : DS) (k : Int) (w : World) (h : isD w p F d) (hk0 : k ≤ 9223372036854775807) :
    Calls Try.prog 19 #[.pointer (some ⟨p, 0, none⟩), .int .i64 k] w (dPost p F (d.cut k).2 (d.cut k).1 w) := by
  cases hd : d.dead with
  | true =>
    have HR := Lib.hid (show d.ready = 130 by simp [DS.ready, hd])
    have HA := Lib.hid (show d.cut k = (130, d) by simp [DS.cut, hd])
    clear hd
    go_enter Try.func19, Try.ntmps19
    go_wp2_with (go_at_call 58; refine (ready_any _ _ _ _ h).mono ?_; rintro e w' ⟨rfl, rfl⟩; rw [HR.out])
    go_ret
    rw [HA.out]; exact dPost.same h
  | false =>
    have HR := Lib.hid (show d.ready = 0 by simp [DS.ready, hd])
    obtain ⟨vb, vs, vt, x, T, h1, h2, h3, h4, h5, h6, h7, h8, h9, h10, h11, h12, h13⟩ := id h
    obtain ⟨A, c, g, rfl, hcc, hcm, _, _⟩ := h2.seen
    have hc0 : w.cell? ⟨p, 0, none⟩ = some (.slice A d.b.length c) := h1.cell 0
    have hc1 : w.cell? ⟨p, 1, none⟩ = some (.int .i64 (d.n : Int)) := h1.cell 1
    have hf0 := h1.free 0
    have hf1 := h1.free 1
    unfold maxLen at hcm
    by_cases hneg : k < 0
    · have HA := Lib.hid (show d.cut k = (9, d) by simp [DS.cut, hd, hneg])
      clear h1 h2 h5 h6 h7 h8 h9 h10 h11 h12 h13 hd
      go_enter Try.func19, Try.ntmps19
      go_wp2_with (go_at_call 58; refine (ready_any _ _ _ _ h).mono ?_; rintro e w' ⟨rfl, rfl⟩; rw [HR.out])
      go_ret
      rw [HA.out]; exact dPost.same h
    · by_cases hbig : (d.b.length : Int) < k
      · have HA := Lib.hid (show d.cut k = (9, d) by simp [DS.cut, hd, hbig])
        clear h1 h2 h5 h6 h7 h8 h9 h10 h11 h12 h13 hd
        go_enter Try.func19, Try.ntmps19
        go_wp2_with (go_at_call 58; refine (ready_any _ _ _ _ h).mono ?_; rintro e w' ⟨rfl, rfl⟩; rw [HR.out])
        go_ret
        rw [HA.out]; exact dPost.same h
      · obtain ⟨m, rfl⟩ := Int.eq_ofNat_of_zero_le (by omega : 0 ≤ k)
        have HA := Lib.hid (show d.cut (m : Int) = (0, { d with b := d.b.take m, n := m }) by simp [DS.cut, hd]; omega)
        have hml : m ≤ d.b.length := by omega
        have hk := ((keepBut.refl [p] w).setCell ⟨p, 0, none⟩ (.slice A m c) (by simp)).setCell ⟨p, 1, none⟩ (.int .i64 (m : Int)) (by simp)
        have H : Hid (isD ((w.setCell ⟨p, 0, none⟩ (.slice A m c)).setCell ⟨p, 1, none⟩ (.int .i64 (m : Int))) p F { d with b := d.b.take m, n := m }) := by
          refine isD.poke (x' := x) (vs' := vs) (vb' := .slice A m c) h1 h6 h7 h8 h9 h11 h12 h13 hk ?_ ?_ (fun y hy => by rw [homes_cut A m c d.b.length c] at hy; exact hy) (by simp; omega) (by simp; omega) (h5.poke hk h1) h10
          · have := (h1.set 0 (.slice A m c)).set 1 (.int .i64 (m : Int))
            simpa using this
          · have := (owns.cut h2 rfl hml).poke hk h1 (by decide)
            have e1 : (d.b.take m).length = m := by simp; omega
            simp only [e1]
            exact this
        have HK := Lib.hid hk
        clear h1 h2 h5 h6 h7 h8 h10 h11 h12 h13 hd hk
        go_enter Try.func19, Try.ntmps19
        go_wp2_with (go_at_call 58; refine (ready_any _ _ _ _ h).mono ?_; rintro e w' ⟨rfl, rfl⟩; rw [HR.out])
        go_ret
        rw [HA.out]
        exact ⟨rfl, F, H.out, HK.out.more (by simpa using h9), fun y hy => .inl hy⟩

def DS.write (d : DS) (l : List UInt8) : Int × DS := if d.dead then (130, d) else if 1048576 < d.b.length + l.length then (5, d) else (0, { d with b := d.b ++ l, t := d.t ++ [l] })

theorem write1 {p : Nat} {F : List Nat} {d : DS} {A0 : Option Addr} {c0 : Nat} {vs vt : Value} {x : Nat} {T : List (Nat × List UInt8)} {w w2 : World} {l : List UInt8} {A2 : Option Addr} {c2 : Nat}
    (h1 : rowAt w p 44 #[Value.slice A0 d.b.length c0, Value.int IntKind.i64 ↑d.n, Value.bool d.dead, vs, vt]) (h2 : owns w 5 1 (Value.slice A0 d.b.length c0) d.b.length (List.map bv d.b))
    (h3 : d.n ≤ d.b.length) (h4 : d.b.length + l.length ≤ 1048576) (h5 : syncAt w vs x d.arm) (h6 : owns w 28 1 vt T.length (T.map tv)) (h7 : T.map (·.2) = d.t)
    (h8 : ∀ y ∈ T, rowAt w y.1 5 (y.2.map bv).toArray ∧ y.1 ∈ F ∧ y.1 ∉ homes (.slice A0 d.b.length c0)) (h9 : p ∈ F) (h10 : x ∈ F) (h11 : ∀ y ∈ homes (.slice A0 d.b.length c0), y ∈ F) (h12 : ∀ y ∈ homes vt, y ∈ F) (h13 : ∀ y ∈ F, y < w.heap.size)
    (ho : owns w2 5 1 (.slice A2 (d.b.length + l.length) c2) (d.b.length + l.length) (d.b.map bv ++ l.map bv)) (hk : keepBut (homes (.slice A0 d.b.length c0)) w w2)
    (hh : ∀ y ∈ homes (.slice A2 (d.b.length + l.length) c2), y ∈ homes (.slice A0 d.b.length c0) ∨ w.heap.size ≤ y) :
    isD (w2.setCell ⟨p, 0, none⟩ (.slice A2 (d.b.length + l.length) c2)) p (homes (.slice A2 (d.b.length + l.length) c2) ++ F) { d with b := d.b ++ l } ∧
    keepBut F w (w2.setCell ⟨p, 0, none⟩ (.slice A2 (d.b.length + l.length) c2)) ∧ ∀ y ∈ homes (.slice A2 (d.b.length + l.length) c2) ++ F, y ∈ F ∨ w.heap.size ≤ y := by
  have hr2 := hk.row h1 (h2.apart h1 (by decide))
  have hkp := (keepBut.refl [p] w2).setCell ⟨p, 0, none⟩ (.slice A2 (d.b.length + l.length) c2) (by simp)
  have hel : ∀ y ∈ T, y.1 ∉ homes (.slice A2 (d.b.length + l.length) c2) := fun y hy hm => by
    rcases hh _ hm with h | h
    · exact (h8 y hy).2.2 h
    · have := h13 _ (h8 y hy).2.1; omega
  refine ⟨⟨.slice A2 (d.b.length + l.length) c2, vs, vt, x, T, by simpa using hr2.set 0 (.slice A2 (d.b.length + l.length) c2), ?_, ?_, ?_, ?_, ?_, h7, ?_, ?_, ?_, ?_, ?_, ?_⟩, ?_, ?_⟩
  · have := ho.poke hkp hr2 (by decide)
    simpa using this
  · simp; omega
  · simpa using h4
  · refine syncAt.poke ?_ hkp hr2
    cases ha : d.arm with
    | none => rw [ha] at h5; exact h5
    | some k => rw [ha] at h5; exact ⟨h5.1, hk.row h5.2.1 (h2.apart h5.2.1 (by decide)), h5.2.2⟩
  · refine (h6.keep hk (fun y hy hm => ?_)).poke hkp hr2 (by decide)
    rcases h6.2 with ⟨hv, _⟩ | ⟨g, cap, cur, hv, hr, _⟩
    · rw [hv] at hy; simp [homes_none] at hy
    · rw [hv] at hy; simp [homes_some] at hy; subst hy; exact (h2.apart hr (by decide)) hm
  · exact fun y hy => ⟨hkp.row (hk.row (h8 y hy).1 (h8 y hy).2.2) (fun hm => ((h8 y hy).1.apart h1 (by decide)) (List.mem_singleton.1 hm)), List.mem_append_right _ (h8 y hy).2.1, hel y hy⟩
  · exact List.mem_append_right _ h9
  · exact List.mem_append_right _ h10
  · exact fun y hy => List.mem_append_left _ hy
  · exact fun y hy => List.mem_append_right _ (h12 y hy)
  · intro y hy
    have h0 := hkp.size
    rcases List.mem_append.1 hy with hy | hy
    · exact Nat.lt_of_lt_of_le (ho.lt y hy) h0
    · have := h13 y hy; have := hk.size; omega
  · exact (hk.more h11).then hkp (fun y hy => .inl (by rw [List.mem_singleton.1 hy]; exact h9))
  · intro y hy
    rcases List.mem_append.1 hy with hy | hy
    · exact (hh y hy).imp (h11 y) id
    · exact .inl hy

/-- a piece is put behind the trace -/
theorem push_end {p : Nat} {F : List Nat} {d : DS} {w w4 w5 : World} {l : List UInt8} {vt : Value} {gb n : Nat} {xs : List Value} {A5 : Option Addr} {c5 : Nat}
    (h : isD w p F d) (hvt : w.cell? ⟨p, 4, none⟩ = some vt) (hk4 : keepBut [] w w4) (hr4 : rowAt w4 gb 5 (l.map bv).toArray) (hgb : w.heap.size ≤ gb) (hn : n = d.t.length)
    (hxs : owns w 28 1 vt n xs)
    (ho : owns w5 28 1 (.slice A5 (n + 1) c5) (n + 1) (xs ++ [.slice (some ⟨gb, 0, none⟩) l.length l.length])) (hk5 : keepBut (homes vt) w4 w5)
    (hh : ∀ y ∈ homes (.slice A5 (n + 1) c5), y ∈ homes vt ∨ w4.heap.size ≤ y) :
    ∃ F', isD (w5.setCell ⟨p, 4, none⟩ (.slice A5 (n + 1) c5)) p F' { d with t := d.t ++ [l] } ∧ keepBut F w (w5.setCell ⟨p, 4, none⟩ (.slice A5 (n + 1) c5)) ∧ ∀ y ∈ F', y ∈ F ∨ w.heap.size ≤ y := by
  obtain ⟨vb, vs, vt', x, T, h1, h2, h3, h4, h5, h6, h7, h8, h9, h10, h11, h12, h13⟩ := h
  have hvt' : w.cell? ⟨p, 4, none⟩ = some vt' := h1.cell 4
  obtain rfl : vt = vt' := by rw [hvt] at hvt'; exact Option.some.inj hvt'
  have hTn : T.length = n := by rw [hn, ← h7]; simp
  have hr4' := hk4.row h1 (by simp)
  have h6' := h6.keep hk4 (by simp)
  have hr5 := hk5.row hr4' (h6'.apart hr4' (by decide))
  have hkp := (keepBut.refl [p] w5).setCell ⟨p, 4, none⟩ (.slice A5 (n + 1) c5) (by simp)
  have hs4 := hk4.size
  have hsame : xs = T.map tv := by
    subst hTn
    rcases h6.2 with ⟨hv, h0⟩ | ⟨g, cap, cur, hv, hr, e1, e2, e3, e4⟩
    · have a1 := h6.1; have a2 := hxs.1
      rw [List.eq_nil_of_length_eq_zero (show xs.length = 0 by omega), List.eq_nil_of_length_eq_zero (show (T.map tv).length = 0 by omega)]
    · rcases hxs.2 with ⟨hv', h0'⟩ | ⟨g', cap', cur', hv', hr', e1', e2', e3', e4'⟩
      · rw [hv'] at hv; cases hv
      · rw [hv'] at hv
        simp only [Value.slice.injEq, Option.some.injEq, Addr.mk.injEq] at hv
        obtain ⟨⟨rfl, _⟩, _, rfl⟩ := hv
        have := (hr.uniq hr').2
        rw [← e4, ← e4', this]
  subst hsame
  have mem : ∀ y, y ∈ homes (.slice A5 (n + 1) c5) → y ∈ F ∨ w.heap.size ≤ y := fun y hy => (hh y hy).imp (h12 y) (by omega)
  have hu : ∀ {z : Nat} {e : TypeId} {cs : Array Value}, rowAt w z e cs → e ≠ 28 → z ∉ homes vt := fun hr hne => h6.apart hr hne
  have stay : ∀ {z : Nat} {cs : Array Value} {e : TypeId}, rowAt w z e cs → e ≠ 28 → z ≠ p → rowAt (w5.setCell ⟨p, 4, none⟩ (.slice A5 (n + 1) c5)) z e cs := fun hr hne hp =>
    hkp.row (hk5.row (hk4.row hr (by simp)) (hu hr hne)) (by simpa using hp)
  refine ⟨gb :: homes (.slice A5 (n + 1) c5) ++ F, ⟨vb, vs, .slice A5 (n + 1) c5, x, T ++ [(gb, l)], by simpa using hr5.set 4 (.slice A5 (n + 1) c5), ?_, h3, h4, ?_, ?_, ?_, ?_, ?_, ?_, ?_, ?_, ?_⟩, ?_, ?_⟩
  · refine ((h2.keep hk4 (by simp)).keep hk5 (fun y hy hm => ?_)).poke hkp hr5 (by decide)
    rcases h2.2 with ⟨hv, _⟩ | ⟨g, cap, cur, hv, hr, _⟩
    · rw [hv] at hy; simp [homes_none] at hy
    · rw [hv] at hy; simp [homes_some] at hy; subst hy; exact hu hr (by decide) hm
  · cases ha : d.arm with
    | none => rw [ha] at h5; exact h5
    | some k => rw [ha] at h5; exact ⟨h5.1, stay h5.2.1 (by decide) (h5.2.1.apart h1 (by decide)), h5.2.2⟩
  · have := ho.poke hkp hr5 (by decide)
    rw [← hTn] at this
    simpa [tv, hTn] using this
  · simp [h7]
  · intro y hy
    rcases List.mem_append.1 hy with hy | hy
    · exact ⟨stay (h8 y hy).1 (by decide) ((h8 y hy).1.apart h1 (by decide)), List.mem_append_right _ (h8 y hy).2.1, (h8 y hy).2.2⟩
    · obtain rfl := List.mem_singleton.1 hy
      have hgvt : gb ∉ homes vt := fun hm => by have := h13 _ (h12 _ hm); omega
      refine ⟨hkp.row (hk5.row hr4 hgvt) (by have := h13 p h9; simp; omega), by simp, fun hm => by have := h13 _ (h11 _ hm); simp at this; omega⟩
  · exact List.mem_append_right _ h9
  · exact List.mem_append_right _ h10
  · exact fun y hy => List.mem_append_right _ (h11 y hy)
  · exact fun y hy => List.mem_append_left _ (List.mem_cons_of_mem _ hy)
  · intro y hy
    have a1 := hkp.size
    have a2 := hk5.size
    rcases List.mem_append.1 hy with hy | hy
    · rcases List.mem_cons.1 hy with rfl | hy
      · have := hr4.lt; omega
      · have := ho.lt y hy; omega
    · have := h13 y hy; omega
  · refine ((hk4.more (T := F) (by simp)).then hk5 (fun y hy => .inl (h12 y hy))).then hkp (fun y hy => .inl (by rw [List.mem_singleton.1 hy]; exact h9))
  · intro y hy
    rcases List.mem_append.1 hy with hy | hy
    · rcases List.mem_cons.1 hy with rfl | hy
      · exact .inr hgb
      · exact mem y hy
    · exact .inl hy

set_option maxRecDepth 100000 in
set_option maxHeartbeats 1000000 in
theorem writeD_any (p : Nat) (F : List Nat) (d : DS) (A : Option Addr) (g c : Nat) (l : List UInt8) (w : World) (h : isD w p F d) (hs : seen w A g l) (hg : l ≠ [] → g ∉ F) (hb : l.length ≤ 140737488355328) (ht : d.t.length ≤ 1000000) :
    Calls Try.prog 16 #[.pointer (some ⟨p, 0, none⟩), .slice A l.length c] w (dPost p F (d.write l).2 (d.write l).1 w) := by
  cases hd : d.dead with
  | true =>
    have HR := Lib.hid (show d.ready = 130 by simp [DS.ready, hd])
    have HA := Lib.hid (show d.write l = (130, d) by simp [DS.write, hd])
    clear hd
    go_enter Try.func16, Try.ntmps16
    go_wp2_with (go_at_call 58; refine (ready_any _ _ _ _ h).mono ?_; rintro e w' ⟨rfl, rfl⟩; rw [HR.out])
    go_ret
    rw [HA.out]; exact dPost.same h
  | false =>
    have HR := Lib.hid (show d.ready = 0 by simp [DS.ready, hd])
    obtain ⟨vb, vs, vt, x, T, h1, h2, h3, h4, h5, h6, h7, h8, h9, h10, h11, h12, h13⟩ := id h
    obtain ⟨A0, c0, g0, rfl, hcc, hcm, _, _⟩ := h2.seen
    have hc0 : w.cell? ⟨p, 0, none⟩ = some (.slice A0 d.b.length c0) := h1.cell 0
    have hf0 := h1.free 0
    unfold maxLen at hcm
    by_cases hbig : 1048576 < d.b.length + l.length
    · have HA := Lib.hid (show d.write l = (5, d) by simp [DS.write, hd, hbig])
      have hbig' : (1048576 : Int) < (d.b.length : Int) + (l.length : Int) := by omega
      clear h1 h2 h5 h6 h7 h8 h9 h10 h11 h12 h13 hd hbig
      go_enter Try.func16, Try.ntmps16
      go_wp2_with (go_at_call 58; refine (ready_any _ _ _ _ h).mono ?_; rintro e w' ⟨rfl, rfl⟩; rw [HR.out])
      go_ret
      rw [HA.out]; exact dPost.same h
    · have HA := Lib.hid (show d.write l = (0, { d with b := d.b ++ l, t := d.t ++ [l] }) by simp [DS.write, hd, hbig])
      have hbig' : ¬ (1048576 : Int) < (d.b.length : Int) + (l.length : Int) := by omega
      obtain ⟨i0, hi0, hz0, hz1, hz2⟩ := info_parts infoU8
      obtain ⟨i1, hi1, hz3, hz4, hz5⟩ := info_parts infoSl
      have HO := Lib.hid (And.intro h2 hs.reads)
      have H1 := Lib.hid h1
      have HW := Lib.hid (fun w2 A2 c2 => write1 (w2 := w2) (l := l) (A2 := A2) (c2 := c2) h1 h2 h3 (by omega) h5 h6 h7 h8 h9 h10 h11 h12 h13)
      clear h1 h2 h5 h6 h7 h8 h9 h10 h11 h12 h13 hd
      go_enter Try.func16, Try.ntmps16
      go_wp2_with (first | (go_at_call 58; refine (ready_any _ _ _ _ h).mono ?_; rintro e w' ⟨rfl, rfl⟩; rw [HR.out]) | (at_builtin; refine wp_append _ rfl (.tmp 24) (.tmp 25) 28 rfl 5 i0 (.int .u8 0) 1 1 Try.underlying28 hi0 hz0 hz1 hz2 rfl (by decide) (.slice A0 d.b.length c0) d.b.length _ rfl HO.out.1 A g l.length c _ rfl HO.out.2 (by intro u hu; simp at hu; obtain ⟨b, _, rfl⟩ := hu; rfl) (by omega) (by unfold maxLen; omega) ?_; intro A2 c2 w2 hown2 hkb2 hloc2; have hR2 := hkb2.row H1.out (HO.out.1.apart H1.out (by decide)); have hc2' : w2.cell? ⟨p, 0, none⟩ = some (.slice A0 d.b.length c0) := hR2.cell 0; have hf2' := hR2.free 0))
      have hW := HW.out w2 A2 c2 hown2 hkb2 hloc2
      have hs3 : seen (w2.setCell ⟨p, 0, none⟩ (.slice A2 (d.b.length + l.length) c2)) A g l := hs.keep hW.2.1 hg
      clear hown2 hkb2 hloc2 hR2 hc2' hf2' HW HO H1 hc0 hf0
      generalize homes (.slice A2 (d.b.length + l.length) c2) ++ F = F1 at *
      generalize w2.setCell ⟨p, 0, none⟩ (.slice A2 (d.b.length + l.length) c2) = w3 at *
      obtain ⟨hd3, hk3, hF3⟩ := hW
      have hd3' := hd3.drew
      obtain ⟨vb3, vs3, vt3, x3, T3, r3, _, _, _, _, o3, t3, _⟩ := id hd3
      obtain ⟨A3, c3, rfl, _, _, _, _⟩ := o3.form
      have hc4 : w3.cell? ⟨p, 4, none⟩ = some (.slice A3 T3.length c3) := r3.cell 4
      have hn3 : T3.length = d.t.length := by have := congrArg List.length t3; simpa using this
      have HN := Lib.hid hn3
      have hlt3 : T3.length ≤ 1000000 := by omega
      have HO3 := Lib.hid (And.intro o3 (And.intro hs3 r3))
      clear o3 r3 t3 hn3 hs3 hs h hg
      go_region_law
        (first
          | (refine step_append _ rfl (.tmp 33) (.tmp 36) 36 rfl 28 i1 (.slice none 0 0) 1 24 Try.underlying36 hi1 hz3 hz4 hz5 rfl (by decide) (.slice A3 T3.length c3) T3.length _ (by simp [Act.eval]) ((HO3.out.1.drew.keep hk4 (by simp)).alloc _) _ _ 1 1 _ (by simp [Act.eval]) (reads_one _ _ _) (by intro u hu; simp at hu; subst hu; rfl) (by omega) (by unfold maxLen; omega) ?_; intro A5 c5 w5 hown5 hkb5 hloc5; have hW5 := hkb5.row (hk44.row hr34 (by simp)) (HO3.out.1.apart HO3.out.2.2 (by decide)); have hcell5 : w5.cell? ⟨p, 4, none⟩ = some (.slice A3 T3.length c3) := hW5.cell 4; have hfree5 := hW5.free 4)
          | (go_simp; go_at_call 59; refine (copied_any _ _ _ _ _ (HO3.out.2.1.keep ((keepBut.refl [] w3).drew) (by simp)) hb).mono ?_; rintro e w4 ⟨rfl, hr4, hk4⟩; have hr34 := hk4.row (((keepBut.refl [] w3).drew).row HO3.out.2.2 (by simp)) (by simp); have hc44 : w4.cell? ⟨p, 4, none⟩ = some (.slice A3 T3.length c3) := hr34.cell 4; have hk44 := (keepBut.refl [] w4).alloc (.cells #[.slice (some ⟨w3.heap.size, 0, none⟩) l.length l.length] 28); have hc45 : (w4.alloc (.cells #[.slice (some ⟨w3.heap.size, 0, none⟩) l.length l.length] 28)).cell? ⟨p, 4, none⟩ = some (.slice A3 T3.length c3) := (hk44.row hr34 (by simp)).cell 4))
      all_goals
        have hk0 : keepBut [] w3 (w4.alloc (.cells #[.slice (some ⟨w3.heap.size, 0, none⟩) l.length l.length] 28)) := (((keepBut.refl [] w3).drew).then hk4 (by simp)).then hk44 (by simp)
        have hP := push_end (l := l) (gb := w3.heap.size) hd3 hc4 hk0 (hk44.row hr4 (by simp)) (Nat.le_refl _) HN.out HO3.out.1 hown5 hkb5 hloc5
        have HP := Lib.hid hP
        clear hP hk0 hr4 hk4 hr34 hc44 hk44 hc45 hown5 hkb5 hloc5 hW5 hcell5 hfree5 hd3 hd3' hc4
        go_wp2
        go_ret
        rw [HA.out]
        obtain ⟨F', a, b, c⟩ := HP.out
        exact ⟨rfl, F', a, hk3.then b hF3, fun y hy => by
          rcases c y hy with h1 | h1
          · exact hF3 y h1
          · have := hk3.size; exact .inr (by omega)⟩
end Go.Proofs.Ytbjonlfjfjlelaa
