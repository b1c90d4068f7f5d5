/-
  VIEW, 4: a list grows by a row; the last step.
-/
import Derived.Test.YtjipokilidhnoaaView3
namespace Go.Proofs.Ytjipokilidhnoaa
open Go.RowKit
set_option linter.unusedVariables false
set_option maxRecDepth 100000

def rowZeroV : Value := .agg #[.int .i64 0, .int .i64 0, .int .i64 0, .slice none 0 0]
theorem infoRowV : (Try.prog.info? 46).map (fun i => (i.zero, i.size, i.bytes)) = some (some rowZeroV, 4, 48) := by kernel_rfl
theorem reads_rowV {w : World} {g : Nat} {t : TypeId} {cs : Array Value} (h : rowAt w g t cs) (n sz : Nat) (hn : cs.size = n * sz) : reads w (some ⟨g, 0, none⟩) g n sz cs.toList := by
  refine ⟨by simpa using hn, fun _ => ⟨0, rfl, h.lt, fun j u hu => ?_⟩⟩
  rw [h.cell]
  simpa using hu
theorem owns.ltV {w : World} {e : TypeId} {sz n : Nat} {v : Value} {xs : List Value} (h : owns w e sz v n xs) : ∀ y ∈ homes v, y < w.heap.size := by
  obtain ⟨A, c, rfl, _, _, h5, _⟩ := h.form
  exact h5
theorem owns.apartV {w : World} {e t : TypeId} {sz n p : Nat} {v : Value} {xs : List Value} {cs : Array Value} (h : owns w e sz v n xs) (hr : rowAt w p t cs) (hne : e ≠ t) : p ∉ homes v := by
  intro hm
  rcases h.2 with ⟨rfl, _⟩ | ⟨g, cap, cur, rfl, hg, _⟩
  · simp [homes_none] at hm
  · have : p = g := by simpa [homes_some] using hm
    subst this
    exact hne (hg.uniq hr).1
/-- a row stands behind the others -/
theorem isVv.add {w wa w7 : World} {p : Nat} {F C G : List Nat} {vb v7 bvv : Value} {T : List (VR × Value)} {r : VR} (h : isVv w p F vb T C) (hk : keepBut [] w wa)
    (hb : heldB w G bvv r.bytes) (hG : ∀ y ∈ G, y ∉ F ∧ y < w.heap.size)
    (ho7 : owns w7 46 4 v7 (T.length + 1) (flatR T ++ [.int .i64 r.step, .int .i64 r.node, .int .i64 r.kind, bvv])) (hkb7 : keepBut (homes vb) wa w7) (hloc7 : ∀ y ∈ homes v7, y ∈ homes vb ∨ wa.heap.size ≤ y) :
    isVv (w7.setCell ⟨p, 1, none⟩ v7) p (F ++ G ++ homes v7) v7 (T ++ [(r, bvv)]) (C ++ G) ∧ keepBut F w (w7.setCell ⟨p, 1, none⟩ v7) := by
  have hpv : p ∉ homes vb := h.own.apartV h.row (by decide)
  have hsz := hk.size
  have hsz7 := hkb7.size
  have hpl := h.lt p h.pF
  have hCv : ∀ y ∈ C, y ∉ homes vb := fun y hy hm => h.vC y hm hy
  have hGv : ∀ y ∈ G, y ∉ homes vb := fun y hy hm => (hG y hy).1 (h.vF y hm)
  have hCp : ∀ y ∈ C, y ∉ [p] := fun y hy hm => h.pC (List.mem_singleton.1 hm ▸ hy)
  have hGp : ∀ y ∈ G, y ∉ [p] := fun y hy hm => (hG y hy).1 (by rw [List.mem_singleton.1 hm]; exact h.pF)
  have k := (keepBut.refl [p] w7).setCell ⟨p, 1, none⟩ v7 (by simp)
  have hr7 := hkb7.row (hk.row h.row (by simp)) hpv
  have hr8 := hr7.set 1 v7
  have h7p : ∀ y ∈ homes v7, y ∉ [p] := fun y hy hm => by
    have e := List.mem_singleton.1 hm
    subst e
    rcases hloc7 y hy with h1 | h1
    · exact hpv h1
    · omega
  have hlen : (T ++ [(r, bvv)]).length = T.length + 1 := by simp
  have h7l := ho7.ltV
  rw [← flatR_add T (r, bvv)] at ho7
  have hk8 := k.size
  have hbb := ((hb.keep hk (by simp)).keep hkb7 hGv).keep k hGp
  refine ⟨⟨by simpa using hr8, by rw [hlen]; exact ho7.keep k h7p, fun t ht => ?_, by simp [h.pF], fun y hy => by simp [hy], fun y hy => ?_, fun hm => ?_, fun y hy hm => ?_, fun y hy => ?_⟩,
    ((hk.more (T := F) (by simp)).then hkb7 (fun y hy => .inl (h.vF y hy))).then k (fun y hy => .inl (by rw [List.mem_singleton.1 hy]; exact h.pF))⟩
  · rcases List.mem_append.1 ht with h1 | h1
    · exact ((((h.byt t h1).keep hk (by simp)).keep hkb7 hCv).keep k hCp).more (fun y hy => List.mem_append.2 (.inl hy))
    · rw [List.mem_singleton.1 h1]; exact hbb.more (fun y hy => List.mem_append.2 (.inr hy))
  · rcases List.mem_append.1 hy with h1 | h1
    · simp [h.cF y h1]
    · simp [h1]
  · rcases List.mem_append.1 hm with h1 | h1
    · exact h.pC h1
    · exact (hG p h1).1 h.pF
  · rcases hloc7 y hy with h2 | h2
    · rcases List.mem_append.1 hm with h1 | h1
      · exact h.vC y h2 h1
      · exact hGv y h1 h2
    · rcases List.mem_append.1 hm with h1 | h1
      · have := h.lt y (h.cF y h1); omega
      · have := (hG y h1).2; omega
  · rcases List.mem_append.1 hy with h1 | h1
    · rcases List.mem_append.1 h1 with h2 | h2
      · have := h.lt y h2; omega
      · have := (hG y h2).2; omega
    · have := h7l y h1; omega

def addPost (p : Nat) (F G : List Nat) (l : List VR) (r : VR) (w : World) (e : Ending) (w' : World) : Prop :=
  e = .returned (.tuple #[]) ∧ ∃ F', isV w' p F' (l ++ [r]) ∧ keepBut F w w' ∧ ∀ y ∈ F', y ∈ F ∨ y ∈ G ∨ w.heap.size ≤ y
set_option maxHeartbeats 4000000 in
theorem addR_any (p : Nat) (F G : List Nat) (l : List VR) (r : VR) (A : Option Addr) (c : Nat) (w : World) (h : isV w p F l) (hb : heldB w G (.slice A r.bytes.length c) r.bytes) (hG : ∀ y ∈ G, y ∉ F ∧ y < w.heap.size) (hl : l.length ≤ 1000000) :
    Calls Try.prog 27 #[.pointer (some ⟨p, 1, none⟩), .agg #[.int .i64 r.step, .int .i64 r.node, .int .i64 r.kind, .slice A r.bytes.length c]] w (addPost p F G l r w) := by
  obtain ⟨vb, T, C, hv, rfl⟩ := h
  have hT : T.length ≤ 1000000 := by simpa using hl
  obtain ⟨A7, n7, rfl, hlc, hcm, -, -⟩ := hv.own.form
  have hk1 := (keepBut.refl [] w).alloc (.cells #[.int .i64 r.step, .int .i64 r.node, .int .i64 r.kind, .slice A r.bytes.length c] 46)
  have hr1 := rowAt.new w 46 #[.int .i64 r.step, .int .i64 r.node, .int .i64 r.kind, .slice A r.bytes.length c]
  have hv1 := hv.keep hk1 (by simp)
  have hlt1 : w.heap.size < (w.alloc (.cells #[.int .i64 r.step, .int .i64 r.node, .int .i64 r.kind, .slice A r.bytes.length c] 46)).heap.size := hr1.lt
  obtain ⟨w1, hw1⟩ : ∃ w1, w.alloc (.cells #[.int .i64 r.step, .int .i64 r.node, .int .i64 r.kind, .slice A r.bytes.length c] 46) = w1 := ⟨_, rfl⟩
  rw [hw1] at hk1 hr1 hv1 hlt1
  have HW := Lib.hid hw1
  have x1 : w1.cell? ⟨p, 1, none⟩ = some (.slice A7 T.length n7) := hv1.row.cell 1
  have y0 : w1.cell? ⟨w.heap.size, 0, none⟩ = some (.int .i64 r.step) := hr1.cell 0
  have y1 : w1.cell? ⟨w.heap.size, 1, none⟩ = some (.int .i64 r.node) := hr1.cell 1
  have y2 : w1.cell? ⟨w.heap.size, 2, none⟩ = some (.int .i64 r.kind) := hr1.cell 2
  have y3 : w1.cell? ⟨w.heap.size, 3, none⟩ = some (.slice A r.bytes.length c) := hr1.cell 3
  obtain ⟨i0, hi0, hz0, hz1, hz2⟩ := info_parts infoRowV
  have ka := ((keepBut.refl [] w1).drew).alloc (.cells #[.int .i64 r.step, .int .i64 r.node, .int .i64 r.kind, .slice A r.bytes.length c] 46)
  have rn := reads_rowV (rowAt.new w1.drew 46 #[.int .i64 r.step, .int .i64 r.node, .int .i64 r.kind, .slice A r.bytes.length c]) 1 4 rfl
  have HA := Lib.hid (And.intro ka (And.intro rn (hv1.own.keep ka (by simp))))
  have z1 := (ka.cell (p := ⟨p, 1, none⟩) hv1.row.lt (by simp)).trans x1
  have z1' : ((w1.alloc (.cells #[.int .i64 r.step, .int .i64 r.node, .int .i64 r.kind, .slice A r.bytes.length c] 46)).drew).cell? ⟨p, 1, none⟩ = some (.slice A7 T.length n7) := z1
  have d1 : w1.drew.cell? ⟨p, 1, none⟩ = some (.slice A7 T.length n7) := x1
  have e0 : w1.drew.cell? ⟨w.heap.size, 0, none⟩ = some (.int .i64 r.step) := y0
  have e1 : w1.drew.cell? ⟨w.heap.size, 1, none⟩ = some (.int .i64 r.node) := y1
  have e2 : w1.drew.cell? ⟨w.heap.size, 2, none⟩ = some (.int .i64 r.kind) := y2
  have e3 : w1.drew.cell? ⟨w.heap.size, 3, none⟩ = some (.slice A r.bytes.length c) := y3
  have HV := Lib.hid (And.intro hv (And.intro hb (And.intro hG (And.intro hk1 hv1))))
  clear hv hb hG hk1 hr1 hv1 hw1 hlt1 ka rn hl
  unfold maxLen at hcm
  go_enter Try.func27, Try.ntmps27
  go_upto_region 1 with fail
  rw [HW.out]
  go_region_law
   (first
    | (refine step_append _ rfl (.tmp 8) (.tmp 10) 31 rfl 46 i0 rowZeroV 4 48 Try.underlying31 hi0 hz0 hz1 hz2 rfl (by decide) _ T.length (flatR T) rfl HA.out.2.2 (some ⟨w1.drew.heap.size, 0, none⟩) w1.drew.heap.size 1 1 _ rfl HA.out.2.1 (by intro u hu; simp at hu; rcases hu with rfl | rfl | rfl | rfl <;> rfl) (by omega) (by unfold maxLen; omega) ?_; intro A8 c8 w8 hown8 hkb8 hloc8; have hr8 := hkb8.row (HA.out.1.row HV.out.2.2.2.2.row (by simp)) (HV.out.2.2.2.2.own.apartV HV.out.2.2.2.2.row (by decide)); have fr8 := hr8.free 1; have x8 : w8.cell? ⟨p, 1, none⟩ = some (.slice A7 T.length n7) := hr8.cell 1; have H8 := Lib.hid (And.intro hown8 (And.intro hkb8 hloc8)); clear hown8 hkb8 hloc8 hr8))
  all_goals
    go_wp2
    go_end0
    have hend := isVv.add (wa := (w1.drew).alloc (.cells #[.int .i64 r.step, .int .i64 r.node, .int .i64 r.kind, .slice A r.bytes.length c] 46)) HV.out.1 (HV.out.2.2.2.1.then HA.out.1 (by simp)) HV.out.2.1 HV.out.2.2.1 H8.out.1 H8.out.2.1 H8.out.2.2
    refine ⟨rfl, _, ⟨_, _, _, hend.1, by simp⟩, hend.2, fun y hy => ?_⟩
    rcases List.mem_append.1 hy with h1 | h1
    · rcases List.mem_append.1 h1 with h2 | h2
      · exact .inl h2
      · exact .inr (.inl h2)
    · rcases H8.out.2.2 y h1 with h2 | h2
      · exact .inl (HV.out.1.vF y h2)
      · exact .inr (.inr (Nat.le_trans (HV.out.2.2.2.1.then HA.out.1 (by simp)).size h2))
theorem addR_n (p : Nat) (F G : List Nat) (l : List VR) (s nd kd : Int) (b : List UInt8) (A : Option Addr) (c : Nat) (w : World) (h : isV w p F l) (hb : heldB w G (.slice A b.length c) b) (hG : ∀ y ∈ G, y ∉ F ∧ y < w.heap.size) (hl : l.length ≤ 1000000) :
    Calls Try.prog 27 #[.pointer (some ⟨p, 1, none⟩), .agg #[.int .i64 s, .int .i64 nd, .int .i64 kd, .slice A b.length c]] w (addPost p F G l ⟨s, nd, kd, b⟩ w) :=
  addR_any p F G l ⟨s, nd, kd, b⟩ A c w h hb hG hl
end Go.Proofs.Ytjipokilidhnoaa
