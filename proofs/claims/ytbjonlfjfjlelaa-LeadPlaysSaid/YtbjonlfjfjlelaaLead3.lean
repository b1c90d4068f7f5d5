/-
  LEAD, 5: Start.
-/
import Derived.Test.YtbjonlfjfjlelaaLead2
namespace Go.Proofs.Ytbjonlfjfjlelaa
open Go.RowKit
set_option linter.unusedVariables false
set_option maxRecDepth 100000

def startRel (N d : Int) (v8 : Value) : Prop := ∃ k : Int, 0 ≤ k ∧ k ≤ d ∧ v8 = .int .i64 (N + k)

/-- the first stores of Start -/
def start4 (w w4 : World) (p : Nat) (s : LS) (B frm : Int) : Prop :=
  keepBut [p] w w4 ∧ w4.heap.size = w.heap.size ∧ ∀ g cv, rowAt w p 99 (rowL s g cv) → rowAt w4 p 99 (rowL ⟨s.id, 1, B, frm, 0, [], s.pend, s.prop, s.acc⟩ g cv)
theorem start_four (w : World) (p : Nat) (s : LS) (B frm : Int) :
    start4 w ((((w.setCell ⟨p, 2, none⟩ (.int .i64 1)).setCell ⟨p, 3, none⟩ (.int .i64 B)).setCell ⟨p, 4, none⟩ (.int .i64 frm)).setCell ⟨p, 5, none⟩ (.int .u8 0)) p s B frm := by
  refine ⟨((((keepBut.refl [p] w).setCell ⟨p, 2, none⟩ (.int .i64 1) (by simp)).setCell ⟨p, 3, none⟩ (.int .i64 B) (by simp)).setCell ⟨p, 4, none⟩ (.int .i64 frm) (by simp)).setCell ⟨p, 5, none⟩ (.int .u8 0) (by simp), by simp, fun g cv h1 => ?_⟩
  have := (((h1.set 2 (.int .i64 1)).set 3 (.int .i64 B)).set 4 (.int .i64 frm)).set 5 (.int .u8 0)
  simpa [rowL] using this
theorem start_world {w w4 : World} {p : Nat} {F : List Nat} {s : LS} {B frm : Int} (h : isL w p F s) (h4' : start4 w w4 p s B frm) :
    isL ((w4.alloc (.map #[] 0)).setCell ⟨p, 6, none⟩ (.map (some w.heap.size))) p (w.heap.size :: F) ⟨s.id, 1, B, frm, 0, [], s.pend, s.prop, s.acc⟩ ∧
    keepBut [p] w ((w4.alloc (.map #[] 0)).setCell ⟨p, 6, none⟩ (.map (some w.heap.size))) := by
  obtain ⟨g, cv, ents, C, h1, h2, h3, h4, h5, h6, h7, h8, h9, h10⟩ := h
  obtain ⟨k4, hsz, hr4⟩ := h4'
  have r4 := hr4 g cv h1
  have hm := mapAt.made w4
  rw [hsz] at hm
  have k5 := (k4.alloc (.map #[] 0))
  have r5 := ((keepBut.refl [] w4).alloc (.map #[] 0)).row r4 (by simp)
  have hpl := h10 p h5
  have k6 := (keepBut.refl [p] (w4.alloc (.map #[] 0))).setCell ⟨p, 6, none⟩ (.map (some w.heap.size)) (by simp)
  have r6 := r5.set 6 (.map (some w.heap.size))
  have kk := k5.then k6 (by simp)
  have hC : ∀ y ∈ C, y ∉ [p] := fun y hy hm => h8 (by rw [← List.mem_singleton.1 hm]; exact hy)
  refine ⟨⟨w.heap.size, cv, [], C, by simpa [rowL] using r6, hm.keep k6 (by simp; omega), trivial, h4.keep kk hC, List.mem_cons_of_mem _ h5, by simp, fun y hy => List.mem_cons_of_mem _ (h7 y hy), h8, fun hy => by have := h10 _ (h7 _ hy); omega, fun y hy => ?_⟩, kk⟩
  have hs1 := hm.lt
  have hs2 := k6.size
  rcases List.mem_cons.1 hy with rfl | hy
  · omega
  · have := h10 y hy; omega

set_option maxHeartbeats 2000000 in
theorem start_yes (p : Nat) (F : List Nat) (s : LS) (above frm : Int) (w : World) (h : isL w p F s) (hok : s.ok) (a0 : 0 ≤ above) (a1 : above ≤ 9007199254740988) (f0 : 1 ≤ frm) (f1 : frm ≤ 9007199254740991) :
    Calls Try.prog 39 #[.pointer (some ⟨p, 0, none⟩), .int .i64 above, .int .i64 frm] w
      (startPost p F (s.start above frm).2.2 (.tuple #[.int .i64 (s.start above frm).1, .int .i64 0]) w) := by
  have hcond : ¬ (above < 0 ∨ 9007199254740988 < above ∨ frm < 1 ∨ 9007199254740991 < frm) := by omega
  obtain ⟨N, hN⟩ : ∃ N, N = max above s.bal + 1 := ⟨_, rfl⟩
  obtain ⟨B, hB⟩ : ∃ B, B = nextB N s.id := ⟨_, rfl⟩
  have hBo := nextB_ok N s.id hok.i0 hok.i1
  rw [← hB] at hBo
  have HS := Lib.hid (show s.start above frm = (B, 0, ⟨s.id, 1, B, frm, 0, [], false, CS.zero, 0⟩) by unfold LS.start; rw [if_neg hcond, ← hN, ← hB])
  obtain ⟨d, hd⟩ : ∃ d, d = B - N := ⟨_, rfl⟩
  have hd0 : 0 ≤ d := by omega
  have hd2 : d ≤ 2 := by omega
  have hdm : ∀ k, 0 ≤ k → k ≤ d → ((N + k) % 3 = s.id ↔ k = d) := fun k _ _ => by
    have := hok.i0; have := hok.i1
    constructor
    · intro e; omega
    · rintro rfl; rw [hd]; rw [← hBo.2.2]; congr 1; omega
  have b0 := hok.b0
  have b1 := hok.b1
  have hN0 : 1 ≤ N := by omega
  have hN1 : N ≤ 9007199254750001 := by omega
  have hBN : B = N + d := by omega
  have HD := Lib.hid (And.intro hdm hBN)
  have HMX := Lib.hid hN
  obtain ⟨g, cv, ents, C, h1, h2⟩ := id h
  have c3 : w.cell? ⟨p, 3, none⟩ = some (.int .i64 s.bal) := h1.cell 3
  have c1 : w.cell? ⟨p, 1, none⟩ = some (.int .i64 s.id) := h1.cell 1
  clear h1 h2 hcond hd hdm hBN hB hBo hN
  have hA1 : ¬ above < 0 := by omega
  have hA2 : ¬ 9007199254740988 < above := by omega
  have hA3 : ¬ frm < 1 := by omega
  have hA4 : ¬ 9007199254740991 < frm := by omega
  have hmm := fun w => run_makeMap (P := Try.prog) 97 w
  have hcs : (above < s.bal ∧ s.bal + 1 = N) ∨ (s.bal ≤ above ∧ above + 1 = N) := by have := HMX.out; omega
  rcases hcs with ⟨hmx, hn⟩ | ⟨hmx, hn⟩
  all_goals
    have HN := Lib.hid hn
    clear hn
    go_enter Try.func39, Try.ntmps39
    go_upto_region 6 with (go_at_call 72; refine (noneL_any _ _ _ _ h).mono ?_; rintro e w' ⟨rfl, rfl⟩)
    go_loop [8] (fun v8 => startRel N d v8) (fun v8 => (N + d - intOf v8).toNat)
    case atStart => exact ⟨0, by omega, by omega, by rw [HN.out]; simp⟩
    case round =>
      obtain ⟨k, hk0, hk1, rfl⟩ := hrel
      have hk2 : 0 ≤ N + k := by omega
      have hk3 : N + k ≤ 9007199254750010 := by omega
      by_cases hk : k = d
      · have e1 : (N + k) % 3 = s.id := ((HD.out.1 k hk0 hk1).2 hk)
        have e2 : N + k = B := by rw [hk]; exact HD.out.2.symm
        have t1 : ((N + k) % 3 == s.id) = true := by simpa using e1
        have t2 : ((N + k) % 3 != s.id) = false := by simpa using e1
        have E2 := Lib.hid e2
        clear e1 e2 hk
        go_upto_region 8 with fail
        rw [E2.out]
        clear t1 t2 hk2 hk3
        have hd2c : w.cell? ⟨p, 2, none⟩ = some (.int .i64 s.ph) := by obtain ⟨g, cv, ents, C, h1, _⟩ := h; exact h1.cell 2
        have hd4c : w.cell? ⟨p, 4, none⟩ = some (.int .i64 s.frm) := by obtain ⟨g, cv, ents, C, h1, _⟩ := h; exact h1.cell 4
        have hd5c : w.cell? ⟨p, 5, none⟩ = some (.int .u8 (s.prom : Int)) := by obtain ⟨g, cv, ents, C, h1, _⟩ := h; exact h1.cell 5
        obtain ⟨g6, hd6c⟩ : ∃ g6, w.cell? ⟨p, 6, none⟩ = some (.map (some g6)) := by obtain ⟨g, cv, ents, C, h1, _⟩ := h; exact ⟨g, h1.cell 6⟩
        have hfr : w.frozen? ⟨p, 2, none⟩ = false ∧ w.frozen? ⟨p, 3, none⟩ = false ∧ w.frozen? ⟨p, 4, none⟩ = false ∧ w.frozen? ⟨p, 5, none⟩ = false ∧ w.frozen? ⟨p, 6, none⟩ = false := by
          obtain ⟨g, cv, ents, C, h1, _⟩ := h; exact ⟨h1.free 2, h1.free 3, h1.free 4, h1.free 5, h1.free 6⟩
        obtain ⟨f2, f3, f4, f5, f6⟩ := hfr
        have hpF : p ∈ F ∧ p < w.heap.size := by obtain ⟨g, cv, ents, C, h1, h2, h3, h4, h5, _⟩ := h; exact ⟨h5, h1.lt⟩
        have HP := Lib.hid hpF
        clear hpF
        go_upto_region 10 with fail
        have h4 := start_four w p s B frm
        clear c1 c3 hd2c hd4c hd5c f2 f3 f4 f5 f6
        generalize (((w.setCell ⟨p, 2, none⟩ (.int .i64 1)).setCell ⟨p, 3, none⟩ (.int .i64 B)).setCell ⟨p, 4, none⟩ (.int .i64 frm)).setCell ⟨p, 5, none⟩ (.int .u8 0) = w4 at *
        have h6 := (keepBut.refl [] w4).alloc (.map #[] 0)
        have hd6x : (w4.alloc (.map #[] 0)).cell? ⟨p, 6, none⟩ = some (.map (some g6)) := by
          obtain ⟨g, cv, ents, C, h1, _⟩ := h
          have e1 := h1.cell 6
          rw [hd6c] at e1
          injection e1 with e1
          rw [e1]
          exact (h6.row (h4.2.2 g cv h1) (by simp)).cell 6
        have hf6x : (w4.alloc (.map #[] 0)).frozen? ⟨p, 6, none⟩ = false := by
          obtain ⟨g, cv, ents, C, h1, _⟩ := h
          exact (h6.row (h4.2.2 g cv h1) (by simp)).free 6
        have H1 := Lib.hid (start_world h h4)
        have HSZ := Lib.hid h4.2.1
        clear h4 h6 hd6c
        have hmm4 : (Instr.makeMap 97 none).run Try.prog w4 = .ok (.map (some w.heap.size)) (w4.alloc (.map #[] 0)) := by rw [hmm w4, HSZ.out]
        clear hmm
        go_upto_region 11 with fail
        go_wp2_with (go_at_call 75; refine (withdraw_any _ _ _ _ H1.out.1).mono ?_; rintro e w5 ⟨rfl, b5, k5⟩; have c35 : w5.cell? ⟨p, 3, none⟩ = some (.int .i64 B) := (by obtain ⟨g, cv, ents, C, h1, _⟩ := b5; exact h1.cell 3))
        go_ret2
        rw [HS.out]
        refine ⟨rfl, w.heap.size :: F, b5, (H1.out.2.then k5 (by simp)).more (by simpa using HP.out.1), fun y hy => ?_⟩
        rcases List.mem_cons.1 hy with rfl | hy
        · exact .inr (Nat.le_refl _)
        · exact .inl hy
      · have e1 : (N + k) % 3 ≠ s.id := fun e => hk ((HD.out.1 k hk0 hk1).1 e)
        have t1 : ((N + k) % 3 == s.id) = false := by simpa using e1
        have t2 : ((N + k) % 3 != s.id) = true := by simpa using e1
        have HKD := Lib.hid hk
        clear e1 hk
        go_wp2
        go_round
        case rel => exact ⟨k + 1, by omega, by have := HKD.out; omega, by go_num⟩
        case measure => simp [intOf]; have := HKD.out; omega
end Go.Proofs.Ytbjonlfjfjlelaa
