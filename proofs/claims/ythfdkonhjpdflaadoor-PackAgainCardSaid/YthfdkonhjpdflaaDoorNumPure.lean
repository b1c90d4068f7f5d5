/-
  PURE: what readers and writers of numbers do, as functions on lists of bytes. Nothing of the program stands here.
-/
import Derived.Test.YthfdkonhjpdflaaDoorBase
namespace Go.Proofs.YthfdkonhjpdflaaDoor
set_option linter.unusedVariables false

/-- a reader: the bytes that remain, the first error -/
structure RS where
  l : List UInt8
  e : Int

def mxN : Nat := 9007199254740991
def RS.okay (r : RS) : Prop := r.e ≠ 0 → r.l = []
def RS.fail (r : RS) (x : Int) : RS := if r.e = 0 then ⟨[], x⟩ else r
def RS.took (r : RS) (n : Nat) : Bool := decide (r.e = 0 ∧ n ≤ r.l.length)
def RS.take (r : RS) (n : Nat) : List UInt8 := if r.e = 0 ∧ n ≤ r.l.length then r.l.take n else []
def RS.past (r : RS) (n : Nat) : RS := if r.e = 0 then (if n ≤ r.l.length then ⟨r.l.drop n, 0⟩ else ⟨[], 3⟩) else r
def isW (n : Int) : Bool := n == 1 || n == 2 || n == 4 || n == 8
/-- the number that bytes are, the first one the greatest -/
def be (l : List UInt8) : Nat := l.foldl (fun n b => n * 256 + b.toNat) 0

def RS.num (r : RS) (width : Int) : Int × RS :=
  if isW width = true then
    if r.took width.toNat = true then
      if mxN < be (r.take width.toNat) then (0, (r.past width.toNat).fail 9) else (be (r.take width.toNat), r.past width.toNat)
    else (0, r.past width.toNat)
  else (0, r.fail 2)

/-- a count, read on: size bytes of it were read, they make n -/
def cnt (most : Int) : List UInt8 → Nat → Nat → Int × RS
  | [], _, _ => (0, ⟨[], 3⟩)
  | b :: t, size, n =>
    if size = 0 ∧ b.toNat = 128 then (0, ⟨[], 4⟩)
    else if b.toNat < 128 then
      (if mxN < n * 128 + b.toNat % 128 then (0, ⟨[], 9⟩)
      else if most < ((n * 128 + b.toNat % 128 : Nat) : Int) then (0, ⟨[], 5⟩)
      else (((n * 128 + b.toNat % 128 : Nat) : Int), ⟨t, 0⟩))
    else if size = 7 then (0, ⟨[], 4⟩)
    else cnt most t (size + 1) (n * 128 + b.toNat % 128)

def RS.count (r : RS) (most : Int) : Int × RS := if r.e = 0 then cnt most r.l 0 0 else (0, r)

def RS.raw (r : RS) (n : Int) : List UInt8 × RS :=
  if n < 0 then ([], r.fail 2) else (r.take n.toNat, r.past n.toNat)
def RS.text (r : RS) (most : Int) : List UInt8 × RS := (r.count most).2.raw (r.count most).1
def RS.end_ (r : RS) : Int := if r.e = 0 then (if r.l = [] then 0 else 4) else r.e

theorem RS.took_iff (r : RS) (n : Nat) : r.took n = true ↔ r.e = 0 ∧ n ≤ r.l.length := by simp [RS.took]
theorem cnt_okay (most : Int) : ∀ (l : List UInt8) (s n : Nat), (cnt most l s n).2.okay := by
  intro l
  induction l with
  | nil => intro s n; simp [cnt, RS.okay]
  | cons b t ih =>
    intro s n
    unfold cnt
    split
    · simp [RS.okay]
    · split
      · split
        · simp [RS.okay]
        · split <;> simp [RS.okay]
      · split
        · simp [RS.okay]
        · exact ih _ _
theorem RS.fail_okay (r : RS) (h : r.okay) (x : Int) : (r.fail x).okay := by
  unfold RS.fail; split
  · simp [RS.okay]
  · exact h
theorem RS.past_okay (r : RS) (h : r.okay) (n : Nat) : (r.past n).okay := by
  unfold RS.past; split
  · split <;> simp [RS.okay]
  · exact h
theorem RS.num_okay (r : RS) (h : r.okay) (n : Int) : (r.num n).2.okay := by
  unfold RS.num; split
  · split
    · split
      · exact RS.fail_okay _ (RS.past_okay _ h _) _
      · exact RS.past_okay _ h _
    · exact RS.past_okay _ h _
  · exact RS.fail_okay _ h _
theorem RS.count_okay (r : RS) (h : r.okay) (n : Int) : (r.count n).2.okay := by
  unfold RS.count; split
  · exact cnt_okay _ _ _ _
  · exact h
theorem RS.raw_okay (r : RS) (h : r.okay) (n : Int) : (r.raw n).2.okay := by
  unfold RS.raw; split
  · exact RS.fail_okay _ h _
  · exact RS.past_okay _ h _
theorem RS.text_okay (r : RS) (h : r.okay) (n : Int) : (r.text n).2.okay := RS.raw_okay _ (RS.count_okay _ h _) _

theorem cnt_range (most : Int) : ∀ (l : List UInt8) (s n : Nat), 0 ≤ (cnt most l s n).1 ∧ (cnt most l s n).1 ≤ mxN := by
  intro l
  induction l with
  | nil => intro s n; simp [cnt]
  | cons b t ih =>
    intro s n
    unfold cnt
    split
    · simp
    · split
      · split
        · simp
        · split
          · simp
          · constructor
            · exact Int.natCast_nonneg _
            · simp only; omega
      · split
        · simp
        · exact ih _ _
theorem RS.count_range (r : RS) (most : Int) : 0 ≤ (r.count most).1 ∧ (r.count most).1 ≤ mxN := by
  unfold RS.count; split
  · exact cnt_range _ _ _ _
  · simp

/-! writers -/
structure WS where
  b : List UInt8
  e : Int

def fitsP (width n : Int) : Bool := decide (0 ≤ n) && (if width = 8 then decide (n ≤ (mxN : Int)) else decide (n < (2 : Int) ^ (8 * width.toNat)))
def beBytes (width n : Nat) : List UInt8 := (List.range width).map fun i => UInt8.ofNat (n / 256 ^ (width - 1 - i) % 256)
def WS.num (w : WS) (width n : Int) : WS :=
  if w.e = 0 then (if isW width = true then (if fitsP width n = true then ⟨w.b ++ beBytes width.toNat n.toNat, 0⟩ else ⟨w.b, 9⟩) else ⟨w.b, 2⟩) else w
/-- the groups of a count ahead of its last one -/
def cbHi (n : Nat) : List UInt8 := if h : n = 0 then [] else cbHi (n / 128) ++ [UInt8.ofNat (128 + n % 128)]
termination_by n
decreasing_by omega
def cb (n : Nat) : List UInt8 := cbHi (n / 128) ++ [UInt8.ofNat (n % 128)]
def WS.count (w : WS) (n : Int) : WS := if w.e = 0 then (if n < 0 ∨ (mxN : Int) < n then ⟨w.b, 9⟩ else ⟨w.b ++ cb n.toNat, 0⟩) else w
def WS.raw (w : WS) (b : List UInt8) : WS := if w.e = 0 then ⟨w.b ++ b, 0⟩ else w
def WS.text (w : WS) (b : List UInt8) : WS := (w.count b.length).raw b
def WS.bytes (w : WS) : List UInt8 := if w.e = 0 then w.b else []

end Go.Proofs.YthfdkonhjpdflaaDoor
