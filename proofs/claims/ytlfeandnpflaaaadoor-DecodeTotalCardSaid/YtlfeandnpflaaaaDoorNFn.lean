/-
  What a word of layer 10 is, as a function on numbers; what is true of any. No condition.
-/
import Derived.Test.YtlfeandnpflaaaaDoorVLaw
import Derived.Test.YtlfeandnpflaaaaDoorILaw
import Derived.Test.YtlfeandnpflaaaaDoorIFine
import Derived.Test.YtlfeandnpflaaaaDoorDFine
import Derived.Test.YtlfeandnpflaaaaDoorDDec
namespace Go.Proofs.YtlfeandnpflaaaaDoor
open Go.ChangeShapes Go.WideShapes Go.ChangeAt Go.RowKit
set_option linter.unusedVariables false
set_option linter.unusedSimpArgs false
/-- An instruction with its length and its bits. -/
structure Dc where
  i : Ins
  len : Int
  raw : Int
def Dc.v (d : Dc) : Value := d.i.v d.len d.raw
def lngD (x : Int) : Dc := match spec x with
  | some i => ⟨i, 4, x⟩
  | none => match dspec x with
    | some i => ⟨i, 4, x⟩
    | none => ⟨zIns, 4, x⟩
def hlfD (h : Nat) : Dc := match ex h with
  | none => ⟨zIns, 2, (h : Int)⟩
  | some v => match spec v with
    | some i => ⟨i, 2, (h : Int)⟩
    | none => ⟨zIns, 2, (h : Int)⟩
/-- What a word is. -/
def dcd (x : Int) : Dc := if x % 4 = 3 then lngD x else hlfD (x % 65536).toNat
def RegD (i : Ins) : Prop := (0 ≤ i.rd ∧ i.rd ≤ 31) ∧ (0 ≤ i.r1 ∧ i.r1 ≤ 31) ∧ (0 ≤ i.r2 ∧ i.r2 ≤ 31)
theorem regd_z : RegD zIns := by unfold RegD zIns; decide
theorem regd_s (x : Int) (i : Ins) (h : spec x = some i) : RegD i := by
  obtain ⟨⟨a, b, c, _⟩, _⟩ := fine x i h
  exact ⟨a, b, c⟩
theorem regd_d (x : Int) (i : Ins) (h : dspec x = some i) : RegD i := (fined x i h).1
theorem regd_lng (x : Int) : RegD (lngD x).i := by
  unfold lngD
  cases hs : spec x with
  | some i => exact regd_s x i hs
  | none =>
    cases hd : dspec x with
    | some i => exact regd_d x i hd
    | none => exact regd_z
theorem regd_hlf (h : Nat) : RegD (hlfD h).i := by
  unfold hlfD
  cases hs : ex h with
  | none => exact regd_z
  | some v =>
    dsimp only
    cases hd : spec v with
    | some i => exact regd_s v i hd
    | none => exact regd_z
theorem regd_all (x : Int) : RegD (dcd x).i := by
  unfold dcd
  split
  · exact regd_lng x
  · exact regd_hlf _
theorem dcd_lng (x : Int) (h : x % 4 = 3) : (dcd x).len = 4 ∧ (dcd x).raw = x := by
  rw [dcd, if_pos h]; unfold lngD
  cases spec x with
  | some i => exact ⟨rfl, rfl⟩
  | none => cases dspec x <;> exact ⟨rfl, rfl⟩
theorem dcd_hlf (x : Int) (h : ¬ x % 4 = 3) (x0 : 0 ≤ x) : (dcd x).len = 2 ∧ (dcd x).raw = x % 65536 := by
  rw [dcd, if_neg h]
  have e : (((x % 65536).toNat : Nat) : Int) = x % 65536 := Int.toNat_of_nonneg (by omega)
  generalize (x % 65536).toNat = n at *
  unfold hlfD
  cases ex n with
  | none => exact ⟨rfl, e⟩
  | some v => dsimp only; cases spec v <;> exact ⟨rfl, e⟩
theorem dcd_low (x y : Int) (h : ¬ x % 4 = 3) (e : y % 65536 = x % 65536) : dcd y = dcd x := by
  rw [dcd, dcd, if_neg h, if_neg (by omega), e]
/-- Is an instruction one for capabilities? -/
def capB (i : Ins) : Bool := (decide (23 ≤ i.op) && decide (i.op ≤ 29)) || ((i.op == 6 || i.op == 7) && i.wid == 7)
theorem cap_d (x : Int) (i : Ins) (h : dspec x = some i) : capB i = true := by
  rcases (fined x i h).2 with a | ⟨a, b⟩
  · simp [capB, a]
  · rcases a with a | a <;> simp [capB, a, b]
theorem op_s (x : Int) (i : Ins) (h : spec x = some i) : 1 ≤ i.op ∧ i.op ≤ 22 ∧ i.wid ≤ 6 := by
  obtain ⟨⟨_, _, _, _, k⟩, hn⟩ := fine x i h
  refine ⟨?_, ?_, k⟩ <;> (unfold NumP at hn; omega)
theorem cap_s (x : Int) (i : Ins) (h : spec x = some i) : capB i = false := by
  obtain ⟨a, b, c⟩ := op_s x i h
  have t1 : (decide (23 ≤ i.op)) = false := by simp; omega
  have t2 : (i.wid == 7) = false := by simp; omega
  simp [capB, t1, t2]
theorem op_d (x : Int) (i : Ins) (h : dspec x = some i) : 1 ≤ i.op ∧ i.op ≤ 29 := by
  rcases (fined x i h).2 with a | ⟨a, b⟩ <;> omega
end Go.Proofs.YtlfeandnpflaaaaDoor
