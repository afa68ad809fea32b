/-
  What Expand tells of any half, by its rows, as plain functions; and the document's answer, likewise. No condition.
-/
import Derived.Test.YtlfeandnpflaaaaDoorVNum
namespace Go.Proofs.YtlfeandnpflaaaaDoor
open Go.ChangeShapes Go.WideShapes Go.ChangeAt Go.RowKit
set_option linter.unusedVariables false
set_option linter.unusedSimpArgs false
/-- A half's number of the kind a; a word with nothing but a number's bits in the form a. -/
def nm (a x : Nat) : Nat := cpH (inH.getD a []) x 11
def ly (a n : Nat) : Nat := cpW (inW.getD a []) n 25
/-- A number whose highest bit is t, with its sign, of 32 bits. -/
def sg (t n : Nat) : Nat := if n < 2 ^ t then n else n + (4294967296 - 2 ^ (t + 1))
def R5 (op f3 rd r1 r2 : Nat) : Nat := r2 * 1048576 + r1 * 32768 + f3 * 4096 + rd * 128 + op
def wI (op f3 rd r1 n : Nat) : Nat := R5 op f3 rd r1 0 ||| ly 0 n
def wSB (op a f3 r1 r2 n : Nat) : Nat := R5 op f3 0 r1 r2 ||| ly a n
def wUJ (op a rd n : Nat) : Nat := R5 op 0 rd 0 0 ||| ly a n
/-- The registers that a half names. -/
def rD (x : Nat) : Nat := x / 128 % 32
def rS (x : Nat) : Nat := x / 4 % 32
def nD (x : Nat) : Nat := 8 + x / 128 % 8
def nS (x : Nat) : Nat := 8 + x / 4 % 8
def vr : Nat := 1073741824
def unl (b : Bool) (v : Nat) : Option Nat := if b then none else some v
def rPlace (x : Nat) : Option Nat := unl (nm 3 x == 0) (wI 19 0 (nS x) 2 (nm 3 x))
def rNearLoad (w k x : Nat) : Option Nat := some (wI 3 w (nS x) (nD x) (nm k x))
def rNearStore (w k x : Nat) : Option Nat := some (wSB 35 1 w (nD x) (nS x) (nm k x))
def rStackLoad (w k x : Nat) : Option Nat := unl (rD x == 0) (wI 3 w (rD x) 2 (nm k x))
def rStackStore (w k x : Nat) : Option Nat := some (wSB 35 1 w 2 (rS x) (nm k x))
def rBranch (f x : Nat) : Option Nat := some (wSB 99 2 f (nD x) 0 (sg 8 (nm 11 x)))
def rAdd (x : Nat) : Option Nat := some (wI 19 0 (rD x) (rD x) (sg 5 (nm 0 x)))
def rAddWord (x : Nat) : Option Nat := unl (rD x == 0) (wI 27 0 (rD x) (rD x) (sg 5 (nm 0 x)))
def rSet (x : Nat) : Option Nat := some (wI 19 0 (rD x) 0 (sg 5 (nm 0 x)))
def rUpper (x : Nat) : Option Nat :=
  if rD x = 2 then unl (sg 9 (nm 2 x) == 0) (wI 19 0 2 2 (sg 9 (nm 2 x))) else unl (sg 17 (nm 1 x) == 0) (wUJ 55 3 (rD x) (sg 17 (nm 1 x)))
def rPair (x : Nat) : Option Nat :=
  match x / 4096 % 2 * 4 + x / 32 % 4 with
  | 0 => some (vr ||| R5 51 0 (nD x) (nD x) (nS x))
  | 1 => some (R5 51 4 (nD x) (nD x) (nS x))
  | 2 => some (R5 51 6 (nD x) (nD x) (nS x))
  | 3 => some (R5 51 7 (nD x) (nD x) (nS x))
  | 4 => some (vr ||| R5 59 0 (nD x) (nD x) (nS x))
  | 5 => some (R5 59 0 (nD x) (nD x) (nS x))
  | _ => none
def rNear (x : Nat) : Option Nat :=
  match x / 1024 % 4 with
  | 0 => some (wI 19 5 (nD x) (nD x) (nm 0 x))
  | 1 => some (vr ||| wI 19 5 (nD x) (nD x) (nm 0 x))
  | 2 => some (wI 19 7 (nD x) (nD x) (sg 5 (nm 0 x)))
  | _ => rPair x
def rJump (x : Nat) : Option Nat := some (wUJ 111 4 0 (sg 11 (nm 10 x)))
def rShift (x : Nat) : Option Nat := some (wI 19 1 (rD x) (rD x) (nm 0 x))
def rMove (x : Nat) : Option Nat :=
  if x / 4096 % 2 = 0 then (if rS x = 0 then unl (rD x == 0) (wI 103 0 0 (rD x) 0) else some (R5 51 0 (rD x) 0 (rS x)))
  else if rS x = 0 then (if rD x = 0 then some 1048691 else some (wI 103 0 1 (rD x) 0)) else some (R5 51 0 (rD x) (rD x) (rS x))
/-- The row of the lowest two bits and the highest three. -/
def row (l h : Nat) : Option (Nat → Option Nat) := match l, h with
  | 0, 0 => some rPlace
  | 0, 2 => some (rNearLoad 2 4)
  | 0, 3 => some (rNearLoad 3 5)
  | 0, 6 => some (rNearStore 2 4)
  | 0, 7 => some (rNearStore 3 5)
  | 1, 0 => some rAdd
  | 1, 1 => some rAddWord
  | 1, 2 => some rSet
  | 1, 3 => some rUpper
  | 1, 4 => some rNear
  | 1, 5 => some rJump
  | 1, 6 => some (rBranch 0)
  | 1, 7 => some (rBranch 1)
  | 2, 0 => some rShift
  | 2, 2 => some (rStackLoad 2 6)
  | 2, 3 => some (rStackLoad 3 7)
  | 2, 4 => some rMove
  | 2, 6 => some (rStackStore 2 8)
  | 2, 7 => some (rStackStore 3 9)
  | _, _ => none
/-- For what the half x stands. -/
def ex (x : Nat) : Option Nat := match row (x % 4) (x / 8192) with
  | none => none
  | some f => f x

/-! The document's answer. -/
def dw (n p : Int) : Int := n % p
def sd (n p : Int) : Int := if 2 * n ≥ p then n - p else n
def dI (op f3 rd r1 n : Int) : Int := op + rd * 128 + f3 * 4096 + r1 * 32768 + n % 4096 * 1048576
def dR (op f3 f7 rd r1 r2 : Int) : Int := op + rd * 128 + f3 * 4096 + r1 * 32768 + r2 * 1048576 + f7 * 33554432
def dS (f3 r1 r2 n : Int) : Int := 35 + n % 32 * 128 + f3 * 4096 + r1 * 32768 + r2 * 1048576 + n / 32 * 33554432
def dB (f3 r1 n : Int) : Int := 99 + n % 8192 / 2048 % 2 * 128 + n % 8192 / 2 % 16 * 256 + f3 * 4096 + r1 * 32768 + n % 8192 / 32 % 64 * 33554432 + n % 8192 / 4096 * 2147483648
def dJ (n : Int) : Int := 111 + n % 2097152 / 4096 % 256 * 4096 + n % 2097152 / 2048 % 2 * 1048576 + n % 2097152 / 2 % 1024 * 2097152 + n % 2097152 / 1048576 * 2147483648
def six (h : Int) : Int := h / 4096 % 2 * 32 + h / 4 % 32
def dwd (h : Int) : Int := h / 1024 % 8 * 8 + h / 64 % 2 * 4 + h / 32 % 2 * 64
def dlg (h : Int) : Int := h / 1024 % 8 * 8 + h / 32 % 4 * 64
def dpl (h : Int) : Int := h / 2048 % 4 * 16 + h / 128 % 16 * 64 + h / 64 % 2 * 4 + h / 32 % 2 * 8
def dFirst (h : Int) : Int :=
  if h / 8192 % 8 = 0 then (if dpl h = 0 then 0 else dI 19 0 (8 + h / 4 % 8) 2 (dpl h))
  else if h / 8192 % 8 = 2 then dI 3 2 (8 + h / 4 % 8) (8 + h / 128 % 8) (dwd h)
  else if h / 8192 % 8 = 3 then dI 3 3 (8 + h / 4 % 8) (8 + h / 128 % 8) (dlg h)
  else if h / 8192 % 8 = 6 then dS 2 (8 + h / 128 % 8) (8 + h / 4 % 8) (dwd h)
  else if h / 8192 % 8 = 7 then dS 3 (8 + h / 128 % 8) (8 + h / 4 % 8) (dlg h) else 0
def dfr (h : Int) : Int := h / 4096 % 2 * 512 + h / 64 % 2 * 16 + h / 32 % 2 * 64 + h / 8 % 4 * 128 + h / 4 % 2 * 32
def dUpper (h : Int) : Int :=
  if h / 128 % 32 = 2 then (if dfr h = 0 then 0 else dI 19 0 2 2 (sd (dfr h) 1024))
  else if six h = 0 then 0 else 55 + h / 128 % 32 * 128 + sd (six h) 64 % 1048576 * 4096
def dAlu (h : Int) : Int :=
  if h / 1024 % 4 = 0 then dI 19 5 (8 + h / 128 % 8) (8 + h / 128 % 8) (six h)
  else if h / 1024 % 4 = 1 then dI 19 5 (8 + h / 128 % 8) (8 + h / 128 % 8) (1024 + six h)
  else if h / 1024 % 4 = 2 then dI 19 7 (8 + h / 128 % 8) (8 + h / 128 % 8) (sd (six h) 64)
  else if h / 4096 % 2 = 1 then (if h / 32 % 4 = 0 then dR 59 0 32 (8 + h / 128 % 8) (8 + h / 128 % 8) (8 + h / 4 % 8) else if h / 32 % 4 = 1 then dR 59 0 0 (8 + h / 128 % 8) (8 + h / 128 % 8) (8 + h / 4 % 8) else 0)
  else if h / 32 % 4 = 0 then dR 51 0 32 (8 + h / 128 % 8) (8 + h / 128 % 8) (8 + h / 4 % 8)
  else if h / 32 % 4 = 1 then dR 51 4 0 (8 + h / 128 % 8) (8 + h / 128 % 8) (8 + h / 4 % 8)
  else if h / 32 % 4 = 2 then dR 51 6 0 (8 + h / 128 % 8) (8 + h / 128 % 8) (8 + h / 4 % 8)
  else dR 51 7 0 (8 + h / 128 % 8) (8 + h / 128 % 8) (8 + h / 4 % 8)
def dto (h : Int) : Int := h / 4096 % 2 * 2048 + h / 2048 % 2 * 16 + h / 512 % 4 * 256 + h / 256 % 2 * 1024 + h / 128 % 2 * 64 + h / 64 % 2 * 128 + h / 8 % 8 * 2 + h / 4 % 2 * 32
def dbr (h : Int) : Int := h / 4096 % 2 * 256 + h / 1024 % 4 * 8 + h / 32 % 4 * 64 + h / 8 % 4 * 2 + h / 4 % 2 * 32
def dSecond (h : Int) : Int :=
  if h / 8192 % 8 = 0 then dI 19 0 (h / 128 % 32) (h / 128 % 32) (sd (six h) 64)
  else if h / 8192 % 8 = 1 then (if h / 128 % 32 = 0 then 0 else dI 27 0 (h / 128 % 32) (h / 128 % 32) (sd (six h) 64))
  else if h / 8192 % 8 = 2 then dI 19 0 (h / 128 % 32) 0 (sd (six h) 64)
  else if h / 8192 % 8 = 3 then dUpper h
  else if h / 8192 % 8 = 4 then dAlu h
  else if h / 8192 % 8 = 5 then dJ (sd (dto h) 4096)
  else dB (h / 8192 % 2) (8 + h / 128 % 8) (sd (dbr h) 512)
def dMoves (h : Int) : Int :=
  if h / 4 % 32 ≠ 0 then (if h / 4096 % 2 = 1 then dR 51 0 0 (h / 128 % 32) (h / 128 % 32) (h / 4 % 32) else dR 51 0 0 (h / 128 % 32) 0 (h / 4 % 32))
  else if h / 128 % 32 = 0 then (if h / 4096 % 2 = 1 then 1048691 else 0)
  else dI 103 0 (h / 4096 % 2) (h / 128 % 32) 0
def dThird (h : Int) : Int :=
  if h / 8192 % 8 = 0 then dI 19 1 (h / 128 % 32) (h / 128 % 32) (six h)
  else if h / 8192 % 8 = 2 then (if h / 128 % 32 = 0 then 0 else dI 3 2 (h / 128 % 32) 2 (h / 4096 % 2 * 32 + h / 16 % 8 * 4 + h / 4 % 4 * 64))
  else if h / 8192 % 8 = 3 then (if h / 128 % 32 = 0 then 0 else dI 3 3 (h / 128 % 32) 2 (h / 4096 % 2 * 32 + h / 32 % 4 * 8 + h / 4 % 8 * 64))
  else if h / 8192 % 8 = 4 then dMoves h
  else if h / 8192 % 8 = 6 then dS 2 2 (h / 4 % 32) (h / 512 % 16 * 4 + h / 128 % 4 * 64)
  else if h / 8192 % 8 = 7 then dS 3 2 (h / 4 % 32) (h / 1024 % 8 * 8 + h / 128 % 8 * 64) else 0
def dx (h : Int) : Int := if h % 4 = 0 then dFirst h else if h % 4 = 1 then dSecond h else if h % 4 = 2 then dThird h else 0
/-- All numbers below n. -/
def allB : Nat → (Nat → Bool) → Bool
  | 0, _ => true
  | n + 1, p => p n && allB n p
theorem allB_at {p : Nat → Bool} : ∀ {n : Nat}, allB n p = true → ∀ i, i < n → p i = true
  | n + 1, h, i, hi => by
    simp only [allB, Bool.and_eq_true] at h
    rcases Nat.lt_or_ge i n with l | l
    · exact allB_at h.2 i l
    · obtain rfl : i = n := by omega
      exact h.1
/-- All halves of a row: l + 4 * k + 8192 * h. -/
def allR (l h : Nat) (p : Nat → Bool) : Bool := allB 32 fun a => allB 64 fun b => p (h * 8192 + (a * 64 + b) * 4 + l)
theorem allR_at {l h : Nat} {p : Nat → Bool} (H : allR l h p = true) (x : Nat) (hl : x % 4 = l) (hh : x / 8192 = h) : p x = true := by
  have := allB_at (allB_at H (x / 4 % 2048 / 64) (by omega)) (x / 4 % 64) (by omega)
  rwa [show h * 8192 + (x / 4 % 2048 / 64 * 64 + x / 4 % 64) * 4 + l = x by omega] at this
end Go.Proofs.YtlfeandnpflaaaaDoor
