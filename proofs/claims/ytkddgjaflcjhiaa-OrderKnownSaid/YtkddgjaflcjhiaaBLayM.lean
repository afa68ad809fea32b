/-
  The plain mathematics of bounds.Lay: what is laid, as the chapter says it. No condition; nothing of a program.
-/
import Derived.Test.YtkddgjaflcjhiaaBOfM
namespace Go.Proofs.Ytkddgjaflcjhiaa
open Go.RowKit
set_option linter.unusedVariables false
set_option linter.unusedSimpArgs false

/-- How many bits a number has (0 of 0). -/
def lenN : Nat → Nat → Nat
  | 0, _ => 0
  | k + 1, n => if n = 0 then 0 else lenN k (n / 2) + 1
def len64 (x : Int) : Nat := lenN 64 x.toNat
/-- A number shifted down, rounded up; whether a bit is lost. -/
def lostB (x : Int) (k : Nat) : Bool := decide (¬ x % 2 ^ k = 0)
def ceilV (x : Int) (k : Nat) : Int := x / 2 ^ k % 2048 + b01 (lostB x k)
/-- The first exponent; whether it goes over; the exponent. -/
def e0V (n : Int) : Nat := len64 (n / 8192)
def overB (a n : Int) : Bool := decide (1024 ≤ (ceilV (a + n) (e0V n + 3) - a / 2 ^ (e0V n + 3) % 2048) % 2048)
def exV (a n : Int) : Nat := if overB a n then e0V n + 1 else e0V n
def bigB (n : Int) : Bool := decide (4096 ≤ n)
/-- What Lay lays: E, B, T, and whether they are just these bounds. -/
def layE (a n : Int) : Int := if bigB n then (exV a n : Int) else 0
def layB (a n : Int) : Int := if bigB n then a / 2 ^ (exV a n + 3) % 2048 * 8 else a % 16384
def layT (a n : Int) : Int := if bigB n then ceilV (a + n) (exV a n + 3) * 8 % 4096 else (a + n) % 4096
def layX (a n : Int) : Bool := if bigB n then !lostB a (exV a n + 3) && !lostB (a + n) (exV a n + 3) else true
def maskV (n : Int) : Int := if bigB n then 18446744073709551616 - 2 ^ (exV 0 n + 3) else 18446744073709551615

theorem lenN_bd (k n : Nat) : lenN k n ≤ k := by
  induction k generalizing n with
  | zero => simp [lenN]
  | succ k ih => unfold lenN; split; omega; have := ih (n / 2); omega
theorem lenN_lt (k n m : Nat) (h : n < 2 ^ m) : lenN k n ≤ m := by
  induction k generalizing n m with
  | zero => simp [lenN]
  | succ k ih =>
    unfold lenN; split
    · omega
    · rename_i hn
      cases m with
      | zero => simp at h; omega
      | succ m => have := ih (n / 2) m (by rw [Nat.pow_succ] at h; omega); omega
theorem lenN_ge (k n m : Nat) (hm : m < k) (h : 2 ^ m ≤ n) : m + 1 ≤ lenN k n := by
  induction k generalizing n m with
  | zero => omega
  | succ k ih =>
    have hp : 0 < 2 ^ m := Nat.pow_pos (by omega)
    unfold lenN; rw [if_neg (by omega)]
    cases m with
    | zero => omega
    | succ m => have := ih (n / 2) m (by omega) (by rw [Nat.pow_succ] at h; omega); omega
theorem e0V_bd (n : Int) (n0 : 0 ≤ n) (n1 : n < 18446744073709551616) : e0V n ≤ 51 := by
  unfold e0V len64
  exact lenN_lt 64 _ 51 (by have : (n / 8192).toNat < 2251799813685248 := by omega
                            exact this)
theorem exV_bd (a n : Int) (n0 : 0 ≤ n) (n1 : n < 18446744073709551616) : exV a n ≤ 52 := by
  have := e0V_bd n n0 n1; unfold exV; split <;> omega
theorem b01_le (o : Bool) : b01 o ≤ 1 := by have := b01_hi o; omega
theorem ceilV_bd (x : Int) (k : Nat) : 0 ≤ ceilV x k ∧ ceilV x k ≤ 2048 := by
  have h := b01_lo (lostB x k); have h2 := b01_le (lostB x k); unfold ceilV; omega
theorem layE_bd (a n : Int) (n0 : 0 ≤ n) (n1 : n < 18446744073709551616) : 0 ≤ layE a n ∧ layE a n ≤ 52 := by
  have := exV_bd a n n0 n1; unfold layE; split <;> omega
theorem layB_bd (a n : Int) : 0 ≤ layB a n ∧ layB a n < 16384 := by unfold layB; split <;> omega
theorem layT_bd (a n : Int) : 0 ≤ layT a n ∧ layT a n < 4096 := by unfold layT; split <;> omega
end Go.Proofs.Ytkddgjaflcjhiaa
