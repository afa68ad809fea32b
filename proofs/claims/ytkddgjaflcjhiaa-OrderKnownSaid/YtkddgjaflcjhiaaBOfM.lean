/-
  The plain mathematics of bounds.Of: where a mantissa leads, as the chapter says it, and what a capability's bounds are. No condition; nothing of a program.
-/
import Derived.Test.YtkddgjaflcjhiaaBLen
namespace Go.Proofs.Ytkddgjaflcjhiaa
open Go.RowKit
set_option linter.unusedVariables false
set_option linter.unusedSimpArgs false

/-- T of 14 bits. -/
def t14 (b t : Int) (g : Bool) : Int := (b / 4096 + b01 (ltB t (b % 4096)) + b01 g) % 4 * 4096 + t
/-- The corner; the middle; the upper part; the step. -/
def corV (b : Int) : Int := (b / 2048 + 7) % 8 * 2048
def midV (e a : Int) : Int := a / 2 ^ e.toNat % 16384
def uppV (e a : Int) : Int := a / 2 ^ (e + 14).toNat
def stepV (b e a x : Int) : Int := if x < corV b ∧ corV b ≤ midV e a then 1 else if corV b ≤ x ∧ midV e a < corV b then -1 else 0
/-- Where a mantissa leads. -/
def plcV (b e a x : Int) : Int := (uppV e a + stepV b e a x) * 2 ^ (e + 14).toNat + x * 2 ^ e.toNat
/-- Is a top 2^64 off? -/
def farB (h l k : Int) : Bool := decide (1 < (wN h l / 9223372036854775808 - k / 9223372036854775808) % 4)
/-- The bounds: the base, the top's lowest 64 bits, whether it is over. -/
def ofB (e b a : Int) : Int := wL (plcV b e a b)
def ofT (e b t : Int) (g : Bool) (a : Int) : Int := wL (plcV b e a (t14 b t g))
def ofH (e b t : Int) (g : Bool) (a : Int) : Int := wH (plcV b e a (t14 b t g))
def ofF (e b t : Int) (g : Bool) (a : Int) : Bool := decide (e < 51) && farB (ofH e b t g a) (ofT e b t g a) (ofB e b a)
def ofO (e b t : Int) (g : Bool) (a : Int) : Bool := if ofF e b t g a then ofH e b t g a == 0 else ofH e b t g a == 1
theorem t14_bd (b t : Int) (g : Bool) (b0 : 0 ≤ b) (t0 : 0 ≤ t) (t1 : t < 4096) : 0 ≤ t14 b t g ∧ t14 b t g < 16384 := by
  unfold t14; omega
theorem corV_bd (b : Int) : 0 ≤ corV b ∧ corV b ≤ 14336 := by unfold corV; omega
theorem midV_bd (e a : Int) : 0 ≤ midV e a ∧ midV e a < 16384 := by unfold midV; omega
theorem uppV_bd (e a : Int) (a0 : 0 ≤ a) (a1 : a < 18446744073709551616) : 0 ≤ uppV e a ∧ uppV e a < 18446744073709551616 :=
  ⟨Int.ediv_nonneg a0 (Int.le_of_lt (pow_pos' _)), Int.lt_of_le_of_lt (Int.ediv_le_self _ a0) a1⟩
theorem ofB_bd (e b a : Int) : 0 ≤ ofB e b a ∧ ofB e b a < 18446744073709551616 := ⟨wL_lo _, wL_hi _⟩
theorem ofT_bd (e b t : Int) (g : Bool) (a : Int) : 0 ≤ ofT e b t g a ∧ ofT e b t g a < 18446744073709551616 := ⟨wL_lo _, wL_hi _⟩
theorem ofH_bd (e b t : Int) (g : Bool) (a : Int) : 0 ≤ ofH e b t g a ∧ ofH e b t g a < 2 := ⟨wH_lo _, wH_hi _⟩

/-- What is put together of a part that has wrapped round. -/
theorem plc_wrap (u x e : Int) (e0 : 0 ≤ e) (e1 : e ≤ 52) :
    (wN (wH (wN 0 (IntKind.u64.wrap u) * 2 ^ (e + 14).toNat)) (wL (wN 0 (IntKind.u64.wrap u) * 2 ^ (e + 14).toNat)) + wN (wH (wN 0 x * 2 ^ e.toNat)) (wL (wN 0 x * 2 ^ e.toNat))) % 36893488147419103232 = (u * 2 ^ (e + 14).toNat + x * 2 ^ e.toNat) % 36893488147419103232 := by
  have h0 : ∀ z : Int, wN 0 z = z := fun z => by unfold wN; omega
  rw [wN_of, wN_of, h0, h0, IntKind.wrap_u64, ← Int.add_emod]
  have hp : (2 : Int) ^ (e + 14).toNat = 2 * 2 ^ (e + 13).toNat := by
    rw [show (e + 14).toNat = 1 + (e + 13).toNat by omega, two_pow_add]; rfl
  have hu : u = u % 18446744073709551616 + 18446744073709551616 * (u / 18446744073709551616) := by omega
  have : u * 2 ^ (e + 14).toNat = u % 18446744073709551616 * 2 ^ (e + 14).toNat + (u / 18446744073709551616 * 2 ^ (e + 13).toNat) * 36893488147419103232 := by
    conv => lhs; rw [hu]
    rw [Int.add_mul, hp]
    congr 1
    rw [show (36893488147419103232 : Int) = 18446744073709551616 * 2 from rfl]
    simp only [Int.mul_assoc, Int.mul_comm, Int.mul_left_comm]
  rw [this]
  generalize u % 18446744073709551616 * 2 ^ (e + 14).toNat = y
  generalize x * 2 ^ e.toNat = z
  omega
end Go.Proofs.Ytkddgjaflcjhiaa
