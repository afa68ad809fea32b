/-
  The plain mathematics of layer 1 (word): what each operation makes of numbers, as functions on integers, and that bits, halves and signs go together as they should. No condition; nothing of a program.
-/
import Derived.WalkKit
namespace Go.Proofs.YtglhfdamgblhdaaDoor
open Go.RowKit
set_option linter.unusedVariables false
set_option linter.unusedSimpArgs false

/-- A number of 64 bits, with its sign. -/
def sg (a : Int) : Int := if a < 9223372036854775808 then a else a - 18446744073709551616
/-- The lowest bits (n = 2 ^ bits), extended by the sign. -/
def sx (n v : Int) : Int := if v % n < n / 2 then v % n else v % n + (18446744073709551616 - n)
/-- Extend. -/
def extV (v w : Int) : Int :=
  if w = 0 then sx 256 v else if w = 1 then sx 65536 v else if w = 2 then sx 4294967296 v
  else if w = 4 then v % 256 else if w = 5 then v % 65536 else if w = 6 then v % 4294967296 else v
/-- Shifted down with the sign, of numbers below m. -/
def sraV (m a : Int) (k : Nat) : Int := if m / 2 ≤ a then m - 1 - (m - 1 - a) / 2 ^ k else a / 2 ^ k
/-- What both widths have. -/
def turnV (m s fn a b : Int) : Int :=
  if fn = 0 then (a + b) % m else if fn = 8 then (a - b) % m else if fn = 1 then (a * 2 ^ (b % s).toNat) % m
  else if fn = 5 then a / 2 ^ (b % s).toNat else if fn = 9 then sraV m a (b % s).toNat else 0
def turnOk (fn : Int) : Bool := fn == 0 || fn == 8 || fn == 1 || fn == 5 || fn == 9
/-- What 64 bits alone have. -/
def cmV (fn a b : Int) : Int :=
  if fn = 2 then (if sg a < sg b then 1 else 0) else if fn = 3 then (if a < b then 1 else 0)
  else if fn = 4 then bits .xor .u64 a b else if fn = 6 then bits .or .u64 a b else if fn = 7 then bits .and .u64 a b else 0
def cmOk (fn : Int) : Bool := fn == 2 || fn == 3 || fn == 4 || fn == 6 || fn == 7
def aluV (fn : Int) (wide : Bool) (a b : Int) : Int :=
  if wide then extV (turnV 4294967296 32 fn (a % 4294967296) (b % 4294967296)) 2
  else if turnOk fn then turnV 18446744073709551616 64 fn a b else cmV fn a b
def aluOk (fn : Int) (wide : Bool) : Bool := turnOk fn || (!wide && cmOk fn)
def brV (fn a b : Int) : Bool :=
  if fn = 0 then a == b else if fn = 1 then a != b else if fn = 4 then decide (sg a < sg b) else if fn = 5 then decide (sg b ≤ sg a)
  else if fn = 6 then decide (a < b) else if fn = 7 then decide (b ≤ a) else false
def brOk (fn : Int) : Bool := fn == 0 || fn == 1 || fn == 4 || fn == 5 || fn == 6 || fn == 7
def sizeV (w : Int) : Int :=
  if w = 0 then 1 else if w = 1 then 2 else if w = 2 then 4 else if w = 3 then 8 else if w = 4 then 1 else if w = 5 then 2
  else if w = 6 then 4 else if w = 7 then 16 else 0

theorem sg_wrap (a : Int) (h0 : 0 ≤ a) (h1 : a < 18446744073709551616) : wrap64 a = sg a := by
  unfold sg wrap64; split <;> omega
theorem sx_bd (n v : Int) (hn : 2 ≤ n) (hn2 : n ≤ 18446744073709551616) : 0 ≤ sx n v ∧ sx n v < 18446744073709551616 := by
  have := Int.emod_nonneg v (show n ≠ 0 by omega); have := Int.emod_lt_of_pos v (show 0 < n by omega)
  unfold sx; split <;> omega
theorem extV_bd (v w : Int) (h0 : 0 ≤ v) (h1 : v < 18446744073709551616) : 0 ≤ extV v w ∧ extV v w < 18446744073709551616 := by
  have a := sx_bd 256 v (by omega) (by omega)
  have b := sx_bd 65536 v (by omega) (by omega)
  have c := sx_bd 4294967296 v (by omega) (by omega)
  unfold extV; repeat' split
  all_goals omega
theorem pow_pos' (k : Nat) : (0 : Int) < 2 ^ k := Int.pow_pos (by omega)
theorem div_bd (a : Int) (k : Nat) (h0 : 0 ≤ a) : 0 ≤ a / 2 ^ k ∧ a / 2 ^ k ≤ a :=
  ⟨Int.ediv_nonneg h0 (Int.le_of_lt (pow_pos' k)), Int.ediv_le_self _ h0⟩
theorem sraV_bd (m a : Int) (k : Nat) (h0 : 0 ≤ a) (h1 : a < m) : 0 ≤ sraV m a k ∧ sraV m a k < m := by
  have x := div_bd (m - 1 - a) k (by omega); have y := div_bd a k h0
  unfold sraV; split <;> omega
theorem turnV_bd (m s fn a b : Int) (hm : 0 < m) (h0 : 0 ≤ a) (h1 : a < m) : 0 ≤ turnV m s fn a b ∧ turnV m s fn a b < m := by
  have x := sraV_bd m a (b % s).toNat h0 h1; have y := div_bd a (b % s).toNat h0
  have e : ∀ z : Int, 0 ≤ z % m ∧ z % m < m := fun z => ⟨Int.emod_nonneg _ (by omega), Int.emod_lt_of_pos _ hm⟩
  have e1 := e (a + b); have e2 := e (a - b); have e3 := e (a * 2 ^ (b % s).toNat)
  unfold turnV; repeat' split
  all_goals omega
theorem cmV_bd (fn a b : Int) : 0 ≤ cmV fn a b ∧ cmV fn a b < 18446744073709551616 := by
  have h : ∀ op, 0 ≤ bits op .u64 a b ∧ bits op .u64 a b < 18446744073709551616 := fun op => ⟨bits_lo_u64 op a b, by have := bits_hi_u64 op a b; omega⟩
  have x := h .xor; have y := h .or; have z := h .and
  unfold cmV; repeat' split
  all_goals omega
theorem aluV_bd (fn : Int) (wide : Bool) (a b : Int) (h0 : 0 ≤ a) (h1 : a < 18446744073709551616) : 0 ≤ aluV fn wide a b ∧ aluV fn wide a b < 18446744073709551616 := by
  have x := turnV_bd 18446744073709551616 64 fn a b (by omega) h0 h1
  have y := cmV_bd fn a b
  have z := turnV_bd 4294967296 32 fn (a % 4294967296) (b % 4294967296) (by omega) (by omega) (by omega)
  have z' := extV_bd (turnV 4294967296 32 fn (a % 4294967296) (b % 4294967296)) 2 z.1 (by omega)
  unfold aluV; repeat' split
  all_goals omega

/-- The complement. -/
theorem not_u64 (a : Int) (h0 : 0 ≤ a) (h1 : a < 18446744073709551616) : bits .xor .u64 IntKind.u64.max a = 18446744073709551615 - a := by
  obtain ⟨n, rfl⟩ := Int.eq_ofNat_of_zero_le h0
  have hm : IntKind.u64.max = ((18446744073709551615 : Nat) : Int) := rfl
  rw [hm, bits_xor_u64_nat _ _ (by omega) (by omega)]
  have h : 18446744073709551615 ^^^ n = 18446744073709551615 - n := by
    have e : (2 ^ 64 - 1 - n) = (2 ^ 64 - 1) ^^^ n := by
      apply Nat.eq_of_testBit_eq; intro i
      rw [show 2 ^ 64 - 1 - n = 2 ^ 64 - (n + 1) by omega, Nat.testBit_two_pow_sub_succ (show n < 2 ^ 64 by omega), Nat.testBit_xor, Nat.testBit_two_pow_sub_one]
      by_cases hi : i < 64
      · simp [hi]
      · have : n.testBit i = false := Nat.testBit_lt_two_pow (Nat.lt_of_lt_of_le (show n < 2 ^ 64 by omega) (Nat.pow_le_pow_right (by omega) (by omega)))
        simp [hi, this]
    exact e.symm
  rw [h]; omega
theorem not_u32 (a : Int) (h0 : 0 ≤ a) (h1 : a < 4294967296) : bits .xor .u32 IntKind.u32.max a = 4294967295 - a := by
  obtain ⟨n, rfl⟩ := Int.eq_ofNat_of_zero_le h0
  have hm : IntKind.u32.max = ((4294967295 : Nat) : Int) := rfl
  have hx : 4294967295 ^^^ n = 4294967295 - n := by
    have e : (2 ^ 32 - 1 - n) = (2 ^ 32 - 1) ^^^ n := by
      apply Nat.eq_of_testBit_eq; intro i
      rw [show 2 ^ 32 - 1 - n = 2 ^ 32 - (n + 1) by omega, Nat.testBit_two_pow_sub_succ (show n < 2 ^ 32 by omega), Nat.testBit_xor, Nat.testBit_two_pow_sub_one]
      by_cases hi : i < 32
      · simp [hi]
      · have : n.testBit i = false := Nat.testBit_lt_two_pow (Nat.lt_of_lt_of_le (show n < 2 ^ 32 by omega) (Nat.pow_le_pow_right (by omega) (by omega)))
        simp [hi, this]
    exact e.symm
  have h2 : (BitVec.ofInt 32 (n : Int)).toNat = n := by
    rw [BitVec.ofInt_natCast, BitVec.toNat_ofNat]; exact Nat.mod_eq_of_lt (by omega)
  have h3 : (BitVec.ofInt 32 ((4294967295 : Nat) : Int)).toNat = 4294967295 := by decide
  have hw : ∀ z : Int, IntKind.u32.wrap z = z % 4294967296 := fun z => by simp [IntKind.wrap, IntKind.bits, IntKind.signed]
  rw [hm]
  show IntKind.u32.wrap ((BitVec.ofInt 32 ((4294967295 : Nat) : Int) ^^^ BitVec.ofInt 32 (n : Int)).toNat : Int) = _
  rw [BitVec.toNat_xor, h2, h3, hx, hw]
  omega
end Go.Proofs.YtglhfdamgblhdaaDoor
