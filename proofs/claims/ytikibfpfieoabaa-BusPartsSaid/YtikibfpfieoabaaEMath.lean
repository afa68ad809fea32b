/-
  The plain mathematics of layer 4 (capenc): masks, bits that are laid beside one another, the null's bits turned. No condition; nothing of a program.
-/
import Derived.WalkKit
import Derived.Laws.BitsLemmas
import Derived.Laws.Bits64b
namespace Go.Proofs.Ytikibfpfieoabaa
open Go.RowKit
set_option linter.unusedVariables false
set_option linter.unusedSimpArgs false

theorem i64_wraps (n : Int) (h0 : 0 ≤ n) (h1 : n < 2 ^ 63) : IntKind.i64.wrap n = n := by rw [IntKind.wrap_i64]; omega
theorem u64_wraps (n : Int) (h0 : 0 ≤ n) (h1 : n < 2 ^ 64) : IntKind.u64.wrap n = n := by rw [IntKind.wrap_u64]; omega
theorem and_m64 (i : Nat) (hi : i ≤ 64) (x : Int) (h0 : 0 ≤ x) (h1 : x < 18446744073709551616) : bits .and .u64 x (2 ^ i - 1) = x % 2 ^ i :=
  bits_mask .u64 64 (by decide) u64_wraps i hi x h0 (by omega)
theorem and_m8 (i : Nat) (hi : i ≤ 8) (x : Int) (h0 : 0 ≤ x) (h1 : x < 256) : bits .and .u8 x (2 ^ i - 1) = x % 2 ^ i :=
  bits_mask .u8 8 (by decide) wraps_u8 i hi x h0 (by omega)
theorem and_i7 (x : Int) (h0 : 0 ≤ x) (h1 : x < 9223372036854775808) : bits .and .i64 x 7 = x % 8 :=
  bits_mask .i64 63 (by decide) i64_wraps 3 (by omega) x h0 (by omega)
theorem or64 (i : Nat) (x y : Int) (x0 : 0 ≤ x) (x1 : x < 2 ^ i) (y0 : 0 ≤ y) (h : x + y * 2 ^ i < 18446744073709551616) : bits .or .u64 x (y * 2 ^ i) = x + y * 2 ^ i := by
  obtain ⟨a, rfl⟩ := Int.eq_ofNat_of_zero_le x0
  obtain ⟨b, rfl⟩ := Int.eq_ofNat_of_zero_le y0
  have ha : a < 2 ^ i := by have h2 : ((a : Nat) : Int) < ((2 ^ i : Nat) : Int) := by simpa using x1
                            exact Int.ofNat_lt.mp h2
  have e : ((b : Int) * 2 ^ i) = ((2 ^ i * b : Nat) : Int) := by simp [Int.mul_comm]
  rw [e] at h ⊢
  rw [bits_or_u64_nat _ _ (by omega) (by omega), Nat.or_comm, ← Nat.two_pow_add_eq_or_of_lt ha b]
  omega
theorem or8 (i : Nat) (x y : Int) (x0 : 0 ≤ x) (x1 : x < 2 ^ i) (y0 : 0 ≤ y) (h : x + y * 2 ^ i < 256) : bits .or .u8 x (y * 2 ^ i) = x + y * 2 ^ i := by
  obtain ⟨a, rfl⟩ := Int.eq_ofNat_of_zero_le x0
  obtain ⟨b, rfl⟩ := Int.eq_ofNat_of_zero_le y0
  have ha : a < 2 ^ i := by have h2 : ((a : Nat) : Int) < ((2 ^ i : Nat) : Int) := by simpa using x1
                            exact Int.ofNat_lt.mp h2
  have e : ((b : Int) * 2 ^ i) = ((2 ^ i * b : Nat) : Int) := by simp [Int.mul_comm]
  rw [e] at h ⊢
  rw [(bits_nat .u8 8 (by decide) wraps_u8 _ _ (by omega) (by omega)).2, Nat.or_comm, ← Nat.two_pow_add_eq_or_of_lt ha b]
  omega
/-- Noughts in place of the lowest three bits. -/
theorem clr7 (x : Int) (h0 : 0 ≤ x) (h1 : x < 9223372036854775808) : bits .andNot .i64 x 7 = x - x % 8 := by
  obtain ⟨a, rfl⟩ := Int.eq_ofNat_of_zero_le h0
  have h2 : (BitVec.ofInt 64 (a : Int)).toNat = a := by
    rw [BitVec.ofInt_natCast, BitVec.toNat_ofNat]; exact Nat.mod_eq_of_lt (by omega)
  show IntKind.i64.wrap ((BitVec.ofInt 64 (a : Int) &&& ~~~ BitVec.ofInt 64 (7 : Int)).toNat : Int) = _
  have h3 : (BitVec.ofInt 64 (a : Int) &&& ~~~ BitVec.ofInt 64 (7 : Int)).toNat = a - a % 8 := by
    have h4 : (~~~ BitVec.ofInt 64 (7 : Int)).toNat = 2 ^ 64 - 8 := by decide
    rw [BitVec.toNat_and, h2, h4]
    apply Nat.eq_of_testBit_eq
    intro i
    have e1 : a - a % 8 = 2 ^ 3 * (a / 8) + 0 := by omega
    rw [Nat.testBit_and, e1, Nat.testBit_two_pow_mul_add _ (by omega), show 2 ^ 64 - 8 = 2 ^ 64 - (7 + 1) by omega, Nat.testBit_two_pow_sub_succ (by omega)]
    have e2 : (7 : Nat).testBit i = decide (i < 3) := by
      rw [show (7 : Nat) = 2 ^ 3 - 1 by omega, Nat.testBit_two_pow_sub_one]
    rw [e2]
    have e3 : a.testBit i = true → i < 64 := fun h => by
      rcases Nat.lt_or_ge i 64 with h5 | h5
      · exact h5
      · rw [Nat.testBit_lt_two_pow (Nat.lt_of_lt_of_le (show a < 2 ^ 64 by omega) (Nat.pow_le_pow_right (by omega) h5))] at h; cases h
    by_cases h6 : i < 3
    · simp [h6]
    · have e4 : (a / 8).testBit (i - 3) = a.testBit i := by
        rw [show a / 8 = a / 2 ^ 3 by omega, Nat.testBit_div_two_pow, show i - 3 + 3 = i by omega]
      simp only [h6, decide_false, Bool.not_false, Bool.and_true, if_false, e4]
      cases h7 : a.testBit i
      · simp
      · simp [e3 h7]
  rw [h3, IntKind.wrap_i64]
  omega
theorem or_i7 (x y : Int) (h0 : 0 ≤ x) (h1 : x < 4611686018427387904) (hx : x % 8 = 0) (y0 : 0 ≤ y) (y1 : y < 8) : bits .or .i64 x y = x + y :=
  bits_join .i64 63 (by decide) i64_wraps 3 x y h0 hx (by omega) y0 y1 (by omega)
/-- Both have noughts below just if their join has. -/
theorem or_low (x y : Int) (x0 : 0 ≤ x) (x1 : x < 4611686018427387904) (y0 : 0 ≤ y) (y1 : y < 4611686018427387904) : bits .or .i64 x y % 8 = 0 ↔ x % 8 = 0 ∧ y % 8 = 0 := by
  obtain ⟨a, rfl⟩ := Int.eq_ofNat_of_zero_le x0
  obtain ⟨b, rfl⟩ := Int.eq_ofNat_of_zero_le y0
  rw [(bits_nat .i64 63 (by decide) i64_wraps _ _ (by omega) (by omega)).2]
  have h : ((a ||| b : Nat) : Int) % 8 = ((((a ||| b) % 8 : Nat)) : Int) := by omega
  have h2 := Nat.or_mod_two_pow (a := a) (b := b) (n := 3)
  simp only [show 2 ^ 3 = 8 from rfl] at h2
  rw [h, h2]
  have h3 : ((a % 8) ||| (b % 8)) = 0 ↔ a % 8 = 0 ∧ b % 8 = 0 := by
    constructor
    · intro h4
      constructor
      · have := (Nat.left_le_or : a % 8 ≤ a % 8 ||| b % 8); omega
      · have := (Nat.right_le_or : b % 8 ≤ a % 8 ||| b % 8); omega
    · rintro ⟨h4, h5⟩; rw [h4, h5]; rfl
  omega
theorem or_bd (x y : Int) (x0 : 0 ≤ x) (x1 : x < 4611686018427387904) (y0 : 0 ≤ y) (y1 : y < 4611686018427387904) : 0 ≤ bits .or .i64 x y ∧ bits .or .i64 x y < 4611686018427387904 := by
  obtain ⟨a, rfl⟩ := Int.eq_ofNat_of_zero_le x0
  obtain ⟨b, rfl⟩ := Int.eq_ofNat_of_zero_le y0
  rw [(bits_nat .i64 63 (by decide) i64_wraps _ _ (by omega) (by omega)).2]
  have := Nat.or_lt_two_pow (x := a) (y := b) (n := 62) (by omega) (by omega)
  omega

/-- A number, the null's bits turned. -/
def xk (n : Int) : Int := bits .xor .u64 n 35184305078276
theorem xk_nat (a : Nat) (h : a < 18446744073709551616) : xk (a : Int) = ((a ^^^ 35184305078276 : Nat) : Int) :=
  bits_xor_u64_nat a 35184305078276 h (by omega)
theorem xk_bd (n : Int) : 0 ≤ xk n ∧ xk n < 18446744073709551616 := by
  have a := bits_lo_u64 .xor n 35184305078276; have b := bits_hi_u64 .xor n 35184305078276
  unfold xk; omega
theorem xk_xk (n : Int) (h0 : 0 ≤ n) (h1 : n < 18446744073709551616) : xk (xk n) = n := by
  obtain ⟨a, rfl⟩ := Int.eq_ofNat_of_zero_le h0
  have hx : a ^^^ 35184305078276 < 2 ^ 64 := Nat.xor_lt_two_pow (by omega) (by omega)
  rw [xk_nat a (by omega), xk_nat _ hx, Nat.xor_assoc, Nat.xor_self, Nat.xor_zero]
theorem xk_62 (n : Int) (h0 : 0 ≤ n) (h1 : n < 4611686018427387904) : xk n < 4611686018427387904 := by
  obtain ⟨a, rfl⟩ := Int.eq_ofNat_of_zero_le h0
  have hx : a ^^^ 35184305078276 < 2 ^ 62 := Nat.xor_lt_two_pow (by omega) (by omega)
  rw [xk_nat a (by omega)]; omega
theorem xk_inj (a b : Int) (a0 : 0 ≤ a) (a1 : a < 18446744073709551616) (b0 : 0 ≤ b) (b1 : b < 18446744073709551616) (h : xk a = xk b) : a = b := by
  rw [← xk_xk a a0 a1, h, xk_xk b b0 b1]
/-- The upper bits of one that is turned hang on the upper bits alone. -/
theorem xk_up (a b : Int) (a0 : 0 ≤ a) (a1 : a < 18446744073709551616) (b0 : 0 ≤ b) (b1 : b < 18446744073709551616)
    (h : a / 134217728 = b / 134217728 % 34359738368) : xk a / 134217728 = xk b / 134217728 % 34359738368 := by
  obtain ⟨x, rfl⟩ := Int.eq_ofNat_of_zero_le a0
  obtain ⟨y, rfl⟩ := Int.eq_ofNat_of_zero_le b0
  rw [xk_nat x (by omega), xk_nat y (by omega)]
  have hn : x / 2 ^ 27 = y / 2 ^ 27 % 2 ^ 35 := by omega
  have e : (x ^^^ 35184305078276) / 2 ^ 27 = (y ^^^ 35184305078276) / 2 ^ 27 % 2 ^ 35 := by
    rw [Nat.xor_div_two_pow, Nat.xor_div_two_pow, Nat.xor_mod_two_pow, hn]
  omega
end Go.Proofs.Ytikibfpfieoabaa
