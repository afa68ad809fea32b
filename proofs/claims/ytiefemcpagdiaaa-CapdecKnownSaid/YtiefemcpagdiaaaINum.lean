/-
  Numbers as they are laid into words: what a word so made is. No condition.
-/
import Derived.Test.YtiefemcpagdiaaaILaw
namespace Go.Proofs.Ytiefemcpagdiaaa
open Go.ChangeShapes Go.WideShapes Go.ChangeAt Go.RowKit
set_option linter.unusedVariables false
set_option linter.unusedSimpArgs false

theorem wraps32 (n : Int) (h0 : 0 ≤ n) (h1 : n < 2 ^ 32) : IntKind.u32.wrap n = n := by rw [IntKind.wrap_u32]; omega
theorem and32 (k : Nat) (m n : Int) (hm : (2 : Int) ^ k = m) (hn : n + 1 = m) (hk : k ≤ 32) (x : Int) (h0 : 0 ≤ x) (h1 : x < 4294967296) : bits .and .u32 x n = x % m := by
  have e : n = 2 ^ k - 1 := by omega
  subst hm e; exact bits_mask .u32 32 (by decide) wraps32 k hk x h0 (by omega)
theorem or32n (a b : Nat) (ha : a < 2 ^ 32) (hb : b < 2 ^ 32) : bits .or .u32 (a : Int) (b : Int) = ((a ||| b : Nat) : Int) := (bits_nat .u32 32 (by decide) wraps32 a b ha hb).2
/-- Bits above, then bits below. -/
theorem or32 (k : Nat) (p : Int) (hp : (2 : Int) ^ k = p) (hk : k ≤ 32) (x y : Int) (x0 : 0 ≤ x) (x1 : x < 4294967296) (hx : x % p = 0) (y0 : 0 ≤ y) (y1 : y < p) : bits .or .u32 x y = x + y := by
  subst hp
  have hpos : (0 : Int) < 2 ^ k := Int.pow_pos (by omega)
  obtain ⟨q, hq⟩ : ∃ q, x = 2 ^ k * q := ⟨x / 2 ^ k, by have := Int.mul_ediv_add_emod x (2 ^ k); omega⟩
  have hq0 : 0 ≤ q := by
    rcases Int.lt_or_le q 0 with h | h
    · have := Int.mul_neg_of_pos_of_neg hpos h; omega
    · exact h
  obtain ⟨a, rfl⟩ := Int.eq_ofNat_of_zero_le hq0
  obtain ⟨b, rfl⟩ := Int.eq_ofNat_of_zero_le y0
  have hb : b < 2 ^ k := by
    have h2 : ((b : Nat) : Int) < ((2 ^ k : Nat) : Int) := by simpa using y1
    exact Int.ofNat_lt.mp h2
  have e : x = ((2 ^ k * a : Nat) : Int) := by rw [hq]; simp
  have hle : 2 ^ k ≤ 2 ^ 32 := Nat.pow_le_pow_right (by omega) hk
  rw [e] at x1 ⊢
  rw [or32n _ _ (by omega) (by omega), ← Nat.two_pow_add_eq_or_of_lt hb a]
  simp
theorem or32' (k : Nat) (p : Int) (hp : (2 : Int) ^ k = p) (hk : k ≤ 32) (x y : Int) (x0 : 0 ≤ x) (x1 : x < p) (y0 : 0 ≤ y) (y1 : y < 4294967296) (hy : y % p = 0) : bits .or .u32 x y = x + y := by
  have hc : bits .or .u32 x y = bits .or .u32 y x := by
    have hle : (2 : Int) ^ k ≤ 2 ^ 32 := by
      have h2 : 2 ^ k ≤ 2 ^ 32 := Nat.pow_le_pow_right (by omega) hk
      have h3 : (((2 ^ k : Nat)) : Int) ≤ ((2 ^ 32 : Nat) : Int) := by omega
      simpa using h3
    have e32 : (2 : Int) ^ 32 = 4294967296 := by decide
    obtain ⟨a, rfl⟩ := Int.eq_ofNat_of_zero_le x0
    obtain ⟨b, rfl⟩ := Int.eq_ofNat_of_zero_le y0
    rw [or32n _ _ (by omega) (by omega), or32n _ _ (by omega) (by omega), Nat.or_comm]
  rw [hc, or32 k p hp hk y x y0 y1 hy x0 x1]; omega
theorem nat_mask (n k : Nat) (hn : n < 2 ^ 64) (hk : k < 64) : n &&& (18446744073709551616 - 2 ^ k) = 2 ^ k * (n / 2 ^ k) := by
  have hp : 2 ^ k < 2 ^ 64 := Nat.pow_lt_pow_right (by omega) hk
  have e2 : (18446744073709551616 - 2 ^ k : Nat) = 2 ^ k * (2 ^ (64 - k) - 1) := by
    rw [Nat.mul_sub, ← Nat.pow_add, show k + (64 - k) = 64 by omega]; simp
  rw [e2]
  apply Nat.eq_of_testBit_eq; intro i
  rw [Nat.testBit_and, Nat.testBit_two_pow_mul, Nat.testBit_two_pow_mul, Nat.testBit_two_pow_sub_one, Nat.testBit_div_two_pow]
  by_cases hi : k ≤ i
  · rw [show i - k + k = i by omega]
    by_cases h64 : i < 64
    · simp [hi, show i - k < 64 - k by omega]
    · have : n.testBit i = false := Nat.testBit_lt_two_pow (Nat.lt_of_lt_of_le (show n < 2 ^ 64 by omega) (Nat.pow_le_pow_right (by omega) (by omega)))
      simp [this]
  · simp [hi]
/-- Noughts in place of the lowest bits, with a sign. -/
theorem clr_i (k : Nat) (hk : k ≤ 40) (x : Int) (x0 : -4611686018427387904 ≤ x) (x1 : x < 4611686018427387904) : bits .andNot .i64 x (2 ^ k - 1) = x - x % 2 ^ k := by
  have hp0 : 0 < 2 ^ k := Nat.pow_pos (by omega)
  have hp40 : 2 ^ k ≤ 2 ^ 40 := Nat.pow_le_pow_right (by omega) hk
  obtain ⟨n, hn⟩ := Int.eq_ofNat_of_zero_le (Int.emod_nonneg x (show (18446744073709551616 : Int) ≠ 0 by decide))
  have hn1 : n < 18446744073709551616 := by omega
  have e1 : (BitVec.ofInt 64 x).toNat = n := by
    rw [BitVec.toNat_ofInt]
    have : x % ((2 ^ 64 : Nat) : Int) = (n : Int) := by simpa using hn
    rw [this]; exact Int.toNat_natCast _
  have e2 : (BitVec.ofInt 64 ((2 : Int) ^ k - 1)).toNat = 2 ^ k - 1 := by
    have e : ((2 : Int) ^ k - 1) = ((2 ^ k - 1 : Nat) : Int) := by rw [Int.ofNat_sub (by omega)]; simp
    rw [e, BitVec.ofInt_natCast, BitVec.toNat_ofNat]; exact Nat.mod_eq_of_lt (by omega)
  have e3 : (~~~ BitVec.ofInt 64 ((2 : Int) ^ k - 1)).toNat = 18446744073709551616 - 2 ^ k := by
    rw [BitVec.toNat_not, e2]; omega
  show IntKind.i64.wrap ((BitVec.ofInt 64 x &&& ~~~ BitVec.ofInt 64 ((2 : Int) ^ k - 1)).toNat : Int) = _
  rw [BitVec.toNat_and, e1, e3, nat_mask n k hn1 (by omega), IntKind.wrap_i64]
  have hd := Nat.div_add_mod n (2 ^ k)
  have hm : ((n % 2 ^ k : Nat) : Int) = x % 2 ^ k := by
    have h64 : (2 : Int) ^ k ∣ 18446744073709551616 := by
      have : (2 : Int) ^ 64 = 2 ^ k * 2 ^ (64 - k) := by rw [← Int.pow_add]; congr 1; omega
      have e4 : (2 : Int) ^ 64 = 18446744073709551616 := by decide
      rw [← e4, this]; exact Int.dvd_mul_right _ _
    rw [← Int.emod_emod_of_dvd x h64, hn]; simp
  have hmlt := Nat.mod_lt n hp0
  have hd2 : ((2 ^ k * (n / 2 ^ k) : Nat) : Int) + ((n % 2 ^ k : Nat) : Int) = (n : Int) := by rw [← Int.natCast_add, hd]
  rw [← hm] at *
  omega
theorem clr_1 (x : Int) (x0 : -4611686018427387904 ≤ x) (x1 : x < 4611686018427387904) : bits .andNot .i64 x 1 = x - x % 2 := clr_i 1 (by omega) x x0 x1
theorem clr_12 (x : Int) (x0 : -4611686018427387904 ≤ x) (x1 : x < 4611686018427387904) : bits .andNot .i64 x 4095 = x - x % 4096 := clr_i 12 (by omega) x x0 x1
/-- A number's word is in its place, and is that instruction. -/
theorem wI_p (n : Int) (l : -2048 ≤ n) (u : n < 2048) : (0 ≤ bits .or .u32 3 (n % 4294967296 * 1048576 % 4294967296) ∧ bits .or .u32 3 (n % 4294967296 * 1048576 % 4294967296) < 4294967296) ∧ spec (bits .or .u32 3 (n % 4294967296 * 1048576 % 4294967296)) = some ⟨6, 0, 0, 0, 0, n, 0, false, false⟩ := by
  have e : bits .or .u32 3 (n % 4294967296 * 1048576 % 4294967296) = 3 + n % 4096 * 1048576 := by
    rw [or32' 20 1048576 (by decide) (by omega) _ _ (by omega) (by omega) (by omega) (by omega) (by omega)]; omega
  rw [e]
  obtain ⟨X, hX⟩ : ∃ X, 3 + n % 4096 * 1048576 = X := ⟨_, rfl⟩
  rw [hX]
  have o : fl X 1 128 = 3 := by unfold fl; omega
  have a : fl X 4096 8 = 0 := by unfold fl; omega
  have b : fl X 128 32 = 0 := by unfold fl; omega
  have c : fl X 32768 32 = 0 := by unfold fl; omega
  have i : iI X = n := by unfold iI sgn fl; split <;> omega
  refine ⟨by omega, ?_⟩
  simp [spec, spLoad, o, i, a, b, c]
/-- A number's word is in its place, and is that instruction. -/
theorem wS_p (n : Int) (l : -2048 ≤ n) (u : n < 2048) : (0 ≤ bits .or .u32 35 (bits .or .u32 (n % 4294967296 / 32 * 33554432 % 4294967296) (bits .and .u32 (n % 4294967296) 31 * 128 % 4294967296)) ∧ bits .or .u32 35 (bits .or .u32 (n % 4294967296 / 32 * 33554432 % 4294967296) (bits .and .u32 (n % 4294967296) 31 * 128 % 4294967296)) < 4294967296) ∧ spec (bits .or .u32 35 (bits .or .u32 (n % 4294967296 / 32 * 33554432 % 4294967296) (bits .and .u32 (n % 4294967296) 31 * 128 % 4294967296))) = some ⟨7, 0, 0, 0, 0, n, 0, false, false⟩ := by
  have e : bits .or .u32 35 (bits .or .u32 (n % 4294967296 / 32 * 33554432 % 4294967296) (bits .and .u32 (n % 4294967296) 31 * 128 % 4294967296)) = 35 + (n % 4096 / 32 * 33554432 + n % 32 * 128) := by
    rw [and32 5 32 31 (by decide) (by omega) (by omega) _ (by omega) (by omega)]
    have e1 : n % 4294967296 / 32 * 33554432 % 4294967296 = n % 4096 / 32 * 33554432 := by omega
    have e2 : n % 4294967296 % 32 * 128 % 4294967296 = n % 32 * 128 := by omega
    rw [e1, e2, or32 25 33554432 (by decide) (by omega) _ (n % 32 * 128) (by omega) (by omega) (by omega) (by omega) (by omega)]
    rw [or32' 7 128 (by decide) (by omega) _ _ (by omega) (by omega) (by omega) (by omega) (by omega)]
  rw [e]
  obtain ⟨X, hX⟩ : ∃ X, 35 + (n % 4096 / 32 * 33554432 + n % 32 * 128) = X := ⟨_, rfl⟩
  rw [hX]
  have o : fl X 1 128 = 35 := by unfold fl; omega
  have a : fl X 4096 8 = 0 := by unfold fl; omega
  have b : fl X 1048576 32 = 0 := by unfold fl; omega
  have c : fl X 32768 32 = 0 := by unfold fl; omega
  have i : iS X = n := by unfold iS sgn fl; split <;> omega
  refine ⟨by omega, ?_⟩
  simp [spec, spStore, o, i, a, b, c]
/-- A number's word is in its place, and is that instruction. -/
theorem wB_p (n : Int) (l : -4096 ≤ n) (u : n < 4096) (ev : n % 2 = 0) : (0 ≤ bits .or .u32 99 (bits .or .u32 (bits .or .u32 (bits .or .u32 (n % 4294967296 / 4096 * 2147483648 % 4294967296) (bits .and .u32 (n % 4294967296 / 32) 63 * 33554432 % 4294967296)) (bits .and .u32 (n % 4294967296 / 2) 15 * 256 % 4294967296)) (bits .and .u32 (n % 4294967296 / 2048) 1 * 128 % 4294967296)) ∧ bits .or .u32 99 (bits .or .u32 (bits .or .u32 (bits .or .u32 (n % 4294967296 / 4096 * 2147483648 % 4294967296) (bits .and .u32 (n % 4294967296 / 32) 63 * 33554432 % 4294967296)) (bits .and .u32 (n % 4294967296 / 2) 15 * 256 % 4294967296)) (bits .and .u32 (n % 4294967296 / 2048) 1 * 128 % 4294967296)) < 4294967296) ∧ spec (bits .or .u32 99 (bits .or .u32 (bits .or .u32 (bits .or .u32 (n % 4294967296 / 4096 * 2147483648 % 4294967296) (bits .and .u32 (n % 4294967296 / 32) 63 * 33554432 % 4294967296)) (bits .and .u32 (n % 4294967296 / 2) 15 * 256 % 4294967296)) (bits .and .u32 (n % 4294967296 / 2048) 1 * 128 % 4294967296))) = some ⟨5, 0, 0, 0, 0, n, 0, false, false⟩ := by
  have e : bits .or .u32 99 (bits .or .u32 (bits .or .u32 (bits .or .u32 (n % 4294967296 / 4096 * 2147483648 % 4294967296) (bits .and .u32 (n % 4294967296 / 32) 63 * 33554432 % 4294967296)) (bits .and .u32 (n % 4294967296 / 2) 15 * 256 % 4294967296)) (bits .and .u32 (n % 4294967296 / 2048) 1 * 128 % 4294967296)) = 99 + (n / 4096 % 2 * 2147483648 + n / 32 % 64 * 33554432 + n / 2 % 16 * 256 + n / 2048 % 2 * 128) := by
    rw [and32 6 64 63 (by decide) (by omega) (by omega) (n % 4294967296 / 32) (by omega) (by omega), and32 4 16 15 (by decide) (by omega) (by omega) (n % 4294967296 / 2) (by omega) (by omega), and32 1 2 1 (by decide) (by omega) (by omega) (n % 4294967296 / 2048) (by omega) (by omega)]
    have e0 : n % 4294967296 / 4096 * 2147483648 % 4294967296 = n / 4096 % 2 * 2147483648 := by omega
    have e1 : n % 4294967296 / 32 % 64 * 33554432 % 4294967296 = n / 32 % 64 * 33554432 := by omega
    have e2 : n % 4294967296 / 2 % 16 * 256 % 4294967296 = n / 2 % 16 * 256 := by omega
    have e3 : n % 4294967296 / 2048 % 2 * 128 % 4294967296 = n / 2048 % 2 * 128 := by omega
    rw [e0, e1, e2, e3]
    rw [or32 31 2147483648 (by decide) (by omega) _ (n / 32 % 64 * 33554432) (by omega) (by omega) (by omega) (by omega) (by omega)]
    rw [or32 25 33554432 (by decide) (by omega) _ (n / 2 % 16 * 256) (by omega) (by omega) (by omega) (by omega) (by omega)]
    rw [or32 8 256 (by decide) (by omega) _ (n / 2048 % 2 * 128) (by omega) (by omega) (by omega) (by omega) (by omega)]
    rw [or32' 7 128 (by decide) (by omega) _ _ (by omega) (by omega) (by omega) (by omega) (by omega)]
  rw [e]
  obtain ⟨p0, h0⟩ : ∃ p, n / 4096 % 2 = p := ⟨_, rfl⟩
  obtain ⟨p1, h1⟩ : ∃ p, n / 32 % 64 = p := ⟨_, rfl⟩
  obtain ⟨p2, h2⟩ : ∃ p, n / 2 % 16 = p := ⟨_, rfl⟩
  obtain ⟨p3, h3⟩ : ∃ p, n / 2048 % 2 = p := ⟨_, rfl⟩
  have g0 : 0 ≤ p0 ∧ p0 < 2 := by omega
  have g1 : 0 ≤ p1 ∧ p1 < 64 := by omega
  have g2 : 0 ≤ p2 ∧ p2 < 16 := by omega
  have g3 : 0 ≤ p3 ∧ p3 < 2 := by omega
  have hn : n = -4096 * p0 + 32 * p1 + 2 * p2 + 2048 * p3 := by omega
  rw [h0, h1, h2, h3]
  clear e h0 h1 h2 h3
  obtain ⟨X, hX⟩ : ∃ X, 99 + (p0 * 2147483648 + p1 * 33554432 + p2 * 256 + p3 * 128) = X := ⟨_, rfl⟩
  rw [hX]
  have o : fl X 1 128 = 99 := by unfold fl; omega
  have qa : X / 4096 = p0 * 524288 + p1 * 8192 := by omega
  have a : fl X 4096 8 = 0 := by unfold fl; rw [qa]; omega
  have qb : X / 1048576 = p0 * 2048 + p1 * 32 := by omega
  have b : fl X 1048576 32 = 0 := by unfold fl; rw [qb]; omega
  have qc : X / 32768 = p0 * 65536 + p1 * 1024 := by omega
  have c : fl X 32768 32 = 0 := by unfold fl; rw [qc]; omega
  have f1 : fl X 2147483648 2 = p0 := by unfold fl; have q : X / 2147483648 = p0 := (by omega); rw [q]; omega
  have f2 : fl X 128 2 = p3 := by unfold fl; have q : X / 128 = p0 * 16777216 + p1 * 262144 + p2 * 2 + p3 := (by omega); rw [q]; omega
  have f3 : fl X 33554432 64 = p1 := by unfold fl; have q : X / 33554432 = p0 * 64 + p1 := (by omega); rw [q]; omega
  have f4 : fl X 256 16 = p2 := by unfold fl; have q : X / 256 = p0 * 8388608 + p1 * 131072 + p2 := (by omega); rw [q]; omega
  have i : iB X = n := by unfold iB; rw [f1, f2, f3, f4]; unfold sgn; split <;> omega
  refine ⟨by omega, ?_⟩
  simp [spec, spBranch, o, i, a, b, c]
/-- A number's word is in its place, and is that instruction. -/
theorem wJ_p (n : Int) (l : -1048576 ≤ n) (u : n < 1048576) (ev : n % 2 = 0) : (0 ≤ bits .or .u32 111 (bits .or .u32 (bits .or .u32 (bits .or .u32 (n % 4294967296 / 1048576 * 2147483648 % 4294967296) (bits .and .u32 (n % 4294967296 / 2) 1023 * 2097152 % 4294967296)) (bits .and .u32 (n % 4294967296 / 2048) 1 * 1048576 % 4294967296)) (bits .and .u32 (n % 4294967296 / 4096) 255 * 4096 % 4294967296)) ∧ bits .or .u32 111 (bits .or .u32 (bits .or .u32 (bits .or .u32 (n % 4294967296 / 1048576 * 2147483648 % 4294967296) (bits .and .u32 (n % 4294967296 / 2) 1023 * 2097152 % 4294967296)) (bits .and .u32 (n % 4294967296 / 2048) 1 * 1048576 % 4294967296)) (bits .and .u32 (n % 4294967296 / 4096) 255 * 4096 % 4294967296)) < 4294967296) ∧ spec (bits .or .u32 111 (bits .or .u32 (bits .or .u32 (bits .or .u32 (n % 4294967296 / 1048576 * 2147483648 % 4294967296) (bits .and .u32 (n % 4294967296 / 2) 1023 * 2097152 % 4294967296)) (bits .and .u32 (n % 4294967296 / 2048) 1 * 1048576 % 4294967296)) (bits .and .u32 (n % 4294967296 / 4096) 255 * 4096 % 4294967296))) = some ⟨3, 0, 0, 0, 0, n, 0, false, false⟩ := by
  have e : bits .or .u32 111 (bits .or .u32 (bits .or .u32 (bits .or .u32 (n % 4294967296 / 1048576 * 2147483648 % 4294967296) (bits .and .u32 (n % 4294967296 / 2) 1023 * 2097152 % 4294967296)) (bits .and .u32 (n % 4294967296 / 2048) 1 * 1048576 % 4294967296)) (bits .and .u32 (n % 4294967296 / 4096) 255 * 4096 % 4294967296)) = 111 + (n / 1048576 % 2 * 2147483648 + n / 2 % 1024 * 2097152 + n / 2048 % 2 * 1048576 + n / 4096 % 256 * 4096) := by
    rw [and32 10 1024 1023 (by decide) (by omega) (by omega) (n % 4294967296 / 2) (by omega) (by omega), and32 1 2 1 (by decide) (by omega) (by omega) (n % 4294967296 / 2048) (by omega) (by omega), and32 8 256 255 (by decide) (by omega) (by omega) (n % 4294967296 / 4096) (by omega) (by omega)]
    have e0 : n % 4294967296 / 1048576 * 2147483648 % 4294967296 = n / 1048576 % 2 * 2147483648 := by omega
    have e1 : n % 4294967296 / 2 % 1024 * 2097152 % 4294967296 = n / 2 % 1024 * 2097152 := by omega
    have e2 : n % 4294967296 / 2048 % 2 * 1048576 % 4294967296 = n / 2048 % 2 * 1048576 := by omega
    have e3 : n % 4294967296 / 4096 % 256 * 4096 % 4294967296 = n / 4096 % 256 * 4096 := by omega
    rw [e0, e1, e2, e3]
    rw [or32 31 2147483648 (by decide) (by omega) _ (n / 2 % 1024 * 2097152) (by omega) (by omega) (by omega) (by omega) (by omega)]
    rw [or32 21 2097152 (by decide) (by omega) _ (n / 2048 % 2 * 1048576) (by omega) (by omega) (by omega) (by omega) (by omega)]
    rw [or32 20 1048576 (by decide) (by omega) _ (n / 4096 % 256 * 4096) (by omega) (by omega) (by omega) (by omega) (by omega)]
    rw [or32' 7 128 (by decide) (by omega) _ _ (by omega) (by omega) (by omega) (by omega) (by omega)]
  rw [e]
  obtain ⟨p0, h0⟩ : ∃ p, n / 1048576 % 2 = p := ⟨_, rfl⟩
  obtain ⟨p1, h1⟩ : ∃ p, n / 2 % 1024 = p := ⟨_, rfl⟩
  obtain ⟨p2, h2⟩ : ∃ p, n / 2048 % 2 = p := ⟨_, rfl⟩
  obtain ⟨p3, h3⟩ : ∃ p, n / 4096 % 256 = p := ⟨_, rfl⟩
  have g0 : 0 ≤ p0 ∧ p0 < 2 := by omega
  have g1 : 0 ≤ p1 ∧ p1 < 1024 := by omega
  have g2 : 0 ≤ p2 ∧ p2 < 2 := by omega
  have g3 : 0 ≤ p3 ∧ p3 < 256 := by omega
  have hn : n = -1048576 * p0 + 2 * p1 + 2048 * p2 + 4096 * p3 := by omega
  rw [h0, h1, h2, h3]
  clear e h0 h1 h2 h3
  obtain ⟨X, hX⟩ : ∃ X, 111 + (p0 * 2147483648 + p1 * 2097152 + p2 * 1048576 + p3 * 4096) = X := ⟨_, rfl⟩
  rw [hX]
  have o : fl X 1 128 = 111 := by unfold fl; omega
  have qb : X / 128 = p0 * 16777216 + p1 * 16384 + p2 * 8192 + p3 * 32 := by omega
  have b : fl X 128 32 = 0 := by unfold fl; rw [qb]; omega
  have f1 : fl X 2147483648 2 = p0 := by unfold fl; have q : X / 2147483648 = p0 := (by omega); rw [q]; omega
  have f2 : fl X 4096 256 = p3 := by unfold fl; have q : X / 4096 = p0 * 524288 + p1 * 512 + p2 * 256 + p3 := (by omega); rw [q]; omega
  have f3 : fl X 1048576 2 = p2 := by unfold fl; have q : X / 1048576 = p0 * 2048 + p1 * 2 + p2 := (by omega); rw [q]; omega
  have f4 : fl X 2097152 1024 = p1 := by unfold fl; have q : X / 2097152 = p0 * 1024 + p1 := (by omega); rw [q]; omega
  have i : iJ X = n := by unfold iJ; rw [f1, f2, f3, f4]; unfold sgn; split <;> omega
  refine ⟨by omega, ?_⟩
  simp [spec, spJal, o, i, b]
/-- A number's word is in its place, and is that instruction. -/
theorem wU_p (n : Int) (l : -2147483648 ≤ n) (u : n < 2147483648) (ev : n % 4096 = 0) : (0 ≤ bits .or .u32 55 (n % 4294967296) ∧ bits .or .u32 55 (n % 4294967296) < 4294967296) ∧ spec (bits .or .u32 55 (n % 4294967296)) = some ⟨1, 0, 0, 0, 0, n, 0, false, false⟩ := by
  have e : bits .or .u32 55 (n % 4294967296) = 55 + n % 4294967296 := by
    rw [or32' 12 4096 (by decide) (by omega) _ _ (by omega) (by omega) (by omega) (by omega) (by omega)]
  rw [e]
  obtain ⟨X, hX⟩ : ∃ X, 55 + n % 4294967296 = X := ⟨_, rfl⟩
  rw [hX]
  have o : fl X 1 128 = 55 := by unfold fl; omega
  have b : fl X 128 32 = 0 := by unfold fl; omega
  have i : iU X = n := by unfold iU sgn fl; split <;> omega
  refine ⟨by omega, ?_⟩
  simp [spec, spUpper, o, i, b]
end Go.Proofs.Ytiefemcpagdiaaa
