/-
  The plain mathematics of layer 7 (base): bits of a word as numbers, signs, bits laid beside one another. No condition; nothing of a program.
-/
import Derived.WalkKit
import Derived.Laws.BitsLemmas
import Derived.Laws.Bits64b
namespace Go.Proofs.YtlfeandnpflaaaaDoor
open Go.RowKit
set_option linter.unusedVariables false
set_option linter.unusedSimpArgs false

/-- Bits of a word: p = 2 ^ the lowest, m = 2 ^ their count. -/
def fl (x p m : Int) : Int := x / p % m
theorem fl_bd (x p m : Int) (h : 0 < m) : 0 ≤ fl x p m ∧ fl x p m < m := ⟨Int.emod_nonneg _ (by omega), Int.emod_lt_of_pos _ h⟩
/-- A number of bits (n = 2 ^ their count) with its sign. -/
def sgn (n v : Int) : Int := if n ≤ 2 * v then v - n else v
theorem sgn_bd (n v : Int) (h0 : 0 ≤ v) (h1 : v < n) : -n ≤ 2 * sgn n v ∧ 2 * sgn n v < n := by unfold sgn; split <;> omega
theorem and_i (k : Nat) (hk : k ≤ 62) (x : Int) (h0 : 0 ≤ x) (h1 : x < 9223372036854775808) : bits .and .i64 x (2 ^ k - 1) = x % 2 ^ k :=
  bits_mask .i64 63 (by decide) (fun n h0 h1 => by rw [IntKind.wrap_i64]; omega) k (by omega) x h0 (by omega)
/-- Bits laid below a number that has noughts there. -/
theorem or_hi (k : Nat) (hk : k ≤ 40) (x y : Int) (hx : x % 2 ^ k = 0) (x0 : -4611686018427387904 ≤ x) (x1 : x < 4611686018427387904) (y0 : 0 ≤ y) (y1 : y < 2 ^ k) : bits .or .i64 x y = x + y := by
  have hp : (0 : Int) < 2 ^ k := Int.pow_pos (by omega)
  have hle : (2 : Int) ^ k ≤ 2 ^ 40 := by
    have h2 : 2 ^ k ≤ 2 ^ 40 := Nat.pow_le_pow_right (by omega) hk
    have h3 : (((2 ^ k : Nat)) : Int) ≤ ((2 ^ 40 : Nat) : Int) := by omega
    simpa using h3
  obtain ⟨q, hq⟩ : ∃ q, x = 2 ^ k * q := ⟨x / 2 ^ k, by have := Int.mul_ediv_add_emod x (2 ^ k); omega⟩
  have h64 : (2 : Int) ^ 64 = 2 ^ k * 2 ^ (64 - k) := by rw [← Int.pow_add]; congr 1; omega
  have hm : x % 2 ^ 64 = 2 ^ k * (q % 2 ^ (64 - k)) := by rw [h64, hq, Int.mul_emod_mul_of_pos _ _ hp]
  have hq0 : 0 ≤ q % 2 ^ (64 - k) := Int.emod_nonneg _ (Int.ne_of_gt (Int.pow_pos (by omega)))
  obtain ⟨a, ha⟩ := Int.eq_ofNat_of_zero_le hq0
  obtain ⟨b, rfl⟩ := Int.eq_ofNat_of_zero_le y0
  have hb : b < 2 ^ k := by
    have h2 : ((b : Nat) : Int) < ((2 ^ k : Nat) : Int) := by simpa using y1
    exact Int.ofNat_lt.mp h2
  have e1 : (BitVec.ofInt 64 x).toNat = 2 ^ k * a := by
    rw [BitVec.toNat_ofInt]
    have : x % ((2 ^ 64 : Nat) : Int) = ((2 ^ k * a : Nat) : Int) := by
      have h5 : ((2 ^ 64 : Nat) : Int) = 2 ^ 64 := by simp
      rw [h5, hm, ha]; simp
    rw [this]; exact Int.toNat_natCast _
  have hb2 : b < 2 ^ 64 := by
    have : (2 : Int) ^ 40 = 1099511627776 := by decide
    omega
  have e2 : (BitVec.ofInt 64 (b : Int)).toNat = b := by
    rw [BitVec.ofInt_natCast, BitVec.toNat_ofNat]; exact Nat.mod_eq_of_lt hb2
  show IntKind.i64.wrap ((BitVec.ofInt 64 x ||| BitVec.ofInt 64 (b : Int)).toNat : Int) = _
  rw [BitVec.toNat_or, e1, e2, ← Nat.two_pow_add_eq_or_of_lt hb a, IntKind.wrap_i64]
  have e3 : ((2 ^ k * a + b : Nat) : Int) = x % 2 ^ 64 + b := by rw [hm, ha]; simp
  rw [e3]
  have e4 : (2 : Int) ^ 64 = 18446744073709551616 := by decide
  have e5 : (2 : Int) ^ 40 = 1099511627776 := by decide
  rw [e4]
  omega
theorem or_p (k : Nat) (p : Int) (hp : (2 : Int) ^ k = p) (hk : k ≤ 40) (x y : Int) (hx : x % p = 0) (x0 : -4611686018427387904 ≤ x) (x1 : x < 4611686018427387904) (y0 : 0 ≤ y) (y1 : y < p) : bits .or .i64 x y = x + y := by
  subst hp; exact or_hi k hk x y hx x0 x1 y0 y1
theorem and_p (k : Nat) (m n : Int) (hm : (2 : Int) ^ k = m) (hn : n + 1 = m) (hk : k ≤ 62) (x : Int) (h0 : 0 ≤ x) (h1 : x < 9223372036854775808) : bits .and .i64 x n = x % m := by
  have e : n = 2 ^ k - 1 := by omega
  subst hm e; exact and_i k hk x h0 h1
/-- The numbers in a word. -/
def iI (x : Int) : Int := sgn 4096 (fl x 1048576 4096)
def iS (x : Int) : Int := sgn 4096 (fl x 33554432 128 * 32 + fl x 128 32)
def iB (x : Int) : Int := sgn 8192 (fl x 2147483648 2 * 4096 + fl x 128 2 * 2048 + fl x 33554432 64 * 32 + fl x 256 16 * 2)
def iJ (x : Int) : Int := sgn 2097152 (fl x 2147483648 2 * 1048576 + fl x 4096 256 * 4096 + fl x 1048576 2 * 2048 + fl x 2097152 1024 * 2)
def iU (x : Int) : Int := sgn 1048576 (fl x 4096 1048576) * 4096
theorem fl_lt (x p m : Int) (h : 0 < m) : fl x p m < m := (fl_bd x p m h).2
theorem fl_ge (x p m : Int) (h : 0 < m) : 0 ≤ fl x p m := (fl_bd x p m h).1
theorem iI_bd (x : Int) : -2048 ≤ iI x ∧ iI x < 2048 := by
  have := sgn_bd 4096 (fl x 1048576 4096) (fl_ge _ _ _ (by omega)) (fl_lt _ _ _ (by omega))
  unfold iI; omega
theorem iS_bd (x : Int) : -2048 ≤ iS x ∧ iS x < 2048 := by
  have h1 := fl_bd x 33554432 128 (by omega)
  have h2 := fl_bd x 128 32 (by omega)
  have := sgn_bd 4096 (fl x 33554432 128 * 32 + fl x 128 32) (by omega) (by omega)
  unfold iS; omega
theorem iB_bd (x : Int) : -4096 ≤ iB x ∧ iB x < 4096 := by
  have h1 := fl_bd x 2147483648 2 (by omega)
  have h2 := fl_bd x 128 2 (by omega)
  have h3 := fl_bd x 33554432 64 (by omega)
  have h4 := fl_bd x 256 16 (by omega)
  have := sgn_bd 8192 (fl x 2147483648 2 * 4096 + fl x 128 2 * 2048 + fl x 33554432 64 * 32 + fl x 256 16 * 2) (by omega) (by omega)
  unfold iB; omega
theorem iJ_bd (x : Int) : -1048576 ≤ iJ x ∧ iJ x < 1048576 := by
  have h1 := fl_bd x 2147483648 2 (by omega)
  have h2 := fl_bd x 4096 256 (by omega)
  have h3 := fl_bd x 1048576 2 (by omega)
  have h4 := fl_bd x 2097152 1024 (by omega)
  have := sgn_bd 2097152 (fl x 2147483648 2 * 1048576 + fl x 4096 256 * 4096 + fl x 1048576 2 * 2048 + fl x 2097152 1024 * 2) (by omega) (by omega)
  unfold iJ; omega
theorem iU_bd (x : Int) : -2147483648 ≤ iU x ∧ iU x < 2147483648 ∧ iU x % 4096 = 0 := by
  have h1 := fl_bd x 4096 1048576 (by omega)
  have := sgn_bd 1048576 (fl x 4096 1048576) (by omega) (by omega)
  unfold iU; omega
theorem iB_ev (x : Int) : iB x % 2 = 0 := by unfold iB sgn; split <;> omega
theorem iJ_ev (x : Int) : iJ x % 2 = 0 := by unfold iJ sgn; split <;> omega
theorem wrap32_of (x : Int) (x0 : 0 ≤ x) (x1 : x < 4294967296) : wrap32 x = if 2147483648 ≤ x then x - 4294967296 else x := by
  unfold wrap32; split <;> omega
theorem iS_eq (x : Int) (x0 : 0 ≤ x) (x1 : x < 4294967296) : bits .or .i64 (wrap64 (wrap64 (wrap32 x / 33554432) * 32)) (x * 1048576 % 4294967296 / 134217728) = iS x := by
  have e0 : wrap64 (wrap64 (wrap32 x / 33554432) * 32) = sgn 128 (fl x 33554432 128) * 32 := by
    rw [wrap32_of x x0 x1]; unfold sgn fl wrap64
    split <;> split <;> omega
  have e1 : x * 1048576 % 4294967296 / 134217728 = fl x 128 32 := by unfold fl; omega
  rw [e0, e1]
  have h1 := fl_bd x 33554432 128 (by omega)
  have h2 := fl_bd x 128 32 (by omega)
  have h3 := sgn_bd 128 (fl x 33554432 128) (by omega) (by omega)
  rw [or_p 5 32 (by decide) (by omega) _ _ (by omega) (by omega) (by omega) (by omega) (by omega)]
  unfold iS sgn; split <;> split <;> omega
theorem iI_eq (x : Int) (x0 : 0 ≤ x) (x1 : x < 4294967296) : wrap64 (wrap32 x / 1048576) = iI x := by
  unfold iI sgn fl wrap64 wrap32; split <;> omega
theorem iU_eq (x : Int) (x0 : 0 ≤ x) (x1 : x < 4294967296) : wrap64 (wrap64 (wrap32 x / 4096) * 4096) = iU x := by
  unfold iU sgn fl wrap64 wrap32; split <;> omega
theorem iB_eq (x : Int) (x0 : 0 ≤ x) (x1 : x < 4294967296) : bits .or .i64 (bits .or .i64 (bits .or .i64 (wrap64 (wrap64 (wrap32 x / 2147483648) * 4096)) (x * 16777216 % 4294967296 / 2147483648 * 2048)) (x * 2 % 4294967296 / 67108864 * 32)) (x * 1048576 % 4294967296 / 268435456 * 2) = iB x := by
  have e0 : wrap64 (wrap64 (wrap32 x / 2147483648) * 4096) = fl x 2147483648 2 * (-4096) := by unfold fl wrap64 wrap32; omega
  have e1 : x * 16777216 % 4294967296 / 2147483648 * 2048 = fl x 128 2 * 2048 := by unfold fl; omega
  have e2 : x * 2 % 4294967296 / 67108864 * 32 = fl x 33554432 64 * 32 := by unfold fl; omega
  have e3 : x * 1048576 % 4294967296 / 268435456 * 2 = fl x 256 16 * 2 := by unfold fl; omega
  rw [e0, e1, e2, e3]
  have h1 := fl_bd x 2147483648 2 (by omega)
  have h2 := fl_bd x 128 2 (by omega)
  have h3 := fl_bd x 33554432 64 (by omega)
  have h4 := fl_bd x 256 16 (by omega)
  rw [or_p 12 4096 (by decide) (by omega) _ (fl x 128 2 * 2048) (by omega) (by omega) (by omega) (by omega) (by omega)]
  rw [or_p 11 2048 (by decide) (by omega) _ (fl x 33554432 64 * 32) (by omega) (by omega) (by omega) (by omega) (by omega)]
  rw [or_p 5 32 (by decide) (by omega) _ (fl x 256 16 * 2) (by omega) (by omega) (by omega) (by omega) (by omega)]
  unfold iB sgn; split <;> omega
theorem iJ_eq (x : Int) (x0 : 0 ≤ x) (x1 : x < 4294967296) : bits .or .i64 (bits .or .i64 (bits .or .i64 (wrap64 (wrap64 (wrap32 x / 2147483648) * 1048576)) (x * 4096 % 4294967296 / 16777216 * 4096)) (x * 2048 % 4294967296 / 2147483648 * 2048)) (x * 2 % 4294967296 / 4194304 * 2) = iJ x := by
  have e0 : wrap64 (wrap64 (wrap32 x / 2147483648) * 1048576) = fl x 2147483648 2 * (-1048576) := by unfold fl wrap64 wrap32; omega
  have e1 : x * 4096 % 4294967296 / 16777216 * 4096 = fl x 4096 256 * 4096 := by unfold fl; omega
  have e2 : x * 2048 % 4294967296 / 2147483648 * 2048 = fl x 1048576 2 * 2048 := by unfold fl; omega
  have e3 : x * 2 % 4294967296 / 4194304 * 2 = fl x 2097152 1024 * 2 := by unfold fl; omega
  rw [e0, e1, e2, e3]
  have h1 := fl_bd x 2147483648 2 (by omega)
  have h2 := fl_bd x 4096 256 (by omega)
  have h3 := fl_bd x 1048576 2 (by omega)
  have h4 := fl_bd x 2097152 1024 (by omega)
  rw [or_p 20 1048576 (by decide) (by omega) _ (fl x 4096 256 * 4096) (by omega) (by omega) (by omega) (by omega) (by omega)]
  rw [or_p 12 4096 (by decide) (by omega) _ (fl x 1048576 2 * 2048) (by omega) (by omega) (by omega) (by omega) (by omega)]
  rw [or_p 11 2048 (by decide) (by omega) _ (fl x 2097152 1024 * 2) (by omega) (by omega) (by omega) (by omega) (by omega)]
  unfold iJ sgn; split <;> omega
end Go.Proofs.YtlfeandnpflaaaaDoor
