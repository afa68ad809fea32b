/-
  The plain mathematics of the document's answer for layer 1: numbers built bit by bit are what the plain functions of WMath say. No condition; nothing of a program.
-/
import Derived.Test.YtglhfdamgblhdaaDoorWMath
namespace Go.Proofs.YtglhfdamgblhdaaDoor
open Go.RowKit
set_option linter.unusedVariables false
set_option linter.unusedSimpArgs false

def bitV (a i : Int) : Int := a / 2 ^ i.toNat % 2
theorem bitV_bd (a i : Int) : 0 ≤ bitV a i ∧ bitV a i < 2 := by unfold bitV; omega
theorem bitV_nat (a : Int) (k : Nat) : bitV a (k : Int) = a / 2 ^ k % 2 := by unfold bitV; simp
theorem p2 (k : Nat) : (2 : Int) ^ k = ((2 ^ k : Nat) : Int) := (Int.natCast_pow 2 k).symm
theorem p2_mono (k n : Nat) (h : k ≤ n) : (2 : Int) ^ k ≤ 2 ^ n := by
  rw [p2, p2]; exact Int.ofNat_le.mpr (Nat.pow_le_pow_right (by omega) h)
theorem p2_succ (k : Nat) : (2 : Int) ^ (k + 1) = 2 ^ k * 2 := Int.pow_succ 2 k
theorem zero_one {b : Int} (h : 0 ≤ b ∧ b < 2) : b = 0 ∨ b = 1 := by omega

theorem or_add (x b : Int) (k : Nat) (hx0 : 0 ≤ x) (hx : x < 2 ^ k) (hb : 0 ≤ b ∧ b < 2) (hk : k < 64) :
    bits .or .u64 x (IntKind.u64.wrap (b * 2 ^ k)) = x + b * 2 ^ k := by
  have hp := p2_mono k 63 (by omega)
  have e63 : (2 : Int) ^ 63 = 9223372036854775808 := by decide
  have pp := pow_pos' k
  obtain ⟨n, rfl⟩ := Int.eq_ofNat_of_zero_le hx0
  have hn : n < 2 ^ k := by rw [p2] at hx; exact Int.ofNat_lt.mp hx
  rcases zero_one hb with rfl | rfl
  · have e : IntKind.u64.wrap (0 * 2 ^ k) = ((0 : Nat) : Int) := by rw [IntKind.wrap_u64, Int.zero_mul]; rfl
    rw [e, bits_or_u64_nat n 0 (by omega) (by omega)]
    simp
  · have e : IntKind.u64.wrap (1 * 2 ^ k) = ((2 ^ k : Nat) : Int) := by rw [IntKind.wrap_u64, Int.one_mul, Int.emod_eq_of_lt (by omega) (by omega), p2]
    have h2 : 2 ^ k < 18446744073709551616 := by have := p2 k; omega
    rw [e, bits_or_u64_nat n _ (by omega) h2]
    have h := Nat.two_pow_add_eq_or_of_lt hn 1
    rw [Nat.mul_one] at h
    rw [Nat.or_comm, ← h, p2]
    omega
theorem mod_bd (a : Int) (k : Nat) : 0 ≤ a % 2 ^ k ∧ a % 2 ^ k < 2 ^ k := by
  have := pow_pos' k
  exact ⟨Int.emod_nonneg _ (by omega), Int.emod_lt_of_pos _ this⟩
theorem low_step (a : Int) (h0 : 0 ≤ a) (k : Nat) : a % 2 ^ (k + 1) = a % 2 ^ k + bitV a (k : Int) * 2 ^ k := by
  obtain ⟨n, rfl⟩ := Int.eq_ofNat_of_zero_le h0
  rw [bitV_nat, p2, p2]
  have h : n % 2 ^ (k + 1) = n % 2 ^ k + 2 ^ k * (n / 2 ^ k % 2) := Nat.mod_pow_succ
  have e1 : ((n : Int) % ((2 ^ (k + 1) : Nat) : Int)) = ((n % 2 ^ (k + 1) : Nat) : Int) := by simp
  have e2 : ((n : Int) % ((2 ^ k : Nat) : Int)) = ((n % 2 ^ k : Nat) : Int) := by simp
  have e3 : ((n : Int) / ((2 ^ k : Nat) : Int) % 2) = ((n / 2 ^ k % 2 : Nat) : Int) := by simp
  rw [e1, e2, e3, h, Int.natCast_add, Int.natCast_mul, Int.mul_comm]

def upV (a : Int) (n k : Nat) : Int := if k ≤ n then a % 2 ^ k else a % 2 ^ n + bitV a ((n - 1 : Nat) : Int) * (2 ^ k - 2 ^ n)
theorem upV_bd (a : Int) (n k : Nat) : 0 ≤ upV a n k ∧ upV a n k < 2 ^ k := by
  unfold upV; split
  · exact mod_bd a k
  · have m := mod_bd a n; have q := p2_mono n k (by omega)
    rcases zero_one (bitV_bd a ((n - 1 : Nat) : Int)) with e | e <;> rw [e] <;> omega
theorem up_step (a : Int) (h0 : 0 ≤ a) (n k : Nat) (hn : 1 ≤ n) :
    upV a n (k + 1) = upV a n k + bitV a (if (n : Int) - 1 < (k : Int) then (n : Int) - 1 else (k : Int)) * 2 ^ k := by
  by_cases h : k < n
  · rw [if_neg (by omega)]; unfold upV; rw [if_pos (by omega), if_pos (by omega)]; exact low_step a h0 k
  · have e : (if (n : Int) - 1 < (k : Int) then (n : Int) - 1 else (k : Int)) = ((n - 1 : Nat) : Int) := by split <;> omega
    rw [e]; unfold upV; rw [if_neg (by omega), p2_succ]
    by_cases hk : k ≤ n
    · obtain rfl : k = n := by omega
      rw [if_pos hk]
      rcases zero_one (bitV_bd a ((k - 1 : Nat) : Int)) with e | e <;> rw [e] <;> omega
    · rw [if_neg hk]
      rcases zero_one (bitV_bd a ((n - 1 : Nat) : Int)) with e | e <;> rw [e] <;> omega
theorem up_8 (a : Int) : upV a 8 64 = sx 256 a := by
  unfold upV sx; rw [if_neg (by omega), bitV_nat]; simp
  split <;> omega
theorem up_16 (a : Int) : upV a 16 64 = sx 65536 a := by
  unfold upV sx; rw [if_neg (by omega), bitV_nat]; simp
  split <;> omega
theorem up_32 (a : Int) : upV a 32 64 = sx 4294967296 a := by
  unfold upV sx; rw [if_neg (by omega), bitV_nat]; simp
  split <;> omega

def downV (a : Int) (s W : Nat) (b : Int) (k : Nat) : Int := if k + s ≤ W then a / 2 ^ s % 2 ^ k else a / 2 ^ s % 2 ^ (W - s) + b * (2 ^ k - 2 ^ (W - s))
theorem downV_bd (a : Int) (s W : Nat) (b : Int) (k : Nat) (hb : 0 ≤ b ∧ b < 2) : 0 ≤ downV a s W b k ∧ downV a s W b k < 2 ^ k := by
  unfold downV; split
  · exact mod_bd _ k
  · have m := mod_bd (a / 2 ^ s) (W - s); have q := p2_mono (W - s) k (by omega)
    rcases zero_one hb with e | e <;> rw [e] <;> omega
theorem bit_shift (a : Int) (k s : Nat) : bitV (a / 2 ^ s) (k : Int) = bitV a ((k : Int) + (s : Int)) := by
  unfold bitV
  have e : ((k : Int) + (s : Int)).toNat = s + k := by omega
  rw [e, Int.ediv_ediv_of_nonneg (Int.le_of_lt (pow_pos' s)), ← Int.pow_add]; simp
theorem down_step1 (a : Int) (h0 : 0 ≤ a) (s W k : Nat) (b : Int) (h : k + s < W) : downV a s W b (k + 1) = downV a s W b k + bitV a ((k : Int) + (s : Int)) * 2 ^ k := by
  unfold downV; rw [if_pos (by omega), if_pos (by omega), ← bit_shift]
  exact low_step _ (div_bd a s h0).1 k
theorem down_step2 (a : Int) (s W k : Nat) (b : Int) (hb : 0 ≤ b ∧ b < 2) (hs : s ≤ W) (h : W ≤ k + s) : downV a s W b (k + 1) = downV a s W b k + b * 2 ^ k := by
  unfold downV; rw [if_neg (by omega), p2_succ]
  by_cases hk : k + s ≤ W
  · rw [if_pos hk]
    have e : W - s = k := by omega
    rw [e]
    rcases zero_one hb with e | e <;> rw [e] <;> omega
  · rw [if_neg hk]
    rcases zero_one hb with e | e <;> rw [e] <;> omega
theorem div_lt (a : Int) (s W : Nat) (h0 : 0 ≤ a) (h : a < 2 ^ W) (hs : s ≤ W) : a / 2 ^ s < 2 ^ (W - s) := by
  apply Int.ediv_lt_of_lt_mul (pow_pos' s)
  rw [← Int.pow_add, show W - s + s = W by omega]; exact h
theorem down_end (a : Int) (s W : Nat) (b : Int) (h0 : 0 ≤ a) (h : a < 2 ^ W) (hs : s ≤ W) : downV a s W b W = a / 2 ^ s + b * (2 ^ W - 2 ^ (W - s)) := by
  have d := div_bd a s h0
  have l := div_lt a s W h0 h hs
  unfold downV
  by_cases z : W + s ≤ W
  · obtain rfl : s = 0 := by omega
    rw [if_pos z]
    simp at l ⊢
    exact Int.emod_eq_of_lt h0 h
  · rw [if_neg z, Int.emod_eq_of_lt d.1 l]
/-- Shifted down with the highest bit coming in is shifted down with a sign. -/
theorem down_sra (a : Int) (s W : Nat) (h0 : 0 ≤ a) (h : a < 2 ^ W) (hs : s < W) :
    downV a s W (bitV a ((W : Int) - 1)) W = sraV (2 ^ W) a s := by
  rw [down_end a s W _ h0 h (by omega)]
  have e : bitV a ((W : Int) - 1) = a / 2 ^ (W - 1) % 2 := by unfold bitV; rw [show ((W : Int) - 1).toNat = W - 1 by omega]
  have pw : (2 : Int) ^ W = 2 ^ (W - 1) * 2 := by rw [← p2_succ, show W - 1 + 1 = W by omega]
  have pp := pow_pos' (W - 1)
  have ps := pow_pos' s
  have hh : (2 : Int) ^ W / 2 = 2 ^ (W - 1) := by rw [pw]; omega
  unfold sraV
  rw [hh]
  by_cases c : 2 ^ (W - 1) ≤ a
  · have q : a / 2 ^ (W - 1) = 1 := by
      apply Int.le_antisymm
      · have : a / 2 ^ (W - 1) < 2 := Int.ediv_lt_of_lt_mul pp (by omega)
        omega
      · exact Int.le_ediv_of_mul_le pp (by omega)
    rw [if_pos c, e, q]
    -- 2^W - 1 - a = 2^W - 2^s*.. : divide
    have ws : (2 : Int) ^ W = 2 ^ (W - s) * 2 ^ s := by rw [← Int.pow_add, show W - s + s = W by omega]
    have r := Int.mul_ediv_add_emod a (2 ^ s)
    have rb := Int.emod_lt_of_pos a ps
    have r0 := Int.emod_nonneg a (show (2 : Int) ^ s ≠ 0 by omega)
    have key : (2 ^ W - 1 - a) / 2 ^ s = 2 ^ (W - s) - 1 - a / 2 ^ s := by
      have hx : 2 ^ W - 1 - a = (2 ^ s - 1 - a % 2 ^ s) + 2 ^ s * (2 ^ (W - s) - 1 - a / 2 ^ s) := by
        have m : (2 : Int) ^ s * (2 ^ (W - s) - 1 - a / 2 ^ s) = 2 ^ (W - s) * 2 ^ s - 2 ^ s - 2 ^ s * (a / 2 ^ s) := by
          rw [Int.mul_sub, Int.mul_sub, Int.mul_one, Int.mul_comm (2 ^ s) (2 ^ (W - s))]
        rw [m, ← ws]; omega
      rw [hx, Int.add_mul_ediv_left _ _ (by omega), Int.ediv_eq_zero_of_lt (by omega) (by omega)]; omega
    rw [key]; omega
  · have q : a / 2 ^ (W - 1) = 0 := Int.ediv_eq_zero_of_lt h0 (by omega)
    rw [if_neg c, e, q]; omega

theorem nat_bit (n k : Nat) : bitV (n : Int) (k : Int) = ((n.testBit k).toNat : Int) := by
  rw [bitV_nat, p2, Nat.testBit_eq_decide_div_mod_eq]
  have : ((n : Int) / ((2 ^ k : Nat) : Int) % 2) = ((n / 2 ^ k % 2 : Nat) : Int) := by simp
  rw [this]
  rcases Nat.mod_two_eq_zero_or_one (n / 2 ^ k) with h | h <;> simp [h]
theorem bit_xor (a b : Int) (h0 : 0 ≤ a) (h1 : a < 18446744073709551616) (h2 : 0 ≤ b) (h3 : b < 18446744073709551616) (k : Nat) :
    bitV (bits .xor .u64 a b) (k : Int) = (if bitV a (k : Int) + bitV b (k : Int) = 1 then 1 else 0) := by
  obtain ⟨n, rfl⟩ := Int.eq_ofNat_of_zero_le h0
  obtain ⟨m, rfl⟩ := Int.eq_ofNat_of_zero_le h2
  rw [bits_xor_u64_nat n m (by omega) (by omega), nat_bit, nat_bit, nat_bit, Nat.testBit_xor]
  cases n.testBit k <;> cases m.testBit k <;> decide
theorem bit_or (a b : Int) (h0 : 0 ≤ a) (h1 : a < 18446744073709551616) (h2 : 0 ≤ b) (h3 : b < 18446744073709551616) (k : Nat) :
    bitV (bits .or .u64 a b) (k : Int) = (if 0 < bitV a (k : Int) + bitV b (k : Int) then 1 else 0) := by
  obtain ⟨n, rfl⟩ := Int.eq_ofNat_of_zero_le h0
  obtain ⟨m, rfl⟩ := Int.eq_ofNat_of_zero_le h2
  rw [bits_or_u64_nat n m (by omega) (by omega), nat_bit, nat_bit, nat_bit, Nat.testBit_or]
  cases n.testBit k <;> cases m.testBit k <;> decide
theorem bit_and (a b : Int) (h0 : 0 ≤ a) (h1 : a < 18446744073709551616) (h2 : 0 ≤ b) (h3 : b < 18446744073709551616) (k : Nat) :
    bitV (bits .and .u64 a b) (k : Int) = (if bitV a (k : Int) + bitV b (k : Int) = 2 then 1 else 0) := by
  obtain ⟨n, rfl⟩ := Int.eq_ofNat_of_zero_le h0
  obtain ⟨m, rfl⟩ := Int.eq_ofNat_of_zero_le h2
  rw [bits_and_u64_nat n m (by omega) (by omega), nat_bit, nat_bit, nat_bit, Nat.testBit_and]
  cases n.testBit k <;> cases m.testBit k <;> decide

/-- Alike above bit j, and at bit j 0 against 1. -/
theorem lt_of_bit (a b : Int) (j : Nat) (h : a / 2 ^ (j + 1) = b / 2 ^ (j + 1)) (ha : bitV a (j : Int) = 0) (hb : bitV b (j : Int) = 1) : a < b := by
  rw [bitV_nat] at ha hb
  have e : ∀ z : Int, z / 2 ^ (j + 1) = z / 2 ^ j / 2 := fun z => by rw [p2_succ, Int.ediv_ediv_of_nonneg (Int.le_of_lt (pow_pos' j))]
  rw [e, e] at h
  have l : a / 2 ^ j < b / 2 ^ j := by omega
  have pp := pow_pos' j
  have x := Int.mul_ediv_add_emod a (2 ^ j)
  have y := Int.mul_ediv_add_emod b (2 ^ j)
  have xb := Int.emod_lt_of_pos a pp
  have yb := Int.emod_nonneg b (show (2 : Int) ^ j ≠ 0 by omega)
  have m : (2 : Int) ^ j * (a / 2 ^ j + 1) ≤ 2 ^ j * (b / 2 ^ j) := Int.mul_le_mul_of_nonneg_left (by omega) (Int.le_of_lt pp)
  rw [Int.mul_add, Int.mul_one] at m
  omega
theorem same_bit (a b : Int) (j : Nat) (h : a / 2 ^ (j + 1) = b / 2 ^ (j + 1)) (hb : bitV a (j : Int) = bitV b (j : Int)) : a / 2 ^ j = b / 2 ^ j := by
  rw [bitV_nat, bitV_nat] at hb
  have e : ∀ z : Int, z / 2 ^ (j + 1) = z / 2 ^ j / 2 := fun z => by rw [p2_succ, Int.ediv_ediv_of_nonneg (Int.le_of_lt (pow_pos' j))]
  rw [e, e] at h
  omega
theorem top_same (a b : Int) (j : Nat) (hj : j ≤ 63) (h : a / 2 ^ j = b / 2 ^ j) : a / 9223372036854775808 = b / 9223372036854775808 := by
  have e : ∀ z : Int, z / 9223372036854775808 = z / 2 ^ j / 2 ^ (63 - j) := fun z => by
    rw [Int.ediv_ediv_of_nonneg (Int.le_of_lt (pow_pos' j)), ← Int.pow_add, show j + (63 - j) = 63 by omega]; rfl
  rw [e, e, h]
def lessV (s : Bool) (a b : Int) : Bool := if s then decide (sg a < sg b) else decide (a < b)
theorem less_at (s : Bool) (a b : Int) (j : Nat) (h0 : 0 ≤ a) (h1 : a < 18446744073709551616) (h2 : 0 ≤ b) (h3 : b < 18446744073709551616) (hj : j < 63)
    (h : a / 2 ^ (j + 1) = b / 2 ^ (j + 1)) (ha : bitV a (j : Int) = 0) (hb : bitV b (j : Int) = 1) : lessV s a b = true ∧ lessV s b a = false := by
  have l := lt_of_bit a b j h ha hb
  have t := top_same a b (j + 1) (by omega) h
  cases s <;> simp [lessV]
  · omega
  · unfold sg; split <;> split <;> omega
theorem less_top (a b : Int) (h0 : 0 ≤ a) (h1 : a < 18446744073709551616) (h2 : 0 ≤ b) (h3 : b < 18446744073709551616)
    (ha : bitV a 63 = 0) (hb : bitV b 63 = 1) : lessV false a b = true ∧ lessV false b a = false ∧ lessV true a b = false ∧ lessV true b a = true := by
  have e : ((63 : Int).toNat) = 63 := rfl
  unfold bitV at ha hb
  rw [e] at ha hb
  have p : (2 : Int) ^ 63 = 9223372036854775808 := by decide
  rw [p] at ha hb
  simp [lessV]
  unfold sg
  repeat' split
  all_goals omega
theorem less_top' (a b : Int) (j : Nat) (hj : j = 63) (h0 : 0 ≤ a) (h1 : a < 18446744073709551616) (h2 : 0 ≤ b) (h3 : b < 18446744073709551616)
    (ha : bitV a (j : Int) = 0) (hb : bitV b (j : Int) = 1) : lessV false a b = true ∧ lessV false b a = false ∧ lessV true a b = false ∧ lessV true b a = true := by
  subst hj; exact less_top a b h0 h1 h2 h3 ha hb
theorem less_same (s : Bool) (a : Int) : lessV s a a = false := by cases s <;> simp [lessV]
end Go.Proofs.YtglhfdamgblhdaaDoor
