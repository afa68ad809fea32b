/-
  The plain mathematics of masks: numbers that agree in a field, or outside of it, agree under its mask, turned by the null's bits or not. No condition; nothing of a program.
-/
import Derived.Test.YtmakfbpflfdkkaaEMath
namespace Go.Proofs.Ytmakfbpflfdkkaa
open Go.RowKit
set_option linter.unusedVariables false
set_option linter.unusedSimpArgs false

theorem mask_bit (lo n i : Nat) : (2 ^ (lo + n) - 2 ^ lo).testBit i = (decide (lo ≤ i) && decide (i < lo + n)) := by
  have e : 2 ^ (lo + n) - 2 ^ lo = 2 ^ lo * (2 ^ n - 1) := by rw [Nat.pow_add, Nat.mul_sub, Nat.mul_one]
  rw [e, Nat.testBit_two_pow_mul, Nat.testBit_two_pow_sub_one, Bool.eq_iff_iff]
  simp only [Bool.and_eq_true, decide_eq_true_eq, ge_iff_le]
  omega
theorem agree_out (lo n p q : Nat) (h1 : p % 2 ^ lo = q % 2 ^ lo) (h2 : p / 2 ^ (lo + n) = q / 2 ^ (lo + n)) (i : Nat) (hm : (2 ^ (lo + n) - 2 ^ lo).testBit i = false) : p.testBit i = q.testBit i := by
  rw [mask_bit] at hm
  rcases Nat.lt_or_ge i lo with h | h
  · have a := Nat.testBit_mod_two_pow p lo i
    have b := Nat.testBit_mod_two_pow q lo i
    rw [h1, b] at a
    simp only [h, decide_true, Bool.true_and] at a
    exact a.symm
  · rcases Nat.lt_or_ge i (lo + n) with h3 | h3
    · simp [h, h3] at hm
    · have a := Nat.testBit_div_two_pow (n := lo + n) p (i - (lo + n))
      have b := Nat.testBit_div_two_pow (n := lo + n) q (i - (lo + n))
      rw [h2, b, show i - (lo + n) + (lo + n) = i by omega] at a
      exact a.symm
theorem agree_in (lo n p q : Nat) (h : p / 2 ^ lo % 2 ^ n = q / 2 ^ lo % 2 ^ n) (i : Nat) (hm : (2 ^ (lo + n) - 2 ^ lo).testBit i = true) : p.testBit i = q.testBit i := by
  rw [mask_bit] at hm
  simp only [Bool.and_eq_true, decide_eq_true_eq] at hm
  have a := Nat.testBit_mod_two_pow (p / 2 ^ lo) n (i - lo)
  have b := Nat.testBit_mod_two_pow (q / 2 ^ lo) n (i - lo)
  rw [h, b] at a
  simp only [show i - lo < n by omega, decide_true, Bool.true_and, Nat.testBit_div_two_pow] at a
  rw [show i - lo + lo = i by omega] at a
  exact a.symm
theorem andNot_congr (a b m : Nat) (h : ∀ i, m.testBit i = false → a.testBit i = b.testBit i) : bits .andNot .u64 (a : Int) (m : Int) = bits .andNot .u64 (b : Int) (m : Int) := by
  show IntKind.u64.wrap ((BitVec.ofInt 64 (a : Int) &&& ~~~ BitVec.ofInt 64 (m : Int)).toNat : Int) = IntKind.u64.wrap ((BitVec.ofInt 64 (b : Int) &&& ~~~ BitVec.ofInt 64 (m : Int)).toNat : Int)
  have e : BitVec.ofInt 64 (a : Int) &&& ~~~ BitVec.ofInt 64 (m : Int) = BitVec.ofInt 64 (b : Int) &&& ~~~ BitVec.ofInt 64 (m : Int) := by
    apply BitVec.eq_of_getLsbD_eq
    intro i hi
    simp only [BitVec.ofInt_natCast, BitVec.getLsbD_and, BitVec.getLsbD_not, BitVec.getLsbD_ofNat, hi, decide_true, Bool.true_and]
    cases hm : m.testBit i
    · rw [h i hm]
    · simp
  rw [e]
theorem and_congr' (a b m : Nat) (h : ∀ i, m.testBit i = true → a.testBit i = b.testBit i) : bits .and .u64 (a : Int) (m : Int) = bits .and .u64 (b : Int) (m : Int) := by
  show IntKind.u64.wrap ((BitVec.ofInt 64 (a : Int) &&& BitVec.ofInt 64 (m : Int)).toNat : Int) = IntKind.u64.wrap ((BitVec.ofInt 64 (b : Int) &&& BitVec.ofInt 64 (m : Int)).toNat : Int)
  have e : BitVec.ofInt 64 (a : Int) &&& BitVec.ofInt 64 (m : Int) = BitVec.ofInt 64 (b : Int) &&& BitVec.ofInt 64 (m : Int) := by
    apply BitVec.eq_of_getLsbD_eq
    intro i hi
    simp only [BitVec.ofInt_natCast, BitVec.getLsbD_and, BitVec.getLsbD_ofNat, hi, decide_true, Bool.true_and]
    cases hm : m.testBit i
    · simp
    · rw [h i hm]
  rw [e]
theorem and_out (a m : Nat) (ha : a < 18446744073709551616) (hm : m < 18446744073709551616) : bits .andNot .u64 (bits .and .u64 (a : Int) (m : Int)) (m : Int) = 0 := by
  rw [bits_and_u64_nat a m ha hm]
  show IntKind.u64.wrap ((BitVec.ofInt 64 ((a &&& m : Nat) : Int) &&& ~~~ BitVec.ofInt 64 (m : Int)).toNat : Int) = 0
  have e : BitVec.ofInt 64 ((a &&& m : Nat) : Int) &&& ~~~ BitVec.ofInt 64 (m : Int) = 0#64 := by
    apply BitVec.eq_of_getLsbD_eq
    intro i hi
    simp only [BitVec.ofInt_natCast, BitVec.getLsbD_and, BitVec.getLsbD_not, BitVec.getLsbD_ofNat, hi, decide_true, Bool.true_and, Nat.testBit_and]
    cases m.testBit i <;> simp
  rw [e]; decide
theorem or_none (a : Int) (h0 : 0 ≤ a) (h1 : a < 18446744073709551616) : bits .or .u64 a 0 = a := by
  obtain ⟨n, rfl⟩ := Int.eq_ofNat_of_zero_le h0
  have h := bits_or_u64_nat n 0 (by omega) (by omega)
  simpa using h
/-- Who turns one field alone turns no bit of others', and his number has the other's field. -/
theorem field_masks (lo n : Nat) (m P Q O : Int) (hm : m = ((2 ^ (lo + n) - 2 ^ lo : Nat) : Int)) (hm1 : m < 18446744073709551616) (P0 : 0 ≤ P) (P1 : P < 4611686018427387904) (Q0 : 0 ≤ Q) (Q1 : Q < 4611686018427387904) (O0 : 0 ≤ O) (O1 : O < 4611686018427387904)
    (h1 : P % ((2 ^ lo : Nat) : Int) = Q % ((2 ^ lo : Nat) : Int)) (h2 : P / ((2 ^ (lo + n) : Nat) : Int) = Q / ((2 ^ (lo + n) : Nat) : Int)) (h3 : Q / ((2 ^ lo : Nat) : Int) % ((2 ^ n : Nat) : Int) = O / ((2 ^ lo : Nat) : Int) % ((2 ^ n : Nat) : Int)) :
    (bits .andNot .u64 (xk P) m == bits .andNot .u64 (xk Q) m) = true ∧ (bits .and .u64 (xk Q) m == bits .or .u64 (bits .and .u64 (xk O) m) (bits .andNot .u64 (bits .and .u64 (xk P) m) m)) = true := by
  obtain ⟨p, rfl⟩ := Int.eq_ofNat_of_zero_le P0
  obtain ⟨q, rfl⟩ := Int.eq_ofNat_of_zero_le Q0
  obtain ⟨o, rfl⟩ := Int.eq_ofNat_of_zero_le O0
  have g1 : p % 2 ^ lo = q % 2 ^ lo := by exact_mod_cast h1
  have g2 : p / 2 ^ (lo + n) = q / 2 ^ (lo + n) := by exact_mod_cast h2
  have g3 : q / 2 ^ lo % 2 ^ n = o / 2 ^ lo % 2 ^ n := by exact_mod_cast h3
  subst hm
  have xb : ∀ z : Nat, z < 18446744073709551616 → z ^^^ 35184305078276 < 18446744073709551616 := fun z hz => Nat.xor_lt_two_pow (n := 64) (by omega) (by omega)
  rw [xk_nat p (by omega), xk_nat q (by omega), xk_nat o (by omega)]
  have hmn : 2 ^ (lo + n) - 2 ^ lo < 18446744073709551616 := Int.ofNat_lt.mp hm1
  constructor
  · rw [andNot_congr (p ^^^ 35184305078276) (q ^^^ 35184305078276) _ (fun i hi => by rw [Nat.testBit_xor, Nat.testBit_xor, agree_out lo n p q g1 g2 i hi])]
    simp
  · rw [and_out _ _ (xb p (by omega)) hmn, and_congr' (q ^^^ 35184305078276) (o ^^^ 35184305078276) _ (fun i hi => by rw [Nat.testBit_xor, Nat.testBit_xor, agree_in lo n q o g3 i hi]), or_none]
    · simp
    · exact bits_lo_u64 _ _ _
    · have := bits_hi_u64 .and ((o ^^^ 35184305078276 : Nat) : Int) ((2 ^ (lo + n) - 2 ^ lo : Nat) : Int); omega
theorem field_masks' (lo n : Nat) (A B C m P Q O : Int) (hA : ((2 ^ lo : Nat) : Int) = A) (hB : ((2 ^ (lo + n) : Nat) : Int) = B) (hC : ((2 ^ n : Nat) : Int) = C) (hm : m = ((2 ^ (lo + n) - 2 ^ lo : Nat) : Int)) (hm1 : m < 18446744073709551616) (P0 : 0 ≤ P) (P1 : P < 4611686018427387904) (Q0 : 0 ≤ Q) (Q1 : Q < 4611686018427387904) (O0 : 0 ≤ O) (O1 : O < 4611686018427387904)
    (h1 : P % A = Q % A) (h2 : P / B = Q / B) (h3 : Q / A % C = O / A % C) :
    (bits .andNot .u64 (xk P) m == bits .andNot .u64 (xk Q) m) = true ∧ (bits .and .u64 (xk Q) m == bits .or .u64 (bits .and .u64 (xk O) m) (bits .andNot .u64 (bits .and .u64 (xk P) m) m)) = true := by
  subst hA hB hC
  exact field_masks lo n m P Q O hm hm1 P0 P1 Q0 Q1 O0 O1 h1 h2 h3
end Go.Proofs.Ytmakfbpflfdkkaa
