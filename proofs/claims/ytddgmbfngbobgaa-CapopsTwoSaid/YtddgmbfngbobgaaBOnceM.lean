/-
  The plain mathematics of BoundsOnce: lengths that are rounded, and bounds that are laid just as they were asked for. Nothing of a program.
-/
import Derived.Test.YtddgmbfngbobgaaBLayM
namespace Go.Proofs.Ytddgmbfngbobgaa
open Go.RowKit
set_option linter.unusedVariables false
set_option linter.unusedSimpArgs false

theorem and_mask (x : Int) (k : Nat) (x0 : 0 ≤ x) (x1 : x < 18446744073709551616) (hk : k < 64) : bits .and .u64 x (18446744073709551616 - 2 ^ k) = x - x % 2 ^ k := by
  obtain ⟨n, rfl⟩ := Int.eq_ofNat_of_zero_le x0
  have hp : 2 ^ k < 2 ^ 64 := Nat.pow_lt_pow_right (by omega) hk
  have hp0 : 0 < 2 ^ k := Nat.pow_pos (by omega)
  have e : (18446744073709551616 - 2 ^ k : Int) = ((18446744073709551616 - 2 ^ k : Nat) : Int) := by
    rw [Int.ofNat_sub (by omega)]; simp
  have e2 : (18446744073709551616 - 2 ^ k : Nat) = 2 ^ k * (2 ^ (64 - k) - 1) := by
    rw [Nat.mul_sub, ← Nat.pow_add, show k + (64 - k) = 64 by omega]; simp
  rw [e, bits_and_u64_nat n _ (by omega) (by omega)]
  have h : n &&& (18446744073709551616 - 2 ^ k) = 2 ^ k * (n / 2 ^ k) := by
    rw [e2]
    apply Nat.eq_of_testBit_eq; intro i
    rw [Nat.testBit_and, Nat.testBit_two_pow_mul, Nat.testBit_two_pow_mul, Nat.testBit_two_pow_sub_one, Nat.testBit_div_two_pow]
    by_cases hi : k ≤ i
    · rw [show i - k + k = i by omega]
      by_cases h64 : i < 64
      · simp [hi, show i - k < 64 - k by omega]
      · have : n.testBit i = false := Nat.testBit_lt_two_pow (Nat.lt_of_lt_of_le (show n < 2 ^ 64 by omega) (Nat.pow_le_pow_right (by omega) (by omega)))
        simp [this]
    · simp [hi]
  rw [h]
  have hd := Nat.div_add_mod n (2 ^ k)
  have hd' : ((2 ^ k * (n / 2 ^ k) : Nat) : Int) + ((n % 2 ^ k : Nat) : Int) = (n : Int) := by rw [← Int.natCast_add, hd]
  have hm : ((n % 2 ^ k : Nat) : Int) = (n : Int) % 2 ^ k := by simp
  rw [← hm]; omega

/-- A mantissa's place, of an address that has no bits below the exponent's, and of an end L steps on. -/
theorem plc_at (A L : Int) (e : Nat) (A0 : 0 ≤ A) (L0 : 0 ≤ L) (L1 : L < 8192) :
    plcV (A % 16384) e (A * 2 ^ e) (A % 16384) = A * 2 ^ e ∧ plcV (A % 16384) e (A * 2 ^ e) (t14 (A % 16384) ((A + L) % 4096) (decide (4096 ≤ L))) = (A + L) * 2 ^ e := by
  have hp := pow_pos' e
  have h14 : (2 : Int) ^ ((e : Int) + 14).toNat = 2 ^ e * 16384 := by
    rw [show ((e : Int) + 14).toNat = e + 14 by omega, two_pow_add]; rfl
  have hm : midV e (A * 2 ^ e) = A % 16384 := by
    unfold midV; rw [Int.toNat_natCast, Int.mul_ediv_cancel _ (by omega)]
  have hu : uppV e (A * 2 ^ e) = A / 16384 := by
    unfold uppV; rw [h14, Int.mul_comm A, Int.mul_ediv_mul_of_pos _ _ hp]
  have ht : t14 (A % 16384) ((A + L) % 4096) (decide (4096 ≤ L)) = (A + L) % 16384 := by
    unfold t14 b01 ltB; simp only [decide_eq_true_eq]; split <;> split <;> omega
  rw [ht]
  unfold plcV stepV
  rw [hm, hu, h14, Int.toNat_natCast]
  have key : ∀ s x : Int, (A / 16384 + s) * (2 ^ e * 16384) + x * 2 ^ e = ((A / 16384 + s) * 16384 + x) * 2 ^ e := fun s x => by
    rw [Int.add_mul ((A / 16384 + s) * 16384), Int.mul_assoc (A / 16384 + s), Int.mul_comm (2 ^ e) 16384]
  refine ⟨?_, ?_⟩
  · rw [if_neg (by omega), if_neg (by omega), key]; congr 1; omega
  · rw [key]; congr 1
    have hc : corV (A % 16384) = (A % 16384 / 2048 + 7) % 8 * 2048 := rfl
    rw [hc]
    (repeat' split) <;> omega

theorem e0V_big (n : Int) (n0 : 4096 ≤ n) (n1 : n < 18446744073709551616) : 2 ^ (e0V n + 12) ≤ n ∧ n < 2 ^ (e0V n + 13) := by
  have hb := e0V_bd n (by omega) n1
  have hlt : (n / 8192).toNat < 2 ^ e0V n := by
    apply Decidable.byContradiction; intro h
    have := lenN_ge 64 (n / 8192).toNat (e0V n) (by omega) (by omega)
    unfold e0V len64 at *; omega
  have h1 : n / 8192 < 2 ^ e0V n := by
    have := Int.ofNat_lt.mpr hlt; simp at this; omega
  have e13 : (2 : Int) ^ (e0V n + 13) = 2 ^ e0V n * 8192 := by rw [two_pow_add]; rfl
  have e12 : (2 : Int) ^ (e0V n + 12) = 2 ^ e0V n * 4096 := by rw [two_pow_add]; rfl
  refine ⟨?_, by rw [e13]; omega⟩
  rw [e12]
  by_cases hz : e0V n = 0
  · rw [hz]; simp; omega
  · have hge : 2 ^ (e0V n - 1) ≤ (n / 8192).toNat := by
      apply Decidable.byContradiction; intro h
      have := lenN_lt 64 (n / 8192).toNat (e0V n - 1) (by omega)
      unfold e0V len64 at *; omega
    have h2 : (2 : Int) ^ (e0V n - 1) ≤ n / 8192 := by
      have := Int.ofNat_le.mpr hge; simp at this; omega
    have e1 : (2 : Int) ^ e0V n = 2 ^ (e0V n - 1) * 2 := by
      conv => lhs; rw [show e0V n = (e0V n - 1) + 1 by omega, two_pow_add]
      rfl
    rw [e1]; omega
/-- The exponent is the one of the number's size. -/
theorem e0V_of (n : Int) (e : Nat) (n0 : 4096 ≤ n) (n1 : n < 18446744073709551616) (h0 : 2 ^ (e + 12) ≤ n) (h1 : n < 2 ^ (e + 13)) : e0V n = e := by
  obtain ⟨a, b⟩ := e0V_big n n0 n1
  have mono : ∀ i j : Nat, i ≤ j → (2 : Int) ^ i ≤ 2 ^ j := fun i j h => by
    rw [show j = i + (j - i) by omega, two_pow_add]
    have := pow_pos' i; have h2 := pow_pos' (j - i)
    have h3 := Int.mul_le_mul_of_nonneg_left (show (1 : Int) ≤ 2 ^ (j - i) by omega) (show (0 : Int) ≤ 2 ^ i by omega)
    omega
  rcases Nat.lt_trichotomy (e0V n) e with h | h | h
  · have := mono (e0V n + 13) (e + 12) (by omega); omega
  · exact h
  · have := mono (e + 13) (e0V n + 12) (by omega); omega

def roundV (n : Int) : Int := bits .and .u64 (IntKind.u64.wrap (n + (18446744073709551615 - maskV n))) (maskV n)
theorem pow_e8 (e : Nat) : (2 : Int) ^ (e + 3) = 2 ^ e * 8 := by rw [two_pow_add]; rfl
/-- Of a number of whole steps. -/
theorem steps (C : Int) (k : Nat) : C * 2 ^ k / 2 ^ k = C ∧ C * 2 ^ k % 2 ^ k = 0 := by
  have hp := pow_pos' k
  exact ⟨Int.mul_ediv_cancel _ (by omega), Int.mul_emod_left _ _⟩
/-- What is laid of whole steps. -/
theorem lay_steps (A C : Int) (e : Nat) (A0 : 0 ≤ A) (C0 : 512 ≤ C) (C1 : C ≤ 1023) (hl : C * 2 ^ (e + 3) < 18446744073709551616) :
    bigB (C * 2 ^ (e + 3)) = true ∧ exV (A * 2 ^ (e + 3)) (C * 2 ^ (e + 3)) = e ∧ layX (A * 2 ^ (e + 3)) (C * 2 ^ (e + 3)) = true ∧
    layB (A * 2 ^ (e + 3)) (C * 2 ^ (e + 3)) = A * 8 % 16384 ∧ layT (A * 2 ^ (e + 3)) (C * 2 ^ (e + 3)) = (A * 8 + C * 8) % 4096 := by
  have hp := pow_pos' e
  have h8 := pow_e8 e
  have m12 : (2 : Int) ^ (e + 12) = 2 ^ e * 4096 := by rw [two_pow_add]; rfl
  have m13 : (2 : Int) ^ (e + 13) = 2 ^ e * 8192 := by rw [two_pow_add]; rfl
  have g0 : 512 * 2 ^ (e + 3) ≤ C * 2 ^ (e + 3) := Int.mul_le_mul_of_nonneg_right C0 (by omega)
  have g1 : C * 2 ^ (e + 3) ≤ 1023 * 2 ^ (e + 3) := Int.mul_le_mul_of_nonneg_right C1 (by omega)
  have hbig : 4096 ≤ C * 2 ^ (e + 3) := by omega
  have he : e0V (C * 2 ^ (e + 3)) = e := e0V_of _ e hbig hl (by omega) (by omega)
  have hs : A * 2 ^ (e + 3) + C * 2 ^ (e + 3) = (A + C) * 2 ^ (e + 3) := by rw [Int.add_mul]
  have lA : lostB (A * 2 ^ (e + 3)) (e + 3) = false := by unfold lostB; rw [(steps A (e + 3)).2]; simp
  have lC : lostB ((A + C) * 2 ^ (e + 3)) (e + 3) = false := by unfold lostB; rw [(steps (A + C) (e + 3)).2]; simp
  have cC : ceilV ((A + C) * 2 ^ (e + 3)) (e + 3) = (A + C) % 2048 := by
    unfold ceilV; rw [(steps (A + C) (e + 3)).1, lC]; simp [b01]
  have hov : overB (A * 2 ^ (e + 3)) (C * 2 ^ (e + 3)) = false := by
    unfold overB; rw [he, hs, cC, (steps A (e + 3)).1]; simp; omega
  have hx : exV (A * 2 ^ (e + 3)) (C * 2 ^ (e + 3)) = e := by unfold exV; rw [hov, he]; rfl
  have hb : bigB (C * 2 ^ (e + 3)) = true := by simpa [bigB] using hbig
  refine ⟨hb, hx, ?_, ?_, ?_⟩
  · unfold layX; rw [hb, hx, hs, lA, lC]; rfl
  · unfold layB; rw [hb, hx, (steps A (e + 3)).1]; simp; omega
  · unfold layT; rw [hb, hx, hs, cC]; simp; omega
theorem ex0 (n : Int) : exV 0 n = if decide (1024 ≤ (ceilV n (e0V n + 3)) % 2048) then e0V n + 1 else e0V n := by
  unfold exV overB; simp
theorem lt_of_mul (a b u : Int) (hu : 0 < u) (h : a * u < b * u) : a < b := Int.lt_of_mul_lt_mul_right h (Int.le_of_lt hu)
/-- Rounded up to whole steps. -/
theorem up_steps (n u : Int) (hu : 0 < u) : (n + u - 1) / u * u = n + u - 1 - (n + u - 1) % u ∧ n ≤ (n + u - 1) / u * u ∧ (n + u - 1) / u * u < n + u := by
  have h := Int.emod_add_mul_ediv (n + u - 1) u
  have h0 := Int.emod_nonneg (n + u - 1) (show u ≠ 0 by omega)
  have h1 := Int.emod_lt_of_pos (n + u - 1) hu
  rw [Int.mul_comm] at h
  generalize (n + u - 1) / u * u = x at *
  omega
/-- The exponent of a length, and how many steps it is rounded up to. -/
theorem ex_steps (n : Int) (n0 : 4096 ≤ n) (n1 : n ≤ 9223372036854775808) :
    exV 0 n ≤ 51 ∧ 512 ≤ (n + 2 ^ (exV 0 n + 3) - 1) / 2 ^ (exV 0 n + 3) ∧ (n + 2 ^ (exV 0 n + 3) - 1) / 2 ^ (exV 0 n + 3) ≤ 1023 := by
  obtain ⟨a, b⟩ := e0V_big n n0 (by omega)
  have hb0 := e0V_bd n (by omega) (by omega)
  have hE := ex0 n
  generalize e0V n = e at *
  have hp := pow_pos' e
  have m12 : (2 : Int) ^ (e + 12) = 2 ^ e * 4096 := by rw [two_pow_add]; rfl
  have m13 : (2 : Int) ^ (e + 13) = 2 ^ e * 8192 := by rw [two_pow_add]; rfl
  have m4 : (2 : Int) ^ (e + 1 + 3) = 2 ^ e * 16 := by rw [show e + 1 + 3 = e + 4 by omega, two_pow_add]; rfl
  have h8 := pow_e8 e
  have h51 : e = 51 → (2 : Int) ^ e = 2251799813685248 := by rintro rfl; decide
  have hd := Int.emod_add_mul_ediv n (2 ^ (e + 3))
  have hd0 := Int.emod_nonneg n (show (2 : Int) ^ (e + 3) ≠ 0 by omega)
  have hd1 := Int.emod_lt_of_pos n (show (0 : Int) < 2 ^ (e + 3) by omega)
  obtain ⟨Q, hQ⟩ : ∃ Q, Q = n / 2 ^ (e + 3) := ⟨_, rfl⟩
  obtain ⟨R, hR⟩ : ∃ R, R = n % 2 ^ (e + 3) := ⟨_, rfl⟩
  rw [← hQ, ← hR] at hd
  rw [← hR] at hd0 hd1
  have q0 : 511 < Q := lt_of_mul 511 Q (2 ^ (e + 3)) (by omega) (by rw [Int.mul_comm Q]; omega)
  have q1 : Q < 1024 := lt_of_mul Q 1024 (2 ^ (e + 3)) (by omega) (by rw [Int.mul_comm Q]; omega)
  have hc : ceilV n (e + 3) = Q + b01 (lostB n (e + 3)) := by unfold ceilV; rw [← hQ]; omega
  have hl : lostB n (e + 3) = decide (¬ R = 0) := by unfold lostB; rw [← hR]
  by_cases ho : Q = 1023 ∧ ¬ R = 0
  · have hx : exV 0 n = e + 1 := by
      rw [hE, hc, hl]; simp [ho.1, ho.2, b01]
    rw [hx]
    obtain ⟨_, s1, s2⟩ := up_steps n (2 ^ (e + 1 + 3)) (by omega)
    rw [ho.1] at hd
    refine ⟨?_, ?_, ?_⟩
    · apply Decidable.byContradiction; intro h; have := h51 (by omega); omega
    · have := lt_of_mul 511 ((n + 2 ^ (e + 1 + 3) - 1) / 2 ^ (e + 1 + 3)) (2 ^ (e + 1 + 3)) (by omega) (by omega); omega
    · have := lt_of_mul ((n + 2 ^ (e + 1 + 3) - 1) / 2 ^ (e + 1 + 3)) 1024 (2 ^ (e + 1 + 3)) (by omega) (by omega); omega
  · have hx : exV 0 n = e := by
      rw [hE, hc, hl]
      have : ¬ 1024 ≤ (Q + b01 (decide (¬ R = 0))) % 2048 := by
        unfold b01; simp only [decide_eq_true_eq]; split <;> omega
      simp only [this, decide_false, Bool.false_eq_true, if_false]
    rw [hx]
    obtain ⟨_, s1, s2⟩ := up_steps n (2 ^ (e + 3)) (by omega)
    refine ⟨hb0, ?_, ?_⟩
    · have := lt_of_mul 511 ((n + 2 ^ (e + 3) - 1) / 2 ^ (e + 3)) (2 ^ (e + 3)) (by omega) (by omega); omega
    · have hq : n ≤ 1023 * 2 ^ (e + 3) := by
        by_cases hQ3 : Q = 1023
        · have hR0 : R = 0 := by
            apply Decidable.byContradiction; intro h; exact ho ⟨hQ3, h⟩
          rw [hQ3, hR0] at hd; omega
        · have : 2 ^ (e + 3) * Q ≤ 2 ^ (e + 3) * 1022 := Int.mul_le_mul_of_nonneg_left (by omega) (by omega)
          omega
      have := lt_of_mul ((n + 2 ^ (e + 3) - 1) / 2 ^ (e + 3)) 1024 (2 ^ (e + 3)) (by omega) (by omega); omega
theorem pow_le63 (k : Nat) (h : k ≤ 63) : (2 : Int) ^ k ≤ 9223372036854775808 := by
  have e : (2 : Int) ^ k * 2 ^ (63 - k) = 9223372036854775808 := by rw [← two_pow_add, show k + (63 - k) = 63 by omega]; decide
  have hp := pow_pos' k
  have hq := pow_pos' (63 - k)
  have := Int.mul_le_mul_of_nonneg_left (show (1 : Int) ≤ 2 ^ (63 - k) by omega) (show (0 : Int) ≤ 2 ^ k by omega)
  omega
/-- What a length is rounded to. -/
theorem round_big (n : Int) (n0 : 4096 ≤ n) (n1 : n ≤ 9223372036854775808) :
    ∃ C : Int, 512 ≤ C ∧ C ≤ 1023 ∧ exV 0 n ≤ 51 ∧ roundV n = C * 2 ^ (exV 0 n + 3) ∧ n ≤ C * 2 ^ (exV 0 n + 3) ∧ C * 2 ^ (exV 0 n + 3) < n + 2 ^ (exV 0 n + 3) ∧ C * 2 ^ (exV 0 n + 3) ≤ 9223372036854775808 := by
  obtain ⟨x0, x1, x2⟩ := ex_steps n n0 n1
  have hb : bigB n = true := by simpa [bigB] using n0
  have hm : maskV n = 18446744073709551616 - 2 ^ (exV 0 n + 3) := by unfold maskV; rw [hb]; rfl
  have hp := pow_pos' (exV 0 n + 3)
  have hle := pow_le63 (exV 0 n + 3) (by omega)
  obtain ⟨u0, u1, u2⟩ := up_steps n (2 ^ (exV 0 n + 3)) hp
  refine ⟨_, x1, x2, x0, ?_, u1, u2, ?_⟩
  · unfold roundV
    rw [hm, show n + (18446744073709551615 - (18446744073709551616 - 2 ^ (exV 0 n + 3))) = n + 2 ^ (exV 0 n + 3) - 1 by omega, IntKind.wrap_u64, Int.emod_eq_of_lt (by omega) (by omega), and_mask _ _ (by omega) (by omega) (by omega), u0]
  · have e : (2 : Int) ^ (63 - (exV 0 n + 3)) * 2 ^ (exV 0 n + 3) = 9223372036854775808 := by rw [← two_pow_add, show 63 - (exV 0 n + 3) + (exV 0 n + 3) = 63 by omega]; decide
    have hlt := lt_of_mul ((n + 2 ^ (exV 0 n + 3) - 1) / 2 ^ (exV 0 n + 3)) (2 ^ (63 - (exV 0 n + 3)) + 1) (2 ^ (exV 0 n + 3)) hp (by rw [Int.add_mul]; omega)
    have := Int.mul_le_mul_of_nonneg_right (show (n + 2 ^ (exV 0 n + 3) - 1) / 2 ^ (exV 0 n + 3) ≤ 2 ^ (63 - (exV 0 n + 3)) by omega) (Int.le_of_lt hp)
    omega
end Go.Proofs.Ytddgmbfngbobgaa
