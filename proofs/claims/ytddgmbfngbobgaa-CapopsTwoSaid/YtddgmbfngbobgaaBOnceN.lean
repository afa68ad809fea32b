/-
  What BoundsOnce asks, of numbers: what is rounded is rounded once, and what is laid of it has just its bounds. Nothing of a program.
-/
import Derived.Test.YtddgmbfngbobgaaBOnceM
namespace Go.Proofs.Ytddgmbfngbobgaa
open Go.RowKit
set_option linter.unusedVariables false
set_option linter.unusedSimpArgs false

theorem of_len (e B T : Int) (g : Bool) (a l : Int) (a0 : 0 ≤ a) (a1 : a < 18446744073709551616) (l0 : 0 ≤ l) (l1 : l < 18446744073709551616) (h : a + l ≤ 18446744073709551616) (he : e < 51 → l < 9223372036854775808)
    (p1 : plcV B e a B = a) (p2 : plcV B e a (t14 B T g) = a + l) :
    ofB e B a = a ∧ lenV a (ofT e B T g a) (ofO e B T g a) = l := by
  have hB : ofB e B a = a := by unfold ofB; rw [p1]; unfold wL; omega
  have hT : ofT e B T g a = wL (a + l) := by unfold ofT; rw [p2]
  have hH : ofH e B T g a = wH (a + l) := by unfold ofH; rw [p2]
  have hF : ofF e B T g a = false := by
    unfold ofF farB
    rw [hB, hT, hH, wN_of]
    by_cases h51 : e < 51
    · have := he h51; simp [h51]; omega
    · simp [h51]
  have hO : ofO e B T g a = (wH (a + l) == 1) := by unfold ofO; rw [hF, hH]; rfl
  refine ⟨hB, ?_⟩
  have ht : topN (wL (a + l)) (wH (a + l) == 1) = a + l := by
    unfold topN wN b01 wL wH
    simp only [beq_iff_eq]; split <;> omega
  unfold lenV
  rw [hT, hO, ht, if_neg (by omega), if_neg (by omega)]; omega

/-- Masks and lengths. -/
theorem once_round (n : Int) (n0 : 0 ≤ n) (n1 : n ≤ 9223372036854775808) :
    0 ≤ roundV n ∧ roundV n ≤ 9223372036854775808 ∧ n ≤ roundV n ∧ bits .and .u64 (roundV n) (maskV n) = roundV n ∧ roundV n - n ≤ 18446744073709551615 - maskV n ∧ roundV (roundV n) = roundV n ∧ maskV (roundV n) = maskV n ∧ 0 ≤ maskV n ∧ maskV n < 18446744073709551616 := by
  by_cases hb : 4096 ≤ n
  · obtain ⟨C, c0, c1, c2, c3, c4, c5, c6⟩ := round_big n hb n1
    have hbg : bigB n = true := by simpa [bigB] using hb
    have hm : maskV n = 18446744073709551616 - 2 ^ (exV 0 n + 3) := by unfold maskV; rw [hbg]; rfl
    have hp := pow_pos' (exV 0 n + 3)
    have hle := pow_le63 (exV 0 n + 3) (by omega)
    have hs := lay_steps 0 C (exV 0 n) (by omega) c0 c1 (by omega)
    rw [Int.zero_mul] at hs
    have hm2 : maskV (roundV n) = maskV n := by
      rw [hm, c3]; unfold maskV; rw [hs.1, hs.2.1]; rfl
    have hst := (steps C (exV 0 n + 3)).2
    have hand : bits .and .u64 (roundV n) (maskV n) = roundV n := by
      rw [c3, hm, and_mask _ _ (by omega) (by omega) (by omega), hst]; omega
    refine ⟨by rw [c3]; omega, by rw [c3]; exact c6, by rw [c3]; exact c4, hand, by rw [c3, hm]; omega, ?_, hm2, by rw [hm]; omega, by rw [hm]; omega⟩
    show bits .and .u64 (IntKind.u64.wrap (roundV n + (18446744073709551615 - maskV (roundV n)))) (maskV (roundV n)) = roundV n
    rw [hm2, hm, c3, IntKind.wrap_u64]
    rw [show C * 2 ^ (exV 0 n + 3) + (18446744073709551615 - (18446744073709551616 - 2 ^ (exV 0 n + 3))) = C * 2 ^ (exV 0 n + 3) + 2 ^ (exV 0 n + 3) - 1 by omega, Int.emod_eq_of_lt (by omega) (by omega), and_mask _ _ (by omega) (by omega) (by omega)]
    have : (C * 2 ^ (exV 0 n + 3) + 2 ^ (exV 0 n + 3) - 1) % 2 ^ (exV 0 n + 3) = 2 ^ (exV 0 n + 3) - 1 := by
      rw [show C * 2 ^ (exV 0 n + 3) + 2 ^ (exV 0 n + 3) - 1 = (2 ^ (exV 0 n + 3) - 1) + C * 2 ^ (exV 0 n + 3) by omega, Int.add_mul_emod_self_right, Int.emod_eq_of_lt (by omega) (by omega)]
    rw [this]; omega
  · have hbg : bigB n = false := by simpa [bigB] using hb
    have hm : maskV n = 18446744073709551615 := by unfold maskV; rw [hbg]; rfl
    have hall : ∀ x : Int, 0 ≤ x → x < 18446744073709551616 → bits .and .u64 x 18446744073709551615 = x := fun x x0 x1 => by
      have := and_mask x 0 x0 x1 (by omega)
      simpa using this
    have hr : roundV n = n := by
      unfold roundV; rw [hm, IntKind.wrap_u64, show n + (18446744073709551615 - 18446744073709551615) = n by omega, Int.emod_eq_of_lt n0 (by omega), hall n n0 (by omega)]
    refine ⟨by omega, by omega, by omega, by rw [hr, hm, hall n n0 (by omega)], by rw [hr, hm]; omega, by rw [hr, hr], by rw [hr], by omega, by omega⟩
/-- Bounds that are laid of what was rounded. -/
theorem once_lay (a n : Int) (a0 : 0 ≤ a) (a1 : a < 18446744073709551616) (n0 : 0 ≤ n) (n1 : n ≤ 9223372036854775808) :
    0 ≤ bits .and .u64 a (maskV n) ∧ bits .and .u64 a (maskV n) < 18446744073709551616 ∧ (bits .and .u64 a (maskV n) + roundV n ≤ 18446744073709551616 →
      layX (bits .and .u64 a (maskV n)) (roundV n) = true ∧ ofB (layE (bits .and .u64 a (maskV n)) (roundV n)) (layB (bits .and .u64 a (maskV n)) (roundV n)) (bits .and .u64 a (maskV n)) = bits .and .u64 a (maskV n) ∧
      lenV (bits .and .u64 a (maskV n)) (ofT (layE (bits .and .u64 a (maskV n)) (roundV n)) (layB (bits .and .u64 a (maskV n)) (roundV n)) (layT (bits .and .u64 a (maskV n)) (roundV n)) (bigB (roundV n)) (bits .and .u64 a (maskV n))) (ofO (layE (bits .and .u64 a (maskV n)) (roundV n)) (layB (bits .and .u64 a (maskV n)) (roundV n)) (layT (bits .and .u64 a (maskV n)) (roundV n)) (bigB (roundV n)) (bits .and .u64 a (maskV n))) = roundV n) := by
  refine ⟨bits_lo_u64 _ _ _, by have := bits_hi_u64 .and a (maskV n); omega, fun h => ?_⟩
  by_cases hb : 4096 ≤ n
  · obtain ⟨C, c0, c1, c2, c3, c4, c5, c6⟩ := round_big n hb n1
    have hbg : bigB n = true := by simpa [bigB] using hb
    have hm : maskV n = 18446744073709551616 - 2 ^ (exV 0 n + 3) := by unfold maskV; rw [hbg]; rfl
    have hp := pow_pos' (exV 0 n + 3)
    have hA : bits .and .u64 a (maskV n) = a / 2 ^ (exV 0 n + 3) * 2 ^ (exV 0 n + 3) := by
      rw [hm, and_mask _ _ a0 a1 (by omega)]
      have := Int.emod_add_mul_ediv a (2 ^ (exV 0 n + 3))
      rw [Int.mul_comm] at this; omega
    rw [hA, c3] at h ⊢
    generalize exV 0 n = e at *
    have hA0 : 0 ≤ a / 2 ^ (e + 3) := Int.ediv_nonneg a0 (Int.le_of_lt hp)
    generalize a / 2 ^ (e + 3) = A at *
    obtain ⟨s1, s2, s3, s4, s5⟩ := lay_steps A C e hA0 c0 c1 (by omega)
    have hE : layE (A * 2 ^ (e + 3)) (C * 2 ^ (e + 3)) = (e : Int) := by unfold layE; rw [s1, s2]; rfl
    rw [s1, s3, s4, s5, hE]
    have h8 : ∀ x : Int, x * 2 ^ (e + 3) = x * 8 * 2 ^ e := fun x => by rw [pow_e8, Int.mul_assoc, Int.mul_comm 8]
    obtain ⟨p1, p2⟩ := plc_at (A * 8) (C * 8) e (by omega) (by omega) (by omega)
    have hg : decide (4096 ≤ C * 8) = true := by simp; omega
    rw [hg] at p2
    rw [← Int.add_mul, ← h8, ← h8, Int.add_mul] at p2
    rw [← h8] at p1
    have hnn : 0 ≤ A * 2 ^ (e + 3) := Int.mul_nonneg hA0 (Int.le_of_lt hp)
    have := of_len e (A * 8 % 16384) ((A * 8 + C * 8) % 4096) true (A * 2 ^ (e + 3)) (C * 2 ^ (e + 3)) hnn (by omega) (by omega) (by omega) h
      (fun he => by
        have h53 : (2 : Int) ^ (e + 3) ≤ 9007199254740992 := by
          have e1 : (2 : Int) ^ (e + 3) * 2 ^ (53 - (e + 3)) = 9007199254740992 := by rw [← two_pow_add, show e + 3 + (53 - (e + 3)) = 53 by omega]; decide
          have hq := pow_pos' (53 - (e + 3))
          have := Int.mul_le_mul_of_nonneg_left (show (1 : Int) ≤ 2 ^ (53 - (e + 3)) by omega) (Int.le_of_lt hp)
          omega
        have := Int.mul_le_mul_of_nonneg_right c1 (Int.le_of_lt hp)
        omega) p1 (p2.trans (Int.add_mul _ _ _))
    exact ⟨rfl, this.1, this.2⟩
  · have hbg : bigB n = false := by simpa [bigB] using hb
    have hm : maskV n = 18446744073709551615 := by unfold maskV; rw [hbg]; rfl
    have hall : ∀ x : Int, 0 ≤ x → x < 18446744073709551616 → bits .and .u64 x 18446744073709551615 = x := fun x x0 x1 => by
      have := and_mask x 0 x0 x1 (by omega)
      simpa using this
    have hr : roundV n = n := by
      unfold roundV; rw [hm, IntKind.wrap_u64, show n + (18446744073709551615 - 18446744073709551615) = n by omega, Int.emod_eq_of_lt n0 (by omega), hall n n0 (by omega)]
    rw [hm, hall a a0 a1, hr] at h ⊢
    obtain ⟨p1, p2⟩ := plc_at a n 0 a0 n0 (by omega)
    have hg : decide (4096 ≤ n) = false := by simpa using hb
    rw [hg] at p2
    simp only [Int.pow_zero, Int.mul_one, Int.natCast_zero] at p1 p2
    unfold layX layE layB layT
    rw [hbg]
    simp only [Bool.false_eq_true, if_false]
    have := of_len 0 (a % 16384) ((a + n) % 4096) false a n a0 a1 n0 (by omega) h (fun _ => by omega) p1 p2
    exact ⟨trivial, this.1, this.2⟩
end Go.Proofs.Ytddgmbfngbobgaa
