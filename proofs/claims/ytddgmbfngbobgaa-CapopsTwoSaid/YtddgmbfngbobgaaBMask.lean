/-
  Contracts of bounds.Mask and bounds.Round. Numbers are within their types.
-/
import Derived.Test.YtddgmbfngbobgaaBLay
import Derived.Test.YtddgmbfngbobgaaBOnceN
namespace Go.Proofs.Ytddgmbfngbobgaa
open Go.ChangeShapes Go.WideShapes Go.ChangeAt Go.RowKit
set_option linter.unusedVariables false
set_option linter.unusedSimpArgs false

theorem mask_m (k : Nat) (hk : k ≤ 63) : IntKind.u64.wrap (18446744073709551615 * 2 ^ k) = 18446744073709551616 - 2 ^ k := by
  have h := pow_split k (by omega)
  have hp := pow_pos' k
  have hr := pow_pos' (64 - k)
  have hle : (2 : Int) ^ k ≤ 18446744073709551616 := by
    have := Int.mul_le_mul_of_nonneg_left (show (1 : Int) ≤ 2 ^ (64 - k) by omega) (Int.le_of_lt hp)
    omega
  rw [IntKind.wrap_u64]
  have : (18446744073709551615 : Int) * 2 ^ k = 18446744073709551616 * 2 ^ k - 2 ^ k := by omega
  rw [this]
  omega
theorem mask_w (n : Int) (n0 : 0 ≤ n) (n1 : n < 18446744073709551616) (w : World) :
    Calls Try.prog 99 #[.int .u64 n] w fun e w' => e = .returned (.int .u64 (maskV n)) ∧ Kp w w' := by
  have hE := layE_bd 0 n n0 n1
  cases hb : bigB n
  · have hm : maskV n = 18446744073709551615 := by simp [maskV, hb]
    have HM := Lib.hid hm
    clear hm
    go_enter Try.func99, Try.ntmps99
    go_wp2_with (go_at_call 54; refine (lay_w _ _ _ _ _ _ _ _ _ _ (by omega) (by omega) (by omega) (by omega) _).mono ?_; rintro e' w1 ⟨rfl, qk⟩; have HK := Lib.hid qk; clear qk)
    go_ret
    exact ⟨ret_int HM.out.symm, (HK.out.allocs _ _)⟩
  · have hx : layE 0 n = (exV 0 n : Int) := by simp [layE, hb]
    have hx52 := exV_bd 0 n n0 n1
    have hm : IntKind.u64.wrap (18446744073709551615 * 2 ^ (exV 0 n + 3)) = maskV n := by
      rw [mask_m _ (by omega)]; simp [maskV, hb]
    have HM := Lib.hid hm
    have s1 : ((exV 0 n : Int) + 3).toNat = exV 0 n + 3 := by omega
    clear hm
    rw [hx] at hE
    go_enter Try.func99, Try.ntmps99
    go_wp2_with (go_at_call 54; refine (lay_w _ _ _ _ _ _ _ _ _ _ (by omega) (by omega) (by omega) (by omega) _).mono ?_; rintro e' w1 ⟨rfl, qk⟩; have HK := Lib.hid qk; clear qk)
    go_ret
    exact ⟨ret_int HM.out, (HK.out.allocs _ _)⟩
theorem not64 (a : Int) (h0 : 0 ≤ a) (h1 : a < 18446744073709551616) : bits .xor .u64 IntKind.u64.max a = 18446744073709551615 - a := by
  obtain ⟨n, rfl⟩ := Int.eq_ofNat_of_zero_le h0
  have hm : IntKind.u64.max = ((18446744073709551615 : Nat) : Int) := rfl
  rw [hm, bits_xor_u64_nat _ _ (by omega) (by omega)]
  have e : (2 ^ 64 - 1 - n) = (2 ^ 64 - 1) ^^^ n := by
    apply Nat.eq_of_testBit_eq; intro i
    rw [show 2 ^ 64 - 1 - n = 2 ^ 64 - (n + 1) by omega, Nat.testBit_two_pow_sub_succ (show n < 2 ^ 64 by omega), Nat.testBit_xor, Nat.testBit_two_pow_sub_one]
    by_cases hi : i < 64
    · simp [hi]
    · have : n.testBit i = false := Nat.testBit_lt_two_pow (Nat.lt_of_lt_of_le (show n < 2 ^ 64 by omega) (Nat.pow_le_pow_right (by omega) (by omega)))
      simp [hi, this]
  have h : 18446744073709551615 ^^^ n = 18446744073709551615 - n := e.symm
  rw [h]; omega
theorem round_w (n : Int) (n0 : 0 ≤ n) (n1 : n < 18446744073709551616) (hm0 : 0 ≤ maskV n) (hm1 : maskV n < 18446744073709551616) (w : World) :
    Calls Try.prog 97 #[.int .u64 n] w fun e w' => e = .returned (.int .u64 (roundV n)) ∧ Kp w w' := by
  have hN := not64 (maskV n) hm0 hm1
  go_enter Try.func97, Try.ntmps97
  go_wp2_with (go_at_call 99; refine (mask_w _ (by omega) (by omega) _).mono ?_; rintro e' w1 ⟨rfl, qk⟩; have HK := Lib.hid qk; clear qk)
  go_ret
  exact ⟨rfl, HK.out⟩
end Go.Proofs.Ytddgmbfngbobgaa
