/-
  Contract of the document's answer Alu of layer 1: for any numbers within their types it returns what the plain function says; the world stays.
-/
import Derived.Test.YtglhfdamgblhdaaWRefA
namespace Go.Proofs.Ytglhfdamgblhdaa
open Go.ChangeShapes Go.WideShapes Go.ChangeAt Go.RowKit
set_option linter.unusedVariables false
set_option linter.unusedSimpArgs false

theorem rlow32_w (a : Int) (h0 : 0 ≤ a) (h1 : a < 18446744073709551616) (w : World) :
    Calls Try.prog 18 #[.int .u64 a, .int .i64 32] w fun e w' => e = .returned (.int .u64 (a % 4294967296)) ∧ w = w' :=
  rlow_w a 32 h0 h1 (by omega) w
theorem rup32_w (a : Int) (h0 : 0 ≤ a) (h1 : a < 18446744073709551616) (w : World) :
    Calls Try.prog 16 #[.int .u64 a, .int .i64 32] w fun e w' => e = .returned (.int .u64 (sx 4294967296 a)) ∧ w = w' := by
  rw [← up_32]; exact rup_w a 32 h0 h1 (by omega) (by omega) w
def sh32 (fn a s : Int) : Int := if fn = 1 then a * 2 ^ s.toNat % 18446744073709551616 else turnV 4294967296 32 fn a s
theorem sh32_bd (fn a s : Int) (h0 : 0 ≤ a) (h1 : a < 4294967296) : 0 ≤ sh32 fn a s ∧ sh32 fn a s < 18446744073709551616 := by
  have t := turnV_bd 4294967296 32 fn a s (by omega) h0 h1
  unfold sh32; split <;> omega
theorem rsh64_w (fn a s : Int) (h0 : 0 ≤ a) (h1 : a < 18446744073709551616) (hs : 0 ≤ s) (hs2 : s < 64) (hf : fn = 1 ∨ fn = 5 ∨ fn = 9) (w : World) :
    Calls Try.prog 17 #[.int .i64 fn, .int .u64 a, .int .i64 s, .int .i64 64] w fun e w' => e = .returned (.int .u64 (turnV 18446744073709551616 64 fn a s)) ∧ w = w' := by
  obtain ⟨n, rfl⟩ := Int.eq_ofNat_of_zero_le hs
  have e : ((n : Int) % 64).toNat = n := by omega
  have p : (2 : Int) ^ 64 = 18446744073709551616 := by decide
  rcases hf with rfl | rfl | rfl
  · have t : turnV 18446744073709551616 64 1 a n = a * 2 ^ n % 18446744073709551616 := by simp [turnV, e]
    rw [t]; exact rshifts1_w a n 64 h0 h1 (by omega) w
  · have t : turnV 18446744073709551616 64 5 a n = a / 2 ^ n := by simp [turnV, e]
    rw [t]; exact rshifts5_w a n 64 h0 h1 (by omega) (by omega) (by omega) w
  · have t : turnV 18446744073709551616 64 9 a n = sraV (2 ^ 64) a n := by simp [turnV, e]
    rw [t]; exact rshifts9_w a n 64 h0 h1 (by omega) (by omega) (by omega) w
theorem rsh32_w (fn a s : Int) (h0 : 0 ≤ a) (h1 : a < 4294967296) (hs : 0 ≤ s) (hs2 : s < 32) (hf : fn = 1 ∨ fn = 5 ∨ fn = 9) (w : World) :
    Calls Try.prog 17 #[.int .i64 fn, .int .u64 a, .int .i64 s, .int .i64 32] w fun e w' => e = .returned (.int .u64 (sh32 fn a s)) ∧ w = w' := by
  obtain ⟨n, rfl⟩ := Int.eq_ofNat_of_zero_le hs
  have e : ((n : Int) % 32).toNat = n := by omega
  have p : (2 : Int) ^ 32 = 4294967296 := by decide
  rcases hf with rfl | rfl | rfl
  · have t : sh32 1 a n = a * 2 ^ n % 18446744073709551616 := by simp [sh32]
    rw [t]; exact rshifts1_w a n 32 h0 (by omega) (by omega) w
  · have t : sh32 5 a n = a / 2 ^ n := by simp [sh32, turnV, e]
    rw [t]; exact rshifts5_w a n 32 h0 (by omega) (by omega) (by omega) (by omega) w
  · have t : sh32 9 a n = sraV (2 ^ 32) a n := by simp [sh32, turnV, e]
    rw [t]; exact rshifts9_w a n 32 h0 (by omega) (by omega) (by omega) (by omega) w

theorem sx_mod (x y : Int) (h : x % 4294967296 = y % 4294967296) : sx 4294967296 x = sx 4294967296 y := by
  unfold sx; rw [h]
theorem wide_of (fn a b : Int) : aluV fn true a b = sx 4294967296 (turnV 4294967296 32 fn (a % 4294967296) (b % 4294967296)) := by
  simp [aluV, extV]
theorem wide0 (a b : Int) : sx 4294967296 (IntKind.u64.wrap (a + b)) = aluV 0 true a b := by
  rw [wide_of]; apply sx_mod; rw [IntKind.wrap_u64]; simp [turnV]
theorem wide8 (a b : Int) : sx 4294967296 (IntKind.u64.wrap (a - b)) = aluV 8 true a b := by
  rw [wide_of]; apply sx_mod; rw [IntKind.wrap_u64]; simp [turnV]
theorem wideS (fn a b : Int) (hf : fn = 1 ∨ fn = 5 ∨ fn = 9) : sx 4294967296 (sh32 fn (a % 4294967296) (b % 32)) = aluV fn true a b := by
  rw [wide_of]
  have e : b % 4294967296 % 32 = b % 32 := by omega
  have e' : b % 32 % 32 = b % 32 := by omega
  rcases hf with rfl | rfl | rfl
  · apply sx_mod
    unfold sh32 turnV
    simp only [Int.reduceEq, if_false, if_true, e]
    omega
  · unfold sh32 turnV
    simp only [Int.reduceEq, if_false, if_true, e, e']
  · unfold sh32 turnV
    simp only [Int.reduceEq, if_false, if_true, e, e']
theorem longS (fn a b : Int) (hf : fn = 1 ∨ fn = 5 ∨ fn = 9) : turnV 18446744073709551616 64 fn a (b % 64) = aluV fn false a b := by
  have e : b % 64 % 64 = b % 64 := by omega
  rcases hf with rfl | rfl | rfl <;> simp [aluV, turnOk, turnV, e]
def oneV (s : Bool) : Int := if s then 1 else 0
theorem one_w (s : Bool) (w : World) :
    Calls Try.prog 19 #[.bool s] w fun e w' => e = .returned (.int .u64 (oneV s)) ∧ w = w' := by
  cases s
  all_goals
    go_enter Try.func19, Try.ntmps19
    go_wp2
    go_ret
    exact ⟨rfl, rfl⟩

theorem ralu_0 (a b : Int) (h0 : 0 ≤ a) (h1 : a < 18446744073709551616) (h2 : 0 ≤ b) (h3 : b < 18446744073709551616) (w : World) :
    Calls Try.prog 8 #[.int .i64 0, .bool false, .int .u64 a, .int .u64 b] w fun e w' => e = .returned (.tuple #[.int .u64 (aluV 0 false a b), .bool (aluOk 0 false)]) ∧ w = w' := by
  have q1 : 0 ≤ a % 4294967296 ∧ a % 4294967296 < 4294967296 := by omega
  have q2 : 0 ≤ b % 32 ∧ b % 32 < 32 := by omega
  have q3 : 0 ≤ b % 64 ∧ b % 64 < 64 := by omega
  have q4 : 0 ≤ IntKind.u64.wrap (a + b) ∧ IntKind.u64.wrap (a + b) < 18446744073709551616 := by rw [IntKind.wrap_u64]; omega
  have q5 : 0 ≤ IntKind.u64.wrap (a - b) ∧ IntKind.u64.wrap (a - b) < 18446744073709551616 := by rw [IntKind.wrap_u64]; omega
  have q6 := sh32_bd 0 (a % 4294967296) (b % 32) q1.1 q1.2
  go_enter Try.func8, Try.ntmps8
  go_wp2
  go_ret2
  exact ⟨ret_two (by simp [aluV, turnOk, turnV, IntKind.wrap_u64]) (by decide), rfl⟩
theorem ralu_8 (a b : Int) (h0 : 0 ≤ a) (h1 : a < 18446744073709551616) (h2 : 0 ≤ b) (h3 : b < 18446744073709551616) (w : World) :
    Calls Try.prog 8 #[.int .i64 8, .bool false, .int .u64 a, .int .u64 b] w fun e w' => e = .returned (.tuple #[.int .u64 (aluV 8 false a b), .bool (aluOk 8 false)]) ∧ w = w' := by
  have q1 : 0 ≤ a % 4294967296 ∧ a % 4294967296 < 4294967296 := by omega
  have q2 : 0 ≤ b % 32 ∧ b % 32 < 32 := by omega
  have q3 : 0 ≤ b % 64 ∧ b % 64 < 64 := by omega
  have q4 : 0 ≤ IntKind.u64.wrap (a + b) ∧ IntKind.u64.wrap (a + b) < 18446744073709551616 := by rw [IntKind.wrap_u64]; omega
  have q5 : 0 ≤ IntKind.u64.wrap (a - b) ∧ IntKind.u64.wrap (a - b) < 18446744073709551616 := by rw [IntKind.wrap_u64]; omega
  have q6 := sh32_bd 8 (a % 4294967296) (b % 32) q1.1 q1.2
  go_enter Try.func8, Try.ntmps8
  go_wp2
  go_ret2
  exact ⟨ret_two (by simp [aluV, turnOk, turnV, IntKind.wrap_u64]) (by decide), rfl⟩
theorem ralu_1 (a b : Int) (h0 : 0 ≤ a) (h1 : a < 18446744073709551616) (h2 : 0 ≤ b) (h3 : b < 18446744073709551616) (w : World) :
    Calls Try.prog 8 #[.int .i64 1, .bool false, .int .u64 a, .int .u64 b] w fun e w' => e = .returned (.tuple #[.int .u64 (aluV 1 false a b), .bool (aluOk 1 false)]) ∧ w = w' := by
  have q1 : 0 ≤ a % 4294967296 ∧ a % 4294967296 < 4294967296 := by omega
  have q2 : 0 ≤ b % 32 ∧ b % 32 < 32 := by omega
  have q3 : 0 ≤ b % 64 ∧ b % 64 < 64 := by omega
  have q4 : 0 ≤ IntKind.u64.wrap (a + b) ∧ IntKind.u64.wrap (a + b) < 18446744073709551616 := by rw [IntKind.wrap_u64]; omega
  have q5 : 0 ≤ IntKind.u64.wrap (a - b) ∧ IntKind.u64.wrap (a - b) < 18446744073709551616 := by rw [IntKind.wrap_u64]; omega
  have q6 := sh32_bd 1 (a % 4294967296) (b % 32) q1.1 q1.2
  go_enter Try.func8, Try.ntmps8
  go_wp2_with (go_at_call 17; refine (rsh64_w _ a (b % 64) h0 h1 q3.1 q3.2 (by omega) _).mono ?_; rintro e w' ⟨rfl, rfl⟩)
  go_ret2
  exact ⟨ret_two (longS _ _ _ (by omega)) (by decide), rfl⟩
theorem ralu_5 (a b : Int) (h0 : 0 ≤ a) (h1 : a < 18446744073709551616) (h2 : 0 ≤ b) (h3 : b < 18446744073709551616) (w : World) :
    Calls Try.prog 8 #[.int .i64 5, .bool false, .int .u64 a, .int .u64 b] w fun e w' => e = .returned (.tuple #[.int .u64 (aluV 5 false a b), .bool (aluOk 5 false)]) ∧ w = w' := by
  have q1 : 0 ≤ a % 4294967296 ∧ a % 4294967296 < 4294967296 := by omega
  have q2 : 0 ≤ b % 32 ∧ b % 32 < 32 := by omega
  have q3 : 0 ≤ b % 64 ∧ b % 64 < 64 := by omega
  have q4 : 0 ≤ IntKind.u64.wrap (a + b) ∧ IntKind.u64.wrap (a + b) < 18446744073709551616 := by rw [IntKind.wrap_u64]; omega
  have q5 : 0 ≤ IntKind.u64.wrap (a - b) ∧ IntKind.u64.wrap (a - b) < 18446744073709551616 := by rw [IntKind.wrap_u64]; omega
  have q6 := sh32_bd 5 (a % 4294967296) (b % 32) q1.1 q1.2
  go_enter Try.func8, Try.ntmps8
  go_wp2_with (go_at_call 17; refine (rsh64_w _ a (b % 64) h0 h1 q3.1 q3.2 (by omega) _).mono ?_; rintro e w' ⟨rfl, rfl⟩)
  go_ret2
  exact ⟨ret_two (longS _ _ _ (by omega)) (by decide), rfl⟩
theorem ralu_9 (a b : Int) (h0 : 0 ≤ a) (h1 : a < 18446744073709551616) (h2 : 0 ≤ b) (h3 : b < 18446744073709551616) (w : World) :
    Calls Try.prog 8 #[.int .i64 9, .bool false, .int .u64 a, .int .u64 b] w fun e w' => e = .returned (.tuple #[.int .u64 (aluV 9 false a b), .bool (aluOk 9 false)]) ∧ w = w' := by
  have q1 : 0 ≤ a % 4294967296 ∧ a % 4294967296 < 4294967296 := by omega
  have q2 : 0 ≤ b % 32 ∧ b % 32 < 32 := by omega
  have q3 : 0 ≤ b % 64 ∧ b % 64 < 64 := by omega
  have q4 : 0 ≤ IntKind.u64.wrap (a + b) ∧ IntKind.u64.wrap (a + b) < 18446744073709551616 := by rw [IntKind.wrap_u64]; omega
  have q5 : 0 ≤ IntKind.u64.wrap (a - b) ∧ IntKind.u64.wrap (a - b) < 18446744073709551616 := by rw [IntKind.wrap_u64]; omega
  have q6 := sh32_bd 9 (a % 4294967296) (b % 32) q1.1 q1.2
  go_enter Try.func8, Try.ntmps8
  go_wp2_with (go_at_call 17; refine (rsh64_w _ a (b % 64) h0 h1 q3.1 q3.2 (by omega) _).mono ?_; rintro e w' ⟨rfl, rfl⟩)
  go_ret2
  exact ⟨ret_two (longS _ _ _ (by omega)) (by decide), rfl⟩
theorem ralu_2 (a b : Int) (h0 : 0 ≤ a) (h1 : a < 18446744073709551616) (h2 : 0 ≤ b) (h3 : b < 18446744073709551616) (w : World) :
    Calls Try.prog 8 #[.int .i64 2, .bool false, .int .u64 a, .int .u64 b] w fun e w' => e = .returned (.tuple #[.int .u64 (aluV 2 false a b), .bool (aluOk 2 false)]) ∧ w = w' := by
  have q1 : 0 ≤ a % 4294967296 ∧ a % 4294967296 < 4294967296 := by omega
  have q2 : 0 ≤ b % 32 ∧ b % 32 < 32 := by omega
  have q3 : 0 ≤ b % 64 ∧ b % 64 < 64 := by omega
  have q4 : 0 ≤ IntKind.u64.wrap (a + b) ∧ IntKind.u64.wrap (a + b) < 18446744073709551616 := by rw [IntKind.wrap_u64]; omega
  have q5 : 0 ≤ IntKind.u64.wrap (a - b) ∧ IntKind.u64.wrap (a - b) < 18446744073709551616 := by rw [IntKind.wrap_u64]; omega
  have q6 := sh32_bd 2 (a % 4294967296) (b % 32) q1.1 q1.2
  go_enter Try.func8, Try.ntmps8
  go_wp2_with (first | (go_at_call 20; refine (rless_w a b _ h0 h1 h2 h3 _).mono ?_; rintro e w' ⟨rfl, rfl⟩) | (go_at_call 19; refine (one_w _ _).mono ?_; rintro e w' ⟨rfl, rfl⟩))
  go_ret2
  exact ⟨ret_two (by simp [aluV, turnOk, turnV, cmV, lessV, oneV]) (by decide), rfl⟩
theorem ralu_3 (a b : Int) (h0 : 0 ≤ a) (h1 : a < 18446744073709551616) (h2 : 0 ≤ b) (h3 : b < 18446744073709551616) (w : World) :
    Calls Try.prog 8 #[.int .i64 3, .bool false, .int .u64 a, .int .u64 b] w fun e w' => e = .returned (.tuple #[.int .u64 (aluV 3 false a b), .bool (aluOk 3 false)]) ∧ w = w' := by
  have q1 : 0 ≤ a % 4294967296 ∧ a % 4294967296 < 4294967296 := by omega
  have q2 : 0 ≤ b % 32 ∧ b % 32 < 32 := by omega
  have q3 : 0 ≤ b % 64 ∧ b % 64 < 64 := by omega
  have q4 : 0 ≤ IntKind.u64.wrap (a + b) ∧ IntKind.u64.wrap (a + b) < 18446744073709551616 := by rw [IntKind.wrap_u64]; omega
  have q5 : 0 ≤ IntKind.u64.wrap (a - b) ∧ IntKind.u64.wrap (a - b) < 18446744073709551616 := by rw [IntKind.wrap_u64]; omega
  have q6 := sh32_bd 3 (a % 4294967296) (b % 32) q1.1 q1.2
  go_enter Try.func8, Try.ntmps8
  go_wp2_with (first | (go_at_call 20; refine (rless_w a b _ h0 h1 h2 h3 _).mono ?_; rintro e w' ⟨rfl, rfl⟩) | (go_at_call 19; refine (one_w _ _).mono ?_; rintro e w' ⟨rfl, rfl⟩))
  go_ret2
  exact ⟨ret_two (by simp [aluV, turnOk, turnV, cmV, lessV, oneV]) (by decide), rfl⟩
theorem ralu_4 (a b : Int) (h0 : 0 ≤ a) (h1 : a < 18446744073709551616) (h2 : 0 ≤ b) (h3 : b < 18446744073709551616) (w : World) :
    Calls Try.prog 8 #[.int .i64 4, .bool false, .int .u64 a, .int .u64 b] w fun e w' => e = .returned (.tuple #[.int .u64 (aluV 4 false a b), .bool (aluOk 4 false)]) ∧ w = w' := by
  have q1 : 0 ≤ a % 4294967296 ∧ a % 4294967296 < 4294967296 := by omega
  have q2 : 0 ≤ b % 32 ∧ b % 32 < 32 := by omega
  have q3 : 0 ≤ b % 64 ∧ b % 64 < 64 := by omega
  have q4 : 0 ≤ IntKind.u64.wrap (a + b) ∧ IntKind.u64.wrap (a + b) < 18446744073709551616 := by rw [IntKind.wrap_u64]; omega
  have q5 : 0 ≤ IntKind.u64.wrap (a - b) ∧ IntKind.u64.wrap (a - b) < 18446744073709551616 := by rw [IntKind.wrap_u64]; omega
  have q6 := sh32_bd 4 (a % 4294967296) (b % 32) q1.1 q1.2
  go_enter Try.func8, Try.ntmps8
  go_wp2_with (go_at_call 21; refine (rbits4_w a b h0 h1 h2 h3 _).mono ?_; rintro e w' ⟨rfl, rfl⟩)
  go_ret2
  exact ⟨ret_two (by simp [aluV, turnOk, turnV, cmV]) (by decide), rfl⟩
theorem ralu_6 (a b : Int) (h0 : 0 ≤ a) (h1 : a < 18446744073709551616) (h2 : 0 ≤ b) (h3 : b < 18446744073709551616) (w : World) :
    Calls Try.prog 8 #[.int .i64 6, .bool false, .int .u64 a, .int .u64 b] w fun e w' => e = .returned (.tuple #[.int .u64 (aluV 6 false a b), .bool (aluOk 6 false)]) ∧ w = w' := by
  have q1 : 0 ≤ a % 4294967296 ∧ a % 4294967296 < 4294967296 := by omega
  have q2 : 0 ≤ b % 32 ∧ b % 32 < 32 := by omega
  have q3 : 0 ≤ b % 64 ∧ b % 64 < 64 := by omega
  have q4 : 0 ≤ IntKind.u64.wrap (a + b) ∧ IntKind.u64.wrap (a + b) < 18446744073709551616 := by rw [IntKind.wrap_u64]; omega
  have q5 : 0 ≤ IntKind.u64.wrap (a - b) ∧ IntKind.u64.wrap (a - b) < 18446744073709551616 := by rw [IntKind.wrap_u64]; omega
  have q6 := sh32_bd 6 (a % 4294967296) (b % 32) q1.1 q1.2
  go_enter Try.func8, Try.ntmps8
  go_wp2_with (go_at_call 21; refine (rbits6_w a b h0 h1 h2 h3 _).mono ?_; rintro e w' ⟨rfl, rfl⟩)
  go_ret2
  exact ⟨ret_two (by simp [aluV, turnOk, turnV, cmV]) (by decide), rfl⟩
theorem ralu_7 (a b : Int) (h0 : 0 ≤ a) (h1 : a < 18446744073709551616) (h2 : 0 ≤ b) (h3 : b < 18446744073709551616) (w : World) :
    Calls Try.prog 8 #[.int .i64 7, .bool false, .int .u64 a, .int .u64 b] w fun e w' => e = .returned (.tuple #[.int .u64 (aluV 7 false a b), .bool (aluOk 7 false)]) ∧ w = w' := by
  have q1 : 0 ≤ a % 4294967296 ∧ a % 4294967296 < 4294967296 := by omega
  have q2 : 0 ≤ b % 32 ∧ b % 32 < 32 := by omega
  have q3 : 0 ≤ b % 64 ∧ b % 64 < 64 := by omega
  have q4 : 0 ≤ IntKind.u64.wrap (a + b) ∧ IntKind.u64.wrap (a + b) < 18446744073709551616 := by rw [IntKind.wrap_u64]; omega
  have q5 : 0 ≤ IntKind.u64.wrap (a - b) ∧ IntKind.u64.wrap (a - b) < 18446744073709551616 := by rw [IntKind.wrap_u64]; omega
  have q6 := sh32_bd 7 (a % 4294967296) (b % 32) q1.1 q1.2
  go_enter Try.func8, Try.ntmps8
  go_wp2_with (go_at_call 21; refine (rbits7_w a b h0 h1 h2 h3 _).mono ?_; rintro e w' ⟨rfl, rfl⟩)
  go_ret2
  exact ⟨ret_two (by simp [aluV, turnOk, turnV, cmV]) (by decide), rfl⟩
theorem ralu_0w (a b : Int) (h0 : 0 ≤ a) (h1 : a < 18446744073709551616) (h2 : 0 ≤ b) (h3 : b < 18446744073709551616) (w : World) :
    Calls Try.prog 8 #[.int .i64 0, .bool true, .int .u64 a, .int .u64 b] w fun e w' => e = .returned (.tuple #[.int .u64 (aluV 0 true a b), .bool (aluOk 0 true)]) ∧ w = w' := by
  have q1 : 0 ≤ a % 4294967296 ∧ a % 4294967296 < 4294967296 := by omega
  have q2 : 0 ≤ b % 32 ∧ b % 32 < 32 := by omega
  have q3 : 0 ≤ b % 64 ∧ b % 64 < 64 := by omega
  have q4 : 0 ≤ IntKind.u64.wrap (a + b) ∧ IntKind.u64.wrap (a + b) < 18446744073709551616 := by rw [IntKind.wrap_u64]; omega
  have q5 : 0 ≤ IntKind.u64.wrap (a - b) ∧ IntKind.u64.wrap (a - b) < 18446744073709551616 := by rw [IntKind.wrap_u64]; omega
  have q6 := sh32_bd 0 (a % 4294967296) (b % 32) q1.1 q1.2
  go_enter Try.func8, Try.ntmps8
  go_wp2_with (go_at_call 16; refine (rup32_w _ (by omega) (by omega) _).mono ?_; rintro e w' ⟨rfl, rfl⟩)
  go_ret2
  exact ⟨ret_two (wide0 _ _) (by decide), rfl⟩
theorem ralu_8w (a b : Int) (h0 : 0 ≤ a) (h1 : a < 18446744073709551616) (h2 : 0 ≤ b) (h3 : b < 18446744073709551616) (w : World) :
    Calls Try.prog 8 #[.int .i64 8, .bool true, .int .u64 a, .int .u64 b] w fun e w' => e = .returned (.tuple #[.int .u64 (aluV 8 true a b), .bool (aluOk 8 true)]) ∧ w = w' := by
  have q1 : 0 ≤ a % 4294967296 ∧ a % 4294967296 < 4294967296 := by omega
  have q2 : 0 ≤ b % 32 ∧ b % 32 < 32 := by omega
  have q3 : 0 ≤ b % 64 ∧ b % 64 < 64 := by omega
  have q4 : 0 ≤ IntKind.u64.wrap (a + b) ∧ IntKind.u64.wrap (a + b) < 18446744073709551616 := by rw [IntKind.wrap_u64]; omega
  have q5 : 0 ≤ IntKind.u64.wrap (a - b) ∧ IntKind.u64.wrap (a - b) < 18446744073709551616 := by rw [IntKind.wrap_u64]; omega
  have q6 := sh32_bd 8 (a % 4294967296) (b % 32) q1.1 q1.2
  go_enter Try.func8, Try.ntmps8
  go_wp2_with (go_at_call 16; refine (rup32_w _ (by omega) (by omega) _).mono ?_; rintro e w' ⟨rfl, rfl⟩)
  go_ret2
  exact ⟨ret_two (wide8 _ _) (by decide), rfl⟩
theorem ralu_1w (a b : Int) (h0 : 0 ≤ a) (h1 : a < 18446744073709551616) (h2 : 0 ≤ b) (h3 : b < 18446744073709551616) (w : World) :
    Calls Try.prog 8 #[.int .i64 1, .bool true, .int .u64 a, .int .u64 b] w fun e w' => e = .returned (.tuple #[.int .u64 (aluV 1 true a b), .bool (aluOk 1 true)]) ∧ w = w' := by
  have q1 : 0 ≤ a % 4294967296 ∧ a % 4294967296 < 4294967296 := by omega
  have q2 : 0 ≤ b % 32 ∧ b % 32 < 32 := by omega
  have q3 : 0 ≤ b % 64 ∧ b % 64 < 64 := by omega
  have q4 : 0 ≤ IntKind.u64.wrap (a + b) ∧ IntKind.u64.wrap (a + b) < 18446744073709551616 := by rw [IntKind.wrap_u64]; omega
  have q5 : 0 ≤ IntKind.u64.wrap (a - b) ∧ IntKind.u64.wrap (a - b) < 18446744073709551616 := by rw [IntKind.wrap_u64]; omega
  have q6 := sh32_bd 1 (a % 4294967296) (b % 32) q1.1 q1.2
  go_enter Try.func8, Try.ntmps8
  go_wp2_with (first | (go_at_call 17; refine (rsh32_w _ (a % 4294967296) (b % 32) q1.1 q1.2 q2.1 q2.2 (by omega) _).mono ?_; rintro e w' ⟨rfl, rfl⟩) | (go_at_call 18; refine (rlow32_w a h0 h1 _).mono ?_; rintro e w' ⟨rfl, rfl⟩) | (go_at_call 16; refine (rup32_w _ (by omega) (by omega) _).mono ?_; rintro e w' ⟨rfl, rfl⟩))
  go_ret2
  exact ⟨ret_two (wideS _ _ _ (by omega)) (by decide), rfl⟩
theorem ralu_5w (a b : Int) (h0 : 0 ≤ a) (h1 : a < 18446744073709551616) (h2 : 0 ≤ b) (h3 : b < 18446744073709551616) (w : World) :
    Calls Try.prog 8 #[.int .i64 5, .bool true, .int .u64 a, .int .u64 b] w fun e w' => e = .returned (.tuple #[.int .u64 (aluV 5 true a b), .bool (aluOk 5 true)]) ∧ w = w' := by
  have q1 : 0 ≤ a % 4294967296 ∧ a % 4294967296 < 4294967296 := by omega
  have q2 : 0 ≤ b % 32 ∧ b % 32 < 32 := by omega
  have q3 : 0 ≤ b % 64 ∧ b % 64 < 64 := by omega
  have q4 : 0 ≤ IntKind.u64.wrap (a + b) ∧ IntKind.u64.wrap (a + b) < 18446744073709551616 := by rw [IntKind.wrap_u64]; omega
  have q5 : 0 ≤ IntKind.u64.wrap (a - b) ∧ IntKind.u64.wrap (a - b) < 18446744073709551616 := by rw [IntKind.wrap_u64]; omega
  have q6 := sh32_bd 5 (a % 4294967296) (b % 32) q1.1 q1.2
  go_enter Try.func8, Try.ntmps8
  go_wp2_with (first | (go_at_call 17; refine (rsh32_w _ (a % 4294967296) (b % 32) q1.1 q1.2 q2.1 q2.2 (by omega) _).mono ?_; rintro e w' ⟨rfl, rfl⟩) | (go_at_call 18; refine (rlow32_w a h0 h1 _).mono ?_; rintro e w' ⟨rfl, rfl⟩) | (go_at_call 16; refine (rup32_w _ (by omega) (by omega) _).mono ?_; rintro e w' ⟨rfl, rfl⟩))
  go_ret2
  exact ⟨ret_two (wideS _ _ _ (by omega)) (by decide), rfl⟩
theorem ralu_9w (a b : Int) (h0 : 0 ≤ a) (h1 : a < 18446744073709551616) (h2 : 0 ≤ b) (h3 : b < 18446744073709551616) (w : World) :
    Calls Try.prog 8 #[.int .i64 9, .bool true, .int .u64 a, .int .u64 b] w fun e w' => e = .returned (.tuple #[.int .u64 (aluV 9 true a b), .bool (aluOk 9 true)]) ∧ w = w' := by
  have q1 : 0 ≤ a % 4294967296 ∧ a % 4294967296 < 4294967296 := by omega
  have q2 : 0 ≤ b % 32 ∧ b % 32 < 32 := by omega
  have q3 : 0 ≤ b % 64 ∧ b % 64 < 64 := by omega
  have q4 : 0 ≤ IntKind.u64.wrap (a + b) ∧ IntKind.u64.wrap (a + b) < 18446744073709551616 := by rw [IntKind.wrap_u64]; omega
  have q5 : 0 ≤ IntKind.u64.wrap (a - b) ∧ IntKind.u64.wrap (a - b) < 18446744073709551616 := by rw [IntKind.wrap_u64]; omega
  have q6 := sh32_bd 9 (a % 4294967296) (b % 32) q1.1 q1.2
  go_enter Try.func8, Try.ntmps8
  go_wp2_with (first | (go_at_call 17; refine (rsh32_w _ (a % 4294967296) (b % 32) q1.1 q1.2 q2.1 q2.2 (by omega) _).mono ?_; rintro e w' ⟨rfl, rfl⟩) | (go_at_call 18; refine (rlow32_w a h0 h1 _).mono ?_; rintro e w' ⟨rfl, rfl⟩) | (go_at_call 16; refine (rup32_w _ (by omega) (by omega) _).mono ?_; rintro e w' ⟨rfl, rfl⟩))
  go_ret2
  exact ⟨ret_two (wideS _ _ _ (by omega)) (by decide), rfl⟩
theorem ralu_2w (a b : Int) (h0 : 0 ≤ a) (h1 : a < 18446744073709551616) (h2 : 0 ≤ b) (h3 : b < 18446744073709551616) (w : World) :
    Calls Try.prog 8 #[.int .i64 2, .bool true, .int .u64 a, .int .u64 b] w fun e w' => e = .returned (.tuple #[.int .u64 (aluV 2 true a b), .bool (aluOk 2 true)]) ∧ w = w' := by
  have q1 : 0 ≤ a % 4294967296 ∧ a % 4294967296 < 4294967296 := by omega
  have q2 : 0 ≤ b % 32 ∧ b % 32 < 32 := by omega
  have q3 : 0 ≤ b % 64 ∧ b % 64 < 64 := by omega
  have q4 : 0 ≤ IntKind.u64.wrap (a + b) ∧ IntKind.u64.wrap (a + b) < 18446744073709551616 := by rw [IntKind.wrap_u64]; omega
  have q5 : 0 ≤ IntKind.u64.wrap (a - b) ∧ IntKind.u64.wrap (a - b) < 18446744073709551616 := by rw [IntKind.wrap_u64]; omega
  have q6 := sh32_bd 2 (a % 4294967296) (b % 32) q1.1 q1.2
  go_enter Try.func8, Try.ntmps8
  go_wp2
  go_ret2
  exact ⟨ret_two (by simp [aluV, turnOk, turnV, extV, sx]) (by decide), rfl⟩
theorem ralu_3w (a b : Int) (h0 : 0 ≤ a) (h1 : a < 18446744073709551616) (h2 : 0 ≤ b) (h3 : b < 18446744073709551616) (w : World) :
    Calls Try.prog 8 #[.int .i64 3, .bool true, .int .u64 a, .int .u64 b] w fun e w' => e = .returned (.tuple #[.int .u64 (aluV 3 true a b), .bool (aluOk 3 true)]) ∧ w = w' := by
  have q1 : 0 ≤ a % 4294967296 ∧ a % 4294967296 < 4294967296 := by omega
  have q2 : 0 ≤ b % 32 ∧ b % 32 < 32 := by omega
  have q3 : 0 ≤ b % 64 ∧ b % 64 < 64 := by omega
  have q4 : 0 ≤ IntKind.u64.wrap (a + b) ∧ IntKind.u64.wrap (a + b) < 18446744073709551616 := by rw [IntKind.wrap_u64]; omega
  have q5 : 0 ≤ IntKind.u64.wrap (a - b) ∧ IntKind.u64.wrap (a - b) < 18446744073709551616 := by rw [IntKind.wrap_u64]; omega
  have q6 := sh32_bd 3 (a % 4294967296) (b % 32) q1.1 q1.2
  go_enter Try.func8, Try.ntmps8
  go_wp2
  go_ret2
  exact ⟨ret_two (by simp [aluV, turnOk, turnV, extV, sx]) (by decide), rfl⟩
theorem ralu_4w (a b : Int) (h0 : 0 ≤ a) (h1 : a < 18446744073709551616) (h2 : 0 ≤ b) (h3 : b < 18446744073709551616) (w : World) :
    Calls Try.prog 8 #[.int .i64 4, .bool true, .int .u64 a, .int .u64 b] w fun e w' => e = .returned (.tuple #[.int .u64 (aluV 4 true a b), .bool (aluOk 4 true)]) ∧ w = w' := by
  have q1 : 0 ≤ a % 4294967296 ∧ a % 4294967296 < 4294967296 := by omega
  have q2 : 0 ≤ b % 32 ∧ b % 32 < 32 := by omega
  have q3 : 0 ≤ b % 64 ∧ b % 64 < 64 := by omega
  have q4 : 0 ≤ IntKind.u64.wrap (a + b) ∧ IntKind.u64.wrap (a + b) < 18446744073709551616 := by rw [IntKind.wrap_u64]; omega
  have q5 : 0 ≤ IntKind.u64.wrap (a - b) ∧ IntKind.u64.wrap (a - b) < 18446744073709551616 := by rw [IntKind.wrap_u64]; omega
  have q6 := sh32_bd 4 (a % 4294967296) (b % 32) q1.1 q1.2
  go_enter Try.func8, Try.ntmps8
  go_wp2
  go_ret2
  exact ⟨ret_two (by simp [aluV, turnOk, turnV, extV, sx]) (by decide), rfl⟩
theorem ralu_6w (a b : Int) (h0 : 0 ≤ a) (h1 : a < 18446744073709551616) (h2 : 0 ≤ b) (h3 : b < 18446744073709551616) (w : World) :
    Calls Try.prog 8 #[.int .i64 6, .bool true, .int .u64 a, .int .u64 b] w fun e w' => e = .returned (.tuple #[.int .u64 (aluV 6 true a b), .bool (aluOk 6 true)]) ∧ w = w' := by
  have q1 : 0 ≤ a % 4294967296 ∧ a % 4294967296 < 4294967296 := by omega
  have q2 : 0 ≤ b % 32 ∧ b % 32 < 32 := by omega
  have q3 : 0 ≤ b % 64 ∧ b % 64 < 64 := by omega
  have q4 : 0 ≤ IntKind.u64.wrap (a + b) ∧ IntKind.u64.wrap (a + b) < 18446744073709551616 := by rw [IntKind.wrap_u64]; omega
  have q5 : 0 ≤ IntKind.u64.wrap (a - b) ∧ IntKind.u64.wrap (a - b) < 18446744073709551616 := by rw [IntKind.wrap_u64]; omega
  have q6 := sh32_bd 6 (a % 4294967296) (b % 32) q1.1 q1.2
  go_enter Try.func8, Try.ntmps8
  go_wp2
  go_ret2
  exact ⟨ret_two (by simp [aluV, turnOk, turnV, extV, sx]) (by decide), rfl⟩
theorem ralu_7w (a b : Int) (h0 : 0 ≤ a) (h1 : a < 18446744073709551616) (h2 : 0 ≤ b) (h3 : b < 18446744073709551616) (w : World) :
    Calls Try.prog 8 #[.int .i64 7, .bool true, .int .u64 a, .int .u64 b] w fun e w' => e = .returned (.tuple #[.int .u64 (aluV 7 true a b), .bool (aluOk 7 true)]) ∧ w = w' := by
  have q1 : 0 ≤ a % 4294967296 ∧ a % 4294967296 < 4294967296 := by omega
  have q2 : 0 ≤ b % 32 ∧ b % 32 < 32 := by omega
  have q3 : 0 ≤ b % 64 ∧ b % 64 < 64 := by omega
  have q4 : 0 ≤ IntKind.u64.wrap (a + b) ∧ IntKind.u64.wrap (a + b) < 18446744073709551616 := by rw [IntKind.wrap_u64]; omega
  have q5 : 0 ≤ IntKind.u64.wrap (a - b) ∧ IntKind.u64.wrap (a - b) < 18446744073709551616 := by rw [IntKind.wrap_u64]; omega
  have q6 := sh32_bd 7 (a % 4294967296) (b % 32) q1.1 q1.2
  go_enter Try.func8, Try.ntmps8
  go_wp2
  go_ret2
  exact ⟨ret_two (by simp [aluV, turnOk, turnV, extV, sx]) (by decide), rfl⟩
theorem ralu_none (fn : Int) (wide : Bool) (a b : Int) (c : ¬ (fn = 0 ∨ fn = 8 ∨ (fn = 1 ∨ fn = 5 ∨ fn = 9) ∨ fn = 2 ∨ fn = 3 ∨ fn = 4 ∨ fn = 6 ∨ fn = 7)) (h0 : 0 ≤ a) (h1 : a < 18446744073709551616) (h2 : 0 ≤ b) (h3 : b < 18446744073709551616) (w : World) :
    Calls Try.prog 8 #[.int .i64 fn, .bool wide, .int .u64 a, .int .u64 b] w fun e w' => e = .returned (.tuple #[.int .u64 (aluV fn wide a b), .bool (aluOk fn wide)]) ∧ w = w' := by
  have n0 : (fn == 0) = false := by simp; omega
  have n1 : (fn == 8) = false := by simp; omega
  have n2 : (fn == 1) = false := by simp; omega
  have n3 : (fn == 5) = false := by simp; omega
  have n4 : (fn == 9) = false := by simp; omega
  have n5 : (fn == 2) = false := by simp; omega
  have n6 : (fn == 3) = false := by simp; omega
  have n7 : (fn == 4) = false := by simp; omega
  have n8 : (fn == 6) = false := by simp; omega
  have n9 : (fn == 7) = false := by simp; omega
  clear c
  cases wide
  all_goals
    go_enter Try.func8, Try.ntmps8
    go_wp2
    go_ret2
    simp only [beq_eq_false_iff_ne] at n0 n1 n2 n3 n4 n5 n6 n7 n8 n9
    refine ⟨ret_two ?_ ?_, rfl⟩ <;> simp [aluV, aluOk, turnOk, turnV, cmV, cmOk, extV, sx, n0, n1, n2, n3, n4, n5, n6, n7, n8, n9]
theorem ralu_w (fn : Int) (wide : Bool) (a b : Int) (h0 : 0 ≤ a) (h1 : a < 18446744073709551616) (h2 : 0 ≤ b) (h3 : b < 18446744073709551616) (w : World) :
    Calls Try.prog 8 #[.int .i64 fn, .bool wide, .int .u64 a, .int .u64 b] w fun e w' => e = .returned (.tuple #[.int .u64 (aluV fn wide a b), .bool (aluOk fn wide)]) ∧ w = w' := by
  by_cases c : fn = 0 ∨ fn = 8 ∨ (fn = 1 ∨ fn = 5 ∨ fn = 9) ∨ fn = 2 ∨ fn = 3 ∨ fn = 4 ∨ fn = 6 ∨ fn = 7
  · cases wide
    · rcases c with rfl | rfl | (rfl | rfl | rfl) | rfl | rfl | rfl | rfl | rfl
      · exact ralu_0 a b h0 h1 h2 h3 w
      · exact ralu_8 a b h0 h1 h2 h3 w
      · exact ralu_1 a b h0 h1 h2 h3 w
      · exact ralu_5 a b h0 h1 h2 h3 w
      · exact ralu_9 a b h0 h1 h2 h3 w
      · exact ralu_2 a b h0 h1 h2 h3 w
      · exact ralu_3 a b h0 h1 h2 h3 w
      · exact ralu_4 a b h0 h1 h2 h3 w
      · exact ralu_6 a b h0 h1 h2 h3 w
      · exact ralu_7 a b h0 h1 h2 h3 w
    · rcases c with rfl | rfl | (rfl | rfl | rfl) | rfl | rfl | rfl | rfl | rfl
      · exact ralu_0w a b h0 h1 h2 h3 w
      · exact ralu_8w a b h0 h1 h2 h3 w
      · exact ralu_1w a b h0 h1 h2 h3 w
      · exact ralu_5w a b h0 h1 h2 h3 w
      · exact ralu_9w a b h0 h1 h2 h3 w
      · exact ralu_2w a b h0 h1 h2 h3 w
      · exact ralu_3w a b h0 h1 h2 h3 w
      · exact ralu_4w a b h0 h1 h2 h3 w
      · exact ralu_6w a b h0 h1 h2 h3 w
      · exact ralu_7w a b h0 h1 h2 h3 w
  · exact ralu_none fn wide a b c h0 h1 h2 h3 w
end Go.Proofs.Ytglhfdamgblhdaa
