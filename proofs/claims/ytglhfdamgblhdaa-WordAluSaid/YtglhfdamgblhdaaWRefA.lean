/-
  Contracts of the document's answer for layer 1: bits, shifts and Alu return, for any numbers within their types, what WMath's functions say; the world stays.
-/
import Derived.Test.YtglhfdamgblhdaaWRef
namespace Go.Proofs.Ytglhfdamgblhdaa
open Go.ChangeShapes Go.WideShapes Go.ChangeAt Go.RowKit
set_option linter.unusedVariables false
set_option linter.unusedSimpArgs false

/-- What one bit more makes. -/
theorem keep_step (c : Int) (h0 : 0 ≤ c) (k : Nat) (h : bitV c (k : Int) = 0) : c % 2 ^ k = c % 2 ^ (k + 1) := by rw [low_step c h0 k, h]; omega
theorem lay_step (c : Int) (h0 : 0 ≤ c) (k : Nat) (hk : k < 64) (h : bitV c (k : Int) = 1) : bits .or .u64 (c % 2 ^ k) (IntKind.u64.wrap (2 ^ k)) = c % 2 ^ (k + 1) := by
  have e := or_add (c % 2 ^ k) 1 k (mod_bd c k).1 (mod_bd c k).2 (by omega) hk
  rw [Int.one_mul] at e
  rw [e, low_step c h0 k, h, Int.one_mul]
theorem whole (c : Int) (h0 : 0 ≤ c) (h1 : c < 18446744073709551616) : c % 2 ^ 64 = c :=
  Int.emod_eq_of_lt h0 (by have : (2 : Int) ^ 64 = 18446744073709551616 := by decide
                           omega)
theorem bits_bd (op : BinOp) (a b : Int) : 0 ≤ bits op .u64 a b ∧ bits op .u64 a b < 18446744073709551616 :=
  ⟨bits_lo_u64 op a b, by have := bits_hi_u64 op a b; omega⟩
theorem rbits4_w (a b : Int) (h0 : 0 ≤ a) (h1 : a < 18446744073709551616) (h2 : 0 ≤ b) (h3 : b < 18446744073709551616) (w : World) :
    Calls Try.prog 21 #[.int .i64 4, .int .u64 a, .int .u64 b] w fun e w' => e = .returned (.int .u64 (bits .xor .u64 a b)) ∧ w = w' := by
  have cb := bits_bd .xor a b
  go_enter Try.func21, Try.ntmps21
  go_wp2
  go_loop [7, 8] (fun o i => ∃ k : Nat, k ≤ 64 ∧ i = .int .i64 k ∧ o = .int .u64 (bits .xor .u64 a b % 2 ^ k)) (fun _ i => 64 - (intOf i).toNat)
  case atStart => exact ⟨0, by omega, rfl, by simp [Int.emod_one]⟩
  case round =>
    obtain ⟨k, hk, rfl, rfl⟩ := hrel
    have C := Lib.hid (bit_xor a b h0 h1 h2 h3 k)
    have ba := bitV_bd a k
    have bb := bitV_bd b k
    by_cases hlt : k < 64
    · rcases zero_one ba with x | x <;> rcases zero_one bb with y | y
      all_goals
        go_wp2_with (go_at_call 26; refine (rbit_w _ _ (by omega) (by omega) (by omega) (by omega) _).mono ?_; rintro e w' ⟨rfl, rfl⟩)
        go_round
        case rel => exact ⟨k + 1, by omega, by go_num, val_u64 (by have c := C.out; rw [x, y] at c; first | exact keep_step _ cb.1 k (by simpa using c) | exact lay_step _ cb.1 k hlt (by simpa using c))⟩
        case measure => simp [intOf]; omega
    · go_wp2
      go_ret
      obtain rfl : k = 64 := by omega
      exact ⟨ret_int (whole _ cb.1 cb.2), rfl⟩
theorem rbits6_w (a b : Int) (h0 : 0 ≤ a) (h1 : a < 18446744073709551616) (h2 : 0 ≤ b) (h3 : b < 18446744073709551616) (w : World) :
    Calls Try.prog 21 #[.int .i64 6, .int .u64 a, .int .u64 b] w fun e w' => e = .returned (.int .u64 (bits .or .u64 a b)) ∧ w = w' := by
  have cb := bits_bd .or a b
  go_enter Try.func21, Try.ntmps21
  go_wp2
  go_loop [7, 8] (fun o i => ∃ k : Nat, k ≤ 64 ∧ i = .int .i64 k ∧ o = .int .u64 (bits .or .u64 a b % 2 ^ k)) (fun _ i => 64 - (intOf i).toNat)
  case atStart => exact ⟨0, by omega, rfl, by simp [Int.emod_one]⟩
  case round =>
    obtain ⟨k, hk, rfl, rfl⟩ := hrel
    have C := Lib.hid (bit_or a b h0 h1 h2 h3 k)
    have ba := bitV_bd a k
    have bb := bitV_bd b k
    by_cases hlt : k < 64
    · rcases zero_one ba with x | x <;> rcases zero_one bb with y | y
      all_goals
        go_wp2_with (go_at_call 26; refine (rbit_w _ _ (by omega) (by omega) (by omega) (by omega) _).mono ?_; rintro e w' ⟨rfl, rfl⟩)
        go_round
        case rel => exact ⟨k + 1, by omega, by go_num, val_u64 (by have c := C.out; rw [x, y] at c; first | exact keep_step _ cb.1 k (by simpa using c) | exact lay_step _ cb.1 k hlt (by simpa using c))⟩
        case measure => simp [intOf]; omega
    · go_wp2
      go_ret
      obtain rfl : k = 64 := by omega
      exact ⟨ret_int (whole _ cb.1 cb.2), rfl⟩
theorem rbits7_w (a b : Int) (h0 : 0 ≤ a) (h1 : a < 18446744073709551616) (h2 : 0 ≤ b) (h3 : b < 18446744073709551616) (w : World) :
    Calls Try.prog 21 #[.int .i64 7, .int .u64 a, .int .u64 b] w fun e w' => e = .returned (.int .u64 (bits .and .u64 a b)) ∧ w = w' := by
  have cb := bits_bd .and a b
  go_enter Try.func21, Try.ntmps21
  go_wp2
  go_loop [7, 8] (fun o i => ∃ k : Nat, k ≤ 64 ∧ i = .int .i64 k ∧ o = .int .u64 (bits .and .u64 a b % 2 ^ k)) (fun _ i => 64 - (intOf i).toNat)
  case atStart => exact ⟨0, by omega, rfl, by simp [Int.emod_one]⟩
  case round =>
    obtain ⟨k, hk, rfl, rfl⟩ := hrel
    have C := Lib.hid (bit_and a b h0 h1 h2 h3 k)
    have ba := bitV_bd a k
    have bb := bitV_bd b k
    by_cases hlt : k < 64
    · rcases zero_one ba with x | x <;> rcases zero_one bb with y | y
      all_goals
        go_wp2_with (go_at_call 26; refine (rbit_w _ _ (by omega) (by omega) (by omega) (by omega) _).mono ?_; rintro e w' ⟨rfl, rfl⟩)
        go_round
        case rel => exact ⟨k + 1, by omega, by go_num, val_u64 (by have c := C.out; rw [x, y] at c; first | exact keep_step _ cb.1 k (by simpa using c) | exact lay_step _ cb.1 k hlt (by simpa using c))⟩
        case measure => simp [intOf]; omega
    · go_wp2
      go_ret
      obtain rfl : k = 64 := by omega
      exact ⟨ret_int (whole _ cb.1 cb.2), rfl⟩
theorem down_zero (a : Int) (s W : Nat) (h0 : 0 ≤ a) (h : a < 2 ^ W) (hs : s ≤ W) : downV a s W 0 W = a / 2 ^ s := by
  rw [down_end a s W 0 h0 h hs]; omega
theorem rshifts1_w (a : Int) (s W : Nat) (h0 : 0 ≤ a) (h1 : a < 18446744073709551616) (hs : s < 64) (w : World) :
    Calls Try.prog 17 #[.int .i64 1, .int .u64 a, .int .i64 s, .int .i64 W] w fun e w' => e = .returned (.int .u64 (a * 2 ^ s % 18446744073709551616)) ∧ w = w' := by
  go_enter Try.func17, Try.ntmps17
  go_wp2
  go_ret
  exact ⟨ret_int (by rw [IntKind.wrap_u64]), rfl⟩
theorem rshifts5_w (a : Int) (s W : Nat) (h0 : 0 ≤ a) (h1 : a < 18446744073709551616) (h2 : a < 2 ^ W) (hs : s < W) (hW : W ≤ 64) (w : World) :
    Calls Try.prog 17 #[.int .i64 5, .int .u64 a, .int .i64 s, .int .i64 W] w fun e w' => e = .returned (.int .u64 (a / 2 ^ s)) ∧ w = w' := by
  have D := Lib.hid (down_zero a s W h0 h2 (by omega))
  clear h2
  go_enter Try.func17, Try.ntmps17
  go_wp2_with (go_at_call 27; refine (rdown_w a s W 0 h0 h1 hs hW (by omega) _).mono ?_; rintro e w' ⟨rfl, rfl⟩)
  go_ret
  exact ⟨ret_int D.out, rfl⟩
theorem rshifts9_w (a : Int) (s W : Nat) (h0 : 0 ≤ a) (h1 : a < 18446744073709551616) (h2 : a < 2 ^ W) (hs : s < W) (hW : W ≤ 64) (w : World) :
    Calls Try.prog 17 #[.int .i64 9, .int .u64 a, .int .i64 s, .int .i64 W] w fun e w' => e = .returned (.int .u64 (sraV (2 ^ W) a s)) ∧ w = w' := by
  have D := Lib.hid (down_sra a s W h0 h2 hs)
  clear h2
  have bb := bitV_bd a ((W : Int) - 1)
  go_enter Try.func17, Try.ntmps17
  go_wp2_with (first | (go_at_call 26; refine (rbit_w _ _ (by omega) (by omega) (by omega) (by omega) _).mono ?_; rintro e w' ⟨rfl, rfl⟩) | (go_at_call 27; refine (rdown_w a s W _ h0 h1 hs hW bb _).mono ?_; rintro e w' ⟨rfl, rfl⟩))
  go_ret
  exact ⟨ret_int D.out, rfl⟩
end Go.Proofs.Ytglhfdamgblhdaa
