/-
  Contracts of the document's answer for layer 1 (ravelinref01): what each function, loop by loop and bit by bit, returns for any numbers within their types; the world stays.
-/
import Derived.Test.YtglhfdamgblhdaaDoorWord
import Derived.Test.YtglhfdamgblhdaaDoorWRefM
namespace Go.Proofs.YtglhfdamgblhdaaDoor
open Go.ChangeShapes Go.WideShapes Go.ChangeAt Go.RowKit
set_option linter.unusedVariables false
set_option linter.unusedSimpArgs false
theorem val_u64 {a b : Int} (h : a = b) : Value.int .u64 a = Value.int .u64 b := by rw [h]

theorem rbit_w (a i : Int) (h0 : 0 ≤ a) (h1 : a < 18446744073709551616) (hi : 0 ≤ i) (hi2 : i < 64) (w : World) :
    Calls Tryd.prog 22 #[.int .u64 a, .int .i64 i] w fun e w' => e = .returned (.int .u64 (bitV a i)) ∧ w = w' := by
  have d := (div_bd a i.toNat h0).1
  go_enter Tryd.func22, Tryd.ntmps22
  go_wp2
  go_ret
  exact ⟨rfl, rfl⟩
theorem rlow_w (a : Int) (n : Nat) (h0 : 0 ≤ a) (h1 : a < 18446744073709551616) (hi2 : n < 64) (w : World) :
    Calls Tryd.prog 17 #[.int .u64 a, .int .i64 n] w fun e w' => e = .returned (.int .u64 (a % 2 ^ n)) ∧ w = w' := by
  go_enter Tryd.func17, Tryd.ntmps17
  go_wp2
  go_loop [5, 6] (fun o i => ∃ k : Nat, k ≤ n ∧ i = .int .i64 k ∧ o = .int .u64 (a % 2 ^ k)) (fun _ i => n - (intOf i).toNat)
  case atStart => exact ⟨0, by omega, rfl, by simp [Int.emod_one]⟩
  case round =>
    obtain ⟨k, hk, rfl, rfl⟩ := hrel
    have hb := bitV_bd a k
    by_cases hlt : k < n
    · go_wp2_with (go_at_call 22; refine (rbit_w _ _ (by omega) (by omega) (by omega) (by omega) _).mono ?_; rintro e w' ⟨rfl, rfl⟩)
      go_round
      case rel => exact ⟨k + 1, by omega, by go_num, val_u64 (by rw [or_add _ _ _ (mod_bd a k).1 (mod_bd a k).2 hb (by omega), low_step a h0 k])⟩
      case measure => simp [intOf]; omega
    · go_wp2
      go_ret
      obtain rfl : k = n := by omega
      exact ⟨rfl, rfl⟩
theorem rup_w (a : Int) (n : Nat) (h0 : 0 ≤ a) (h1 : a < 18446744073709551616) (hi : 1 ≤ n) (hi2 : n ≤ 64) (w : World) :
    Calls Tryd.prog 16 #[.int .u64 a, .int .i64 n] w fun e w' => e = .returned (.int .u64 (upV a n 64)) ∧ w = w' := by
  go_enter Tryd.func16, Tryd.ntmps16
  go_wp2
  go_loop [5, 6] (fun o i => ∃ k : Nat, k ≤ 64 ∧ i = .int .i64 k ∧ o = .int .u64 (upV a n k)) (fun _ i => 64 - (intOf i).toNat)
  case atStart => exact ⟨0, by omega, rfl, by simp [upV, Int.emod_one]⟩
  case round =>
    obtain ⟨k, hk, rfl, rfl⟩ := hrel
    have hb := bitV_bd a (if (n : Int) - 1 < (k : Int) then (n : Int) - 1 else (k : Int))
    by_cases hlt : k < 64
    · go_wp2_with (go_at_call 22; refine (rbit_w _ _ (by omega) (by omega) (by split <;> omega) (by split <;> omega) _).mono ?_; rintro e w' ⟨rfl, rfl⟩)
      go_round
      case rel => exact ⟨k + 1, by omega, by go_num, val_u64 (by rw [or_add _ _ _ (upV_bd a n k).1 (upV_bd a n k).2 hb (by omega), up_step a h0 n k hi])⟩
      case measure => simp [intOf]; omega
    · go_wp2
      go_ret
      obtain rfl : k = 64 := by omega
      exact ⟨rfl, rfl⟩
theorem rless_w (a b : Int) (s : Bool) (h0 : 0 ≤ a) (h1 : a < 18446744073709551616) (h2 : 0 ≤ b) (h3 : b < 18446744073709551616) (w : World) :
    Calls Tryd.prog 15 #[.int .u64 a, .int .u64 b, .bool s] w fun e w' => e = .returned (.bool (lessV s a b)) ∧ w = w' := by
  go_enter Tryd.func15, Tryd.ntmps15
  go_wp2
  go_loop [7] (fun i => ∃ k : Nat, k ≤ 64 ∧ i = .int .i64 ((k : Int) - 1) ∧ Hid (a / 2 ^ k = b / 2 ^ k)) (fun i => ((intOf i) + 1).toNat)
  case atStart => exact ⟨64, by omega, rfl, (by rw [Int.ediv_eq_zero_of_lt h0 (by have : (2 : Int) ^ 64 = 18446744073709551616 := by decide
                                                                                  omega), Int.ediv_eq_zero_of_lt h2 (by have : (2 : Int) ^ 64 = 18446744073709551616 := by decide
                                                                                                                        omega)] : a / 2 ^ 64 = b / 2 ^ 64)⟩
  case round =>
    obtain ⟨k, hk, rfl, H⟩ := hrel
    by_cases hlt : 1 ≤ k
    · obtain ⟨j, rfl⟩ : ∃ j, k = j + 1 := ⟨k - 1, by omega⟩
      have ej : ((j + 1 : Nat) : Int) - 1 = (j : Int) := by omega
      rw [ej]
      clear ej
      have ba := bitV_bd a j
      have bb := bitV_bd b j
      have hjj : (j : Int) < 64 := by omega
      by_cases heq : bitV a j = bitV b j
      · have ne : (bitV a j != bitV b j) = false := by simp [heq]
        have HE := Lib.hid heq
        clear heq
        go_wp2_with (go_at_call 22; refine (rbit_w _ _ (by omega) (by omega) (by omega) (by omega) _).mono ?_; rintro e w' ⟨rfl, rfl⟩)
        go_round
        case rel => exact ⟨j, by omega, rfl, same_bit a b j H.out HE.out⟩
        case measure => simp [intOf]
      · rcases (show (bitV a j = 0 ∧ bitV b j = 1) ∨ (bitV a j = 1 ∧ bitV b j = 0) by omega) with ⟨x, y⟩ | ⟨x, y⟩
        · by_cases ht : j = 63
          · have L := Lib.hid (less_top' a b j ht h0 h1 h2 h3 x y)
            have hj : ((j : Int) == 63) = true := by simp; omega
            clear heq ht
            cases s
            all_goals
              go_wp2_with (go_at_call 22; refine (rbit_w _ _ (by omega) (by omega) (by omega) (by omega) _).mono ?_; rintro e w' ⟨rfl, rfl⟩)
              go_ret
              have l := L.out
              exact ⟨ret_bool (by simp [l]), rfl⟩
          · have L := Lib.hid (less_at s a b j h0 h1 h2 h3 (by omega) H.out x y)
            have hj : ((j : Int) == 63) = false := by simp; omega
            clear heq ht
            cases s
            all_goals
              go_wp2_with (go_at_call 22; refine (rbit_w _ _ (by omega) (by omega) (by omega) (by omega) _).mono ?_; rintro e w' ⟨rfl, rfl⟩)
              go_ret
              have l := L.out
              exact ⟨ret_bool (by simp [l]), rfl⟩
        · by_cases ht : j = 63
          · have L := Lib.hid (less_top' b a j ht h2 h3 h0 h1 y x)
            have hj : ((j : Int) == 63) = true := by simp; omega
            clear heq ht
            cases s
            all_goals
              go_wp2_with (go_at_call 22; refine (rbit_w _ _ (by omega) (by omega) (by omega) (by omega) _).mono ?_; rintro e w' ⟨rfl, rfl⟩)
              go_ret
              have l := L.out
              exact ⟨ret_bool (by simp [l]), rfl⟩
          · have L := Lib.hid (less_at s b a j h2 h3 h0 h1 (by omega) H.out.symm y x)
            have hj : ((j : Int) == 63) = false := by simp; omega
            clear heq ht
            cases s
            all_goals
              go_wp2_with (go_at_call 22; refine (rbit_w _ _ (by omega) (by omega) (by omega) (by omega) _).mono ?_; rintro e w' ⟨rfl, rfl⟩)
              go_ret
              have l := L.out
              exact ⟨ret_bool (by simp [l]), rfl⟩
    · obtain rfl : k = 0 := by omega
      have hn : ¬ (0 : Int) ≤ ((0 : Nat) : Int) - 1 := by omega
      go_wp2
      go_ret
      have e : a = b := by have := H.out; simpa using this
      exact ⟨ret_bool (by rw [e, less_same]), rfl⟩
end Go.Proofs.YtglhfdamgblhdaaDoor
