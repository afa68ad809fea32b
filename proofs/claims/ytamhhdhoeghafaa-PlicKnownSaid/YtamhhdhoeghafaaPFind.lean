/-
  The program's interrupt controller: which register stands at an offset. No condition.
-/
import Derived.Test.YtamhhdhoeghafaaPObj
namespace Go.Proofs.Ytamhhdhoeghafaa
open Go.ChangeShapes Go.WideShapes Go.ChangeAt Go.RowKit
set_option linter.unusedVariables false
set_option linter.unusedSimpArgs false
set_option maxHeartbeats 4000000 in
theorem cfind_pr (w : World) (k : Nat) (hk : k < 32) :
    Calls Try.prog 23 #[.int .i64 ((4 * k : Nat) : Int), .int .i64 4] w fun e w' => e = .returned (.tuple #[.int .i64 1, .int .i64 (k : Int)]) ∧ w = w' := by
  have f0 : decide (((4 * k : Nat) : Int) < 0) = false := by simp; omega
  have f1 : (((4 * k : Nat) : Int).tmod 4 != 0) = false := by rw [Int.tmod_eq_emod_of_nonneg (by omega)]; simp
  have f1' : (((4 * k : Nat) : Int) % 4 != 0) = false := by simp
  have f2 : decide (((4 * k : Nat) : Int) < 128) = true := by simp; omega
  have f3 : ((4 * k : Nat) : Int).tdiv 4 = (k : Int) := by rw [Int.tdiv_eq_ediv_of_nonneg (by omega)]; omega
  have f4 : ((4 * k : Nat) : Int) / 4 = (k : Int) := by omega
  generalize ((4 * k : Nat) : Int) = o at *
  go_enter Try.func23, Try.ntmps23
  go_wp2
  go_ret2
  exact ⟨rfl, rfl⟩
theorem cfind_pend (w : World) :
    Calls Try.prog 23 #[.int .i64 4096, .int .i64 4] w fun e w' => e = .returned (.tuple #[.int .i64 2, .int .i64 0]) ∧ w = w' := by
  go_enter Try.func23, Try.ntmps23
  go_wp2
  go_ret2
  exact ⟨rfl, rfl⟩
set_option maxHeartbeats 4000000 in
theorem cfind_8192 (w : World) :
    Calls Try.prog 23 #[.int .i64 8192, .int .i64 4] w fun e w' => e = .returned (.tuple #[.int .i64 3, .int .i64 0]) ∧ w = w' := by
  go_enter Try.func23, Try.ntmps23
  go_wp2
  go_loop [27] (fun i => ∃ k : Nat, k ≤ 0 ∧ i = .int .i64 (k : Int)) (fun i => 0 - (intOf i).toNat)
  case atStart => exact ⟨0, by omega, rfl⟩
  case round =>
    obtain ⟨k, hk, rfl⟩ := hrel
    rcases (show k = 0 by omega) with rfl
    · go_wp2
      go_ret2
      exact ⟨rfl, rfl⟩
set_option maxHeartbeats 4000000 in
theorem cfind_8320 (w : World) :
    Calls Try.prog 23 #[.int .i64 8320, .int .i64 4] w fun e w' => e = .returned (.tuple #[.int .i64 3, .int .i64 1]) ∧ w = w' := by
  go_enter Try.func23, Try.ntmps23
  go_wp2
  go_loop [27] (fun i => ∃ k : Nat, k ≤ 1 ∧ i = .int .i64 (k : Int)) (fun i => 1 - (intOf i).toNat)
  case atStart => exact ⟨0, by omega, rfl⟩
  case round =>
    obtain ⟨k, hk, rfl⟩ := hrel
    rcases (show k = 0 ∨ k = 1 by omega) with rfl | rfl
    · go_wp2
      go_round
      case rel => exact ⟨1, by omega, by go_num⟩
      case measure => simp [intOf]
    · go_wp2
      go_ret2
      exact ⟨rfl, rfl⟩
set_option maxHeartbeats 4000000 in
theorem cfind_2097152 (w : World) :
    Calls Try.prog 23 #[.int .i64 2097152, .int .i64 4] w fun e w' => e = .returned (.tuple #[.int .i64 4, .int .i64 0]) ∧ w = w' := by
  go_enter Try.func23, Try.ntmps23
  go_wp2
  go_loop [27] (fun i => ∃ k : Nat, k ≤ 0 ∧ i = .int .i64 (k : Int)) (fun i => 0 - (intOf i).toNat)
  case atStart => exact ⟨0, by omega, rfl⟩
  case round =>
    obtain ⟨k, hk, rfl⟩ := hrel
    rcases (show k = 0 by omega) with rfl
    · go_wp2
      go_ret2
      exact ⟨rfl, rfl⟩
set_option maxHeartbeats 4000000 in
theorem cfind_2101248 (w : World) :
    Calls Try.prog 23 #[.int .i64 2101248, .int .i64 4] w fun e w' => e = .returned (.tuple #[.int .i64 4, .int .i64 1]) ∧ w = w' := by
  go_enter Try.func23, Try.ntmps23
  go_wp2
  go_loop [27] (fun i => ∃ k : Nat, k ≤ 1 ∧ i = .int .i64 (k : Int)) (fun i => 1 - (intOf i).toNat)
  case atStart => exact ⟨0, by omega, rfl⟩
  case round =>
    obtain ⟨k, hk, rfl⟩ := hrel
    rcases (show k = 0 ∨ k = 1 by omega) with rfl | rfl
    · go_wp2
      go_round
      case rel => exact ⟨1, by omega, by go_num⟩
      case measure => simp [intOf]
    · go_wp2
      go_ret2
      exact ⟨rfl, rfl⟩
set_option maxHeartbeats 4000000 in
theorem cfind_2097156 (w : World) :
    Calls Try.prog 23 #[.int .i64 2097156, .int .i64 4] w fun e w' => e = .returned (.tuple #[.int .i64 5, .int .i64 0]) ∧ w = w' := by
  go_enter Try.func23, Try.ntmps23
  go_wp2
  go_loop [27] (fun i => ∃ k : Nat, k ≤ 0 ∧ i = .int .i64 (k : Int)) (fun i => 0 - (intOf i).toNat)
  case atStart => exact ⟨0, by omega, rfl⟩
  case round =>
    obtain ⟨k, hk, rfl⟩ := hrel
    rcases (show k = 0 by omega) with rfl
    · go_wp2
      go_ret2
      exact ⟨rfl, rfl⟩
set_option maxHeartbeats 4000000 in
theorem cfind_2101252 (w : World) :
    Calls Try.prog 23 #[.int .i64 2101252, .int .i64 4] w fun e w' => e = .returned (.tuple #[.int .i64 5, .int .i64 1]) ∧ w = w' := by
  go_enter Try.func23, Try.ntmps23
  go_wp2
  go_loop [27] (fun i => ∃ k : Nat, k ≤ 1 ∧ i = .int .i64 (k : Int)) (fun i => 1 - (intOf i).toNat)
  case atStart => exact ⟨0, by omega, rfl⟩
  case round =>
    obtain ⟨k, hk, rfl⟩ := hrel
    rcases (show k = 0 ∨ k = 1 by omega) with rfl | rfl
    · go_wp2
      go_round
      case rel => exact ⟨1, by omega, by go_num⟩
      case measure => simp [intOf]
    · go_wp2
      go_ret2
      exact ⟨rfl, rfl⟩
set_option maxHeartbeats 4000000 in
theorem cfind_no (w : World) (off size : Int) (h : rgO off size = false) :
    Calls Try.prog 23 #[.int .i64 off, .int .i64 size] w fun e w' => e = .returned (.tuple #[.int .i64 0, .int .i64 0]) ∧ w = w' := by
  by_cases h4 : size = 4
  · subst h4
    have ff : ((4 : Int) != 4) = false := rfl
    by_cases h0 : off < 0
    · have t0 : decide (off < 0) = true := by simpa using h0
      clear h
      go_enter Try.func23, Try.ntmps23
      go_wp2
      go_ret2
      exact ⟨rfl, rfl⟩
    · have t0 : decide (off < 0) = false := by simpa using h0
      by_cases h1 : off % 4 = 0
      · have t1 : (off % 4 != 0) = false := by simp [h1]
        have t1' : (off.tmod 4 != 0) = false := by rw [Int.tmod_eq_emod_of_nonneg (by omega)]; exact t1
        have hn : ¬ off < 128 ∧ ¬ off = 4096 ∧ ¬ off = 8192 ∧ ¬ off = 8320 ∧ ¬ off = 2097152 ∧ ¬ off = 2101248 ∧ ¬ off = 2097156 ∧ ¬ off = 2101252 := by
          simp only [rgO, isRg, isPr, Bool.and_eq_false_iff, Bool.or_eq_false_iff, beq_eq_false_iff_ne, decide_eq_false_iff_not] at h
          omega
        obtain ⟨n0, n1, n2, n3, n4, n5, n6, n7⟩ := hn
        have t2 : decide (off < 128) = false := by simpa using n0
        have s1 : (off == 4096) = false := by simpa using n1
        have s2 : (off == 8192) = false := by simpa using n2
        have s3 : (off == 8320) = false := by simpa using n3
        have s4 : (off == 2097152) = false := by simpa using n4
        have s5 : (off == 2101248) = false := by simpa using n5
        have s6 : (off == 2097156) = false := by simpa using n6
        have s7 : (off == 2101252) = false := by simpa using n7
        clear h h0 h1 n0 n1 n2 n3 n4 n5 n6 n7
        go_enter Try.func23, Try.ntmps23
        go_wp2
        go_loop [27] (fun i => ∃ k : Nat, k ≤ 2 ∧ i = .int .i64 (k : Int)) (fun i => 2 - (intOf i).toNat)
        case atStart => exact ⟨0, by omega, rfl⟩
        case round =>
          obtain ⟨k, hk, rfl⟩ := hrel
          rcases (show k = 0 ∨ k = 1 ∨ k = 2 by omega) with rfl | rfl | rfl
          · go_wp2
            go_round
            case rel => exact ⟨1, by omega, by go_num⟩
            case measure => simp [intOf]
          · go_wp2
            go_round
            case rel => exact ⟨2, by omega, by go_num⟩
            case measure => simp [intOf]
          · go_wp2
            go_ret2
            exact ⟨rfl, rfl⟩
      · have h2 : ¬ off.tmod 4 = 0 := by rw [Int.tmod_eq_emod_of_nonneg (by omega)]; exact h1
        have t1 : (off % 4 != 0) = true := by simpa using h1
        have t1' : (off.tmod 4 != 0) = true := by simpa using h2
        clear h h0 h1 h2
        go_enter Try.func23, Try.ntmps23
        go_wp2
        go_ret2
        exact ⟨rfl, rfl⟩
  · have t0 : (size != 4) = true := by simpa using h4
    clear h h4
    go_enter Try.func23, Try.ntmps23
    go_wp2
    go_ret2
    exact ⟨rfl, rfl⟩
end Go.Proofs.Ytamhhdhoeghafaa
