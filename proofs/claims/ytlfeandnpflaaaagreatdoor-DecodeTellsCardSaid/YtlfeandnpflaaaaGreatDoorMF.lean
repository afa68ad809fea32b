/-
  Contracts of the small functions of the document's answer: bits, signs, words. No condition.
  Contracts of the document's answer: the lowest two bits 0, lui, pairs of registers, moves. No condition.
  Contracts of the document's answer: any half. No condition.
-/
import Derived.Test.YtlfeandnpflaaaaGreatDoorMD
namespace Go.Proofs.YtlfeandnpflaaaaGreatDoor
open Go.ChangeShapes Go.WideShapes Go.ChangeAt Go.RowKit
set_option linter.unusedVariables false
set_option linter.unusedSimpArgs false
theorem tm_neg (n p : Int) (hp : 0 < p) (h : n.tmod p < 0) : n % p = n.tmod p + p := by
  have e := Int.tmod_eq_emod (a := n) (b := p)
  have := Int.emod_nonneg n (by omega : p ≠ 0)
  split at e <;> omega
theorem tm_pos (n p : Int) (hp : 0 < p) (h : 0 ≤ n.tmod p) : n.tmod p = n % p := by
  have e := Int.tmod_eq_emod (a := n) (b := p)
  have := Int.emod_lt_of_pos n hp
  split at e <;> omega
theorem at_4_2 (x : Int) (x0 : 0 ≤ x) (x1 : x < 65536) (w : World) :
    Calls Tryz.prog 45 #[.int .i64 x, .int .i64 4, .int .i64 2] w fun e w' => e = .returned (.int .i64 (x / 4 % 8)) ∧ w = w' := by
  have e1 : x.tdiv 4 = x / 4 := Int.tdiv_eq_ediv_of_nonneg x0
  have e2 : (x / 4).tmod 8 = x / 4 % 8 := Int.tmod_eq_emod_of_nonneg (by omega)
  go_enter Tryz.func45, Tryz.ntmps45
  go_wp2
  go_ret
  exact ⟨ret_int (by first | rfl | (simp only [e1, e2]; done) | (simp only [e1, e2, wrap64]; omega)), rfl⟩
theorem at_9_7 (x : Int) (x0 : 0 ≤ x) (x1 : x < 65536) (w : World) :
    Calls Tryz.prog 45 #[.int .i64 x, .int .i64 9, .int .i64 7] w fun e w' => e = .returned (.int .i64 (x / 128 % 8)) ∧ w = w' := by
  have e1 : x.tdiv 128 = x / 128 := Int.tdiv_eq_ediv_of_nonneg x0
  have e2 : (x / 128).tmod 8 = x / 128 % 8 := Int.tmod_eq_emod_of_nonneg (by omega)
  go_enter Tryz.func45, Tryz.ntmps45
  go_wp2
  go_ret
  exact ⟨ret_int (by first | rfl | (simp only [e1, e2]; done) | (simp only [e1, e2, wrap64]; omega)), rfl⟩
theorem at_15_13 (x : Int) (x0 : 0 ≤ x) (x1 : x < 65536) (w : World) :
    Calls Tryz.prog 45 #[.int .i64 x, .int .i64 15, .int .i64 13] w fun e w' => e = .returned (.int .i64 (x / 8192 % 8)) ∧ w = w' := by
  have e1 : x.tdiv 8192 = x / 8192 := Int.tdiv_eq_ediv_of_nonneg x0
  have e2 : (x / 8192).tmod 8 = x / 8192 % 8 := Int.tmod_eq_emod_of_nonneg (by omega)
  go_enter Tryz.func45, Tryz.ntmps45
  go_wp2
  go_ret
  exact ⟨ret_int (by first | rfl | (simp only [e1, e2]; done) | (simp only [e1, e2, wrap64]; omega)), rfl⟩
theorem at_12_11 (x : Int) (x0 : 0 ≤ x) (x1 : x < 65536) (w : World) :
    Calls Tryz.prog 45 #[.int .i64 x, .int .i64 12, .int .i64 11] w fun e w' => e = .returned (.int .i64 (x / 2048 % 4)) ∧ w = w' := by
  have e1 : x.tdiv 2048 = x / 2048 := Int.tdiv_eq_ediv_of_nonneg x0
  have e2 : (x / 2048).tmod 4 = x / 2048 % 4 := Int.tmod_eq_emod_of_nonneg (by omega)
  go_enter Tryz.func45, Tryz.ntmps45
  go_wp2
  go_ret
  exact ⟨ret_int (by first | rfl | (simp only [e1, e2]; done) | (simp only [e1, e2, wrap64]; omega)), rfl⟩
theorem at_10_7 (x : Int) (x0 : 0 ≤ x) (x1 : x < 65536) (w : World) :
    Calls Tryz.prog 45 #[.int .i64 x, .int .i64 10, .int .i64 7] w fun e w' => e = .returned (.int .i64 (x / 128 % 16)) ∧ w = w' := by
  have e1 : x.tdiv 128 = x / 128 := Int.tdiv_eq_ediv_of_nonneg x0
  have e2 : (x / 128).tmod 16 = x / 128 % 16 := Int.tmod_eq_emod_of_nonneg (by omega)
  go_enter Tryz.func45, Tryz.ntmps45
  go_wp2
  go_ret
  exact ⟨ret_int (by first | rfl | (simp only [e1, e2]; done) | (simp only [e1, e2, wrap64]; omega)), rfl⟩
theorem at_6_6 (x : Int) (x0 : 0 ≤ x) (x1 : x < 65536) (w : World) :
    Calls Tryz.prog 45 #[.int .i64 x, .int .i64 6, .int .i64 6] w fun e w' => e = .returned (.int .i64 (x / 64 % 2)) ∧ w = w' := by
  have e1 : x.tdiv 64 = x / 64 := Int.tdiv_eq_ediv_of_nonneg x0
  have e2 : (x / 64).tmod 2 = x / 64 % 2 := Int.tmod_eq_emod_of_nonneg (by omega)
  go_enter Tryz.func45, Tryz.ntmps45
  go_wp2
  go_ret
  exact ⟨ret_int (by first | rfl | (simp only [e1, e2]; done) | (simp only [e1, e2, wrap64]; omega)), rfl⟩
theorem at_5_5 (x : Int) (x0 : 0 ≤ x) (x1 : x < 65536) (w : World) :
    Calls Tryz.prog 45 #[.int .i64 x, .int .i64 5, .int .i64 5] w fun e w' => e = .returned (.int .i64 (x / 32 % 2)) ∧ w = w' := by
  have e1 : x.tdiv 32 = x / 32 := Int.tdiv_eq_ediv_of_nonneg x0
  have e2 : (x / 32).tmod 2 = x / 32 % 2 := Int.tmod_eq_emod_of_nonneg (by omega)
  go_enter Tryz.func45, Tryz.ntmps45
  go_wp2
  go_ret
  exact ⟨ret_int (by first | rfl | (simp only [e1, e2]; done) | (simp only [e1, e2, wrap64]; omega)), rfl⟩
theorem at_11_7 (x : Int) (x0 : 0 ≤ x) (x1 : x < 65536) (w : World) :
    Calls Tryz.prog 45 #[.int .i64 x, .int .i64 11, .int .i64 7] w fun e w' => e = .returned (.int .i64 (x / 128 % 32)) ∧ w = w' := by
  have e1 : x.tdiv 128 = x / 128 := Int.tdiv_eq_ediv_of_nonneg x0
  have e2 : (x / 128).tmod 32 = x / 128 % 32 := Int.tmod_eq_emod_of_nonneg (by omega)
  go_enter Tryz.func45, Tryz.ntmps45
  go_wp2
  go_ret
  exact ⟨ret_int (by first | rfl | (simp only [e1, e2]; done) | (simp only [e1, e2, wrap64]; omega)), rfl⟩
theorem at_12_12 (x : Int) (x0 : 0 ≤ x) (x1 : x < 65536) (w : World) :
    Calls Tryz.prog 45 #[.int .i64 x, .int .i64 12, .int .i64 12] w fun e w' => e = .returned (.int .i64 (x / 4096 % 2)) ∧ w = w' := by
  have e1 : x.tdiv 4096 = x / 4096 := Int.tdiv_eq_ediv_of_nonneg x0
  have e2 : (x / 4096).tmod 2 = x / 4096 % 2 := Int.tmod_eq_emod_of_nonneg (by omega)
  go_enter Tryz.func45, Tryz.ntmps45
  go_wp2
  go_ret
  exact ⟨ret_int (by first | rfl | (simp only [e1, e2]; done) | (simp only [e1, e2, wrap64]; omega)), rfl⟩
theorem at_4_3 (x : Int) (x0 : 0 ≤ x) (x1 : x < 65536) (w : World) :
    Calls Tryz.prog 45 #[.int .i64 x, .int .i64 4, .int .i64 3] w fun e w' => e = .returned (.int .i64 (x / 8 % 4)) ∧ w = w' := by
  have e1 : x.tdiv 8 = x / 8 := Int.tdiv_eq_ediv_of_nonneg x0
  have e2 : (x / 8).tmod 4 = x / 8 % 4 := Int.tmod_eq_emod_of_nonneg (by omega)
  go_enter Tryz.func45, Tryz.ntmps45
  go_wp2
  go_ret
  exact ⟨ret_int (by first | rfl | (simp only [e1, e2]; done) | (simp only [e1, e2, wrap64]; omega)), rfl⟩
theorem at_2_2 (x : Int) (x0 : 0 ≤ x) (x1 : x < 65536) (w : World) :
    Calls Tryz.prog 45 #[.int .i64 x, .int .i64 2, .int .i64 2] w fun e w' => e = .returned (.int .i64 (x / 4 % 2)) ∧ w = w' := by
  have e1 : x.tdiv 4 = x / 4 := Int.tdiv_eq_ediv_of_nonneg x0
  have e2 : (x / 4).tmod 2 = x / 4 % 2 := Int.tmod_eq_emod_of_nonneg (by omega)
  go_enter Tryz.func45, Tryz.ntmps45
  go_wp2
  go_ret
  exact ⟨ret_int (by first | rfl | (simp only [e1, e2]; done) | (simp only [e1, e2, wrap64]; omega)), rfl⟩
theorem at_11_10 (x : Int) (x0 : 0 ≤ x) (x1 : x < 65536) (w : World) :
    Calls Tryz.prog 45 #[.int .i64 x, .int .i64 11, .int .i64 10] w fun e w' => e = .returned (.int .i64 (x / 1024 % 4)) ∧ w = w' := by
  have e1 : x.tdiv 1024 = x / 1024 := Int.tdiv_eq_ediv_of_nonneg x0
  have e2 : (x / 1024).tmod 4 = x / 1024 % 4 := Int.tmod_eq_emod_of_nonneg (by omega)
  go_enter Tryz.func45, Tryz.ntmps45
  go_wp2
  go_ret
  exact ⟨ret_int (by first | rfl | (simp only [e1, e2]; done) | (simp only [e1, e2, wrap64]; omega)), rfl⟩
theorem at_6_5 (x : Int) (x0 : 0 ≤ x) (x1 : x < 65536) (w : World) :
    Calls Tryz.prog 45 #[.int .i64 x, .int .i64 6, .int .i64 5] w fun e w' => e = .returned (.int .i64 (x / 32 % 4)) ∧ w = w' := by
  have e1 : x.tdiv 32 = x / 32 := Int.tdiv_eq_ediv_of_nonneg x0
  have e2 : (x / 32).tmod 4 = x / 32 % 4 := Int.tmod_eq_emod_of_nonneg (by omega)
  go_enter Tryz.func45, Tryz.ntmps45
  go_wp2
  go_ret
  exact ⟨ret_int (by first | rfl | (simp only [e1, e2]; done) | (simp only [e1, e2, wrap64]; omega)), rfl⟩
theorem at_6_2 (x : Int) (x0 : 0 ≤ x) (x1 : x < 65536) (w : World) :
    Calls Tryz.prog 45 #[.int .i64 x, .int .i64 6, .int .i64 2] w fun e w' => e = .returned (.int .i64 (x / 4 % 32)) ∧ w = w' := by
  have e1 : x.tdiv 4 = x / 4 := Int.tdiv_eq_ediv_of_nonneg x0
  have e2 : (x / 4).tmod 32 = x / 4 % 32 := Int.tmod_eq_emod_of_nonneg (by omega)
  go_enter Tryz.func45, Tryz.ntmps45
  go_wp2
  go_ret
  exact ⟨ret_int (by first | rfl | (simp only [e1, e2]; done) | (simp only [e1, e2, wrap64]; omega)), rfl⟩
theorem at_12_10 (x : Int) (x0 : 0 ≤ x) (x1 : x < 65536) (w : World) :
    Calls Tryz.prog 45 #[.int .i64 x, .int .i64 12, .int .i64 10] w fun e w' => e = .returned (.int .i64 (x / 1024 % 8)) ∧ w = w' := by
  have e1 : x.tdiv 1024 = x / 1024 := Int.tdiv_eq_ediv_of_nonneg x0
  have e2 : (x / 1024).tmod 8 = x / 1024 % 8 := Int.tmod_eq_emod_of_nonneg (by omega)
  go_enter Tryz.func45, Tryz.ntmps45
  go_wp2
  go_ret
  exact ⟨ret_int (by first | rfl | (simp only [e1, e2]; done) | (simp only [e1, e2, wrap64]; omega)), rfl⟩
theorem at_11_11 (x : Int) (x0 : 0 ≤ x) (x1 : x < 65536) (w : World) :
    Calls Tryz.prog 45 #[.int .i64 x, .int .i64 11, .int .i64 11] w fun e w' => e = .returned (.int .i64 (x / 2048 % 2)) ∧ w = w' := by
  have e1 : x.tdiv 2048 = x / 2048 := Int.tdiv_eq_ediv_of_nonneg x0
  have e2 : (x / 2048).tmod 2 = x / 2048 % 2 := Int.tmod_eq_emod_of_nonneg (by omega)
  go_enter Tryz.func45, Tryz.ntmps45
  go_wp2
  go_ret
  exact ⟨ret_int (by first | rfl | (simp only [e1, e2]; done) | (simp only [e1, e2, wrap64]; omega)), rfl⟩
theorem at_10_9 (x : Int) (x0 : 0 ≤ x) (x1 : x < 65536) (w : World) :
    Calls Tryz.prog 45 #[.int .i64 x, .int .i64 10, .int .i64 9] w fun e w' => e = .returned (.int .i64 (x / 512 % 4)) ∧ w = w' := by
  have e1 : x.tdiv 512 = x / 512 := Int.tdiv_eq_ediv_of_nonneg x0
  have e2 : (x / 512).tmod 4 = x / 512 % 4 := Int.tmod_eq_emod_of_nonneg (by omega)
  go_enter Tryz.func45, Tryz.ntmps45
  go_wp2
  go_ret
  exact ⟨ret_int (by first | rfl | (simp only [e1, e2]; done) | (simp only [e1, e2, wrap64]; omega)), rfl⟩
theorem at_8_8 (x : Int) (x0 : 0 ≤ x) (x1 : x < 65536) (w : World) :
    Calls Tryz.prog 45 #[.int .i64 x, .int .i64 8, .int .i64 8] w fun e w' => e = .returned (.int .i64 (x / 256 % 2)) ∧ w = w' := by
  have e1 : x.tdiv 256 = x / 256 := Int.tdiv_eq_ediv_of_nonneg x0
  have e2 : (x / 256).tmod 2 = x / 256 % 2 := Int.tmod_eq_emod_of_nonneg (by omega)
  go_enter Tryz.func45, Tryz.ntmps45
  go_wp2
  go_ret
  exact ⟨ret_int (by first | rfl | (simp only [e1, e2]; done) | (simp only [e1, e2, wrap64]; omega)), rfl⟩
theorem at_7_7 (x : Int) (x0 : 0 ≤ x) (x1 : x < 65536) (w : World) :
    Calls Tryz.prog 45 #[.int .i64 x, .int .i64 7, .int .i64 7] w fun e w' => e = .returned (.int .i64 (x / 128 % 2)) ∧ w = w' := by
  have e1 : x.tdiv 128 = x / 128 := Int.tdiv_eq_ediv_of_nonneg x0
  have e2 : (x / 128).tmod 2 = x / 128 % 2 := Int.tmod_eq_emod_of_nonneg (by omega)
  go_enter Tryz.func45, Tryz.ntmps45
  go_wp2
  go_ret
  exact ⟨ret_int (by first | rfl | (simp only [e1, e2]; done) | (simp only [e1, e2, wrap64]; omega)), rfl⟩
theorem at_5_3 (x : Int) (x0 : 0 ≤ x) (x1 : x < 65536) (w : World) :
    Calls Tryz.prog 45 #[.int .i64 x, .int .i64 5, .int .i64 3] w fun e w' => e = .returned (.int .i64 (x / 8 % 8)) ∧ w = w' := by
  have e1 : x.tdiv 8 = x / 8 := Int.tdiv_eq_ediv_of_nonneg x0
  have e2 : (x / 8).tmod 8 = x / 8 % 8 := Int.tmod_eq_emod_of_nonneg (by omega)
  go_enter Tryz.func45, Tryz.ntmps45
  go_wp2
  go_ret
  exact ⟨ret_int (by first | rfl | (simp only [e1, e2]; done) | (simp only [e1, e2, wrap64]; omega)), rfl⟩
theorem at_13_13 (x : Int) (x0 : 0 ≤ x) (x1 : x < 65536) (w : World) :
    Calls Tryz.prog 45 #[.int .i64 x, .int .i64 13, .int .i64 13] w fun e w' => e = .returned (.int .i64 (x / 8192 % 2)) ∧ w = w' := by
  have e1 : x.tdiv 8192 = x / 8192 := Int.tdiv_eq_ediv_of_nonneg x0
  have e2 : (x / 8192).tmod 2 = x / 8192 % 2 := Int.tmod_eq_emod_of_nonneg (by omega)
  go_enter Tryz.func45, Tryz.ntmps45
  go_wp2
  go_ret
  exact ⟨ret_int (by first | rfl | (simp only [e1, e2]; done) | (simp only [e1, e2, wrap64]; omega)), rfl⟩
theorem at_6_4 (x : Int) (x0 : 0 ≤ x) (x1 : x < 65536) (w : World) :
    Calls Tryz.prog 45 #[.int .i64 x, .int .i64 6, .int .i64 4] w fun e w' => e = .returned (.int .i64 (x / 16 % 8)) ∧ w = w' := by
  have e1 : x.tdiv 16 = x / 16 := Int.tdiv_eq_ediv_of_nonneg x0
  have e2 : (x / 16).tmod 8 = x / 16 % 8 := Int.tmod_eq_emod_of_nonneg (by omega)
  go_enter Tryz.func45, Tryz.ntmps45
  go_wp2
  go_ret
  exact ⟨ret_int (by first | rfl | (simp only [e1, e2]; done) | (simp only [e1, e2, wrap64]; omega)), rfl⟩
theorem at_3_2 (x : Int) (x0 : 0 ≤ x) (x1 : x < 65536) (w : World) :
    Calls Tryz.prog 45 #[.int .i64 x, .int .i64 3, .int .i64 2] w fun e w' => e = .returned (.int .i64 (x / 4 % 4)) ∧ w = w' := by
  have e1 : x.tdiv 4 = x / 4 := Int.tdiv_eq_ediv_of_nonneg x0
  have e2 : (x / 4).tmod 4 = x / 4 % 4 := Int.tmod_eq_emod_of_nonneg (by omega)
  go_enter Tryz.func45, Tryz.ntmps45
  go_wp2
  go_ret
  exact ⟨ret_int (by first | rfl | (simp only [e1, e2]; done) | (simp only [e1, e2, wrap64]; omega)), rfl⟩
theorem at_12_9 (x : Int) (x0 : 0 ≤ x) (x1 : x < 65536) (w : World) :
    Calls Tryz.prog 45 #[.int .i64 x, .int .i64 12, .int .i64 9] w fun e w' => e = .returned (.int .i64 (x / 512 % 16)) ∧ w = w' := by
  have e1 : x.tdiv 512 = x / 512 := Int.tdiv_eq_ediv_of_nonneg x0
  have e2 : (x / 512).tmod 16 = x / 512 % 16 := Int.tmod_eq_emod_of_nonneg (by omega)
  go_enter Tryz.func45, Tryz.ntmps45
  go_wp2
  go_ret
  exact ⟨ret_int (by first | rfl | (simp only [e1, e2]; done) | (simp only [e1, e2, wrap64]; omega)), rfl⟩
theorem at_8_7 (x : Int) (x0 : 0 ≤ x) (x1 : x < 65536) (w : World) :
    Calls Tryz.prog 45 #[.int .i64 x, .int .i64 8, .int .i64 7] w fun e w' => e = .returned (.int .i64 (x / 128 % 4)) ∧ w = w' := by
  have e1 : x.tdiv 128 = x / 128 := Int.tdiv_eq_ediv_of_nonneg x0
  have e2 : (x / 128).tmod 4 = x / 128 % 4 := Int.tmod_eq_emod_of_nonneg (by omega)
  go_enter Tryz.func45, Tryz.ntmps45
  go_wp2
  go_ret
  exact ⟨ret_int (by first | rfl | (simp only [e1, e2]; done) | (simp only [e1, e2, wrap64]; omega)), rfl⟩
theorem low_12 (n : Int) (n0 : -4294967296 < n) (n1 : n < 4294967296) (w : World) :
    Calls Tryz.prog 97 #[.int .i64 n, .int .i64 12] w fun e w' => e = .returned (.int .i64 (n % 4096)) ∧ w = w' := by
  rcases Int.lt_or_le (n.tmod 4096) 0 with h | h
  · have e := tm_neg n 4096 (by decide) h
    rw [e]
    have l : -4096 ≤ n.tmod 4096 := by omega
    generalize ht : n.tmod 4096 = t at h l ⊢
    have hd : (decide (t < 0)) = true := by simpa using h
    clear e
    go_enter Tryz.func97, Tryz.ntmps97
    go_wp2
    go_ret
    exact ⟨ret_int (by first | rfl | omega | (unfold wrap64; omega)), rfl⟩
  · have e := tm_pos n 4096 (by decide) h
    rw [← e]
    generalize ht : n.tmod 4096 = t at h ⊢
    have hd : (decide (t < 0)) = false := by simpa using h
    clear e
    go_enter Tryz.func97, Tryz.ntmps97
    go_wp2
    go_ret
    exact ⟨rfl, rfl⟩
theorem low_13 (n : Int) (n0 : -4294967296 < n) (n1 : n < 4294967296) (w : World) :
    Calls Tryz.prog 97 #[.int .i64 n, .int .i64 13] w fun e w' => e = .returned (.int .i64 (n % 8192)) ∧ w = w' := by
  rcases Int.lt_or_le (n.tmod 8192) 0 with h | h
  · have e := tm_neg n 8192 (by decide) h
    rw [e]
    have l : -8192 ≤ n.tmod 8192 := by omega
    generalize ht : n.tmod 8192 = t at h l ⊢
    have hd : (decide (t < 0)) = true := by simpa using h
    clear e
    go_enter Tryz.func97, Tryz.ntmps97
    go_wp2
    go_ret
    exact ⟨ret_int (by first | rfl | omega | (unfold wrap64; omega)), rfl⟩
  · have e := tm_pos n 8192 (by decide) h
    rw [← e]
    generalize ht : n.tmod 8192 = t at h ⊢
    have hd : (decide (t < 0)) = false := by simpa using h
    clear e
    go_enter Tryz.func97, Tryz.ntmps97
    go_wp2
    go_ret
    exact ⟨rfl, rfl⟩
theorem low_20 (n : Int) (n0 : -4294967296 < n) (n1 : n < 4294967296) (w : World) :
    Calls Tryz.prog 97 #[.int .i64 n, .int .i64 20] w fun e w' => e = .returned (.int .i64 (n % 1048576)) ∧ w = w' := by
  rcases Int.lt_or_le (n.tmod 1048576) 0 with h | h
  · have e := tm_neg n 1048576 (by decide) h
    rw [e]
    have l : -1048576 ≤ n.tmod 1048576 := by omega
    generalize ht : n.tmod 1048576 = t at h l ⊢
    have hd : (decide (t < 0)) = true := by simpa using h
    clear e
    go_enter Tryz.func97, Tryz.ntmps97
    go_wp2
    go_ret
    exact ⟨ret_int (by first | rfl | omega | (unfold wrap64; omega)), rfl⟩
  · have e := tm_pos n 1048576 (by decide) h
    rw [← e]
    generalize ht : n.tmod 1048576 = t at h ⊢
    have hd : (decide (t < 0)) = false := by simpa using h
    clear e
    go_enter Tryz.func97, Tryz.ntmps97
    go_wp2
    go_ret
    exact ⟨rfl, rfl⟩
theorem low_21 (n : Int) (n0 : -4294967296 < n) (n1 : n < 4294967296) (w : World) :
    Calls Tryz.prog 97 #[.int .i64 n, .int .i64 21] w fun e w' => e = .returned (.int .i64 (n % 2097152)) ∧ w = w' := by
  rcases Int.lt_or_le (n.tmod 2097152) 0 with h | h
  · have e := tm_neg n 2097152 (by decide) h
    rw [e]
    have l : -2097152 ≤ n.tmod 2097152 := by omega
    generalize ht : n.tmod 2097152 = t at h l ⊢
    have hd : (decide (t < 0)) = true := by simpa using h
    clear e
    go_enter Tryz.func97, Tryz.ntmps97
    go_wp2
    go_ret
    exact ⟨ret_int (by first | rfl | omega | (unfold wrap64; omega)), rfl⟩
  · have e := tm_pos n 2097152 (by decide) h
    rw [← e]
    generalize ht : n.tmod 2097152 = t at h ⊢
    have hd : (decide (t < 0)) = false := by simpa using h
    clear e
    go_enter Tryz.func97, Tryz.ntmps97
    go_wp2
    go_ret
    exact ⟨rfl, rfl⟩
theorem sgd_6 (n : Int) (n0 : 0 ≤ n) (n1 : n < 64) (w : World) :
    Calls Tryz.prog 50 #[.int .i64 n, .int .i64 6] w fun e w' => e = .returned (.int .i64 (sd n 64)) ∧ w = w' := by
  rcases Int.lt_or_le n 32 with h | h
  · have e : sd n 64 = n := by unfold sd; split <;> omega
    rw [e]
    go_enter Tryz.func50, Tryz.ntmps50
    go_wp2
    go_ret
    exact ⟨rfl, rfl⟩
  · have e : sd n 64 = n - 64 := by unfold sd; split <;> omega
    rw [e]
    go_enter Tryz.func50, Tryz.ntmps50
    go_wp2
    go_ret
    exact ⟨ret_int (by first | rfl | omega | (unfold wrap64; omega)), rfl⟩
theorem sgd_9 (n : Int) (n0 : 0 ≤ n) (n1 : n < 512) (w : World) :
    Calls Tryz.prog 50 #[.int .i64 n, .int .i64 9] w fun e w' => e = .returned (.int .i64 (sd n 512)) ∧ w = w' := by
  rcases Int.lt_or_le n 256 with h | h
  · have e : sd n 512 = n := by unfold sd; split <;> omega
    rw [e]
    go_enter Tryz.func50, Tryz.ntmps50
    go_wp2
    go_ret
    exact ⟨rfl, rfl⟩
  · have e : sd n 512 = n - 512 := by unfold sd; split <;> omega
    rw [e]
    go_enter Tryz.func50, Tryz.ntmps50
    go_wp2
    go_ret
    exact ⟨ret_int (by first | rfl | omega | (unfold wrap64; omega)), rfl⟩
theorem sgd_10 (n : Int) (n0 : 0 ≤ n) (n1 : n < 1024) (w : World) :
    Calls Tryz.prog 50 #[.int .i64 n, .int .i64 10] w fun e w' => e = .returned (.int .i64 (sd n 1024)) ∧ w = w' := by
  rcases Int.lt_or_le n 512 with h | h
  · have e : sd n 1024 = n := by unfold sd; split <;> omega
    rw [e]
    go_enter Tryz.func50, Tryz.ntmps50
    go_wp2
    go_ret
    exact ⟨rfl, rfl⟩
  · have e : sd n 1024 = n - 1024 := by unfold sd; split <;> omega
    rw [e]
    go_enter Tryz.func50, Tryz.ntmps50
    go_wp2
    go_ret
    exact ⟨ret_int (by first | rfl | omega | (unfold wrap64; omega)), rfl⟩
theorem sgd_12 (n : Int) (n0 : 0 ≤ n) (n1 : n < 4096) (w : World) :
    Calls Tryz.prog 50 #[.int .i64 n, .int .i64 12] w fun e w' => e = .returned (.int .i64 (sd n 4096)) ∧ w = w' := by
  rcases Int.lt_or_le n 2048 with h | h
  · have e : sd n 4096 = n := by unfold sd; split <;> omega
    rw [e]
    go_enter Tryz.func50, Tryz.ntmps50
    go_wp2
    go_ret
    exact ⟨rfl, rfl⟩
  · have e : sd n 4096 = n - 4096 := by unfold sd; split <;> omega
    rw [e]
    go_enter Tryz.func50, Tryz.ntmps50
    go_wp2
    go_ret
    exact ⟨ret_int (by first | rfl | omega | (unfold wrap64; omega)), rfl⟩
theorem dI_w (op f3 rd r1 n : Int) (o0 : 0 ≤ op) (o1 : op < 128) (f0 : 0 ≤ f3) (f1 : f3 < 8) (d0 : 0 ≤ rd) (d1 : rd < 32) (a0 : 0 ≤ r1) (a1 : r1 < 32) (n0 : -4294967296 < n) (n1 : n < 4294967296) (w : World) :
    Calls Tryz.prog 46 #[.int .i64 op, .int .i64 f3, .int .i64 rd, .int .i64 r1, .int .i64 n] w fun e w' => e = .returned (.int .i64 (dI op f3 rd r1 n)) ∧ w = w' := by
  go_enter Tryz.func46, Tryz.ntmps46
  go_wp2_with (go_at_call 97; with_reducible refine (low_12 n n0 n1 _).mono ?_; rintro e' w1 ⟨rfl, rfl⟩)
  go_ret
  exact ⟨ret_int (by first | (unfold dI; done) | (unfold dI; omega) | (unfold dI; unfold wrap64; omega)), rfl⟩
theorem dR_w (op f3 f7 rd r1 r2 : Int) (o0 : 0 ≤ op) (o1 : op < 128) (f0 : 0 ≤ f3) (f1 : f3 < 8) (d0 : 0 ≤ rd) (d1 : rd < 32) (a0 : 0 ≤ r1) (a1 : r1 < 32) (b0 : 0 ≤ r2) (b1 : r2 < 32) (g0 : 0 ≤ f7) (g1 : f7 < 128) (w : World) :
    Calls Tryz.prog 98 #[.int .i64 op, .int .i64 f3, .int .i64 f7, .int .i64 rd, .int .i64 r1, .int .i64 r2] w fun e w' => e = .returned (.int .i64 (dR op f3 f7 rd r1 r2)) ∧ w = w' := by
  go_enter Tryz.func98, Tryz.ntmps98
  go_wp2
  go_ret
  exact ⟨ret_int (by first | (unfold dR; done) | (unfold dR; omega) | (unfold dR; unfold wrap64; omega)), rfl⟩
theorem dS_w (f3 r1 r2 n : Int) (f0 : 0 ≤ f3) (f1 : f3 < 8) (a0 : 0 ≤ r1) (a1 : r1 < 32) (b0 : 0 ≤ r2) (b1 : r2 < 32) (n0 : 0 ≤ n) (n1 : n < 4096) (w : World) :
    Calls Tryz.prog 49 #[.int .i64 f3, .int .i64 r1, .int .i64 r2, .int .i64 n] w fun e w' => e = .returned (.int .i64 (dS f3 r1 r2 n)) ∧ w = w' := by
  have e1 : n.tdiv 32 = n / 32 := Int.tdiv_eq_ediv_of_nonneg n0
  have e2 : n.tmod 32 = n % 32 := Int.tmod_eq_emod_of_nonneg n0
  go_enter Tryz.func49, Tryz.ntmps49
  go_wp2
  go_ret
  exact ⟨ret_int (by first | (unfold dS; (try simp only [e1, e2]); done) | (unfold dS; (try simp only [e1, e2]); omega) | (unfold dS; (try simp only [e1, e2]); unfold wrap64; omega)), rfl⟩
theorem dB_w (f3 r1 n : Int) (f0 : 0 ≤ f3) (f1 : f3 < 8) (a0 : 0 ≤ r1) (a1 : r1 < 32) (n0 : -4294967296 < n) (n1 : n < 4294967296) (w : World) :
    Calls Tryz.prog 55 #[.int .i64 f3, .int .i64 r1, .int .i64 n] w fun e w' => e = .returned (.int .i64 (dB f3 r1 n)) ∧ w = w' := by
  unfold dB
  have m0 : 0 ≤ n % 8192 := by omega
  have m1 : n % 8192 < 8192 := by omega
  have L := Lib.hid (low_13 n n0 n1)
  generalize n % 8192 = m at *
  go_enter Tryz.func55, Tryz.ntmps55
  go_wp2_with (go_at_call 97; with_reducible refine (L.out _).mono ?_; rintro e' w1 ⟨rfl, rfl⟩)
  go_ret
  exact ⟨ret_int (by first | rfl | omega | (unfold wrap64; omega)), rfl⟩
theorem dJ_w (n : Int) (n0 : -4294967296 < n) (n1 : n < 4294967296) (w : World) :
    Calls Tryz.prog 54 #[.int .i64 n] w fun e w' => e = .returned (.int .i64 (dJ n)) ∧ w = w' := by
  unfold dJ
  have m0 : 0 ≤ n % 2097152 := by omega
  have m1 : n % 2097152 < 2097152 := by omega
  have L := Lib.hid (low_21 n n0 n1)
  generalize n % 2097152 = m at *
  go_enter Tryz.func54, Tryz.ntmps54
  go_wp2_with (go_at_call 97; with_reducible refine (L.out _).mono ?_; rintro e' w1 ⟨rfl, rfl⟩)
  go_ret
  exact ⟨ret_int (by first | rfl | omega | (unfold wrap64; omega)), rfl⟩
theorem six_w (x : Int) (x0 : 0 ≤ x) (x1 : x < 65536) (w : World) :
    Calls Tryz.prog 51 #[.int .i64 x] w fun e w' => e = .returned (.int .i64 (six x)) ∧ w = w' := by
  go_enter Tryz.func51, Tryz.ntmps51
  go_wp2_with (first | (go_at_call 45; with_reducible refine (at_12_12 x x0 x1 _).mono ?_; rintro e' w1 ⟨rfl, rfl⟩) | (go_at_call 45; with_reducible refine (at_6_2 x x0 x1 _).mono ?_; rintro e' w1 ⟨rfl, rfl⟩))
  go_ret
  exact ⟨ret_int (by first | (unfold six; done) | (unfold six; omega) | (unfold six; unfold wrap64; omega)), rfl⟩
theorem dwd_w (x : Int) (x0 : 0 ≤ x) (x1 : x < 65536) (w : World) :
    Calls Tryz.prog 47 #[.int .i64 x] w fun e w' => e = .returned (.int .i64 (dwd x)) ∧ w = w' := by
  go_enter Tryz.func47, Tryz.ntmps47
  go_wp2_with (first | (go_at_call 45; with_reducible refine (at_12_10 x x0 x1 _).mono ?_; rintro e' w1 ⟨rfl, rfl⟩) | (go_at_call 45; with_reducible refine (at_6_6 x x0 x1 _).mono ?_; rintro e' w1 ⟨rfl, rfl⟩) | (go_at_call 45; with_reducible refine (at_5_5 x x0 x1 _).mono ?_; rintro e' w1 ⟨rfl, rfl⟩))
  go_ret
  exact ⟨ret_int (by first | (unfold dwd; done) | (unfold dwd; omega) | (unfold dwd; unfold wrap64; omega)), rfl⟩
theorem dlg_w (x : Int) (x0 : 0 ≤ x) (x1 : x < 65536) (w : World) :
    Calls Tryz.prog 48 #[.int .i64 x] w fun e w' => e = .returned (.int .i64 (dlg x)) ∧ w = w' := by
  go_enter Tryz.func48, Tryz.ntmps48
  go_wp2_with (first | (go_at_call 45; with_reducible refine (at_12_10 x x0 x1 _).mono ?_; rintro e' w1 ⟨rfl, rfl⟩) | (go_at_call 45; with_reducible refine (at_6_5 x x0 x1 _).mono ?_; rintro e' w1 ⟨rfl, rfl⟩))
  go_ret
  exact ⟨ret_int (by first | (unfold dlg; done) | (unfold dlg; omega) | (unfold dlg; unfold wrap64; omega)), rfl⟩
end Go.Proofs.YtlfeandnpflaaaaGreatDoor
namespace Go.Proofs.YtlfeandnpflaaaaGreatDoor
open Go.ChangeShapes Go.WideShapes Go.ChangeAt Go.RowKit
set_option linter.unusedVariables false
set_option linter.unusedSimpArgs false
theorem six_lo (x : Int) : 0 ≤ six x := by unfold six; omega
theorem six_hi (x : Int) : six x < 64 := by unfold six; omega
theorem dwd_lo (x : Int) : 0 ≤ dwd x := by unfold dwd; omega
theorem dwd_hi (x : Int) : dwd x < 128 := by unfold dwd; omega
theorem dlg_lo (x : Int) : 0 ≤ dlg x := by unfold dlg; omega
theorem dlg_hi (x : Int) : dlg x < 256 := by unfold dlg; omega
theorem sd_lo (n p : Int) (h0 : 0 ≤ n) (h1 : n < p) : -p ≤ sd n p := by unfold sd; split <;> omega
theorem sd_hi (n p : Int) (h0 : 0 ≤ n) (h1 : n < p) : sd n p < p := by unfold sd; split <;> omega
set_option maxHeartbeats 1000000 in
theorem first_w (x : Int) (x0 : 0 ≤ x) (x1 : x < 65536) (w : World) :
    Calls Tryz.prog 25 #[.int .i64 x] w fun e w' => e = .returned (.int .i64 (dFirst x)) ∧ w = w' := by
  have sx0 := six_lo x
  have sx1 := six_hi x
  have sd0 := sd_lo (six x) 64 sx0 sx1
  have sd1 := sd_hi (six x) 64 sx0 sx1
  have wd0 := dwd_lo x
  have wd1 := dwd_hi x
  have lg0 := dlg_lo x
  have lg1 := dlg_hi x
  rcases (show x / 8192 % 8 = 0 ∨ x / 8192 % 8 = 1 ∨ x / 8192 % 8 = 2 ∨ x / 8192 % 8 = 3 ∨ x / 8192 % 8 = 4 ∨ x / 8192 % 8 = 5 ∨ x / 8192 % 8 = 6 ∨ x / 8192 % 8 = 7 by omega) with h | h | h | h | h | h | h | h
  · by_cases hn : (x / 2048 % 4 * 16 + x / 128 % 16 * 64 + x / 64 % 2 * 4 + x / 32 % 2 * 8) = 0
    · have hb : ((x / 2048 % 4 * 16 + x / 128 % 16 * 64 + x / 64 % 2 * 4 + x / 32 % 2 * 8) != 0) = false := by simp [hn]
      have e : dFirst x = 0 := by unfold dFirst; rw [if_pos h, if_pos (show dpl x = 0 from hn)]
      rw [e]
      have Hh := Lib.hid h
      clear e h hn
      go_enter Tryz.func25, Tryz.ntmps25
      go_wp2_with (first | (go_at_call 45; have c := at_15_13 x x0 x1 w; rw [Hh.out] at c; with_reducible refine c.mono ?_; rintro e' w1 ⟨rfl, rfl⟩) | (go_at_call 45; have c := at_4_2 x x0 x1 w; with_reducible refine c.mono ?_; rintro e' w1 ⟨rfl, rfl⟩) | (go_at_call 45; have c := at_9_7 x x0 x1 w; with_reducible refine c.mono ?_; rintro e' w1 ⟨rfl, rfl⟩) | (go_at_call 45; have c := at_12_11 x x0 x1 w; with_reducible refine c.mono ?_; rintro e' w1 ⟨rfl, rfl⟩) | (go_at_call 45; have c := at_10_7 x x0 x1 w; with_reducible refine c.mono ?_; rintro e' w1 ⟨rfl, rfl⟩) | (go_at_call 45; have c := at_6_6 x x0 x1 w; with_reducible refine c.mono ?_; rintro e' w1 ⟨rfl, rfl⟩) | (go_at_call 45; have c := at_5_5 x x0 x1 w; with_reducible refine c.mono ?_; rintro e' w1 ⟨rfl, rfl⟩))
      go_ret
      exact ⟨rfl, rfl⟩
    · have hb : ((x / 2048 % 4 * 16 + x / 128 % 16 * 64 + x / 64 % 2 * 4 + x / 32 % 2 * 8) != 0) = true := by simpa using hn
      have e : dFirst x = dI 19 0 (8 + x / 4 % 8) 2 (x / 2048 % 4 * 16 + x / 128 % 16 * 64 + x / 64 % 2 * 4 + x / 32 % 2 * 8) := by unfold dFirst; rw [if_pos h, if_neg (show ¬ dpl x = 0 from hn)]; rfl
      rw [e]
      have Hh := Lib.hid h
      clear e h hn
      go_enter Tryz.func25, Tryz.ntmps25
      go_wp2_with (first | (go_at_call 45; have c := at_15_13 x x0 x1 w; rw [Hh.out] at c; with_reducible refine c.mono ?_; rintro e' w1 ⟨rfl, rfl⟩) | (go_at_call 45; have c := at_4_2 x x0 x1 w; with_reducible refine c.mono ?_; rintro e' w1 ⟨rfl, rfl⟩) | (go_at_call 45; have c := at_9_7 x x0 x1 w; with_reducible refine c.mono ?_; rintro e' w1 ⟨rfl, rfl⟩) | (go_at_call 45; have c := at_12_11 x x0 x1 w; with_reducible refine c.mono ?_; rintro e' w1 ⟨rfl, rfl⟩) | (go_at_call 45; have c := at_10_7 x x0 x1 w; with_reducible refine c.mono ?_; rintro e' w1 ⟨rfl, rfl⟩) | (go_at_call 45; have c := at_6_6 x x0 x1 w; with_reducible refine c.mono ?_; rintro e' w1 ⟨rfl, rfl⟩) | (go_at_call 45; have c := at_5_5 x x0 x1 w; with_reducible refine c.mono ?_; rintro e' w1 ⟨rfl, rfl⟩) | (go_at_call 46; have c := dI_w 19 0 (8 + x / 4 % 8) 2 (x / 2048 % 4 * 16 + x / 128 % 16 * 64 + x / 64 % 2 * 4 + x / 32 % 2 * 8) (by decide) (by decide) (by decide) (by decide) (by omega) (by omega) (by omega) (by omega) (by omega) (by omega) w; with_reducible refine c.mono ?_; rintro e' w1 ⟨rfl, rfl⟩))
      go_ret
      exact ⟨rfl, rfl⟩
  · have e : dFirst x = 0 := by simp [dFirst, h]
    rw [e]
    clear e
    have Hh := Lib.hid h
    clear h
    go_enter Tryz.func25, Tryz.ntmps25
    go_wp2_with (first | (go_at_call 45; have c := at_15_13 x x0 x1 w; rw [Hh.out] at c; with_reducible refine c.mono ?_; rintro e' w1 ⟨rfl, rfl⟩) | (go_at_call 45; have c := at_4_2 x x0 x1 w; with_reducible refine c.mono ?_; rintro e' w1 ⟨rfl, rfl⟩) | (go_at_call 45; have c := at_9_7 x x0 x1 w; with_reducible refine c.mono ?_; rintro e' w1 ⟨rfl, rfl⟩))
    go_ret
    exact ⟨rfl, rfl⟩
  · have e : dFirst x = dI 3 2 (8 + x / 4 % 8) (8 + x / 128 % 8) (dwd x) := by simp [dFirst, h]
    rw [e]
    clear e
    have Hh := Lib.hid h
    clear h
    go_enter Tryz.func25, Tryz.ntmps25
    go_wp2_with (first | (go_at_call 45; have c := at_15_13 x x0 x1 w; rw [Hh.out] at c; with_reducible refine c.mono ?_; rintro e' w1 ⟨rfl, rfl⟩) | (go_at_call 45; have c := at_4_2 x x0 x1 w; with_reducible refine c.mono ?_; rintro e' w1 ⟨rfl, rfl⟩) | (go_at_call 45; have c := at_9_7 x x0 x1 w; with_reducible refine c.mono ?_; rintro e' w1 ⟨rfl, rfl⟩) | (go_at_call 47; have c := dwd_w x x0 x1 w; with_reducible refine c.mono ?_; rintro e' w1 ⟨rfl, rfl⟩) | (go_at_call 46; have c := dI_w 3 2 (8 + x / 4 % 8) (8 + x / 128 % 8) (dwd x) (by decide) (by decide) (by decide) (by decide) (by omega) (by omega) (by omega) (by omega) (by omega) (by omega) w; with_reducible refine c.mono ?_; rintro e' w1 ⟨rfl, rfl⟩))
    go_ret
    exact ⟨rfl, rfl⟩
  · have e : dFirst x = dI 3 3 (8 + x / 4 % 8) (8 + x / 128 % 8) (dlg x) := by simp [dFirst, h]
    rw [e]
    clear e
    have Hh := Lib.hid h
    clear h
    go_enter Tryz.func25, Tryz.ntmps25
    go_wp2_with (first | (go_at_call 45; have c := at_15_13 x x0 x1 w; rw [Hh.out] at c; with_reducible refine c.mono ?_; rintro e' w1 ⟨rfl, rfl⟩) | (go_at_call 45; have c := at_4_2 x x0 x1 w; with_reducible refine c.mono ?_; rintro e' w1 ⟨rfl, rfl⟩) | (go_at_call 45; have c := at_9_7 x x0 x1 w; with_reducible refine c.mono ?_; rintro e' w1 ⟨rfl, rfl⟩) | (go_at_call 48; have c := dlg_w x x0 x1 w; with_reducible refine c.mono ?_; rintro e' w1 ⟨rfl, rfl⟩) | (go_at_call 46; have c := dI_w 3 3 (8 + x / 4 % 8) (8 + x / 128 % 8) (dlg x) (by decide) (by decide) (by decide) (by decide) (by omega) (by omega) (by omega) (by omega) (by omega) (by omega) w; with_reducible refine c.mono ?_; rintro e' w1 ⟨rfl, rfl⟩))
    go_ret
    exact ⟨rfl, rfl⟩
  · have e : dFirst x = 0 := by simp [dFirst, h]
    rw [e]
    clear e
    have Hh := Lib.hid h
    clear h
    go_enter Tryz.func25, Tryz.ntmps25
    go_wp2_with (first | (go_at_call 45; have c := at_15_13 x x0 x1 w; rw [Hh.out] at c; with_reducible refine c.mono ?_; rintro e' w1 ⟨rfl, rfl⟩) | (go_at_call 45; have c := at_4_2 x x0 x1 w; with_reducible refine c.mono ?_; rintro e' w1 ⟨rfl, rfl⟩) | (go_at_call 45; have c := at_9_7 x x0 x1 w; with_reducible refine c.mono ?_; rintro e' w1 ⟨rfl, rfl⟩))
    go_ret
    exact ⟨rfl, rfl⟩
  · have e : dFirst x = 0 := by simp [dFirst, h]
    rw [e]
    clear e
    have Hh := Lib.hid h
    clear h
    go_enter Tryz.func25, Tryz.ntmps25
    go_wp2_with (first | (go_at_call 45; have c := at_15_13 x x0 x1 w; rw [Hh.out] at c; with_reducible refine c.mono ?_; rintro e' w1 ⟨rfl, rfl⟩) | (go_at_call 45; have c := at_4_2 x x0 x1 w; with_reducible refine c.mono ?_; rintro e' w1 ⟨rfl, rfl⟩) | (go_at_call 45; have c := at_9_7 x x0 x1 w; with_reducible refine c.mono ?_; rintro e' w1 ⟨rfl, rfl⟩))
    go_ret
    exact ⟨rfl, rfl⟩
  · have e : dFirst x = dS 2 (8 + x / 128 % 8) (8 + x / 4 % 8) (dwd x) := by simp [dFirst, h]
    rw [e]
    clear e
    have Hh := Lib.hid h
    clear h
    go_enter Tryz.func25, Tryz.ntmps25
    go_wp2_with (first | (go_at_call 45; have c := at_15_13 x x0 x1 w; rw [Hh.out] at c; with_reducible refine c.mono ?_; rintro e' w1 ⟨rfl, rfl⟩) | (go_at_call 45; have c := at_4_2 x x0 x1 w; with_reducible refine c.mono ?_; rintro e' w1 ⟨rfl, rfl⟩) | (go_at_call 45; have c := at_9_7 x x0 x1 w; with_reducible refine c.mono ?_; rintro e' w1 ⟨rfl, rfl⟩) | (go_at_call 47; have c := dwd_w x x0 x1 w; with_reducible refine c.mono ?_; rintro e' w1 ⟨rfl, rfl⟩) | (go_at_call 49; have c := dS_w 2 (8 + x / 128 % 8) (8 + x / 4 % 8) (dwd x) (by decide) (by decide) (by omega) (by omega) (by omega) (by omega) (by omega) (by omega) w; with_reducible refine c.mono ?_; rintro e' w1 ⟨rfl, rfl⟩))
    go_ret
    exact ⟨rfl, rfl⟩
  · have e : dFirst x = dS 3 (8 + x / 128 % 8) (8 + x / 4 % 8) (dlg x) := by simp [dFirst, h]
    rw [e]
    clear e
    have Hh := Lib.hid h
    clear h
    go_enter Tryz.func25, Tryz.ntmps25
    go_wp2_with (first | (go_at_call 45; have c := at_15_13 x x0 x1 w; rw [Hh.out] at c; with_reducible refine c.mono ?_; rintro e' w1 ⟨rfl, rfl⟩) | (go_at_call 45; have c := at_4_2 x x0 x1 w; with_reducible refine c.mono ?_; rintro e' w1 ⟨rfl, rfl⟩) | (go_at_call 45; have c := at_9_7 x x0 x1 w; with_reducible refine c.mono ?_; rintro e' w1 ⟨rfl, rfl⟩) | (go_at_call 48; have c := dlg_w x x0 x1 w; with_reducible refine c.mono ?_; rintro e' w1 ⟨rfl, rfl⟩) | (go_at_call 49; have c := dS_w 3 (8 + x / 128 % 8) (8 + x / 4 % 8) (dlg x) (by decide) (by decide) (by omega) (by omega) (by omega) (by omega) (by omega) (by omega) w; with_reducible refine c.mono ?_; rintro e' w1 ⟨rfl, rfl⟩))
    go_ret
    exact ⟨rfl, rfl⟩
set_option maxHeartbeats 1000000 in
theorem upper_w' (x : Int) (x0 : 0 ≤ x) (x1 : x < 65536) (w : World) :
    Calls Tryz.prog 52 #[.int .i64 x] w fun e w' => e = .returned (.int .i64 (dUpper x)) ∧ w = w' := by
  have sx0 := six_lo x
  have sx1 := six_hi x
  have sd0 := sd_lo (six x) 64 sx0 sx1
  have sd1 := sd_hi (six x) 64 sx0 sx1
  have wd0 := dwd_lo x
  have wd1 := dwd_hi x
  have lg0 := dlg_lo x
  have lg1 := dlg_hi x
  by_cases h : x / 128 % 32 = 2
  · have t0 : (x / 128 % 32 == 2) = true := by simp [h]
    by_cases hn : (x / 4096 % 2 * 512 + x / 64 % 2 * 16 + x / 32 % 2 * 64 + x / 8 % 4 * 128 + x / 4 % 2 * 32) = 0
    · have hb : ((x / 4096 % 2 * 512 + x / 64 % 2 * 16 + x / 32 % 2 * 64 + x / 8 % 4 * 128 + x / 4 % 2 * 32) == 0) = true := by simp [hn]
      have e : dUpper x = 0 := by unfold dUpper; rw [if_pos h, if_pos (show dfr x = 0 from hn)]
      rw [e]
      clear e h hn
      go_enter Tryz.func52, Tryz.ntmps52
      go_wp2_with (first | (go_at_call 45; have c := at_11_7 x x0 x1 w; with_reducible refine c.mono ?_; rintro e' w1 ⟨rfl, rfl⟩) | (go_at_call 45; have c := at_12_12 x x0 x1 w; with_reducible refine c.mono ?_; rintro e' w1 ⟨rfl, rfl⟩) | (go_at_call 45; have c := at_6_6 x x0 x1 w; with_reducible refine c.mono ?_; rintro e' w1 ⟨rfl, rfl⟩) | (go_at_call 45; have c := at_5_5 x x0 x1 w; with_reducible refine c.mono ?_; rintro e' w1 ⟨rfl, rfl⟩) | (go_at_call 45; have c := at_4_3 x x0 x1 w; with_reducible refine c.mono ?_; rintro e' w1 ⟨rfl, rfl⟩) | (go_at_call 45; have c := at_2_2 x x0 x1 w; with_reducible refine c.mono ?_; rintro e' w1 ⟨rfl, rfl⟩))
      go_ret
      exact ⟨rfl, rfl⟩
    · have hb : ((x / 4096 % 2 * 512 + x / 64 % 2 * 16 + x / 32 % 2 * 64 + x / 8 % 4 * 128 + x / 4 % 2 * 32) == 0) = false := by simpa using hn
      have e : dUpper x = dI 19 0 2 2 (sd (x / 4096 % 2 * 512 + x / 64 % 2 * 16 + x / 32 % 2 * 64 + x / 8 % 4 * 128 + x / 4 % 2 * 32) 1024) := by unfold dUpper; rw [if_pos h, if_neg (show ¬ dfr x = 0 from hn)]; rfl
      rw [e]
      have f0 : 0 ≤ (x / 4096 % 2 * 512 + x / 64 % 2 * 16 + x / 32 % 2 * 64 + x / 8 % 4 * 128 + x / 4 % 2 * 32) := by omega
      have f1 : (x / 4096 % 2 * 512 + x / 64 % 2 * 16 + x / 32 % 2 * 64 + x / 8 % 4 * 128 + x / 4 % 2 * 32) < 1024 := by omega
      have g0 := sd_lo (x / 4096 % 2 * 512 + x / 64 % 2 * 16 + x / 32 % 2 * 64 + x / 8 % 4 * 128 + x / 4 % 2 * 32) 1024 f0 f1
      have g1 := sd_hi (x / 4096 % 2 * 512 + x / 64 % 2 * 16 + x / 32 % 2 * 64 + x / 8 % 4 * 128 + x / 4 % 2 * 32) 1024 f0 f1
      clear e h hn
      go_enter Tryz.func52, Tryz.ntmps52
      go_wp2_with (first | (go_at_call 45; have c := at_11_7 x x0 x1 w; with_reducible refine c.mono ?_; rintro e' w1 ⟨rfl, rfl⟩) | (go_at_call 45; have c := at_12_12 x x0 x1 w; with_reducible refine c.mono ?_; rintro e' w1 ⟨rfl, rfl⟩) | (go_at_call 45; have c := at_6_6 x x0 x1 w; with_reducible refine c.mono ?_; rintro e' w1 ⟨rfl, rfl⟩) | (go_at_call 45; have c := at_5_5 x x0 x1 w; with_reducible refine c.mono ?_; rintro e' w1 ⟨rfl, rfl⟩) | (go_at_call 45; have c := at_4_3 x x0 x1 w; with_reducible refine c.mono ?_; rintro e' w1 ⟨rfl, rfl⟩) | (go_at_call 45; have c := at_2_2 x x0 x1 w; with_reducible refine c.mono ?_; rintro e' w1 ⟨rfl, rfl⟩) | (go_at_call 50; have c := sgd_10 (x / 4096 % 2 * 512 + x / 64 % 2 * 16 + x / 32 % 2 * 64 + x / 8 % 4 * 128 + x / 4 % 2 * 32) f0 f1 w; with_reducible refine c.mono ?_; rintro e' w1 ⟨rfl, rfl⟩) | (go_at_call 46; have c := dI_w 19 0 2 2 (sd (x / 4096 % 2 * 512 + x / 64 % 2 * 16 + x / 32 % 2 * 64 + x / 8 % 4 * 128 + x / 4 % 2 * 32) 1024) (by decide) (by decide) (by decide) (by decide) (by omega) (by omega) (by omega) (by omega) (by omega) (by omega) w; with_reducible refine c.mono ?_; rintro e' w1 ⟨rfl, rfl⟩))
      go_ret
      exact ⟨rfl, rfl⟩
  · have t0 : (x / 128 % 32 == 2) = false := by simpa using h
    by_cases hn : six x = 0
    · have hb : (six x == 0) = true := by simp [hn]
      have e : dUpper x = 0 := by unfold dUpper; rw [if_neg h, if_pos hn]
      rw [e]
      clear e h hn
      go_enter Tryz.func52, Tryz.ntmps52
      go_wp2_with (first | (go_at_call 45; have c := at_11_7 x x0 x1 w; with_reducible refine c.mono ?_; rintro e' w1 ⟨rfl, rfl⟩) | (go_at_call 51; have c := six_w x x0 x1 w; with_reducible refine c.mono ?_; rintro e' w1 ⟨rfl, rfl⟩))
      go_ret
      exact ⟨rfl, rfl⟩
    · have hb : (six x == 0) = false := by simpa using hn
      have e : dUpper x = 55 + x / 128 % 32 * 128 + sd (six x) 64 % 1048576 * 4096 := by unfold dUpper; rw [if_neg h, if_neg hn]
      rw [e]
      clear e h hn
      go_enter Tryz.func52, Tryz.ntmps52
      go_wp2_with (first | (go_at_call 45; have c := at_11_7 x x0 x1 w; with_reducible refine c.mono ?_; rintro e' w1 ⟨rfl, rfl⟩) | (go_at_call 51; have c := six_w x x0 x1 w; with_reducible refine c.mono ?_; rintro e' w1 ⟨rfl, rfl⟩) | (go_at_call 50; have c := sgd_6 (six x) sx0 sx1 w; with_reducible refine c.mono ?_; rintro e' w1 ⟨rfl, rfl⟩) | (go_at_call 97; have c := low_20 (sd (six x) 64) (by omega) (by omega) w; with_reducible refine c.mono ?_; rintro e' w1 ⟨rfl, rfl⟩))
      go_ret
      exact ⟨ret_int (by first | rfl | omega | (unfold wrap64; omega)), rfl⟩
set_option maxHeartbeats 1000000 in
theorem alu_w' (x : Int) (x0 : 0 ≤ x) (x1 : x < 65536) (w : World) :
    Calls Tryz.prog 53 #[.int .i64 x] w fun e w' => e = .returned (.int .i64 (dAlu x)) ∧ w = w' := by
  have sx0 := six_lo x
  have sx1 := six_hi x
  have sd0 := sd_lo (six x) 64 sx0 sx1
  have sd1 := sd_hi (six x) 64 sx0 sx1
  have wd0 := dwd_lo x
  have wd1 := dwd_hi x
  have lg0 := dlg_lo x
  have lg1 := dlg_hi x
  rcases (show x / 1024 % 4 = 0 ∨ x / 1024 % 4 = 1 ∨ x / 1024 % 4 = 2 ∨ x / 1024 % 4 = 3 by omega) with h | h | h | h
  · have e : dAlu x = dI 19 5 (8 + x / 128 % 8) (8 + x / 128 % 8) (six x) := by simp [dAlu, h]
    rw [e]
    clear e
    have Hh := Lib.hid h
    clear h
    go_enter Tryz.func53, Tryz.ntmps53
    go_wp2_with (first | (go_at_call 45; have c := at_9_7 x x0 x1 w; with_reducible refine c.mono ?_; rintro e' w1 ⟨rfl, rfl⟩) | (go_at_call 45; have c := at_4_2 x x0 x1 w; with_reducible refine c.mono ?_; rintro e' w1 ⟨rfl, rfl⟩) | (go_at_call 45; have c := at_11_10 x x0 x1 w; rw [Hh.out] at c; with_reducible refine c.mono ?_; rintro e' w1 ⟨rfl, rfl⟩) | (go_at_call 51; have c := six_w x x0 x1 w; with_reducible refine c.mono ?_; rintro e' w1 ⟨rfl, rfl⟩) | (go_at_call 46; have c := dI_w 19 5 (8 + x / 128 % 8) (8 + x / 128 % 8) (six x) (by decide) (by decide) (by decide) (by decide) (by omega) (by omega) (by omega) (by omega) (by omega) (by omega) w; with_reducible refine c.mono ?_; rintro e' w1 ⟨rfl, rfl⟩))
    go_ret
    exact ⟨rfl, rfl⟩
  · have e : dAlu x = dI 19 5 (8 + x / 128 % 8) (8 + x / 128 % 8) (1024 + six x) := by simp [dAlu, h]
    rw [e]
    clear e
    have Hh := Lib.hid h
    clear h
    go_enter Tryz.func53, Tryz.ntmps53
    go_wp2_with (first | (go_at_call 45; have c := at_9_7 x x0 x1 w; with_reducible refine c.mono ?_; rintro e' w1 ⟨rfl, rfl⟩) | (go_at_call 45; have c := at_4_2 x x0 x1 w; with_reducible refine c.mono ?_; rintro e' w1 ⟨rfl, rfl⟩) | (go_at_call 45; have c := at_11_10 x x0 x1 w; rw [Hh.out] at c; with_reducible refine c.mono ?_; rintro e' w1 ⟨rfl, rfl⟩) | (go_at_call 51; have c := six_w x x0 x1 w; with_reducible refine c.mono ?_; rintro e' w1 ⟨rfl, rfl⟩) | (go_at_call 46; have c := dI_w 19 5 (8 + x / 128 % 8) (8 + x / 128 % 8) (1024 + six x) (by decide) (by decide) (by decide) (by decide) (by omega) (by omega) (by omega) (by omega) (by omega) (by omega) w; with_reducible refine c.mono ?_; rintro e' w1 ⟨rfl, rfl⟩))
    go_ret
    exact ⟨rfl, rfl⟩
  · have e : dAlu x = dI 19 7 (8 + x / 128 % 8) (8 + x / 128 % 8) (sd (six x) 64) := by simp [dAlu, h]
    rw [e]
    clear e
    have Hh := Lib.hid h
    clear h
    go_enter Tryz.func53, Tryz.ntmps53
    go_wp2_with (first | (go_at_call 45; have c := at_9_7 x x0 x1 w; with_reducible refine c.mono ?_; rintro e' w1 ⟨rfl, rfl⟩) | (go_at_call 45; have c := at_4_2 x x0 x1 w; with_reducible refine c.mono ?_; rintro e' w1 ⟨rfl, rfl⟩) | (go_at_call 45; have c := at_11_10 x x0 x1 w; rw [Hh.out] at c; with_reducible refine c.mono ?_; rintro e' w1 ⟨rfl, rfl⟩) | (go_at_call 51; have c := six_w x x0 x1 w; with_reducible refine c.mono ?_; rintro e' w1 ⟨rfl, rfl⟩) | (go_at_call 50; have c := sgd_6 (six x) sx0 sx1 w; with_reducible refine c.mono ?_; rintro e' w1 ⟨rfl, rfl⟩) | (go_at_call 46; have c := dI_w 19 7 (8 + x / 128 % 8) (8 + x / 128 % 8) (sd (six x) 64) (by decide) (by decide) (by decide) (by decide) (by omega) (by omega) (by omega) (by omega) (by omega) (by omega) w; with_reducible refine c.mono ?_; rintro e' w1 ⟨rfl, rfl⟩))
    go_ret
    exact ⟨rfl, rfl⟩
  · rcases (show x / 4096 % 2 = 0 ∨ x / 4096 % 2 = 1 by omega) with h2 | h2 <;> rcases (show x / 32 % 4 = 0 ∨ x / 32 % 4 = 1 ∨ x / 32 % 4 = 2 ∨ x / 32 % 4 = 3 by omega) with h3 | h3 | h3 | h3
    · have e : dAlu x = dR 51 0 32 (8 + x / 128 % 8) (8 + x / 128 % 8) (8 + x / 4 % 8) := by simp [dAlu, h, h2, h3]
      rw [e]
      clear e
      have Hh := Lib.hid h
      have Hh2 := Lib.hid h2
      have Hh3 := Lib.hid h3
      clear h h2 h3
      go_enter Tryz.func53, Tryz.ntmps53
      go_wp2_with (first | (go_at_call 45; have c := at_9_7 x x0 x1 w; with_reducible refine c.mono ?_; rintro e' w1 ⟨rfl, rfl⟩) | (go_at_call 45; have c := at_4_2 x x0 x1 w; with_reducible refine c.mono ?_; rintro e' w1 ⟨rfl, rfl⟩) | (go_at_call 45; have c := at_11_10 x x0 x1 w; rw [Hh.out] at c; with_reducible refine c.mono ?_; rintro e' w1 ⟨rfl, rfl⟩) | (go_at_call 45; have c := at_12_12 x x0 x1 w; rw [Hh2.out] at c; with_reducible refine c.mono ?_; rintro e' w1 ⟨rfl, rfl⟩) | (go_at_call 45; have c := at_6_5 x x0 x1 w; rw [Hh3.out] at c; with_reducible refine c.mono ?_; rintro e' w1 ⟨rfl, rfl⟩) | (go_at_call 98; have c := dR_w 51 0 32 (8 + x / 128 % 8) (8 + x / 128 % 8) (8 + x / 4 % 8) (by decide) (by decide) (by decide) (by decide) (by omega) (by omega) (by omega) (by omega) (by omega) (by omega) (by decide) (by decide) w; with_reducible refine c.mono ?_; rintro e' w1 ⟨rfl, rfl⟩))
      go_ret
      exact ⟨rfl, rfl⟩
    · have e : dAlu x = dR 51 4 0 (8 + x / 128 % 8) (8 + x / 128 % 8) (8 + x / 4 % 8) := by simp [dAlu, h, h2, h3]
      rw [e]
      clear e
      have Hh := Lib.hid h
      have Hh2 := Lib.hid h2
      have Hh3 := Lib.hid h3
      clear h h2 h3
      go_enter Tryz.func53, Tryz.ntmps53
      go_wp2_with (first | (go_at_call 45; have c := at_9_7 x x0 x1 w; with_reducible refine c.mono ?_; rintro e' w1 ⟨rfl, rfl⟩) | (go_at_call 45; have c := at_4_2 x x0 x1 w; with_reducible refine c.mono ?_; rintro e' w1 ⟨rfl, rfl⟩) | (go_at_call 45; have c := at_11_10 x x0 x1 w; rw [Hh.out] at c; with_reducible refine c.mono ?_; rintro e' w1 ⟨rfl, rfl⟩) | (go_at_call 45; have c := at_12_12 x x0 x1 w; rw [Hh2.out] at c; with_reducible refine c.mono ?_; rintro e' w1 ⟨rfl, rfl⟩) | (go_at_call 45; have c := at_6_5 x x0 x1 w; rw [Hh3.out] at c; with_reducible refine c.mono ?_; rintro e' w1 ⟨rfl, rfl⟩) | (go_at_call 98; have c := dR_w 51 4 0 (8 + x / 128 % 8) (8 + x / 128 % 8) (8 + x / 4 % 8) (by decide) (by decide) (by decide) (by decide) (by omega) (by omega) (by omega) (by omega) (by omega) (by omega) (by decide) (by decide) w; with_reducible refine c.mono ?_; rintro e' w1 ⟨rfl, rfl⟩))
      go_ret
      exact ⟨rfl, rfl⟩
    · have e : dAlu x = dR 51 6 0 (8 + x / 128 % 8) (8 + x / 128 % 8) (8 + x / 4 % 8) := by simp [dAlu, h, h2, h3]
      rw [e]
      clear e
      have Hh := Lib.hid h
      have Hh2 := Lib.hid h2
      have Hh3 := Lib.hid h3
      clear h h2 h3
      go_enter Tryz.func53, Tryz.ntmps53
      go_wp2_with (first | (go_at_call 45; have c := at_9_7 x x0 x1 w; with_reducible refine c.mono ?_; rintro e' w1 ⟨rfl, rfl⟩) | (go_at_call 45; have c := at_4_2 x x0 x1 w; with_reducible refine c.mono ?_; rintro e' w1 ⟨rfl, rfl⟩) | (go_at_call 45; have c := at_11_10 x x0 x1 w; rw [Hh.out] at c; with_reducible refine c.mono ?_; rintro e' w1 ⟨rfl, rfl⟩) | (go_at_call 45; have c := at_12_12 x x0 x1 w; rw [Hh2.out] at c; with_reducible refine c.mono ?_; rintro e' w1 ⟨rfl, rfl⟩) | (go_at_call 45; have c := at_6_5 x x0 x1 w; rw [Hh3.out] at c; with_reducible refine c.mono ?_; rintro e' w1 ⟨rfl, rfl⟩) | (go_at_call 98; have c := dR_w 51 6 0 (8 + x / 128 % 8) (8 + x / 128 % 8) (8 + x / 4 % 8) (by decide) (by decide) (by decide) (by decide) (by omega) (by omega) (by omega) (by omega) (by omega) (by omega) (by decide) (by decide) w; with_reducible refine c.mono ?_; rintro e' w1 ⟨rfl, rfl⟩))
      go_ret
      exact ⟨rfl, rfl⟩
    · have e : dAlu x = dR 51 7 0 (8 + x / 128 % 8) (8 + x / 128 % 8) (8 + x / 4 % 8) := by simp [dAlu, h, h2, h3]
      rw [e]
      clear e
      have Hh := Lib.hid h
      have Hh2 := Lib.hid h2
      have Hh3 := Lib.hid h3
      clear h h2 h3
      go_enter Tryz.func53, Tryz.ntmps53
      go_wp2_with (first | (go_at_call 45; have c := at_9_7 x x0 x1 w; with_reducible refine c.mono ?_; rintro e' w1 ⟨rfl, rfl⟩) | (go_at_call 45; have c := at_4_2 x x0 x1 w; with_reducible refine c.mono ?_; rintro e' w1 ⟨rfl, rfl⟩) | (go_at_call 45; have c := at_11_10 x x0 x1 w; rw [Hh.out] at c; with_reducible refine c.mono ?_; rintro e' w1 ⟨rfl, rfl⟩) | (go_at_call 45; have c := at_12_12 x x0 x1 w; rw [Hh2.out] at c; with_reducible refine c.mono ?_; rintro e' w1 ⟨rfl, rfl⟩) | (go_at_call 45; have c := at_6_5 x x0 x1 w; rw [Hh3.out] at c; with_reducible refine c.mono ?_; rintro e' w1 ⟨rfl, rfl⟩) | (go_at_call 98; have c := dR_w 51 7 0 (8 + x / 128 % 8) (8 + x / 128 % 8) (8 + x / 4 % 8) (by decide) (by decide) (by decide) (by decide) (by omega) (by omega) (by omega) (by omega) (by omega) (by omega) (by decide) (by decide) w; with_reducible refine c.mono ?_; rintro e' w1 ⟨rfl, rfl⟩))
      go_ret
      exact ⟨rfl, rfl⟩
    · have e : dAlu x = dR 59 0 32 (8 + x / 128 % 8) (8 + x / 128 % 8) (8 + x / 4 % 8) := by simp [dAlu, h, h2, h3]
      rw [e]
      clear e
      have Hh := Lib.hid h
      have Hh2 := Lib.hid h2
      have Hh3 := Lib.hid h3
      clear h h2 h3
      go_enter Tryz.func53, Tryz.ntmps53
      go_wp2_with (first | (go_at_call 45; have c := at_9_7 x x0 x1 w; with_reducible refine c.mono ?_; rintro e' w1 ⟨rfl, rfl⟩) | (go_at_call 45; have c := at_4_2 x x0 x1 w; with_reducible refine c.mono ?_; rintro e' w1 ⟨rfl, rfl⟩) | (go_at_call 45; have c := at_11_10 x x0 x1 w; rw [Hh.out] at c; with_reducible refine c.mono ?_; rintro e' w1 ⟨rfl, rfl⟩) | (go_at_call 45; have c := at_12_12 x x0 x1 w; rw [Hh2.out] at c; with_reducible refine c.mono ?_; rintro e' w1 ⟨rfl, rfl⟩) | (go_at_call 45; have c := at_6_5 x x0 x1 w; rw [Hh3.out] at c; with_reducible refine c.mono ?_; rintro e' w1 ⟨rfl, rfl⟩) | (go_at_call 98; have c := dR_w 59 0 32 (8 + x / 128 % 8) (8 + x / 128 % 8) (8 + x / 4 % 8) (by decide) (by decide) (by decide) (by decide) (by omega) (by omega) (by omega) (by omega) (by omega) (by omega) (by decide) (by decide) w; with_reducible refine c.mono ?_; rintro e' w1 ⟨rfl, rfl⟩))
      go_ret
      exact ⟨rfl, rfl⟩
    · have e : dAlu x = dR 59 0 0 (8 + x / 128 % 8) (8 + x / 128 % 8) (8 + x / 4 % 8) := by simp [dAlu, h, h2, h3]
      rw [e]
      clear e
      have Hh := Lib.hid h
      have Hh2 := Lib.hid h2
      have Hh3 := Lib.hid h3
      clear h h2 h3
      go_enter Tryz.func53, Tryz.ntmps53
      go_wp2_with (first | (go_at_call 45; have c := at_9_7 x x0 x1 w; with_reducible refine c.mono ?_; rintro e' w1 ⟨rfl, rfl⟩) | (go_at_call 45; have c := at_4_2 x x0 x1 w; with_reducible refine c.mono ?_; rintro e' w1 ⟨rfl, rfl⟩) | (go_at_call 45; have c := at_11_10 x x0 x1 w; rw [Hh.out] at c; with_reducible refine c.mono ?_; rintro e' w1 ⟨rfl, rfl⟩) | (go_at_call 45; have c := at_12_12 x x0 x1 w; rw [Hh2.out] at c; with_reducible refine c.mono ?_; rintro e' w1 ⟨rfl, rfl⟩) | (go_at_call 45; have c := at_6_5 x x0 x1 w; rw [Hh3.out] at c; with_reducible refine c.mono ?_; rintro e' w1 ⟨rfl, rfl⟩) | (go_at_call 98; have c := dR_w 59 0 0 (8 + x / 128 % 8) (8 + x / 128 % 8) (8 + x / 4 % 8) (by decide) (by decide) (by decide) (by decide) (by omega) (by omega) (by omega) (by omega) (by omega) (by omega) (by decide) (by decide) w; with_reducible refine c.mono ?_; rintro e' w1 ⟨rfl, rfl⟩))
      go_ret
      exact ⟨rfl, rfl⟩
    · have e : dAlu x = 0 := by simp [dAlu, h, h2, h3]
      rw [e]
      clear e
      have Hh := Lib.hid h
      have Hh2 := Lib.hid h2
      have Hh3 := Lib.hid h3
      clear h h2 h3
      go_enter Tryz.func53, Tryz.ntmps53
      go_wp2_with (first | (go_at_call 45; have c := at_9_7 x x0 x1 w; with_reducible refine c.mono ?_; rintro e' w1 ⟨rfl, rfl⟩) | (go_at_call 45; have c := at_4_2 x x0 x1 w; with_reducible refine c.mono ?_; rintro e' w1 ⟨rfl, rfl⟩) | (go_at_call 45; have c := at_11_10 x x0 x1 w; rw [Hh.out] at c; with_reducible refine c.mono ?_; rintro e' w1 ⟨rfl, rfl⟩) | (go_at_call 45; have c := at_12_12 x x0 x1 w; rw [Hh2.out] at c; with_reducible refine c.mono ?_; rintro e' w1 ⟨rfl, rfl⟩) | (go_at_call 45; have c := at_6_5 x x0 x1 w; rw [Hh3.out] at c; with_reducible refine c.mono ?_; rintro e' w1 ⟨rfl, rfl⟩))
      go_ret
      exact ⟨rfl, rfl⟩
    · have e : dAlu x = 0 := by simp [dAlu, h, h2, h3]
      rw [e]
      clear e
      have Hh := Lib.hid h
      have Hh2 := Lib.hid h2
      have Hh3 := Lib.hid h3
      clear h h2 h3
      go_enter Tryz.func53, Tryz.ntmps53
      go_wp2_with (first | (go_at_call 45; have c := at_9_7 x x0 x1 w; with_reducible refine c.mono ?_; rintro e' w1 ⟨rfl, rfl⟩) | (go_at_call 45; have c := at_4_2 x x0 x1 w; with_reducible refine c.mono ?_; rintro e' w1 ⟨rfl, rfl⟩) | (go_at_call 45; have c := at_11_10 x x0 x1 w; rw [Hh.out] at c; with_reducible refine c.mono ?_; rintro e' w1 ⟨rfl, rfl⟩) | (go_at_call 45; have c := at_12_12 x x0 x1 w; rw [Hh2.out] at c; with_reducible refine c.mono ?_; rintro e' w1 ⟨rfl, rfl⟩) | (go_at_call 45; have c := at_6_5 x x0 x1 w; rw [Hh3.out] at c; with_reducible refine c.mono ?_; rintro e' w1 ⟨rfl, rfl⟩))
      go_ret
      exact ⟨rfl, rfl⟩
set_option maxHeartbeats 1000000 in
theorem moves_w (x : Int) (x0 : 0 ≤ x) (x1 : x < 65536) (w : World) :
    Calls Tryz.prog 56 #[.int .i64 x] w fun e w' => e = .returned (.int .i64 (dMoves x)) ∧ w = w' := by
  have sx0 := six_lo x
  have sx1 := six_hi x
  have sd0 := sd_lo (six x) 64 sx0 sx1
  have sd1 := sd_hi (six x) 64 sx0 sx1
  have wd0 := dwd_lo x
  have wd1 := dwd_hi x
  have lg0 := dlg_lo x
  have lg1 := dlg_hi x
  rcases (show x / 4096 % 2 = 0 ∨ x / 4096 % 2 = 1 by omega) with h | h <;> by_cases h2 : x / 4 % 32 = 0 <;> by_cases h3 : x / 128 % 32 = 0
  · have e : dMoves x = 0 := by simp [dMoves, h, h2, h3]
    have t1 : (x / 4 % 32 != 0) = false := by simp [h2]
    have t2 : (x / 128 % 32 == 0) = true := by simp [h3]
    rw [e]
    have Hh := Lib.hid h
    clear e h h2 h3
    go_enter Tryz.func56, Tryz.ntmps56
    go_wp2_with (first | (go_at_call 45; have c := at_11_7 x x0 x1 w; with_reducible refine c.mono ?_; rintro e' w1 ⟨rfl, rfl⟩) | (go_at_call 45; have c := at_6_2 x x0 x1 w; with_reducible refine c.mono ?_; rintro e' w1 ⟨rfl, rfl⟩) | (go_at_call 45; have c := at_12_12 x x0 x1 w; rw [Hh.out] at c; with_reducible refine c.mono ?_; rintro e' w1 ⟨rfl, rfl⟩))
    go_ret
    exact ⟨rfl, rfl⟩
  · have e : dMoves x = dI 103 0 0 (x / 128 % 32) 0 := by simp [dMoves, h, h2, h3]
    have t1 : (x / 4 % 32 != 0) = false := by simp [h2]
    have t2 : (x / 128 % 32 == 0) = false := by simp [h3]
    rw [e]
    have Hh := Lib.hid h
    clear e h h2 h3
    go_enter Tryz.func56, Tryz.ntmps56
    go_wp2_with (first | (go_at_call 45; have c := at_11_7 x x0 x1 w; with_reducible refine c.mono ?_; rintro e' w1 ⟨rfl, rfl⟩) | (go_at_call 45; have c := at_6_2 x x0 x1 w; with_reducible refine c.mono ?_; rintro e' w1 ⟨rfl, rfl⟩) | (go_at_call 45; have c := at_12_12 x x0 x1 w; rw [Hh.out] at c; with_reducible refine c.mono ?_; rintro e' w1 ⟨rfl, rfl⟩) | (go_at_call 46; have c := dI_w 103 0 0 (x / 128 % 32) 0 (by decide) (by decide) (by decide) (by decide) (by omega) (by omega) (by omega) (by omega) (by decide) (by decide) w; with_reducible refine c.mono ?_; rintro e' w1 ⟨rfl, rfl⟩))
    go_ret
    exact ⟨rfl, rfl⟩
  · have e : dMoves x = dR 51 0 0 (x / 128 % 32) 0 (x / 4 % 32) := by simp [dMoves, h, h2, h3]
    have t1 : (x / 4 % 32 != 0) = true := by simp [h2]
    have t2 : (x / 128 % 32 == 0) = true := by simp [h3]
    rw [e]
    have Hh := Lib.hid h
    clear e h h2 h3
    go_enter Tryz.func56, Tryz.ntmps56
    go_wp2_with (first | (go_at_call 45; have c := at_11_7 x x0 x1 w; with_reducible refine c.mono ?_; rintro e' w1 ⟨rfl, rfl⟩) | (go_at_call 45; have c := at_6_2 x x0 x1 w; with_reducible refine c.mono ?_; rintro e' w1 ⟨rfl, rfl⟩) | (go_at_call 45; have c := at_12_12 x x0 x1 w; rw [Hh.out] at c; with_reducible refine c.mono ?_; rintro e' w1 ⟨rfl, rfl⟩) | (go_at_call 98; have c := dR_w 51 0 0 (x / 128 % 32) 0 (x / 4 % 32) (by decide) (by decide) (by decide) (by decide) (by omega) (by omega) (by omega) (by omega) (by omega) (by omega) (by decide) (by decide) w; with_reducible refine c.mono ?_; rintro e' w1 ⟨rfl, rfl⟩))
    go_ret
    exact ⟨rfl, rfl⟩
  · have e : dMoves x = dR 51 0 0 (x / 128 % 32) 0 (x / 4 % 32) := by simp [dMoves, h, h2, h3]
    have t1 : (x / 4 % 32 != 0) = true := by simp [h2]
    have t2 : (x / 128 % 32 == 0) = false := by simp [h3]
    rw [e]
    have Hh := Lib.hid h
    clear e h h2 h3
    go_enter Tryz.func56, Tryz.ntmps56
    go_wp2_with (first | (go_at_call 45; have c := at_11_7 x x0 x1 w; with_reducible refine c.mono ?_; rintro e' w1 ⟨rfl, rfl⟩) | (go_at_call 45; have c := at_6_2 x x0 x1 w; with_reducible refine c.mono ?_; rintro e' w1 ⟨rfl, rfl⟩) | (go_at_call 45; have c := at_12_12 x x0 x1 w; rw [Hh.out] at c; with_reducible refine c.mono ?_; rintro e' w1 ⟨rfl, rfl⟩) | (go_at_call 98; have c := dR_w 51 0 0 (x / 128 % 32) 0 (x / 4 % 32) (by decide) (by decide) (by decide) (by decide) (by omega) (by omega) (by omega) (by omega) (by omega) (by omega) (by decide) (by decide) w; with_reducible refine c.mono ?_; rintro e' w1 ⟨rfl, rfl⟩))
    go_ret
    exact ⟨rfl, rfl⟩
  · have e : dMoves x = 1048691 := by simp [dMoves, h, h2, h3]
    have t1 : (x / 4 % 32 != 0) = false := by simp [h2]
    have t2 : (x / 128 % 32 == 0) = true := by simp [h3]
    rw [e]
    have Hh := Lib.hid h
    clear e h h2 h3
    go_enter Tryz.func56, Tryz.ntmps56
    go_wp2_with (first | (go_at_call 45; have c := at_11_7 x x0 x1 w; with_reducible refine c.mono ?_; rintro e' w1 ⟨rfl, rfl⟩) | (go_at_call 45; have c := at_6_2 x x0 x1 w; with_reducible refine c.mono ?_; rintro e' w1 ⟨rfl, rfl⟩) | (go_at_call 45; have c := at_12_12 x x0 x1 w; rw [Hh.out] at c; with_reducible refine c.mono ?_; rintro e' w1 ⟨rfl, rfl⟩))
    go_ret
    exact ⟨rfl, rfl⟩
  · have e : dMoves x = dI 103 0 1 (x / 128 % 32) 0 := by simp [dMoves, h, h2, h3]
    have t1 : (x / 4 % 32 != 0) = false := by simp [h2]
    have t2 : (x / 128 % 32 == 0) = false := by simp [h3]
    rw [e]
    have Hh := Lib.hid h
    clear e h h2 h3
    go_enter Tryz.func56, Tryz.ntmps56
    go_wp2_with (first | (go_at_call 45; have c := at_11_7 x x0 x1 w; with_reducible refine c.mono ?_; rintro e' w1 ⟨rfl, rfl⟩) | (go_at_call 45; have c := at_6_2 x x0 x1 w; with_reducible refine c.mono ?_; rintro e' w1 ⟨rfl, rfl⟩) | (go_at_call 45; have c := at_12_12 x x0 x1 w; rw [Hh.out] at c; with_reducible refine c.mono ?_; rintro e' w1 ⟨rfl, rfl⟩) | (go_at_call 46; have c := dI_w 103 0 1 (x / 128 % 32) 0 (by decide) (by decide) (by decide) (by decide) (by omega) (by omega) (by omega) (by omega) (by decide) (by decide) w; with_reducible refine c.mono ?_; rintro e' w1 ⟨rfl, rfl⟩))
    go_ret
    exact ⟨rfl, rfl⟩
  · have e : dMoves x = dR 51 0 0 (x / 128 % 32) (x / 128 % 32) (x / 4 % 32) := by simp [dMoves, h, h2, h3]
    have t1 : (x / 4 % 32 != 0) = true := by simp [h2]
    have t2 : (x / 128 % 32 == 0) = true := by simp [h3]
    rw [e]
    have Hh := Lib.hid h
    clear e h h2 h3
    go_enter Tryz.func56, Tryz.ntmps56
    go_wp2_with (first | (go_at_call 45; have c := at_11_7 x x0 x1 w; with_reducible refine c.mono ?_; rintro e' w1 ⟨rfl, rfl⟩) | (go_at_call 45; have c := at_6_2 x x0 x1 w; with_reducible refine c.mono ?_; rintro e' w1 ⟨rfl, rfl⟩) | (go_at_call 45; have c := at_12_12 x x0 x1 w; rw [Hh.out] at c; with_reducible refine c.mono ?_; rintro e' w1 ⟨rfl, rfl⟩) | (go_at_call 98; have c := dR_w 51 0 0 (x / 128 % 32) (x / 128 % 32) (x / 4 % 32) (by decide) (by decide) (by decide) (by decide) (by omega) (by omega) (by omega) (by omega) (by omega) (by omega) (by decide) (by decide) w; with_reducible refine c.mono ?_; rintro e' w1 ⟨rfl, rfl⟩))
    go_ret
    exact ⟨rfl, rfl⟩
  · have e : dMoves x = dR 51 0 0 (x / 128 % 32) (x / 128 % 32) (x / 4 % 32) := by simp [dMoves, h, h2, h3]
    have t1 : (x / 4 % 32 != 0) = true := by simp [h2]
    have t2 : (x / 128 % 32 == 0) = false := by simp [h3]
    rw [e]
    have Hh := Lib.hid h
    clear e h h2 h3
    go_enter Tryz.func56, Tryz.ntmps56
    go_wp2_with (first | (go_at_call 45; have c := at_11_7 x x0 x1 w; with_reducible refine c.mono ?_; rintro e' w1 ⟨rfl, rfl⟩) | (go_at_call 45; have c := at_6_2 x x0 x1 w; with_reducible refine c.mono ?_; rintro e' w1 ⟨rfl, rfl⟩) | (go_at_call 45; have c := at_12_12 x x0 x1 w; rw [Hh.out] at c; with_reducible refine c.mono ?_; rintro e' w1 ⟨rfl, rfl⟩) | (go_at_call 98; have c := dR_w 51 0 0 (x / 128 % 32) (x / 128 % 32) (x / 4 % 32) (by decide) (by decide) (by decide) (by decide) (by omega) (by omega) (by omega) (by omega) (by omega) (by omega) (by decide) (by decide) w; with_reducible refine c.mono ?_; rintro e' w1 ⟨rfl, rfl⟩))
    go_ret
    exact ⟨rfl, rfl⟩
end Go.Proofs.YtlfeandnpflaaaaGreatDoor
namespace Go.Proofs.YtlfeandnpflaaaaGreatDoor
open Go.ChangeShapes Go.WideShapes Go.ChangeAt Go.RowKit
set_option linter.unusedVariables false
set_option linter.unusedSimpArgs false
set_option maxHeartbeats 1000000 in
theorem second_w (x : Int) (x0 : 0 ≤ x) (x1 : x < 65536) (w : World) :
    Calls Tryz.prog 26 #[.int .i64 x] w fun e w' => e = .returned (.int .i64 (dSecond x)) ∧ w = w' := by
  have sx0 := six_lo x
  have sx1 := six_hi x
  have sd0 := sd_lo (six x) 64 sx0 sx1
  have sd1 := sd_hi (six x) 64 sx0 sx1
  have wd0 := dwd_lo x
  have wd1 := dwd_hi x
  have lg0 := dlg_lo x
  have lg1 := dlg_hi x
  rcases (show x / 8192 % 8 = 0 ∨ x / 8192 % 8 = 1 ∨ x / 8192 % 8 = 2 ∨ x / 8192 % 8 = 3 ∨ x / 8192 % 8 = 4 ∨ x / 8192 % 8 = 5 ∨ x / 8192 % 8 = 6 ∨ x / 8192 % 8 = 7 by omega) with h | h | h | h | h | h | h | h
  · have e : dSecond x = dI 19 0 (x / 128 % 32) (x / 128 % 32) (sd (six x) 64) := by simp [dSecond, h]
    rw [e]
    clear e
    have Hh := Lib.hid h
    clear h
    go_enter Tryz.func26, Tryz.ntmps26
    go_wp2_with (first | (go_at_call 45; have c := at_11_7 x x0 x1 w; with_reducible refine c.mono ?_; rintro e' w1 ⟨rfl, rfl⟩) | (go_at_call 51; have c := six_w x x0 x1 w; with_reducible refine c.mono ?_; rintro e' w1 ⟨rfl, rfl⟩) | (go_at_call 50; have c := sgd_6 (six x) sx0 sx1 w; with_reducible refine c.mono ?_; rintro e' w1 ⟨rfl, rfl⟩) | (go_at_call 45; have c := at_15_13 x x0 x1 w; rw [Hh.out] at c; with_reducible refine c.mono ?_; rintro e' w1 ⟨rfl, rfl⟩) | (go_at_call 46; have c := dI_w 19 0 (x / 128 % 32) (x / 128 % 32) (sd (six x) 64) (by decide) (by decide) (by decide) (by decide) (by omega) (by omega) (by omega) (by omega) (by omega) (by omega) w; with_reducible refine c.mono ?_; rintro e' w1 ⟨rfl, rfl⟩))
    go_ret
    exact ⟨rfl, rfl⟩
  · by_cases hn : x / 128 % 32 = 0
    · have hb : (x / 128 % 32 == 0) = true := by simp [hn]
      have e : dSecond x = 0 := by simp [dSecond, h, hn]
      rw [e]
      have Hh := Lib.hid h
      clear e h hn
      go_enter Tryz.func26, Tryz.ntmps26
      go_wp2_with (first | (go_at_call 45; have c := at_11_7 x x0 x1 w; with_reducible refine c.mono ?_; rintro e' w1 ⟨rfl, rfl⟩) | (go_at_call 51; have c := six_w x x0 x1 w; with_reducible refine c.mono ?_; rintro e' w1 ⟨rfl, rfl⟩) | (go_at_call 50; have c := sgd_6 (six x) sx0 sx1 w; with_reducible refine c.mono ?_; rintro e' w1 ⟨rfl, rfl⟩) | (go_at_call 45; have c := at_15_13 x x0 x1 w; rw [Hh.out] at c; with_reducible refine c.mono ?_; rintro e' w1 ⟨rfl, rfl⟩))
      go_ret
      exact ⟨rfl, rfl⟩
    · have hb : (x / 128 % 32 == 0) = false := by simpa using hn
      have e : dSecond x = dI 27 0 (x / 128 % 32) (x / 128 % 32) (sd (six x) 64) := by simp [dSecond, h, hn]
      rw [e]
      have Hh := Lib.hid h
      clear e h hn
      go_enter Tryz.func26, Tryz.ntmps26
      go_wp2_with (first | (go_at_call 45; have c := at_11_7 x x0 x1 w; with_reducible refine c.mono ?_; rintro e' w1 ⟨rfl, rfl⟩) | (go_at_call 51; have c := six_w x x0 x1 w; with_reducible refine c.mono ?_; rintro e' w1 ⟨rfl, rfl⟩) | (go_at_call 50; have c := sgd_6 (six x) sx0 sx1 w; with_reducible refine c.mono ?_; rintro e' w1 ⟨rfl, rfl⟩) | (go_at_call 45; have c := at_15_13 x x0 x1 w; rw [Hh.out] at c; with_reducible refine c.mono ?_; rintro e' w1 ⟨rfl, rfl⟩) | (go_at_call 46; have c := dI_w 27 0 (x / 128 % 32) (x / 128 % 32) (sd (six x) 64) (by decide) (by decide) (by decide) (by decide) (by omega) (by omega) (by omega) (by omega) (by omega) (by omega) w; with_reducible refine c.mono ?_; rintro e' w1 ⟨rfl, rfl⟩))
      go_ret
      exact ⟨rfl, rfl⟩
  · have e : dSecond x = dI 19 0 (x / 128 % 32) 0 (sd (six x) 64) := by simp [dSecond, h]
    rw [e]
    clear e
    have Hh := Lib.hid h
    clear h
    go_enter Tryz.func26, Tryz.ntmps26
    go_wp2_with (first | (go_at_call 45; have c := at_11_7 x x0 x1 w; with_reducible refine c.mono ?_; rintro e' w1 ⟨rfl, rfl⟩) | (go_at_call 51; have c := six_w x x0 x1 w; with_reducible refine c.mono ?_; rintro e' w1 ⟨rfl, rfl⟩) | (go_at_call 50; have c := sgd_6 (six x) sx0 sx1 w; with_reducible refine c.mono ?_; rintro e' w1 ⟨rfl, rfl⟩) | (go_at_call 45; have c := at_15_13 x x0 x1 w; rw [Hh.out] at c; with_reducible refine c.mono ?_; rintro e' w1 ⟨rfl, rfl⟩) | (go_at_call 46; have c := dI_w 19 0 (x / 128 % 32) 0 (sd (six x) 64) (by decide) (by decide) (by decide) (by decide) (by omega) (by omega) (by omega) (by omega) (by omega) (by omega) w; with_reducible refine c.mono ?_; rintro e' w1 ⟨rfl, rfl⟩))
    go_ret
    exact ⟨rfl, rfl⟩
  · have e : dSecond x = dUpper x := by simp [dSecond, h]
    rw [e]
    clear e
    have Hh := Lib.hid h
    clear h
    go_enter Tryz.func26, Tryz.ntmps26
    go_wp2_with (first | (go_at_call 45; have c := at_11_7 x x0 x1 w; with_reducible refine c.mono ?_; rintro e' w1 ⟨rfl, rfl⟩) | (go_at_call 51; have c := six_w x x0 x1 w; with_reducible refine c.mono ?_; rintro e' w1 ⟨rfl, rfl⟩) | (go_at_call 50; have c := sgd_6 (six x) sx0 sx1 w; with_reducible refine c.mono ?_; rintro e' w1 ⟨rfl, rfl⟩) | (go_at_call 45; have c := at_15_13 x x0 x1 w; rw [Hh.out] at c; with_reducible refine c.mono ?_; rintro e' w1 ⟨rfl, rfl⟩) | (go_at_call 52; have c := upper_w' x x0 x1 w; with_reducible refine c.mono ?_; rintro e' w1 ⟨rfl, rfl⟩))
    go_ret
    exact ⟨rfl, rfl⟩
  · have e : dSecond x = dAlu x := by simp [dSecond, h]
    rw [e]
    clear e
    have Hh := Lib.hid h
    clear h
    go_enter Tryz.func26, Tryz.ntmps26
    go_wp2_with (first | (go_at_call 45; have c := at_11_7 x x0 x1 w; with_reducible refine c.mono ?_; rintro e' w1 ⟨rfl, rfl⟩) | (go_at_call 51; have c := six_w x x0 x1 w; with_reducible refine c.mono ?_; rintro e' w1 ⟨rfl, rfl⟩) | (go_at_call 50; have c := sgd_6 (six x) sx0 sx1 w; with_reducible refine c.mono ?_; rintro e' w1 ⟨rfl, rfl⟩) | (go_at_call 45; have c := at_15_13 x x0 x1 w; rw [Hh.out] at c; with_reducible refine c.mono ?_; rintro e' w1 ⟨rfl, rfl⟩) | (go_at_call 53; have c := alu_w' x x0 x1 w; with_reducible refine c.mono ?_; rintro e' w1 ⟨rfl, rfl⟩))
    go_ret
    exact ⟨rfl, rfl⟩
  · have e : dSecond x = dJ (sd (x / 4096 % 2 * 2048 + x / 2048 % 2 * 16 + x / 512 % 4 * 256 + x / 256 % 2 * 1024 + x / 128 % 2 * 64 + x / 64 % 2 * 128 + x / 8 % 8 * 2 + x / 4 % 2 * 32) 4096) := by unfold dSecond; rw [if_neg (by omega), if_neg (by omega), if_neg (by omega), if_neg (by omega), if_neg (by omega), if_pos h]; rfl
    rw [e]
    have Hh := Lib.hid h
    have f0 : 0 ≤ (x / 4096 % 2 * 2048 + x / 2048 % 2 * 16 + x / 512 % 4 * 256 + x / 256 % 2 * 1024 + x / 128 % 2 * 64 + x / 64 % 2 * 128 + x / 8 % 8 * 2 + x / 4 % 2 * 32) := by omega
    have f1 : (x / 4096 % 2 * 2048 + x / 2048 % 2 * 16 + x / 512 % 4 * 256 + x / 256 % 2 * 1024 + x / 128 % 2 * 64 + x / 64 % 2 * 128 + x / 8 % 8 * 2 + x / 4 % 2 * 32) < 4096 := by omega
    have g0 := sd_lo (x / 4096 % 2 * 2048 + x / 2048 % 2 * 16 + x / 512 % 4 * 256 + x / 256 % 2 * 1024 + x / 128 % 2 * 64 + x / 64 % 2 * 128 + x / 8 % 8 * 2 + x / 4 % 2 * 32) 4096 f0 f1
    have g1 := sd_hi (x / 4096 % 2 * 2048 + x / 2048 % 2 * 16 + x / 512 % 4 * 256 + x / 256 % 2 * 1024 + x / 128 % 2 * 64 + x / 64 % 2 * 128 + x / 8 % 8 * 2 + x / 4 % 2 * 32) 4096 f0 f1
    skip
    skip
    clear e h
    go_enter Tryz.func26, Tryz.ntmps26
    go_wp2_with (first | (go_at_call 45; have c := at_11_7 x x0 x1 w; with_reducible refine c.mono ?_; rintro e' w1 ⟨rfl, rfl⟩) | (go_at_call 51; have c := six_w x x0 x1 w; with_reducible refine c.mono ?_; rintro e' w1 ⟨rfl, rfl⟩) | (go_at_call 50; have c := sgd_6 (six x) sx0 sx1 w; with_reducible refine c.mono ?_; rintro e' w1 ⟨rfl, rfl⟩) | (go_at_call 45; have c := at_15_13 x x0 x1 w; rw [Hh.out] at c; with_reducible refine c.mono ?_; rintro e' w1 ⟨rfl, rfl⟩) | (go_at_call 45; have c := at_12_12 x x0 x1 w; with_reducible refine c.mono ?_; rintro e' w1 ⟨rfl, rfl⟩) | (go_at_call 45; have c := at_11_11 x x0 x1 w; with_reducible refine c.mono ?_; rintro e' w1 ⟨rfl, rfl⟩) | (go_at_call 45; have c := at_10_9 x x0 x1 w; with_reducible refine c.mono ?_; rintro e' w1 ⟨rfl, rfl⟩) | (go_at_call 45; have c := at_8_8 x x0 x1 w; with_reducible refine c.mono ?_; rintro e' w1 ⟨rfl, rfl⟩) | (go_at_call 45; have c := at_7_7 x x0 x1 w; with_reducible refine c.mono ?_; rintro e' w1 ⟨rfl, rfl⟩) | (go_at_call 45; have c := at_6_6 x x0 x1 w; with_reducible refine c.mono ?_; rintro e' w1 ⟨rfl, rfl⟩) | (go_at_call 45; have c := at_5_3 x x0 x1 w; with_reducible refine c.mono ?_; rintro e' w1 ⟨rfl, rfl⟩) | (go_at_call 45; have c := at_2_2 x x0 x1 w; with_reducible refine c.mono ?_; rintro e' w1 ⟨rfl, rfl⟩) | (go_at_call 50; have c := sgd_12 (x / 4096 % 2 * 2048 + x / 2048 % 2 * 16 + x / 512 % 4 * 256 + x / 256 % 2 * 1024 + x / 128 % 2 * 64 + x / 64 % 2 * 128 + x / 8 % 8 * 2 + x / 4 % 2 * 32) f0 f1 w; with_reducible refine c.mono ?_; rintro e' w1 ⟨rfl, rfl⟩) | (go_at_call 54; have c := dJ_w (sd (x / 4096 % 2 * 2048 + x / 2048 % 2 * 16 + x / 512 % 4 * 256 + x / 256 % 2 * 1024 + x / 128 % 2 * 64 + x / 64 % 2 * 128 + x / 8 % 8 * 2 + x / 4 % 2 * 32) 4096) (by omega) (by omega) w; with_reducible refine c.mono ?_; rintro e' w1 ⟨rfl, rfl⟩))
    go_ret
    exact ⟨rfl, rfl⟩
  · have e : dSecond x = dB 0 (8 + x / 128 % 8) (sd (x / 4096 % 2 * 256 + x / 1024 % 4 * 8 + x / 32 % 4 * 64 + x / 8 % 4 * 2 + x / 4 % 2 * 32) 512) := by unfold dSecond; rw [if_neg (by omega), if_neg (by omega), if_neg (by omega), if_neg (by omega), if_neg (by omega), if_neg (by omega), show x / 8192 % 2 = 0 by omega]; rfl
    rw [e]
    have Hh := Lib.hid h
    have f0 : 0 ≤ (x / 4096 % 2 * 256 + x / 1024 % 4 * 8 + x / 32 % 4 * 64 + x / 8 % 4 * 2 + x / 4 % 2 * 32) := by omega
    have f1 : (x / 4096 % 2 * 256 + x / 1024 % 4 * 8 + x / 32 % 4 * 64 + x / 8 % 4 * 2 + x / 4 % 2 * 32) < 512 := by omega
    have g0 := sd_lo (x / 4096 % 2 * 256 + x / 1024 % 4 * 8 + x / 32 % 4 * 64 + x / 8 % 4 * 2 + x / 4 % 2 * 32) 512 f0 f1
    have g1 := sd_hi (x / 4096 % 2 * 256 + x / 1024 % 4 * 8 + x / 32 % 4 * 64 + x / 8 % 4 * 2 + x / 4 % 2 * 32) 512 f0 f1
    have h13 : x / 8192 % 2 = 0 := by omega
    have Hh13 := Lib.hid h13
    clear e h h13
    go_enter Tryz.func26, Tryz.ntmps26
    go_wp2_with (first | (go_at_call 45; have c := at_11_7 x x0 x1 w; with_reducible refine c.mono ?_; rintro e' w1 ⟨rfl, rfl⟩) | (go_at_call 51; have c := six_w x x0 x1 w; with_reducible refine c.mono ?_; rintro e' w1 ⟨rfl, rfl⟩) | (go_at_call 50; have c := sgd_6 (six x) sx0 sx1 w; with_reducible refine c.mono ?_; rintro e' w1 ⟨rfl, rfl⟩) | (go_at_call 45; have c := at_15_13 x x0 x1 w; rw [Hh.out] at c; with_reducible refine c.mono ?_; rintro e' w1 ⟨rfl, rfl⟩) | (go_at_call 45; have c := at_12_12 x x0 x1 w; with_reducible refine c.mono ?_; rintro e' w1 ⟨rfl, rfl⟩) | (go_at_call 45; have c := at_11_10 x x0 x1 w; with_reducible refine c.mono ?_; rintro e' w1 ⟨rfl, rfl⟩) | (go_at_call 45; have c := at_6_5 x x0 x1 w; with_reducible refine c.mono ?_; rintro e' w1 ⟨rfl, rfl⟩) | (go_at_call 45; have c := at_4_3 x x0 x1 w; with_reducible refine c.mono ?_; rintro e' w1 ⟨rfl, rfl⟩) | (go_at_call 45; have c := at_2_2 x x0 x1 w; with_reducible refine c.mono ?_; rintro e' w1 ⟨rfl, rfl⟩) | (go_at_call 45; have c := at_9_7 x x0 x1 w; with_reducible refine c.mono ?_; rintro e' w1 ⟨rfl, rfl⟩) | (go_at_call 45; have c := at_13_13 x x0 x1 w; rw [Hh13.out] at c; with_reducible refine c.mono ?_; rintro e' w1 ⟨rfl, rfl⟩) | (go_at_call 50; have c := sgd_9 (x / 4096 % 2 * 256 + x / 1024 % 4 * 8 + x / 32 % 4 * 64 + x / 8 % 4 * 2 + x / 4 % 2 * 32) f0 f1 w; with_reducible refine c.mono ?_; rintro e' w1 ⟨rfl, rfl⟩) | (go_at_call 55; have c := dB_w 0 (8 + x / 128 % 8) (sd (x / 4096 % 2 * 256 + x / 1024 % 4 * 8 + x / 32 % 4 * 64 + x / 8 % 4 * 2 + x / 4 % 2 * 32) 512) (by decide) (by decide) (by omega) (by omega) (by omega) (by omega) w; with_reducible refine c.mono ?_; rintro e' w1 ⟨rfl, rfl⟩))
    go_ret
    exact ⟨rfl, rfl⟩
  · have e : dSecond x = dB 1 (8 + x / 128 % 8) (sd (x / 4096 % 2 * 256 + x / 1024 % 4 * 8 + x / 32 % 4 * 64 + x / 8 % 4 * 2 + x / 4 % 2 * 32) 512) := by unfold dSecond; rw [if_neg (by omega), if_neg (by omega), if_neg (by omega), if_neg (by omega), if_neg (by omega), if_neg (by omega), show x / 8192 % 2 = 1 by omega]; rfl
    rw [e]
    have Hh := Lib.hid h
    have f0 : 0 ≤ (x / 4096 % 2 * 256 + x / 1024 % 4 * 8 + x / 32 % 4 * 64 + x / 8 % 4 * 2 + x / 4 % 2 * 32) := by omega
    have f1 : (x / 4096 % 2 * 256 + x / 1024 % 4 * 8 + x / 32 % 4 * 64 + x / 8 % 4 * 2 + x / 4 % 2 * 32) < 512 := by omega
    have g0 := sd_lo (x / 4096 % 2 * 256 + x / 1024 % 4 * 8 + x / 32 % 4 * 64 + x / 8 % 4 * 2 + x / 4 % 2 * 32) 512 f0 f1
    have g1 := sd_hi (x / 4096 % 2 * 256 + x / 1024 % 4 * 8 + x / 32 % 4 * 64 + x / 8 % 4 * 2 + x / 4 % 2 * 32) 512 f0 f1
    have h13 : x / 8192 % 2 = 1 := by omega
    have Hh13 := Lib.hid h13
    clear e h h13
    go_enter Tryz.func26, Tryz.ntmps26
    go_wp2_with (first | (go_at_call 45; have c := at_11_7 x x0 x1 w; with_reducible refine c.mono ?_; rintro e' w1 ⟨rfl, rfl⟩) | (go_at_call 51; have c := six_w x x0 x1 w; with_reducible refine c.mono ?_; rintro e' w1 ⟨rfl, rfl⟩) | (go_at_call 50; have c := sgd_6 (six x) sx0 sx1 w; with_reducible refine c.mono ?_; rintro e' w1 ⟨rfl, rfl⟩) | (go_at_call 45; have c := at_15_13 x x0 x1 w; rw [Hh.out] at c; with_reducible refine c.mono ?_; rintro e' w1 ⟨rfl, rfl⟩) | (go_at_call 45; have c := at_12_12 x x0 x1 w; with_reducible refine c.mono ?_; rintro e' w1 ⟨rfl, rfl⟩) | (go_at_call 45; have c := at_11_10 x x0 x1 w; with_reducible refine c.mono ?_; rintro e' w1 ⟨rfl, rfl⟩) | (go_at_call 45; have c := at_6_5 x x0 x1 w; with_reducible refine c.mono ?_; rintro e' w1 ⟨rfl, rfl⟩) | (go_at_call 45; have c := at_4_3 x x0 x1 w; with_reducible refine c.mono ?_; rintro e' w1 ⟨rfl, rfl⟩) | (go_at_call 45; have c := at_2_2 x x0 x1 w; with_reducible refine c.mono ?_; rintro e' w1 ⟨rfl, rfl⟩) | (go_at_call 45; have c := at_9_7 x x0 x1 w; with_reducible refine c.mono ?_; rintro e' w1 ⟨rfl, rfl⟩) | (go_at_call 45; have c := at_13_13 x x0 x1 w; rw [Hh13.out] at c; with_reducible refine c.mono ?_; rintro e' w1 ⟨rfl, rfl⟩) | (go_at_call 50; have c := sgd_9 (x / 4096 % 2 * 256 + x / 1024 % 4 * 8 + x / 32 % 4 * 64 + x / 8 % 4 * 2 + x / 4 % 2 * 32) f0 f1 w; with_reducible refine c.mono ?_; rintro e' w1 ⟨rfl, rfl⟩) | (go_at_call 55; have c := dB_w 1 (8 + x / 128 % 8) (sd (x / 4096 % 2 * 256 + x / 1024 % 4 * 8 + x / 32 % 4 * 64 + x / 8 % 4 * 2 + x / 4 % 2 * 32) 512) (by decide) (by decide) (by omega) (by omega) (by omega) (by omega) w; with_reducible refine c.mono ?_; rintro e' w1 ⟨rfl, rfl⟩))
    go_ret
    exact ⟨rfl, rfl⟩
set_option maxHeartbeats 1000000 in
theorem third_w (x : Int) (x0 : 0 ≤ x) (x1 : x < 65536) (w : World) :
    Calls Tryz.prog 27 #[.int .i64 x] w fun e w' => e = .returned (.int .i64 (dThird x)) ∧ w = w' := by
  have sx0 := six_lo x
  have sx1 := six_hi x
  have sd0 := sd_lo (six x) 64 sx0 sx1
  have sd1 := sd_hi (six x) 64 sx0 sx1
  have wd0 := dwd_lo x
  have wd1 := dwd_hi x
  have lg0 := dlg_lo x
  have lg1 := dlg_hi x
  rcases (show x / 8192 % 8 = 0 ∨ x / 8192 % 8 = 1 ∨ x / 8192 % 8 = 2 ∨ x / 8192 % 8 = 3 ∨ x / 8192 % 8 = 4 ∨ x / 8192 % 8 = 5 ∨ x / 8192 % 8 = 6 ∨ x / 8192 % 8 = 7 by omega) with h | h | h | h | h | h | h | h
  · have e : dThird x = dI 19 1 (x / 128 % 32) (x / 128 % 32) (six x) := by simp [dThird, h]
    rw [e]
    clear e
    have Hh := Lib.hid h
    clear h
    go_enter Tryz.func27, Tryz.ntmps27
    go_wp2_with (first | (go_at_call 45; have c := at_11_7 x x0 x1 w; with_reducible refine c.mono ?_; rintro e' w1 ⟨rfl, rfl⟩) | (go_at_call 45; have c := at_6_2 x x0 x1 w; with_reducible refine c.mono ?_; rintro e' w1 ⟨rfl, rfl⟩) | (go_at_call 45; have c := at_15_13 x x0 x1 w; rw [Hh.out] at c; with_reducible refine c.mono ?_; rintro e' w1 ⟨rfl, rfl⟩) | (go_at_call 51; have c := six_w x x0 x1 w; with_reducible refine c.mono ?_; rintro e' w1 ⟨rfl, rfl⟩) | (go_at_call 46; have c := dI_w 19 1 (x / 128 % 32) (x / 128 % 32) (six x) (by decide) (by decide) (by decide) (by decide) (by omega) (by omega) (by omega) (by omega) (by omega) (by omega) w; with_reducible refine c.mono ?_; rintro e' w1 ⟨rfl, rfl⟩))
    go_ret
    exact ⟨rfl, rfl⟩
  · have e : dThird x = 0 := by simp [dThird, h]
    rw [e]
    clear e
    have Hh := Lib.hid h
    clear h
    go_enter Tryz.func27, Tryz.ntmps27
    go_wp2_with (first | (go_at_call 45; have c := at_11_7 x x0 x1 w; with_reducible refine c.mono ?_; rintro e' w1 ⟨rfl, rfl⟩) | (go_at_call 45; have c := at_6_2 x x0 x1 w; with_reducible refine c.mono ?_; rintro e' w1 ⟨rfl, rfl⟩) | (go_at_call 45; have c := at_15_13 x x0 x1 w; rw [Hh.out] at c; with_reducible refine c.mono ?_; rintro e' w1 ⟨rfl, rfl⟩))
    go_ret
    exact ⟨rfl, rfl⟩
  · by_cases hn : x / 128 % 32 = 0
    · have hb : (x / 128 % 32 != 0) = false := by simp [hn]
      have e : dThird x = 0 := by simp [dThird, h, hn]
      rw [e]
      have Hh := Lib.hid h
      clear e h hn
      go_enter Tryz.func27, Tryz.ntmps27
      go_wp2_with (first | (go_at_call 45; have c := at_11_7 x x0 x1 w; with_reducible refine c.mono ?_; rintro e' w1 ⟨rfl, rfl⟩) | (go_at_call 45; have c := at_6_2 x x0 x1 w; with_reducible refine c.mono ?_; rintro e' w1 ⟨rfl, rfl⟩) | (go_at_call 45; have c := at_15_13 x x0 x1 w; rw [Hh.out] at c; with_reducible refine c.mono ?_; rintro e' w1 ⟨rfl, rfl⟩))
      go_ret
      exact ⟨rfl, rfl⟩
    · have hb : (x / 128 % 32 != 0) = true := by simpa using hn
      have e : dThird x = dI 3 2 (x / 128 % 32) 2 (x / 4096 % 2 * 32 + x / 16 % 8 * 4 + x / 4 % 4 * 64) := by simp [dThird, h, hn]
      rw [e]
      have Hh := Lib.hid h
      clear e h hn
      go_enter Tryz.func27, Tryz.ntmps27
      go_wp2_with (first | (go_at_call 45; have c := at_11_7 x x0 x1 w; with_reducible refine c.mono ?_; rintro e' w1 ⟨rfl, rfl⟩) | (go_at_call 45; have c := at_6_2 x x0 x1 w; with_reducible refine c.mono ?_; rintro e' w1 ⟨rfl, rfl⟩) | (go_at_call 45; have c := at_15_13 x x0 x1 w; rw [Hh.out] at c; with_reducible refine c.mono ?_; rintro e' w1 ⟨rfl, rfl⟩) | (go_at_call 45; have c := at_12_12 x x0 x1 w; with_reducible refine c.mono ?_; rintro e' w1 ⟨rfl, rfl⟩) | (go_at_call 45; have c := at_6_4 x x0 x1 w; with_reducible refine c.mono ?_; rintro e' w1 ⟨rfl, rfl⟩) | (go_at_call 45; have c := at_3_2 x x0 x1 w; with_reducible refine c.mono ?_; rintro e' w1 ⟨rfl, rfl⟩) | (go_at_call 46; have c := dI_w 3 2 (x / 128 % 32) 2 (x / 4096 % 2 * 32 + x / 16 % 8 * 4 + x / 4 % 4 * 64) (by decide) (by decide) (by decide) (by decide) (by omega) (by omega) (by omega) (by omega) (by omega) (by omega) w; with_reducible refine c.mono ?_; rintro e' w1 ⟨rfl, rfl⟩))
      go_ret
      exact ⟨rfl, rfl⟩
  · by_cases hn : x / 128 % 32 = 0
    · have hb : (x / 128 % 32 != 0) = false := by simp [hn]
      have e : dThird x = 0 := by simp [dThird, h, hn]
      rw [e]
      have Hh := Lib.hid h
      clear e h hn
      go_enter Tryz.func27, Tryz.ntmps27
      go_wp2_with (first | (go_at_call 45; have c := at_11_7 x x0 x1 w; with_reducible refine c.mono ?_; rintro e' w1 ⟨rfl, rfl⟩) | (go_at_call 45; have c := at_6_2 x x0 x1 w; with_reducible refine c.mono ?_; rintro e' w1 ⟨rfl, rfl⟩) | (go_at_call 45; have c := at_15_13 x x0 x1 w; rw [Hh.out] at c; with_reducible refine c.mono ?_; rintro e' w1 ⟨rfl, rfl⟩))
      go_ret
      exact ⟨rfl, rfl⟩
    · have hb : (x / 128 % 32 != 0) = true := by simpa using hn
      have e : dThird x = dI 3 3 (x / 128 % 32) 2 (x / 4096 % 2 * 32 + x / 32 % 4 * 8 + x / 4 % 8 * 64) := by simp [dThird, h, hn]
      rw [e]
      have Hh := Lib.hid h
      clear e h hn
      go_enter Tryz.func27, Tryz.ntmps27
      go_wp2_with (first | (go_at_call 45; have c := at_11_7 x x0 x1 w; with_reducible refine c.mono ?_; rintro e' w1 ⟨rfl, rfl⟩) | (go_at_call 45; have c := at_6_2 x x0 x1 w; with_reducible refine c.mono ?_; rintro e' w1 ⟨rfl, rfl⟩) | (go_at_call 45; have c := at_15_13 x x0 x1 w; rw [Hh.out] at c; with_reducible refine c.mono ?_; rintro e' w1 ⟨rfl, rfl⟩) | (go_at_call 45; have c := at_12_12 x x0 x1 w; with_reducible refine c.mono ?_; rintro e' w1 ⟨rfl, rfl⟩) | (go_at_call 45; have c := at_6_5 x x0 x1 w; with_reducible refine c.mono ?_; rintro e' w1 ⟨rfl, rfl⟩) | (go_at_call 45; have c := at_4_2 x x0 x1 w; with_reducible refine c.mono ?_; rintro e' w1 ⟨rfl, rfl⟩) | (go_at_call 46; have c := dI_w 3 3 (x / 128 % 32) 2 (x / 4096 % 2 * 32 + x / 32 % 4 * 8 + x / 4 % 8 * 64) (by decide) (by decide) (by decide) (by decide) (by omega) (by omega) (by omega) (by omega) (by omega) (by omega) w; with_reducible refine c.mono ?_; rintro e' w1 ⟨rfl, rfl⟩))
      go_ret
      exact ⟨rfl, rfl⟩
  · have e : dThird x = dMoves x := by simp [dThird, h]
    rw [e]
    clear e
    have Hh := Lib.hid h
    clear h
    go_enter Tryz.func27, Tryz.ntmps27
    go_wp2_with (first | (go_at_call 45; have c := at_11_7 x x0 x1 w; with_reducible refine c.mono ?_; rintro e' w1 ⟨rfl, rfl⟩) | (go_at_call 45; have c := at_6_2 x x0 x1 w; with_reducible refine c.mono ?_; rintro e' w1 ⟨rfl, rfl⟩) | (go_at_call 45; have c := at_15_13 x x0 x1 w; rw [Hh.out] at c; with_reducible refine c.mono ?_; rintro e' w1 ⟨rfl, rfl⟩) | (go_at_call 56; have c := moves_w x x0 x1 w; with_reducible refine c.mono ?_; rintro e' w1 ⟨rfl, rfl⟩))
    go_ret
    exact ⟨rfl, rfl⟩
  · have e : dThird x = 0 := by simp [dThird, h]
    rw [e]
    clear e
    have Hh := Lib.hid h
    clear h
    go_enter Tryz.func27, Tryz.ntmps27
    go_wp2_with (first | (go_at_call 45; have c := at_11_7 x x0 x1 w; with_reducible refine c.mono ?_; rintro e' w1 ⟨rfl, rfl⟩) | (go_at_call 45; have c := at_6_2 x x0 x1 w; with_reducible refine c.mono ?_; rintro e' w1 ⟨rfl, rfl⟩) | (go_at_call 45; have c := at_15_13 x x0 x1 w; rw [Hh.out] at c; with_reducible refine c.mono ?_; rintro e' w1 ⟨rfl, rfl⟩))
    go_ret
    exact ⟨rfl, rfl⟩
  · have e : dThird x = dS 2 2 (x / 4 % 32) (x / 512 % 16 * 4 + x / 128 % 4 * 64) := by simp [dThird, h]
    rw [e]
    clear e
    have Hh := Lib.hid h
    clear h
    go_enter Tryz.func27, Tryz.ntmps27
    go_wp2_with (first | (go_at_call 45; have c := at_11_7 x x0 x1 w; with_reducible refine c.mono ?_; rintro e' w1 ⟨rfl, rfl⟩) | (go_at_call 45; have c := at_6_2 x x0 x1 w; with_reducible refine c.mono ?_; rintro e' w1 ⟨rfl, rfl⟩) | (go_at_call 45; have c := at_15_13 x x0 x1 w; rw [Hh.out] at c; with_reducible refine c.mono ?_; rintro e' w1 ⟨rfl, rfl⟩) | (go_at_call 45; have c := at_12_9 x x0 x1 w; with_reducible refine c.mono ?_; rintro e' w1 ⟨rfl, rfl⟩) | (go_at_call 45; have c := at_8_7 x x0 x1 w; with_reducible refine c.mono ?_; rintro e' w1 ⟨rfl, rfl⟩) | (go_at_call 49; have c := dS_w 2 2 (x / 4 % 32) (x / 512 % 16 * 4 + x / 128 % 4 * 64) (by decide) (by decide) (by omega) (by omega) (by omega) (by omega) (by omega) (by omega) w; with_reducible refine c.mono ?_; rintro e' w1 ⟨rfl, rfl⟩))
    go_ret
    exact ⟨rfl, rfl⟩
  · have e : dThird x = dS 3 2 (x / 4 % 32) (x / 1024 % 8 * 8 + x / 128 % 8 * 64) := by simp [dThird, h]
    rw [e]
    clear e
    have Hh := Lib.hid h
    clear h
    go_enter Tryz.func27, Tryz.ntmps27
    go_wp2_with (first | (go_at_call 45; have c := at_11_7 x x0 x1 w; with_reducible refine c.mono ?_; rintro e' w1 ⟨rfl, rfl⟩) | (go_at_call 45; have c := at_6_2 x x0 x1 w; with_reducible refine c.mono ?_; rintro e' w1 ⟨rfl, rfl⟩) | (go_at_call 45; have c := at_15_13 x x0 x1 w; rw [Hh.out] at c; with_reducible refine c.mono ?_; rintro e' w1 ⟨rfl, rfl⟩) | (go_at_call 45; have c := at_12_10 x x0 x1 w; with_reducible refine c.mono ?_; rintro e' w1 ⟨rfl, rfl⟩) | (go_at_call 45; have c := at_9_7 x x0 x1 w; with_reducible refine c.mono ?_; rintro e' w1 ⟨rfl, rfl⟩) | (go_at_call 49; have c := dS_w 3 2 (x / 4 % 32) (x / 1024 % 8 * 8 + x / 128 % 8 * 64) (by decide) (by decide) (by omega) (by omega) (by omega) (by omega) (by omega) (by omega) w; with_reducible refine c.mono ?_; rintro e' w1 ⟨rfl, rfl⟩))
    go_ret
    exact ⟨rfl, rfl⟩
end Go.Proofs.YtlfeandnpflaaaaGreatDoor
