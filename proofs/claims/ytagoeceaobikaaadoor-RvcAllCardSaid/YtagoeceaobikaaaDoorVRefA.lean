/-
  Contracts of the small functions of the document's answer: bits, signs, words. No condition.
-/
import Derived.Test.YtagoeceaobikaaaDoorVFn
namespace Go.Proofs.YtagoeceaobikaaaDoor
open Go.ChangeShapes Go.WideShapes Go.ChangeAt Go.RowKit
set_option linter.unusedVariables false
set_option linter.unusedSimpArgs false
theorem tm_neg (n p : Int) (hp : 0 < p) (h : n.tmod p < 0) : n % p = n.tmod p + p := by
  have e := Int.tmod_eq_emod (a := n) (b := p)
  have := Int.emod_nonneg n (by omega : p ≠ 0)
  split at e <;> omega
theorem tm_pos (n p : Int) (hp : 0 < p) (h : 0 ≤ n.tmod p) : n.tmod p = n % p := by
  have e := Int.tmod_eq_emod (a := n) (b := p)
  have := Int.emod_lt_of_pos n hp
  split at e <;> omega
theorem at_4_2 (x : Int) (x0 : 0 ≤ x) (x1 : x < 65536) (w : World) :
    Calls Tryd.prog 38 #[.int .i64 x, .int .i64 4, .int .i64 2] w fun e w' => e = .returned (.int .i64 (x / 4 % 8)) ∧ w = w' := by
  have e1 : x.tdiv 4 = x / 4 := Int.tdiv_eq_ediv_of_nonneg x0
  have e2 : (x / 4).tmod 8 = x / 4 % 8 := Int.tmod_eq_emod_of_nonneg (by omega)
  go_enter Tryd.func38, Tryd.ntmps38
  go_wp2
  go_ret
  exact ⟨ret_int (by first | rfl | (simp only [e1, e2]; done) | (simp only [e1, e2, wrap64]; omega)), rfl⟩
theorem at_9_7 (x : Int) (x0 : 0 ≤ x) (x1 : x < 65536) (w : World) :
    Calls Tryd.prog 38 #[.int .i64 x, .int .i64 9, .int .i64 7] w fun e w' => e = .returned (.int .i64 (x / 128 % 8)) ∧ w = w' := by
  have e1 : x.tdiv 128 = x / 128 := Int.tdiv_eq_ediv_of_nonneg x0
  have e2 : (x / 128).tmod 8 = x / 128 % 8 := Int.tmod_eq_emod_of_nonneg (by omega)
  go_enter Tryd.func38, Tryd.ntmps38
  go_wp2
  go_ret
  exact ⟨ret_int (by first | rfl | (simp only [e1, e2]; done) | (simp only [e1, e2, wrap64]; omega)), rfl⟩
theorem at_15_13 (x : Int) (x0 : 0 ≤ x) (x1 : x < 65536) (w : World) :
    Calls Tryd.prog 38 #[.int .i64 x, .int .i64 15, .int .i64 13] w fun e w' => e = .returned (.int .i64 (x / 8192 % 8)) ∧ w = w' := by
  have e1 : x.tdiv 8192 = x / 8192 := Int.tdiv_eq_ediv_of_nonneg x0
  have e2 : (x / 8192).tmod 8 = x / 8192 % 8 := Int.tmod_eq_emod_of_nonneg (by omega)
  go_enter Tryd.func38, Tryd.ntmps38
  go_wp2
  go_ret
  exact ⟨ret_int (by first | rfl | (simp only [e1, e2]; done) | (simp only [e1, e2, wrap64]; omega)), rfl⟩
theorem at_12_11 (x : Int) (x0 : 0 ≤ x) (x1 : x < 65536) (w : World) :
    Calls Tryd.prog 38 #[.int .i64 x, .int .i64 12, .int .i64 11] w fun e w' => e = .returned (.int .i64 (x / 2048 % 4)) ∧ w = w' := by
  have e1 : x.tdiv 2048 = x / 2048 := Int.tdiv_eq_ediv_of_nonneg x0
  have e2 : (x / 2048).tmod 4 = x / 2048 % 4 := Int.tmod_eq_emod_of_nonneg (by omega)
  go_enter Tryd.func38, Tryd.ntmps38
  go_wp2
  go_ret
  exact ⟨ret_int (by first | rfl | (simp only [e1, e2]; done) | (simp only [e1, e2, wrap64]; omega)), rfl⟩
theorem at_10_7 (x : Int) (x0 : 0 ≤ x) (x1 : x < 65536) (w : World) :
    Calls Tryd.prog 38 #[.int .i64 x, .int .i64 10, .int .i64 7] w fun e w' => e = .returned (.int .i64 (x / 128 % 16)) ∧ w = w' := by
  have e1 : x.tdiv 128 = x / 128 := Int.tdiv_eq_ediv_of_nonneg x0
  have e2 : (x / 128).tmod 16 = x / 128 % 16 := Int.tmod_eq_emod_of_nonneg (by omega)
  go_enter Tryd.func38, Tryd.ntmps38
  go_wp2
  go_ret
  exact ⟨ret_int (by first | rfl | (simp only [e1, e2]; done) | (simp only [e1, e2, wrap64]; omega)), rfl⟩
theorem at_6_6 (x : Int) (x0 : 0 ≤ x) (x1 : x < 65536) (w : World) :
    Calls Tryd.prog 38 #[.int .i64 x, .int .i64 6, .int .i64 6] w fun e w' => e = .returned (.int .i64 (x / 64 % 2)) ∧ w = w' := by
  have e1 : x.tdiv 64 = x / 64 := Int.tdiv_eq_ediv_of_nonneg x0
  have e2 : (x / 64).tmod 2 = x / 64 % 2 := Int.tmod_eq_emod_of_nonneg (by omega)
  go_enter Tryd.func38, Tryd.ntmps38
  go_wp2
  go_ret
  exact ⟨ret_int (by first | rfl | (simp only [e1, e2]; done) | (simp only [e1, e2, wrap64]; omega)), rfl⟩
theorem at_5_5 (x : Int) (x0 : 0 ≤ x) (x1 : x < 65536) (w : World) :
    Calls Tryd.prog 38 #[.int .i64 x, .int .i64 5, .int .i64 5] w fun e w' => e = .returned (.int .i64 (x / 32 % 2)) ∧ w = w' := by
  have e1 : x.tdiv 32 = x / 32 := Int.tdiv_eq_ediv_of_nonneg x0
  have e2 : (x / 32).tmod 2 = x / 32 % 2 := Int.tmod_eq_emod_of_nonneg (by omega)
  go_enter Tryd.func38, Tryd.ntmps38
  go_wp2
  go_ret
  exact ⟨ret_int (by first | rfl | (simp only [e1, e2]; done) | (simp only [e1, e2, wrap64]; omega)), rfl⟩
theorem at_11_7 (x : Int) (x0 : 0 ≤ x) (x1 : x < 65536) (w : World) :
    Calls Tryd.prog 38 #[.int .i64 x, .int .i64 11, .int .i64 7] w fun e w' => e = .returned (.int .i64 (x / 128 % 32)) ∧ w = w' := by
  have e1 : x.tdiv 128 = x / 128 := Int.tdiv_eq_ediv_of_nonneg x0
  have e2 : (x / 128).tmod 32 = x / 128 % 32 := Int.tmod_eq_emod_of_nonneg (by omega)
  go_enter Tryd.func38, Tryd.ntmps38
  go_wp2
  go_ret
  exact ⟨ret_int (by first | rfl | (simp only [e1, e2]; done) | (simp only [e1, e2, wrap64]; omega)), rfl⟩
theorem at_12_12 (x : Int) (x0 : 0 ≤ x) (x1 : x < 65536) (w : World) :
    Calls Tryd.prog 38 #[.int .i64 x, .int .i64 12, .int .i64 12] w fun e w' => e = .returned (.int .i64 (x / 4096 % 2)) ∧ w = w' := by
  have e1 : x.tdiv 4096 = x / 4096 := Int.tdiv_eq_ediv_of_nonneg x0
  have e2 : (x / 4096).tmod 2 = x / 4096 % 2 := Int.tmod_eq_emod_of_nonneg (by omega)
  go_enter Tryd.func38, Tryd.ntmps38
  go_wp2
  go_ret
  exact ⟨ret_int (by first | rfl | (simp only [e1, e2]; done) | (simp only [e1, e2, wrap64]; omega)), rfl⟩
theorem at_4_3 (x : Int) (x0 : 0 ≤ x) (x1 : x < 65536) (w : World) :
    Calls Tryd.prog 38 #[.int .i64 x, .int .i64 4, .int .i64 3] w fun e w' => e = .returned (.int .i64 (x / 8 % 4)) ∧ w = w' := by
  have e1 : x.tdiv 8 = x / 8 := Int.tdiv_eq_ediv_of_nonneg x0
  have e2 : (x / 8).tmod 4 = x / 8 % 4 := Int.tmod_eq_emod_of_nonneg (by omega)
  go_enter Tryd.func38, Tryd.ntmps38
  go_wp2
  go_ret
  exact ⟨ret_int (by first | rfl | (simp only [e1, e2]; done) | (simp only [e1, e2, wrap64]; omega)), rfl⟩
theorem at_2_2 (x : Int) (x0 : 0 ≤ x) (x1 : x < 65536) (w : World) :
    Calls Tryd.prog 38 #[.int .i64 x, .int .i64 2, .int .i64 2] w fun e w' => e = .returned (.int .i64 (x / 4 % 2)) ∧ w = w' := by
  have e1 : x.tdiv 4 = x / 4 := Int.tdiv_eq_ediv_of_nonneg x0
  have e2 : (x / 4).tmod 2 = x / 4 % 2 := Int.tmod_eq_emod_of_nonneg (by omega)
  go_enter Tryd.func38, Tryd.ntmps38
  go_wp2
  go_ret
  exact ⟨ret_int (by first | rfl | (simp only [e1, e2]; done) | (simp only [e1, e2, wrap64]; omega)), rfl⟩
theorem at_11_10 (x : Int) (x0 : 0 ≤ x) (x1 : x < 65536) (w : World) :
    Calls Tryd.prog 38 #[.int .i64 x, .int .i64 11, .int .i64 10] w fun e w' => e = .returned (.int .i64 (x / 1024 % 4)) ∧ w = w' := by
  have e1 : x.tdiv 1024 = x / 1024 := Int.tdiv_eq_ediv_of_nonneg x0
  have e2 : (x / 1024).tmod 4 = x / 1024 % 4 := Int.tmod_eq_emod_of_nonneg (by omega)
  go_enter Tryd.func38, Tryd.ntmps38
  go_wp2
  go_ret
  exact ⟨ret_int (by first | rfl | (simp only [e1, e2]; done) | (simp only [e1, e2, wrap64]; omega)), rfl⟩
theorem at_6_5 (x : Int) (x0 : 0 ≤ x) (x1 : x < 65536) (w : World) :
    Calls Tryd.prog 38 #[.int .i64 x, .int .i64 6, .int .i64 5] w fun e w' => e = .returned (.int .i64 (x / 32 % 4)) ∧ w = w' := by
  have e1 : x.tdiv 32 = x / 32 := Int.tdiv_eq_ediv_of_nonneg x0
  have e2 : (x / 32).tmod 4 = x / 32 % 4 := Int.tmod_eq_emod_of_nonneg (by omega)
  go_enter Tryd.func38, Tryd.ntmps38
  go_wp2
  go_ret
  exact ⟨ret_int (by first | rfl | (simp only [e1, e2]; done) | (simp only [e1, e2, wrap64]; omega)), rfl⟩
theorem at_6_2 (x : Int) (x0 : 0 ≤ x) (x1 : x < 65536) (w : World) :
    Calls Tryd.prog 38 #[.int .i64 x, .int .i64 6, .int .i64 2] w fun e w' => e = .returned (.int .i64 (x / 4 % 32)) ∧ w = w' := by
  have e1 : x.tdiv 4 = x / 4 := Int.tdiv_eq_ediv_of_nonneg x0
  have e2 : (x / 4).tmod 32 = x / 4 % 32 := Int.tmod_eq_emod_of_nonneg (by omega)
  go_enter Tryd.func38, Tryd.ntmps38
  go_wp2
  go_ret
  exact ⟨ret_int (by first | rfl | (simp only [e1, e2]; done) | (simp only [e1, e2, wrap64]; omega)), rfl⟩
theorem at_12_10 (x : Int) (x0 : 0 ≤ x) (x1 : x < 65536) (w : World) :
    Calls Tryd.prog 38 #[.int .i64 x, .int .i64 12, .int .i64 10] w fun e w' => e = .returned (.int .i64 (x / 1024 % 8)) ∧ w = w' := by
  have e1 : x.tdiv 1024 = x / 1024 := Int.tdiv_eq_ediv_of_nonneg x0
  have e2 : (x / 1024).tmod 8 = x / 1024 % 8 := Int.tmod_eq_emod_of_nonneg (by omega)
  go_enter Tryd.func38, Tryd.ntmps38
  go_wp2
  go_ret
  exact ⟨ret_int (by first | rfl | (simp only [e1, e2]; done) | (simp only [e1, e2, wrap64]; omega)), rfl⟩
theorem at_11_11 (x : Int) (x0 : 0 ≤ x) (x1 : x < 65536) (w : World) :
    Calls Tryd.prog 38 #[.int .i64 x, .int .i64 11, .int .i64 11] w fun e w' => e = .returned (.int .i64 (x / 2048 % 2)) ∧ w = w' := by
  have e1 : x.tdiv 2048 = x / 2048 := Int.tdiv_eq_ediv_of_nonneg x0
  have e2 : (x / 2048).tmod 2 = x / 2048 % 2 := Int.tmod_eq_emod_of_nonneg (by omega)
  go_enter Tryd.func38, Tryd.ntmps38
  go_wp2
  go_ret
  exact ⟨ret_int (by first | rfl | (simp only [e1, e2]; done) | (simp only [e1, e2, wrap64]; omega)), rfl⟩
theorem at_10_9 (x : Int) (x0 : 0 ≤ x) (x1 : x < 65536) (w : World) :
    Calls Tryd.prog 38 #[.int .i64 x, .int .i64 10, .int .i64 9] w fun e w' => e = .returned (.int .i64 (x / 512 % 4)) ∧ w = w' := by
  have e1 : x.tdiv 512 = x / 512 := Int.tdiv_eq_ediv_of_nonneg x0
  have e2 : (x / 512).tmod 4 = x / 512 % 4 := Int.tmod_eq_emod_of_nonneg (by omega)
  go_enter Tryd.func38, Tryd.ntmps38
  go_wp2
  go_ret
  exact ⟨ret_int (by first | rfl | (simp only [e1, e2]; done) | (simp only [e1, e2, wrap64]; omega)), rfl⟩
theorem at_8_8 (x : Int) (x0 : 0 ≤ x) (x1 : x < 65536) (w : World) :
    Calls Tryd.prog 38 #[.int .i64 x, .int .i64 8, .int .i64 8] w fun e w' => e = .returned (.int .i64 (x / 256 % 2)) ∧ w = w' := by
  have e1 : x.tdiv 256 = x / 256 := Int.tdiv_eq_ediv_of_nonneg x0
  have e2 : (x / 256).tmod 2 = x / 256 % 2 := Int.tmod_eq_emod_of_nonneg (by omega)
  go_enter Tryd.func38, Tryd.ntmps38
  go_wp2
  go_ret
  exact ⟨ret_int (by first | rfl | (simp only [e1, e2]; done) | (simp only [e1, e2, wrap64]; omega)), rfl⟩
theorem at_7_7 (x : Int) (x0 : 0 ≤ x) (x1 : x < 65536) (w : World) :
    Calls Tryd.prog 38 #[.int .i64 x, .int .i64 7, .int .i64 7] w fun e w' => e = .returned (.int .i64 (x / 128 % 2)) ∧ w = w' := by
  have e1 : x.tdiv 128 = x / 128 := Int.tdiv_eq_ediv_of_nonneg x0
  have e2 : (x / 128).tmod 2 = x / 128 % 2 := Int.tmod_eq_emod_of_nonneg (by omega)
  go_enter Tryd.func38, Tryd.ntmps38
  go_wp2
  go_ret
  exact ⟨ret_int (by first | rfl | (simp only [e1, e2]; done) | (simp only [e1, e2, wrap64]; omega)), rfl⟩
theorem at_5_3 (x : Int) (x0 : 0 ≤ x) (x1 : x < 65536) (w : World) :
    Calls Tryd.prog 38 #[.int .i64 x, .int .i64 5, .int .i64 3] w fun e w' => e = .returned (.int .i64 (x / 8 % 8)) ∧ w = w' := by
  have e1 : x.tdiv 8 = x / 8 := Int.tdiv_eq_ediv_of_nonneg x0
  have e2 : (x / 8).tmod 8 = x / 8 % 8 := Int.tmod_eq_emod_of_nonneg (by omega)
  go_enter Tryd.func38, Tryd.ntmps38
  go_wp2
  go_ret
  exact ⟨ret_int (by first | rfl | (simp only [e1, e2]; done) | (simp only [e1, e2, wrap64]; omega)), rfl⟩
theorem at_13_13 (x : Int) (x0 : 0 ≤ x) (x1 : x < 65536) (w : World) :
    Calls Tryd.prog 38 #[.int .i64 x, .int .i64 13, .int .i64 13] w fun e w' => e = .returned (.int .i64 (x / 8192 % 2)) ∧ w = w' := by
  have e1 : x.tdiv 8192 = x / 8192 := Int.tdiv_eq_ediv_of_nonneg x0
  have e2 : (x / 8192).tmod 2 = x / 8192 % 2 := Int.tmod_eq_emod_of_nonneg (by omega)
  go_enter Tryd.func38, Tryd.ntmps38
  go_wp2
  go_ret
  exact ⟨ret_int (by first | rfl | (simp only [e1, e2]; done) | (simp only [e1, e2, wrap64]; omega)), rfl⟩
theorem at_6_4 (x : Int) (x0 : 0 ≤ x) (x1 : x < 65536) (w : World) :
    Calls Tryd.prog 38 #[.int .i64 x, .int .i64 6, .int .i64 4] w fun e w' => e = .returned (.int .i64 (x / 16 % 8)) ∧ w = w' := by
  have e1 : x.tdiv 16 = x / 16 := Int.tdiv_eq_ediv_of_nonneg x0
  have e2 : (x / 16).tmod 8 = x / 16 % 8 := Int.tmod_eq_emod_of_nonneg (by omega)
  go_enter Tryd.func38, Tryd.ntmps38
  go_wp2
  go_ret
  exact ⟨ret_int (by first | rfl | (simp only [e1, e2]; done) | (simp only [e1, e2, wrap64]; omega)), rfl⟩
theorem at_3_2 (x : Int) (x0 : 0 ≤ x) (x1 : x < 65536) (w : World) :
    Calls Tryd.prog 38 #[.int .i64 x, .int .i64 3, .int .i64 2] w fun e w' => e = .returned (.int .i64 (x / 4 % 4)) ∧ w = w' := by
  have e1 : x.tdiv 4 = x / 4 := Int.tdiv_eq_ediv_of_nonneg x0
  have e2 : (x / 4).tmod 4 = x / 4 % 4 := Int.tmod_eq_emod_of_nonneg (by omega)
  go_enter Tryd.func38, Tryd.ntmps38
  go_wp2
  go_ret
  exact ⟨ret_int (by first | rfl | (simp only [e1, e2]; done) | (simp only [e1, e2, wrap64]; omega)), rfl⟩
theorem at_12_9 (x : Int) (x0 : 0 ≤ x) (x1 : x < 65536) (w : World) :
    Calls Tryd.prog 38 #[.int .i64 x, .int .i64 12, .int .i64 9] w fun e w' => e = .returned (.int .i64 (x / 512 % 16)) ∧ w = w' := by
  have e1 : x.tdiv 512 = x / 512 := Int.tdiv_eq_ediv_of_nonneg x0
  have e2 : (x / 512).tmod 16 = x / 512 % 16 := Int.tmod_eq_emod_of_nonneg (by omega)
  go_enter Tryd.func38, Tryd.ntmps38
  go_wp2
  go_ret
  exact ⟨ret_int (by first | rfl | (simp only [e1, e2]; done) | (simp only [e1, e2, wrap64]; omega)), rfl⟩
theorem at_8_7 (x : Int) (x0 : 0 ≤ x) (x1 : x < 65536) (w : World) :
    Calls Tryd.prog 38 #[.int .i64 x, .int .i64 8, .int .i64 7] w fun e w' => e = .returned (.int .i64 (x / 128 % 4)) ∧ w = w' := by
  have e1 : x.tdiv 128 = x / 128 := Int.tdiv_eq_ediv_of_nonneg x0
  have e2 : (x / 128).tmod 4 = x / 128 % 4 := Int.tmod_eq_emod_of_nonneg (by omega)
  go_enter Tryd.func38, Tryd.ntmps38
  go_wp2
  go_ret
  exact ⟨ret_int (by first | rfl | (simp only [e1, e2]; done) | (simp only [e1, e2, wrap64]; omega)), rfl⟩
theorem low_12 (n : Int) (n0 : -4294967296 < n) (n1 : n < 4294967296) (w : World) :
    Calls Tryd.prog 81 #[.int .i64 n, .int .i64 12] w fun e w' => e = .returned (.int .i64 (n % 4096)) ∧ w = w' := by
  rcases Int.lt_or_le (n.tmod 4096) 0 with h | h
  · have e := tm_neg n 4096 (by decide) h
    rw [e]
    have l : -4096 ≤ n.tmod 4096 := by omega
    generalize ht : n.tmod 4096 = t at h l ⊢
    have hd : (decide (t < 0)) = true := by simpa using h
    clear e
    go_enter Tryd.func81, Tryd.ntmps81
    go_wp2
    go_ret
    exact ⟨ret_int (by first | rfl | omega | (unfold wrap64; omega)), rfl⟩
  · have e := tm_pos n 4096 (by decide) h
    rw [← e]
    generalize ht : n.tmod 4096 = t at h ⊢
    have hd : (decide (t < 0)) = false := by simpa using h
    clear e
    go_enter Tryd.func81, Tryd.ntmps81
    go_wp2
    go_ret
    exact ⟨rfl, rfl⟩
theorem low_13 (n : Int) (n0 : -4294967296 < n) (n1 : n < 4294967296) (w : World) :
    Calls Tryd.prog 81 #[.int .i64 n, .int .i64 13] w fun e w' => e = .returned (.int .i64 (n % 8192)) ∧ w = w' := by
  rcases Int.lt_or_le (n.tmod 8192) 0 with h | h
  · have e := tm_neg n 8192 (by decide) h
    rw [e]
    have l : -8192 ≤ n.tmod 8192 := by omega
    generalize ht : n.tmod 8192 = t at h l ⊢
    have hd : (decide (t < 0)) = true := by simpa using h
    clear e
    go_enter Tryd.func81, Tryd.ntmps81
    go_wp2
    go_ret
    exact ⟨ret_int (by first | rfl | omega | (unfold wrap64; omega)), rfl⟩
  · have e := tm_pos n 8192 (by decide) h
    rw [← e]
    generalize ht : n.tmod 8192 = t at h ⊢
    have hd : (decide (t < 0)) = false := by simpa using h
    clear e
    go_enter Tryd.func81, Tryd.ntmps81
    go_wp2
    go_ret
    exact ⟨rfl, rfl⟩
theorem low_20 (n : Int) (n0 : -4294967296 < n) (n1 : n < 4294967296) (w : World) :
    Calls Tryd.prog 81 #[.int .i64 n, .int .i64 20] w fun e w' => e = .returned (.int .i64 (n % 1048576)) ∧ w = w' := by
  rcases Int.lt_or_le (n.tmod 1048576) 0 with h | h
  · have e := tm_neg n 1048576 (by decide) h
    rw [e]
    have l : -1048576 ≤ n.tmod 1048576 := by omega
    generalize ht : n.tmod 1048576 = t at h l ⊢
    have hd : (decide (t < 0)) = true := by simpa using h
    clear e
    go_enter Tryd.func81, Tryd.ntmps81
    go_wp2
    go_ret
    exact ⟨ret_int (by first | rfl | omega | (unfold wrap64; omega)), rfl⟩
  · have e := tm_pos n 1048576 (by decide) h
    rw [← e]
    generalize ht : n.tmod 1048576 = t at h ⊢
    have hd : (decide (t < 0)) = false := by simpa using h
    clear e
    go_enter Tryd.func81, Tryd.ntmps81
    go_wp2
    go_ret
    exact ⟨rfl, rfl⟩
theorem low_21 (n : Int) (n0 : -4294967296 < n) (n1 : n < 4294967296) (w : World) :
    Calls Tryd.prog 81 #[.int .i64 n, .int .i64 21] w fun e w' => e = .returned (.int .i64 (n % 2097152)) ∧ w = w' := by
  rcases Int.lt_or_le (n.tmod 2097152) 0 with h | h
  · have e := tm_neg n 2097152 (by decide) h
    rw [e]
    have l : -2097152 ≤ n.tmod 2097152 := by omega
    generalize ht : n.tmod 2097152 = t at h l ⊢
    have hd : (decide (t < 0)) = true := by simpa using h
    clear e
    go_enter Tryd.func81, Tryd.ntmps81
    go_wp2
    go_ret
    exact ⟨ret_int (by first | rfl | omega | (unfold wrap64; omega)), rfl⟩
  · have e := tm_pos n 2097152 (by decide) h
    rw [← e]
    generalize ht : n.tmod 2097152 = t at h ⊢
    have hd : (decide (t < 0)) = false := by simpa using h
    clear e
    go_enter Tryd.func81, Tryd.ntmps81
    go_wp2
    go_ret
    exact ⟨rfl, rfl⟩
theorem sgd_6 (n : Int) (n0 : 0 ≤ n) (n1 : n < 64) (w : World) :
    Calls Tryd.prog 43 #[.int .i64 n, .int .i64 6] w fun e w' => e = .returned (.int .i64 (sd n 64)) ∧ w = w' := by
  rcases Int.lt_or_le n 32 with h | h
  · have e : sd n 64 = n := by unfold sd; split <;> omega
    rw [e]
    go_enter Tryd.func43, Tryd.ntmps43
    go_wp2
    go_ret
    exact ⟨rfl, rfl⟩
  · have e : sd n 64 = n - 64 := by unfold sd; split <;> omega
    rw [e]
    go_enter Tryd.func43, Tryd.ntmps43
    go_wp2
    go_ret
    exact ⟨ret_int (by first | rfl | omega | (unfold wrap64; omega)), rfl⟩
theorem sgd_9 (n : Int) (n0 : 0 ≤ n) (n1 : n < 512) (w : World) :
    Calls Tryd.prog 43 #[.int .i64 n, .int .i64 9] w fun e w' => e = .returned (.int .i64 (sd n 512)) ∧ w = w' := by
  rcases Int.lt_or_le n 256 with h | h
  · have e : sd n 512 = n := by unfold sd; split <;> omega
    rw [e]
    go_enter Tryd.func43, Tryd.ntmps43
    go_wp2
    go_ret
    exact ⟨rfl, rfl⟩
  · have e : sd n 512 = n - 512 := by unfold sd; split <;> omega
    rw [e]
    go_enter Tryd.func43, Tryd.ntmps43
    go_wp2
    go_ret
    exact ⟨ret_int (by first | rfl | omega | (unfold wrap64; omega)), rfl⟩
theorem sgd_10 (n : Int) (n0 : 0 ≤ n) (n1 : n < 1024) (w : World) :
    Calls Tryd.prog 43 #[.int .i64 n, .int .i64 10] w fun e w' => e = .returned (.int .i64 (sd n 1024)) ∧ w = w' := by
  rcases Int.lt_or_le n 512 with h | h
  · have e : sd n 1024 = n := by unfold sd; split <;> omega
    rw [e]
    go_enter Tryd.func43, Tryd.ntmps43
    go_wp2
    go_ret
    exact ⟨rfl, rfl⟩
  · have e : sd n 1024 = n - 1024 := by unfold sd; split <;> omega
    rw [e]
    go_enter Tryd.func43, Tryd.ntmps43
    go_wp2
    go_ret
    exact ⟨ret_int (by first | rfl | omega | (unfold wrap64; omega)), rfl⟩
theorem sgd_12 (n : Int) (n0 : 0 ≤ n) (n1 : n < 4096) (w : World) :
    Calls Tryd.prog 43 #[.int .i64 n, .int .i64 12] w fun e w' => e = .returned (.int .i64 (sd n 4096)) ∧ w = w' := by
  rcases Int.lt_or_le n 2048 with h | h
  · have e : sd n 4096 = n := by unfold sd; split <;> omega
    rw [e]
    go_enter Tryd.func43, Tryd.ntmps43
    go_wp2
    go_ret
    exact ⟨rfl, rfl⟩
  · have e : sd n 4096 = n - 4096 := by unfold sd; split <;> omega
    rw [e]
    go_enter Tryd.func43, Tryd.ntmps43
    go_wp2
    go_ret
    exact ⟨ret_int (by first | rfl | omega | (unfold wrap64; omega)), rfl⟩
theorem dI_w (op f3 rd r1 n : Int) (o0 : 0 ≤ op) (o1 : op < 128) (f0 : 0 ≤ f3) (f1 : f3 < 8) (d0 : 0 ≤ rd) (d1 : rd < 32) (a0 : 0 ≤ r1) (a1 : r1 < 32) (n0 : -4294967296 < n) (n1 : n < 4294967296) (w : World) :
    Calls Tryd.prog 39 #[.int .i64 op, .int .i64 f3, .int .i64 rd, .int .i64 r1, .int .i64 n] w fun e w' => e = .returned (.int .i64 (dI op f3 rd r1 n)) ∧ w = w' := by
  go_enter Tryd.func39, Tryd.ntmps39
  go_wp2_with (go_at_call 81; with_reducible refine (low_12 n n0 n1 _).mono ?_; rintro e' w1 ⟨rfl, rfl⟩)
  go_ret
  exact ⟨ret_int (by first | (unfold dI; done) | (unfold dI; omega) | (unfold dI; unfold wrap64; omega)), rfl⟩
theorem dR_w (op f3 f7 rd r1 r2 : Int) (o0 : 0 ≤ op) (o1 : op < 128) (f0 : 0 ≤ f3) (f1 : f3 < 8) (d0 : 0 ≤ rd) (d1 : rd < 32) (a0 : 0 ≤ r1) (a1 : r1 < 32) (b0 : 0 ≤ r2) (b1 : r2 < 32) (g0 : 0 ≤ f7) (g1 : f7 < 128) (w : World) :
    Calls Tryd.prog 82 #[.int .i64 op, .int .i64 f3, .int .i64 f7, .int .i64 rd, .int .i64 r1, .int .i64 r2] w fun e w' => e = .returned (.int .i64 (dR op f3 f7 rd r1 r2)) ∧ w = w' := by
  go_enter Tryd.func82, Tryd.ntmps82
  go_wp2
  go_ret
  exact ⟨ret_int (by first | (unfold dR; done) | (unfold dR; omega) | (unfold dR; unfold wrap64; omega)), rfl⟩
theorem dS_w (f3 r1 r2 n : Int) (f0 : 0 ≤ f3) (f1 : f3 < 8) (a0 : 0 ≤ r1) (a1 : r1 < 32) (b0 : 0 ≤ r2) (b1 : r2 < 32) (n0 : 0 ≤ n) (n1 : n < 4096) (w : World) :
    Calls Tryd.prog 42 #[.int .i64 f3, .int .i64 r1, .int .i64 r2, .int .i64 n] w fun e w' => e = .returned (.int .i64 (dS f3 r1 r2 n)) ∧ w = w' := by
  have e1 : n.tdiv 32 = n / 32 := Int.tdiv_eq_ediv_of_nonneg n0
  have e2 : n.tmod 32 = n % 32 := Int.tmod_eq_emod_of_nonneg n0
  go_enter Tryd.func42, Tryd.ntmps42
  go_wp2
  go_ret
  exact ⟨ret_int (by first | (unfold dS; (try simp only [e1, e2]); done) | (unfold dS; (try simp only [e1, e2]); omega) | (unfold dS; (try simp only [e1, e2]); unfold wrap64; omega)), rfl⟩
theorem dB_w (f3 r1 n : Int) (f0 : 0 ≤ f3) (f1 : f3 < 8) (a0 : 0 ≤ r1) (a1 : r1 < 32) (n0 : -4294967296 < n) (n1 : n < 4294967296) (w : World) :
    Calls Tryd.prog 48 #[.int .i64 f3, .int .i64 r1, .int .i64 n] w fun e w' => e = .returned (.int .i64 (dB f3 r1 n)) ∧ w = w' := by
  unfold dB
  have m0 : 0 ≤ n % 8192 := by omega
  have m1 : n % 8192 < 8192 := by omega
  have L := Lib.hid (low_13 n n0 n1)
  generalize n % 8192 = m at *
  go_enter Tryd.func48, Tryd.ntmps48
  go_wp2_with (go_at_call 81; with_reducible refine (L.out _).mono ?_; rintro e' w1 ⟨rfl, rfl⟩)
  go_ret
  exact ⟨ret_int (by first | rfl | omega | (unfold wrap64; omega)), rfl⟩
theorem dJ_w (n : Int) (n0 : -4294967296 < n) (n1 : n < 4294967296) (w : World) :
    Calls Tryd.prog 47 #[.int .i64 n] w fun e w' => e = .returned (.int .i64 (dJ n)) ∧ w = w' := by
  unfold dJ
  have m0 : 0 ≤ n % 2097152 := by omega
  have m1 : n % 2097152 < 2097152 := by omega
  have L := Lib.hid (low_21 n n0 n1)
  generalize n % 2097152 = m at *
  go_enter Tryd.func47, Tryd.ntmps47
  go_wp2_with (go_at_call 81; with_reducible refine (L.out _).mono ?_; rintro e' w1 ⟨rfl, rfl⟩)
  go_ret
  exact ⟨ret_int (by first | rfl | omega | (unfold wrap64; omega)), rfl⟩
theorem six_w (x : Int) (x0 : 0 ≤ x) (x1 : x < 65536) (w : World) :
    Calls Tryd.prog 44 #[.int .i64 x] w fun e w' => e = .returned (.int .i64 (six x)) ∧ w = w' := by
  go_enter Tryd.func44, Tryd.ntmps44
  go_wp2_with (first | (go_at_call 38; with_reducible refine (at_12_12 x x0 x1 _).mono ?_; rintro e' w1 ⟨rfl, rfl⟩) | (go_at_call 38; with_reducible refine (at_6_2 x x0 x1 _).mono ?_; rintro e' w1 ⟨rfl, rfl⟩))
  go_ret
  exact ⟨ret_int (by first | (unfold six; done) | (unfold six; omega) | (unfold six; unfold wrap64; omega)), rfl⟩
theorem dwd_w (x : Int) (x0 : 0 ≤ x) (x1 : x < 65536) (w : World) :
    Calls Tryd.prog 40 #[.int .i64 x] w fun e w' => e = .returned (.int .i64 (dwd x)) ∧ w = w' := by
  go_enter Tryd.func40, Tryd.ntmps40
  go_wp2_with (first | (go_at_call 38; with_reducible refine (at_12_10 x x0 x1 _).mono ?_; rintro e' w1 ⟨rfl, rfl⟩) | (go_at_call 38; with_reducible refine (at_6_6 x x0 x1 _).mono ?_; rintro e' w1 ⟨rfl, rfl⟩) | (go_at_call 38; with_reducible refine (at_5_5 x x0 x1 _).mono ?_; rintro e' w1 ⟨rfl, rfl⟩))
  go_ret
  exact ⟨ret_int (by first | (unfold dwd; done) | (unfold dwd; omega) | (unfold dwd; unfold wrap64; omega)), rfl⟩
theorem dlg_w (x : Int) (x0 : 0 ≤ x) (x1 : x < 65536) (w : World) :
    Calls Tryd.prog 41 #[.int .i64 x] w fun e w' => e = .returned (.int .i64 (dlg x)) ∧ w = w' := by
  go_enter Tryd.func41, Tryd.ntmps41
  go_wp2_with (first | (go_at_call 38; with_reducible refine (at_12_10 x x0 x1 _).mono ?_; rintro e' w1 ⟨rfl, rfl⟩) | (go_at_call 38; with_reducible refine (at_6_5 x x0 x1 _).mono ?_; rintro e' w1 ⟨rfl, rfl⟩))
  go_ret
  exact ⟨ret_int (by first | (unfold dlg; done) | (unfold dlg; omega) | (unfold dlg; unfold wrap64; omega)), rfl⟩
end Go.Proofs.YtagoeceaobikaaaDoor
