/-
  What is extended is so once more; it has the same lowest bits; with a sign and without it differs just where the sign is set: as WordExtends asks of any number and width. The condition: the table of the widths' sizes reads as the program's text lays it (the card ties it).
-/
import Derived.Test.YtglhfdamgblhdaaDoorSize
import Derived.Test.YtglhfdamgblhdaaDoorWLaw
namespace Go.Proofs.YtglhfdamgblhdaaDoor.wordExtends
open Go.ChangeShapes Go.WideShapes Go.ChangeAt Go.RowKit
set_option linter.unusedVariables false
set_option linter.unusedSimpArgs false
theorem own : ownKnob Tryd.prog.godebug = none := by kernel_rfl
theorem low_wrap (x y M K : Int) (hK : 0 < K) (hM : M * K = 18446744073709551616) (h : x % M = y % M) : IntKind.u64.wrap (x * K) = IntKind.u64.wrap (y * K) := by
  rw [IntKind.wrap_u64, IntKind.wrap_u64, ← hM, Int.mul_comm x K, Int.mul_comm y K, Int.mul_comm M K, Int.mul_emod_mul_of_pos _ _ hK, Int.mul_emod_mul_of_pos _ _ hK, h]
theorem ext3 (a : Int) : extV a 3 = a := by simp [extV]
theorem ext7 (a : Int) : extV a 7 = a := by simp [extV]
theorem A0 (a : Int) : extV (extV a 0) 0 = extV a 0 := by
  simp only [extV, sx]; simp; split <;> (split <;> omega)
theorem B0 (a : Int) : extV (extV a 4) 4 = extV a 4 := by
  simp [extV]
theorem L0 (a : Int) : extV a 0 % 256 = a % 256 := by
  simp only [extV, sx]; simp; split <;> omega
theorem M0 (a : Int) : extV a 4 % 256 = a % 256 := by
  simp [extV]
theorem D0 (a : Int) : extV a 4 / 256 = 0 := by
  simp [extV]; omega
theorem E0 (a : Int) : (extV a 4 * 72057594037927936 != IntKind.u64.wrap (a * 72057594037927936)) = false := by
  have h := low_wrap (extV a 4) a 256 72057594037927936 (by omega) (by decide) (M0 a)
  have d := D0 a
  rw [← h, IntKind.wrap_u64]
  have e : extV a 4 * 72057594037927936 % 18446744073709551616 = extV a 4 * 72057594037927936 := by omega
  rw [e]; simp
theorem F0 (a : Int) : (a / 128 % 2 = 0 ∧ extV a 0 = extV a 4) ∨ (¬ a / 128 % 2 = 0 ∧ ¬ extV a 0 = extV a 4 ∧ IntKind.u64.wrap (extV a 0 - extV a 4) = IntKind.u64.wrap (-256)) := by
  rw [IntKind.wrap_u64, IntKind.wrap_u64]
  simp only [extV, sx]; simp; split <;> omega
theorem A1 (a : Int) : extV (extV a 1) 1 = extV a 1 := by
  simp only [extV, sx]; simp; split <;> (split <;> omega)
theorem B1 (a : Int) : extV (extV a 5) 5 = extV a 5 := by
  simp [extV]
theorem L1 (a : Int) : extV a 1 % 65536 = a % 65536 := by
  simp only [extV, sx]; simp; split <;> omega
theorem M1 (a : Int) : extV a 5 % 65536 = a % 65536 := by
  simp [extV]
theorem D1 (a : Int) : extV a 5 / 65536 = 0 := by
  simp [extV]; omega
theorem E1 (a : Int) : (extV a 5 * 281474976710656 != IntKind.u64.wrap (a * 281474976710656)) = false := by
  have h := low_wrap (extV a 5) a 65536 281474976710656 (by omega) (by decide) (M1 a)
  have d := D1 a
  rw [← h, IntKind.wrap_u64]
  have e : extV a 5 * 281474976710656 % 18446744073709551616 = extV a 5 * 281474976710656 := by omega
  rw [e]; simp
theorem F1 (a : Int) : (a / 32768 % 2 = 0 ∧ extV a 1 = extV a 5) ∨ (¬ a / 32768 % 2 = 0 ∧ ¬ extV a 1 = extV a 5 ∧ IntKind.u64.wrap (extV a 1 - extV a 5) = IntKind.u64.wrap (-65536)) := by
  rw [IntKind.wrap_u64, IntKind.wrap_u64]
  simp only [extV, sx]; simp; split <;> omega
theorem A2 (a : Int) : extV (extV a 2) 2 = extV a 2 := by
  simp only [extV, sx]; simp; split <;> (split <;> omega)
theorem B2 (a : Int) : extV (extV a 6) 6 = extV a 6 := by
  simp [extV]
theorem L2 (a : Int) : extV a 2 % 4294967296 = a % 4294967296 := by
  simp only [extV, sx]; simp; split <;> omega
theorem M2 (a : Int) : extV a 6 % 4294967296 = a % 4294967296 := by
  simp [extV]
theorem D2 (a : Int) : extV a 6 / 4294967296 = 0 := by
  simp [extV]; omega
theorem E2 (a : Int) : (extV a 6 * 4294967296 != IntKind.u64.wrap (a * 4294967296)) = false := by
  have h := low_wrap (extV a 6) a 4294967296 4294967296 (by omega) (by decide) (M2 a)
  have d := D2 a
  rw [← h, IntKind.wrap_u64]
  have e : extV a 6 * 4294967296 % 18446744073709551616 = extV a 6 * 4294967296 := by omega
  rw [e]; simp
theorem F2 (a : Int) : (a / 2147483648 % 2 = 0 ∧ extV a 2 = extV a 6) ∨ (¬ a / 2147483648 % 2 = 0 ∧ ¬ extV a 2 = extV a 6 ∧ IntKind.u64.wrap (extV a 2 - extV a 6) = IntKind.u64.wrap (-4294967296)) := by
  rw [IntKind.wrap_u64, IntKind.wrap_u64]
  simp only [extV, sx]; simp; split <;> omega
set_option maxRecDepth 100000 in
theorem at_w0 (a0 a1 : Int) (h10 : 0 ≤ a0) (h11 : a0 < 18446744073709551616) (w : World) (hz : Hid (SzAt w)) (hr : a1.tmod 3 = 0) :
    Calls Tryd.prog 4 #[.int .u64 a0, .int .i64 a1] w fun e w' => e = .returned (.bool true) ∧ Grown w w' := by
  have b0 := extV_bd a0 0 h10 h11
  have b4 := extV_bd a0 4 h10 h11
  have s0 : sizeV 0 = 1 := by decide
  have xA := A0 a0
  have xB := B0 a0
  have xC := low_wrap (extV a0 0) a0 256 72057594037927936 (by omega) (by decide) (L0 a0)
  have xD := D0 a0
  have xE := E0 a0
  have x3 := ext3 a0
  have x7 := ext7 a0
  rcases F0 a0 with ⟨f1, f2⟩ | ⟨f1, f2, f3⟩
  · have f4 : (extV a0 0 == extV a0 4) = true := by simp [f2]
    have f5 : (a0 / 128 % 2 == 0) = true := by simp [f1]
    clear f1 f2
    go_enter Tryd.func4, Tryd.ntmps4
    go_wp2_with (first | (go_at_call 8; refine (size_w _ _ hz.out).mono ?_; rintro e w' ⟨rfl, rfl⟩) | (go_at_call 10; refine (ext_w _ _ (by omega) (by omega) _).mono ?_; rintro e w' ⟨rfl, rfl⟩) | (go_at_call 12; refine (known_w _).mono ?_; rintro e w' ⟨rfl, rfl⟩))
    go_ret
    exact ⟨rfl, Grown.refl _⟩
  · have f4 : (extV a0 0 == extV a0 4) = false := by simp [f2]
    have f5 : (a0 / 128 % 2 == 0) = false := by simp [f1]
    clear f1 f2
    go_enter Tryd.func4, Tryd.ntmps4
    go_wp2_with (first | (go_at_call 8; refine (size_w _ _ hz.out).mono ?_; rintro e w' ⟨rfl, rfl⟩) | (go_at_call 10; refine (ext_w _ _ (by omega) (by omega) _).mono ?_; rintro e w' ⟨rfl, rfl⟩) | (go_at_call 12; refine (known_w _).mono ?_; rintro e w' ⟨rfl, rfl⟩))
    go_ret
    exact ⟨rfl, Grown.refl _⟩
set_option maxRecDepth 100000 in
theorem at_w1 (a0 a1 : Int) (h10 : 0 ≤ a0) (h11 : a0 < 18446744073709551616) (w : World) (hz : Hid (SzAt w)) (hr : a1.tmod 3 = 1) :
    Calls Tryd.prog 4 #[.int .u64 a0, .int .i64 a1] w fun e w' => e = .returned (.bool true) ∧ Grown w w' := by
  have b0 := extV_bd a0 1 h10 h11
  have b4 := extV_bd a0 5 h10 h11
  have s0 : sizeV 1 = 2 := by decide
  have xA := A1 a0
  have xB := B1 a0
  have xC := low_wrap (extV a0 1) a0 65536 281474976710656 (by omega) (by decide) (L1 a0)
  have xD := D1 a0
  have xE := E1 a0
  have x3 := ext3 a0
  have x7 := ext7 a0
  rcases F1 a0 with ⟨f1, f2⟩ | ⟨f1, f2, f3⟩
  · have f4 : (extV a0 1 == extV a0 5) = true := by simp [f2]
    have f5 : (a0 / 32768 % 2 == 0) = true := by simp [f1]
    clear f1 f2
    go_enter Tryd.func4, Tryd.ntmps4
    go_wp2_with (first | (go_at_call 8; refine (size_w _ _ hz.out).mono ?_; rintro e w' ⟨rfl, rfl⟩) | (go_at_call 10; refine (ext_w _ _ (by omega) (by omega) _).mono ?_; rintro e w' ⟨rfl, rfl⟩) | (go_at_call 12; refine (known_w _).mono ?_; rintro e w' ⟨rfl, rfl⟩))
    go_ret
    exact ⟨rfl, Grown.refl _⟩
  · have f4 : (extV a0 1 == extV a0 5) = false := by simp [f2]
    have f5 : (a0 / 32768 % 2 == 0) = false := by simp [f1]
    clear f1 f2
    go_enter Tryd.func4, Tryd.ntmps4
    go_wp2_with (first | (go_at_call 8; refine (size_w _ _ hz.out).mono ?_; rintro e w' ⟨rfl, rfl⟩) | (go_at_call 10; refine (ext_w _ _ (by omega) (by omega) _).mono ?_; rintro e w' ⟨rfl, rfl⟩) | (go_at_call 12; refine (known_w _).mono ?_; rintro e w' ⟨rfl, rfl⟩))
    go_ret
    exact ⟨rfl, Grown.refl _⟩
set_option maxRecDepth 100000 in
theorem at_w1n (a0 a1 : Int) (h10 : 0 ≤ a0) (h11 : a0 < 18446744073709551616) (w : World) (hz : Hid (SzAt w)) (hr : a1.tmod 3 = -2) :
    Calls Tryd.prog 4 #[.int .u64 a0, .int .i64 a1] w fun e w' => e = .returned (.bool true) ∧ Grown w w' := by
  have b0 := extV_bd a0 1 h10 h11
  have b4 := extV_bd a0 5 h10 h11
  have s0 : sizeV 1 = 2 := by decide
  have xA := A1 a0
  have xB := B1 a0
  have xC := low_wrap (extV a0 1) a0 65536 281474976710656 (by omega) (by decide) (L1 a0)
  have xD := D1 a0
  have xE := E1 a0
  have x3 := ext3 a0
  have x7 := ext7 a0
  rcases F1 a0 with ⟨f1, f2⟩ | ⟨f1, f2, f3⟩
  · have f4 : (extV a0 1 == extV a0 5) = true := by simp [f2]
    have f5 : (a0 / 32768 % 2 == 0) = true := by simp [f1]
    clear f1 f2
    go_enter Tryd.func4, Tryd.ntmps4
    go_wp2_with (first | (go_at_call 8; refine (size_w _ _ hz.out).mono ?_; rintro e w' ⟨rfl, rfl⟩) | (go_at_call 10; refine (ext_w _ _ (by omega) (by omega) _).mono ?_; rintro e w' ⟨rfl, rfl⟩) | (go_at_call 12; refine (known_w _).mono ?_; rintro e w' ⟨rfl, rfl⟩))
    go_ret
    exact ⟨rfl, Grown.refl _⟩
  · have f4 : (extV a0 1 == extV a0 5) = false := by simp [f2]
    have f5 : (a0 / 32768 % 2 == 0) = false := by simp [f1]
    clear f1 f2
    go_enter Tryd.func4, Tryd.ntmps4
    go_wp2_with (first | (go_at_call 8; refine (size_w _ _ hz.out).mono ?_; rintro e w' ⟨rfl, rfl⟩) | (go_at_call 10; refine (ext_w _ _ (by omega) (by omega) _).mono ?_; rintro e w' ⟨rfl, rfl⟩) | (go_at_call 12; refine (known_w _).mono ?_; rintro e w' ⟨rfl, rfl⟩))
    go_ret
    exact ⟨rfl, Grown.refl _⟩
set_option maxRecDepth 100000 in
theorem at_w2 (a0 a1 : Int) (h10 : 0 ≤ a0) (h11 : a0 < 18446744073709551616) (w : World) (hz : Hid (SzAt w)) (hr : a1.tmod 3 = 2) :
    Calls Tryd.prog 4 #[.int .u64 a0, .int .i64 a1] w fun e w' => e = .returned (.bool true) ∧ Grown w w' := by
  have b0 := extV_bd a0 2 h10 h11
  have b4 := extV_bd a0 6 h10 h11
  have s0 : sizeV 2 = 4 := by decide
  have xA := A2 a0
  have xB := B2 a0
  have xC := low_wrap (extV a0 2) a0 4294967296 4294967296 (by omega) (by decide) (L2 a0)
  have xD := D2 a0
  have xE := E2 a0
  have x3 := ext3 a0
  have x7 := ext7 a0
  rcases F2 a0 with ⟨f1, f2⟩ | ⟨f1, f2, f3⟩
  · have f4 : (extV a0 2 == extV a0 6) = true := by simp [f2]
    have f5 : (a0 / 2147483648 % 2 == 0) = true := by simp [f1]
    clear f1 f2
    go_enter Tryd.func4, Tryd.ntmps4
    go_wp2_with (first | (go_at_call 8; refine (size_w _ _ hz.out).mono ?_; rintro e w' ⟨rfl, rfl⟩) | (go_at_call 10; refine (ext_w _ _ (by omega) (by omega) _).mono ?_; rintro e w' ⟨rfl, rfl⟩) | (go_at_call 12; refine (known_w _).mono ?_; rintro e w' ⟨rfl, rfl⟩))
    go_ret
    exact ⟨rfl, Grown.refl _⟩
  · have f4 : (extV a0 2 == extV a0 6) = false := by simp [f2]
    have f5 : (a0 / 2147483648 % 2 == 0) = false := by simp [f1]
    clear f1 f2
    go_enter Tryd.func4, Tryd.ntmps4
    go_wp2_with (first | (go_at_call 8; refine (size_w _ _ hz.out).mono ?_; rintro e w' ⟨rfl, rfl⟩) | (go_at_call 10; refine (ext_w _ _ (by omega) (by omega) _).mono ?_; rintro e w' ⟨rfl, rfl⟩) | (go_at_call 12; refine (known_w _).mono ?_; rintro e w' ⟨rfl, rfl⟩))
    go_ret
    exact ⟨rfl, Grown.refl _⟩
set_option maxRecDepth 100000 in
theorem at_w2n (a0 a1 : Int) (h10 : 0 ≤ a0) (h11 : a0 < 18446744073709551616) (w : World) (hz : Hid (SzAt w)) (hr : a1.tmod 3 = -1) :
    Calls Tryd.prog 4 #[.int .u64 a0, .int .i64 a1] w fun e w' => e = .returned (.bool true) ∧ Grown w w' := by
  have b0 := extV_bd a0 2 h10 h11
  have b4 := extV_bd a0 6 h10 h11
  have s0 : sizeV 2 = 4 := by decide
  have xA := A2 a0
  have xB := B2 a0
  have xC := low_wrap (extV a0 2) a0 4294967296 4294967296 (by omega) (by decide) (L2 a0)
  have xD := D2 a0
  have xE := E2 a0
  have x3 := ext3 a0
  have x7 := ext7 a0
  rcases F2 a0 with ⟨f1, f2⟩ | ⟨f1, f2, f3⟩
  · have f4 : (extV a0 2 == extV a0 6) = true := by simp [f2]
    have f5 : (a0 / 2147483648 % 2 == 0) = true := by simp [f1]
    clear f1 f2
    go_enter Tryd.func4, Tryd.ntmps4
    go_wp2_with (first | (go_at_call 8; refine (size_w _ _ hz.out).mono ?_; rintro e w' ⟨rfl, rfl⟩) | (go_at_call 10; refine (ext_w _ _ (by omega) (by omega) _).mono ?_; rintro e w' ⟨rfl, rfl⟩) | (go_at_call 12; refine (known_w _).mono ?_; rintro e w' ⟨rfl, rfl⟩))
    go_ret
    exact ⟨rfl, Grown.refl _⟩
  · have f4 : (extV a0 2 == extV a0 6) = false := by simp [f2]
    have f5 : (a0 / 2147483648 % 2 == 0) = false := by simp [f1]
    clear f1 f2
    go_enter Tryd.func4, Tryd.ntmps4
    go_wp2_with (first | (go_at_call 8; refine (size_w _ _ hz.out).mono ?_; rintro e w' ⟨rfl, rfl⟩) | (go_at_call 10; refine (ext_w _ _ (by omega) (by omega) _).mono ?_; rintro e w' ⟨rfl, rfl⟩) | (go_at_call 12; refine (known_w _).mono ?_; rintro e w' ⟨rfl, rfl⟩))
    go_ret
    exact ⟨rfl, Grown.refl _⟩
theorem walk (a0 : Int) (a1 : Int) (w0 : (Lit.int .u64 a0).wf = true) (w1 : (Lit.int .i64 a1).wf = true) (w : World) (hz : SzAt w) :
    Calls Tryd.prog 4 #[.int .u64 a0, .int .i64 a1] w fun e w' => e = .returned (.bool true) ∧ Grown w w' := by
  have hm0 : IntKind.u64.min = 0 := rfl
  have hm1 : IntKind.u64.max = 18446744073709551615 := rfl
  clear w1
  simp only [Lit.wf, Bool.and_eq_true, decide_eq_true_eq, hm0, hm1] at w0
  obtain ⟨h10, h11'⟩ := w0
  have h11 : a0 < 18446744073709551616 := by omega
  have H := Lib.hid hz
  have hr : a1.tmod 3 = 0 ∨ a1.tmod 3 = 1 ∨ a1.tmod 3 = -2 ∨ a1.tmod 3 = 2 ∨ a1.tmod 3 = -1 := by
    have := Int.tmod_lt_of_pos a1 (show (0 : Int) < 3 by omega)
    have := Int.lt_tmod_of_pos a1 (show (0 : Int) < 3 by omega)
    omega
  rcases hr with h | h | h | h | h
  · exact at_w0 a0 a1 h10 h11 w H h
  · exact at_w1 a0 a1 h10 h11 w H h
  · exact at_w1n a0 a1 h10 h11 w H h
  · exact at_w2 a0 a1 h10 h11 w H h
  · exact at_w2n a0 a1 h10 h11 w H h
end Go.Proofs.YtglhfdamgblhdaaDoor.wordExtends
