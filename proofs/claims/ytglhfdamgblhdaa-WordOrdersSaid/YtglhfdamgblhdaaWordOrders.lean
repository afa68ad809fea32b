/-
  Of any two numbers of 64 bits just one of below, alike, above is so, with a sign and without, as WordOrders asks; no condition.
-/
import Derived.Test.YtglhfdamgblhdaaWLaw
namespace Go.Proofs.Ytglhfdamgblhdaa.wordOrders
open Go.ChangeShapes Go.WideShapes Go.ChangeAt Go.RowKit
set_option linter.unusedVariables false
set_option linter.unusedSimpArgs false
theorem own : ownKnob Try.prog.godebug = none := by kernel_rfl

theorem sg_inj (a b : Int) (h0 : 0 ≤ a) (h1 : a < 18446744073709551616) (hb0 : 0 ≤ b) (hb1 : b < 18446744073709551616) : sg a = sg b ↔ a = b := by
  unfold sg; split <;> split <;> omega
theorem sg_add (a b : Int) (h0 : 0 ≤ a) (h1 : a < 18446744073709551616) (hb0 : 0 ≤ b) (hb1 : b < 18446744073709551616) :
    brV 4 a b = brV 6 (IntKind.u64.wrap (a + 9223372036854775808)) (IntKind.u64.wrap (b + 9223372036854775808)) := by
  simp only [IntKind.wrap_u64, brV]
  simp
  unfold sg; split <;> split <;> omega
theorem wr_bd (a : Int) : 0 ≤ IntKind.u64.wrap a ∧ IntKind.u64.wrap a < 18446744073709551616 := by
  rw [IntKind.wrap_u64]; omega

theorem walk (a0 : Int) (a1 : Int) (w0 : (Lit.int .u64 a0).wf = true) (w1 : (Lit.int .u64 a1).wf = true) (w : World) :
    Calls Try.prog 6 #[.int .u64 a0, .int .u64 a1] w fun e w' => e = .returned (.bool true) ∧ Grown w w' := by
  have hm0 : IntKind.u64.min = 0 := rfl
  have hm1 : IntKind.u64.max = 18446744073709551615 := rfl
  simp only [Lit.wf, Bool.and_eq_true, decide_eq_true_eq, hm0, hm1] at w0 w1
  obtain ⟨p0, p1⟩ := w0
  obtain ⟨p2, p3⟩ := w1
  clear hm0 hm1
  have p1' : a0 < 18446744073709551616 := by omega
  have p3' : a1 < 18446744073709551616 := by omega
  have S := Lib.hid (sg_inj a0 a1 p0 p1' p2 p3')
  have T := Lib.hid (sg_add a0 a1 p0 p1' p2 p3')
  have b0 := wr_bd (a0 + 9223372036854775808)
  have b1 := wr_bd (a1 + 9223372036854775808)
  go_enter Try.func6, Try.ntmps6
  go_wp2
  go_loop [5] (fun t => t = .int .i64 4 ∨ t = .int .i64 6 ∨ t = .int .i64 8) (fun t => (8 - intOf t).toNat)
  case atStart => exact .inl rfl
  case round =>
    rcases hrel with rfl | rfl | rfl
    · have X : (brV 4 a0 a1 = true ∧ brV 4 a1 a0 = false ∧ brV 0 a0 a1 = false ∧ brV 5 a0 a1 = false ∧ aluV 2 false a0 a1 = 1) ∨ (brV 4 a0 a1 = false ∧ brV 4 a1 a0 = true ∧ brV 0 a0 a1 = false ∧ brV 5 a0 a1 = true ∧ aluV 2 false a0 a1 = 0) ∨ (brV 4 a0 a1 = false ∧ brV 4 a1 a0 = false ∧ brV 0 a0 a1 = true ∧ brV 5 a0 a1 = true ∧ aluV 2 false a0 a1 = 0) := by
        have s := S.out
        simp [brV, aluV, turnOk, cmV]; omega
      rcases X with ⟨x1, x2, x3, x4, x5⟩ | ⟨x1, x2, x3, x4, x5⟩ | ⟨x1, x2, x3, x4, x5⟩
      all_goals
        go_wp2_with (first | (go_at_call 10; refine (lalu_w _ _ _ _ (by omega) (by omega) (by omega) (by omega) _).mono ?_; rintro e w' ⟨rfl, rfl⟩) | (go_at_call 12; refine (lbr_w _ _ _ (by omega) (by omega) (by omega) (by omega) _).mono ?_; rintro e w' ⟨rfl, rfl⟩))
        go_round
        case rel => exact .inr (.inl rfl)
        case measure => simp [intOf]
    · have X : (brV 6 a0 a1 = true ∧ brV 6 a1 a0 = false ∧ brV 0 a0 a1 = false ∧ brV 7 a0 a1 = false ∧ aluV 3 false a0 a1 = 1) ∨ (brV 6 a0 a1 = false ∧ brV 6 a1 a0 = true ∧ brV 0 a0 a1 = false ∧ brV 7 a0 a1 = true ∧ aluV 3 false a0 a1 = 0) ∨ (brV 6 a0 a1 = false ∧ brV 6 a1 a0 = false ∧ brV 0 a0 a1 = true ∧ brV 7 a0 a1 = true ∧ aluV 3 false a0 a1 = 0) := by
        simp [brV, aluV, turnOk, cmV]; omega
      rcases X with ⟨x1, x2, x3, x4, x5⟩ | ⟨x1, x2, x3, x4, x5⟩ | ⟨x1, x2, x3, x4, x5⟩
      all_goals
        go_wp2_with (first | (go_at_call 10; refine (lalu_w _ _ _ _ (by omega) (by omega) (by omega) (by omega) _).mono ?_; rintro e w' ⟨rfl, rfl⟩) | (go_at_call 12; refine (lbr_w _ _ _ (by omega) (by omega) (by omega) (by omega) _).mono ?_; rintro e w' ⟨rfl, rfl⟩))
        go_round
        case rel => exact .inr (.inr rfl)
        case measure => simp [intOf]
    · have X : (brV 0 a0 a1 = true ∧ brV 1 a0 a1 = false) ∨ (brV 0 a0 a1 = false ∧ brV 1 a0 a1 = true) := by
        by_cases h : a0 = a1 <;> simp [brV, h]
      have Y : (brV 4 a0 a1 = true ∧ brV 6 (IntKind.u64.wrap (a0 + 9223372036854775808)) (IntKind.u64.wrap (a1 + 9223372036854775808)) = true) ∨ (brV 4 a0 a1 = false ∧ brV 6 (IntKind.u64.wrap (a0 + 9223372036854775808)) (IntKind.u64.wrap (a1 + 9223372036854775808)) = false) := by
        have t := T.out
        rw [← t]; cases brV 4 a0 a1 <;> simp
      rcases X with ⟨x1, x2⟩ | ⟨x1, x2⟩ <;> rcases Y with ⟨y1, y2⟩ | ⟨y1, y2⟩
      all_goals
        go_wp2_with (first | (go_at_call 12; refine (lbr_w _ _ _ (by omega) (by omega) (by omega) (by omega) _).mono ?_; rintro e w' ⟨rfl, rfl⟩) | (go_at_call 9; refine (known_w _).mono ?_; rintro e w' ⟨rfl, rfl⟩))
        go_ret
        exact ⟨rfl, Grown.refl _⟩
end Go.Proofs.Ytglhfdamgblhdaa.wordOrders
