/-
  Contracts of the document's answer: any half. No condition.
-/
import Derived.Test.YtagoeceaobikaaaDoorVRefB
namespace Go.Proofs.YtagoeceaobikaaaDoor
open Go.ChangeShapes Go.WideShapes Go.ChangeAt Go.RowKit
set_option linter.unusedVariables false
set_option linter.unusedSimpArgs false
set_option maxHeartbeats 1000000 in
theorem second_w (x : Int) (x0 : 0 ≤ x) (x1 : x < 65536) (w : World) :
    Calls Tryd.prog 19 #[.int .i64 x] w fun e w' => e = .returned (.int .i64 (dSecond x)) ∧ w = w' := by
  have sx0 := six_lo x
  have sx1 := six_hi x
  have sd0 := sd_lo (six x) 64 sx0 sx1
  have sd1 := sd_hi (six x) 64 sx0 sx1
  have wd0 := dwd_lo x
  have wd1 := dwd_hi x
  have lg0 := dlg_lo x
  have lg1 := dlg_hi x
  rcases (show x / 8192 % 8 = 0 ∨ x / 8192 % 8 = 1 ∨ x / 8192 % 8 = 2 ∨ x / 8192 % 8 = 3 ∨ x / 8192 % 8 = 4 ∨ x / 8192 % 8 = 5 ∨ x / 8192 % 8 = 6 ∨ x / 8192 % 8 = 7 by omega) with h | h | h | h | h | h | h | h
  · have e : dSecond x = dI 19 0 (x / 128 % 32) (x / 128 % 32) (sd (six x) 64) := by simp [dSecond, h]
    rw [e]
    clear e
    have Hh := Lib.hid h
    clear h
    go_enter Tryd.func19, Tryd.ntmps19
    go_wp2_with (first | (go_at_call 38; have c := at_11_7 x x0 x1 w; with_reducible refine c.mono ?_; rintro e' w1 ⟨rfl, rfl⟩) | (go_at_call 44; have c := six_w x x0 x1 w; with_reducible refine c.mono ?_; rintro e' w1 ⟨rfl, rfl⟩) | (go_at_call 43; have c := sgd_6 (six x) sx0 sx1 w; with_reducible refine c.mono ?_; rintro e' w1 ⟨rfl, rfl⟩) | (go_at_call 38; have c := at_15_13 x x0 x1 w; rw [Hh.out] at c; with_reducible refine c.mono ?_; rintro e' w1 ⟨rfl, rfl⟩) | (go_at_call 39; have c := dI_w 19 0 (x / 128 % 32) (x / 128 % 32) (sd (six x) 64) (by decide) (by decide) (by decide) (by decide) (by omega) (by omega) (by omega) (by omega) (by omega) (by omega) w; with_reducible refine c.mono ?_; rintro e' w1 ⟨rfl, rfl⟩))
    go_ret
    exact ⟨rfl, rfl⟩
  · by_cases hn : x / 128 % 32 = 0
    · have hb : (x / 128 % 32 == 0) = true := by simp [hn]
      have e : dSecond x = 0 := by simp [dSecond, h, hn]
      rw [e]
      have Hh := Lib.hid h
      clear e h hn
      go_enter Tryd.func19, Tryd.ntmps19
      go_wp2_with (first | (go_at_call 38; have c := at_11_7 x x0 x1 w; with_reducible refine c.mono ?_; rintro e' w1 ⟨rfl, rfl⟩) | (go_at_call 44; have c := six_w x x0 x1 w; with_reducible refine c.mono ?_; rintro e' w1 ⟨rfl, rfl⟩) | (go_at_call 43; have c := sgd_6 (six x) sx0 sx1 w; with_reducible refine c.mono ?_; rintro e' w1 ⟨rfl, rfl⟩) | (go_at_call 38; have c := at_15_13 x x0 x1 w; rw [Hh.out] at c; with_reducible refine c.mono ?_; rintro e' w1 ⟨rfl, rfl⟩))
      go_ret
      exact ⟨rfl, rfl⟩
    · have hb : (x / 128 % 32 == 0) = false := by simpa using hn
      have e : dSecond x = dI 27 0 (x / 128 % 32) (x / 128 % 32) (sd (six x) 64) := by simp [dSecond, h, hn]
      rw [e]
      have Hh := Lib.hid h
      clear e h hn
      go_enter Tryd.func19, Tryd.ntmps19
      go_wp2_with (first | (go_at_call 38; have c := at_11_7 x x0 x1 w; with_reducible refine c.mono ?_; rintro e' w1 ⟨rfl, rfl⟩) | (go_at_call 44; have c := six_w x x0 x1 w; with_reducible refine c.mono ?_; rintro e' w1 ⟨rfl, rfl⟩) | (go_at_call 43; have c := sgd_6 (six x) sx0 sx1 w; with_reducible refine c.mono ?_; rintro e' w1 ⟨rfl, rfl⟩) | (go_at_call 38; have c := at_15_13 x x0 x1 w; rw [Hh.out] at c; with_reducible refine c.mono ?_; rintro e' w1 ⟨rfl, rfl⟩) | (go_at_call 39; have c := dI_w 27 0 (x / 128 % 32) (x / 128 % 32) (sd (six x) 64) (by decide) (by decide) (by decide) (by decide) (by omega) (by omega) (by omega) (by omega) (by omega) (by omega) w; with_reducible refine c.mono ?_; rintro e' w1 ⟨rfl, rfl⟩))
      go_ret
      exact ⟨rfl, rfl⟩
  · have e : dSecond x = dI 19 0 (x / 128 % 32) 0 (sd (six x) 64) := by simp [dSecond, h]
    rw [e]
    clear e
    have Hh := Lib.hid h
    clear h
    go_enter Tryd.func19, Tryd.ntmps19
    go_wp2_with (first | (go_at_call 38; have c := at_11_7 x x0 x1 w; with_reducible refine c.mono ?_; rintro e' w1 ⟨rfl, rfl⟩) | (go_at_call 44; have c := six_w x x0 x1 w; with_reducible refine c.mono ?_; rintro e' w1 ⟨rfl, rfl⟩) | (go_at_call 43; have c := sgd_6 (six x) sx0 sx1 w; with_reducible refine c.mono ?_; rintro e' w1 ⟨rfl, rfl⟩) | (go_at_call 38; have c := at_15_13 x x0 x1 w; rw [Hh.out] at c; with_reducible refine c.mono ?_; rintro e' w1 ⟨rfl, rfl⟩) | (go_at_call 39; have c := dI_w 19 0 (x / 128 % 32) 0 (sd (six x) 64) (by decide) (by decide) (by decide) (by decide) (by omega) (by omega) (by omega) (by omega) (by omega) (by omega) w; with_reducible refine c.mono ?_; rintro e' w1 ⟨rfl, rfl⟩))
    go_ret
    exact ⟨rfl, rfl⟩
  · have e : dSecond x = dUpper x := by simp [dSecond, h]
    rw [e]
    clear e
    have Hh := Lib.hid h
    clear h
    go_enter Tryd.func19, Tryd.ntmps19
    go_wp2_with (first | (go_at_call 38; have c := at_11_7 x x0 x1 w; with_reducible refine c.mono ?_; rintro e' w1 ⟨rfl, rfl⟩) | (go_at_call 44; have c := six_w x x0 x1 w; with_reducible refine c.mono ?_; rintro e' w1 ⟨rfl, rfl⟩) | (go_at_call 43; have c := sgd_6 (six x) sx0 sx1 w; with_reducible refine c.mono ?_; rintro e' w1 ⟨rfl, rfl⟩) | (go_at_call 38; have c := at_15_13 x x0 x1 w; rw [Hh.out] at c; with_reducible refine c.mono ?_; rintro e' w1 ⟨rfl, rfl⟩) | (go_at_call 45; have c := upper_w' x x0 x1 w; with_reducible refine c.mono ?_; rintro e' w1 ⟨rfl, rfl⟩))
    go_ret
    exact ⟨rfl, rfl⟩
  · have e : dSecond x = dAlu x := by simp [dSecond, h]
    rw [e]
    clear e
    have Hh := Lib.hid h
    clear h
    go_enter Tryd.func19, Tryd.ntmps19
    go_wp2_with (first | (go_at_call 38; have c := at_11_7 x x0 x1 w; with_reducible refine c.mono ?_; rintro e' w1 ⟨rfl, rfl⟩) | (go_at_call 44; have c := six_w x x0 x1 w; with_reducible refine c.mono ?_; rintro e' w1 ⟨rfl, rfl⟩) | (go_at_call 43; have c := sgd_6 (six x) sx0 sx1 w; with_reducible refine c.mono ?_; rintro e' w1 ⟨rfl, rfl⟩) | (go_at_call 38; have c := at_15_13 x x0 x1 w; rw [Hh.out] at c; with_reducible refine c.mono ?_; rintro e' w1 ⟨rfl, rfl⟩) | (go_at_call 46; have c := alu_w' x x0 x1 w; with_reducible refine c.mono ?_; rintro e' w1 ⟨rfl, rfl⟩))
    go_ret
    exact ⟨rfl, rfl⟩
  · have e : dSecond x = dJ (sd (x / 4096 % 2 * 2048 + x / 2048 % 2 * 16 + x / 512 % 4 * 256 + x / 256 % 2 * 1024 + x / 128 % 2 * 64 + x / 64 % 2 * 128 + x / 8 % 8 * 2 + x / 4 % 2 * 32) 4096) := by unfold dSecond; rw [if_neg (by omega), if_neg (by omega), if_neg (by omega), if_neg (by omega), if_neg (by omega), if_pos h]; rfl
    rw [e]
    have Hh := Lib.hid h
    have f0 : 0 ≤ (x / 4096 % 2 * 2048 + x / 2048 % 2 * 16 + x / 512 % 4 * 256 + x / 256 % 2 * 1024 + x / 128 % 2 * 64 + x / 64 % 2 * 128 + x / 8 % 8 * 2 + x / 4 % 2 * 32) := by omega
    have f1 : (x / 4096 % 2 * 2048 + x / 2048 % 2 * 16 + x / 512 % 4 * 256 + x / 256 % 2 * 1024 + x / 128 % 2 * 64 + x / 64 % 2 * 128 + x / 8 % 8 * 2 + x / 4 % 2 * 32) < 4096 := by omega
    have g0 := sd_lo (x / 4096 % 2 * 2048 + x / 2048 % 2 * 16 + x / 512 % 4 * 256 + x / 256 % 2 * 1024 + x / 128 % 2 * 64 + x / 64 % 2 * 128 + x / 8 % 8 * 2 + x / 4 % 2 * 32) 4096 f0 f1
    have g1 := sd_hi (x / 4096 % 2 * 2048 + x / 2048 % 2 * 16 + x / 512 % 4 * 256 + x / 256 % 2 * 1024 + x / 128 % 2 * 64 + x / 64 % 2 * 128 + x / 8 % 8 * 2 + x / 4 % 2 * 32) 4096 f0 f1
    skip
    skip
    clear e h
    go_enter Tryd.func19, Tryd.ntmps19
    go_wp2_with (first | (go_at_call 38; have c := at_11_7 x x0 x1 w; with_reducible refine c.mono ?_; rintro e' w1 ⟨rfl, rfl⟩) | (go_at_call 44; have c := six_w x x0 x1 w; with_reducible refine c.mono ?_; rintro e' w1 ⟨rfl, rfl⟩) | (go_at_call 43; have c := sgd_6 (six x) sx0 sx1 w; with_reducible refine c.mono ?_; rintro e' w1 ⟨rfl, rfl⟩) | (go_at_call 38; have c := at_15_13 x x0 x1 w; rw [Hh.out] at c; with_reducible refine c.mono ?_; rintro e' w1 ⟨rfl, rfl⟩) | (go_at_call 38; have c := at_12_12 x x0 x1 w; with_reducible refine c.mono ?_; rintro e' w1 ⟨rfl, rfl⟩) | (go_at_call 38; have c := at_11_11 x x0 x1 w; with_reducible refine c.mono ?_; rintro e' w1 ⟨rfl, rfl⟩) | (go_at_call 38; have c := at_10_9 x x0 x1 w; with_reducible refine c.mono ?_; rintro e' w1 ⟨rfl, rfl⟩) | (go_at_call 38; have c := at_8_8 x x0 x1 w; with_reducible refine c.mono ?_; rintro e' w1 ⟨rfl, rfl⟩) | (go_at_call 38; have c := at_7_7 x x0 x1 w; with_reducible refine c.mono ?_; rintro e' w1 ⟨rfl, rfl⟩) | (go_at_call 38; have c := at_6_6 x x0 x1 w; with_reducible refine c.mono ?_; rintro e' w1 ⟨rfl, rfl⟩) | (go_at_call 38; have c := at_5_3 x x0 x1 w; with_reducible refine c.mono ?_; rintro e' w1 ⟨rfl, rfl⟩) | (go_at_call 38; have c := at_2_2 x x0 x1 w; with_reducible refine c.mono ?_; rintro e' w1 ⟨rfl, rfl⟩) | (go_at_call 43; have c := sgd_12 (x / 4096 % 2 * 2048 + x / 2048 % 2 * 16 + x / 512 % 4 * 256 + x / 256 % 2 * 1024 + x / 128 % 2 * 64 + x / 64 % 2 * 128 + x / 8 % 8 * 2 + x / 4 % 2 * 32) f0 f1 w; with_reducible refine c.mono ?_; rintro e' w1 ⟨rfl, rfl⟩) | (go_at_call 47; have c := dJ_w (sd (x / 4096 % 2 * 2048 + x / 2048 % 2 * 16 + x / 512 % 4 * 256 + x / 256 % 2 * 1024 + x / 128 % 2 * 64 + x / 64 % 2 * 128 + x / 8 % 8 * 2 + x / 4 % 2 * 32) 4096) (by omega) (by omega) w; with_reducible refine c.mono ?_; rintro e' w1 ⟨rfl, rfl⟩))
    go_ret
    exact ⟨rfl, rfl⟩
  · have e : dSecond x = dB 0 (8 + x / 128 % 8) (sd (x / 4096 % 2 * 256 + x / 1024 % 4 * 8 + x / 32 % 4 * 64 + x / 8 % 4 * 2 + x / 4 % 2 * 32) 512) := by unfold dSecond; rw [if_neg (by omega), if_neg (by omega), if_neg (by omega), if_neg (by omega), if_neg (by omega), if_neg (by omega), show x / 8192 % 2 = 0 by omega]; rfl
    rw [e]
    have Hh := Lib.hid h
    have f0 : 0 ≤ (x / 4096 % 2 * 256 + x / 1024 % 4 * 8 + x / 32 % 4 * 64 + x / 8 % 4 * 2 + x / 4 % 2 * 32) := by omega
    have f1 : (x / 4096 % 2 * 256 + x / 1024 % 4 * 8 + x / 32 % 4 * 64 + x / 8 % 4 * 2 + x / 4 % 2 * 32) < 512 := by omega
    have g0 := sd_lo (x / 4096 % 2 * 256 + x / 1024 % 4 * 8 + x / 32 % 4 * 64 + x / 8 % 4 * 2 + x / 4 % 2 * 32) 512 f0 f1
    have g1 := sd_hi (x / 4096 % 2 * 256 + x / 1024 % 4 * 8 + x / 32 % 4 * 64 + x / 8 % 4 * 2 + x / 4 % 2 * 32) 512 f0 f1
    have h13 : x / 8192 % 2 = 0 := by omega
    have Hh13 := Lib.hid h13
    clear e h h13
    go_enter Tryd.func19, Tryd.ntmps19
    go_wp2_with (first | (go_at_call 38; have c := at_11_7 x x0 x1 w; with_reducible refine c.mono ?_; rintro e' w1 ⟨rfl, rfl⟩) | (go_at_call 44; have c := six_w x x0 x1 w; with_reducible refine c.mono ?_; rintro e' w1 ⟨rfl, rfl⟩) | (go_at_call 43; have c := sgd_6 (six x) sx0 sx1 w; with_reducible refine c.mono ?_; rintro e' w1 ⟨rfl, rfl⟩) | (go_at_call 38; have c := at_15_13 x x0 x1 w; rw [Hh.out] at c; with_reducible refine c.mono ?_; rintro e' w1 ⟨rfl, rfl⟩) | (go_at_call 38; have c := at_12_12 x x0 x1 w; with_reducible refine c.mono ?_; rintro e' w1 ⟨rfl, rfl⟩) | (go_at_call 38; have c := at_11_10 x x0 x1 w; with_reducible refine c.mono ?_; rintro e' w1 ⟨rfl, rfl⟩) | (go_at_call 38; have c := at_6_5 x x0 x1 w; with_reducible refine c.mono ?_; rintro e' w1 ⟨rfl, rfl⟩) | (go_at_call 38; have c := at_4_3 x x0 x1 w; with_reducible refine c.mono ?_; rintro e' w1 ⟨rfl, rfl⟩) | (go_at_call 38; have c := at_2_2 x x0 x1 w; with_reducible refine c.mono ?_; rintro e' w1 ⟨rfl, rfl⟩) | (go_at_call 38; have c := at_9_7 x x0 x1 w; with_reducible refine c.mono ?_; rintro e' w1 ⟨rfl, rfl⟩) | (go_at_call 38; have c := at_13_13 x x0 x1 w; rw [Hh13.out] at c; with_reducible refine c.mono ?_; rintro e' w1 ⟨rfl, rfl⟩) | (go_at_call 43; have c := sgd_9 (x / 4096 % 2 * 256 + x / 1024 % 4 * 8 + x / 32 % 4 * 64 + x / 8 % 4 * 2 + x / 4 % 2 * 32) f0 f1 w; with_reducible refine c.mono ?_; rintro e' w1 ⟨rfl, rfl⟩) | (go_at_call 48; have c := dB_w 0 (8 + x / 128 % 8) (sd (x / 4096 % 2 * 256 + x / 1024 % 4 * 8 + x / 32 % 4 * 64 + x / 8 % 4 * 2 + x / 4 % 2 * 32) 512) (by decide) (by decide) (by omega) (by omega) (by omega) (by omega) w; with_reducible refine c.mono ?_; rintro e' w1 ⟨rfl, rfl⟩))
    go_ret
    exact ⟨rfl, rfl⟩
  · have e : dSecond x = dB 1 (8 + x / 128 % 8) (sd (x / 4096 % 2 * 256 + x / 1024 % 4 * 8 + x / 32 % 4 * 64 + x / 8 % 4 * 2 + x / 4 % 2 * 32) 512) := by unfold dSecond; rw [if_neg (by omega), if_neg (by omega), if_neg (by omega), if_neg (by omega), if_neg (by omega), if_neg (by omega), show x / 8192 % 2 = 1 by omega]; rfl
    rw [e]
    have Hh := Lib.hid h
    have f0 : 0 ≤ (x / 4096 % 2 * 256 + x / 1024 % 4 * 8 + x / 32 % 4 * 64 + x / 8 % 4 * 2 + x / 4 % 2 * 32) := by omega
    have f1 : (x / 4096 % 2 * 256 + x / 1024 % 4 * 8 + x / 32 % 4 * 64 + x / 8 % 4 * 2 + x / 4 % 2 * 32) < 512 := by omega
    have g0 := sd_lo (x / 4096 % 2 * 256 + x / 1024 % 4 * 8 + x / 32 % 4 * 64 + x / 8 % 4 * 2 + x / 4 % 2 * 32) 512 f0 f1
    have g1 := sd_hi (x / 4096 % 2 * 256 + x / 1024 % 4 * 8 + x / 32 % 4 * 64 + x / 8 % 4 * 2 + x / 4 % 2 * 32) 512 f0 f1
    have h13 : x / 8192 % 2 = 1 := by omega
    have Hh13 := Lib.hid h13
    clear e h h13
    go_enter Tryd.func19, Tryd.ntmps19
    go_wp2_with (first | (go_at_call 38; have c := at_11_7 x x0 x1 w; with_reducible refine c.mono ?_; rintro e' w1 ⟨rfl, rfl⟩) | (go_at_call 44; have c := six_w x x0 x1 w; with_reducible refine c.mono ?_; rintro e' w1 ⟨rfl, rfl⟩) | (go_at_call 43; have c := sgd_6 (six x) sx0 sx1 w; with_reducible refine c.mono ?_; rintro e' w1 ⟨rfl, rfl⟩) | (go_at_call 38; have c := at_15_13 x x0 x1 w; rw [Hh.out] at c; with_reducible refine c.mono ?_; rintro e' w1 ⟨rfl, rfl⟩) | (go_at_call 38; have c := at_12_12 x x0 x1 w; with_reducible refine c.mono ?_; rintro e' w1 ⟨rfl, rfl⟩) | (go_at_call 38; have c := at_11_10 x x0 x1 w; with_reducible refine c.mono ?_; rintro e' w1 ⟨rfl, rfl⟩) | (go_at_call 38; have c := at_6_5 x x0 x1 w; with_reducible refine c.mono ?_; rintro e' w1 ⟨rfl, rfl⟩) | (go_at_call 38; have c := at_4_3 x x0 x1 w; with_reducible refine c.mono ?_; rintro e' w1 ⟨rfl, rfl⟩) | (go_at_call 38; have c := at_2_2 x x0 x1 w; with_reducible refine c.mono ?_; rintro e' w1 ⟨rfl, rfl⟩) | (go_at_call 38; have c := at_9_7 x x0 x1 w; with_reducible refine c.mono ?_; rintro e' w1 ⟨rfl, rfl⟩) | (go_at_call 38; have c := at_13_13 x x0 x1 w; rw [Hh13.out] at c; with_reducible refine c.mono ?_; rintro e' w1 ⟨rfl, rfl⟩) | (go_at_call 43; have c := sgd_9 (x / 4096 % 2 * 256 + x / 1024 % 4 * 8 + x / 32 % 4 * 64 + x / 8 % 4 * 2 + x / 4 % 2 * 32) f0 f1 w; with_reducible refine c.mono ?_; rintro e' w1 ⟨rfl, rfl⟩) | (go_at_call 48; have c := dB_w 1 (8 + x / 128 % 8) (sd (x / 4096 % 2 * 256 + x / 1024 % 4 * 8 + x / 32 % 4 * 64 + x / 8 % 4 * 2 + x / 4 % 2 * 32) 512) (by decide) (by decide) (by omega) (by omega) (by omega) (by omega) w; with_reducible refine c.mono ?_; rintro e' w1 ⟨rfl, rfl⟩))
    go_ret
    exact ⟨rfl, rfl⟩
set_option maxHeartbeats 1000000 in
theorem third_w (x : Int) (x0 : 0 ≤ x) (x1 : x < 65536) (w : World) :
    Calls Tryd.prog 20 #[.int .i64 x] w fun e w' => e = .returned (.int .i64 (dThird x)) ∧ w = w' := by
  have sx0 := six_lo x
  have sx1 := six_hi x
  have sd0 := sd_lo (six x) 64 sx0 sx1
  have sd1 := sd_hi (six x) 64 sx0 sx1
  have wd0 := dwd_lo x
  have wd1 := dwd_hi x
  have lg0 := dlg_lo x
  have lg1 := dlg_hi x
  rcases (show x / 8192 % 8 = 0 ∨ x / 8192 % 8 = 1 ∨ x / 8192 % 8 = 2 ∨ x / 8192 % 8 = 3 ∨ x / 8192 % 8 = 4 ∨ x / 8192 % 8 = 5 ∨ x / 8192 % 8 = 6 ∨ x / 8192 % 8 = 7 by omega) with h | h | h | h | h | h | h | h
  · have e : dThird x = dI 19 1 (x / 128 % 32) (x / 128 % 32) (six x) := by simp [dThird, h]
    rw [e]
    clear e
    have Hh := Lib.hid h
    clear h
    go_enter Tryd.func20, Tryd.ntmps20
    go_wp2_with (first | (go_at_call 38; have c := at_11_7 x x0 x1 w; with_reducible refine c.mono ?_; rintro e' w1 ⟨rfl, rfl⟩) | (go_at_call 38; have c := at_6_2 x x0 x1 w; with_reducible refine c.mono ?_; rintro e' w1 ⟨rfl, rfl⟩) | (go_at_call 38; have c := at_15_13 x x0 x1 w; rw [Hh.out] at c; with_reducible refine c.mono ?_; rintro e' w1 ⟨rfl, rfl⟩) | (go_at_call 44; have c := six_w x x0 x1 w; with_reducible refine c.mono ?_; rintro e' w1 ⟨rfl, rfl⟩) | (go_at_call 39; have c := dI_w 19 1 (x / 128 % 32) (x / 128 % 32) (six x) (by decide) (by decide) (by decide) (by decide) (by omega) (by omega) (by omega) (by omega) (by omega) (by omega) w; with_reducible refine c.mono ?_; rintro e' w1 ⟨rfl, rfl⟩))
    go_ret
    exact ⟨rfl, rfl⟩
  · have e : dThird x = 0 := by simp [dThird, h]
    rw [e]
    clear e
    have Hh := Lib.hid h
    clear h
    go_enter Tryd.func20, Tryd.ntmps20
    go_wp2_with (first | (go_at_call 38; have c := at_11_7 x x0 x1 w; with_reducible refine c.mono ?_; rintro e' w1 ⟨rfl, rfl⟩) | (go_at_call 38; have c := at_6_2 x x0 x1 w; with_reducible refine c.mono ?_; rintro e' w1 ⟨rfl, rfl⟩) | (go_at_call 38; have c := at_15_13 x x0 x1 w; rw [Hh.out] at c; with_reducible refine c.mono ?_; rintro e' w1 ⟨rfl, rfl⟩))
    go_ret
    exact ⟨rfl, rfl⟩
  · by_cases hn : x / 128 % 32 = 0
    · have hb : (x / 128 % 32 != 0) = false := by simp [hn]
      have e : dThird x = 0 := by simp [dThird, h, hn]
      rw [e]
      have Hh := Lib.hid h
      clear e h hn
      go_enter Tryd.func20, Tryd.ntmps20
      go_wp2_with (first | (go_at_call 38; have c := at_11_7 x x0 x1 w; with_reducible refine c.mono ?_; rintro e' w1 ⟨rfl, rfl⟩) | (go_at_call 38; have c := at_6_2 x x0 x1 w; with_reducible refine c.mono ?_; rintro e' w1 ⟨rfl, rfl⟩) | (go_at_call 38; have c := at_15_13 x x0 x1 w; rw [Hh.out] at c; with_reducible refine c.mono ?_; rintro e' w1 ⟨rfl, rfl⟩))
      go_ret
      exact ⟨rfl, rfl⟩
    · have hb : (x / 128 % 32 != 0) = true := by simpa using hn
      have e : dThird x = dI 3 2 (x / 128 % 32) 2 (x / 4096 % 2 * 32 + x / 16 % 8 * 4 + x / 4 % 4 * 64) := by simp [dThird, h, hn]
      rw [e]
      have Hh := Lib.hid h
      clear e h hn
      go_enter Tryd.func20, Tryd.ntmps20
      go_wp2_with (first | (go_at_call 38; have c := at_11_7 x x0 x1 w; with_reducible refine c.mono ?_; rintro e' w1 ⟨rfl, rfl⟩) | (go_at_call 38; have c := at_6_2 x x0 x1 w; with_reducible refine c.mono ?_; rintro e' w1 ⟨rfl, rfl⟩) | (go_at_call 38; have c := at_15_13 x x0 x1 w; rw [Hh.out] at c; with_reducible refine c.mono ?_; rintro e' w1 ⟨rfl, rfl⟩) | (go_at_call 38; have c := at_12_12 x x0 x1 w; with_reducible refine c.mono ?_; rintro e' w1 ⟨rfl, rfl⟩) | (go_at_call 38; have c := at_6_4 x x0 x1 w; with_reducible refine c.mono ?_; rintro e' w1 ⟨rfl, rfl⟩) | (go_at_call 38; have c := at_3_2 x x0 x1 w; with_reducible refine c.mono ?_; rintro e' w1 ⟨rfl, rfl⟩) | (go_at_call 39; have c := dI_w 3 2 (x / 128 % 32) 2 (x / 4096 % 2 * 32 + x / 16 % 8 * 4 + x / 4 % 4 * 64) (by decide) (by decide) (by decide) (by decide) (by omega) (by omega) (by omega) (by omega) (by omega) (by omega) w; with_reducible refine c.mono ?_; rintro e' w1 ⟨rfl, rfl⟩))
      go_ret
      exact ⟨rfl, rfl⟩
  · by_cases hn : x / 128 % 32 = 0
    · have hb : (x / 128 % 32 != 0) = false := by simp [hn]
      have e : dThird x = 0 := by simp [dThird, h, hn]
      rw [e]
      have Hh := Lib.hid h
      clear e h hn
      go_enter Tryd.func20, Tryd.ntmps20
      go_wp2_with (first | (go_at_call 38; have c := at_11_7 x x0 x1 w; with_reducible refine c.mono ?_; rintro e' w1 ⟨rfl, rfl⟩) | (go_at_call 38; have c := at_6_2 x x0 x1 w; with_reducible refine c.mono ?_; rintro e' w1 ⟨rfl, rfl⟩) | (go_at_call 38; have c := at_15_13 x x0 x1 w; rw [Hh.out] at c; with_reducible refine c.mono ?_; rintro e' w1 ⟨rfl, rfl⟩))
      go_ret
      exact ⟨rfl, rfl⟩
    · have hb : (x / 128 % 32 != 0) = true := by simpa using hn
      have e : dThird x = dI 3 3 (x / 128 % 32) 2 (x / 4096 % 2 * 32 + x / 32 % 4 * 8 + x / 4 % 8 * 64) := by simp [dThird, h, hn]
      rw [e]
      have Hh := Lib.hid h
      clear e h hn
      go_enter Tryd.func20, Tryd.ntmps20
      go_wp2_with (first | (go_at_call 38; have c := at_11_7 x x0 x1 w; with_reducible refine c.mono ?_; rintro e' w1 ⟨rfl, rfl⟩) | (go_at_call 38; have c := at_6_2 x x0 x1 w; with_reducible refine c.mono ?_; rintro e' w1 ⟨rfl, rfl⟩) | (go_at_call 38; have c := at_15_13 x x0 x1 w; rw [Hh.out] at c; with_reducible refine c.mono ?_; rintro e' w1 ⟨rfl, rfl⟩) | (go_at_call 38; have c := at_12_12 x x0 x1 w; with_reducible refine c.mono ?_; rintro e' w1 ⟨rfl, rfl⟩) | (go_at_call 38; have c := at_6_5 x x0 x1 w; with_reducible refine c.mono ?_; rintro e' w1 ⟨rfl, rfl⟩) | (go_at_call 38; have c := at_4_2 x x0 x1 w; with_reducible refine c.mono ?_; rintro e' w1 ⟨rfl, rfl⟩) | (go_at_call 39; have c := dI_w 3 3 (x / 128 % 32) 2 (x / 4096 % 2 * 32 + x / 32 % 4 * 8 + x / 4 % 8 * 64) (by decide) (by decide) (by decide) (by decide) (by omega) (by omega) (by omega) (by omega) (by omega) (by omega) w; with_reducible refine c.mono ?_; rintro e' w1 ⟨rfl, rfl⟩))
      go_ret
      exact ⟨rfl, rfl⟩
  · have e : dThird x = dMoves x := by simp [dThird, h]
    rw [e]
    clear e
    have Hh := Lib.hid h
    clear h
    go_enter Tryd.func20, Tryd.ntmps20
    go_wp2_with (first | (go_at_call 38; have c := at_11_7 x x0 x1 w; with_reducible refine c.mono ?_; rintro e' w1 ⟨rfl, rfl⟩) | (go_at_call 38; have c := at_6_2 x x0 x1 w; with_reducible refine c.mono ?_; rintro e' w1 ⟨rfl, rfl⟩) | (go_at_call 38; have c := at_15_13 x x0 x1 w; rw [Hh.out] at c; with_reducible refine c.mono ?_; rintro e' w1 ⟨rfl, rfl⟩) | (go_at_call 49; have c := moves_w x x0 x1 w; with_reducible refine c.mono ?_; rintro e' w1 ⟨rfl, rfl⟩))
    go_ret
    exact ⟨rfl, rfl⟩
  · have e : dThird x = 0 := by simp [dThird, h]
    rw [e]
    clear e
    have Hh := Lib.hid h
    clear h
    go_enter Tryd.func20, Tryd.ntmps20
    go_wp2_with (first | (go_at_call 38; have c := at_11_7 x x0 x1 w; with_reducible refine c.mono ?_; rintro e' w1 ⟨rfl, rfl⟩) | (go_at_call 38; have c := at_6_2 x x0 x1 w; with_reducible refine c.mono ?_; rintro e' w1 ⟨rfl, rfl⟩) | (go_at_call 38; have c := at_15_13 x x0 x1 w; rw [Hh.out] at c; with_reducible refine c.mono ?_; rintro e' w1 ⟨rfl, rfl⟩))
    go_ret
    exact ⟨rfl, rfl⟩
  · have e : dThird x = dS 2 2 (x / 4 % 32) (x / 512 % 16 * 4 + x / 128 % 4 * 64) := by simp [dThird, h]
    rw [e]
    clear e
    have Hh := Lib.hid h
    clear h
    go_enter Tryd.func20, Tryd.ntmps20
    go_wp2_with (first | (go_at_call 38; have c := at_11_7 x x0 x1 w; with_reducible refine c.mono ?_; rintro e' w1 ⟨rfl, rfl⟩) | (go_at_call 38; have c := at_6_2 x x0 x1 w; with_reducible refine c.mono ?_; rintro e' w1 ⟨rfl, rfl⟩) | (go_at_call 38; have c := at_15_13 x x0 x1 w; rw [Hh.out] at c; with_reducible refine c.mono ?_; rintro e' w1 ⟨rfl, rfl⟩) | (go_at_call 38; have c := at_12_9 x x0 x1 w; with_reducible refine c.mono ?_; rintro e' w1 ⟨rfl, rfl⟩) | (go_at_call 38; have c := at_8_7 x x0 x1 w; with_reducible refine c.mono ?_; rintro e' w1 ⟨rfl, rfl⟩) | (go_at_call 42; have c := dS_w 2 2 (x / 4 % 32) (x / 512 % 16 * 4 + x / 128 % 4 * 64) (by decide) (by decide) (by omega) (by omega) (by omega) (by omega) (by omega) (by omega) w; with_reducible refine c.mono ?_; rintro e' w1 ⟨rfl, rfl⟩))
    go_ret
    exact ⟨rfl, rfl⟩
  · have e : dThird x = dS 3 2 (x / 4 % 32) (x / 1024 % 8 * 8 + x / 128 % 8 * 64) := by simp [dThird, h]
    rw [e]
    clear e
    have Hh := Lib.hid h
    clear h
    go_enter Tryd.func20, Tryd.ntmps20
    go_wp2_with (first | (go_at_call 38; have c := at_11_7 x x0 x1 w; with_reducible refine c.mono ?_; rintro e' w1 ⟨rfl, rfl⟩) | (go_at_call 38; have c := at_6_2 x x0 x1 w; with_reducible refine c.mono ?_; rintro e' w1 ⟨rfl, rfl⟩) | (go_at_call 38; have c := at_15_13 x x0 x1 w; rw [Hh.out] at c; with_reducible refine c.mono ?_; rintro e' w1 ⟨rfl, rfl⟩) | (go_at_call 38; have c := at_12_10 x x0 x1 w; with_reducible refine c.mono ?_; rintro e' w1 ⟨rfl, rfl⟩) | (go_at_call 38; have c := at_9_7 x x0 x1 w; with_reducible refine c.mono ?_; rintro e' w1 ⟨rfl, rfl⟩) | (go_at_call 42; have c := dS_w 3 2 (x / 4 % 32) (x / 1024 % 8 * 8 + x / 128 % 8 * 64) (by decide) (by decide) (by omega) (by omega) (by omega) (by omega) (by omega) (by omega) w; with_reducible refine c.mono ?_; rintro e' w1 ⟨rfl, rfl⟩))
    go_ret
    exact ⟨rfl, rfl⟩
end Go.Proofs.YtagoeceaobikaaaDoor
