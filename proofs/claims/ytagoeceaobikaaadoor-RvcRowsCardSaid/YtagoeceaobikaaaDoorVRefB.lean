/-
  Contracts of the document's answer: the lowest two bits 0, lui, pairs of registers, moves. No condition.
-/
import Derived.Test.YtagoeceaobikaaaDoorVRefA
namespace Go.Proofs.YtagoeceaobikaaaDoor
open Go.ChangeShapes Go.WideShapes Go.ChangeAt Go.RowKit
set_option linter.unusedVariables false
set_option linter.unusedSimpArgs false
theorem six_lo (x : Int) : 0 ≤ six x := by unfold six; omega
theorem six_hi (x : Int) : six x < 64 := by unfold six; omega
theorem dwd_lo (x : Int) : 0 ≤ dwd x := by unfold dwd; omega
theorem dwd_hi (x : Int) : dwd x < 128 := by unfold dwd; omega
theorem dlg_lo (x : Int) : 0 ≤ dlg x := by unfold dlg; omega
theorem dlg_hi (x : Int) : dlg x < 256 := by unfold dlg; omega
theorem sd_lo (n p : Int) (h0 : 0 ≤ n) (h1 : n < p) : -p ≤ sd n p := by unfold sd; split <;> omega
theorem sd_hi (n p : Int) (h0 : 0 ≤ n) (h1 : n < p) : sd n p < p := by unfold sd; split <;> omega
set_option maxHeartbeats 1000000 in
theorem first_w (x : Int) (x0 : 0 ≤ x) (x1 : x < 65536) (w : World) :
    Calls Tryd.prog 18 #[.int .i64 x] w fun e w' => e = .returned (.int .i64 (dFirst x)) ∧ w = w' := by
  have sx0 := six_lo x
  have sx1 := six_hi x
  have sd0 := sd_lo (six x) 64 sx0 sx1
  have sd1 := sd_hi (six x) 64 sx0 sx1
  have wd0 := dwd_lo x
  have wd1 := dwd_hi x
  have lg0 := dlg_lo x
  have lg1 := dlg_hi x
  rcases (show x / 8192 % 8 = 0 ∨ x / 8192 % 8 = 1 ∨ x / 8192 % 8 = 2 ∨ x / 8192 % 8 = 3 ∨ x / 8192 % 8 = 4 ∨ x / 8192 % 8 = 5 ∨ x / 8192 % 8 = 6 ∨ x / 8192 % 8 = 7 by omega) with h | h | h | h | h | h | h | h
  · by_cases hn : (x / 2048 % 4 * 16 + x / 128 % 16 * 64 + x / 64 % 2 * 4 + x / 32 % 2 * 8) = 0
    · have hb : ((x / 2048 % 4 * 16 + x / 128 % 16 * 64 + x / 64 % 2 * 4 + x / 32 % 2 * 8) != 0) = false := by simp [hn]
      have e : dFirst x = 0 := by unfold dFirst; rw [if_pos h, if_pos (show dpl x = 0 from hn)]
      rw [e]
      have Hh := Lib.hid h
      clear e h hn
      go_enter Tryd.func18, Tryd.ntmps18
      go_wp2_with (first | (go_at_call 38; have c := at_15_13 x x0 x1 w; rw [Hh.out] at c; with_reducible refine c.mono ?_; rintro e' w1 ⟨rfl, rfl⟩) | (go_at_call 38; have c := at_4_2 x x0 x1 w; with_reducible refine c.mono ?_; rintro e' w1 ⟨rfl, rfl⟩) | (go_at_call 38; have c := at_9_7 x x0 x1 w; with_reducible refine c.mono ?_; rintro e' w1 ⟨rfl, rfl⟩) | (go_at_call 38; have c := at_12_11 x x0 x1 w; with_reducible refine c.mono ?_; rintro e' w1 ⟨rfl, rfl⟩) | (go_at_call 38; have c := at_10_7 x x0 x1 w; with_reducible refine c.mono ?_; rintro e' w1 ⟨rfl, rfl⟩) | (go_at_call 38; have c := at_6_6 x x0 x1 w; with_reducible refine c.mono ?_; rintro e' w1 ⟨rfl, rfl⟩) | (go_at_call 38; have c := at_5_5 x x0 x1 w; with_reducible refine c.mono ?_; rintro e' w1 ⟨rfl, rfl⟩))
      go_ret
      exact ⟨rfl, rfl⟩
    · have hb : ((x / 2048 % 4 * 16 + x / 128 % 16 * 64 + x / 64 % 2 * 4 + x / 32 % 2 * 8) != 0) = true := by simpa using hn
      have e : dFirst x = dI 19 0 (8 + x / 4 % 8) 2 (x / 2048 % 4 * 16 + x / 128 % 16 * 64 + x / 64 % 2 * 4 + x / 32 % 2 * 8) := by unfold dFirst; rw [if_pos h, if_neg (show ¬ dpl x = 0 from hn)]; rfl
      rw [e]
      have Hh := Lib.hid h
      clear e h hn
      go_enter Tryd.func18, Tryd.ntmps18
      go_wp2_with (first | (go_at_call 38; have c := at_15_13 x x0 x1 w; rw [Hh.out] at c; with_reducible refine c.mono ?_; rintro e' w1 ⟨rfl, rfl⟩) | (go_at_call 38; have c := at_4_2 x x0 x1 w; with_reducible refine c.mono ?_; rintro e' w1 ⟨rfl, rfl⟩) | (go_at_call 38; have c := at_9_7 x x0 x1 w; with_reducible refine c.mono ?_; rintro e' w1 ⟨rfl, rfl⟩) | (go_at_call 38; have c := at_12_11 x x0 x1 w; with_reducible refine c.mono ?_; rintro e' w1 ⟨rfl, rfl⟩) | (go_at_call 38; have c := at_10_7 x x0 x1 w; with_reducible refine c.mono ?_; rintro e' w1 ⟨rfl, rfl⟩) | (go_at_call 38; have c := at_6_6 x x0 x1 w; with_reducible refine c.mono ?_; rintro e' w1 ⟨rfl, rfl⟩) | (go_at_call 38; have c := at_5_5 x x0 x1 w; with_reducible refine c.mono ?_; rintro e' w1 ⟨rfl, rfl⟩) | (go_at_call 39; have c := dI_w 19 0 (8 + x / 4 % 8) 2 (x / 2048 % 4 * 16 + x / 128 % 16 * 64 + x / 64 % 2 * 4 + x / 32 % 2 * 8) (by decide) (by decide) (by decide) (by decide) (by omega) (by omega) (by omega) (by omega) (by omega) (by omega) w; with_reducible refine c.mono ?_; rintro e' w1 ⟨rfl, rfl⟩))
      go_ret
      exact ⟨rfl, rfl⟩
  · have e : dFirst x = 0 := by simp [dFirst, h]
    rw [e]
    clear e
    have Hh := Lib.hid h
    clear h
    go_enter Tryd.func18, Tryd.ntmps18
    go_wp2_with (first | (go_at_call 38; have c := at_15_13 x x0 x1 w; rw [Hh.out] at c; with_reducible refine c.mono ?_; rintro e' w1 ⟨rfl, rfl⟩) | (go_at_call 38; have c := at_4_2 x x0 x1 w; with_reducible refine c.mono ?_; rintro e' w1 ⟨rfl, rfl⟩) | (go_at_call 38; have c := at_9_7 x x0 x1 w; with_reducible refine c.mono ?_; rintro e' w1 ⟨rfl, rfl⟩))
    go_ret
    exact ⟨rfl, rfl⟩
  · have e : dFirst x = dI 3 2 (8 + x / 4 % 8) (8 + x / 128 % 8) (dwd x) := by simp [dFirst, h]
    rw [e]
    clear e
    have Hh := Lib.hid h
    clear h
    go_enter Tryd.func18, Tryd.ntmps18
    go_wp2_with (first | (go_at_call 38; have c := at_15_13 x x0 x1 w; rw [Hh.out] at c; with_reducible refine c.mono ?_; rintro e' w1 ⟨rfl, rfl⟩) | (go_at_call 38; have c := at_4_2 x x0 x1 w; with_reducible refine c.mono ?_; rintro e' w1 ⟨rfl, rfl⟩) | (go_at_call 38; have c := at_9_7 x x0 x1 w; with_reducible refine c.mono ?_; rintro e' w1 ⟨rfl, rfl⟩) | (go_at_call 40; have c := dwd_w x x0 x1 w; with_reducible refine c.mono ?_; rintro e' w1 ⟨rfl, rfl⟩) | (go_at_call 39; have c := dI_w 3 2 (8 + x / 4 % 8) (8 + x / 128 % 8) (dwd x) (by decide) (by decide) (by decide) (by decide) (by omega) (by omega) (by omega) (by omega) (by omega) (by omega) w; with_reducible refine c.mono ?_; rintro e' w1 ⟨rfl, rfl⟩))
    go_ret
    exact ⟨rfl, rfl⟩
  · have e : dFirst x = dI 3 3 (8 + x / 4 % 8) (8 + x / 128 % 8) (dlg x) := by simp [dFirst, h]
    rw [e]
    clear e
    have Hh := Lib.hid h
    clear h
    go_enter Tryd.func18, Tryd.ntmps18
    go_wp2_with (first | (go_at_call 38; have c := at_15_13 x x0 x1 w; rw [Hh.out] at c; with_reducible refine c.mono ?_; rintro e' w1 ⟨rfl, rfl⟩) | (go_at_call 38; have c := at_4_2 x x0 x1 w; with_reducible refine c.mono ?_; rintro e' w1 ⟨rfl, rfl⟩) | (go_at_call 38; have c := at_9_7 x x0 x1 w; with_reducible refine c.mono ?_; rintro e' w1 ⟨rfl, rfl⟩) | (go_at_call 41; have c := dlg_w x x0 x1 w; with_reducible refine c.mono ?_; rintro e' w1 ⟨rfl, rfl⟩) | (go_at_call 39; have c := dI_w 3 3 (8 + x / 4 % 8) (8 + x / 128 % 8) (dlg x) (by decide) (by decide) (by decide) (by decide) (by omega) (by omega) (by omega) (by omega) (by omega) (by omega) w; with_reducible refine c.mono ?_; rintro e' w1 ⟨rfl, rfl⟩))
    go_ret
    exact ⟨rfl, rfl⟩
  · have e : dFirst x = 0 := by simp [dFirst, h]
    rw [e]
    clear e
    have Hh := Lib.hid h
    clear h
    go_enter Tryd.func18, Tryd.ntmps18
    go_wp2_with (first | (go_at_call 38; have c := at_15_13 x x0 x1 w; rw [Hh.out] at c; with_reducible refine c.mono ?_; rintro e' w1 ⟨rfl, rfl⟩) | (go_at_call 38; have c := at_4_2 x x0 x1 w; with_reducible refine c.mono ?_; rintro e' w1 ⟨rfl, rfl⟩) | (go_at_call 38; have c := at_9_7 x x0 x1 w; with_reducible refine c.mono ?_; rintro e' w1 ⟨rfl, rfl⟩))
    go_ret
    exact ⟨rfl, rfl⟩
  · have e : dFirst x = 0 := by simp [dFirst, h]
    rw [e]
    clear e
    have Hh := Lib.hid h
    clear h
    go_enter Tryd.func18, Tryd.ntmps18
    go_wp2_with (first | (go_at_call 38; have c := at_15_13 x x0 x1 w; rw [Hh.out] at c; with_reducible refine c.mono ?_; rintro e' w1 ⟨rfl, rfl⟩) | (go_at_call 38; have c := at_4_2 x x0 x1 w; with_reducible refine c.mono ?_; rintro e' w1 ⟨rfl, rfl⟩) | (go_at_call 38; have c := at_9_7 x x0 x1 w; with_reducible refine c.mono ?_; rintro e' w1 ⟨rfl, rfl⟩))
    go_ret
    exact ⟨rfl, rfl⟩
  · have e : dFirst x = dS 2 (8 + x / 128 % 8) (8 + x / 4 % 8) (dwd x) := by simp [dFirst, h]
    rw [e]
    clear e
    have Hh := Lib.hid h
    clear h
    go_enter Tryd.func18, Tryd.ntmps18
    go_wp2_with (first | (go_at_call 38; have c := at_15_13 x x0 x1 w; rw [Hh.out] at c; with_reducible refine c.mono ?_; rintro e' w1 ⟨rfl, rfl⟩) | (go_at_call 38; have c := at_4_2 x x0 x1 w; with_reducible refine c.mono ?_; rintro e' w1 ⟨rfl, rfl⟩) | (go_at_call 38; have c := at_9_7 x x0 x1 w; with_reducible refine c.mono ?_; rintro e' w1 ⟨rfl, rfl⟩) | (go_at_call 40; have c := dwd_w x x0 x1 w; with_reducible refine c.mono ?_; rintro e' w1 ⟨rfl, rfl⟩) | (go_at_call 42; have c := dS_w 2 (8 + x / 128 % 8) (8 + x / 4 % 8) (dwd x) (by decide) (by decide) (by omega) (by omega) (by omega) (by omega) (by omega) (by omega) w; with_reducible refine c.mono ?_; rintro e' w1 ⟨rfl, rfl⟩))
    go_ret
    exact ⟨rfl, rfl⟩
  · have e : dFirst x = dS 3 (8 + x / 128 % 8) (8 + x / 4 % 8) (dlg x) := by simp [dFirst, h]
    rw [e]
    clear e
    have Hh := Lib.hid h
    clear h
    go_enter Tryd.func18, Tryd.ntmps18
    go_wp2_with (first | (go_at_call 38; have c := at_15_13 x x0 x1 w; rw [Hh.out] at c; with_reducible refine c.mono ?_; rintro e' w1 ⟨rfl, rfl⟩) | (go_at_call 38; have c := at_4_2 x x0 x1 w; with_reducible refine c.mono ?_; rintro e' w1 ⟨rfl, rfl⟩) | (go_at_call 38; have c := at_9_7 x x0 x1 w; with_reducible refine c.mono ?_; rintro e' w1 ⟨rfl, rfl⟩) | (go_at_call 41; have c := dlg_w x x0 x1 w; with_reducible refine c.mono ?_; rintro e' w1 ⟨rfl, rfl⟩) | (go_at_call 42; have c := dS_w 3 (8 + x / 128 % 8) (8 + x / 4 % 8) (dlg x) (by decide) (by decide) (by omega) (by omega) (by omega) (by omega) (by omega) (by omega) w; with_reducible refine c.mono ?_; rintro e' w1 ⟨rfl, rfl⟩))
    go_ret
    exact ⟨rfl, rfl⟩
set_option maxHeartbeats 1000000 in
theorem upper_w' (x : Int) (x0 : 0 ≤ x) (x1 : x < 65536) (w : World) :
    Calls Tryd.prog 45 #[.int .i64 x] w fun e w' => e = .returned (.int .i64 (dUpper x)) ∧ w = w' := by
  have sx0 := six_lo x
  have sx1 := six_hi x
  have sd0 := sd_lo (six x) 64 sx0 sx1
  have sd1 := sd_hi (six x) 64 sx0 sx1
  have wd0 := dwd_lo x
  have wd1 := dwd_hi x
  have lg0 := dlg_lo x
  have lg1 := dlg_hi x
  by_cases h : x / 128 % 32 = 2
  · have t0 : (x / 128 % 32 == 2) = true := by simp [h]
    by_cases hn : (x / 4096 % 2 * 512 + x / 64 % 2 * 16 + x / 32 % 2 * 64 + x / 8 % 4 * 128 + x / 4 % 2 * 32) = 0
    · have hb : ((x / 4096 % 2 * 512 + x / 64 % 2 * 16 + x / 32 % 2 * 64 + x / 8 % 4 * 128 + x / 4 % 2 * 32) == 0) = true := by simp [hn]
      have e : dUpper x = 0 := by unfold dUpper; rw [if_pos h, if_pos (show dfr x = 0 from hn)]
      rw [e]
      clear e h hn
      go_enter Tryd.func45, Tryd.ntmps45
      go_wp2_with (first | (go_at_call 38; have c := at_11_7 x x0 x1 w; with_reducible refine c.mono ?_; rintro e' w1 ⟨rfl, rfl⟩) | (go_at_call 38; have c := at_12_12 x x0 x1 w; with_reducible refine c.mono ?_; rintro e' w1 ⟨rfl, rfl⟩) | (go_at_call 38; have c := at_6_6 x x0 x1 w; with_reducible refine c.mono ?_; rintro e' w1 ⟨rfl, rfl⟩) | (go_at_call 38; have c := at_5_5 x x0 x1 w; with_reducible refine c.mono ?_; rintro e' w1 ⟨rfl, rfl⟩) | (go_at_call 38; have c := at_4_3 x x0 x1 w; with_reducible refine c.mono ?_; rintro e' w1 ⟨rfl, rfl⟩) | (go_at_call 38; have c := at_2_2 x x0 x1 w; with_reducible refine c.mono ?_; rintro e' w1 ⟨rfl, rfl⟩))
      go_ret
      exact ⟨rfl, rfl⟩
    · have hb : ((x / 4096 % 2 * 512 + x / 64 % 2 * 16 + x / 32 % 2 * 64 + x / 8 % 4 * 128 + x / 4 % 2 * 32) == 0) = false := by simpa using hn
      have e : dUpper x = dI 19 0 2 2 (sd (x / 4096 % 2 * 512 + x / 64 % 2 * 16 + x / 32 % 2 * 64 + x / 8 % 4 * 128 + x / 4 % 2 * 32) 1024) := by unfold dUpper; rw [if_pos h, if_neg (show ¬ dfr x = 0 from hn)]; rfl
      rw [e]
      have f0 : 0 ≤ (x / 4096 % 2 * 512 + x / 64 % 2 * 16 + x / 32 % 2 * 64 + x / 8 % 4 * 128 + x / 4 % 2 * 32) := by omega
      have f1 : (x / 4096 % 2 * 512 + x / 64 % 2 * 16 + x / 32 % 2 * 64 + x / 8 % 4 * 128 + x / 4 % 2 * 32) < 1024 := by omega
      have g0 := sd_lo (x / 4096 % 2 * 512 + x / 64 % 2 * 16 + x / 32 % 2 * 64 + x / 8 % 4 * 128 + x / 4 % 2 * 32) 1024 f0 f1
      have g1 := sd_hi (x / 4096 % 2 * 512 + x / 64 % 2 * 16 + x / 32 % 2 * 64 + x / 8 % 4 * 128 + x / 4 % 2 * 32) 1024 f0 f1
      clear e h hn
      go_enter Tryd.func45, Tryd.ntmps45
      go_wp2_with (first | (go_at_call 38; have c := at_11_7 x x0 x1 w; with_reducible refine c.mono ?_; rintro e' w1 ⟨rfl, rfl⟩) | (go_at_call 38; have c := at_12_12 x x0 x1 w; with_reducible refine c.mono ?_; rintro e' w1 ⟨rfl, rfl⟩) | (go_at_call 38; have c := at_6_6 x x0 x1 w; with_reducible refine c.mono ?_; rintro e' w1 ⟨rfl, rfl⟩) | (go_at_call 38; have c := at_5_5 x x0 x1 w; with_reducible refine c.mono ?_; rintro e' w1 ⟨rfl, rfl⟩) | (go_at_call 38; have c := at_4_3 x x0 x1 w; with_reducible refine c.mono ?_; rintro e' w1 ⟨rfl, rfl⟩) | (go_at_call 38; have c := at_2_2 x x0 x1 w; with_reducible refine c.mono ?_; rintro e' w1 ⟨rfl, rfl⟩) | (go_at_call 43; have c := sgd_10 (x / 4096 % 2 * 512 + x / 64 % 2 * 16 + x / 32 % 2 * 64 + x / 8 % 4 * 128 + x / 4 % 2 * 32) f0 f1 w; with_reducible refine c.mono ?_; rintro e' w1 ⟨rfl, rfl⟩) | (go_at_call 39; have c := dI_w 19 0 2 2 (sd (x / 4096 % 2 * 512 + x / 64 % 2 * 16 + x / 32 % 2 * 64 + x / 8 % 4 * 128 + x / 4 % 2 * 32) 1024) (by decide) (by decide) (by decide) (by decide) (by omega) (by omega) (by omega) (by omega) (by omega) (by omega) w; with_reducible refine c.mono ?_; rintro e' w1 ⟨rfl, rfl⟩))
      go_ret
      exact ⟨rfl, rfl⟩
  · have t0 : (x / 128 % 32 == 2) = false := by simpa using h
    by_cases hn : six x = 0
    · have hb : (six x == 0) = true := by simp [hn]
      have e : dUpper x = 0 := by unfold dUpper; rw [if_neg h, if_pos hn]
      rw [e]
      clear e h hn
      go_enter Tryd.func45, Tryd.ntmps45
      go_wp2_with (first | (go_at_call 38; have c := at_11_7 x x0 x1 w; with_reducible refine c.mono ?_; rintro e' w1 ⟨rfl, rfl⟩) | (go_at_call 44; have c := six_w x x0 x1 w; with_reducible refine c.mono ?_; rintro e' w1 ⟨rfl, rfl⟩))
      go_ret
      exact ⟨rfl, rfl⟩
    · have hb : (six x == 0) = false := by simpa using hn
      have e : dUpper x = 55 + x / 128 % 32 * 128 + sd (six x) 64 % 1048576 * 4096 := by unfold dUpper; rw [if_neg h, if_neg hn]
      rw [e]
      clear e h hn
      go_enter Tryd.func45, Tryd.ntmps45
      go_wp2_with (first | (go_at_call 38; have c := at_11_7 x x0 x1 w; with_reducible refine c.mono ?_; rintro e' w1 ⟨rfl, rfl⟩) | (go_at_call 44; have c := six_w x x0 x1 w; with_reducible refine c.mono ?_; rintro e' w1 ⟨rfl, rfl⟩) | (go_at_call 43; have c := sgd_6 (six x) sx0 sx1 w; with_reducible refine c.mono ?_; rintro e' w1 ⟨rfl, rfl⟩) | (go_at_call 81; have c := low_20 (sd (six x) 64) (by omega) (by omega) w; with_reducible refine c.mono ?_; rintro e' w1 ⟨rfl, rfl⟩))
      go_ret
      exact ⟨ret_int (by first | rfl | omega | (unfold wrap64; omega)), rfl⟩
set_option maxHeartbeats 1000000 in
theorem alu_w' (x : Int) (x0 : 0 ≤ x) (x1 : x < 65536) (w : World) :
    Calls Tryd.prog 46 #[.int .i64 x] w fun e w' => e = .returned (.int .i64 (dAlu x)) ∧ w = w' := by
  have sx0 := six_lo x
  have sx1 := six_hi x
  have sd0 := sd_lo (six x) 64 sx0 sx1
  have sd1 := sd_hi (six x) 64 sx0 sx1
  have wd0 := dwd_lo x
  have wd1 := dwd_hi x
  have lg0 := dlg_lo x
  have lg1 := dlg_hi x
  rcases (show x / 1024 % 4 = 0 ∨ x / 1024 % 4 = 1 ∨ x / 1024 % 4 = 2 ∨ x / 1024 % 4 = 3 by omega) with h | h | h | h
  · have e : dAlu x = dI 19 5 (8 + x / 128 % 8) (8 + x / 128 % 8) (six x) := by simp [dAlu, h]
    rw [e]
    clear e
    have Hh := Lib.hid h
    clear h
    go_enter Tryd.func46, Tryd.ntmps46
    go_wp2_with (first | (go_at_call 38; have c := at_9_7 x x0 x1 w; with_reducible refine c.mono ?_; rintro e' w1 ⟨rfl, rfl⟩) | (go_at_call 38; have c := at_4_2 x x0 x1 w; with_reducible refine c.mono ?_; rintro e' w1 ⟨rfl, rfl⟩) | (go_at_call 38; have c := at_11_10 x x0 x1 w; rw [Hh.out] at c; with_reducible refine c.mono ?_; rintro e' w1 ⟨rfl, rfl⟩) | (go_at_call 44; have c := six_w x x0 x1 w; with_reducible refine c.mono ?_; rintro e' w1 ⟨rfl, rfl⟩) | (go_at_call 39; have c := dI_w 19 5 (8 + x / 128 % 8) (8 + x / 128 % 8) (six x) (by decide) (by decide) (by decide) (by decide) (by omega) (by omega) (by omega) (by omega) (by omega) (by omega) w; with_reducible refine c.mono ?_; rintro e' w1 ⟨rfl, rfl⟩))
    go_ret
    exact ⟨rfl, rfl⟩
  · have e : dAlu x = dI 19 5 (8 + x / 128 % 8) (8 + x / 128 % 8) (1024 + six x) := by simp [dAlu, h]
    rw [e]
    clear e
    have Hh := Lib.hid h
    clear h
    go_enter Tryd.func46, Tryd.ntmps46
    go_wp2_with (first | (go_at_call 38; have c := at_9_7 x x0 x1 w; with_reducible refine c.mono ?_; rintro e' w1 ⟨rfl, rfl⟩) | (go_at_call 38; have c := at_4_2 x x0 x1 w; with_reducible refine c.mono ?_; rintro e' w1 ⟨rfl, rfl⟩) | (go_at_call 38; have c := at_11_10 x x0 x1 w; rw [Hh.out] at c; with_reducible refine c.mono ?_; rintro e' w1 ⟨rfl, rfl⟩) | (go_at_call 44; have c := six_w x x0 x1 w; with_reducible refine c.mono ?_; rintro e' w1 ⟨rfl, rfl⟩) | (go_at_call 39; have c := dI_w 19 5 (8 + x / 128 % 8) (8 + x / 128 % 8) (1024 + six x) (by decide) (by decide) (by decide) (by decide) (by omega) (by omega) (by omega) (by omega) (by omega) (by omega) w; with_reducible refine c.mono ?_; rintro e' w1 ⟨rfl, rfl⟩))
    go_ret
    exact ⟨rfl, rfl⟩
  · have e : dAlu x = dI 19 7 (8 + x / 128 % 8) (8 + x / 128 % 8) (sd (six x) 64) := by simp [dAlu, h]
    rw [e]
    clear e
    have Hh := Lib.hid h
    clear h
    go_enter Tryd.func46, Tryd.ntmps46
    go_wp2_with (first | (go_at_call 38; have c := at_9_7 x x0 x1 w; with_reducible refine c.mono ?_; rintro e' w1 ⟨rfl, rfl⟩) | (go_at_call 38; have c := at_4_2 x x0 x1 w; with_reducible refine c.mono ?_; rintro e' w1 ⟨rfl, rfl⟩) | (go_at_call 38; have c := at_11_10 x x0 x1 w; rw [Hh.out] at c; with_reducible refine c.mono ?_; rintro e' w1 ⟨rfl, rfl⟩) | (go_at_call 44; have c := six_w x x0 x1 w; with_reducible refine c.mono ?_; rintro e' w1 ⟨rfl, rfl⟩) | (go_at_call 43; have c := sgd_6 (six x) sx0 sx1 w; with_reducible refine c.mono ?_; rintro e' w1 ⟨rfl, rfl⟩) | (go_at_call 39; have c := dI_w 19 7 (8 + x / 128 % 8) (8 + x / 128 % 8) (sd (six x) 64) (by decide) (by decide) (by decide) (by decide) (by omega) (by omega) (by omega) (by omega) (by omega) (by omega) w; with_reducible refine c.mono ?_; rintro e' w1 ⟨rfl, rfl⟩))
    go_ret
    exact ⟨rfl, rfl⟩
  · rcases (show x / 4096 % 2 = 0 ∨ x / 4096 % 2 = 1 by omega) with h2 | h2 <;> rcases (show x / 32 % 4 = 0 ∨ x / 32 % 4 = 1 ∨ x / 32 % 4 = 2 ∨ x / 32 % 4 = 3 by omega) with h3 | h3 | h3 | h3
    · have e : dAlu x = dR 51 0 32 (8 + x / 128 % 8) (8 + x / 128 % 8) (8 + x / 4 % 8) := by simp [dAlu, h, h2, h3]
      rw [e]
      clear e
      have Hh := Lib.hid h
      have Hh2 := Lib.hid h2
      have Hh3 := Lib.hid h3
      clear h h2 h3
      go_enter Tryd.func46, Tryd.ntmps46
      go_wp2_with (first | (go_at_call 38; have c := at_9_7 x x0 x1 w; with_reducible refine c.mono ?_; rintro e' w1 ⟨rfl, rfl⟩) | (go_at_call 38; have c := at_4_2 x x0 x1 w; with_reducible refine c.mono ?_; rintro e' w1 ⟨rfl, rfl⟩) | (go_at_call 38; have c := at_11_10 x x0 x1 w; rw [Hh.out] at c; with_reducible refine c.mono ?_; rintro e' w1 ⟨rfl, rfl⟩) | (go_at_call 38; have c := at_12_12 x x0 x1 w; rw [Hh2.out] at c; with_reducible refine c.mono ?_; rintro e' w1 ⟨rfl, rfl⟩) | (go_at_call 38; have c := at_6_5 x x0 x1 w; rw [Hh3.out] at c; with_reducible refine c.mono ?_; rintro e' w1 ⟨rfl, rfl⟩) | (go_at_call 82; have c := dR_w 51 0 32 (8 + x / 128 % 8) (8 + x / 128 % 8) (8 + x / 4 % 8) (by decide) (by decide) (by decide) (by decide) (by omega) (by omega) (by omega) (by omega) (by omega) (by omega) (by decide) (by decide) w; with_reducible refine c.mono ?_; rintro e' w1 ⟨rfl, rfl⟩))
      go_ret
      exact ⟨rfl, rfl⟩
    · have e : dAlu x = dR 51 4 0 (8 + x / 128 % 8) (8 + x / 128 % 8) (8 + x / 4 % 8) := by simp [dAlu, h, h2, h3]
      rw [e]
      clear e
      have Hh := Lib.hid h
      have Hh2 := Lib.hid h2
      have Hh3 := Lib.hid h3
      clear h h2 h3
      go_enter Tryd.func46, Tryd.ntmps46
      go_wp2_with (first | (go_at_call 38; have c := at_9_7 x x0 x1 w; with_reducible refine c.mono ?_; rintro e' w1 ⟨rfl, rfl⟩) | (go_at_call 38; have c := at_4_2 x x0 x1 w; with_reducible refine c.mono ?_; rintro e' w1 ⟨rfl, rfl⟩) | (go_at_call 38; have c := at_11_10 x x0 x1 w; rw [Hh.out] at c; with_reducible refine c.mono ?_; rintro e' w1 ⟨rfl, rfl⟩) | (go_at_call 38; have c := at_12_12 x x0 x1 w; rw [Hh2.out] at c; with_reducible refine c.mono ?_; rintro e' w1 ⟨rfl, rfl⟩) | (go_at_call 38; have c := at_6_5 x x0 x1 w; rw [Hh3.out] at c; with_reducible refine c.mono ?_; rintro e' w1 ⟨rfl, rfl⟩) | (go_at_call 82; have c := dR_w 51 4 0 (8 + x / 128 % 8) (8 + x / 128 % 8) (8 + x / 4 % 8) (by decide) (by decide) (by decide) (by decide) (by omega) (by omega) (by omega) (by omega) (by omega) (by omega) (by decide) (by decide) w; with_reducible refine c.mono ?_; rintro e' w1 ⟨rfl, rfl⟩))
      go_ret
      exact ⟨rfl, rfl⟩
    · have e : dAlu x = dR 51 6 0 (8 + x / 128 % 8) (8 + x / 128 % 8) (8 + x / 4 % 8) := by simp [dAlu, h, h2, h3]
      rw [e]
      clear e
      have Hh := Lib.hid h
      have Hh2 := Lib.hid h2
      have Hh3 := Lib.hid h3
      clear h h2 h3
      go_enter Tryd.func46, Tryd.ntmps46
      go_wp2_with (first | (go_at_call 38; have c := at_9_7 x x0 x1 w; with_reducible refine c.mono ?_; rintro e' w1 ⟨rfl, rfl⟩) | (go_at_call 38; have c := at_4_2 x x0 x1 w; with_reducible refine c.mono ?_; rintro e' w1 ⟨rfl, rfl⟩) | (go_at_call 38; have c := at_11_10 x x0 x1 w; rw [Hh.out] at c; with_reducible refine c.mono ?_; rintro e' w1 ⟨rfl, rfl⟩) | (go_at_call 38; have c := at_12_12 x x0 x1 w; rw [Hh2.out] at c; with_reducible refine c.mono ?_; rintro e' w1 ⟨rfl, rfl⟩) | (go_at_call 38; have c := at_6_5 x x0 x1 w; rw [Hh3.out] at c; with_reducible refine c.mono ?_; rintro e' w1 ⟨rfl, rfl⟩) | (go_at_call 82; have c := dR_w 51 6 0 (8 + x / 128 % 8) (8 + x / 128 % 8) (8 + x / 4 % 8) (by decide) (by decide) (by decide) (by decide) (by omega) (by omega) (by omega) (by omega) (by omega) (by omega) (by decide) (by decide) w; with_reducible refine c.mono ?_; rintro e' w1 ⟨rfl, rfl⟩))
      go_ret
      exact ⟨rfl, rfl⟩
    · have e : dAlu x = dR 51 7 0 (8 + x / 128 % 8) (8 + x / 128 % 8) (8 + x / 4 % 8) := by simp [dAlu, h, h2, h3]
      rw [e]
      clear e
      have Hh := Lib.hid h
      have Hh2 := Lib.hid h2
      have Hh3 := Lib.hid h3
      clear h h2 h3
      go_enter Tryd.func46, Tryd.ntmps46
      go_wp2_with (first | (go_at_call 38; have c := at_9_7 x x0 x1 w; with_reducible refine c.mono ?_; rintro e' w1 ⟨rfl, rfl⟩) | (go_at_call 38; have c := at_4_2 x x0 x1 w; with_reducible refine c.mono ?_; rintro e' w1 ⟨rfl, rfl⟩) | (go_at_call 38; have c := at_11_10 x x0 x1 w; rw [Hh.out] at c; with_reducible refine c.mono ?_; rintro e' w1 ⟨rfl, rfl⟩) | (go_at_call 38; have c := at_12_12 x x0 x1 w; rw [Hh2.out] at c; with_reducible refine c.mono ?_; rintro e' w1 ⟨rfl, rfl⟩) | (go_at_call 38; have c := at_6_5 x x0 x1 w; rw [Hh3.out] at c; with_reducible refine c.mono ?_; rintro e' w1 ⟨rfl, rfl⟩) | (go_at_call 82; have c := dR_w 51 7 0 (8 + x / 128 % 8) (8 + x / 128 % 8) (8 + x / 4 % 8) (by decide) (by decide) (by decide) (by decide) (by omega) (by omega) (by omega) (by omega) (by omega) (by omega) (by decide) (by decide) w; with_reducible refine c.mono ?_; rintro e' w1 ⟨rfl, rfl⟩))
      go_ret
      exact ⟨rfl, rfl⟩
    · have e : dAlu x = dR 59 0 32 (8 + x / 128 % 8) (8 + x / 128 % 8) (8 + x / 4 % 8) := by simp [dAlu, h, h2, h3]
      rw [e]
      clear e
      have Hh := Lib.hid h
      have Hh2 := Lib.hid h2
      have Hh3 := Lib.hid h3
      clear h h2 h3
      go_enter Tryd.func46, Tryd.ntmps46
      go_wp2_with (first | (go_at_call 38; have c := at_9_7 x x0 x1 w; with_reducible refine c.mono ?_; rintro e' w1 ⟨rfl, rfl⟩) | (go_at_call 38; have c := at_4_2 x x0 x1 w; with_reducible refine c.mono ?_; rintro e' w1 ⟨rfl, rfl⟩) | (go_at_call 38; have c := at_11_10 x x0 x1 w; rw [Hh.out] at c; with_reducible refine c.mono ?_; rintro e' w1 ⟨rfl, rfl⟩) | (go_at_call 38; have c := at_12_12 x x0 x1 w; rw [Hh2.out] at c; with_reducible refine c.mono ?_; rintro e' w1 ⟨rfl, rfl⟩) | (go_at_call 38; have c := at_6_5 x x0 x1 w; rw [Hh3.out] at c; with_reducible refine c.mono ?_; rintro e' w1 ⟨rfl, rfl⟩) | (go_at_call 82; have c := dR_w 59 0 32 (8 + x / 128 % 8) (8 + x / 128 % 8) (8 + x / 4 % 8) (by decide) (by decide) (by decide) (by decide) (by omega) (by omega) (by omega) (by omega) (by omega) (by omega) (by decide) (by decide) w; with_reducible refine c.mono ?_; rintro e' w1 ⟨rfl, rfl⟩))
      go_ret
      exact ⟨rfl, rfl⟩
    · have e : dAlu x = dR 59 0 0 (8 + x / 128 % 8) (8 + x / 128 % 8) (8 + x / 4 % 8) := by simp [dAlu, h, h2, h3]
      rw [e]
      clear e
      have Hh := Lib.hid h
      have Hh2 := Lib.hid h2
      have Hh3 := Lib.hid h3
      clear h h2 h3
      go_enter Tryd.func46, Tryd.ntmps46
      go_wp2_with (first | (go_at_call 38; have c := at_9_7 x x0 x1 w; with_reducible refine c.mono ?_; rintro e' w1 ⟨rfl, rfl⟩) | (go_at_call 38; have c := at_4_2 x x0 x1 w; with_reducible refine c.mono ?_; rintro e' w1 ⟨rfl, rfl⟩) | (go_at_call 38; have c := at_11_10 x x0 x1 w; rw [Hh.out] at c; with_reducible refine c.mono ?_; rintro e' w1 ⟨rfl, rfl⟩) | (go_at_call 38; have c := at_12_12 x x0 x1 w; rw [Hh2.out] at c; with_reducible refine c.mono ?_; rintro e' w1 ⟨rfl, rfl⟩) | (go_at_call 38; have c := at_6_5 x x0 x1 w; rw [Hh3.out] at c; with_reducible refine c.mono ?_; rintro e' w1 ⟨rfl, rfl⟩) | (go_at_call 82; have c := dR_w 59 0 0 (8 + x / 128 % 8) (8 + x / 128 % 8) (8 + x / 4 % 8) (by decide) (by decide) (by decide) (by decide) (by omega) (by omega) (by omega) (by omega) (by omega) (by omega) (by decide) (by decide) w; with_reducible refine c.mono ?_; rintro e' w1 ⟨rfl, rfl⟩))
      go_ret
      exact ⟨rfl, rfl⟩
    · have e : dAlu x = 0 := by simp [dAlu, h, h2, h3]
      rw [e]
      clear e
      have Hh := Lib.hid h
      have Hh2 := Lib.hid h2
      have Hh3 := Lib.hid h3
      clear h h2 h3
      go_enter Tryd.func46, Tryd.ntmps46
      go_wp2_with (first | (go_at_call 38; have c := at_9_7 x x0 x1 w; with_reducible refine c.mono ?_; rintro e' w1 ⟨rfl, rfl⟩) | (go_at_call 38; have c := at_4_2 x x0 x1 w; with_reducible refine c.mono ?_; rintro e' w1 ⟨rfl, rfl⟩) | (go_at_call 38; have c := at_11_10 x x0 x1 w; rw [Hh.out] at c; with_reducible refine c.mono ?_; rintro e' w1 ⟨rfl, rfl⟩) | (go_at_call 38; have c := at_12_12 x x0 x1 w; rw [Hh2.out] at c; with_reducible refine c.mono ?_; rintro e' w1 ⟨rfl, rfl⟩) | (go_at_call 38; have c := at_6_5 x x0 x1 w; rw [Hh3.out] at c; with_reducible refine c.mono ?_; rintro e' w1 ⟨rfl, rfl⟩))
      go_ret
      exact ⟨rfl, rfl⟩
    · have e : dAlu x = 0 := by simp [dAlu, h, h2, h3]
      rw [e]
      clear e
      have Hh := Lib.hid h
      have Hh2 := Lib.hid h2
      have Hh3 := Lib.hid h3
      clear h h2 h3
      go_enter Tryd.func46, Tryd.ntmps46
      go_wp2_with (first | (go_at_call 38; have c := at_9_7 x x0 x1 w; with_reducible refine c.mono ?_; rintro e' w1 ⟨rfl, rfl⟩) | (go_at_call 38; have c := at_4_2 x x0 x1 w; with_reducible refine c.mono ?_; rintro e' w1 ⟨rfl, rfl⟩) | (go_at_call 38; have c := at_11_10 x x0 x1 w; rw [Hh.out] at c; with_reducible refine c.mono ?_; rintro e' w1 ⟨rfl, rfl⟩) | (go_at_call 38; have c := at_12_12 x x0 x1 w; rw [Hh2.out] at c; with_reducible refine c.mono ?_; rintro e' w1 ⟨rfl, rfl⟩) | (go_at_call 38; have c := at_6_5 x x0 x1 w; rw [Hh3.out] at c; with_reducible refine c.mono ?_; rintro e' w1 ⟨rfl, rfl⟩))
      go_ret
      exact ⟨rfl, rfl⟩
set_option maxHeartbeats 1000000 in
theorem moves_w (x : Int) (x0 : 0 ≤ x) (x1 : x < 65536) (w : World) :
    Calls Tryd.prog 49 #[.int .i64 x] w fun e w' => e = .returned (.int .i64 (dMoves x)) ∧ w = w' := by
  have sx0 := six_lo x
  have sx1 := six_hi x
  have sd0 := sd_lo (six x) 64 sx0 sx1
  have sd1 := sd_hi (six x) 64 sx0 sx1
  have wd0 := dwd_lo x
  have wd1 := dwd_hi x
  have lg0 := dlg_lo x
  have lg1 := dlg_hi x
  rcases (show x / 4096 % 2 = 0 ∨ x / 4096 % 2 = 1 by omega) with h | h <;> by_cases h2 : x / 4 % 32 = 0 <;> by_cases h3 : x / 128 % 32 = 0
  · have e : dMoves x = 0 := by simp [dMoves, h, h2, h3]
    have t1 : (x / 4 % 32 != 0) = false := by simp [h2]
    have t2 : (x / 128 % 32 == 0) = true := by simp [h3]
    rw [e]
    have Hh := Lib.hid h
    clear e h h2 h3
    go_enter Tryd.func49, Tryd.ntmps49
    go_wp2_with (first | (go_at_call 38; have c := at_11_7 x x0 x1 w; with_reducible refine c.mono ?_; rintro e' w1 ⟨rfl, rfl⟩) | (go_at_call 38; have c := at_6_2 x x0 x1 w; with_reducible refine c.mono ?_; rintro e' w1 ⟨rfl, rfl⟩) | (go_at_call 38; have c := at_12_12 x x0 x1 w; rw [Hh.out] at c; with_reducible refine c.mono ?_; rintro e' w1 ⟨rfl, rfl⟩))
    go_ret
    exact ⟨rfl, rfl⟩
  · have e : dMoves x = dI 103 0 0 (x / 128 % 32) 0 := by simp [dMoves, h, h2, h3]
    have t1 : (x / 4 % 32 != 0) = false := by simp [h2]
    have t2 : (x / 128 % 32 == 0) = false := by simp [h3]
    rw [e]
    have Hh := Lib.hid h
    clear e h h2 h3
    go_enter Tryd.func49, Tryd.ntmps49
    go_wp2_with (first | (go_at_call 38; have c := at_11_7 x x0 x1 w; with_reducible refine c.mono ?_; rintro e' w1 ⟨rfl, rfl⟩) | (go_at_call 38; have c := at_6_2 x x0 x1 w; with_reducible refine c.mono ?_; rintro e' w1 ⟨rfl, rfl⟩) | (go_at_call 38; have c := at_12_12 x x0 x1 w; rw [Hh.out] at c; with_reducible refine c.mono ?_; rintro e' w1 ⟨rfl, rfl⟩) | (go_at_call 39; have c := dI_w 103 0 0 (x / 128 % 32) 0 (by decide) (by decide) (by decide) (by decide) (by omega) (by omega) (by omega) (by omega) (by decide) (by decide) w; with_reducible refine c.mono ?_; rintro e' w1 ⟨rfl, rfl⟩))
    go_ret
    exact ⟨rfl, rfl⟩
  · have e : dMoves x = dR 51 0 0 (x / 128 % 32) 0 (x / 4 % 32) := by simp [dMoves, h, h2, h3]
    have t1 : (x / 4 % 32 != 0) = true := by simp [h2]
    have t2 : (x / 128 % 32 == 0) = true := by simp [h3]
    rw [e]
    have Hh := Lib.hid h
    clear e h h2 h3
    go_enter Tryd.func49, Tryd.ntmps49
    go_wp2_with (first | (go_at_call 38; have c := at_11_7 x x0 x1 w; with_reducible refine c.mono ?_; rintro e' w1 ⟨rfl, rfl⟩) | (go_at_call 38; have c := at_6_2 x x0 x1 w; with_reducible refine c.mono ?_; rintro e' w1 ⟨rfl, rfl⟩) | (go_at_call 38; have c := at_12_12 x x0 x1 w; rw [Hh.out] at c; with_reducible refine c.mono ?_; rintro e' w1 ⟨rfl, rfl⟩) | (go_at_call 82; have c := dR_w 51 0 0 (x / 128 % 32) 0 (x / 4 % 32) (by decide) (by decide) (by decide) (by decide) (by omega) (by omega) (by omega) (by omega) (by omega) (by omega) (by decide) (by decide) w; with_reducible refine c.mono ?_; rintro e' w1 ⟨rfl, rfl⟩))
    go_ret
    exact ⟨rfl, rfl⟩
  · have e : dMoves x = dR 51 0 0 (x / 128 % 32) 0 (x / 4 % 32) := by simp [dMoves, h, h2, h3]
    have t1 : (x / 4 % 32 != 0) = true := by simp [h2]
    have t2 : (x / 128 % 32 == 0) = false := by simp [h3]
    rw [e]
    have Hh := Lib.hid h
    clear e h h2 h3
    go_enter Tryd.func49, Tryd.ntmps49
    go_wp2_with (first | (go_at_call 38; have c := at_11_7 x x0 x1 w; with_reducible refine c.mono ?_; rintro e' w1 ⟨rfl, rfl⟩) | (go_at_call 38; have c := at_6_2 x x0 x1 w; with_reducible refine c.mono ?_; rintro e' w1 ⟨rfl, rfl⟩) | (go_at_call 38; have c := at_12_12 x x0 x1 w; rw [Hh.out] at c; with_reducible refine c.mono ?_; rintro e' w1 ⟨rfl, rfl⟩) | (go_at_call 82; have c := dR_w 51 0 0 (x / 128 % 32) 0 (x / 4 % 32) (by decide) (by decide) (by decide) (by decide) (by omega) (by omega) (by omega) (by omega) (by omega) (by omega) (by decide) (by decide) w; with_reducible refine c.mono ?_; rintro e' w1 ⟨rfl, rfl⟩))
    go_ret
    exact ⟨rfl, rfl⟩
  · have e : dMoves x = 1048691 := by simp [dMoves, h, h2, h3]
    have t1 : (x / 4 % 32 != 0) = false := by simp [h2]
    have t2 : (x / 128 % 32 == 0) = true := by simp [h3]
    rw [e]
    have Hh := Lib.hid h
    clear e h h2 h3
    go_enter Tryd.func49, Tryd.ntmps49
    go_wp2_with (first | (go_at_call 38; have c := at_11_7 x x0 x1 w; with_reducible refine c.mono ?_; rintro e' w1 ⟨rfl, rfl⟩) | (go_at_call 38; have c := at_6_2 x x0 x1 w; with_reducible refine c.mono ?_; rintro e' w1 ⟨rfl, rfl⟩) | (go_at_call 38; have c := at_12_12 x x0 x1 w; rw [Hh.out] at c; with_reducible refine c.mono ?_; rintro e' w1 ⟨rfl, rfl⟩))
    go_ret
    exact ⟨rfl, rfl⟩
  · have e : dMoves x = dI 103 0 1 (x / 128 % 32) 0 := by simp [dMoves, h, h2, h3]
    have t1 : (x / 4 % 32 != 0) = false := by simp [h2]
    have t2 : (x / 128 % 32 == 0) = false := by simp [h3]
    rw [e]
    have Hh := Lib.hid h
    clear e h h2 h3
    go_enter Tryd.func49, Tryd.ntmps49
    go_wp2_with (first | (go_at_call 38; have c := at_11_7 x x0 x1 w; with_reducible refine c.mono ?_; rintro e' w1 ⟨rfl, rfl⟩) | (go_at_call 38; have c := at_6_2 x x0 x1 w; with_reducible refine c.mono ?_; rintro e' w1 ⟨rfl, rfl⟩) | (go_at_call 38; have c := at_12_12 x x0 x1 w; rw [Hh.out] at c; with_reducible refine c.mono ?_; rintro e' w1 ⟨rfl, rfl⟩) | (go_at_call 39; have c := dI_w 103 0 1 (x / 128 % 32) 0 (by decide) (by decide) (by decide) (by decide) (by omega) (by omega) (by omega) (by omega) (by decide) (by decide) w; with_reducible refine c.mono ?_; rintro e' w1 ⟨rfl, rfl⟩))
    go_ret
    exact ⟨rfl, rfl⟩
  · have e : dMoves x = dR 51 0 0 (x / 128 % 32) (x / 128 % 32) (x / 4 % 32) := by simp [dMoves, h, h2, h3]
    have t1 : (x / 4 % 32 != 0) = true := by simp [h2]
    have t2 : (x / 128 % 32 == 0) = true := by simp [h3]
    rw [e]
    have Hh := Lib.hid h
    clear e h h2 h3
    go_enter Tryd.func49, Tryd.ntmps49
    go_wp2_with (first | (go_at_call 38; have c := at_11_7 x x0 x1 w; with_reducible refine c.mono ?_; rintro e' w1 ⟨rfl, rfl⟩) | (go_at_call 38; have c := at_6_2 x x0 x1 w; with_reducible refine c.mono ?_; rintro e' w1 ⟨rfl, rfl⟩) | (go_at_call 38; have c := at_12_12 x x0 x1 w; rw [Hh.out] at c; with_reducible refine c.mono ?_; rintro e' w1 ⟨rfl, rfl⟩) | (go_at_call 82; have c := dR_w 51 0 0 (x / 128 % 32) (x / 128 % 32) (x / 4 % 32) (by decide) (by decide) (by decide) (by decide) (by omega) (by omega) (by omega) (by omega) (by omega) (by omega) (by decide) (by decide) w; with_reducible refine c.mono ?_; rintro e' w1 ⟨rfl, rfl⟩))
    go_ret
    exact ⟨rfl, rfl⟩
  · have e : dMoves x = dR 51 0 0 (x / 128 % 32) (x / 128 % 32) (x / 4 % 32) := by simp [dMoves, h, h2, h3]
    have t1 : (x / 4 % 32 != 0) = true := by simp [h2]
    have t2 : (x / 128 % 32 == 0) = false := by simp [h3]
    rw [e]
    have Hh := Lib.hid h
    clear e h h2 h3
    go_enter Tryd.func49, Tryd.ntmps49
    go_wp2_with (first | (go_at_call 38; have c := at_11_7 x x0 x1 w; with_reducible refine c.mono ?_; rintro e' w1 ⟨rfl, rfl⟩) | (go_at_call 38; have c := at_6_2 x x0 x1 w; with_reducible refine c.mono ?_; rintro e' w1 ⟨rfl, rfl⟩) | (go_at_call 38; have c := at_12_12 x x0 x1 w; rw [Hh.out] at c; with_reducible refine c.mono ?_; rintro e' w1 ⟨rfl, rfl⟩) | (go_at_call 82; have c := dR_w 51 0 0 (x / 128 % 32) (x / 128 % 32) (x / 4 % 32) (by decide) (by decide) (by decide) (by decide) (by omega) (by omega) (by omega) (by omega) (by omega) (by omega) (by decide) (by decide) w; with_reducible refine c.mono ?_; rintro e' w1 ⟨rfl, rfl⟩))
    go_ret
    exact ⟨rfl, rfl⟩
end Go.Proofs.YtagoeceaobikaaaDoor
