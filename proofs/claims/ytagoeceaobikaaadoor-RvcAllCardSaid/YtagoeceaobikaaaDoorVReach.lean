/-
  RvcReach: how far what halves stand for reaches. No condition but what the tables hold.
-/
import Derived.Test.YtagoeceaobikaaaDoorVLaw
import Derived.Test.YtagoeceaobikaaaDoorILaw
import Derived.Test.YtagoeceaobikaaaDoorCAt
namespace Go.Proofs.YtagoeceaobikaaaDoor
open Go.ChangeShapes Go.WideShapes Go.ChangeAt Go.RowKit
set_option linter.unusedVariables false
set_option linter.unusedSimpArgs false
set_option maxHeartbeats 4000000 in
theorem reach_n (x : Nat) (hx : x < 65536) (h : ex x = none) (w : World) (tb : Tb w) :
    Calls Tryd.prog 5 #[.int .u16 (x : Int)] w fun e w' => e = .returned (.bool true) ∧ Kp w w' := by
  have TB := Lib.hid tb
  have EX := Lib.hid h
  clear tb h
  go_enter Tryd.func5, Tryd.ntmps5
  go_wp2_with (first | (go_at_call 9; (with_reducible refine (expand_n x hx  EX.out _ TB.out).mono ?_); rintro e' w1 ⟨rfl, qk⟩; have HK1 := Lib.hid qk; have TB1 := Lib.hid (Tb.kp TB.out qk); clear qk) | (go_at_call 11; (with_reducible refine (works_w _ TB1.out).mono ?_); rintro e' w2 ⟨rfl, qk⟩; have HK2 := Lib.hid qk; clear qk))
  go_ret
  exact ⟨rfl, HK1.out.trans HK2.out⟩
set_option maxHeartbeats 4000000 in
theorem reach_6_2a (x : Nat) (hx : x < 65536) (v : Nat) (h : ex x = some v) (v1 : v < 4294967296) (fn rd r1 r2 imm : Int) (wo us : Bool) (hi : spec v = some ⟨6, fn, rd, r1, r2, imm, 2, wo, us⟩) (a0 : 8 ≤ r1) (a1 : r1 ≤ 15) (i1 : imm ≤ 248) (i0 : 0 ≤ imm) (im : imm % 4 = 0) (w : World) (tb : Tb w) :
    Calls Tryd.prog 5 #[.int .u16 (x : Int)] w fun e w' => e = .returned (.bool true) ∧ Kp w w' := by
  have TB := Lib.hid tb
  have EX := Lib.hid h
  have HI := Lib.hid hi
  clear tb h hi
  have t0 : (decide (8 ≤ r1)) = true := by simp; omega
  have t1 : (decide (r1 ≤ 15)) = true := by simp; omega
  have t2 : (decide (imm ≤ 248)) = true := by simp; omega
  have t3 : (decide (0 ≤ imm)) = true := by simp; omega
  have tm : (imm.tmod 4 == 0) = true := by rw [Int.tmod_eq_emod_of_nonneg (by omega)]; simp; omega
  clear a0 a1 i1 i0 im
  go_enter Tryd.func5, Tryd.ntmps5
  go_wp2_with (first | (go_at_call 9; (with_reducible refine (expand_s x hx v EX.out _ TB.out).mono ?_); rintro e' w1 ⟨rfl, qk⟩; have HK1 := Lib.hid qk; have TB1 := Lib.hid (Tb.kp TB.out qk); clear qk) | (go_at_call 12; (with_reducible refine (decode_at v (by omega) (by omega) _ HI.out _).mono ?_); rintro e' w2 ⟨rfl, qk⟩; have HK2 := Lib.hid qk; dsimp only [decV, Ins.v]; have TB2 := Lib.hid (Tb.kp TB1.out qk); clear qk) | (go_at_call 11; (with_reducible refine (works_w _ (TB2.out.kp ((Kp.refl _).allocs _ _))).mono ?_); rintro e' w3 ⟨rfl, qk⟩; have HK3 := Lib.hid qk; clear qk))
  go_ret
  exact ⟨rfl, ((HK1.out.trans HK2.out).allocs _ _).trans HK3.out⟩
set_option maxHeartbeats 4000000 in
theorem reach_6_2b (x : Nat) (hx : x < 65536) (v : Nat) (h : ex x = some v) (v1 : v < 4294967296) (fn rd r2 imm : Int) (wo us : Bool) (hi : spec v = some ⟨6, fn, rd, 2, r2, imm, 2, wo, us⟩) (i1 : imm ≤ 504) (i0 : 0 ≤ imm) (im : imm % 4 = 0) (w : World) (tb : Tb w) :
    Calls Tryd.prog 5 #[.int .u16 (x : Int)] w fun e w' => e = .returned (.bool true) ∧ Kp w w' := by
  have TB := Lib.hid tb
  have EX := Lib.hid h
  have HI := Lib.hid hi
  clear tb h hi
  have t2 : (decide (imm ≤ 504)) = true := by simp; omega
  have t3 : (decide (0 ≤ imm)) = true := by simp; omega
  have tm : (imm.tmod 4 == 0) = true := by rw [Int.tmod_eq_emod_of_nonneg (by omega)]; simp; omega
  clear i1 i0 im
  go_enter Tryd.func5, Tryd.ntmps5
  go_wp2_with (first | (go_at_call 9; (with_reducible refine (expand_s x hx v EX.out _ TB.out).mono ?_); rintro e' w1 ⟨rfl, qk⟩; have HK1 := Lib.hid qk; have TB1 := Lib.hid (Tb.kp TB.out qk); clear qk) | (go_at_call 12; (with_reducible refine (decode_at v (by omega) (by omega) _ HI.out _).mono ?_); rintro e' w2 ⟨rfl, qk⟩; have HK2 := Lib.hid qk; dsimp only [decV, Ins.v]; have TB2 := Lib.hid (Tb.kp TB1.out qk); clear qk) | (go_at_call 11; (with_reducible refine (works_w _ (TB2.out.kp ((Kp.refl _).allocs _ _))).mono ?_); rintro e' w3 ⟨rfl, qk⟩; have HK3 := Lib.hid qk; clear qk))
  go_ret
  exact ⟨rfl, ((HK1.out.trans HK2.out).allocs _ _).trans HK3.out⟩
set_option maxHeartbeats 4000000 in
theorem reach_6_3a (x : Nat) (hx : x < 65536) (v : Nat) (h : ex x = some v) (v1 : v < 4294967296) (fn rd r1 r2 imm : Int) (wo us : Bool) (hi : spec v = some ⟨6, fn, rd, r1, r2, imm, 3, wo, us⟩) (a0 : 8 ≤ r1) (a1 : r1 ≤ 15) (i1 : imm ≤ 248) (i0 : 0 ≤ imm) (im : imm % 8 = 0) (w : World) (tb : Tb w) :
    Calls Tryd.prog 5 #[.int .u16 (x : Int)] w fun e w' => e = .returned (.bool true) ∧ Kp w w' := by
  have TB := Lib.hid tb
  have EX := Lib.hid h
  have HI := Lib.hid hi
  clear tb h hi
  have t0 : (decide (8 ≤ r1)) = true := by simp; omega
  have t1 : (decide (r1 ≤ 15)) = true := by simp; omega
  have t2 : (decide (imm ≤ 248)) = true := by simp; omega
  have t3 : (decide (0 ≤ imm)) = true := by simp; omega
  have tm : (imm.tmod 8 == 0) = true := by rw [Int.tmod_eq_emod_of_nonneg (by omega)]; simp; omega
  clear a0 a1 i1 i0 im
  go_enter Tryd.func5, Tryd.ntmps5
  go_wp2_with (first | (go_at_call 9; (with_reducible refine (expand_s x hx v EX.out _ TB.out).mono ?_); rintro e' w1 ⟨rfl, qk⟩; have HK1 := Lib.hid qk; have TB1 := Lib.hid (Tb.kp TB.out qk); clear qk) | (go_at_call 12; (with_reducible refine (decode_at v (by omega) (by omega) _ HI.out _).mono ?_); rintro e' w2 ⟨rfl, qk⟩; have HK2 := Lib.hid qk; dsimp only [decV, Ins.v]; have TB2 := Lib.hid (Tb.kp TB1.out qk); clear qk) | (go_at_call 11; (with_reducible refine (works_w _ (TB2.out.kp ((Kp.refl _).allocs _ _))).mono ?_); rintro e' w3 ⟨rfl, qk⟩; have HK3 := Lib.hid qk; clear qk))
  go_ret
  exact ⟨rfl, ((HK1.out.trans HK2.out).allocs _ _).trans HK3.out⟩
set_option maxHeartbeats 4000000 in
theorem reach_6_3b (x : Nat) (hx : x < 65536) (v : Nat) (h : ex x = some v) (v1 : v < 4294967296) (fn rd r2 imm : Int) (wo us : Bool) (hi : spec v = some ⟨6, fn, rd, 2, r2, imm, 3, wo, us⟩) (i1 : imm ≤ 504) (i0 : 0 ≤ imm) (im : imm % 8 = 0) (w : World) (tb : Tb w) :
    Calls Tryd.prog 5 #[.int .u16 (x : Int)] w fun e w' => e = .returned (.bool true) ∧ Kp w w' := by
  have TB := Lib.hid tb
  have EX := Lib.hid h
  have HI := Lib.hid hi
  clear tb h hi
  have t2 : (decide (imm ≤ 504)) = true := by simp; omega
  have t3 : (decide (0 ≤ imm)) = true := by simp; omega
  have tm : (imm.tmod 8 == 0) = true := by rw [Int.tmod_eq_emod_of_nonneg (by omega)]; simp; omega
  clear i1 i0 im
  go_enter Tryd.func5, Tryd.ntmps5
  go_wp2_with (first | (go_at_call 9; (with_reducible refine (expand_s x hx v EX.out _ TB.out).mono ?_); rintro e' w1 ⟨rfl, qk⟩; have HK1 := Lib.hid qk; have TB1 := Lib.hid (Tb.kp TB.out qk); clear qk) | (go_at_call 12; (with_reducible refine (decode_at v (by omega) (by omega) _ HI.out _).mono ?_); rintro e' w2 ⟨rfl, qk⟩; have HK2 := Lib.hid qk; dsimp only [decV, Ins.v]; have TB2 := Lib.hid (Tb.kp TB1.out qk); clear qk) | (go_at_call 11; (with_reducible refine (works_w _ (TB2.out.kp ((Kp.refl _).allocs _ _))).mono ?_); rintro e' w3 ⟨rfl, qk⟩; have HK3 := Lib.hid qk; clear qk))
  go_ret
  exact ⟨rfl, ((HK1.out.trans HK2.out).allocs _ _).trans HK3.out⟩
set_option maxHeartbeats 4000000 in
theorem reach_7_2a (x : Nat) (hx : x < 65536) (v : Nat) (h : ex x = some v) (v1 : v < 4294967296) (fn rd r1 r2 imm : Int) (wo us : Bool) (hi : spec v = some ⟨7, fn, rd, r1, r2, imm, 2, wo, us⟩) (a0 : 8 ≤ r1) (a1 : r1 ≤ 15) (i1 : imm ≤ 248) (i0 : 0 ≤ imm) (im : imm % 4 = 0) (w : World) (tb : Tb w) :
    Calls Tryd.prog 5 #[.int .u16 (x : Int)] w fun e w' => e = .returned (.bool true) ∧ Kp w w' := by
  have TB := Lib.hid tb
  have EX := Lib.hid h
  have HI := Lib.hid hi
  clear tb h hi
  have t0 : (decide (8 ≤ r1)) = true := by simp; omega
  have t1 : (decide (r1 ≤ 15)) = true := by simp; omega
  have t2 : (decide (imm ≤ 248)) = true := by simp; omega
  have t3 : (decide (0 ≤ imm)) = true := by simp; omega
  have tm : (imm.tmod 4 == 0) = true := by rw [Int.tmod_eq_emod_of_nonneg (by omega)]; simp; omega
  clear a0 a1 i1 i0 im
  go_enter Tryd.func5, Tryd.ntmps5
  go_wp2_with (first | (go_at_call 9; (with_reducible refine (expand_s x hx v EX.out _ TB.out).mono ?_); rintro e' w1 ⟨rfl, qk⟩; have HK1 := Lib.hid qk; have TB1 := Lib.hid (Tb.kp TB.out qk); clear qk) | (go_at_call 12; (with_reducible refine (decode_at v (by omega) (by omega) _ HI.out _).mono ?_); rintro e' w2 ⟨rfl, qk⟩; have HK2 := Lib.hid qk; dsimp only [decV, Ins.v]; have TB2 := Lib.hid (Tb.kp TB1.out qk); clear qk) | (go_at_call 11; (with_reducible refine (works_w _ (TB2.out.kp ((Kp.refl _).allocs _ _))).mono ?_); rintro e' w3 ⟨rfl, qk⟩; have HK3 := Lib.hid qk; clear qk))
  go_ret
  exact ⟨rfl, ((HK1.out.trans HK2.out).allocs _ _).trans HK3.out⟩
set_option maxHeartbeats 4000000 in
theorem reach_7_2b (x : Nat) (hx : x < 65536) (v : Nat) (h : ex x = some v) (v1 : v < 4294967296) (fn rd r2 imm : Int) (wo us : Bool) (hi : spec v = some ⟨7, fn, rd, 2, r2, imm, 2, wo, us⟩) (i1 : imm ≤ 504) (i0 : 0 ≤ imm) (im : imm % 4 = 0) (w : World) (tb : Tb w) :
    Calls Tryd.prog 5 #[.int .u16 (x : Int)] w fun e w' => e = .returned (.bool true) ∧ Kp w w' := by
  have TB := Lib.hid tb
  have EX := Lib.hid h
  have HI := Lib.hid hi
  clear tb h hi
  have t2 : (decide (imm ≤ 504)) = true := by simp; omega
  have t3 : (decide (0 ≤ imm)) = true := by simp; omega
  have tm : (imm.tmod 4 == 0) = true := by rw [Int.tmod_eq_emod_of_nonneg (by omega)]; simp; omega
  clear i1 i0 im
  go_enter Tryd.func5, Tryd.ntmps5
  go_wp2_with (first | (go_at_call 9; (with_reducible refine (expand_s x hx v EX.out _ TB.out).mono ?_); rintro e' w1 ⟨rfl, qk⟩; have HK1 := Lib.hid qk; have TB1 := Lib.hid (Tb.kp TB.out qk); clear qk) | (go_at_call 12; (with_reducible refine (decode_at v (by omega) (by omega) _ HI.out _).mono ?_); rintro e' w2 ⟨rfl, qk⟩; have HK2 := Lib.hid qk; dsimp only [decV, Ins.v]; have TB2 := Lib.hid (Tb.kp TB1.out qk); clear qk) | (go_at_call 11; (with_reducible refine (works_w _ (TB2.out.kp ((Kp.refl _).allocs _ _))).mono ?_); rintro e' w3 ⟨rfl, qk⟩; have HK3 := Lib.hid qk; clear qk))
  go_ret
  exact ⟨rfl, ((HK1.out.trans HK2.out).allocs _ _).trans HK3.out⟩
set_option maxHeartbeats 4000000 in
theorem reach_7_3a (x : Nat) (hx : x < 65536) (v : Nat) (h : ex x = some v) (v1 : v < 4294967296) (fn rd r1 r2 imm : Int) (wo us : Bool) (hi : spec v = some ⟨7, fn, rd, r1, r2, imm, 3, wo, us⟩) (a0 : 8 ≤ r1) (a1 : r1 ≤ 15) (i1 : imm ≤ 248) (i0 : 0 ≤ imm) (im : imm % 8 = 0) (w : World) (tb : Tb w) :
    Calls Tryd.prog 5 #[.int .u16 (x : Int)] w fun e w' => e = .returned (.bool true) ∧ Kp w w' := by
  have TB := Lib.hid tb
  have EX := Lib.hid h
  have HI := Lib.hid hi
  clear tb h hi
  have t0 : (decide (8 ≤ r1)) = true := by simp; omega
  have t1 : (decide (r1 ≤ 15)) = true := by simp; omega
  have t2 : (decide (imm ≤ 248)) = true := by simp; omega
  have t3 : (decide (0 ≤ imm)) = true := by simp; omega
  have tm : (imm.tmod 8 == 0) = true := by rw [Int.tmod_eq_emod_of_nonneg (by omega)]; simp; omega
  clear a0 a1 i1 i0 im
  go_enter Tryd.func5, Tryd.ntmps5
  go_wp2_with (first | (go_at_call 9; (with_reducible refine (expand_s x hx v EX.out _ TB.out).mono ?_); rintro e' w1 ⟨rfl, qk⟩; have HK1 := Lib.hid qk; have TB1 := Lib.hid (Tb.kp TB.out qk); clear qk) | (go_at_call 12; (with_reducible refine (decode_at v (by omega) (by omega) _ HI.out _).mono ?_); rintro e' w2 ⟨rfl, qk⟩; have HK2 := Lib.hid qk; dsimp only [decV, Ins.v]; have TB2 := Lib.hid (Tb.kp TB1.out qk); clear qk) | (go_at_call 11; (with_reducible refine (works_w _ (TB2.out.kp ((Kp.refl _).allocs _ _))).mono ?_); rintro e' w3 ⟨rfl, qk⟩; have HK3 := Lib.hid qk; clear qk))
  go_ret
  exact ⟨rfl, ((HK1.out.trans HK2.out).allocs _ _).trans HK3.out⟩
set_option maxHeartbeats 4000000 in
theorem reach_7_3b (x : Nat) (hx : x < 65536) (v : Nat) (h : ex x = some v) (v1 : v < 4294967296) (fn rd r2 imm : Int) (wo us : Bool) (hi : spec v = some ⟨7, fn, rd, 2, r2, imm, 3, wo, us⟩) (i1 : imm ≤ 504) (i0 : 0 ≤ imm) (im : imm % 8 = 0) (w : World) (tb : Tb w) :
    Calls Tryd.prog 5 #[.int .u16 (x : Int)] w fun e w' => e = .returned (.bool true) ∧ Kp w w' := by
  have TB := Lib.hid tb
  have EX := Lib.hid h
  have HI := Lib.hid hi
  clear tb h hi
  have t2 : (decide (imm ≤ 504)) = true := by simp; omega
  have t3 : (decide (0 ≤ imm)) = true := by simp; omega
  have tm : (imm.tmod 8 == 0) = true := by rw [Int.tmod_eq_emod_of_nonneg (by omega)]; simp; omega
  clear i1 i0 im
  go_enter Tryd.func5, Tryd.ntmps5
  go_wp2_with (first | (go_at_call 9; (with_reducible refine (expand_s x hx v EX.out _ TB.out).mono ?_); rintro e' w1 ⟨rfl, qk⟩; have HK1 := Lib.hid qk; have TB1 := Lib.hid (Tb.kp TB.out qk); clear qk) | (go_at_call 12; (with_reducible refine (decode_at v (by omega) (by omega) _ HI.out _).mono ?_); rintro e' w2 ⟨rfl, qk⟩; have HK2 := Lib.hid qk; dsimp only [decV, Ins.v]; have TB2 := Lib.hid (Tb.kp TB1.out qk); clear qk) | (go_at_call 11; (with_reducible refine (works_w _ (TB2.out.kp ((Kp.refl _).allocs _ _))).mono ?_); rintro e' w3 ⟨rfl, qk⟩; have HK3 := Lib.hid qk; clear qk))
  go_ret
  exact ⟨rfl, ((HK1.out.trans HK2.out).allocs _ _).trans HK3.out⟩
set_option maxHeartbeats 4000000 in
theorem reach_5 (x : Nat) (hx : x < 65536) (v : Nat) (h : ex x = some v) (v1 : v < 4294967296) (fn rd r1 imm wid : Int) (wo us : Bool) (hi : spec v = some ⟨5, fn, rd, r1, 0, imm, wid, wo, us⟩) (i0 : -256 ≤ imm) (i1 : imm ≤ 254) (im : imm % 2 = 0) (a0 : 8 ≤ r1) (a1 : r1 ≤ 15) (w : World) (tb : Tb w) :
    Calls Tryd.prog 5 #[.int .u16 (x : Int)] w fun e w' => e = .returned (.bool true) ∧ Kp w w' := by
  have TB := Lib.hid tb
  have EX := Lib.hid h
  have HI := Lib.hid hi
  clear tb h hi
  have t0 : (decide (8 ≤ r1)) = true := by simp; omega
  have t1 : (decide (r1 ≤ 15)) = true := by simp; omega
  have t2 : (decide (imm ≤ 254)) = true := by simp; omega
  have t3 : (decide (-256 ≤ imm)) = true := by simp; omega
  have tm : (imm.tmod 2 == 0) = true := by simp only [beq_iff_eq]; exact Int.tmod_eq_zero_of_dvd (Int.dvd_of_emod_eq_zero im)
  clear a0 a1 i1 i0 im
  go_enter Tryd.func5, Tryd.ntmps5
  go_wp2_with (first | (go_at_call 9; (with_reducible refine (expand_s x hx v EX.out _ TB.out).mono ?_); rintro e' w1 ⟨rfl, qk⟩; have HK1 := Lib.hid qk; have TB1 := Lib.hid (Tb.kp TB.out qk); clear qk) | (go_at_call 12; (with_reducible refine (decode_at v (by omega) (by omega) _ HI.out _).mono ?_); rintro e' w2 ⟨rfl, qk⟩; have HK2 := Lib.hid qk; dsimp only [decV, Ins.v]; have TB2 := Lib.hid (Tb.kp TB1.out qk); clear qk) | (go_at_call 11; (with_reducible refine (works_w _ (TB2.out.kp ((Kp.refl _).allocs _ _))).mono ?_); rintro e' w3 ⟨rfl, qk⟩; have HK3 := Lib.hid qk; clear qk))
  go_ret
  exact ⟨rfl, ((HK1.out.trans HK2.out).allocs _ _).trans HK3.out⟩
set_option maxHeartbeats 4000000 in
theorem reach_3 (x : Nat) (hx : x < 65536) (v : Nat) (h : ex x = some v) (v1 : v < 4294967296) (fn r1 r2 imm wid : Int) (wo us : Bool) (hi : spec v = some ⟨3, fn, 0, r1, r2, imm, wid, wo, us⟩) (i0 : -2048 ≤ imm) (i1 : imm ≤ 2046) (im : imm % 2 = 0) (w : World) (tb : Tb w) :
    Calls Tryd.prog 5 #[.int .u16 (x : Int)] w fun e w' => e = .returned (.bool true) ∧ Kp w w' := by
  have TB := Lib.hid tb
  have EX := Lib.hid h
  have HI := Lib.hid hi
  clear tb h hi
  have t2 : (decide (imm ≤ 2046)) = true := by simp; omega
  have t3 : (decide (-2048 ≤ imm)) = true := by simp; omega
  have tm : (imm.tmod 2 == 0) = true := by simp only [beq_iff_eq]; exact Int.tmod_eq_zero_of_dvd (Int.dvd_of_emod_eq_zero im)
  clear i1 i0 im
  go_enter Tryd.func5, Tryd.ntmps5
  go_wp2_with (first | (go_at_call 9; (with_reducible refine (expand_s x hx v EX.out _ TB.out).mono ?_); rintro e' w1 ⟨rfl, qk⟩; have HK1 := Lib.hid qk; have TB1 := Lib.hid (Tb.kp TB.out qk); clear qk) | (go_at_call 12; (with_reducible refine (decode_at v (by omega) (by omega) _ HI.out _).mono ?_); rintro e' w2 ⟨rfl, qk⟩; have HK2 := Lib.hid qk; dsimp only [decV, Ins.v]; have TB2 := Lib.hid (Tb.kp TB1.out qk); clear qk) | (go_at_call 11; (with_reducible refine (works_w _ (TB2.out.kp ((Kp.refl _).allocs _ _))).mono ?_); rintro e' w3 ⟨rfl, qk⟩; have HK3 := Lib.hid qk; clear qk))
  go_ret
  exact ⟨rfl, ((HK1.out.trans HK2.out).allocs _ _).trans HK3.out⟩
set_option maxHeartbeats 4000000 in
theorem reach_4 (x : Nat) (hx : x < 65536) (v : Nat) (h : ex x = some v) (v1 : v < 4294967296) (fn rd r1 r2 wid : Int) (wo us : Bool) (hi : spec v = some ⟨4, fn, rd, r1, r2, 0, wid, wo, us⟩) (a0 : r1 ≠ 0) (d1 : rd ≤ 1) (w : World) (tb : Tb w) :
    Calls Tryd.prog 5 #[.int .u16 (x : Int)] w fun e w' => e = .returned (.bool true) ∧ Kp w w' := by
  have TB := Lib.hid tb
  have EX := Lib.hid h
  have HI := Lib.hid hi
  clear tb h hi
  have t0 : (r1 != 0) = true := by simpa using a0
  have t1 : (decide (rd ≤ 1)) = true := by simp; omega
  clear a0 d1
  go_enter Tryd.func5, Tryd.ntmps5
  go_wp2_with (first | (go_at_call 9; (with_reducible refine (expand_s x hx v EX.out _ TB.out).mono ?_); rintro e' w1 ⟨rfl, qk⟩; have HK1 := Lib.hid qk; have TB1 := Lib.hid (Tb.kp TB.out qk); clear qk) | (go_at_call 12; (with_reducible refine (decode_at v (by omega) (by omega) _ HI.out _).mono ?_); rintro e' w2 ⟨rfl, qk⟩; have HK2 := Lib.hid qk; dsimp only [decV, Ins.v]; have TB2 := Lib.hid (Tb.kp TB1.out qk); clear qk) | (go_at_call 11; (with_reducible refine (works_w _ (TB2.out.kp ((Kp.refl _).allocs _ _))).mono ?_); rintro e' w3 ⟨rfl, qk⟩; have HK3 := Lib.hid qk; clear qk))
  go_ret
  exact ⟨rfl, ((HK1.out.trans HK2.out).allocs _ _).trans HK3.out⟩
set_option maxHeartbeats 4000000 in
theorem reach_8 (x : Nat) (hx : x < 65536) (v : Nat) (h : ex x = some v) (v1 : v < 4294967296) (fn rd r1 r2 imm wid : Int) (wo us : Bool) (hi : spec v = some ⟨8, fn, rd, r1, r2, imm, wid, wo, us⟩)  (w : World) (tb : Tb w) :
    Calls Tryd.prog 5 #[.int .u16 (x : Int)] w fun e w' => e = .returned (.bool true) ∧ Kp w w' := by
  have TB := Lib.hid tb
  have EX := Lib.hid h
  have HI := Lib.hid hi
  clear tb h hi
  go_enter Tryd.func5, Tryd.ntmps5
  go_wp2_with (first | (go_at_call 9; (with_reducible refine (expand_s x hx v EX.out _ TB.out).mono ?_); rintro e' w1 ⟨rfl, qk⟩; have HK1 := Lib.hid qk; have TB1 := Lib.hid (Tb.kp TB.out qk); clear qk) | (go_at_call 12; (with_reducible refine (decode_at v (by omega) (by omega) _ HI.out _).mono ?_); rintro e' w2 ⟨rfl, qk⟩; have HK2 := Lib.hid qk; dsimp only [decV, Ins.v]; have TB2 := Lib.hid (Tb.kp TB1.out qk); clear qk) | (go_at_call 11; (with_reducible refine (works_w _ (TB2.out.kp ((Kp.refl _).allocs _ _))).mono ?_); rintro e' w3 ⟨rfl, qk⟩; have HK3 := Lib.hid qk; clear qk))
  go_ret
  exact ⟨rfl, ((HK1.out.trans HK2.out).allocs _ _).trans HK3.out⟩
set_option maxHeartbeats 4000000 in
theorem reach_9 (x : Nat) (hx : x < 65536) (v : Nat) (h : ex x = some v) (v1 : v < 4294967296) (fn rd r1 r2 imm wid : Int) (wo us : Bool) (hi : spec v = some ⟨9, fn, rd, r1, r2, imm, wid, wo, us⟩)  (w : World) (tb : Tb w) :
    Calls Tryd.prog 5 #[.int .u16 (x : Int)] w fun e w' => e = .returned (.bool true) ∧ Kp w w' := by
  have TB := Lib.hid tb
  have EX := Lib.hid h
  have HI := Lib.hid hi
  clear tb h hi
  go_enter Tryd.func5, Tryd.ntmps5
  go_wp2_with (first | (go_at_call 9; (with_reducible refine (expand_s x hx v EX.out _ TB.out).mono ?_); rintro e' w1 ⟨rfl, qk⟩; have HK1 := Lib.hid qk; have TB1 := Lib.hid (Tb.kp TB.out qk); clear qk) | (go_at_call 12; (with_reducible refine (decode_at v (by omega) (by omega) _ HI.out _).mono ?_); rintro e' w2 ⟨rfl, qk⟩; have HK2 := Lib.hid qk; dsimp only [decV, Ins.v]; have TB2 := Lib.hid (Tb.kp TB1.out qk); clear qk) | (go_at_call 11; (with_reducible refine (works_w _ (TB2.out.kp ((Kp.refl _).allocs _ _))).mono ?_); rintro e' w3 ⟨rfl, qk⟩; have HK3 := Lib.hid qk; clear qk))
  go_ret
  exact ⟨rfl, ((HK1.out.trans HK2.out).allocs _ _).trans HK3.out⟩
set_option maxHeartbeats 4000000 in
theorem reach_1 (x : Nat) (hx : x < 65536) (v : Nat) (h : ex x = some v) (v1 : v < 4294967296) (fn rd r1 r2 imm wid : Int) (wo us : Bool) (hi : spec v = some ⟨1, fn, rd, r1, r2, imm, wid, wo, us⟩)  (w : World) (tb : Tb w) :
    Calls Tryd.prog 5 #[.int .u16 (x : Int)] w fun e w' => e = .returned (.bool true) ∧ Kp w w' := by
  have TB := Lib.hid tb
  have EX := Lib.hid h
  have HI := Lib.hid hi
  clear tb h hi
  go_enter Tryd.func5, Tryd.ntmps5
  go_wp2_with (first | (go_at_call 9; (with_reducible refine (expand_s x hx v EX.out _ TB.out).mono ?_); rintro e' w1 ⟨rfl, qk⟩; have HK1 := Lib.hid qk; have TB1 := Lib.hid (Tb.kp TB.out qk); clear qk) | (go_at_call 12; (with_reducible refine (decode_at v (by omega) (by omega) _ HI.out _).mono ?_); rintro e' w2 ⟨rfl, qk⟩; have HK2 := Lib.hid qk; dsimp only [decV, Ins.v]; have TB2 := Lib.hid (Tb.kp TB1.out qk); clear qk) | (go_at_call 11; (with_reducible refine (works_w _ (TB2.out.kp ((Kp.refl _).allocs _ _))).mono ?_); rintro e' w3 ⟨rfl, qk⟩; have HK3 := Lib.hid qk; clear qk))
  go_ret
  exact ⟨rfl, ((HK1.out.trans HK2.out).allocs _ _).trans HK3.out⟩
set_option maxHeartbeats 4000000 in
theorem reach_14 (x : Nat) (hx : x < 65536) (v : Nat) (h : ex x = some v) (v1 : v < 4294967296) (fn rd r1 r2 imm wid : Int) (wo us : Bool) (hi : spec v = some ⟨14, fn, rd, r1, r2, imm, wid, wo, us⟩)  (w : World) (tb : Tb w) :
    Calls Tryd.prog 5 #[.int .u16 (x : Int)] w fun e w' => e = .returned (.bool true) ∧ Kp w w' := by
  have TB := Lib.hid tb
  have EX := Lib.hid h
  have HI := Lib.hid hi
  clear tb h hi
  go_enter Tryd.func5, Tryd.ntmps5
  go_wp2_with (first | (go_at_call 9; (with_reducible refine (expand_s x hx v EX.out _ TB.out).mono ?_); rintro e' w1 ⟨rfl, qk⟩; have HK1 := Lib.hid qk; have TB1 := Lib.hid (Tb.kp TB.out qk); clear qk) | (go_at_call 12; (with_reducible refine (decode_at v (by omega) (by omega) _ HI.out _).mono ?_); rintro e' w2 ⟨rfl, qk⟩; have HK2 := Lib.hid qk; dsimp only [decV, Ins.v]; have TB2 := Lib.hid (Tb.kp TB1.out qk); clear qk) | (go_at_call 11; (with_reducible refine (works_w _ (TB2.out.kp ((Kp.refl _).allocs _ _))).mono ?_); rintro e' w3 ⟨rfl, qk⟩; have HK3 := Lib.hid qk; clear qk))
  go_ret
  exact ⟨rfl, ((HK1.out.trans HK2.out).allocs _ _).trans HK3.out⟩
theorem reach_w (x : Nat) (hx : x < 65536) (w : World) (tb : Tb w) :
    Calls Tryd.prog 5 #[.int .u16 (x : Int)] w fun e w' => e = .returned (.bool true) ∧ Kp w w' := by
  rcases facts x hx with ⟨h, d⟩ | ⟨v, i, h, d, v0, v1, m1, m2, hi, hk, hr, ht⟩
  · exact reach_n x hx h w tb
  · have ho : i.op = 8 ∨ i.op = 9 ∨ i.op = 1 ∨ i.op = 6 ∨ i.op = 7 ∨ i.op = 5 ∨ i.op = 3 ∨ i.op = 4 ∨ i.op = 14 := by
      simp only [kindB, Bool.or_eq_true, beq_iff_eq] at hk; omega
    obtain ⟨op, fn, rd, r1, r2, imm, wid, wo, us⟩ := i
    dsimp only at ho
    clear d v0 m1 m2 hk ht
    rcases ho with rfl | rfl | rfl | rfl | rfl | rfl | rfl | rfl | rfl
    · exact reach_8 x hx v h v1 _ _ _ _ _ _ _ _ hi w tb
    · exact reach_9 x hx v h v1 _ _ _ _ _ _ _ _ hi w tb
    · exact reach_1 x hx v h v1 _ _ _ _ _ _ _ _ hi w tb
    · unfold reachB near at hr; dsimp only at hr
      rw [if_pos (by omega)] at hr
      simp only [Bool.and_eq_true, Bool.or_eq_true, beq_iff_eq, decide_eq_true_eq] at hr
      obtain ⟨⟨⟨hw, ha⟩, i0⟩, im⟩ := hr
      rcases hw with rfl | rfl
      · rw [if_neg (by omega)] at im
        rcases ha with ⟨⟨a0, a1⟩, i1⟩ | ⟨rfl, i1⟩
        · exact reach_6_2a x hx v h v1 _ _ _ _ _ _ _ hi a0 a1 i1 i0 im w tb
        · exact reach_6_2b x hx v h v1 _ _ _ _ _ _ hi i1 i0 im w tb
      · rw [if_pos rfl] at im
        rcases ha with ⟨⟨a0, a1⟩, i1⟩ | ⟨rfl, i1⟩
        · exact reach_6_3a x hx v h v1 _ _ _ _ _ _ _ hi a0 a1 i1 i0 im w tb
        · exact reach_6_3b x hx v h v1 _ _ _ _ _ _ hi i1 i0 im w tb
    · unfold reachB near at hr; dsimp only at hr
      rw [if_pos (by omega)] at hr
      simp only [Bool.and_eq_true, Bool.or_eq_true, beq_iff_eq, decide_eq_true_eq] at hr
      obtain ⟨⟨⟨hw, ha⟩, i0⟩, im⟩ := hr
      rcases hw with rfl | rfl
      · rw [if_neg (by omega)] at im
        rcases ha with ⟨⟨a0, a1⟩, i1⟩ | ⟨rfl, i1⟩
        · exact reach_7_2a x hx v h v1 _ _ _ _ _ _ _ hi a0 a1 i1 i0 im w tb
        · exact reach_7_2b x hx v h v1 _ _ _ _ _ _ hi i1 i0 im w tb
      · rw [if_pos rfl] at im
        rcases ha with ⟨⟨a0, a1⟩, i1⟩ | ⟨rfl, i1⟩
        · exact reach_7_3a x hx v h v1 _ _ _ _ _ _ _ hi a0 a1 i1 i0 im w tb
        · exact reach_7_3b x hx v h v1 _ _ _ _ _ _ hi i1 i0 im w tb
    · unfold reachB near at hr; dsimp only at hr
      rw [if_neg (by omega), if_pos rfl] at hr
      simp only [Bool.and_eq_true, Bool.or_eq_true, beq_iff_eq, decide_eq_true_eq] at hr
      obtain ⟨⟨⟨⟨i0, i1⟩, im⟩, rfl⟩, a0, a1⟩ := hr
      exact reach_5 x hx v h v1 _ _ _ _ _ _ _ hi i0 i1 im a0 a1 w tb
    · unfold reachB near at hr; dsimp only at hr
      rw [if_neg (by omega), if_neg (by omega), if_pos rfl] at hr
      simp only [Bool.and_eq_true, Bool.or_eq_true, beq_iff_eq, decide_eq_true_eq] at hr
      obtain ⟨⟨⟨i0, i1⟩, im⟩, rfl⟩ := hr
      exact reach_3 x hx v h v1 _ _ _ _ _ _ _ hi i0 i1 im w tb
    · unfold reachB near at hr; dsimp only at hr
      rw [if_neg (by omega), if_neg (by omega), if_neg (by omega), if_pos rfl] at hr
      simp only [Bool.and_eq_true, Bool.or_eq_true, beq_iff_eq, decide_eq_true_eq, Bool.not_eq_true', beq_eq_false_iff_ne] at hr
      obtain ⟨⟨rfl, a0⟩, d1⟩ := hr
      exact reach_4 x hx v h v1 _ _ _ _ _ _ _ hi a0 d1 w tb
    · exact reach_14 x hx v h v1 _ _ _ _ _ _ _ _ hi w tb
end Go.Proofs.YtagoeceaobikaaaDoor
