/-
  Whatever word is an instruction: its registers, its width, its number are such as they may be, as BaseFields asks. No condition.
-/
import Derived.Test.YtnnllahihggkjaaIFine
namespace Go.Proofs.Ytnnllahihggkjaa.baseFields
open Go.ChangeShapes Go.WideShapes Go.ChangeAt Go.RowKit
set_option linter.unusedVariables false
set_option linter.unusedSimpArgs false

theorem own : ownKnob Try.prog.godebug = none := by kernel_rfl
theorem u32_bd {a : Int} (h : (Lit.int .u32 a).wf = true) : 0 ≤ a ∧ a < 4294967296 := by
  have hm0 : IntKind.u32.min = 0 := rfl
  have hm1 : IntKind.u32.max = 4294967295 := rfl
  simp only [Lit.wf, Bool.and_eq_true, decide_eq_true_eq, hm0, hm1] at h
  omega
theorem within_w (n lo hi : Int) (h : lo ≤ n ∧ n ≤ hi) (w : World) :
    Calls Try.prog 11 #[.int .i64 n, .int .i64 lo, .int .i64 hi] w fun e w' => e = .returned (.bool true) ∧ w = w' := by
  have t1 : decide (lo ≤ n) = true := by simp; omega
  have t2 : decide (n ≤ hi) = true := by simp; omega
  clear h
  go_enter Try.func11, Try.ntmps11
  go_wp2
  go_ret
  exact ⟨rfl, rfl⟩
theorem rem_0 {n k : Int} (h : n % k = 0) : n.tmod k = 0 := Int.tmod_eq_zero_of_dvd (Int.dvd_of_emod_eq_zero h)
set_option maxHeartbeats 8000000 in
theorem way_1 (a0 : Int) (h0 : 0 ≤ a0) (h1 : a0 < 4294967296) (op fn rd r1 r2 imm wid : Int) (wo us : Bool) (ho : spec a0 = some ⟨op, fn, rd, r1, r2, imm, wid, wo, us⟩) (hr : RegP ⟨op, fn, rd, r1, r2, imm, wid, wo, us⟩) (h : op = 1 ∧ imm % 4096 = 0 ∧ -2147483648 ≤ imm ∧ imm ≤ 2147479552) (w : World) :
    Calls Try.prog 4 #[.int .u32 a0] w fun e w' => e = .returned (.bool true) ∧ Grown w w' := by
  have HO := Lib.hid ho
  have P1 : Hid (0 ≤ rd ∧ rd ≤ 31) := Lib.hid hr.1
  have P2 : Hid (0 ≤ r1 ∧ r1 ≤ 31) := Lib.hid hr.2.1
  have P3 : Hid (0 ≤ r2 ∧ r2 ≤ 31) := Lib.hid hr.2.2.1
  have P4 : Hid (0 ≤ wid ∧ wid ≤ 6) := Lib.hid hr.2.2.2
  have r := rem_0 h.2.1
  have t0 : (op == 1) = true := by simp; omega
  have H := Lib.hid h
  clear h ho hr
  go_enter Try.func4, Try.ntmps4
  go_wp2_with (first | (go_at_call 8; (with_reducible refine (decode_at a0 h0 h1 _ HO.out _).mono ?_); rintro e' w1 ⟨rfl, qk⟩; have HKw1 := Lib.hid qk; dsimp only [decV, Ins.v, zIns]; have szw1 := qk.size; (try simp at szw1); clear qk) | (go_at_call 11; with_reducible refine (within_w rd (0) (31) P1.out _).mono ?_; rintro e' w9 ⟨rfl, rfl⟩) | (go_at_call 11; with_reducible refine (within_w r1 (0) (31) P2.out _).mono ?_; rintro e' w9 ⟨rfl, rfl⟩) | (go_at_call 11; with_reducible refine (within_w r2 (0) (31) P3.out _).mono ?_; rintro e' w9 ⟨rfl, rfl⟩) | (go_at_call 11; with_reducible refine (within_w wid (0) (6) P4.out _).mono ?_; rintro e' w9 ⟨rfl, rfl⟩) | (go_at_call 11; with_reducible refine (within_w op (1) (22) ⟨by have := H.out; omega, by have := H.out; omega⟩ _).mono ?_; rintro e' w9 ⟨rfl, rfl⟩) | (go_at_call 11; with_reducible refine (within_w imm (-2147483648) (2147479552) ⟨by have := H.out; omega, by have := H.out; omega⟩ _).mono ?_; rintro e' w9 ⟨rfl, rfl⟩) | (go_at_call 10; (with_reducible refine (known_w _).mono ?_); rintro e' w3 ⟨rfl, qk⟩; have HKw3 := Lib.hid qk; clear qk))
  go_ret
  exact ⟨rfl, by
    have k1 := HKw1.out
    have k3 := (k1.allocs _ _).trans HKw3.out
    exact k3.grown⟩
set_option maxHeartbeats 8000000 in
theorem way_2 (a0 : Int) (h0 : 0 ≤ a0) (h1 : a0 < 4294967296) (op fn rd r1 r2 imm wid : Int) (wo us : Bool) (ho : spec a0 = some ⟨op, fn, rd, r1, r2, imm, wid, wo, us⟩) (hr : RegP ⟨op, fn, rd, r1, r2, imm, wid, wo, us⟩) (h : op = 2 ∧ imm % 4096 = 0 ∧ -2147483648 ≤ imm ∧ imm ≤ 2147479552) (w : World) :
    Calls Try.prog 4 #[.int .u32 a0] w fun e w' => e = .returned (.bool true) ∧ Grown w w' := by
  have HO := Lib.hid ho
  have P1 : Hid (0 ≤ rd ∧ rd ≤ 31) := Lib.hid hr.1
  have P2 : Hid (0 ≤ r1 ∧ r1 ≤ 31) := Lib.hid hr.2.1
  have P3 : Hid (0 ≤ r2 ∧ r2 ≤ 31) := Lib.hid hr.2.2.1
  have P4 : Hid (0 ≤ wid ∧ wid ≤ 6) := Lib.hid hr.2.2.2
  have r := rem_0 h.2.1
  have t0 : (op == 1) = false := by simp; omega
  have t1 : (op == 2) = true := by simp; omega
  have H := Lib.hid h
  clear h ho hr
  go_enter Try.func4, Try.ntmps4
  go_wp2_with (first | (go_at_call 8; (with_reducible refine (decode_at a0 h0 h1 _ HO.out _).mono ?_); rintro e' w1 ⟨rfl, qk⟩; have HKw1 := Lib.hid qk; dsimp only [decV, Ins.v, zIns]; have szw1 := qk.size; (try simp at szw1); clear qk) | (go_at_call 11; with_reducible refine (within_w rd (0) (31) P1.out _).mono ?_; rintro e' w9 ⟨rfl, rfl⟩) | (go_at_call 11; with_reducible refine (within_w r1 (0) (31) P2.out _).mono ?_; rintro e' w9 ⟨rfl, rfl⟩) | (go_at_call 11; with_reducible refine (within_w r2 (0) (31) P3.out _).mono ?_; rintro e' w9 ⟨rfl, rfl⟩) | (go_at_call 11; with_reducible refine (within_w wid (0) (6) P4.out _).mono ?_; rintro e' w9 ⟨rfl, rfl⟩) | (go_at_call 11; with_reducible refine (within_w op (1) (22) ⟨by have := H.out; omega, by have := H.out; omega⟩ _).mono ?_; rintro e' w9 ⟨rfl, rfl⟩) | (go_at_call 11; with_reducible refine (within_w imm (-2147483648) (2147479552) ⟨by have := H.out; omega, by have := H.out; omega⟩ _).mono ?_; rintro e' w9 ⟨rfl, rfl⟩) | (go_at_call 10; (with_reducible refine (known_w _).mono ?_); rintro e' w3 ⟨rfl, qk⟩; have HKw3 := Lib.hid qk; clear qk))
  go_ret
  exact ⟨rfl, by
    have k1 := HKw1.out
    have k3 := (k1.allocs _ _).trans HKw3.out
    exact k3.grown⟩
set_option maxHeartbeats 8000000 in
theorem way_3 (a0 : Int) (h0 : 0 ≤ a0) (h1 : a0 < 4294967296) (op fn rd r1 r2 imm wid : Int) (wo us : Bool) (ho : spec a0 = some ⟨op, fn, rd, r1, r2, imm, wid, wo, us⟩) (hr : RegP ⟨op, fn, rd, r1, r2, imm, wid, wo, us⟩) (h : op = 3 ∧ imm % 2 = 0 ∧ -1048576 ≤ imm ∧ imm ≤ 1048574) (w : World) :
    Calls Try.prog 4 #[.int .u32 a0] w fun e w' => e = .returned (.bool true) ∧ Grown w w' := by
  have HO := Lib.hid ho
  have P1 : Hid (0 ≤ rd ∧ rd ≤ 31) := Lib.hid hr.1
  have P2 : Hid (0 ≤ r1 ∧ r1 ≤ 31) := Lib.hid hr.2.1
  have P3 : Hid (0 ≤ r2 ∧ r2 ≤ 31) := Lib.hid hr.2.2.1
  have P4 : Hid (0 ≤ wid ∧ wid ≤ 6) := Lib.hid hr.2.2.2
  have r := rem_0 h.2.1
  have t0 : (op == 1) = false := by simp; omega
  have t1 : (op == 2) = false := by simp; omega
  have t2 : (op == 3) = true := by simp; omega
  have H := Lib.hid h
  clear h ho hr
  go_enter Try.func4, Try.ntmps4
  go_wp2_with (first | (go_at_call 8; (with_reducible refine (decode_at a0 h0 h1 _ HO.out _).mono ?_); rintro e' w1 ⟨rfl, qk⟩; have HKw1 := Lib.hid qk; dsimp only [decV, Ins.v, zIns]; have szw1 := qk.size; (try simp at szw1); clear qk) | (go_at_call 11; with_reducible refine (within_w rd (0) (31) P1.out _).mono ?_; rintro e' w9 ⟨rfl, rfl⟩) | (go_at_call 11; with_reducible refine (within_w r1 (0) (31) P2.out _).mono ?_; rintro e' w9 ⟨rfl, rfl⟩) | (go_at_call 11; with_reducible refine (within_w r2 (0) (31) P3.out _).mono ?_; rintro e' w9 ⟨rfl, rfl⟩) | (go_at_call 11; with_reducible refine (within_w wid (0) (6) P4.out _).mono ?_; rintro e' w9 ⟨rfl, rfl⟩) | (go_at_call 11; with_reducible refine (within_w op (1) (22) ⟨by have := H.out; omega, by have := H.out; omega⟩ _).mono ?_; rintro e' w9 ⟨rfl, rfl⟩) | (go_at_call 11; with_reducible refine (within_w imm (-1048576) (1048574) ⟨by have := H.out; omega, by have := H.out; omega⟩ _).mono ?_; rintro e' w9 ⟨rfl, rfl⟩) | (go_at_call 10; (with_reducible refine (known_w _).mono ?_); rintro e' w3 ⟨rfl, qk⟩; have HKw3 := Lib.hid qk; clear qk))
  go_ret
  exact ⟨rfl, by
    have k1 := HKw1.out
    have k3 := (k1.allocs _ _).trans HKw3.out
    exact k3.grown⟩
set_option maxHeartbeats 8000000 in
theorem way_5 (a0 : Int) (h0 : 0 ≤ a0) (h1 : a0 < 4294967296) (op fn rd r1 r2 imm wid : Int) (wo us : Bool) (ho : spec a0 = some ⟨op, fn, rd, r1, r2, imm, wid, wo, us⟩) (hr : RegP ⟨op, fn, rd, r1, r2, imm, wid, wo, us⟩) (h : op = 5 ∧ imm % 2 = 0 ∧ -4096 ≤ imm ∧ imm ≤ 4094) (w : World) :
    Calls Try.prog 4 #[.int .u32 a0] w fun e w' => e = .returned (.bool true) ∧ Grown w w' := by
  have HO := Lib.hid ho
  have P1 : Hid (0 ≤ rd ∧ rd ≤ 31) := Lib.hid hr.1
  have P2 : Hid (0 ≤ r1 ∧ r1 ≤ 31) := Lib.hid hr.2.1
  have P3 : Hid (0 ≤ r2 ∧ r2 ≤ 31) := Lib.hid hr.2.2.1
  have P4 : Hid (0 ≤ wid ∧ wid ≤ 6) := Lib.hid hr.2.2.2
  have r := rem_0 h.2.1
  have t0 : (op == 1) = false := by simp; omega
  have t1 : (op == 2) = false := by simp; omega
  have t2 : (op == 3) = false := by simp; omega
  have t3 : (op == 5) = true := by simp; omega
  have H := Lib.hid h
  clear h ho hr
  go_enter Try.func4, Try.ntmps4
  go_wp2_with (first | (go_at_call 8; (with_reducible refine (decode_at a0 h0 h1 _ HO.out _).mono ?_); rintro e' w1 ⟨rfl, qk⟩; have HKw1 := Lib.hid qk; dsimp only [decV, Ins.v, zIns]; have szw1 := qk.size; (try simp at szw1); clear qk) | (go_at_call 11; with_reducible refine (within_w rd (0) (31) P1.out _).mono ?_; rintro e' w9 ⟨rfl, rfl⟩) | (go_at_call 11; with_reducible refine (within_w r1 (0) (31) P2.out _).mono ?_; rintro e' w9 ⟨rfl, rfl⟩) | (go_at_call 11; with_reducible refine (within_w r2 (0) (31) P3.out _).mono ?_; rintro e' w9 ⟨rfl, rfl⟩) | (go_at_call 11; with_reducible refine (within_w wid (0) (6) P4.out _).mono ?_; rintro e' w9 ⟨rfl, rfl⟩) | (go_at_call 11; with_reducible refine (within_w op (1) (22) ⟨by have := H.out; omega, by have := H.out; omega⟩ _).mono ?_; rintro e' w9 ⟨rfl, rfl⟩) | (go_at_call 11; with_reducible refine (within_w imm (-4096) (4094) ⟨by have := H.out; omega, by have := H.out; omega⟩ _).mono ?_; rintro e' w9 ⟨rfl, rfl⟩) | (go_at_call 10; (with_reducible refine (known_w _).mono ?_); rintro e' w3 ⟨rfl, qk⟩; have HKw3 := Lib.hid qk; clear qk))
  go_ret
  exact ⟨rfl, by
    have k1 := HKw1.out
    have k3 := (k1.allocs _ _).trans HKw3.out
    exact k3.grown⟩
set_option maxHeartbeats 8000000 in
theorem way_4 (a0 : Int) (h0 : 0 ≤ a0) (h1 : a0 < 4294967296) (op fn rd r1 r2 imm wid : Int) (wo us : Bool) (ho : spec a0 = some ⟨op, fn, rd, r1, r2, imm, wid, wo, us⟩) (hr : RegP ⟨op, fn, rd, r1, r2, imm, wid, wo, us⟩) (h : op = 4 ∧ -2048 ≤ imm ∧ imm ≤ 2047) (w : World) :
    Calls Try.prog 4 #[.int .u32 a0] w fun e w' => e = .returned (.bool true) ∧ Grown w w' := by
  have HO := Lib.hid ho
  have P1 : Hid (0 ≤ rd ∧ rd ≤ 31) := Lib.hid hr.1
  have P2 : Hid (0 ≤ r1 ∧ r1 ≤ 31) := Lib.hid hr.2.1
  have P3 : Hid (0 ≤ r2 ∧ r2 ≤ 31) := Lib.hid hr.2.2.1
  have P4 : Hid (0 ≤ wid ∧ wid ≤ 6) := Lib.hid hr.2.2.2
  have t0 : (op == 1) = false := by simp; omega
  have t1 : (op == 2) = false := by simp; omega
  have t2 : (op == 3) = false := by simp; omega
  have t3 : (op == 5) = false := by simp; omega
  have t4 : (op == 4) = true := by simp; omega
  have H := Lib.hid h
  clear h ho hr
  go_enter Try.func4, Try.ntmps4
  go_wp2_with (first | (go_at_call 8; (with_reducible refine (decode_at a0 h0 h1 _ HO.out _).mono ?_); rintro e' w1 ⟨rfl, qk⟩; have HKw1 := Lib.hid qk; dsimp only [decV, Ins.v, zIns]; have szw1 := qk.size; (try simp at szw1); clear qk) | (go_at_call 11; with_reducible refine (within_w rd (0) (31) P1.out _).mono ?_; rintro e' w9 ⟨rfl, rfl⟩) | (go_at_call 11; with_reducible refine (within_w r1 (0) (31) P2.out _).mono ?_; rintro e' w9 ⟨rfl, rfl⟩) | (go_at_call 11; with_reducible refine (within_w r2 (0) (31) P3.out _).mono ?_; rintro e' w9 ⟨rfl, rfl⟩) | (go_at_call 11; with_reducible refine (within_w wid (0) (6) P4.out _).mono ?_; rintro e' w9 ⟨rfl, rfl⟩) | (go_at_call 11; with_reducible refine (within_w op (1) (22) ⟨by have := H.out; omega, by have := H.out; omega⟩ _).mono ?_; rintro e' w9 ⟨rfl, rfl⟩) | (go_at_call 11; with_reducible refine (within_w imm (-2048) (2047) ⟨by have := H.out; omega, by have := H.out; omega⟩ _).mono ?_; rintro e' w9 ⟨rfl, rfl⟩) | (go_at_call 10; (with_reducible refine (known_w _).mono ?_); rintro e' w3 ⟨rfl, qk⟩; have HKw3 := Lib.hid qk; clear qk))
  go_ret
  exact ⟨rfl, by
    have k1 := HKw1.out
    have k3 := (k1.allocs _ _).trans HKw3.out
    exact k3.grown⟩
set_option maxHeartbeats 8000000 in
theorem way_6 (a0 : Int) (h0 : 0 ≤ a0) (h1 : a0 < 4294967296) (op fn rd r1 r2 imm wid : Int) (wo us : Bool) (ho : spec a0 = some ⟨op, fn, rd, r1, r2, imm, wid, wo, us⟩) (hr : RegP ⟨op, fn, rd, r1, r2, imm, wid, wo, us⟩) (h : op = 6 ∧ -2048 ≤ imm ∧ imm ≤ 2047) (w : World) :
    Calls Try.prog 4 #[.int .u32 a0] w fun e w' => e = .returned (.bool true) ∧ Grown w w' := by
  have HO := Lib.hid ho
  have P1 : Hid (0 ≤ rd ∧ rd ≤ 31) := Lib.hid hr.1
  have P2 : Hid (0 ≤ r1 ∧ r1 ≤ 31) := Lib.hid hr.2.1
  have P3 : Hid (0 ≤ r2 ∧ r2 ≤ 31) := Lib.hid hr.2.2.1
  have P4 : Hid (0 ≤ wid ∧ wid ≤ 6) := Lib.hid hr.2.2.2
  have t0 : (op == 1) = false := by simp; omega
  have t1 : (op == 2) = false := by simp; omega
  have t2 : (op == 3) = false := by simp; omega
  have t3 : (op == 5) = false := by simp; omega
  have t4 : (op == 4) = false := by simp; omega
  have t5 : (op == 6) = true := by simp; omega
  have H := Lib.hid h
  clear h ho hr
  go_enter Try.func4, Try.ntmps4
  go_wp2_with (first | (go_at_call 8; (with_reducible refine (decode_at a0 h0 h1 _ HO.out _).mono ?_); rintro e' w1 ⟨rfl, qk⟩; have HKw1 := Lib.hid qk; dsimp only [decV, Ins.v, zIns]; have szw1 := qk.size; (try simp at szw1); clear qk) | (go_at_call 11; with_reducible refine (within_w rd (0) (31) P1.out _).mono ?_; rintro e' w9 ⟨rfl, rfl⟩) | (go_at_call 11; with_reducible refine (within_w r1 (0) (31) P2.out _).mono ?_; rintro e' w9 ⟨rfl, rfl⟩) | (go_at_call 11; with_reducible refine (within_w r2 (0) (31) P3.out _).mono ?_; rintro e' w9 ⟨rfl, rfl⟩) | (go_at_call 11; with_reducible refine (within_w wid (0) (6) P4.out _).mono ?_; rintro e' w9 ⟨rfl, rfl⟩) | (go_at_call 11; with_reducible refine (within_w op (1) (22) ⟨by have := H.out; omega, by have := H.out; omega⟩ _).mono ?_; rintro e' w9 ⟨rfl, rfl⟩) | (go_at_call 11; with_reducible refine (within_w imm (-2048) (2047) ⟨by have := H.out; omega, by have := H.out; omega⟩ _).mono ?_; rintro e' w9 ⟨rfl, rfl⟩) | (go_at_call 10; (with_reducible refine (known_w _).mono ?_); rintro e' w3 ⟨rfl, qk⟩; have HKw3 := Lib.hid qk; clear qk))
  go_ret
  exact ⟨rfl, by
    have k1 := HKw1.out
    have k3 := (k1.allocs _ _).trans HKw3.out
    exact k3.grown⟩
set_option maxHeartbeats 8000000 in
theorem way_7 (a0 : Int) (h0 : 0 ≤ a0) (h1 : a0 < 4294967296) (op fn rd r1 r2 imm wid : Int) (wo us : Bool) (ho : spec a0 = some ⟨op, fn, rd, r1, r2, imm, wid, wo, us⟩) (hr : RegP ⟨op, fn, rd, r1, r2, imm, wid, wo, us⟩) (h : op = 7 ∧ -2048 ≤ imm ∧ imm ≤ 2047) (w : World) :
    Calls Try.prog 4 #[.int .u32 a0] w fun e w' => e = .returned (.bool true) ∧ Grown w w' := by
  have HO := Lib.hid ho
  have P1 : Hid (0 ≤ rd ∧ rd ≤ 31) := Lib.hid hr.1
  have P2 : Hid (0 ≤ r1 ∧ r1 ≤ 31) := Lib.hid hr.2.1
  have P3 : Hid (0 ≤ r2 ∧ r2 ≤ 31) := Lib.hid hr.2.2.1
  have P4 : Hid (0 ≤ wid ∧ wid ≤ 6) := Lib.hid hr.2.2.2
  have t0 : (op == 1) = false := by simp; omega
  have t1 : (op == 2) = false := by simp; omega
  have t2 : (op == 3) = false := by simp; omega
  have t3 : (op == 5) = false := by simp; omega
  have t4 : (op == 4) = false := by simp; omega
  have t5 : (op == 6) = false := by simp; omega
  have t6 : (op == 7) = true := by simp; omega
  have H := Lib.hid h
  clear h ho hr
  go_enter Try.func4, Try.ntmps4
  go_wp2_with (first | (go_at_call 8; (with_reducible refine (decode_at a0 h0 h1 _ HO.out _).mono ?_); rintro e' w1 ⟨rfl, qk⟩; have HKw1 := Lib.hid qk; dsimp only [decV, Ins.v, zIns]; have szw1 := qk.size; (try simp at szw1); clear qk) | (go_at_call 11; with_reducible refine (within_w rd (0) (31) P1.out _).mono ?_; rintro e' w9 ⟨rfl, rfl⟩) | (go_at_call 11; with_reducible refine (within_w r1 (0) (31) P2.out _).mono ?_; rintro e' w9 ⟨rfl, rfl⟩) | (go_at_call 11; with_reducible refine (within_w r2 (0) (31) P3.out _).mono ?_; rintro e' w9 ⟨rfl, rfl⟩) | (go_at_call 11; with_reducible refine (within_w wid (0) (6) P4.out _).mono ?_; rintro e' w9 ⟨rfl, rfl⟩) | (go_at_call 11; with_reducible refine (within_w op (1) (22) ⟨by have := H.out; omega, by have := H.out; omega⟩ _).mono ?_; rintro e' w9 ⟨rfl, rfl⟩) | (go_at_call 11; with_reducible refine (within_w imm (-2048) (2047) ⟨by have := H.out; omega, by have := H.out; omega⟩ _).mono ?_; rintro e' w9 ⟨rfl, rfl⟩) | (go_at_call 10; (with_reducible refine (known_w _).mono ?_); rintro e' w3 ⟨rfl, qk⟩; have HKw3 := Lib.hid qk; clear qk))
  go_ret
  exact ⟨rfl, by
    have k1 := HKw1.out
    have k3 := (k1.allocs _ _).trans HKw3.out
    exact k3.grown⟩
set_option maxHeartbeats 8000000 in
theorem way_8n (a0 : Int) (h0 : 0 ≤ a0) (h1 : a0 < 4294967296) (op fn rd r1 r2 imm wid : Int) (wo us : Bool) (ho : spec a0 = some ⟨op, fn, rd, r1, r2, imm, wid, wo, us⟩) (hr : RegP ⟨op, fn, rd, r1, r2, imm, wid, wo, us⟩) (h : op = 8 ∧ (¬ fn = 1 ∧ ¬ fn = 5 ∧ ¬ fn = 9) ∧ -2048 ≤ imm ∧ imm ≤ 2047) (w : World) :
    Calls Try.prog 4 #[.int .u32 a0] w fun e w' => e = .returned (.bool true) ∧ Grown w w' := by
  have HO := Lib.hid ho
  have P1 : Hid (0 ≤ rd ∧ rd ≤ 31) := Lib.hid hr.1
  have P2 : Hid (0 ≤ r1 ∧ r1 ≤ 31) := Lib.hid hr.2.1
  have P3 : Hid (0 ≤ r2 ∧ r2 ≤ 31) := Lib.hid hr.2.2.1
  have P4 : Hid (0 ≤ wid ∧ wid ≤ 6) := Lib.hid hr.2.2.2
  have t0 : (op == 1) = false := by simp; omega
  have t1 : (op == 2) = false := by simp; omega
  have t2 : (op == 3) = false := by simp; omega
  have t3 : (op == 5) = false := by simp; omega
  have t4 : (op == 4) = false := by simp; omega
  have t5 : (op == 6) = false := by simp; omega
  have t6 : (op == 7) = false := by simp; omega
  have t7 : (op == 8) = true := by simp; omega
  have t8 : (fn == 1) = false := by simp; omega
  have t9 : (fn == 5) = false := by simp; omega
  have t10 : (fn == 9) = false := by simp; omega
  have H := Lib.hid h
  clear h ho hr
  go_enter Try.func4, Try.ntmps4
  go_wp2_with (first | (go_at_call 8; (with_reducible refine (decode_at a0 h0 h1 _ HO.out _).mono ?_); rintro e' w1 ⟨rfl, qk⟩; have HKw1 := Lib.hid qk; dsimp only [decV, Ins.v, zIns]; have szw1 := qk.size; (try simp at szw1); clear qk) | (go_at_call 11; with_reducible refine (within_w rd (0) (31) P1.out _).mono ?_; rintro e' w9 ⟨rfl, rfl⟩) | (go_at_call 11; with_reducible refine (within_w r1 (0) (31) P2.out _).mono ?_; rintro e' w9 ⟨rfl, rfl⟩) | (go_at_call 11; with_reducible refine (within_w r2 (0) (31) P3.out _).mono ?_; rintro e' w9 ⟨rfl, rfl⟩) | (go_at_call 11; with_reducible refine (within_w wid (0) (6) P4.out _).mono ?_; rintro e' w9 ⟨rfl, rfl⟩) | (go_at_call 11; with_reducible refine (within_w op (1) (22) ⟨by have := H.out; omega, by have := H.out; omega⟩ _).mono ?_; rintro e' w9 ⟨rfl, rfl⟩) | (go_at_call 11; with_reducible refine (within_w imm (-2048) (2047) ⟨by have := H.out; omega, by have := H.out; omega⟩ _).mono ?_; rintro e' w9 ⟨rfl, rfl⟩) | (go_at_call 10; (with_reducible refine (known_w _).mono ?_); rintro e' w3 ⟨rfl, qk⟩; have HKw3 := Lib.hid qk; clear qk))
  go_ret
  exact ⟨rfl, by
    have k1 := HKw1.out
    have k3 := (k1.allocs _ _).trans HKw3.out
    exact k3.grown⟩
set_option maxHeartbeats 8000000 in
theorem way_8_1t (a0 : Int) (h0 : 0 ≤ a0) (h1 : a0 < 4294967296) (op fn rd r1 r2 imm wid : Int) (wo us : Bool) (ho : spec a0 = some ⟨op, fn, rd, r1, r2, imm, wid, wo, us⟩) (hr : RegP ⟨op, fn, rd, r1, r2, imm, wid, wo, us⟩) (h : op = 8 ∧ fn = 1 ∧ 0 ≤ imm ∧ imm ≤ 31 ∧ wo = true) (w : World) :
    Calls Try.prog 4 #[.int .u32 a0] w fun e w' => e = .returned (.bool true) ∧ Grown w w' := by
  have HO := Lib.hid ho
  have P1 : Hid (0 ≤ rd ∧ rd ≤ 31) := Lib.hid hr.1
  have P2 : Hid (0 ≤ r1 ∧ r1 ≤ 31) := Lib.hid hr.2.1
  have P3 : Hid (0 ≤ r2 ∧ r2 ≤ 31) := Lib.hid hr.2.2.1
  have P4 : Hid (0 ≤ wid ∧ wid ≤ 6) := Lib.hid hr.2.2.2
  obtain ⟨e1, e2, e3, e4, rfl⟩ := h
  have h : op = 8 ∧ fn = 1 ∧ 0 ≤ imm ∧ imm ≤ 31 := ⟨e1, e2, e3, e4⟩
  have l32 : imm < 32 := (by omega)
  clear e1 e2 e3 e4
  have t0 : (op == 1) = false := by simp; omega
  have t1 : (op == 2) = false := by simp; omega
  have t2 : (op == 3) = false := by simp; omega
  have t3 : (op == 5) = false := by simp; omega
  have t4 : (op == 4) = false := by simp; omega
  have t5 : (op == 6) = false := by simp; omega
  have t6 : (op == 7) = false := by simp; omega
  have t7 : (op == 8) = true := by simp; omega
  have t8 : (fn == 1) = true := by simp; omega
  have H := Lib.hid h
  clear h ho hr
  go_enter Try.func4, Try.ntmps4
  go_wp2_with (first | (go_at_call 8; (with_reducible refine (decode_at a0 h0 h1 _ HO.out _).mono ?_); rintro e' w1 ⟨rfl, qk⟩; have HKw1 := Lib.hid qk; dsimp only [decV, Ins.v, zIns]; have szw1 := qk.size; (try simp at szw1); clear qk) | (go_at_call 11; with_reducible refine (within_w rd (0) (31) P1.out _).mono ?_; rintro e' w9 ⟨rfl, rfl⟩) | (go_at_call 11; with_reducible refine (within_w r1 (0) (31) P2.out _).mono ?_; rintro e' w9 ⟨rfl, rfl⟩) | (go_at_call 11; with_reducible refine (within_w r2 (0) (31) P3.out _).mono ?_; rintro e' w9 ⟨rfl, rfl⟩) | (go_at_call 11; with_reducible refine (within_w wid (0) (6) P4.out _).mono ?_; rintro e' w9 ⟨rfl, rfl⟩) | (go_at_call 11; with_reducible refine (within_w op (1) (22) ⟨by have := H.out; omega, by have := H.out; omega⟩ _).mono ?_; rintro e' w9 ⟨rfl, rfl⟩) | (go_at_call 11; with_reducible refine (within_w imm (0) (63) ⟨by have := H.out; omega, by have := H.out; omega⟩ _).mono ?_; rintro e' w9 ⟨rfl, rfl⟩) | (go_at_call 10; (with_reducible refine (known_w _).mono ?_); rintro e' w3 ⟨rfl, qk⟩; have HKw3 := Lib.hid qk; clear qk))
  go_ret
  exact ⟨rfl, by
    have k1 := HKw1.out
    have k3 := (k1.allocs _ _).trans HKw3.out
    exact k3.grown⟩
set_option maxHeartbeats 8000000 in
theorem way_8_1f (a0 : Int) (h0 : 0 ≤ a0) (h1 : a0 < 4294967296) (op fn rd r1 r2 imm wid : Int) (wo us : Bool) (ho : spec a0 = some ⟨op, fn, rd, r1, r2, imm, wid, wo, us⟩) (hr : RegP ⟨op, fn, rd, r1, r2, imm, wid, wo, us⟩) (h : op = 8 ∧ fn = 1 ∧ 0 ≤ imm ∧ imm ≤ 63 ∧ wo = false) (w : World) :
    Calls Try.prog 4 #[.int .u32 a0] w fun e w' => e = .returned (.bool true) ∧ Grown w w' := by
  have HO := Lib.hid ho
  have P1 : Hid (0 ≤ rd ∧ rd ≤ 31) := Lib.hid hr.1
  have P2 : Hid (0 ≤ r1 ∧ r1 ≤ 31) := Lib.hid hr.2.1
  have P3 : Hid (0 ≤ r2 ∧ r2 ≤ 31) := Lib.hid hr.2.2.1
  have P4 : Hid (0 ≤ wid ∧ wid ≤ 6) := Lib.hid hr.2.2.2
  obtain ⟨e1, e2, e3, e4, rfl⟩ := h
  have h : op = 8 ∧ fn = 1 ∧ 0 ≤ imm ∧ imm ≤ 63 := ⟨e1, e2, e3, e4⟩
  clear e1 e2 e3 e4
  have t0 : (op == 1) = false := by simp; omega
  have t1 : (op == 2) = false := by simp; omega
  have t2 : (op == 3) = false := by simp; omega
  have t3 : (op == 5) = false := by simp; omega
  have t4 : (op == 4) = false := by simp; omega
  have t5 : (op == 6) = false := by simp; omega
  have t6 : (op == 7) = false := by simp; omega
  have t7 : (op == 8) = true := by simp; omega
  have t8 : (fn == 1) = true := by simp; omega
  have H := Lib.hid h
  clear h ho hr
  go_enter Try.func4, Try.ntmps4
  go_wp2_with (first | (go_at_call 8; (with_reducible refine (decode_at a0 h0 h1 _ HO.out _).mono ?_); rintro e' w1 ⟨rfl, qk⟩; have HKw1 := Lib.hid qk; dsimp only [decV, Ins.v, zIns]; have szw1 := qk.size; (try simp at szw1); clear qk) | (go_at_call 11; with_reducible refine (within_w rd (0) (31) P1.out _).mono ?_; rintro e' w9 ⟨rfl, rfl⟩) | (go_at_call 11; with_reducible refine (within_w r1 (0) (31) P2.out _).mono ?_; rintro e' w9 ⟨rfl, rfl⟩) | (go_at_call 11; with_reducible refine (within_w r2 (0) (31) P3.out _).mono ?_; rintro e' w9 ⟨rfl, rfl⟩) | (go_at_call 11; with_reducible refine (within_w wid (0) (6) P4.out _).mono ?_; rintro e' w9 ⟨rfl, rfl⟩) | (go_at_call 11; with_reducible refine (within_w op (1) (22) ⟨by have := H.out; omega, by have := H.out; omega⟩ _).mono ?_; rintro e' w9 ⟨rfl, rfl⟩) | (go_at_call 11; with_reducible refine (within_w imm (0) (63) ⟨by have := H.out; omega, by have := H.out; omega⟩ _).mono ?_; rintro e' w9 ⟨rfl, rfl⟩) | (go_at_call 10; (with_reducible refine (known_w _).mono ?_); rintro e' w3 ⟨rfl, qk⟩; have HKw3 := Lib.hid qk; clear qk))
  go_ret
  exact ⟨rfl, by
    have k1 := HKw1.out
    have k3 := (k1.allocs _ _).trans HKw3.out
    exact k3.grown⟩
set_option maxHeartbeats 8000000 in
theorem way_8_5t (a0 : Int) (h0 : 0 ≤ a0) (h1 : a0 < 4294967296) (op fn rd r1 r2 imm wid : Int) (wo us : Bool) (ho : spec a0 = some ⟨op, fn, rd, r1, r2, imm, wid, wo, us⟩) (hr : RegP ⟨op, fn, rd, r1, r2, imm, wid, wo, us⟩) (h : op = 8 ∧ fn = 5 ∧ 0 ≤ imm ∧ imm ≤ 31 ∧ wo = true) (w : World) :
    Calls Try.prog 4 #[.int .u32 a0] w fun e w' => e = .returned (.bool true) ∧ Grown w w' := by
  have HO := Lib.hid ho
  have P1 : Hid (0 ≤ rd ∧ rd ≤ 31) := Lib.hid hr.1
  have P2 : Hid (0 ≤ r1 ∧ r1 ≤ 31) := Lib.hid hr.2.1
  have P3 : Hid (0 ≤ r2 ∧ r2 ≤ 31) := Lib.hid hr.2.2.1
  have P4 : Hid (0 ≤ wid ∧ wid ≤ 6) := Lib.hid hr.2.2.2
  obtain ⟨e1, e2, e3, e4, rfl⟩ := h
  have h : op = 8 ∧ fn = 5 ∧ 0 ≤ imm ∧ imm ≤ 31 := ⟨e1, e2, e3, e4⟩
  have l32 : imm < 32 := (by omega)
  clear e1 e2 e3 e4
  have t0 : (op == 1) = false := by simp; omega
  have t1 : (op == 2) = false := by simp; omega
  have t2 : (op == 3) = false := by simp; omega
  have t3 : (op == 5) = false := by simp; omega
  have t4 : (op == 4) = false := by simp; omega
  have t5 : (op == 6) = false := by simp; omega
  have t6 : (op == 7) = false := by simp; omega
  have t7 : (op == 8) = true := by simp; omega
  have t8 : (fn == 1) = false := by simp; omega
  have t9 : (fn == 5) = true := by simp; omega
  have H := Lib.hid h
  clear h ho hr
  go_enter Try.func4, Try.ntmps4
  go_wp2_with (first | (go_at_call 8; (with_reducible refine (decode_at a0 h0 h1 _ HO.out _).mono ?_); rintro e' w1 ⟨rfl, qk⟩; have HKw1 := Lib.hid qk; dsimp only [decV, Ins.v, zIns]; have szw1 := qk.size; (try simp at szw1); clear qk) | (go_at_call 11; with_reducible refine (within_w rd (0) (31) P1.out _).mono ?_; rintro e' w9 ⟨rfl, rfl⟩) | (go_at_call 11; with_reducible refine (within_w r1 (0) (31) P2.out _).mono ?_; rintro e' w9 ⟨rfl, rfl⟩) | (go_at_call 11; with_reducible refine (within_w r2 (0) (31) P3.out _).mono ?_; rintro e' w9 ⟨rfl, rfl⟩) | (go_at_call 11; with_reducible refine (within_w wid (0) (6) P4.out _).mono ?_; rintro e' w9 ⟨rfl, rfl⟩) | (go_at_call 11; with_reducible refine (within_w op (1) (22) ⟨by have := H.out; omega, by have := H.out; omega⟩ _).mono ?_; rintro e' w9 ⟨rfl, rfl⟩) | (go_at_call 11; with_reducible refine (within_w imm (0) (63) ⟨by have := H.out; omega, by have := H.out; omega⟩ _).mono ?_; rintro e' w9 ⟨rfl, rfl⟩) | (go_at_call 10; (with_reducible refine (known_w _).mono ?_); rintro e' w3 ⟨rfl, qk⟩; have HKw3 := Lib.hid qk; clear qk))
  go_ret
  exact ⟨rfl, by
    have k1 := HKw1.out
    have k3 := (k1.allocs _ _).trans HKw3.out
    exact k3.grown⟩
set_option maxHeartbeats 8000000 in
theorem way_8_5f (a0 : Int) (h0 : 0 ≤ a0) (h1 : a0 < 4294967296) (op fn rd r1 r2 imm wid : Int) (wo us : Bool) (ho : spec a0 = some ⟨op, fn, rd, r1, r2, imm, wid, wo, us⟩) (hr : RegP ⟨op, fn, rd, r1, r2, imm, wid, wo, us⟩) (h : op = 8 ∧ fn = 5 ∧ 0 ≤ imm ∧ imm ≤ 63 ∧ wo = false) (w : World) :
    Calls Try.prog 4 #[.int .u32 a0] w fun e w' => e = .returned (.bool true) ∧ Grown w w' := by
  have HO := Lib.hid ho
  have P1 : Hid (0 ≤ rd ∧ rd ≤ 31) := Lib.hid hr.1
  have P2 : Hid (0 ≤ r1 ∧ r1 ≤ 31) := Lib.hid hr.2.1
  have P3 : Hid (0 ≤ r2 ∧ r2 ≤ 31) := Lib.hid hr.2.2.1
  have P4 : Hid (0 ≤ wid ∧ wid ≤ 6) := Lib.hid hr.2.2.2
  obtain ⟨e1, e2, e3, e4, rfl⟩ := h
  have h : op = 8 ∧ fn = 5 ∧ 0 ≤ imm ∧ imm ≤ 63 := ⟨e1, e2, e3, e4⟩
  clear e1 e2 e3 e4
  have t0 : (op == 1) = false := by simp; omega
  have t1 : (op == 2) = false := by simp; omega
  have t2 : (op == 3) = false := by simp; omega
  have t3 : (op == 5) = false := by simp; omega
  have t4 : (op == 4) = false := by simp; omega
  have t5 : (op == 6) = false := by simp; omega
  have t6 : (op == 7) = false := by simp; omega
  have t7 : (op == 8) = true := by simp; omega
  have t8 : (fn == 1) = false := by simp; omega
  have t9 : (fn == 5) = true := by simp; omega
  have H := Lib.hid h
  clear h ho hr
  go_enter Try.func4, Try.ntmps4
  go_wp2_with (first | (go_at_call 8; (with_reducible refine (decode_at a0 h0 h1 _ HO.out _).mono ?_); rintro e' w1 ⟨rfl, qk⟩; have HKw1 := Lib.hid qk; dsimp only [decV, Ins.v, zIns]; have szw1 := qk.size; (try simp at szw1); clear qk) | (go_at_call 11; with_reducible refine (within_w rd (0) (31) P1.out _).mono ?_; rintro e' w9 ⟨rfl, rfl⟩) | (go_at_call 11; with_reducible refine (within_w r1 (0) (31) P2.out _).mono ?_; rintro e' w9 ⟨rfl, rfl⟩) | (go_at_call 11; with_reducible refine (within_w r2 (0) (31) P3.out _).mono ?_; rintro e' w9 ⟨rfl, rfl⟩) | (go_at_call 11; with_reducible refine (within_w wid (0) (6) P4.out _).mono ?_; rintro e' w9 ⟨rfl, rfl⟩) | (go_at_call 11; with_reducible refine (within_w op (1) (22) ⟨by have := H.out; omega, by have := H.out; omega⟩ _).mono ?_; rintro e' w9 ⟨rfl, rfl⟩) | (go_at_call 11; with_reducible refine (within_w imm (0) (63) ⟨by have := H.out; omega, by have := H.out; omega⟩ _).mono ?_; rintro e' w9 ⟨rfl, rfl⟩) | (go_at_call 10; (with_reducible refine (known_w _).mono ?_); rintro e' w3 ⟨rfl, qk⟩; have HKw3 := Lib.hid qk; clear qk))
  go_ret
  exact ⟨rfl, by
    have k1 := HKw1.out
    have k3 := (k1.allocs _ _).trans HKw3.out
    exact k3.grown⟩
set_option maxHeartbeats 8000000 in
theorem way_8_9t (a0 : Int) (h0 : 0 ≤ a0) (h1 : a0 < 4294967296) (op fn rd r1 r2 imm wid : Int) (wo us : Bool) (ho : spec a0 = some ⟨op, fn, rd, r1, r2, imm, wid, wo, us⟩) (hr : RegP ⟨op, fn, rd, r1, r2, imm, wid, wo, us⟩) (h : op = 8 ∧ fn = 9 ∧ 0 ≤ imm ∧ imm ≤ 31 ∧ wo = true) (w : World) :
    Calls Try.prog 4 #[.int .u32 a0] w fun e w' => e = .returned (.bool true) ∧ Grown w w' := by
  have HO := Lib.hid ho
  have P1 : Hid (0 ≤ rd ∧ rd ≤ 31) := Lib.hid hr.1
  have P2 : Hid (0 ≤ r1 ∧ r1 ≤ 31) := Lib.hid hr.2.1
  have P3 : Hid (0 ≤ r2 ∧ r2 ≤ 31) := Lib.hid hr.2.2.1
  have P4 : Hid (0 ≤ wid ∧ wid ≤ 6) := Lib.hid hr.2.2.2
  obtain ⟨e1, e2, e3, e4, rfl⟩ := h
  have h : op = 8 ∧ fn = 9 ∧ 0 ≤ imm ∧ imm ≤ 31 := ⟨e1, e2, e3, e4⟩
  have l32 : imm < 32 := (by omega)
  clear e1 e2 e3 e4
  have t0 : (op == 1) = false := by simp; omega
  have t1 : (op == 2) = false := by simp; omega
  have t2 : (op == 3) = false := by simp; omega
  have t3 : (op == 5) = false := by simp; omega
  have t4 : (op == 4) = false := by simp; omega
  have t5 : (op == 6) = false := by simp; omega
  have t6 : (op == 7) = false := by simp; omega
  have t7 : (op == 8) = true := by simp; omega
  have t8 : (fn == 1) = false := by simp; omega
  have t9 : (fn == 5) = false := by simp; omega
  have t10 : (fn == 9) = true := by simp; omega
  have H := Lib.hid h
  clear h ho hr
  go_enter Try.func4, Try.ntmps4
  go_wp2_with (first | (go_at_call 8; (with_reducible refine (decode_at a0 h0 h1 _ HO.out _).mono ?_); rintro e' w1 ⟨rfl, qk⟩; have HKw1 := Lib.hid qk; dsimp only [decV, Ins.v, zIns]; have szw1 := qk.size; (try simp at szw1); clear qk) | (go_at_call 11; with_reducible refine (within_w rd (0) (31) P1.out _).mono ?_; rintro e' w9 ⟨rfl, rfl⟩) | (go_at_call 11; with_reducible refine (within_w r1 (0) (31) P2.out _).mono ?_; rintro e' w9 ⟨rfl, rfl⟩) | (go_at_call 11; with_reducible refine (within_w r2 (0) (31) P3.out _).mono ?_; rintro e' w9 ⟨rfl, rfl⟩) | (go_at_call 11; with_reducible refine (within_w wid (0) (6) P4.out _).mono ?_; rintro e' w9 ⟨rfl, rfl⟩) | (go_at_call 11; with_reducible refine (within_w op (1) (22) ⟨by have := H.out; omega, by have := H.out; omega⟩ _).mono ?_; rintro e' w9 ⟨rfl, rfl⟩) | (go_at_call 11; with_reducible refine (within_w imm (0) (63) ⟨by have := H.out; omega, by have := H.out; omega⟩ _).mono ?_; rintro e' w9 ⟨rfl, rfl⟩) | (go_at_call 10; (with_reducible refine (known_w _).mono ?_); rintro e' w3 ⟨rfl, qk⟩; have HKw3 := Lib.hid qk; clear qk))
  go_ret
  exact ⟨rfl, by
    have k1 := HKw1.out
    have k3 := (k1.allocs _ _).trans HKw3.out
    exact k3.grown⟩
set_option maxHeartbeats 8000000 in
theorem way_8_9f (a0 : Int) (h0 : 0 ≤ a0) (h1 : a0 < 4294967296) (op fn rd r1 r2 imm wid : Int) (wo us : Bool) (ho : spec a0 = some ⟨op, fn, rd, r1, r2, imm, wid, wo, us⟩) (hr : RegP ⟨op, fn, rd, r1, r2, imm, wid, wo, us⟩) (h : op = 8 ∧ fn = 9 ∧ 0 ≤ imm ∧ imm ≤ 63 ∧ wo = false) (w : World) :
    Calls Try.prog 4 #[.int .u32 a0] w fun e w' => e = .returned (.bool true) ∧ Grown w w' := by
  have HO := Lib.hid ho
  have P1 : Hid (0 ≤ rd ∧ rd ≤ 31) := Lib.hid hr.1
  have P2 : Hid (0 ≤ r1 ∧ r1 ≤ 31) := Lib.hid hr.2.1
  have P3 : Hid (0 ≤ r2 ∧ r2 ≤ 31) := Lib.hid hr.2.2.1
  have P4 : Hid (0 ≤ wid ∧ wid ≤ 6) := Lib.hid hr.2.2.2
  obtain ⟨e1, e2, e3, e4, rfl⟩ := h
  have h : op = 8 ∧ fn = 9 ∧ 0 ≤ imm ∧ imm ≤ 63 := ⟨e1, e2, e3, e4⟩
  clear e1 e2 e3 e4
  have t0 : (op == 1) = false := by simp; omega
  have t1 : (op == 2) = false := by simp; omega
  have t2 : (op == 3) = false := by simp; omega
  have t3 : (op == 5) = false := by simp; omega
  have t4 : (op == 4) = false := by simp; omega
  have t5 : (op == 6) = false := by simp; omega
  have t6 : (op == 7) = false := by simp; omega
  have t7 : (op == 8) = true := by simp; omega
  have t8 : (fn == 1) = false := by simp; omega
  have t9 : (fn == 5) = false := by simp; omega
  have t10 : (fn == 9) = true := by simp; omega
  have H := Lib.hid h
  clear h ho hr
  go_enter Try.func4, Try.ntmps4
  go_wp2_with (first | (go_at_call 8; (with_reducible refine (decode_at a0 h0 h1 _ HO.out _).mono ?_); rintro e' w1 ⟨rfl, qk⟩; have HKw1 := Lib.hid qk; dsimp only [decV, Ins.v, zIns]; have szw1 := qk.size; (try simp at szw1); clear qk) | (go_at_call 11; with_reducible refine (within_w rd (0) (31) P1.out _).mono ?_; rintro e' w9 ⟨rfl, rfl⟩) | (go_at_call 11; with_reducible refine (within_w r1 (0) (31) P2.out _).mono ?_; rintro e' w9 ⟨rfl, rfl⟩) | (go_at_call 11; with_reducible refine (within_w r2 (0) (31) P3.out _).mono ?_; rintro e' w9 ⟨rfl, rfl⟩) | (go_at_call 11; with_reducible refine (within_w wid (0) (6) P4.out _).mono ?_; rintro e' w9 ⟨rfl, rfl⟩) | (go_at_call 11; with_reducible refine (within_w op (1) (22) ⟨by have := H.out; omega, by have := H.out; omega⟩ _).mono ?_; rintro e' w9 ⟨rfl, rfl⟩) | (go_at_call 11; with_reducible refine (within_w imm (0) (63) ⟨by have := H.out; omega, by have := H.out; omega⟩ _).mono ?_; rintro e' w9 ⟨rfl, rfl⟩) | (go_at_call 10; (with_reducible refine (known_w _).mono ?_); rintro e' w3 ⟨rfl, qk⟩; have HKw3 := Lib.hid qk; clear qk))
  go_ret
  exact ⟨rfl, by
    have k1 := HKw1.out
    have k3 := (k1.allocs _ _).trans HKw3.out
    exact k3.grown⟩
set_option maxHeartbeats 8000000 in
theorem way_19 (a0 : Int) (h0 : 0 ≤ a0) (h1 : a0 < 4294967296) (op fn rd r1 r2 imm wid : Int) (wo us : Bool) (ho : spec a0 = some ⟨op, fn, rd, r1, r2, imm, wid, wo, us⟩) (hr : RegP ⟨op, fn, rd, r1, r2, imm, wid, wo, us⟩) (h : op = 19 ∧ 0 ≤ imm ∧ imm ≤ 4095 ∧ 1 ≤ fn ∧ fn ≤ 3) (w : World) :
    Calls Try.prog 4 #[.int .u32 a0] w fun e w' => e = .returned (.bool true) ∧ Grown w w' := by
  have HO := Lib.hid ho
  have P1 : Hid (0 ≤ rd ∧ rd ≤ 31) := Lib.hid hr.1
  have P2 : Hid (0 ≤ r1 ∧ r1 ≤ 31) := Lib.hid hr.2.1
  have P3 : Hid (0 ≤ r2 ∧ r2 ≤ 31) := Lib.hid hr.2.2.1
  have P4 : Hid (0 ≤ wid ∧ wid ≤ 6) := Lib.hid hr.2.2.2
  have t0 : (op == 1) = false := by simp; omega
  have t1 : (op == 2) = false := by simp; omega
  have t2 : (op == 3) = false := by simp; omega
  have t3 : (op == 5) = false := by simp; omega
  have t4 : (op == 4) = false := by simp; omega
  have t5 : (op == 6) = false := by simp; omega
  have t6 : (op == 7) = false := by simp; omega
  have t7 : (op == 8) = false := by simp; omega
  have t8 : (op == 19) = true := by simp; omega
  have H := Lib.hid h
  clear h ho hr
  go_enter Try.func4, Try.ntmps4
  go_wp2_with (first | (go_at_call 8; (with_reducible refine (decode_at a0 h0 h1 _ HO.out _).mono ?_); rintro e' w1 ⟨rfl, qk⟩; have HKw1 := Lib.hid qk; dsimp only [decV, Ins.v, zIns]; have szw1 := qk.size; (try simp at szw1); clear qk) | (go_at_call 11; with_reducible refine (within_w rd (0) (31) P1.out _).mono ?_; rintro e' w9 ⟨rfl, rfl⟩) | (go_at_call 11; with_reducible refine (within_w r1 (0) (31) P2.out _).mono ?_; rintro e' w9 ⟨rfl, rfl⟩) | (go_at_call 11; with_reducible refine (within_w r2 (0) (31) P3.out _).mono ?_; rintro e' w9 ⟨rfl, rfl⟩) | (go_at_call 11; with_reducible refine (within_w wid (0) (6) P4.out _).mono ?_; rintro e' w9 ⟨rfl, rfl⟩) | (go_at_call 11; with_reducible refine (within_w op (1) (22) ⟨by have := H.out; omega, by have := H.out; omega⟩ _).mono ?_; rintro e' w9 ⟨rfl, rfl⟩) | (go_at_call 11; with_reducible refine (within_w imm (0) (4095) ⟨by have := H.out; omega, by have := H.out; omega⟩ _).mono ?_; rintro e' w9 ⟨rfl, rfl⟩) | (go_at_call 11; with_reducible refine (within_w fn (1) (3) ⟨by have := H.out; omega, by have := H.out; omega⟩ _).mono ?_; rintro e' w9 ⟨rfl, rfl⟩) | (go_at_call 10; (with_reducible refine (known_w _).mono ?_); rintro e' w3 ⟨rfl, qk⟩; have HKw3 := Lib.hid qk; clear qk))
  go_ret
  exact ⟨rfl, by
    have k1 := HKw1.out
    have k3 := (k1.allocs _ _).trans HKw3.out
    exact k3.grown⟩
set_option maxHeartbeats 8000000 in
theorem way_0 (a0 : Int) (h0 : 0 ≤ a0) (h1 : a0 < 4294967296) (op fn rd r1 r2 imm wid : Int) (wo us : Bool) (ho : spec a0 = some ⟨op, fn, rd, r1, r2, imm, wid, wo, us⟩) (hr : RegP ⟨op, fn, rd, r1, r2, imm, wid, wo, us⟩) (h : (9 ≤ op ∧ op ≤ 22 ∧ ¬ op = 19) ∧ imm = 0) (w : World) :
    Calls Try.prog 4 #[.int .u32 a0] w fun e w' => e = .returned (.bool true) ∧ Grown w w' := by
  have HO := Lib.hid ho
  have P1 : Hid (0 ≤ rd ∧ rd ≤ 31) := Lib.hid hr.1
  have P2 : Hid (0 ≤ r1 ∧ r1 ≤ 31) := Lib.hid hr.2.1
  have P3 : Hid (0 ≤ r2 ∧ r2 ≤ 31) := Lib.hid hr.2.2.1
  have P4 : Hid (0 ≤ wid ∧ wid ≤ 6) := Lib.hid hr.2.2.2
  have t0 : (op == 1) = false := by simp; omega
  have t1 : (op == 2) = false := by simp; omega
  have t2 : (op == 3) = false := by simp; omega
  have t3 : (op == 5) = false := by simp; omega
  have t4 : (op == 4) = false := by simp; omega
  have t5 : (op == 6) = false := by simp; omega
  have t6 : (op == 7) = false := by simp; omega
  have t7 : (op == 8) = false := by simp; omega
  have t8 : (op == 19) = false := by simp; omega
  have t9 : (imm == 0) = true := by simp; omega
  have H := Lib.hid h
  clear h ho hr
  go_enter Try.func4, Try.ntmps4
  go_wp2_with (first | (go_at_call 8; (with_reducible refine (decode_at a0 h0 h1 _ HO.out _).mono ?_); rintro e' w1 ⟨rfl, qk⟩; have HKw1 := Lib.hid qk; dsimp only [decV, Ins.v, zIns]; have szw1 := qk.size; (try simp at szw1); clear qk) | (go_at_call 11; with_reducible refine (within_w rd (0) (31) P1.out _).mono ?_; rintro e' w9 ⟨rfl, rfl⟩) | (go_at_call 11; with_reducible refine (within_w r1 (0) (31) P2.out _).mono ?_; rintro e' w9 ⟨rfl, rfl⟩) | (go_at_call 11; with_reducible refine (within_w r2 (0) (31) P3.out _).mono ?_; rintro e' w9 ⟨rfl, rfl⟩) | (go_at_call 11; with_reducible refine (within_w wid (0) (6) P4.out _).mono ?_; rintro e' w9 ⟨rfl, rfl⟩) | (go_at_call 11; with_reducible refine (within_w op (1) (22) ⟨by have := H.out; omega, by have := H.out; omega⟩ _).mono ?_; rintro e' w9 ⟨rfl, rfl⟩) | (go_at_call 10; (with_reducible refine (known_w _).mono ?_); rintro e' w3 ⟨rfl, qk⟩; have HKw3 := Lib.hid qk; clear qk))
  go_ret
  exact ⟨rfl, by
    have k1 := HKw1.out
    have k3 := (k1.allocs _ _).trans HKw3.out
    exact k3.grown⟩
set_option maxHeartbeats 4000000 in
theorem walk (a0 : Int) (w0 : (Lit.int .u32 a0).wf = true) (w : World) :
    Calls Try.prog 4 #[.int .u32 a0] w fun e w' => e = .returned (.bool true) ∧ Grown w w' := by
  obtain ⟨h0, h1⟩ := u32_bd w0
  obtain ⟨o, ho⟩ : ∃ o, spec a0 = o := ⟨_, rfl⟩
  rcases o with _ | ⟨op, fn, rd, r1, r2, imm, wid, wo, us⟩
  · have HO := Lib.hid ho
    clear ho
    have q1 := ins_eql 0 0 0 0 0 0 0 false false 0 0
    go_enter Try.func4, Try.ntmps4
    go_wp2_with (first | (go_at_call 8; (with_reducible refine (decode_at a0 h0 h1 _ HO.out _).mono ?_); rintro e' w1 ⟨rfl, qk⟩; have HKw1 := Lib.hid qk; dsimp only [decV, Ins.v, zIns]; have szw1 := qk.size; (try simp at szw1); clear qk) | (go_at_call 10; (with_reducible refine (known_w _).mono ?_); rintro e' w3 ⟨rfl, qk⟩; have HKw3 := Lib.hid qk; clear qk))
    go_ret
    exact ⟨rfl, by
      have k1 := HKw1.out
      have k3 := (k1.allocs _ _).trans HKw3.out
      exact k3.grown⟩
  · obtain ⟨hr, hn⟩ := fine a0 _ ho
    simp only [NumP] at hn
    rcases hn with ⟨g | g, h⟩ | h | h | ⟨g | g | g, h⟩ | h | ⟨g, g1 | g1 | g1, h2, h3, h4⟩ | h | h
    · exact way_1 a0 h0 h1 _ _ _ _ _ _ _ _ _ ho hr ⟨g, h⟩ w
    · exact way_2 a0 h0 h1 _ _ _ _ _ _ _ _ _ ho hr ⟨g, h⟩ w
    · exact way_3 a0 h0 h1 _ _ _ _ _ _ _ _ _ ho hr h w
    · exact way_5 a0 h0 h1 _ _ _ _ _ _ _ _ _ ho hr h w
    · exact way_4 a0 h0 h1 _ _ _ _ _ _ _ _ _ ho hr ⟨g, h⟩ w
    · exact way_6 a0 h0 h1 _ _ _ _ _ _ _ _ _ ho hr ⟨g, h⟩ w
    · exact way_7 a0 h0 h1 _ _ _ _ _ _ _ _ _ ho hr ⟨g, h⟩ w
    · exact way_8n a0 h0 h1 _ _ _ _ _ _ _ _ _ ho hr h w
    · cases wo
      · exact way_8_1f a0 h0 h1 _ _ _ _ _ _ _ _ _ ho hr ⟨g, g1, h2, h3, rfl⟩ w
      · exact way_8_1t a0 h0 h1 _ _ _ _ _ _ _ _ _ ho hr ⟨g, g1, h2, by have := h4 rfl; omega, rfl⟩ w
    · cases wo
      · exact way_8_5f a0 h0 h1 _ _ _ _ _ _ _ _ _ ho hr ⟨g, g1, h2, h3, rfl⟩ w
      · exact way_8_5t a0 h0 h1 _ _ _ _ _ _ _ _ _ ho hr ⟨g, g1, h2, by have := h4 rfl; omega, rfl⟩ w
    · cases wo
      · exact way_8_9f a0 h0 h1 _ _ _ _ _ _ _ _ _ ho hr ⟨g, g1, h2, h3, rfl⟩ w
      · exact way_8_9t a0 h0 h1 _ _ _ _ _ _ _ _ _ ho hr ⟨g, g1, h2, by have := h4 rfl; omega, rfl⟩ w
    · exact way_19 a0 h0 h1 _ _ _ _ _ _ _ _ _ ho hr h w
    · exact way_0 a0 h0 h1 _ _ _ _ _ _ _ _ _ ho hr h w
end Go.Proofs.Ytnnllahihggkjaa.baseFields
