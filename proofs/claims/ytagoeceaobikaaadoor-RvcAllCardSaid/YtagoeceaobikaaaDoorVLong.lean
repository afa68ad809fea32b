/-
  RvcLong: what a half stands for is an instruction that base knows; RvcReach: how far; what twice says. No condition but what the tables hold.
-/
import Derived.Test.YtagoeceaobikaaaDoorVLaw
import Derived.Test.YtagoeceaobikaaaDoorILaw
import Derived.Test.YtagoeceaobikaaaDoorCAt
namespace Go.Proofs.YtagoeceaobikaaaDoor
open Go.ChangeShapes Go.WideShapes Go.ChangeAt Go.RowKit
set_option linter.unusedVariables false
set_option linter.unusedSimpArgs false
theorem kind_op (i : Ins) (h : kindB i = true) : i.op = 8 ∨ i.op = 9 ∨ i.op = 1 ∨ i.op = 6 ∨ i.op = 7 ∨ i.op = 5 ∨ i.op = 3 ∨ i.op = 4 ∨ i.op = 14 := by
  simp only [kindB, Bool.or_eq_true, beq_iff_eq] at h; omega
set_option maxHeartbeats 4000000 in
theorem long_n (x : Nat) (hx : x < 65536) (h : ex x = none) (w : World) (tb : Tb w) :
    Calls Tryd.prog 4 #[.int .u16 (x : Int)] w fun e w' => e = .returned (.bool true) ∧ Kp w w' := by
  have TB := Lib.hid tb
  have EX := Lib.hid h
  clear tb h
  go_enter Tryd.func4, Tryd.ntmps4
  go_wp2_with (first | (go_at_call 9; (with_reducible refine (expand_n x hx  EX.out _ TB.out).mono ?_); rintro e' w1 ⟨rfl, qk⟩; have HK1 := Lib.hid qk; have TB1 := Lib.hid (Tb.kp TB.out qk); clear qk) | (go_at_call 11; (with_reducible refine (works_w _ TB1.out).mono ?_); rintro e' w2 ⟨rfl, qk⟩; have HK2 := Lib.hid qk; clear qk))
  go_ret
  exact ⟨rfl, HK1.out.trans HK2.out⟩
set_option maxHeartbeats 4000000 in
theorem long_s (x : Nat) (hx : x < 65536) (v : Nat) (i : Ins) (h : ex x = some v) (v1 : v < 4294967296) (m1 : v % 4 = 3) (m2 : x % 4 ≠ 3) (hi : spec v = some i) (hk : kindB i = true) (w : World) (tb : Tb w) :
    Calls Tryd.prog 4 #[.int .u16 (x : Int)] w fun e w' => e = .returned (.bool true) ∧ Kp w w' := by
  have TB := Lib.hid tb
  have EX := Lib.hid h
  have t1 : ((v : Int) % 4 == 3) = true := by simp; omega
  have t2 : ((x : Int) % 4 != 3) = true := by simp; omega
  have t3 : ((v : Int).tmod 4 == 3) = true := by rw [Int.tmod_eq_emod_of_nonneg (by omega)]; exact t1
  have t4 : ((x : Int).tmod 4 != 3) = true := by rw [Int.tmod_eq_emod_of_nonneg (by omega)]; exact t2
  have ho := kind_op i hk
  obtain ⟨op, fn, rd, r1, r2, imm, wid, wo, us⟩ := i
  dsimp only at ho
  clear tb h m1 m2 hk
  rcases ho with rfl | rfl | rfl | rfl | rfl | rfl | rfl | rfl | rfl
  all_goals
    have HI := Lib.hid hi
    clear hi
    go_enter Tryd.func4, Tryd.ntmps4
    go_wp2_with (first | (go_at_call 9; (with_reducible refine (expand_s x hx v EX.out _ TB.out).mono ?_); rintro e' w1 ⟨rfl, qk⟩; have HK1 := Lib.hid qk; have TB1 := Lib.hid (Tb.kp TB.out qk); clear qk) | (go_at_call 12; (with_reducible refine (decode_at v (by omega) (by omega) _ HI.out _).mono ?_); rintro e' w2 ⟨rfl, qk⟩; have HK2 := Lib.hid qk; dsimp only [decV, Ins.v]; have TB2 := Lib.hid (Tb.kp TB1.out qk); clear qk) | (go_at_call 11; (with_reducible refine (works_w _ (TB2.out.kp ((Kp.refl _).allocs _ _))).mono ?_); rintro e' w3 ⟨rfl, qk⟩; have HK3 := Lib.hid qk; clear qk))
    go_ret
    exact ⟨rfl, ((HK1.out.trans HK2.out).allocs _ _).trans HK3.out⟩
theorem long_w (x : Nat) (hx : x < 65536) (w : World) (tb : Tb w) :
    Calls Tryd.prog 4 #[.int .u16 (x : Int)] w fun e w' => e = .returned (.bool true) ∧ Kp w w' := by
  rcases facts x hx with ⟨h, d⟩ | ⟨v, i, h, d, v0, v1, m1, m2, hi, hk, hr, ht⟩
  · exact long_n x hx h w tb
  · exact long_s x hx v i h v1 m1 m2 hi hk w tb
end Go.Proofs.YtagoeceaobikaaaDoor
