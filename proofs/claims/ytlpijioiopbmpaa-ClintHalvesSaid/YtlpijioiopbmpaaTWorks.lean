/-
  The statements' known: an alarm at 10. No condition but what the calls lean on.
-/
import Derived.Test.YtlpijioiopbmpaaTAt
namespace Go.Proofs.Ytlpijioiopbmpaa
open Go.ChangeShapes Go.WideShapes Go.ChangeAt Go.RowKit
set_option linter.unusedVariables false
set_option linter.unusedSimpArgs false
def tS0 : TS := TS.new
theorem tk0 : tS0.Ok := TS.new_ok
theorem tf1 : tS0.timer = false := by decide +kernel
def tS1 : TS := tS0.stS 16384 8 10
theorem tk1 : tS1.Ok := tk0.stS _ _ _ (by decide) (by decide)
def tS2 : TS := tS1.tick 9
theorem tk2 : tS2.Ok := tk1.tick _
theorem tf4 : tS2.timer = false := by decide +kernel
def tS3 : TS := tS2.tick 1
theorem tk3 : tS3.Ok := tk2.tick _
theorem tf6 : tS3.timer = true := by decide +kernel
theorem tf7 : tS3.now = 10 := by decide +kernel
set_option maxRecDepth 4000 in
set_option maxHeartbeats 8000000 in
theorem known13_w (w : World) (tb : TTb w) : Calls Try.prog 18 #[] w fun e w' => e = .returned (.bool true) ∧ Below w.heap.size w w' := by
  have HTB := Lib.hid tb
  clear tb
  go_enter Try.func18, Try.ntmps18
  go_wp2_with (first | (go_at_call 8; (with_reducible refine (ctnew_w _ HTB.out).mono ?_); rintro e' w0 ⟨g, rfl, m0, b0⟩; have hs0 := b0.size; have HM0 := Lib.hid (show Cl w0 w.heap.size w0.heap.size g tS0 from m0); have HB0 := Lib.hid b0; clear m0 b0) | (go_at_call 21; (with_reducible refine (cttimer_at HM0.out tk0 (TTb.h1 HTB HB0) false tf1).mono ?_); rintro e' w1 ⟨rfl, m1, f1⟩; have hs1 := f1.size; have HM1 := Lib.hid m1; have HB1 := Lib.hid (HB0.out.trans (f1.lows HB0.out.size (Nat.le_refl _))); clear m1 f1) | (go_at_call 14; (with_reducible refine (ctstore_at HM1.out tk0 (TTb.h1 HTB HB1) 16384 8 10 true tS1 (by decide) rfl (by decide) (by decide) (by decide) (by decide) (by decide) (by decide)).mono ?_); rintro e' w2 ⟨rfl, m2, f2⟩; have hs2 := f2.size; have HM2 := Lib.hid m2; have HB2 := Lib.hid (HB1.out.trans (f2.lows HB1.out.size (Nat.le_refl _))); clear m2 f2) | (go_at_call 16; (with_reducible refine (cttick_at HM2.out tk1 (TTb.h1 HTB HB2) 9 tS2 rfl (by decide) (by decide)).mono ?_); rintro e' w3 ⟨rfl, m3, f3⟩; have hs3 := f3.size; have HM3 := Lib.hid m3; have HB3 := Lib.hid (HB2.out.trans (f3.lows HB2.out.size (Nat.le_refl _))); clear m3 f3) | (go_at_call 21; (with_reducible refine (cttimer_at HM3.out tk2 (TTb.h1 HTB HB3) false tf4).mono ?_); rintro e' w4 ⟨rfl, m4, f4⟩; have hs4 := f4.size; have HM4 := Lib.hid m4; have HB4 := Lib.hid (HB3.out.trans (f4.lows HB3.out.size (Nat.le_refl _))); clear m4 f4) | (go_at_call 16; (with_reducible refine (cttick_at HM4.out tk2 (TTb.h1 HTB HB4) 1 tS3 rfl (by decide) (by decide)).mono ?_); rintro e' w5 ⟨rfl, m5, f5⟩; have hs5 := f5.size; have HM5 := Lib.hid m5; have HB5 := Lib.hid (HB4.out.trans (f5.lows HB4.out.size (Nat.le_refl _))); clear m5 f5) | (go_at_call 21; (with_reducible refine (cttimer_at HM5.out tk3 (TTb.h1 HTB HB5) true tf6).mono ?_); rintro e' w6 ⟨rfl, m6, f6⟩; have hs6 := f6.size; have HM6 := Lib.hid m6; have HB6 := Lib.hid (HB5.out.trans (f6.lows HB5.out.size (Nat.le_refl _))); clear m6 f6) | (go_at_call 20; (with_reducible refine (cttime_at HM6.out tk3 (TTb.h1 HTB HB6) 10 tf7).mono ?_); rintro e' w7 ⟨rfl, m7, f7⟩; have hs7 := f7.size; have HM7 := Lib.hid m7; have HB7 := Lib.hid (HB6.out.trans (f7.lows HB6.out.size (Nat.le_refl _))); clear m7 f7))
  go_ret
  exact ⟨rfl, HB7.out⟩
end Go.Proofs.Ytlpijioiopbmpaa
