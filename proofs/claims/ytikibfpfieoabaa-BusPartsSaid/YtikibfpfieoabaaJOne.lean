/-
  One bus of 4096 bytes; what 'known' of layer 15 does. No condition but what the calls lean on.
-/
import Derived.Test.YtikibfpfieoabaaJAt
namespace Go.Proofs.Ytikibfpfieoabaa
open Go.ChangeShapes Go.WideShapes Go.ChangeAt Go.RowKit
set_option linter.unusedVariables false
set_option linter.unusedSimpArgs false
set_option maxRecDepth 4000
theorem bs_ld1 {S : BS} {pa size : Int} (h : dvJ S.B.length pa size = 1) : S.ldV pa size = ldN S.B (pa - 2147483648) size ∧ S.ldO pa size = ldO S.B.length (pa - 2147483648) size ∧ S.ldS pa size = S ∧ ∀ v, S.stS pa size v = { S with B := sB S.B (pa - 2147483648) size v, T := sT S.B.length S.T (pa - 2147483648) size } := by
  unfold BS.ldV BS.ldO BS.ldS BS.stS; rw [h]; exact ⟨rfl, rfl, rfl, fun _ => rfl⟩
theorem bs_ld0 {S : BS} {pa size : Int} (h : dvJ S.B.length pa size = 0) : S.ldV pa size = 0 ∧ S.ldO pa size = false ∧ S.ldS pa size = S ∧ ∀ v, S.stS pa size v = S := by
  unfold BS.ldV BS.ldO BS.ldS BS.stS; rw [h]; exact ⟨rfl, rfl, rfl, fun _ => rfl⟩
theorem cjnew_4k (w : World) (tb : JTb w) : Calls Try.prog 7 #[.int .i64 4096] w fun e w' => ∃ g, e = .returned (.tuple #[.pointer (some ⟨g, 0, none⟩), .int .i64 0]) ∧ Bu w' w.heap.size w'.heap.size g (BS.new 4096) ∧ Below w.heap.size w w' := cjnew_yes 4096 (by decide) w tb
theorem b4_ok : (BS.new 4096).Ok := BS.new_ok 4096 (by decide)
theorem b4_len : (BS.new 4096).B.length = 4096 := List.length_replicate
def kS1 : BS := (BS.new 4096).stS 2147487740 4 7
def kS2 : BS := kS1.stS 33554432 4 1
theorem kk1 : kS1.Ok := b4_ok.stS _ _ _ (by decide) (by decide)
theorem kk2 : kS2.Ok := kk1.stS _ _ _ (by decide) (by decide)
theorem kf1 : (BS.new 4096).ldO 2147487740 4 = true := by decide +kernel
theorem kf2 : kS1.ldO 33554432 4 = true := by decide +kernel
theorem kf3 : kS2.ldV 2147487740 4 = 7 := by decide +kernel
theorem kf4 : kS2.ldO 2147487740 4 = true := by decide +kernel
theorem kd1 : dvJ kS2.B.length 2147487740 4 = 1 := by decide +kernel
theorem kd2 : dvJ kS2.B.length 2147487740 8 = 0 := by decide +kernel
theorem kf5 : kS2.ldS 2147487740 4 = kS2 := (bs_ld1 kd1).2.2.1
theorem kf6 : kS2.ldV 2147487740 8 = 0 := (bs_ld0 kd2).1
theorem kf7 : kS2.ldO 2147487740 8 = false := (bs_ld0 kd2).2.1
theorem kf8 : kS2.ldS 2147487740 8 = kS2 := (bs_ld0 kd2).2.2.1
theorem kf9 : kS2.lines = 8 := by decide +kernel
set_option maxHeartbeats 8000000 in
theorem known15_w (W : World) (tb : JTb W) :
    Calls Try.prog 12 #[] W fun e w' => e = .returned (.bool true) ∧ Below W.heap.size W w' := by
  have HTB := Lib.hid tb
  have NK0 := Lib.hid b4_ok
  have NK1 := Lib.hid kk1
  have NK2 := Lib.hid kk2
  clear tb
  go_enter Try.func12, Try.ntmps12
  go_wp2_with (first | (go_at_call 7; (with_reducible refine (cjnew_4k _ HTB.out).mono ?_); rintro e' w0 ⟨g, rfl, m0, b0⟩; have hs0 := b0.size; have H0 := Lib.hid (OneJ.mk m0 b0); clear m0 b0) | (go_at_call 11; (with_reducible refine (cjstore_at H0.out.o NK0.out (JTb.h1 HTB (Lib.hid H0.out.b)) 2147487740 4 7 true kS1 kf1 rfl (by decide) (by decide) (by decide) (by decide) (by decide) (by decide)).mono ?_); rintro e' w1 ⟨rfl, m1, f1⟩; have hs1 := f1.size; have H1 := Lib.hid (H0.out.code m1 f1); clear m1 f1) | (go_at_call 11; (with_reducible refine (cjstore_at H1.out.o NK1.out (JTb.h1 HTB (Lib.hid H1.out.b)) 33554432 4 1 true kS2 kf2 rfl (by decide) (by decide) (by decide) (by decide) (by decide) (by decide)).mono ?_); rintro e' w2 ⟨rfl, m2, f2⟩; have hs2 := f2.size; have H2 := Lib.hid (H1.out.code m2 f2); clear m2 f2) | (go_at_call 10; (with_reducible refine (cjload_at H2.out.o NK2.out (JTb.h1 HTB (Lib.hid H2.out.b)) 2147487740 4 7 true kS2 kf3 kf4 kf5 (by decide) (by decide) (by decide) (by decide)).mono ?_); rintro e' w3 ⟨rfl, m3, f3⟩; have hs3 := f3.size; have H3 := Lib.hid (H2.out.code m3 f3); clear m3 f3) | (go_at_call 10; (with_reducible refine (cjload_at H3.out.o NK2.out (JTb.h1 HTB (Lib.hid H3.out.b)) 2147487740 8 0 false kS2 kf6 kf7 kf8 (by decide) (by decide) (by decide) (by decide)).mono ?_); rintro e' w4 ⟨rfl, m4, f4⟩; have hs4 := f4.size; have H4 := Lib.hid (H3.out.code m4 f4); clear m4 f4) | (go_at_call 13; (with_reducible refine (cjlines_at H4.out.o NK2.out (JTb.h1 HTB (Lib.hid H4.out.b)) 8 kf9).mono ?_); rintro e' w5 ⟨rfl, m5, f5⟩; have hs5 := f5.size; have H5 := Lib.hid (H4.out.code m5 f5); clear m5 f5))
  go_ret
  exact ⟨rfl, H5.out.b⟩
end Go.Proofs.Ytikibfpfieoabaa
