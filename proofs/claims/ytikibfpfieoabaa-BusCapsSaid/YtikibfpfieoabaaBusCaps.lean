/-
  BusCaps of layer 15: its walk. No condition but what the calls lean on.
-/
import Derived.Test.YtikibfpfieoabaaJCaps
namespace Go.Proofs.Ytikibfpfieoabaa.busCaps
open Go.ChangeShapes Go.WideShapes Go.ChangeAt Go.RowKit
set_option linter.unusedVariables false
set_option linter.unusedSimpArgs false
theorem own : ownKnob Try.prog.godebug = none := by kernel_rfl
theorem walk (a0 : Bool) (a1 a2 a3 a4 a5 a6 : Int) (a7 : Bool) (a8 : Int) (a9 : Bool) (a10 a11 a12 a13 a14 a15 : Int) (a16 : Bool) (a17 : Int) (a18 a19 a20 : Int) (w1 : (Lit.int .i64 a1).wf = true) (w2 : (Lit.int .i64 a2).wf = true) (w3 : (Lit.int .i64 a3).wf = true) (w4 : (Lit.int .i64 a4).wf = true) (w5 : (Lit.int .i64 a5).wf = true) (w6 : (Lit.int .i64 a6).wf = true) (w8 : (Lit.int .u64 a8).wf = true) (w10 : (Lit.int .i64 a10).wf = true) (w11 : (Lit.int .i64 a11).wf = true) (w12 : (Lit.int .i64 a12).wf = true) (w13 : (Lit.int .i64 a13).wf = true) (w14 : (Lit.int .i64 a14).wf = true) (w15 : (Lit.int .i64 a15).wf = true) (w17 : (Lit.int .u64 a17).wf = true) (w18 : (Lit.int .u64 a18).wf = true) (w19 : (Lit.int .u64 a19).wf = true) (w20 : (Lit.int .u64 a20).wf = true) (W : World) :
    Calls Try.prog 3 #[.agg #[.bool a0, .int .i64 a1, .int .i64 a2, .int .i64 a3, .int .i64 a4, .int .i64 a5, .int .i64 a6, .bool a7, .int .u64 a8], .agg #[.bool a9, .int .i64 a10, .int .i64 a11, .int .i64 a12, .int .i64 a13, .int .i64 a14, .int .i64 a15, .bool a16, .int .u64 a17], .int .u64 a18, .int .u64 a19, .int .u64 a20] W fun e w' => e = .returned (.bool true) ∧ Below W.heap.size W w' := caps_w a0 a1 a2 a3 a4 a5 a6 a7 a8 (i64_bd w1).1 (i64_bd w1).2 (i64_bd w2).1 (i64_bd w2).2 (i64_bd w3).1 (i64_bd w3).2 (i64_bd w4).1 (i64_bd w4).2 (i64_bd w5).1 (i64_bd w5).2 (i64_bd w6).1 (i64_bd w6).2 (u64_bd w8).1 (u64_bd w8).2 a9 a10 a11 a12 a13 a14 a15 a16 a17 (i64_bd w10).1 (i64_bd w10).2 (i64_bd w11).1 (i64_bd w11).2 (i64_bd w12).1 (i64_bd w12).2 (i64_bd w13).1 (i64_bd w13).2 (i64_bd w14).1 (i64_bd w14).2 (i64_bd w15).1 (i64_bd w15).2 (u64_bd w17).1 (u64_bd w17).2 a18 a19 a20 (u64_bd w18).1 (u64_bd w18).2 (u64_bd w19).1 (u64_bd w19).2 (u64_bd w20).1 (u64_bd w20).2 W (jtb_any W)
end Go.Proofs.Ytikibfpfieoabaa.busCaps
