/-
  RamApart of layer 11: its walk. No condition.
-/
import Derived.Test.YteebmikjikjhmaaDoorQApart
namespace Go.Proofs.YteebmikjikjhmaaDoor.ramApart
open Go.ChangeShapes Go.WideShapes Go.ChangeAt Go.RowKit
set_option linter.unusedVariables false
set_option linter.unusedSimpArgs false
theorem own : ownKnob Tryd.prog.godebug = none := by kernel_rfl
theorem walk (a0 : Int) (a1 : Int) (a2 : Int) (a3 : Bool) (a4 : Int) (a5 : Int) (a6 : Int) (a7 : Int) (a8 : Int) (a9 : Bool) (a10 : Int) (a11 : Int) (w0 : (Lit.int .i64 a0).wf = true) (w1 : (Lit.int .i64 a1).wf = true) (w2 : (Lit.int .i64 a2).wf = true) (w4 : (Lit.int .u64 a4).wf = true) (w5 : (Lit.int .u64 a5).wf = true) (w6 : (Lit.int .i64 a6).wf = true) (w7 : (Lit.int .i64 a7).wf = true) (w8 : (Lit.int .i64 a8).wf = true) (w10 : (Lit.int .u64 a10).wf = true) (w11 : (Lit.int .u64 a11).wf = true) (W : World) (tb : Tb W) :
    Calls Tryd.prog 7 #[.agg #[.int .i64 a0, .int .i64 a1, .int .i64 a2, .bool a3, .int .u64 a4, .int .u64 a5], .agg #[.int .i64 a6, .int .i64 a7, .int .i64 a8, .bool a9, .int .u64 a10, .int .u64 a11]] W fun e w' => e = .returned (.bool true) ∧ Below W.heap.size W w' :=
  apart_w a0 a1 a2 a3 a4 a5 a6 a7 a8 a9 a10 a11 (i64_bd w0).1 (i64_bd w0).2 (i64_bd w1).1 (i64_bd w1).2 (i64_bd w2).1 (i64_bd w2).2 (i64_bd w6).1 (i64_bd w6).2 (i64_bd w7).1 (i64_bd w7).2 (i64_bd w8).1 (i64_bd w8).2 (u64_bd w4).1 (u64_bd w4).2 (u64_bd w5).1 (u64_bd w5).2 (u64_bd w10).1 (u64_bd w10).2 (u64_bd w11).1 (u64_bd w11).2 W tb
end Go.Proofs.YteebmikjikjhmaaDoor.ramApart
