/-
  OrderOrders: a capability that is not sealed is no more than itself; what is no more than what is no more is no more; moved it is no more: the walk of the law. No condition.
-/
import Derived.Test.YtngjboeblaldlaaOOrdersW
namespace Go.Proofs.Ytngjboeblaldlaa.orderOrders
open Go.ChangeShapes Go.WideShapes Go.ChangeAt Go.RowKit
set_option linter.unusedVariables false
set_option linter.unusedSimpArgs false
theorem own : ownKnob Try.prog.godebug = none := by kernel_rfl
theorem orders_all (a b c : Cp) (at' : Int) (ra : Raw a) (rb : Raw b) (rc : Raw c) (a0 : 0 ≤ at') (a1 : at' < 18446744073709551616) (w : World) :
    Calls Try.prog 6 #[.agg #[.bool a.tg, .int .i64 a.pe, .int .i64 a.ty, .int .i64 a.mo, .int .i64 a.e, .int .i64 a.b, .int .i64 a.t, .bool a.g, .int .u64 a.a], .agg #[.bool b.tg, .int .i64 b.pe, .int .i64 b.ty, .int .i64 b.mo, .int .i64 b.e, .int .i64 b.b, .int .i64 b.t, .bool b.g, .int .u64 b.a], .agg #[.bool c.tg, .int .i64 c.pe, .int .i64 c.ty, .int .i64 c.mo, .int .i64 c.e, .int .i64 c.b, .int .i64 c.t, .bool c.g, .int .u64 c.a], .int .u64 at'] w fun e' w' => e' = .returned (.bool true) ∧ Below w.heap.size w w' := by
  cases hr : rightL [a, b, c]
  · exact orders_no a b c at' ra rb rc hr w
  · have hr' := hr
    rw [rightL, Bool.and_eq_true, List.all_eq_true] at hr'
    have ha := RC.of_right ra (hr'.1 a (by simp))
    have hb := RC.of_right rb (hr'.1 b (by simp))
    have hc := RC.of_right rc (hr'.1 c (by simp))
    cases h0 : a.tg
    · exact orders_f a b c at' ha hb hc ra rb rc hr a0 a1 h0 w
    · cases h1 : a.sealed
      · cases h2 : lessB a b
        · exact orders_n a b c at' ha hb hc ra rb rc hr a0 a1 h0 h1 h2 w
        · cases h3 : lessB b c
          · exact orders_1 a b c at' ha hb hc ra rb rc hr a0 a1 h0 h1 h2 h3 w
          · exact orders_2 a b c at' ha hb hc ra rb rc hr a0 a1 h0 h1 h2 h3 w
      · exact orders_s a b c at' ha hb hc ra rb rc hr a0 a1 h0 h1 w
set_option maxHeartbeats 8000000 in
set_option maxRecDepth 100000 in
theorem walk (a0 : Bool) (a1 : Int) (a2 : Int) (a3 : Int) (a4 : Int) (a5 : Int) (a6 : Int) (a7 : Bool) (a8 : Int) (a9 : Bool) (a10 : Int) (a11 : Int) (a12 : Int) (a13 : Int) (a14 : Int) (a15 : Int) (a16 : Bool) (a17 : Int) (a18 : Bool) (a19 : Int) (a20 : Int) (a21 : Int) (a22 : Int) (a23 : Int) (a24 : Int) (a25 : Bool) (a26 : Int) (a27 : Int) (w1 : (Lit.int .i64 a1).wf = true) (w2 : (Lit.int .i64 a2).wf = true) (w3 : (Lit.int .i64 a3).wf = true) (w4 : (Lit.int .i64 a4).wf = true) (w5 : (Lit.int .i64 a5).wf = true) (w6 : (Lit.int .i64 a6).wf = true) (w8 : (Lit.int .u64 a8).wf = true) (w10 : (Lit.int .i64 a10).wf = true) (w11 : (Lit.int .i64 a11).wf = true) (w12 : (Lit.int .i64 a12).wf = true) (w13 : (Lit.int .i64 a13).wf = true) (w14 : (Lit.int .i64 a14).wf = true) (w15 : (Lit.int .i64 a15).wf = true) (w17 : (Lit.int .u64 a17).wf = true) (w19 : (Lit.int .i64 a19).wf = true) (w20 : (Lit.int .i64 a20).wf = true) (w21 : (Lit.int .i64 a21).wf = true) (w22 : (Lit.int .i64 a22).wf = true) (w23 : (Lit.int .i64 a23).wf = true) (w24 : (Lit.int .i64 a24).wf = true) (w26 : (Lit.int .u64 a26).wf = true) (w27 : (Lit.int .u64 a27).wf = true) (w : World) :
    Calls Try.prog 6 #[.agg #[.bool a0, .int .i64 a1, .int .i64 a2, .int .i64 a3, .int .i64 a4, .int .i64 a5, .int .i64 a6, .bool a7, .int .u64 a8], .agg #[.bool a9, .int .i64 a10, .int .i64 a11, .int .i64 a12, .int .i64 a13, .int .i64 a14, .int .i64 a15, .bool a16, .int .u64 a17], .agg #[.bool a18, .int .i64 a19, .int .i64 a20, .int .i64 a21, .int .i64 a22, .int .i64 a23, .int .i64 a24, .bool a25, .int .u64 a26], .int .u64 a27] w fun e w' => e = .returned (.bool true) ∧ Below w.heap.size w w' :=
  orders_all ⟨a0, a1, a2, a3, a4, a5, a6, a7, a8⟩ ⟨a9, a10, a11, a12, a13, a14, a15, a16, a17⟩ ⟨a18, a19, a20, a21, a22, a23, a24, a25, a26⟩ a27 ⟨(i64_bd w1).1, (i64_bd w1).2, (i64_bd w2).1, (i64_bd w2).2, (i64_bd w3).1, (i64_bd w3).2, (i64_bd w4).1, (i64_bd w4).2, (i64_bd w5).1, (i64_bd w5).2, (i64_bd w6).1, (i64_bd w6).2, (u64_bd w8).1, (u64_bd w8).2⟩ ⟨(i64_bd w10).1, (i64_bd w10).2, (i64_bd w11).1, (i64_bd w11).2, (i64_bd w12).1, (i64_bd w12).2, (i64_bd w13).1, (i64_bd w13).2, (i64_bd w14).1, (i64_bd w14).2, (i64_bd w15).1, (i64_bd w15).2, (u64_bd w17).1, (u64_bd w17).2⟩ ⟨(i64_bd w19).1, (i64_bd w19).2, (i64_bd w20).1, (i64_bd w20).2, (i64_bd w21).1, (i64_bd w21).2, (i64_bd w22).1, (i64_bd w22).2, (i64_bd w23).1, (i64_bd w23).2, (i64_bd w24).1, (i64_bd w24).2, (u64_bd w26).1, (u64_bd w26).2⟩ (u64_bd w27).1 (u64_bd w27).2 w
end Go.Proofs.Ytngjboeblaldlaa.orderOrders
