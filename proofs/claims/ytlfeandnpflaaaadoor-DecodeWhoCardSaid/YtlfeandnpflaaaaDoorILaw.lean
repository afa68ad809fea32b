/-
  What the laws of layer 7 share: Decode at a word whose instruction is known, two instructions held against each other, the chapter's words. No condition.
-/
import Derived.Test.YtlfeandnpflaaaaDoorIDec
namespace Go.Proofs.YtlfeandnpflaaaaDoor
open Go.ChangeShapes Go.WideShapes Go.ChangeAt Go.RowKit
set_option linter.unusedVariables false
set_option linter.unusedSimpArgs false

theorem decode_at (x : Int) (x0 : 0 ≤ x) (x1 : x < 4294967296) (o : Option Ins) (ho : spec x = o) (w : World) :
    Calls Tryd.prog 9 #[.int .u32 x] w fun e w' => e = .returned (decV o x) ∧ Kp w w' := by subst ho; exact decode_w x x0 x1 w
theorem ins_eql (op fn rd r1 r2 imm wid : Int) (wo us : Bool) (len raw : Int) (w : World) :
    (binOp .eql 24 (.agg #[.int .i64 op, .int .i64 fn, .int .i64 rd, .int .i64 r1, .int .i64 r2, .int .i64 imm, .int .i64 wid, .bool wo, .bool us, .int .i64 len, .int .u32 raw]) (.agg #[.int .i64 op, .int .i64 fn, .int .i64 rd, .int .i64 r1, .int .i64 r2, .int .i64 imm, .int .i64 wid, .bool wo, .bool us, .int .i64 len, .int .u32 raw])).run Tryd.prog w = .ok (.bool true) w := by
  simp [go_sem]
theorem ins_neq (op fn rd r1 r2 imm wid : Int) (wo us : Bool) (len raw : Int) (w : World) :
    (binOp .neq 24 (.agg #[.int .i64 op, .int .i64 fn, .int .i64 rd, .int .i64 r1, .int .i64 r2, .int .i64 imm, .int .i64 wid, .bool wo, .bool us, .int .i64 len, .int .u32 raw]) (.agg #[.int .i64 op, .int .i64 fn, .int .i64 rd, .int .i64 r1, .int .i64 r2, .int .i64 imm, .int .i64 wid, .bool wo, .bool us, .int .i64 len, .int .u32 raw])).run Tryd.prog w = .ok (.bool false) w := by
  simp [go_sem]
theorem sp_a : spec 10487059 = some ⟨8, 0, 10, 0, 0, 10, 0, false, false⟩ := by decide
theorem sp_b : spec 4261416675 = some ⟨5, 0, 0, 0, 0, -4, 0, false, false⟩ := by decide
theorem sp_0 : spec 0 = none := by decide
end Go.Proofs.YtlfeandnpflaaaaDoor
