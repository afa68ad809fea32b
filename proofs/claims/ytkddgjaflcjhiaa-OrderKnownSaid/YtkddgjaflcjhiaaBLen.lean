/-
  The contract of bounds.Len: how many bytes a range has. Numbers are within their types.
-/
import Derived.Test.YtkddgjaflcjhiaaBIn
namespace Go.Proofs.Ytkddgjaflcjhiaa
open Go.ChangeShapes Go.WideShapes Go.ChangeAt Go.RowKit
set_option linter.unusedVariables false
set_option linter.unusedSimpArgs false
/-- What Len's first statement leaves. -/
def LenMid (w : World) (b t : Int) (o : Bool) (s3 s4 : Value) (wx : World) : Prop := ∃ g h : Nat, s3 = .pointer (some ⟨g, 0, none⟩) ∧ s4 = .pointer (some ⟨h, 0, none⟩) ∧
  wx.cell? ⟨g, 0, none⟩ = some (.int .u64 0) ∧ wx.cell? ⟨g, 1, none⟩ = some (.int .u64 b) ∧ wx.cell? ⟨h, 0, none⟩ = some (.int .u64 (b01 o)) ∧ wx.cell? ⟨h, 1, none⟩ = some (.int .u64 t) ∧
  wx.cell? ⟨w.heap.size, 0, none⟩ = some (.int .u64 b) ∧ wx.cell? ⟨w.heap.size, 1, none⟩ = some (.int .u64 t) ∧ w.heap.size < g ∧ w.heap.size < h ∧ g < wx.heap.size ∧ h < wx.heap.size ∧ Kp w wx
end Go.Proofs.Ytkddgjaflcjhiaa
