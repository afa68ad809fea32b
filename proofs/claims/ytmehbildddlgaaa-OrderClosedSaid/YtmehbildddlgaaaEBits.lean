/-
  Contracts of capenc's mix and split, and of toBits: a right capability's fields as bits.
-/
import Derived.Test.YtmehbildddlgaaaECode
namespace Go.Proofs.Ytmehbildddlgaaa
open Go.ChangeShapes Go.WideShapes Go.ChangeAt Go.RowKit
set_option linter.unusedVariables false
set_option linter.unusedSimpArgs false

/-- A capability's fields as bits. -/
def bitsV (pe ty mo e b t : Int) (g : Bool) : Int := (b + b01 g * (e % 8)) + 16384 * (t + b01 g * (e / 8)) + 67108864 * b01 g + 134217728 * ty + 35184372088832 * mo + 70368744177664 * pe
end Go.Proofs.Ytmehbildddlgaaa
