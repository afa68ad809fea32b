/-
  Blocks through calls that write into objects alone. No condition.
-/
import Derived.Test.YtikibfpfieoabaaQFr
namespace Go.Proofs.Ytikibfpfieoabaa
open Go.ChangeShapes Go.WideShapes Go.ChangeAt Go.RowKit
set_option linter.unusedVariables false
set_option linter.unusedSimpArgs false
theorem At.below {b : Nat} {vs : List Value} {w w' : World} (h : At b vs w) (k : Below w.heap.size w w') (hb : b < w.heap.size) : At b vs w' := fun i v hi => (k.cell (p := ⟨b, i, none⟩) hb).trans (h i v hi)
theorem At.fram {b : Nat} {vs : List Value} {w w' : World} {S : Nat → Prop} (h : At b vs w) (k : Fr w w' S) (hb : b < w.heap.size) (hS : ¬ S b) : At b vs w' := fun i v hi => (World.cell?_of_block (w := w) (k.block b hb hS)).trans (h i v hi)
/-- What was there ahead of the object stays. -/
theorem Fr.lows {w w' : World} {lo hi n : Nat} (f : Fr w w' (Rg lo hi)) (h1 : n ≤ w.heap.size) (h2 : n ≤ lo) : Below n w w' := f.bl h1 (fun i h => Nat.le_trans h2 h.1)
theorem Fr.drew_ (w : World) (S : Nat → Prop) : Fr w w.drew S := (Fr.refl w S).drew
end Go.Proofs.Ytikibfpfieoabaa
