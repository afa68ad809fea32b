/-
  Room for eleven values in a block, for regions that draw their order. No condition.
-/
import Derived.Test.YtlfeandnpflaaaaDoorCAt
namespace Go.Proofs.YtlfeandnpflaaaaDoor
open Go.ChangeShapes Go.WideShapes Go.ChangeAt Go.RowKit
set_option linter.unusedVariables false
set_option linter.unusedSimpArgs false

theorem Rm.out11 {B : Nat} {w : World} (h : Rm B 11 w) : (∃ v, w.cell? ⟨B, 0, none⟩ = some v) ∧ w.frozen? ⟨B, 0, none⟩ = false ∧ (∃ v, w.cell? ⟨B, 1, none⟩ = some v) ∧ w.frozen? ⟨B, 1, none⟩ = false ∧ (∃ v, w.cell? ⟨B, 2, none⟩ = some v) ∧ w.frozen? ⟨B, 2, none⟩ = false ∧ (∃ v, w.cell? ⟨B, 3, none⟩ = some v) ∧ w.frozen? ⟨B, 3, none⟩ = false ∧ (∃ v, w.cell? ⟨B, 4, none⟩ = some v) ∧ w.frozen? ⟨B, 4, none⟩ = false ∧ (∃ v, w.cell? ⟨B, 5, none⟩ = some v) ∧ w.frozen? ⟨B, 5, none⟩ = false ∧ (∃ v, w.cell? ⟨B, 6, none⟩ = some v) ∧ w.frozen? ⟨B, 6, none⟩ = false ∧ (∃ v, w.cell? ⟨B, 7, none⟩ = some v) ∧ w.frozen? ⟨B, 7, none⟩ = false ∧ (∃ v, w.cell? ⟨B, 8, none⟩ = some v) ∧ w.frozen? ⟨B, 8, none⟩ = false ∧ (∃ v, w.cell? ⟨B, 9, none⟩ = some v) ∧ w.frozen? ⟨B, 9, none⟩ = false ∧ (∃ v, w.cell? ⟨B, 10, none⟩ = some v) ∧ w.frozen? ⟨B, 10, none⟩ = false :=
  ⟨(h 0 (by omega)).1, (h 0 (by omega)).2, (h 1 (by omega)).1, (h 1 (by omega)).2, (h 2 (by omega)).1, (h 2 (by omega)).2, (h 3 (by omega)).1, (h 3 (by omega)).2, (h 4 (by omega)).1, (h 4 (by omega)).2, (h 5 (by omega)).1, (h 5 (by omega)).2, (h 6 (by omega)).1, (h 6 (by omega)).2, (h 7 (by omega)).1, (h 7 (by omega)).2, (h 8 (by omega)).1, (h 8 (by omega)).2, (h 9 (by omega)).1, (h 9 (by omega)).2, (h 10 (by omega)).1, (h 10 (by omega)).2⟩
theorem quiet_kp {P : Program} {f : FuncId} {args : Array Value} {v : Ending} {w : World} (c : Calls P f args w fun e w' => e = v ∧ w = w') : Calls P f args w fun e w' => e = v ∧ Kp w w' :=
  c.mono fun _ _ h => ⟨h.1, by rw [← h.2]; exact Kp.refl _⟩
end Go.Proofs.YtlfeandnpflaaaaDoor
