/-
  What an instruction of layer 9 is like; no word is one here and one of layer 7. No condition.
-/
import Derived.Test.YtlfeandnpflaaaaDoorDFld
namespace Go.Proofs.YtlfeandnpflaaaaDoor
open Go.ChangeShapes Go.WideShapes Go.ChangeAt Go.RowKit
set_option linter.unusedVariables false
set_option linter.unusedSimpArgs false

def FineD (i : Ins) : Prop := ((0 ≤ i.rd ∧ i.rd ≤ 31) ∧ (0 ≤ i.r1 ∧ i.r1 ≤ 31) ∧ (0 ≤ i.r2 ∧ i.r2 ≤ 31)) ∧ ((23 ≤ i.op ∧ i.op ≤ 29) ∨ ((i.op = 6 ∨ i.op = 7) ∧ i.wid = 7))
theorem fined_one (x : Int) (i : Ins) (h : dsOne x = some i) : FineD i := by
  have brd := fl_bd x 128 32 (by omega)
  have bf3 := fl_bd x 4096 8 (by omega)
  have br1 := fl_bd x 32768 32 (by omega)
  have br2 := fl_bd x 1048576 32 (by omega)
  have bf7 := fl_bd x 33554432 128 (by omega)
  unfold dsOne at h
  repeat' split at h
  all_goals first
    | (simp at h; done)
    | (simp only [Option.some.injEq] at h; subst h; unfold FineD; dsimp only; omega)
theorem fined_load (x : Int) (i : Ins) (h : dsLoad x = some i) : FineD i := by
  have brd := fl_bd x 128 32 (by omega)
  have bf3 := fl_bd x 4096 8 (by omega)
  have br1 := fl_bd x 32768 32 (by omega)
  have br2 := fl_bd x 1048576 32 (by omega)
  have bf7 := fl_bd x 33554432 128 (by omega)
  unfold dsLoad at h
  repeat' split at h
  all_goals first
    | (simp at h; done)
    | (simp only [Option.some.injEq] at h; subst h; unfold FineD; dsimp only; omega)
theorem fined_store (x : Int) (i : Ins) (h : dsStore x = some i) : FineD i := by
  have brd := fl_bd x 128 32 (by omega)
  have bf3 := fl_bd x 4096 8 (by omega)
  have br1 := fl_bd x 32768 32 (by omega)
  have br2 := fl_bd x 1048576 32 (by omega)
  have bf7 := fl_bd x 33554432 128 (by omega)
  unfold dsStore at h
  repeat' split at h
  all_goals first
    | (simp at h; done)
    | (simp only [Option.some.injEq] at h; subst h; unfold FineD; dsimp only; omega)
theorem fined_reg (x : Int) (i : Ins) (h : dsReg x = some i) : FineD i := by
  have brd := fl_bd x 128 32 (by omega)
  have bf3 := fl_bd x 4096 8 (by omega)
  have br1 := fl_bd x 32768 32 (by omega)
  have br2 := fl_bd x 1048576 32 (by omega)
  have bf7 := fl_bd x 33554432 128 (by omega)
  unfold dsReg at h
  repeat' split at h
  all_goals first
    | exact fined_one x i h
    | exact fined_load x i h
    | exact fined_store x i h
    | (simp at h; done)
    | (simp only [Option.some.injEq] at h; subst h; unfold FineD; dsimp only; omega)
theorem fined_cap (x : Int) (i : Ins) (h : dsCap x = some i) : FineD i := by
  have brd := fl_bd x 128 32 (by omega)
  have bf3 := fl_bd x 4096 8 (by omega)
  have br1 := fl_bd x 32768 32 (by omega)
  have br2 := fl_bd x 1048576 32 (by omega)
  have bf7 := fl_bd x 33554432 128 (by omega)
  unfold dsCap at h
  repeat' split at h
  all_goals first
    | exact fined_reg x i h
    | (simp at h; done)
    | (simp only [Option.some.injEq] at h; subst h; unfold FineD; dsimp only; omega)
theorem fined_all (x : Int) (i : Ins) (h : dspec x = some i) : FineD i := by
  have brd := fl_bd x 128 32 (by omega)
  have bf3 := fl_bd x 4096 8 (by omega)
  have br1 := fl_bd x 32768 32 (by omega)
  have br2 := fl_bd x 1048576 32 (by omega)
  have bf7 := fl_bd x 33554432 128 (by omega)
  unfold dspec at h
  repeat' split at h
  all_goals first
    | exact fined_cap x i h
    | (simp at h; done)
    | (simp only [Option.some.injEq] at h; subst h; unfold FineD; dsimp only; omega)
theorem fined (x : Int) (i : Ins) (h : dspec x = some i) : FineD i := fined_all x i h
theorem dapart (x : Int) (i : Ins) (h : dspec x = some i) : spec x = none := by
  unfold dspec at h
  split at h
  · rename_i ho
    split at h
    · rename_i hf
      simp [spec, ho, spFence, hf]
    · simp at h
  · split at h
    · rename_i ho
      split at h
      · rename_i hf
        simp [spec, ho, spStore, hf]
      · simp at h
    · split at h
      · rename_i ho
        simp [spec, ho]
      · simp at h
end Go.Proofs.YtlfeandnpflaaaaDoor
