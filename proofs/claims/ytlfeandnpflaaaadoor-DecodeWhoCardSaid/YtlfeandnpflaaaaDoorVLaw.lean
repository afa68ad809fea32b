/-
  What the laws of layer 8 share: the document's answer of any half, the code's, the chapter's examples. No condition but what the tables hold.
-/
import Derived.Test.YtlfeandnpflaaaaDoorVExpand
import Derived.Test.YtlfeandnpflaaaaDoorVAll
namespace Go.Proofs.YtlfeandnpflaaaaDoor
open Go.ChangeShapes Go.WideShapes Go.ChangeAt Go.RowKit
set_option linter.unusedVariables false
set_option linter.unusedSimpArgs false
theorem facts (x : Nat) (hx : x < 65536) : (ex x = none ∧ dx x = 0) ∨ ∃ v i, ex x = some v ∧ dx x = (v : Int) ∧ v ≠ 0 ∧ v < 4294967296 ∧ v % 4 = 3 ∧ x % 4 ≠ 3 ∧ spec v = some i ∧ kindB i = true ∧ reachB i = true ∧ (twB i = true ∨ bk v = x) := by
  have h := chk_all x hx
  unfold chk at h
  generalize ex x = o at h ⊢
  cases o with
  | none => left; exact ⟨rfl, by simpa using h⟩
  | some v =>
    right
    simp only [Bool.and_eq_true, Bool.or_eq_true, beq_iff_eq, bne_iff_ne, decide_eq_true_eq] at h
    obtain ⟨⟨⟨⟨⟨h1, h2⟩, h3⟩, h4⟩, h5⟩, h6⟩ := h
    generalize hs : spec v = s at h6
    cases s with
    | none => cases h6
    | some i =>
      simp only [Bool.and_eq_true, Bool.or_eq_true, beq_iff_eq] at h6
      exact ⟨v, i, rfl, h1, h2, h3, h4, h5, hs, h6.1.1, h6.1.2, h6.2⟩
theorem expand_n (x : Nat) (hx : x < 65536) (h : ex x = none) (w : World) (tb : Tb w) :
    Calls Tryd.prog 8 #[.int .u16 (x : Int)] w fun e w' => e = .returned (.tuple #[.int .u32 0, .bool false]) ∧ Kp w w' := by
  have c := expand_w x hx w tb
  rw [h] at c
  exact c
theorem expand_s (x : Nat) (hx : x < 65536) (v : Nat) (h : ex x = some v) (w : World) (tb : Tb w) :
    Calls Tryd.prog 8 #[.int .u16 (x : Int)] w fun e w' => e = .returned (.tuple #[.int .u32 (v : Int), .bool true]) ∧ Kp w w' := by
  have c := expand_w x hx w tb
  rw [h] at c
  exact c
theorem none_0 (w : World) (tb : Tb w) : Calls Tryd.prog 8 #[.int .u16 0] w fun e w' => e = .returned (.tuple #[.int .u32 0, .bool false]) ∧ Kp w w' := expand_n 0 (by decide) (by decide +kernel) w tb
theorem none_65535 (w : World) (tb : Tb w) : Calls Tryd.prog 8 #[.int .u16 65535] w fun e w' => e = .returned (.tuple #[.int .u32 0, .bool false]) ∧ Kp w w' := expand_n 65535 (by decide) (by decide +kernel) w tb
end Go.Proofs.YtlfeandnpflaaaaDoor
