/-
  Contracts of capenc's fits, rightBounds and Right: whether a capability's fields are in their places. No condition but that fields are numbers of 64 bits.
-/
import Derived.Test.YtikibfpfieoabaaEBits
namespace Go.Proofs.Ytikibfpfieoabaa
open Go.ChangeShapes Go.WideShapes Go.ChangeAt Go.RowKit
set_option linter.unusedVariables false
set_option linter.unusedSimpArgs false

/-- From 0 up to ahead of m. -/
def fitB (m f : Int) : Bool := decide (0 ≤ f) && decide (f < m)
theorem fitB_div (f : Int) (k : Nat) : (f / 2 ^ k == 0) = fitB (2 ^ k) f := by
  have hk := pow_pos2 k
  rw [Bool.eq_iff_iff]
  simp only [fitB, beq_iff_eq, Bool.and_eq_true, decide_eq_true_eq]
  constructor
  · intro h
    have h1 := Int.emod_add_mul_ediv f (2 ^ k)
    have h2 := Int.emod_nonneg f (Int.ne_of_gt hk)
    have h3 := Int.emod_lt_of_pos f hk
    rw [h, Int.mul_zero] at h1
    omega
  · rintro ⟨h1, h2⟩
    exact Int.ediv_eq_zero_of_lt h1 h2
/-- Bounds' fields are in their places. -/
def rbB (e b t : Int) (g : Bool) : Bool := fitB 16384 b && fitB 4096 t && (if g then decide (0 ≤ e) && decide (e ≤ 52) && decide (b % 8 = 0) && decide (t % 8 = 0) else decide (e = 0))
def rightB (pe ty mo e b t : Int) (g : Bool) : Bool := fitB 65536 pe && fitB 262144 ty && fitB 2 mo && rbB e b t g
theorem low_both (b t : Int) (b0 : 0 ≤ b) (b1 : b < 16384) (t0 : 0 ≤ t) (t1 : t < 4096) : (bits .and .i64 (bits .or .i64 b t) 7 == 0) = (decide (b % 8 = 0) && decide (t % 8 = 0)) := by
  have h := or_bd b t b0 (by omega) t0 (by omega)
  have h2 := or_low b t b0 (by omega) t0 (by omega)
  rw [and_i7 _ h.1 (by omega), Bool.eq_iff_iff]
  simpa using h2
end Go.Proofs.Ytikibfpfieoabaa
