/-
  Contracts of capenc's row of bits: lowest, put, take, of 64 bits and of 8. A row's two cells stand alone in a block of their own.
-/
import Derived.Test.YtmehbildddlgaaaKp
import Derived.Test.YtmehbildddlgaaaEMath
import Derived.StillTailTactics
namespace Go.Proofs.Ytmehbildddlgaaa
open Go.ChangeShapes Go.WideShapes Go.ChangeAt Go.RowKit
set_option linter.unusedVariables false
set_option linter.unusedSimpArgs false

theorem pow_pos2 (k : Nat) : (0 : Int) < 2 ^ k := Int.pow_pos (by omega)
theorem pow_le2 {a b : Nat} (h : a ≤ b) : (2 : Int) ^ a ≤ 2 ^ b := by
  have h2 : 2 ^ a ≤ 2 ^ b := Nat.pow_le_pow_right (by omega) h
  have h3 : (((2 ^ a : Nat)) : Int) ≤ ((2 ^ b : Nat) : Int) := by omega
  simpa using h3
theorem mul_lt64 (f : Int) (k n : Nat) (f0 : 0 ≤ f) (f1 : f < 2 ^ k) (h : n + k ≤ 64) : 0 ≤ f * 2 ^ n ∧ f * 2 ^ n + 2 ^ n ≤ 18446744073709551616 := by
  have hn := pow_pos2 n
  have h2 : (f + 1) * 2 ^ n ≤ 2 ^ k * 2 ^ n := Int.mul_le_mul_of_nonneg_right (by omega) (Int.le_of_lt hn)
  have h3 : (2 : Int) ^ k * 2 ^ n = 2 ^ (n + k) := by rw [Nat.add_comm, Int.pow_add]
  have h4 : (2 : Int) ^ (n + k) ≤ 2 ^ 64 := pow_le2 h
  have h5 := Int.mul_nonneg f0 (Int.le_of_lt hn)
  have h6 : (f + 1) * 2 ^ n = f * 2 ^ n + 2 ^ n := by rw [Int.add_mul, Int.one_mul]
  have h7 : (2 : Int) ^ 64 = 18446744073709551616 := by decide
  omega
theorem put_val64 (x f : Int) (k n : Nat) (x0 : 0 ≤ x) (x1 : x < 2 ^ n) (f0 : 0 ≤ f) (f1 : f < 2 ^ k) (h : n + k ≤ 64) (hk : k ≤ 18) :
    bits .or .u64 x (IntKind.u64.wrap (bits .and .u64 (IntKind.u64.wrap f) (2 ^ k - 1) * 2 ^ n)) = x + f * 2 ^ n := by
  have h1 := mul_lt64 f k n f0 f1 h
  have h2 : (2 : Int) ^ k ≤ 2 ^ 18 := pow_le2 hk
  have h3 : IntKind.u64.wrap f = f := by rw [IntKind.wrap_u64]; omega
  have h4 : f % 2 ^ k = f := Int.emod_eq_of_lt f0 f1
  have h5 : IntKind.u64.wrap (f * 2 ^ n) = f * 2 ^ n := by rw [IntKind.wrap_u64]; have := pow_pos2 n; omega
  rw [h3, and_m64 k (by omega) f f0 (by omega), h4, h5, or64 n x f x0 x1 f0 (by omega)]
theorem Pt.two {B : Nat} {a b : Value} {w : World} (c0 : w.cell? ⟨B, 0, none⟩ = some a) (c1 : w.cell? ⟨B, 1, none⟩ = some b) (u v : Value) :
    Pt B u v w (((w.setCell ⟨B, 0, none⟩ u).setCell ⟨B, 1, none⟩ v).drew) :=
  ⟨(((Below.refl B w).setCell (p := ⟨B, 0, none⟩) (Nat.le_refl _) u).setCell (p := ⟨B, 1, none⟩) (Nat.le_refl _) v).drew, fun x => by simp [World.frozen?_setCell, go_sem], by simp [go_sem, *], by simp [go_sem, *]⟩
theorem Pt.one {B : Nat} {a b : Value} {w : World} (c0 : w.cell? ⟨B, 0, none⟩ = some a) (c1 : w.cell? ⟨B, 1, none⟩ = some b) (n : Nat) (v : Value) :
    Pt B a v w ((w.drewN n).setCell ⟨B, 1, none⟩ v) :=
  ⟨(⟨rfl, rfl, rfl, Nat.le_refl _, fun _ _ => rfl⟩ : Below B w (w.drewN n)).setCell (p := ⟨B, 1, none⟩) (Nat.le_refl _) v, fun x => by simp [World.frozen?_setCell, go_sem], by simp [go_sem, *], by simp [go_sem, *]⟩
theorem div_bd2 (x : Int) (n : Nat) (h0 : 0 ≤ x) : 0 ≤ x / 2 ^ n ∧ x / 2 ^ n ≤ x := ⟨Int.ediv_nonneg h0 (Int.le_of_lt (pow_pos2 n)), Int.ediv_le_self _ h0⟩
theorem take_val64 (x : Int) (n k : Nat) (x0 : 0 ≤ x) (x1 : x < 18446744073709551616) (hk : k ≤ 18) : wrap64 (bits .and .u64 (x / 2 ^ n) (2 ^ k - 1)) = x / 2 ^ n % 2 ^ k := by
  have h1 := div_bd2 x n x0
  have h2 : (2 : Int) ^ k ≤ 2 ^ 18 := pow_le2 hk
  have h3 := pow_pos2 k
  have h4 := Int.emod_nonneg (x / 2 ^ n) (Int.ne_of_gt h3)
  have h5 := Int.emod_lt_of_pos (x / 2 ^ n) h3
  rw [and_m64 k (by omega) _ h1.1 (by omega)]
  unfold wrap64; omega
theorem take_val8 (x : Int) (n : Nat) (x0 : 0 ≤ x) (x1 : x < 256) : wrap64 (bits .and .u8 (x / 2 ^ n) 7) = x / 2 ^ n % 8 := by
  have h1 := div_bd2 x n x0
  have h2 := and_m8 3 (by omega) (x / 2 ^ n) h1.1 (by omega)
  have h3 : ((2 : Int) ^ 3 - 1) = 7 := by decide
  have h4 : ((2 : Int) ^ 3) = 8 := by decide
  rw [h3, h4] at h2
  rw [h2]
  unfold wrap64; omega
theorem put_val8 (x f : Int) (n : Nat) (n0 : n = 0 ∨ n = 3) (x0 : 0 ≤ x) (x1 : x < 2 ^ n) : bits .or .u8 x (f % 8 * 2 ^ n % 256) = x + f % 8 * 2 ^ n := by
  have h : f % 8 * 2 ^ n % 256 = f % 8 * 2 ^ n := by
    rcases n0 with rfl | rfl
    · simp; omega
    · have : (2 : Int) ^ 3 = 8 := by decide
      rw [this]; omega
  rw [h]
  refine or8 n x (f % 8) x0 x1 (by omega) ?_
  rcases n0 with rfl | rfl
  · simp at x1 ⊢; omega
  · have : (2 : Int) ^ 3 = 8 := by decide
    rw [this] at x1 ⊢; omega
end Go.Proofs.Ytmehbildddlgaaa
