/-
  Contracts of capenc's row of bits: lowest, put, take, of 64 bits and of 8. A row's two cells stand alone in a block of their own.
-/
import Derived.Test.YtikibfpfieoabaaKp
import Derived.Test.YtikibfpfieoabaaEMath
import Derived.StillTailTactics
namespace Go.Proofs.Ytikibfpfieoabaa
open Go.ChangeShapes Go.WideShapes Go.ChangeAt Go.RowKit
set_option linter.unusedVariables false
set_option linter.unusedSimpArgs false
set_option maxRecDepth 4000

theorem pow_pos2 (k : Nat) : (0 : Int) < 2 ^ k := Int.pow_pos (by omega)
theorem pow_le2 {a b : Nat} (h : a ≤ b) : (2 : Int) ^ a ≤ 2 ^ b := by
  have h2 : 2 ^ a ≤ 2 ^ b := Nat.pow_le_pow_right (by omega) h
  have h3 : (((2 ^ a : Nat)) : Int) ≤ ((2 ^ b : Nat) : Int) := by omega
  simpa using h3
theorem low64_w (k : Int) (k0 : 0 ≤ k) (k1 : k ≤ 20) (w : World) :
    Calls Try.prog 56 #[.int .u64 k] w fun e w' => e = .returned (.int .u64 (2 ^ k.toNat - 1)) ∧ w = w' := by
  have h1 := pow_pos2 k.toNat
  have h2 : (2 : Int) ^ k.toNat ≤ 2 ^ 20 := pow_le2 (by omega)
  go_enter Try.func56, Try.ntmps56
  go_wp2
  go_ret
  exact ⟨ret_int (by simp only [IntKind.wrap_u64] <;> omega), rfl⟩
theorem low8_w (k : Int) (k0 : 0 ≤ k) (k1 : k ≤ 6) (w : World) :
    Calls Try.prog 60 #[.int .u64 k] w fun e w' => e = .returned (.int .u8 (2 ^ k.toNat - 1)) ∧ w = w' := by
  have h1 := pow_pos2 k.toNat
  have h2 : (2 : Int) ^ k.toNat ≤ 2 ^ 6 := pow_le2 (by omega)
  go_enter Try.func60, Try.ntmps60
  go_wp2
  go_ret
  exact ⟨ret_int (by omega), rfl⟩
theorem mul_lt64 (f : Int) (k n : Nat) (f0 : 0 ≤ f) (f1 : f < 2 ^ k) (h : n + k ≤ 64) : 0 ≤ f * 2 ^ n ∧ f * 2 ^ n + 2 ^ n ≤ 18446744073709551616 := by
  have hn := pow_pos2 n
  have h2 : (f + 1) * 2 ^ n ≤ 2 ^ k * 2 ^ n := Int.mul_le_mul_of_nonneg_right (by omega) (Int.le_of_lt hn)
  have h3 : (2 : Int) ^ k * 2 ^ n = 2 ^ (n + k) := by rw [Nat.add_comm, Int.pow_add]
  have h4 : (2 : Int) ^ (n + k) ≤ 2 ^ 64 := pow_le2 h
  have h5 := Int.mul_nonneg f0 (Int.le_of_lt hn)
  have h6 : (f + 1) * 2 ^ n = f * 2 ^ n + 2 ^ n := by rw [Int.add_mul, Int.one_mul]
  have h7 : (2 : Int) ^ 64 = 18446744073709551616 := by decide
  omega
theorem put_val64 (x f : Int) (k n : Nat) (x0 : 0 ≤ x) (x1 : x < 2 ^ n) (f0 : 0 ≤ f) (f1 : f < 2 ^ k) (h : n + k ≤ 64) (hk : k ≤ 18) :
    bits .or .u64 x (IntKind.u64.wrap (bits .and .u64 (IntKind.u64.wrap f) (2 ^ k - 1) * 2 ^ n)) = x + f * 2 ^ n := by
  have h1 := mul_lt64 f k n f0 f1 h
  have h2 : (2 : Int) ^ k ≤ 2 ^ 18 := pow_le2 hk
  have h3 : IntKind.u64.wrap f = f := by rw [IntKind.wrap_u64]; omega
  have h4 : f % 2 ^ k = f := Int.emod_eq_of_lt f0 f1
  have h5 : IntKind.u64.wrap (f * 2 ^ n) = f * 2 ^ n := by rw [IntKind.wrap_u64]; have := pow_pos2 n; omega
  rw [h3, and_m64 k (by omega) f f0 (by omega), h4, h5, or64 n x f x0 x1 f0 (by omega)]
theorem Pt.two {B : Nat} {a b : Value} {w : World} (c0 : w.cell? ⟨B, 0, none⟩ = some a) (c1 : w.cell? ⟨B, 1, none⟩ = some b) (u v : Value) :
    Pt B u v w (((w.setCell ⟨B, 0, none⟩ u).setCell ⟨B, 1, none⟩ v).drew) :=
  ⟨(((Below.refl B w).setCell (p := ⟨B, 0, none⟩) (Nat.le_refl _) u).setCell (p := ⟨B, 1, none⟩) (Nat.le_refl _) v).drew, fun x => by simp [World.frozen?_setCell, go_sem], by simp [go_sem, *], by simp [go_sem, *]⟩
theorem put64_w (B : Nat) (x n f k : Int) (n0 : 0 ≤ n) (n1 : n + k ≤ 64) (k0 : 0 ≤ k) (k1 : k ≤ 18) (x0 : 0 ≤ x) (x1 : x < 2 ^ n.toNat) (f0 : 0 ≤ f) (f1 : f < 2 ^ k.toNat) (w : World)
    (c0 : w.cell? ⟨B, 0, none⟩ = some (.int .u64 x)) (c1 : w.cell? ⟨B, 1, none⟩ = some (.int .u64 n)) (z0 : w.frozen? ⟨B, 0, none⟩ = false) (z1 : w.frozen? ⟨B, 1, none⟩ = false) :
    Calls Try.prog 52 #[.pointer (some ⟨B, 0, none⟩), .int .i64 f, .int .u64 k] w fun e w' => e = .returned (.tuple #[]) ∧ Pt B (.int .u64 (x + f * 2 ^ n.toNat)) (.int .u64 (n + k)) w w' := by
  go_enter Try.func52, Try.ntmps52
  go_wp2
  refine wp_region_still_tail 17 (by kernel_rfl) (by kernel_rfl) ?_
  simp only [List.take_succ_cons, List.take_zero, List.drop_succ_cons, List.drop_zero]
  repeat (first | still_step | still_call ((low64_w _ (by omega) (by omega) _).mono fun _ _ h => ⟨h.1, h.2.symm⟩))
  refine wpStill_nil ?_
  change wpList _ _ _ _ _ w.drew
  go_wp2
  refine bodyPost_end (v := .tuple #[]) (by simp [results, Try.results52, go_sem]) rfl ⟨rfl, ?_⟩
  rw [put_val64 x f k.toNat n.toNat x0 x1 f0 f1 (by omega) (by omega)]
  exact Pt.two c0 c1 _ _
theorem Pt.one {B : Nat} {a b : Value} {w : World} (c0 : w.cell? ⟨B, 0, none⟩ = some a) (c1 : w.cell? ⟨B, 1, none⟩ = some b) (n : Nat) (v : Value) :
    Pt B a v w ((w.drewN n).setCell ⟨B, 1, none⟩ v) :=
  ⟨(⟨rfl, rfl, rfl, Nat.le_refl _, fun _ _ => rfl⟩ : Below B w (w.drewN n)).setCell (p := ⟨B, 1, none⟩) (Nat.le_refl _) v, fun x => by simp [World.frozen?_setCell, go_sem], by simp [go_sem, *], by simp [go_sem, *]⟩
theorem div_bd2 (x : Int) (n : Nat) (h0 : 0 ≤ x) : 0 ≤ x / 2 ^ n ∧ x / 2 ^ n ≤ x := ⟨Int.ediv_nonneg h0 (Int.le_of_lt (pow_pos2 n)), Int.ediv_le_self _ h0⟩
theorem take_val64 (x : Int) (n k : Nat) (x0 : 0 ≤ x) (x1 : x < 18446744073709551616) (hk : k ≤ 18) : wrap64 (bits .and .u64 (x / 2 ^ n) (2 ^ k - 1)) = x / 2 ^ n % 2 ^ k := by
  have h1 := div_bd2 x n x0
  have h2 : (2 : Int) ^ k ≤ 2 ^ 18 := pow_le2 hk
  have h3 := pow_pos2 k
  have h4 := Int.emod_nonneg (x / 2 ^ n) (Int.ne_of_gt h3)
  have h5 := Int.emod_lt_of_pos (x / 2 ^ n) h3
  rw [and_m64 k (by omega) _ h1.1 (by omega)]
  unfold wrap64; omega
theorem take_val8 (x : Int) (n : Nat) (x0 : 0 ≤ x) (x1 : x < 256) : wrap64 (bits .and .u8 (x / 2 ^ n) 7) = x / 2 ^ n % 8 := by
  have h1 := div_bd2 x n x0
  have h2 := and_m8 3 (by omega) (x / 2 ^ n) h1.1 (by omega)
  have h3 : ((2 : Int) ^ 3 - 1) = 7 := by decide
  have h4 : ((2 : Int) ^ 3) = 8 := by decide
  rw [h3, h4] at h2
  rw [h2]
  unfold wrap64; omega
theorem put_val8 (x f : Int) (n : Nat) (n0 : n = 0 ∨ n = 3) (x0 : 0 ≤ x) (x1 : x < 2 ^ n) : bits .or .u8 x (f % 8 * 2 ^ n % 256) = x + f % 8 * 2 ^ n := by
  have h : f % 8 * 2 ^ n % 256 = f % 8 * 2 ^ n := by
    rcases n0 with rfl | rfl
    · simp; omega
    · have : (2 : Int) ^ 3 = 8 := by decide
      rw [this]; omega
  rw [h]
  refine or8 n x (f % 8) x0 x1 (by omega) ?_
  rcases n0 with rfl | rfl
  · simp at x1 ⊢; omega
  · have : (2 : Int) ^ 3 = 8 := by decide
    rw [this] at x1 ⊢; omega
theorem take64_w (B : Nat) (x n k : Int) (n0 : 0 ≤ n) (n1 : n + k ≤ 64) (k0 : 0 ≤ k) (k1 : k ≤ 18) (x0 : 0 ≤ x) (x1 : x < 18446744073709551616) (w : World)
    (c0 : w.cell? ⟨B, 0, none⟩ = some (.int .u64 x)) (c1 : w.cell? ⟨B, 1, none⟩ = some (.int .u64 n)) (z0 : w.frozen? ⟨B, 0, none⟩ = false) (z1 : w.frozen? ⟨B, 1, none⟩ = false) :
    Calls Try.prog 48 #[.pointer (some ⟨B, 0, none⟩), .int .u64 k] w fun e w' => e = .returned (.int .i64 (x / 2 ^ n.toNat % 2 ^ k.toNat)) ∧ Pt B (.int .u64 x) (.int .u64 (n + k)) w w' := by
  go_enter Try.func48, Try.ntmps48
  go_wp2
  go_quiet ((go_at_call 56; exact Calls.quiet_of_same ((low64_w _ (by omega) (by omega) _).mono fun _ _ h => ⟨h.1, h.2.symm⟩)))
  go_wp2
  refine bodyPost_ret (v := .int .i64 (wrap64 (bits .and .u64 (x / 2 ^ n.toNat) (2 ^ k.toNat - 1)))) (by simp [results, Try.results48, go_sem]) rfl ⟨?_, Pt.one c0 c1 _ _⟩
  rw [take_val64 x n.toNat k.toNat x0 x1 (by omega)]
theorem put8_w (B : Nat) (x n f : Int) (n0 : n = 0 ∨ n = 3) (x0 : 0 ≤ x) (x1 : x < 2 ^ n.toNat) (f0 : 0 ≤ f) (f1 : f < 16384) (w : World)
    (c0 : w.cell? ⟨B, 0, none⟩ = some (.int .u8 x)) (c1 : w.cell? ⟨B, 1, none⟩ = some (.int .u64 n)) (z0 : w.frozen? ⟨B, 0, none⟩ = false) (z1 : w.frozen? ⟨B, 1, none⟩ = false) :
    Calls Try.prog 57 #[.pointer (some ⟨B, 0, none⟩), .int .i64 f, .int .u64 3] w fun e w' => e = .returned (.tuple #[]) ∧ Pt B (.int .u8 (x + f % 8 * 2 ^ n.toNat)) (.int .u64 (n + 3)) w w' := by
  go_enter Try.func57, Try.ntmps57
  go_wp2
  refine wp_region_still_tail 17 (by kernel_rfl) (by kernel_rfl) ?_
  simp only [List.take_succ_cons, List.take_zero, List.drop_succ_cons, List.drop_zero]
  repeat (first | still_step | still_call ((low8_w _ (by omega) (by omega) _).mono fun _ _ h => ⟨h.1, h.2.symm⟩))
  refine wpStill_nil ?_
  change wpList _ _ _ _ _ w.drew
  go_wp2
  refine bodyPost_end (v := .tuple #[]) (by simp [results, Try.results57, go_sem]) rfl ⟨rfl, ?_⟩
  rw [put_val8 x f n.toNat (by omega) x0 x1]
  exact Pt.two c0 c1 _ _
theorem take8_w (B : Nat) (x n : Int) (n0 : n = 0 ∨ n = 3) (x0 : 0 ≤ x) (x1 : x < 256) (w : World)
    (c0 : w.cell? ⟨B, 0, none⟩ = some (.int .u8 x)) (c1 : w.cell? ⟨B, 1, none⟩ = some (.int .u64 n)) (z0 : w.frozen? ⟨B, 0, none⟩ = false) (z1 : w.frozen? ⟨B, 1, none⟩ = false) :
    Calls Try.prog 58 #[.pointer (some ⟨B, 0, none⟩), .int .u64 3] w fun e w' => e = .returned (.int .i64 (x / 2 ^ n.toNat % 8)) ∧ Pt B (.int .u8 x) (.int .u64 (n + 3)) w w' := by
  go_enter Try.func58, Try.ntmps58
  go_wp2
  go_quiet ((go_at_call 60; exact Calls.quiet_of_same ((low8_w _ (by omega) (by omega) _).mono fun _ _ h => ⟨h.1, h.2.symm⟩)))
  go_wp2
  refine bodyPost_ret (v := .int .i64 (wrap64 (bits .and .u8 (x / 2 ^ n.toNat) 7))) (by simp [results, Try.results58, go_sem]) rfl ⟨?_, Pt.one c0 c1 _ _⟩
  rw [take_val8 x n.toNat x0 x1]
end Go.Proofs.Ytikibfpfieoabaa
