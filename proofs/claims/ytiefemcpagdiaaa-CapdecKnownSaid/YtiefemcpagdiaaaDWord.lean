/-
  Words of layer 9 that are laid out of registers and numbers, and what they are. No condition.
-/
import Derived.Test.YtiefemcpagdiaaaDFld
import Derived.Test.YtiefemcpagdiaaaIRegs
namespace Go.Proofs.Ytiefemcpagdiaaa
open Go.ChangeShapes Go.WideShapes Go.ChangeAt Go.RowKit
set_option linter.unusedVariables false
set_option linter.unusedSimpArgs false

theorem and4095 (n : Int) : bits .and .i64 n 4095 = n % 4096 := by
  show IntKind.i64.wrap ((BitVec.ofInt 64 n &&& BitVec.ofInt 64 4095).toNat : Int) = _
  have e2 : (BitVec.ofInt 64 4095).toNat = 2 ^ 12 - 1 := by decide
  have e3 : (BitVec.ofInt 64 n).toNat = (n % 18446744073709551616).toNat := by rw [BitVec.toNat_ofInt]; rfl
  rw [BitVec.toNat_and, e2, Nat.and_two_pow_sub_one_eq_mod, e3, IntKind.wrap_i64]
  omega
theorem orm (k l : Nat) (p q : Int) (hp : (2 : Int) ^ k = p) (hq : (2 : Int) ^ (k + l) = q) (hi lo m r x y : Int) (hr : (2 : Int) ^ l = r) (hx : x = q * hi + lo) (hy : y = p * m) (i0 : 0 ≤ hi) (l0 : 0 ≤ lo) (l1 : lo < p) (m0 : 0 ≤ m) (m1 : m < r) (x0 : 0 ≤ x) (x1 : x < 4294967296) (y0 : 0 ≤ y) (y1 : y < 4294967296) : bits .or .u32 x y = x + y := by
  obtain ⟨h, rfl⟩ := Int.eq_ofNat_of_zero_le i0
  obtain ⟨u, rfl⟩ := Int.eq_ofNat_of_zero_le l0
  obtain ⟨v, rfl⟩ := Int.eq_ofNat_of_zero_le m0
  have hu : u < 2 ^ k := by
    have h2 : ((u : Nat) : Int) < ((2 ^ k : Nat) : Int) := by simpa [hp] using l1
    exact Int.ofNat_lt.mp h2
  have hv : v < 2 ^ l := by
    have h2 : ((v : Nat) : Int) < ((2 ^ l : Nat) : Int) := by simpa [hr] using m1
    exact Int.ofNat_lt.mp h2
  have ex : x = ((2 ^ (k + l) * h + u : Nat) : Int) := by rw [hx, ← hq]; simp
  have ey : y = ((2 ^ k * v : Nat) : Int) := by rw [hy, ← hp]; simp
  rw [ex] at x1 ⊢
  rw [ey] at y1 ⊢
  rw [or32n _ _ (by omega) (by omega), or_mid h u v k l hu hv]
  simp
theorem regs_eq (d e : Int) (d0 : 0 ≤ d) (d1 : d < 32) (e0 : 0 ≤ e) (e1 : e < 32) : (bits .or .u32 (d % 4294967296 * 128 % 4294967296) (e % 4294967296 * 32768 % 4294967296)) = d * 128 + e * 32768 := by
  rw [show d % 4294967296 * 128 % 4294967296 = d * 128 by omega, show e % 4294967296 * 32768 % 4294967296 = e * 32768 by omega]
  rw [or32' 15 32768 (by decide) (by omega) _ _ (by omega) (by omega) (by omega) (by omega) (by omega)]
theorem sgn_n (n : Int) (l : -2048 ≤ n) (u : n < 2048) : sgn 4096 (n % 4096) = n := by unfold sgn; split <;> omega
theorem w_two (d e f n : Int) (d0 : 0 ≤ d) (d1 : d < 32) (e0 : 0 ≤ e) (e1 : e < 32) (f0 : 0 ≤ f) (f1 : f < 32) (n0 : -2048 ≤ n) (n1 : n < 2048) : (0 ≤ (bits .or .u32 (bits .or .u32 (bits .or .u32 91 (bits .or .u32 (d % 4294967296 * 128 % 4294967296) (e % 4294967296 * 32768 % 4294967296))) (f % 4294967296 * 1048576 % 4294967296)) 570425344) ∧ (bits .or .u32 (bits .or .u32 (bits .or .u32 91 (bits .or .u32 (d % 4294967296 * 128 % 4294967296) (e % 4294967296 * 32768 % 4294967296))) (f % 4294967296 * 1048576 % 4294967296)) 570425344) < 4294967296) ∧ dspec (bits .or .u32 (bits .or .u32 (bits .or .u32 91 (bits .or .u32 (d % 4294967296 * 128 % 4294967296) (e % 4294967296 * 32768 % 4294967296))) (f % 4294967296 * 1048576 % 4294967296)) 570425344) = some ⟨24, 17, d, e, f, 0, 0, false, false⟩ := by
  have R := regs_eq d e d0 d1 e0 e1
  have hX : (bits .or .u32 (bits .or .u32 (bits .or .u32 91 (bits .or .u32 (d % 4294967296 * 128 % 4294967296) (e % 4294967296 * 32768 % 4294967296))) (f % 4294967296 * 1048576 % 4294967296)) 570425344) = 17 * 33554432 + f * 1048576 + e * 32768 + 0 * 4096 + d * 128 + 91 := by
    rw [R, or32' 7 128 (by decide) (by omega) 91 (d * 128 + e * 32768) (by omega) (by omega) (by omega) (by omega) (by omega), show f % 4294967296 * 1048576 % 4294967296 = f * 1048576 by omega]
    rw [or32' 20 1048576 (by decide) (by omega) _ (f * 1048576) (by omega) (by omega) (by omega) (by omega) (by omega)]
    rw [or32' 25 33554432 (by decide) (by omega) _ 570425344 (by omega) (by omega) (by omega) (by omega) (by omega)]
    omega
  generalize (bits .or .u32 (bits .or .u32 (bits .or .u32 91 (bits .or .u32 (d % 4294967296 * 128 % 4294967296) (e % 4294967296 * 32768 % 4294967296))) (f % 4294967296 * 1048576 % 4294967296)) 570425344) = X at hX ⊢
  obtain ⟨hb, ho, hrd, hf3, hr1, hr2, hf7⟩ := flds 17 f e 0 d 91 (by omega) (by omega) (by omega) (by omega) (by omega) (by omega) X hX
  refine ⟨hb, ?_⟩
  simp [dspec, dsCap, dsReg, twoB, ho, hrd, hf3, hr1, hr2, hf7]
theorem w_inc (d e f n : Int) (d0 : 0 ≤ d) (d1 : d < 32) (e0 : 0 ≤ e) (e1 : e < 32) (f0 : 0 ≤ f) (f1 : f < 32) (n0 : -2048 ≤ n) (n1 : n < 2048) : (0 ≤ (bits .or .u32 (bits .or .u32 (bits .or .u32 91 (bits .or .u32 (d % 4294967296 * 128 % 4294967296) (e % 4294967296 * 32768 % 4294967296))) 4096) (n % 4294967296 * 1048576 % 4294967296)) ∧ (bits .or .u32 (bits .or .u32 (bits .or .u32 91 (bits .or .u32 (d % 4294967296 * 128 % 4294967296) (e % 4294967296 * 32768 % 4294967296))) 4096) (n % 4294967296 * 1048576 % 4294967296)) < 4294967296) ∧ dspec (bits .or .u32 (bits .or .u32 (bits .or .u32 91 (bits .or .u32 (d % 4294967296 * 128 % 4294967296) (e % 4294967296 * 32768 % 4294967296))) 4096) (n % 4294967296 * 1048576 % 4294967296)) = some ⟨25, 1, d, e, 0, n, 0, false, false⟩ := by
  have R := regs_eq d e d0 d1 e0 e1
  have hu : n % 4294967296 * 1048576 % 4294967296 = (n % 4096) * 1048576 := by omega
  have hX : (bits .or .u32 (bits .or .u32 (bits .or .u32 91 (bits .or .u32 (d % 4294967296 * 128 % 4294967296) (e % 4294967296 * 32768 % 4294967296))) 4096) (n % 4294967296 * 1048576 % 4294967296)) = (n % 4096 / 32) * 33554432 + (n % 32) * 1048576 + e * 32768 + 1 * 4096 + d * 128 + 91 := by
    rw [R, or32' 7 128 (by decide) (by omega) 91 (d * 128 + e * 32768) (by omega) (by omega) (by omega) (by omega) (by omega), hu]
    rw [orm 12 3 4096 32768 (by decide) (by decide) e (d * 128 + 91) 1 8 (91 + (d * 128 + e * 32768)) 4096 (by decide) (by omega) (by omega) (by omega) (by omega) (by omega) (by omega) (by omega) (by omega) (by omega) (by omega) (by omega)]
    rw [or32' 20 1048576 (by decide) (by omega) _ (n % 4096 * 1048576) (by omega) (by omega) (by omega) (by omega) (by omega)]
    omega
  generalize (bits .or .u32 (bits .or .u32 (bits .or .u32 91 (bits .or .u32 (d % 4294967296 * 128 % 4294967296) (e % 4294967296 * 32768 % 4294967296))) 4096) (n % 4294967296 * 1048576 % 4294967296)) = X at hX ⊢
  have hi : fl X 1048576 4096 = n % 4096 := by
    have q : X / 1048576 = n % 4096 := by omega
    unfold fl; rw [q]; omega
  have hI : iI X = n := by unfold iI; rw [hi]; exact sgn_n n n0 n1
  obtain ⟨hb, ho, hrd, hf3, hr1, hr2, hf7⟩ := flds (n % 4096 / 32) (n % 32) e 1 d 91 (by omega) (by omega) (by omega) (by omega) (by omega) (by omega) X hX
  refine ⟨hb, ?_⟩
  simp [dspec, dsCap, ho, hrd, hf3, hr1, hI]
theorem w_set (d e f n : Int) (d0 : 0 ≤ d) (d1 : d < 32) (e0 : 0 ≤ e) (e1 : e < 32) (f0 : 0 ≤ f) (f1 : f < 32) (n0 : -2048 ≤ n) (n1 : n < 2048) : (0 ≤ (bits .or .u32 (bits .or .u32 (bits .or .u32 91 (bits .or .u32 (d % 4294967296 * 128 % 4294967296) (e % 4294967296 * 32768 % 4294967296))) 8192) (n % 4294967296 * 1048576 % 4294967296)) ∧ (bits .or .u32 (bits .or .u32 (bits .or .u32 91 (bits .or .u32 (d % 4294967296 * 128 % 4294967296) (e % 4294967296 * 32768 % 4294967296))) 8192) (n % 4294967296 * 1048576 % 4294967296)) < 4294967296) ∧ dspec (bits .or .u32 (bits .or .u32 (bits .or .u32 91 (bits .or .u32 (d % 4294967296 * 128 % 4294967296) (e % 4294967296 * 32768 % 4294967296))) 8192) (n % 4294967296 * 1048576 % 4294967296)) = some ⟨25, 2, d, e, 0, n % 4096, 0, false, false⟩ := by
  have R := regs_eq d e d0 d1 e0 e1
  have hu : n % 4294967296 * 1048576 % 4294967296 = (n % 4096) * 1048576 := by omega
  have hX : (bits .or .u32 (bits .or .u32 (bits .or .u32 91 (bits .or .u32 (d % 4294967296 * 128 % 4294967296) (e % 4294967296 * 32768 % 4294967296))) 8192) (n % 4294967296 * 1048576 % 4294967296)) = (n % 4096 / 32) * 33554432 + (n % 32) * 1048576 + e * 32768 + 2 * 4096 + d * 128 + 91 := by
    rw [R, or32' 7 128 (by decide) (by omega) 91 (d * 128 + e * 32768) (by omega) (by omega) (by omega) (by omega) (by omega), hu]
    rw [orm 12 3 4096 32768 (by decide) (by decide) e (d * 128 + 91) 2 8 (91 + (d * 128 + e * 32768)) 8192 (by decide) (by omega) (by omega) (by omega) (by omega) (by omega) (by omega) (by omega) (by omega) (by omega) (by omega) (by omega)]
    rw [or32' 20 1048576 (by decide) (by omega) _ (n % 4096 * 1048576) (by omega) (by omega) (by omega) (by omega) (by omega)]
    omega
  generalize (bits .or .u32 (bits .or .u32 (bits .or .u32 91 (bits .or .u32 (d % 4294967296 * 128 % 4294967296) (e % 4294967296 * 32768 % 4294967296))) 8192) (n % 4294967296 * 1048576 % 4294967296)) = X at hX ⊢
  have hi : fl X 1048576 4096 = n % 4096 := by
    have q : X / 1048576 = n % 4096 := by omega
    unfold fl; rw [q]; omega
  have hI : iI X = n := by unfold iI; rw [hi]; exact sgn_n n n0 n1
  obtain ⟨hb, ho, hrd, hf3, hr1, hr2, hf7⟩ := flds (n % 4096 / 32) (n % 32) e 2 d 91 (by omega) (by omega) (by omega) (by omega) (by omega) (by omega) X hX
  refine ⟨hb, ?_⟩
  simp [dspec, dsCap, ho, hrd, hf3, hr1, hi]
theorem w_ld (d e f n : Int) (d0 : 0 ≤ d) (d1 : d < 32) (e0 : 0 ≤ e) (e1 : e < 32) (f0 : 0 ≤ f) (f1 : f < 32) (n0 : -2048 ≤ n) (n1 : n < 2048) : (0 ≤ (bits .or .u32 (bits .or .u32 (bits .or .u32 15 (bits .or .u32 (d % 4294967296 * 128 % 4294967296) (e % 4294967296 * 32768 % 4294967296))) 8192) (n % 4294967296 * 1048576 % 4294967296)) ∧ (bits .or .u32 (bits .or .u32 (bits .or .u32 15 (bits .or .u32 (d % 4294967296 * 128 % 4294967296) (e % 4294967296 * 32768 % 4294967296))) 8192) (n % 4294967296 * 1048576 % 4294967296)) < 4294967296) ∧ dspec (bits .or .u32 (bits .or .u32 (bits .or .u32 15 (bits .or .u32 (d % 4294967296 * 128 % 4294967296) (e % 4294967296 * 32768 % 4294967296))) 8192) (n % 4294967296 * 1048576 % 4294967296)) = some ⟨6, 0, d, e, 0, n, 7, false, false⟩ := by
  have R := regs_eq d e d0 d1 e0 e1
  have hu : n % 4294967296 * 1048576 % 4294967296 = (n % 4096) * 1048576 := by omega
  have hX : (bits .or .u32 (bits .or .u32 (bits .or .u32 15 (bits .or .u32 (d % 4294967296 * 128 % 4294967296) (e % 4294967296 * 32768 % 4294967296))) 8192) (n % 4294967296 * 1048576 % 4294967296)) = (n % 4096 / 32) * 33554432 + (n % 32) * 1048576 + e * 32768 + 2 * 4096 + d * 128 + 15 := by
    rw [R, or32' 7 128 (by decide) (by omega) 15 (d * 128 + e * 32768) (by omega) (by omega) (by omega) (by omega) (by omega), hu]
    rw [orm 12 3 4096 32768 (by decide) (by decide) e (d * 128 + 15) 2 8 (15 + (d * 128 + e * 32768)) 8192 (by decide) (by omega) (by omega) (by omega) (by omega) (by omega) (by omega) (by omega) (by omega) (by omega) (by omega) (by omega)]
    rw [or32' 20 1048576 (by decide) (by omega) _ (n % 4096 * 1048576) (by omega) (by omega) (by omega) (by omega) (by omega)]
    omega
  generalize (bits .or .u32 (bits .or .u32 (bits .or .u32 15 (bits .or .u32 (d % 4294967296 * 128 % 4294967296) (e % 4294967296 * 32768 % 4294967296))) 8192) (n % 4294967296 * 1048576 % 4294967296)) = X at hX ⊢
  have hi : fl X 1048576 4096 = n % 4096 := by
    have q : X / 1048576 = n % 4096 := by omega
    unfold fl; rw [q]; omega
  have hI : iI X = n := by unfold iI; rw [hi]; exact sgn_n n n0 n1
  obtain ⟨hb, ho, hrd, hf3, hr1, hr2, hf7⟩ := flds (n % 4096 / 32) (n % 32) e 2 d 15 (by omega) (by omega) (by omega) (by omega) (by omega) (by omega) X hX
  refine ⟨hb, ?_⟩
  simp [dspec, ho, hrd, hf3, hr1, hI]
theorem w_st (d e f n : Int) (d0 : 0 ≤ d) (d1 : d < 32) (e0 : 0 ≤ e) (e1 : e < 32) (f0 : 0 ≤ f) (f1 : f < 32) (n0 : -2048 ≤ n) (n1 : n < 2048) : (0 ≤ (bits .or .u32 (bits .or .u32 (bits .or .u32 (bits .or .u32 16419 (e % 4294967296 * 32768 % 4294967296)) (f % 4294967296 * 1048576 % 4294967296)) (n % 4294967296 / 32 * 33554432 % 4294967296)) (bits .and .u32 (n % 4294967296) 31 * 128 % 4294967296)) ∧ (bits .or .u32 (bits .or .u32 (bits .or .u32 (bits .or .u32 16419 (e % 4294967296 * 32768 % 4294967296)) (f % 4294967296 * 1048576 % 4294967296)) (n % 4294967296 / 32 * 33554432 % 4294967296)) (bits .and .u32 (n % 4294967296) 31 * 128 % 4294967296)) < 4294967296) ∧ dspec (bits .or .u32 (bits .or .u32 (bits .or .u32 (bits .or .u32 16419 (e % 4294967296 * 32768 % 4294967296)) (f % 4294967296 * 1048576 % 4294967296)) (n % 4294967296 / 32 * 33554432 % 4294967296)) (bits .and .u32 (n % 4294967296) 31 * 128 % 4294967296)) = some ⟨7, 0, 0, e, f, n, 7, false, false⟩ := by
  have hX : (bits .or .u32 (bits .or .u32 (bits .or .u32 (bits .or .u32 16419 (e % 4294967296 * 32768 % 4294967296)) (f % 4294967296 * 1048576 % 4294967296)) (n % 4294967296 / 32 * 33554432 % 4294967296)) (bits .and .u32 (n % 4294967296) 31 * 128 % 4294967296)) = (n % 4096 / 32) * 33554432 + f * 1048576 + e * 32768 + 4 * 4096 + (n % 32) * 128 + 35 := by
    rw [andu 5 32 31 (by decide) (by omega) (by omega) _ (by omega) (by omega), show n % 4294967296 % 32 * 128 % 4294967296 = n % 32 * 128 by omega, show n % 4294967296 / 32 * 33554432 % 4294967296 = n % 4096 / 32 * 33554432 by omega, show f % 4294967296 * 1048576 % 4294967296 = f * 1048576 by omega, show e % 4294967296 * 32768 % 4294967296 = e * 32768 by omega]
    rw [or32' 15 32768 (by decide) (by omega) _ (e * 32768) (by omega) (by omega) (by omega) (by omega) (by omega)]
    rw [or32' 20 1048576 (by decide) (by omega) _ (f * 1048576) (by omega) (by omega) (by omega) (by omega) (by omega)]
    rw [or32' 25 33554432 (by decide) (by omega) _ (n % 4096 / 32 * 33554432) (by omega) (by omega) (by omega) (by omega) (by omega)]
    rw [orm 7 5 128 4096 (by decide) (by decide) (4 + e * 8 + f * 256 + (n % 4096 / 32) * 8192) 35 (n % 32) 32 _ _ (by decide) (by omega) (by omega) (by omega) (by omega) (by omega) (by omega) (by omega) (by omega) (by omega) (by omega) (by omega)]
    omega
  generalize (bits .or .u32 (bits .or .u32 (bits .or .u32 (bits .or .u32 16419 (e % 4294967296 * 32768 % 4294967296)) (f % 4294967296 * 1048576 % 4294967296)) (n % 4294967296 / 32 * 33554432 % 4294967296)) (bits .and .u32 (n % 4294967296) 31 * 128 % 4294967296)) = X at hX ⊢
  obtain ⟨hb, ho, hrd, hf3, hr1, hr2, hf7⟩ := flds (n % 4096 / 32) f e 4 (n % 32) 35 (by omega) (by omega) (by omega) (by omega) (by omega) (by omega) X hX
  refine ⟨hb, ?_⟩
  have hI : iS X = n := by
    unfold iS; rw [hf7, hrd, show n % 4096 / 32 * 32 + n % 32 = n % 4096 by omega]; exact sgn_n n n0 n1
  simp [dspec, ho, hf3, hr1, hr2, hI]
theorem w_via (d e f n : Int) (d0 : 0 ≤ d) (d1 : d < 32) (e0 : 0 ≤ e) (e1 : e < 32) (f0 : 0 ≤ f) (f1 : f < 32) (n0 : -2048 ≤ n) (n1 : n < 2048) : (0 ≤ (bits .or .u32 (bits .or .u32 (bits .or .u32 91 (bits .or .u32 (d % 4294967296 * 128 % 4294967296) (e % 4294967296 * 32768 % 4294967296))) 4194304000) 13631488) ∧ (bits .or .u32 (bits .or .u32 (bits .or .u32 91 (bits .or .u32 (d % 4294967296 * 128 % 4294967296) (e % 4294967296 * 32768 % 4294967296))) 4194304000) 13631488) < 4294967296) ∧ dspec (bits .or .u32 (bits .or .u32 (bits .or .u32 91 (bits .or .u32 (d % 4294967296 * 128 % 4294967296) (e % 4294967296 * 32768 % 4294967296))) 4194304000) 13631488) = some ⟨28, 0, d, e, 0, 0, 5, false, true⟩ := by
  have R := regs_eq d e d0 d1 e0 e1
  have hX : (bits .or .u32 (bits .or .u32 (bits .or .u32 91 (bits .or .u32 (d % 4294967296 * 128 % 4294967296) (e % 4294967296 * 32768 % 4294967296))) 4194304000) 13631488) = 125 * 33554432 + 13 * 1048576 + e * 32768 + 0 * 4096 + d * 128 + 91 := by
    rw [R, or32' 7 128 (by decide) (by omega) 91 (d * 128 + e * 32768) (by omega) (by omega) (by omega) (by omega) (by omega)]
    rw [or32' 25 33554432 (by decide) (by omega) _ 4194304000 (by omega) (by omega) (by omega) (by omega) (by omega)]
    rw [orm 20 5 1048576 33554432 (by decide) (by decide) 125 (91 + (d * 128 + e * 32768)) 13 32 _ _ (by decide) (by omega) (by omega) (by omega) (by omega) (by omega) (by omega) (by omega) (by omega) (by omega) (by omega) (by omega)]
    omega
  generalize (bits .or .u32 (bits .or .u32 (bits .or .u32 91 (bits .or .u32 (d % 4294967296 * 128 % 4294967296) (e % 4294967296 * 32768 % 4294967296))) 4194304000) 13631488) = X at hX ⊢
  obtain ⟨hb, ho, hrd, hf3, hr1, hr2, hf7⟩ := flds 125 13 e 0 d 91 (by omega) (by omega) (by omega) (by omega) (by omega) (by omega) X hX
  refine ⟨hb, ?_⟩
  simp [dspec, dsCap, dsReg, dsLoad, twoB, ho, hrd, hf3, hr1, hr2, hf7]
end Go.Proofs.Ytiefemcpagdiaaa
