/-
  The plain mathematics of layer 4 (capenc): masks, bits that are laid beside one another, the null's bits turned. No condition; nothing of a program.
  Contracts of capenc's row of bits: lowest, put, take, of 64 bits and of 8. A row's two cells stand alone in a block of their own.
  Contracts of capenc's mix and split, and of toBits: a right capability's fields as bits.
  Contracts of capenc's fits, rightBounds and Right: whether a capability's fields are in their places. No condition but that fields are numbers of 64 bits.
-/
import Derived.WalkKit
import Derived.Laws.BitsLemmas
import Derived.Laws.Bits64b
import Derived.Test.YtkddgjaflcjhiaaKp
import Derived.StillTailTactics
namespace Go.Proofs.Ytkddgjaflcjhiaa
open Go.RowKit
set_option linter.unusedVariables false
set_option linter.unusedSimpArgs false

theorem i64_wraps (n : Int) (h0 : 0 ≤ n) (h1 : n < 2 ^ 63) : IntKind.i64.wrap n = n := by rw [IntKind.wrap_i64]; omega
theorem u64_wraps (n : Int) (h0 : 0 ≤ n) (h1 : n < 2 ^ 64) : IntKind.u64.wrap n = n := by rw [IntKind.wrap_u64]; omega
theorem and_m64 (i : Nat) (hi : i ≤ 64) (x : Int) (h0 : 0 ≤ x) (h1 : x < 18446744073709551616) : bits .and .u64 x (2 ^ i - 1) = x % 2 ^ i :=
  bits_mask .u64 64 (by decide) u64_wraps i hi x h0 (by omega)
theorem and_m8 (i : Nat) (hi : i ≤ 8) (x : Int) (h0 : 0 ≤ x) (h1 : x < 256) : bits .and .u8 x (2 ^ i - 1) = x % 2 ^ i :=
  bits_mask .u8 8 (by decide) wraps_u8 i hi x h0 (by omega)
theorem and_i7 (x : Int) (h0 : 0 ≤ x) (h1 : x < 9223372036854775808) : bits .and .i64 x 7 = x % 8 :=
  bits_mask .i64 63 (by decide) i64_wraps 3 (by omega) x h0 (by omega)
theorem or64 (i : Nat) (x y : Int) (x0 : 0 ≤ x) (x1 : x < 2 ^ i) (y0 : 0 ≤ y) (h : x + y * 2 ^ i < 18446744073709551616) : bits .or .u64 x (y * 2 ^ i) = x + y * 2 ^ i := by
  obtain ⟨a, rfl⟩ := Int.eq_ofNat_of_zero_le x0
  obtain ⟨b, rfl⟩ := Int.eq_ofNat_of_zero_le y0
  have ha : a < 2 ^ i := by have h2 : ((a : Nat) : Int) < ((2 ^ i : Nat) : Int) := by simpa using x1
                            exact Int.ofNat_lt.mp h2
  have e : ((b : Int) * 2 ^ i) = ((2 ^ i * b : Nat) : Int) := by simp [Int.mul_comm]
  rw [e] at h ⊢
  rw [bits_or_u64_nat _ _ (by omega) (by omega), Nat.or_comm, ← Nat.two_pow_add_eq_or_of_lt ha b]
  omega
theorem or8 (i : Nat) (x y : Int) (x0 : 0 ≤ x) (x1 : x < 2 ^ i) (y0 : 0 ≤ y) (h : x + y * 2 ^ i < 256) : bits .or .u8 x (y * 2 ^ i) = x + y * 2 ^ i := by
  obtain ⟨a, rfl⟩ := Int.eq_ofNat_of_zero_le x0
  obtain ⟨b, rfl⟩ := Int.eq_ofNat_of_zero_le y0
  have ha : a < 2 ^ i := by have h2 : ((a : Nat) : Int) < ((2 ^ i : Nat) : Int) := by simpa using x1
                            exact Int.ofNat_lt.mp h2
  have e : ((b : Int) * 2 ^ i) = ((2 ^ i * b : Nat) : Int) := by simp [Int.mul_comm]
  rw [e] at h ⊢
  rw [(bits_nat .u8 8 (by decide) wraps_u8 _ _ (by omega) (by omega)).2, Nat.or_comm, ← Nat.two_pow_add_eq_or_of_lt ha b]
  omega
/-- Noughts in place of the lowest three bits. -/
theorem clr7 (x : Int) (h0 : 0 ≤ x) (h1 : x < 9223372036854775808) : bits .andNot .i64 x 7 = x - x % 8 := by
  obtain ⟨a, rfl⟩ := Int.eq_ofNat_of_zero_le h0
  have h2 : (BitVec.ofInt 64 (a : Int)).toNat = a := by
    rw [BitVec.ofInt_natCast, BitVec.toNat_ofNat]; exact Nat.mod_eq_of_lt (by omega)
  show IntKind.i64.wrap ((BitVec.ofInt 64 (a : Int) &&& ~~~ BitVec.ofInt 64 (7 : Int)).toNat : Int) = _
  have h3 : (BitVec.ofInt 64 (a : Int) &&& ~~~ BitVec.ofInt 64 (7 : Int)).toNat = a - a % 8 := by
    have h4 : (~~~ BitVec.ofInt 64 (7 : Int)).toNat = 2 ^ 64 - 8 := by decide
    rw [BitVec.toNat_and, h2, h4]
    apply Nat.eq_of_testBit_eq
    intro i
    have e1 : a - a % 8 = 2 ^ 3 * (a / 8) + 0 := by omega
    rw [Nat.testBit_and, e1, Nat.testBit_two_pow_mul_add _ (by omega), show 2 ^ 64 - 8 = 2 ^ 64 - (7 + 1) by omega, Nat.testBit_two_pow_sub_succ (by omega)]
    have e2 : (7 : Nat).testBit i = decide (i < 3) := by
      rw [show (7 : Nat) = 2 ^ 3 - 1 by omega, Nat.testBit_two_pow_sub_one]
    rw [e2]
    have e3 : a.testBit i = true → i < 64 := fun h => by
      rcases Nat.lt_or_ge i 64 with h5 | h5
      · exact h5
      · rw [Nat.testBit_lt_two_pow (Nat.lt_of_lt_of_le (show a < 2 ^ 64 by omega) (Nat.pow_le_pow_right (by omega) h5))] at h; cases h
    by_cases h6 : i < 3
    · simp [h6]
    · have e4 : (a / 8).testBit (i - 3) = a.testBit i := by
        rw [show a / 8 = a / 2 ^ 3 by omega, Nat.testBit_div_two_pow, show i - 3 + 3 = i by omega]
      simp only [h6, decide_false, Bool.not_false, Bool.and_true, if_false, e4]
      cases h7 : a.testBit i
      · simp
      · simp [e3 h7]
  rw [h3, IntKind.wrap_i64]
  omega
theorem or_i7 (x y : Int) (h0 : 0 ≤ x) (h1 : x < 4611686018427387904) (hx : x % 8 = 0) (y0 : 0 ≤ y) (y1 : y < 8) : bits .or .i64 x y = x + y :=
  bits_join .i64 63 (by decide) i64_wraps 3 x y h0 hx (by omega) y0 y1 (by omega)
/-- Both have noughts below just if their join has. -/
theorem or_low (x y : Int) (x0 : 0 ≤ x) (x1 : x < 4611686018427387904) (y0 : 0 ≤ y) (y1 : y < 4611686018427387904) : bits .or .i64 x y % 8 = 0 ↔ x % 8 = 0 ∧ y % 8 = 0 := by
  obtain ⟨a, rfl⟩ := Int.eq_ofNat_of_zero_le x0
  obtain ⟨b, rfl⟩ := Int.eq_ofNat_of_zero_le y0
  rw [(bits_nat .i64 63 (by decide) i64_wraps _ _ (by omega) (by omega)).2]
  have h : ((a ||| b : Nat) : Int) % 8 = ((((a ||| b) % 8 : Nat)) : Int) := by omega
  have h2 := Nat.or_mod_two_pow (a := a) (b := b) (n := 3)
  simp only [show 2 ^ 3 = 8 from rfl] at h2
  rw [h, h2]
  have h3 : ((a % 8) ||| (b % 8)) = 0 ↔ a % 8 = 0 ∧ b % 8 = 0 := by
    constructor
    · intro h4
      constructor
      · have := (Nat.left_le_or : a % 8 ≤ a % 8 ||| b % 8); omega
      · have := (Nat.right_le_or : b % 8 ≤ a % 8 ||| b % 8); omega
    · rintro ⟨h4, h5⟩; rw [h4, h5]; rfl
  omega
theorem or_bd (x y : Int) (x0 : 0 ≤ x) (x1 : x < 4611686018427387904) (y0 : 0 ≤ y) (y1 : y < 4611686018427387904) : 0 ≤ bits .or .i64 x y ∧ bits .or .i64 x y < 4611686018427387904 := by
  obtain ⟨a, rfl⟩ := Int.eq_ofNat_of_zero_le x0
  obtain ⟨b, rfl⟩ := Int.eq_ofNat_of_zero_le y0
  rw [(bits_nat .i64 63 (by decide) i64_wraps _ _ (by omega) (by omega)).2]
  have := Nat.or_lt_two_pow (x := a) (y := b) (n := 62) (by omega) (by omega)
  omega

/-- A number, the null's bits turned. -/
def xk (n : Int) : Int := bits .xor .u64 n 35184305078276
theorem xk_nat (a : Nat) (h : a < 18446744073709551616) : xk (a : Int) = ((a ^^^ 35184305078276 : Nat) : Int) :=
  bits_xor_u64_nat a 35184305078276 h (by omega)
theorem xk_bd (n : Int) : 0 ≤ xk n ∧ xk n < 18446744073709551616 := by
  have a := bits_lo_u64 .xor n 35184305078276; have b := bits_hi_u64 .xor n 35184305078276
  unfold xk; omega
theorem xk_xk (n : Int) (h0 : 0 ≤ n) (h1 : n < 18446744073709551616) : xk (xk n) = n := by
  obtain ⟨a, rfl⟩ := Int.eq_ofNat_of_zero_le h0
  have hx : a ^^^ 35184305078276 < 2 ^ 64 := Nat.xor_lt_two_pow (by omega) (by omega)
  rw [xk_nat a (by omega), xk_nat _ hx, Nat.xor_assoc, Nat.xor_self, Nat.xor_zero]
theorem xk_62 (n : Int) (h0 : 0 ≤ n) (h1 : n < 4611686018427387904) : xk n < 4611686018427387904 := by
  obtain ⟨a, rfl⟩ := Int.eq_ofNat_of_zero_le h0
  have hx : a ^^^ 35184305078276 < 2 ^ 62 := Nat.xor_lt_two_pow (by omega) (by omega)
  rw [xk_nat a (by omega)]; omega
theorem xk_inj (a b : Int) (a0 : 0 ≤ a) (a1 : a < 18446744073709551616) (b0 : 0 ≤ b) (b1 : b < 18446744073709551616) (h : xk a = xk b) : a = b := by
  rw [← xk_xk a a0 a1, h, xk_xk b b0 b1]
/-- The upper bits of one that is turned hang on the upper bits alone. -/
theorem xk_up (a b : Int) (a0 : 0 ≤ a) (a1 : a < 18446744073709551616) (b0 : 0 ≤ b) (b1 : b < 18446744073709551616)
    (h : a / 134217728 = b / 134217728 % 34359738368) : xk a / 134217728 = xk b / 134217728 % 34359738368 := by
  obtain ⟨x, rfl⟩ := Int.eq_ofNat_of_zero_le a0
  obtain ⟨y, rfl⟩ := Int.eq_ofNat_of_zero_le b0
  rw [xk_nat x (by omega), xk_nat y (by omega)]
  have hn : x / 2 ^ 27 = y / 2 ^ 27 % 2 ^ 35 := by omega
  have e : (x ^^^ 35184305078276) / 2 ^ 27 = (y ^^^ 35184305078276) / 2 ^ 27 % 2 ^ 35 := by
    rw [Nat.xor_div_two_pow, Nat.xor_div_two_pow, Nat.xor_mod_two_pow, hn]
  omega
end Go.Proofs.Ytkddgjaflcjhiaa
namespace Go.Proofs.Ytkddgjaflcjhiaa
open Go.ChangeShapes Go.WideShapes Go.ChangeAt Go.RowKit
set_option linter.unusedVariables false
set_option linter.unusedSimpArgs false

theorem pow_pos2 (k : Nat) : (0 : Int) < 2 ^ k := Int.pow_pos (by omega)
theorem pow_le2 {a b : Nat} (h : a ≤ b) : (2 : Int) ^ a ≤ 2 ^ b := by
  have h2 : 2 ^ a ≤ 2 ^ b := Nat.pow_le_pow_right (by omega) h
  have h3 : (((2 ^ a : Nat)) : Int) ≤ ((2 ^ b : Nat) : Int) := by omega
  simpa using h3
theorem mul_lt64 (f : Int) (k n : Nat) (f0 : 0 ≤ f) (f1 : f < 2 ^ k) (h : n + k ≤ 64) : 0 ≤ f * 2 ^ n ∧ f * 2 ^ n + 2 ^ n ≤ 18446744073709551616 := by
  have hn := pow_pos2 n
  have h2 : (f + 1) * 2 ^ n ≤ 2 ^ k * 2 ^ n := Int.mul_le_mul_of_nonneg_right (by omega) (Int.le_of_lt hn)
  have h3 : (2 : Int) ^ k * 2 ^ n = 2 ^ (n + k) := by rw [Nat.add_comm, Int.pow_add]
  have h4 : (2 : Int) ^ (n + k) ≤ 2 ^ 64 := pow_le2 h
  have h5 := Int.mul_nonneg f0 (Int.le_of_lt hn)
  have h6 : (f + 1) * 2 ^ n = f * 2 ^ n + 2 ^ n := by rw [Int.add_mul, Int.one_mul]
  have h7 : (2 : Int) ^ 64 = 18446744073709551616 := by decide
  omega
theorem put_val64 (x f : Int) (k n : Nat) (x0 : 0 ≤ x) (x1 : x < 2 ^ n) (f0 : 0 ≤ f) (f1 : f < 2 ^ k) (h : n + k ≤ 64) (hk : k ≤ 18) :
    bits .or .u64 x (IntKind.u64.wrap (bits .and .u64 (IntKind.u64.wrap f) (2 ^ k - 1) * 2 ^ n)) = x + f * 2 ^ n := by
  have h1 := mul_lt64 f k n f0 f1 h
  have h2 : (2 : Int) ^ k ≤ 2 ^ 18 := pow_le2 hk
  have h3 : IntKind.u64.wrap f = f := by rw [IntKind.wrap_u64]; omega
  have h4 : f % 2 ^ k = f := Int.emod_eq_of_lt f0 f1
  have h5 : IntKind.u64.wrap (f * 2 ^ n) = f * 2 ^ n := by rw [IntKind.wrap_u64]; have := pow_pos2 n; omega
  rw [h3, and_m64 k (by omega) f f0 (by omega), h4, h5, or64 n x f x0 x1 f0 (by omega)]
theorem Pt.two {B : Nat} {a b : Value} {w : World} (c0 : w.cell? ⟨B, 0, none⟩ = some a) (c1 : w.cell? ⟨B, 1, none⟩ = some b) (u v : Value) :
    Pt B u v w (((w.setCell ⟨B, 0, none⟩ u).setCell ⟨B, 1, none⟩ v).drew) :=
  ⟨(((Below.refl B w).setCell (p := ⟨B, 0, none⟩) (Nat.le_refl _) u).setCell (p := ⟨B, 1, none⟩) (Nat.le_refl _) v).drew, fun x => by simp [World.frozen?_setCell, go_sem], by simp [go_sem, *], by simp [go_sem, *]⟩
theorem Pt.one {B : Nat} {a b : Value} {w : World} (c0 : w.cell? ⟨B, 0, none⟩ = some a) (c1 : w.cell? ⟨B, 1, none⟩ = some b) (n : Nat) (v : Value) :
    Pt B a v w ((w.drewN n).setCell ⟨B, 1, none⟩ v) :=
  ⟨(⟨rfl, rfl, rfl, Nat.le_refl _, fun _ _ => rfl⟩ : Below B w (w.drewN n)).setCell (p := ⟨B, 1, none⟩) (Nat.le_refl _) v, fun x => by simp [World.frozen?_setCell, go_sem], by simp [go_sem, *], by simp [go_sem, *]⟩
theorem div_bd2 (x : Int) (n : Nat) (h0 : 0 ≤ x) : 0 ≤ x / 2 ^ n ∧ x / 2 ^ n ≤ x := ⟨Int.ediv_nonneg h0 (Int.le_of_lt (pow_pos2 n)), Int.ediv_le_self _ h0⟩
theorem take_val64 (x : Int) (n k : Nat) (x0 : 0 ≤ x) (x1 : x < 18446744073709551616) (hk : k ≤ 18) : wrap64 (bits .and .u64 (x / 2 ^ n) (2 ^ k - 1)) = x / 2 ^ n % 2 ^ k := by
  have h1 := div_bd2 x n x0
  have h2 : (2 : Int) ^ k ≤ 2 ^ 18 := pow_le2 hk
  have h3 := pow_pos2 k
  have h4 := Int.emod_nonneg (x / 2 ^ n) (Int.ne_of_gt h3)
  have h5 := Int.emod_lt_of_pos (x / 2 ^ n) h3
  rw [and_m64 k (by omega) _ h1.1 (by omega)]
  unfold wrap64; omega
theorem take_val8 (x : Int) (n : Nat) (x0 : 0 ≤ x) (x1 : x < 256) : wrap64 (bits .and .u8 (x / 2 ^ n) 7) = x / 2 ^ n % 8 := by
  have h1 := div_bd2 x n x0
  have h2 := and_m8 3 (by omega) (x / 2 ^ n) h1.1 (by omega)
  have h3 : ((2 : Int) ^ 3 - 1) = 7 := by decide
  have h4 : ((2 : Int) ^ 3) = 8 := by decide
  rw [h3, h4] at h2
  rw [h2]
  unfold wrap64; omega
theorem put_val8 (x f : Int) (n : Nat) (n0 : n = 0 ∨ n = 3) (x0 : 0 ≤ x) (x1 : x < 2 ^ n) : bits .or .u8 x (f % 8 * 2 ^ n % 256) = x + f % 8 * 2 ^ n := by
  have h : f % 8 * 2 ^ n % 256 = f % 8 * 2 ^ n := by
    rcases n0 with rfl | rfl
    · simp; omega
    · have : (2 : Int) ^ 3 = 8 := by decide
      rw [this]; omega
  rw [h]
  refine or8 n x (f % 8) x0 x1 (by omega) ?_
  rcases n0 with rfl | rfl
  · simp at x1 ⊢; omega
  · have : (2 : Int) ^ 3 = 8 := by decide
    rw [this] at x1 ⊢; omega
end Go.Proofs.Ytkddgjaflcjhiaa
namespace Go.Proofs.Ytkddgjaflcjhiaa
open Go.ChangeShapes Go.WideShapes Go.ChangeAt Go.RowKit
set_option linter.unusedVariables false
set_option linter.unusedSimpArgs false

/-- A capability's fields as bits. -/
def bitsV (pe ty mo e b t : Int) (g : Bool) : Int := (b + b01 g * (e % 8)) + 16384 * (t + b01 g * (e / 8)) + 67108864 * b01 g + 134217728 * ty + 35184372088832 * mo + 70368744177664 * pe
end Go.Proofs.Ytkddgjaflcjhiaa
namespace Go.Proofs.Ytkddgjaflcjhiaa
open Go.ChangeShapes Go.WideShapes Go.ChangeAt Go.RowKit
set_option linter.unusedVariables false
set_option linter.unusedSimpArgs false

/-- From 0 up to ahead of m. -/
def fitB (m f : Int) : Bool := decide (0 ≤ f) && decide (f < m)
theorem fitB_div (f : Int) (k : Nat) : (f / 2 ^ k == 0) = fitB (2 ^ k) f := by
  have hk := pow_pos2 k
  rw [Bool.eq_iff_iff]
  simp only [fitB, beq_iff_eq, Bool.and_eq_true, decide_eq_true_eq]
  constructor
  · intro h
    have h1 := Int.emod_add_mul_ediv f (2 ^ k)
    have h2 := Int.emod_nonneg f (Int.ne_of_gt hk)
    have h3 := Int.emod_lt_of_pos f hk
    rw [h, Int.mul_zero] at h1
    omega
  · rintro ⟨h1, h2⟩
    exact Int.ediv_eq_zero_of_lt h1 h2
/-- Bounds' fields are in their places. -/
def rbB (e b t : Int) (g : Bool) : Bool := fitB 16384 b && fitB 4096 t && (if g then decide (0 ≤ e) && decide (e ≤ 52) && decide (b % 8 = 0) && decide (t % 8 = 0) else decide (e = 0))
def rightB (pe ty mo e b t : Int) (g : Bool) : Bool := fitB 65536 pe && fitB 262144 ty && fitB 2 mo && rbB e b t g
theorem efits_w (f k m : Int) (hm : (2 : Int) ^ k.toNat = m) (k0 : 0 ≤ k) (k1 : k ≤ 30) (f0 : -9223372036854775808 ≤ f) (f1 : f < 9223372036854775808) (w : World) :
    Calls Try.prog 52 #[f, .int .u64 k] w fun e w' => e = .returned (.bool (fitB m f)) ∧ w = w' := by
  have H := Lib.hid hm
  clear hm
  go_enter Try.func52, Try.ntmps52
  go_wp2
  go_ret
  refine ⟨ret_bool ?_, rfl⟩
  rw [← H.out]; exact fitB_div f k.toNat
theorem low_both (b t : Int) (b0 : 0 ≤ b) (b1 : b < 16384) (t0 : 0 ≤ t) (t1 : t < 4096) : (bits .and .i64 (bits .or .i64 b t) 7 == 0) = (decide (b % 8 = 0) && decide (t % 8 = 0)) := by
  have h := or_bd b t b0 (by omega) t0 (by omega)
  have h2 := or_low b t b0 (by omega) t0 (by omega)
  rw [and_i7 _ h.1 (by omega), Bool.eq_iff_iff]
  simpa using h2
theorem rb_w (tg : Bool) (pe ty mo e b t : Int) (g : Bool) (a : Int) (e0 : -9223372036854775808 ≤ e) (e1 : e < 9223372036854775808) (b0 : -9223372036854775808 ≤ b) (b1 : b < 9223372036854775808) (t0 : -9223372036854775808 ≤ t) (t1 : t < 9223372036854775808) (w : World) :
    Calls Try.prog 53 #[.agg #[tg, pe, ty, mo, e, b, t, g, .int .u64 a]] w fun e' w' => e' = .returned (.bool (rbB e b t g)) ∧ Kp w w' := by
  have K := (Kp.refl w).allocs #[tg, pe, ty, mo, e, b, t, g, .int .u64 a] 25
  have H1 : fitB 16384 b = true → 0 ≤ b ∧ b < 16384 := by simp [fitB]
  have H2 : fitB 4096 t = true → 0 ≤ t ∧ t < 4096 := by simp [fitB]
  have HH := Lib.hid (And.intro H1 H2)
  clear H1 H2
  cases h1 : fitB 16384 b <;> cases h2 : fitB 4096 t <;> cases g
  all_goals
    go_enter Try.func53, Try.ntmps53
    go_wp2_with (first
      | (go_at_call 52; (with_reducible refine (efits_w b 14 16384 (by decide) (by omega) (by omega) b0 b1 _).mono ?_); rintro e' w1 ⟨rfl, rfl⟩)
      | (go_at_call 52; (with_reducible refine (efits_w t 12 4096 (by decide) (by omega) (by omega) t0 t1 _).mono ?_); rintro e' w1 ⟨rfl, rfl⟩))
  all_goals
    go_ret
    refine ⟨ret_bool ?_, K⟩
    first
      | (simp [rbB, h1, h2]; done)
      | (rw [low_both b t (HH.out.1 h1).1 (HH.out.1 h1).2 (HH.out.2 h2).1 (HH.out.2 h2).2]; simp [rbB, h1, h2, *]; done)
      | (have e2 : decide (0 ≤ e) && decide (e ≤ 52) = false := by simp; omega
         simp only [rbB, e2, if_true, Bool.false_and, Bool.and_false]; done)
      | (rw [Bool.eq_iff_iff]; simp [rbB, h1, h2]; done)
      | (simp [rbB, h1, h2]; omega)
theorem right_w (tg : Bool) (pe ty mo e b t : Int) (g : Bool) (a : Int) (p0 : -9223372036854775808 ≤ pe) (p1 : pe < 9223372036854775808) (y0 : -9223372036854775808 ≤ ty) (y1 : ty < 9223372036854775808) (o0 : -9223372036854775808 ≤ mo) (o1 : mo < 9223372036854775808)
    (e0 : -9223372036854775808 ≤ e) (e1 : e < 9223372036854775808) (b0 : -9223372036854775808 ≤ b) (b1 : b < 9223372036854775808) (t0 : -9223372036854775808 ≤ t) (t1 : t < 9223372036854775808) (w : World) :
    Calls Try.prog 21 #[.agg #[tg, pe, ty, mo, e, b, t, g, .int .u64 a]] w fun e' w' => e' = .returned (.bool (rightB pe ty mo e b t g)) ∧ Kp w w' := by
  cases h1 : fitB 65536 pe <;> cases h2 : fitB 262144 ty <;> cases h3 : fitB 2 mo
  all_goals
    go_enter Try.func21, Try.ntmps21
    go_wp2_with (first
      | (go_at_call 52; (with_reducible refine (efits_w pe 16 65536 (by decide) (by omega) (by omega) p0 p1 _).mono ?_); rintro e' w1 ⟨rfl, rfl⟩)
      | (go_at_call 52; (with_reducible refine (efits_w ty 18 262144 (by decide) (by omega) (by omega) y0 y1 _).mono ?_); rintro e' w1 ⟨rfl, rfl⟩)
      | (go_at_call 52; (with_reducible refine (efits_w mo 1 2 (by decide) (by omega) (by omega) o0 o1 _).mono ?_); rintro e' w1 ⟨rfl, rfl⟩)
      | (go_at_call 53; (with_reducible refine (rb_w tg pe ty mo e b t g a e0 e1 b0 b1 t0 t1 _).mono ?_); rintro e' w1 ⟨rfl, q⟩; have KW := Lib.hid (Kp.trans ((Kp.refl w).allocs _ _) q); clear q))
  all_goals
    go_ret
    refine ⟨ret_bool ?_, ?_⟩
  all_goals first
    | (simp [rightB, h1, h2, h3]; done)
    | exact (Kp.refl w).allocs _ _
    | exact KW.out
end Go.Proofs.Ytkddgjaflcjhiaa
