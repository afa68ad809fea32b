/-
  A word whose registers are laid anew: the plain mathematics. No condition.
-/
import Derived.Test.YtiefemcpagdiaaaINum
namespace Go.Proofs.Ytiefemcpagdiaaa
open Go.ChangeShapes Go.WideShapes Go.ChangeAt Go.RowKit
set_option linter.unusedVariables false
set_option linter.unusedSimpArgs false

theorem and_split (k b a d c : Nat) (ha : a < 2 ^ k) (hc : c < 2 ^ k) : (2 ^ k * b + a) &&& (2 ^ k * d + c) = 2 ^ k * (b &&& d) + (a &&& c) := by
  have hac : a &&& c < 2 ^ k := Nat.lt_of_le_of_lt Nat.and_le_left ha
  apply Nat.eq_of_testBit_eq; intro i
  rw [Nat.testBit_and, Nat.testBit_two_pow_mul_add _ ha, Nat.testBit_two_pow_mul_add _ hc, Nat.testBit_two_pow_mul_add _ hac]
  split <;> simp [Nat.testBit_and]
theorem or_mid (hi lo m k l : Nat) (hlo : lo < 2 ^ k) (hm : m < 2 ^ l) : (2 ^ (k + l) * hi + lo) ||| (2 ^ k * m) = 2 ^ (k + l) * hi + lo + 2 ^ k * m := by
  have e : 2 ^ (k + l) * hi + lo + 2 ^ k * m = 2 ^ k * (2 ^ l * hi + m) + lo := by
    rw [Nat.pow_add, Nat.mul_add, Nat.mul_assoc]; omega
  have e0 : 2 ^ (k + l) * hi + lo = 2 ^ k * (2 ^ l * hi) + lo := by rw [Nat.pow_add, Nat.mul_assoc]
  rw [e, e0]
  apply Nat.eq_of_testBit_eq; intro i
  have hq : (2 ^ k * m).testBit i = (decide (k ≤ i) && m.testBit (i - k)) := by rw [Nat.testBit_two_pow_mul]
  rw [Nat.testBit_or, Nat.testBit_two_pow_mul_add _ hlo, Nat.testBit_two_pow_mul_add _ hlo, hq, Nat.two_pow_add_eq_or_of_lt hm]
  by_cases h : i < k
  · simp only [h, if_true, show ¬ k ≤ i by omega, decide_false, Bool.false_and, Bool.or_false]
  · simp only [h, if_false, show k ≤ i by omega, decide_true, Bool.true_and, Nat.testBit_or]
theorem clr32 (n M : Nat) (hn : n < 4294967296) (hM : M < 4294967296) : bits .andNot .u32 (n : Int) (M : Int) = ((n &&& (4294967295 - M) : Nat) : Int) := by
  have e1 : (BitVec.ofInt 32 (n : Int)).toNat = n := by
    rw [BitVec.ofInt_natCast, BitVec.toNat_ofNat]; exact Nat.mod_eq_of_lt (by omega)
  have e2 : (BitVec.ofInt 32 (M : Int)).toNat = M := by
    rw [BitVec.ofInt_natCast, BitVec.toNat_ofNat]; exact Nat.mod_eq_of_lt (by omega)
  have e3 : (~~~ BitVec.ofInt 32 (M : Int)).toNat = 4294967295 - M := by
    rw [BitVec.toNat_not, e2]
  show IntKind.u32.wrap ((BitVec.ofInt 32 (n : Int) &&& ~~~ BitVec.ofInt 32 (M : Int)).toNat : Int) = _
  have hle : n &&& (4294967295 - M) ≤ n := Nat.and_le_left
  rw [BitVec.toNat_and, e1, e3, IntKind.wrap_u32]
  omega
theorem and31 (a : Int) : 0 ≤ bits .and .i64 a 31 ∧ bits .and .i64 a 31 < 32 := by
  show 0 ≤ IntKind.i64.wrap ((BitVec.ofInt 64 a &&& BitVec.ofInt 64 31).toNat : Int) ∧ IntKind.i64.wrap ((BitVec.ofInt 64 a &&& BitVec.ofInt 64 31).toNat : Int) < 32
  have e2 : (BitVec.ofInt 64 31).toNat = 31 := by decide
  have h : (BitVec.ofInt 64 a &&& BitVec.ofInt 64 31).toNat ≤ 31 := by
    rw [BitVec.toNat_and, e2]; exact Nat.and_le_right
  rw [IntKind.wrap_i64]
  omega
/-- The word with another opcode. -/
theorem opc (a c : Int) (a0 : 0 ≤ a) (a1 : a < 4294967296) (c0 : 0 ≤ c) (c1 : c < 128) : bits .or .u32 (bits .andNot .u32 a 127) c = a / 128 * 128 + c := by
  obtain ⟨n, rfl⟩ := Int.eq_ofNat_of_zero_le a0
  have e : bits .andNot .u32 (n : Int) 127 = ((n / 128 * 128 : Nat) : Int) := by
    have h := clr32 n 127 (by omega) (by omega)
    rw [show ((127 : Nat) : Int) = 127 from rfl] at h
    rw [h]
    congr 1
    have hs := and_split 7 (n / 128) (n % 128) 33554431 0 (by omega) (by omega)
    have h1 : 2 ^ 7 * (n / 128) + n % 128 = n := by omega
    have h2 : 2 ^ 7 * 33554431 + 0 = 4294967295 - 127 := by decide
    have h3 : n / 128 &&& 33554431 = n / 128 := by
      have := Nat.and_two_pow_sub_one_of_lt_two_pow (x := n / 128) (n := 25) (by omega)
      simpa using this
    rw [h1, h2, h3, Nat.and_zero] at hs
    rw [hs]; omega
  rw [e, or32 7 128 (by decide) (by omega) _ _ (by omega) (by omega) (by omega) c0 c1]
  omega
/-- The word with other registers. -/
theorem regs (f7 r2 r1 f3 rd o b1 b2 b3 : Int) (hf7 : 0 ≤ f7 ∧ f7 < 128) (hr2 : 0 ≤ r2 ∧ r2 < 32) (hr1 : 0 ≤ r1 ∧ r1 < 32) (hf3 : 0 ≤ f3 ∧ f3 < 8) (hrd : 0 ≤ rd ∧ rd < 32) (ho : 0 ≤ o ∧ o < 128)
    (h1 : 0 ≤ b1 ∧ b1 < 32) (h2 : 0 ≤ b2 ∧ b2 < 32) (h3 : 0 ≤ b3 ∧ b3 < 32) (U : Int) (hU : U = f7 * 33554432 + r2 * 1048576 + r1 * 32768 + f3 * 4096 + rd * 128 + o) :
    bits .or .u32 (bits .or .u32 (bits .or .u32 (bits .andNot .u32 U 33525632) (b1 % 4294967296 * 128 % 4294967296)) (b2 % 4294967296 * 32768 % 4294967296)) (b3 % 4294967296 * 1048576 % 4294967296)
      = f7 * 33554432 + b3 * 1048576 + b2 * 32768 + f3 * 4096 + b1 * 128 + o := by
  obtain ⟨f7, rfl⟩ := Int.eq_ofNat_of_zero_le hf7.1
  obtain ⟨r2, rfl⟩ := Int.eq_ofNat_of_zero_le hr2.1
  obtain ⟨r1, rfl⟩ := Int.eq_ofNat_of_zero_le hr1.1
  obtain ⟨f3, rfl⟩ := Int.eq_ofNat_of_zero_le hf3.1
  obtain ⟨rd, rfl⟩ := Int.eq_ofNat_of_zero_le hrd.1
  obtain ⟨o, rfl⟩ := Int.eq_ofNat_of_zero_le ho.1
  obtain ⟨b1, rfl⟩ := Int.eq_ofNat_of_zero_le h1.1
  obtain ⟨b2, rfl⟩ := Int.eq_ofNat_of_zero_le h2.1
  obtain ⟨b3, rfl⟩ := Int.eq_ofNat_of_zero_le h3.1
  have e0 : (b1 : Int) % 4294967296 * 128 % 4294967296 = ((2 ^ 7 * b1 : Nat) : Int) := by omega
  have e1 : (b2 : Int) % 4294967296 * 32768 % 4294967296 = ((2 ^ 15 * b2 : Nat) : Int) := by omega
  have e2 : (b3 : Int) % 4294967296 * 1048576 % 4294967296 = ((2 ^ 20 * b3 : Nat) : Int) := by omega
  have eU : U = ((f7 * 33554432 + r2 * 1048576 + r1 * 32768 + f3 * 4096 + rd * 128 + o : Nat) : Int) := by rw [hU]; omega
  have hm : (f7 * 33554432 + r2 * 1048576 + r1 * 32768 + f3 * 4096 + rd * 128 + o) &&& (4294967295 - 33525632) = f7 * 33554432 + f3 * 4096 + o := by
    have s1 := and_split 25 f7 (r2 * 1048576 + r1 * 32768 + f3 * 4096 + rd * 128 + o) 127 28799 (by omega) (by omega)
    have s2 := and_split 15 (r2 * 32 + r1) (f3 * 4096 + rd * 128 + o) 0 28799 (by omega) (by omega)
    have s3 := and_split 12 f3 (rd * 128 + o) 7 127 (by omega) (by omega)
    have s4 := and_split 7 rd o 0 127 (by omega) (by omega)
    have g1 : f7 &&& 127 = f7 := by
      have := Nat.and_two_pow_sub_one_of_lt_two_pow (x := f7) (n := 7) (by omega)
      simpa using this
    have g2 : f3 &&& 7 = f3 := by
      have := Nat.and_two_pow_sub_one_of_lt_two_pow (x := f3) (n := 3) (by omega)
      simpa using this
    have g3 : o &&& 127 = o := by
      have := Nat.and_two_pow_sub_one_of_lt_two_pow (x := o) (n := 7) (by omega)
      simpa using this
    have k1 : 2 ^ 25 * f7 + (r2 * 1048576 + r1 * 32768 + f3 * 4096 + rd * 128 + o) = f7 * 33554432 + r2 * 1048576 + r1 * 32768 + f3 * 4096 + rd * 128 + o := by omega
    have k2 : 2 ^ 15 * (r2 * 32 + r1) + (f3 * 4096 + rd * 128 + o) = r2 * 1048576 + r1 * 32768 + f3 * 4096 + rd * 128 + o := by omega
    have k3 : 2 ^ 12 * f3 + (rd * 128 + o) = f3 * 4096 + rd * 128 + o := by omega
    have k4 : 2 ^ 7 * rd + o = rd * 128 + o := by omega
    rw [k1, g1] at s1
    rw [k2, Nat.and_zero] at s2
    rw [k3, g2] at s3
    rw [k4, Nat.and_zero, g3] at s4
    simp only [Nat.reducePow, Nat.reduceMul, Nat.reduceAdd, Nat.mul_zero, Nat.zero_add] at s1 s2 s3 s4
    simp only [Nat.reduceSub]
    rw [s1, s2, s3, s4]; omega
  have hc := clr32 (f7 * 33554432 + r2 * 1048576 + r1 * 32768 + f3 * 4096 + rd * 128 + o) 33525632 (by omega) (by omega)
  rw [hm] at hc
  rw [show ((33525632 : Nat) : Int) = 33525632 from rfl] at hc
  have m1 := or_mid (f7 * 8192 + f3) o b1 7 5 (by omega) (by omega)
  have m2 := or_mid (f7 * 32) (f3 * 4096 + b1 * 128 + o) b2 15 5 (by omega) (by omega)
  have m3 := or_mid f7 (b2 * 32768 + f3 * 4096 + b1 * 128 + o) b3 20 5 (by omega) (by omega)
  have q1 : 2 ^ (7 + 5) * (f7 * 8192 + f3) + o = f7 * 33554432 + f3 * 4096 + o := by omega
  have q2 : 2 ^ (15 + 5) * (f7 * 32) + (f3 * 4096 + b1 * 128 + o) = f7 * 33554432 + f3 * 4096 + o + 2 ^ 7 * b1 := by omega
  have q3 : 2 ^ (20 + 5) * f7 + (b2 * 32768 + f3 * 4096 + b1 * 128 + o) = f7 * 33554432 + f3 * 4096 + o + 2 ^ 7 * b1 + 2 ^ 15 * b2 := by omega
  rw [q1] at m1
  rw [q2] at m2
  rw [q3] at m3
  rw [e0, e1, e2, eU, hc, or32n _ _ (by omega) (by omega), m1, or32n _ _ (by omega) (by omega), m2, or32n _ _ (by omega) (by omega), m3]
  omega
theorem flds (f7 r2 r1 f3 rd o : Int) (hf7 : 0 ≤ f7 ∧ f7 < 128) (hr2 : 0 ≤ r2 ∧ r2 < 32) (hr1 : 0 ≤ r1 ∧ r1 < 32) (hf3 : 0 ≤ f3 ∧ f3 < 8) (hrd : 0 ≤ rd ∧ rd < 32) (ho : 0 ≤ o ∧ o < 128) (X : Int) (hX : X = f7 * 33554432 + r2 * 1048576 + r1 * 32768 + f3 * 4096 + rd * 128 + o) :
    (0 ≤ X ∧ X < 4294967296) ∧ fl X 1 128 = o ∧ fl X 128 32 = rd ∧ fl X 4096 8 = f3 ∧ fl X 32768 32 = r1 ∧ fl X 1048576 32 = r2 ∧ fl X 33554432 128 = f7 := by
  have q1 : X / 128 = f7 * 262144 + r2 * 8192 + r1 * 256 + f3 * 32 + rd := by omega
  have q2 : X / 4096 = f7 * 8192 + r2 * 256 + r1 * 8 + f3 := by omega
  have q3 : X / 32768 = f7 * 1024 + r2 * 32 + r1 := by omega
  have q4 : X / 1048576 = f7 * 32 + r2 := by omega
  have q5 : X / 33554432 = f7 := by omega
  unfold fl
  rw [q1, q2, q3, q4, q5]
  refine ⟨by omega, by omega, by omega, by omega, by omega, by omega, by omega⟩
theorem sp_alu (U V : Int) (e3 : fl V 4096 8 = fl U 4096 8) (e7 : fl V 33554432 128 = fl U 33554432 128) :
    spAlu V = (spAlu U).map fun i => { i with rd := fl V 128 32, r1 := fl V 32768 32, r2 := fl V 1048576 32 } := by
  unfold spAlu
  rw [e3, e7]
  repeat' split
  all_goals rfl
theorem nar_map (o : Option Ins) (p q r : Int) : nar (o.map fun i => { i with rd := p, r1 := q, r2 := r }) = (nar o).map fun i => { i with rd := p, r1 := q, r2 := r } := by
  cases o with
  | none => rfl
  | some i =>
    show (if narB { i with rd := p, r1 := q, r2 := r, wo := true } then some { i with rd := p, r1 := q, r2 := r, wo := true } else none) = Option.map _ (if narB { i with wo := true } then some { i with wo := true } else none)
    have hb : narB { i with rd := p, r1 := q, r2 := r, wo := true } = narB { i with wo := true } := rfl
    rw [hb]
    split <;> rfl
theorem core (a0 c a1 a2 a3 : Int) (h0 : 0 ≤ a0) (h1 : a0 < 4294967296) (hc : c = 51 ∨ c = 59) (U V : Int) (hU : bits .or .u32 (bits .andNot .u32 a0 127) c = U)
    (hV : bits .or .u32 (bits .or .u32 (bits .or .u32 (bits .andNot .u32 U 33525632) (bits .and .i64 a1 31 % 4294967296 * 128 % 4294967296)) (bits .and .i64 a2 31 % 4294967296 * 32768 % 4294967296)) (bits .and .i64 a3 31 % 4294967296 * 1048576 % 4294967296) = V) :
    (0 ≤ U ∧ U < 4294967296) ∧ (0 ≤ V ∧ V < 4294967296) ∧ spec V = (spec U).map fun i => { i with rd := bits .and .i64 a1 31, r1 := bits .and .i64 a2 31, r2 := bits .and .i64 a3 31 } := by
  have g1 := and31 a1
  have g2 := and31 a2
  have g3 := and31 a3
  rw [opc a0 c h0 h1 (by omega) (by omega)] at hU
  obtain ⟨f7, hf7⟩ : ∃ f, a0 / 33554432 = f := ⟨_, rfl⟩
  obtain ⟨r2, hr2⟩ : ∃ f, a0 / 1048576 % 32 = f := ⟨_, rfl⟩
  obtain ⟨r1, hr1⟩ : ∃ f, a0 / 32768 % 32 = f := ⟨_, rfl⟩
  obtain ⟨f3, hf3⟩ : ∃ f, a0 / 4096 % 8 = f := ⟨_, rfl⟩
  obtain ⟨rd, hrd⟩ : ∃ f, a0 / 128 % 32 = f := ⟨_, rfl⟩
  have b7 : 0 ≤ f7 ∧ f7 < 128 := by omega
  have b2 : 0 ≤ r2 ∧ r2 < 32 := by omega
  have b1 : 0 ≤ r1 ∧ r1 < 32 := by omega
  have b3 : 0 ≤ f3 ∧ f3 < 8 := by omega
  have bd : 0 ≤ rd ∧ rd < 32 := by omega
  have bc : 0 ≤ c ∧ c < 128 := by omega
  have eU : U = f7 * 33554432 + r2 * 1048576 + r1 * 32768 + f3 * 4096 + rd * 128 + c := by omega
  clear hf7 hr2 hr1 hf3 hrd hU
  rw [regs f7 r2 r1 f3 rd c _ _ _ b7 b2 b1 b3 bd bc g1 g2 g3 U eU] at hV
  obtain ⟨u0, uo, ud, u3, u1, u2, u7⟩ := flds f7 r2 r1 f3 rd c b7 b2 b1 b3 bd bc U eU
  obtain ⟨v0, vo, vd, v3, v1, v2, v7⟩ := flds f7 _ _ f3 _ c b7 g3 g2 b3 g1 bc V hV.symm
  refine ⟨u0, v0, ?_⟩
  have hs := sp_alu U V (by rw [u3, v3]) (by rw [u7, v7])
  rw [vd, v1, v2] at hs
  rcases hc with rfl | rfl
  · have e1 : spec U = spAlu U := by simp [spec, uo]
    have e2 : spec V = spAlu V := by simp [spec, vo]
    rw [e1, e2, hs]
  · have e1 : spec U = nar (spAlu U) := by simp [spec, uo]
    have e2 : spec V = nar (spAlu V) := by simp [spec, vo]
    rw [e1, e2, hs, nar_map]
end Go.Proofs.Ytiefemcpagdiaaa
