/-
  The plain mathematics of permissions: what '&', '&^', '|' of numbers of 64 bits leave. No condition but those that a lemma names; nothing of a program.
-/
import Derived.Test.YtikibfpfieoabaaCBase
namespace Go.Proofs.Ytikibfpfieoabaa
open Go.RowKit
set_option linter.unusedVariables false
set_option linter.unusedSimpArgs false

def bv (x : Int) : BitVec 64 := BitVec.ofInt 64 x
def ub (r : BitVec 64) : Int := IntKind.i64.wrap (r.toNat : Int)
theorem and_ub (x y : Int) : bits .and .i64 x y = ub (bv x &&& bv y) := rfl
theorem or_ub (x y : Int) : bits .or .i64 x y = ub (bv x ||| bv y) := rfl
theorem andNot_ub (x y : Int) : bits .andNot .i64 x y = ub (bv x &&& ~~~ bv y) := rfl
theorem bv_ub (r : BitVec 64) : bv (ub r) = r := by
  unfold bv ub
  apply BitVec.eq_of_toNat_eq
  rw [BitVec.toNat_ofInt, IntKind.wrap_i64]
  have := r.isLt
  omega
theorem ub_bv (x : Int) (x0 : -9223372036854775808 ≤ x) (x1 : x < 9223372036854775808) : ub (bv x) = x := by
  unfold bv ub
  rw [BitVec.toNat_ofInt, IntKind.wrap_i64]
  omega
theorem ub_0 (r : BitVec 64) : ub r = 0 ↔ r = 0#64 := by
  constructor
  · intro h
    have := bv_ub r
    rw [h] at this
    rw [← this]; rfl
  · rintro rfl; rfl
theorem per_iff (pe k : Int) : perB pe k = true ↔ bv k &&& ~~~ bv pe = 0#64 := by
  unfold perB
  rw [beq_iff_eq, andNot_ub, ub_0]
theorem bit_iff (x : BitVec 64) : x = 0#64 ↔ ∀ i, i < 64 → x.getLsbD i = false := by
  constructor
  · rintro rfl i hi; simp
  · intro h; apply BitVec.eq_of_getLsbD_eq; intro i hi; rw [h i hi]; simp
theorem per_bits (pe k : Int) : perB pe k = true ↔ ∀ i, i < 64 → (bv k).getLsbD i = true → (bv pe).getLsbD i = true := by
  rw [per_iff, bit_iff]
  constructor
  · intro h i hi hk
    have := h i hi
    rw [BitVec.getLsbD_and, BitVec.getLsbD_not, hk] at this
    simpa [hi] using this
  · intro h i hi
    rw [BitVec.getLsbD_and, BitVec.getLsbD_not]
    cases hk : (bv k).getLsbD i
    · simp
    · rw [h i hi hk]; simp
theorem per_refl (pe : Int) : perB pe pe = true := (per_bits _ _).2 (fun _ _ h => h)
theorem per_trans (a b c : Int) (h : perB a b = true) (k : perB b c = true) : perB a c = true :=
  (per_bits _ _).2 (fun i hi hc => (per_bits _ _).1 h i hi ((per_bits _ _).1 k i hi hc))
theorem per_and (pe k : Int) : perB pe (bits .and .i64 pe k) = true :=
  (per_bits _ _).2 (fun i hi hc => by rw [and_ub, bv_ub, BitVec.getLsbD_and, Bool.and_eq_true] at hc; exact hc.1)
theorem per_and2 (pe k : Int) : perB k (bits .and .i64 pe k) = true :=
  (per_bits _ _).2 (fun i hi hc => by rw [and_ub, bv_ub, BitVec.getLsbD_and, Bool.and_eq_true] at hc; exact hc.2)
theorem bv_one (j : Nat) (hj : j < 63) (i : Nat) (hi : i < 64) : (bv ((2 ^ j : Nat) : Int)).getLsbD i = decide (i = j) := by
  unfold bv
  rw [BitVec.ofInt_natCast, BitVec.getLsbD_ofNat, Nat.testBit_two_pow]
  simp [hi, eq_comm]
/-- A single permission: asked for by '&^', or by '&'. -/
theorem per_one (pe : Int) (j : Nat) (hj : j < 63) : perB pe ((2 ^ j : Nat) : Int) = !(bits .and .i64 pe ((2 ^ j : Nat) : Int) == 0) := by
  rw [Bool.eq_iff_iff, per_bits, and_ub, Bool.not_eq_true', beq_eq_false_iff_ne, ne_eq, ub_0, bit_iff]
  constructor
  · intro h hn
    have h1 := h j (by omega) (by rw [bv_one j hj j (by omega)]; simp)
    have h2 := hn j (by omega)
    rw [BitVec.getLsbD_and, h1, bv_one j hj j (by omega)] at h2
    simp at h2
  · intro h i hi hk
    rw [bv_one j hj i hi, decide_eq_true_eq] at hk
    subst hk
    cases hp : (bv pe).getLsbD i
    · exfalso
      apply h
      intro m hm
      rw [BitVec.getLsbD_and, bv_one i hj m hm]
      by_cases e : m = i
      · subst e; rw [hp]; rfl
      · simp [e]
    · rfl
theorem or_keep (c : Int) (c0 : 0 ≤ c) (c1 : c < 65536) : bits .or .i64 c (bits .and .i64 c 1) = c := by
  rw [or_ub, and_ub, bv_ub]
  have : bv c ||| bv c &&& bv 1 = bv c := by
    apply BitVec.eq_of_getLsbD_eq; intro i hi
    rw [BitVec.getLsbD_or, BitVec.getLsbD_and]
    cases (bv c).getLsbD i <;> simp
  rw [this, ub_bv c (by omega) (by omega)]
theorem or_back (c : Int) (c0 : 0 ≤ c) (c1 : c < 65536) : bits .or .i64 (bits .andNot .i64 c 1) (bits .and .i64 c 1) = c := by
  rw [or_ub, and_ub, andNot_ub, bv_ub, bv_ub]
  have : bv c &&& ~~~ bv 1 ||| bv c &&& bv 1 = bv c := by
    apply BitVec.eq_of_getLsbD_eq; intro i hi
    rw [BitVec.getLsbD_or, BitVec.getLsbD_and, BitVec.getLsbD_and, BitVec.getLsbD_not]
    cases (bv c).getLsbD i <;> cases (bv 1).getLsbD i <;> simp [hi]
  rw [this, ub_bv c (by omega) (by omega)]
/-- What is masked is no more than it was. -/
theorem ub_nat (n : Nat) (h : n < 9223372036854775808) : ub (BitVec.ofNat 64 n) = n := by
  unfold ub
  rw [BitVec.toNat_ofNat, IntKind.wrap_i64]
  omega
theorem andNot_bd (x m : Int) (x0 : 0 ≤ x) (k : Nat) (hk : k ≤ 62) (x1 : x < ((2 ^ k : Nat) : Int)) : 0 ≤ bits .andNot .i64 x m ∧ bits .andNot .i64 x m < ((2 ^ k : Nat) : Int) := by
  rw [andNot_ub]
  obtain ⟨n, rfl⟩ := Int.eq_ofNat_of_zero_le x0
  have hn : n < 2 ^ k := by omega
  have hp : 2 ^ k ≤ 2 ^ 62 := Nat.pow_le_pow_right (by omega) hk
  have e : bv (n : Int) = BitVec.ofNat 64 n := by unfold bv; rw [BitVec.ofInt_natCast]
  have hle : (bv (n : Int) &&& ~~~ bv m).toNat ≤ n := by
    rw [BitVec.toNat_and, e, BitVec.toNat_ofNat]
    exact Nat.le_trans Nat.and_le_left (Nat.mod_le _ _)
  unfold ub
  rw [IntKind.wrap_i64]
  omega
theorem and_1 (k : Int) : bits .and .i64 k 1 = k % 2 := by
  rw [and_ub]
  have e : bv k &&& bv 1 = BitVec.ofNat 64 (k % 2).toNat := by
    apply BitVec.eq_of_toNat_eq
    unfold bv
    rw [BitVec.toNat_and, BitVec.toNat_ofInt, BitVec.toNat_ofNat, show (BitVec.ofInt 64 (1 : Int)).toNat = 1 from rfl, Nat.and_one_is_mod]
    omega
  rw [e, ub_nat _ (by omega)]
  omega
theorem and_bd (x m : Int) (x0 : 0 ≤ x) (k : Nat) (hk : k ≤ 62) (x1 : x < ((2 ^ k : Nat) : Int)) : 0 ≤ bits .and .i64 x m ∧ bits .and .i64 x m < ((2 ^ k : Nat) : Int) := by
  rw [and_ub]
  obtain ⟨n, rfl⟩ := Int.eq_ofNat_of_zero_le x0
  have hn : n < 2 ^ k := by omega
  have hp : 2 ^ k ≤ 2 ^ 62 := Nat.pow_le_pow_right (by omega) hk
  have e : bv (n : Int) = BitVec.ofNat 64 n := by unfold bv; rw [BitVec.ofInt_natCast]
  have hle : (bv (n : Int) &&& bv m).toNat ≤ n := by
    rw [BitVec.toNat_and, e, BitVec.toNat_ofNat]
    exact Nat.le_trans Nat.and_le_left (Nat.mod_le _ _)
  unfold ub
  rw [IntKind.wrap_i64]
  omega
end Go.Proofs.Ytikibfpfieoabaa
