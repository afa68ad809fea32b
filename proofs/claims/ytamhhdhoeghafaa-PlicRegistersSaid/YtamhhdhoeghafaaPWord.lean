/-
  Words of 32 bits, as the interrupt controller of the program turns them. No condition.
-/
import Derived.Test.YtamhhdhoeghafaaPFirst
namespace Go.Proofs.Ytamhhdhoeghafaa
open Go.ChangeShapes Go.WideShapes Go.ChangeAt Go.RowKit
set_option linter.unusedVariables false
set_option linter.unusedSimpArgs false
theorem tb_max (i : Nat) : (4294967295 : Nat).testBit i = decide (i < 32) := by
  rw [show (4294967295 : Nat) = 2 ^ 32 - 1 from rfl, Nat.testBit_two_pow_sub_one]
theorem tb_sub (x i : Nat) (h : x < 4294967296) : (4294967295 - x).testBit i = (decide (i < 32) && !x.testBit i) := by
  rw [show 4294967295 - x = 2 ^ 32 - (x + 1) by omega, Nat.testBit_two_pow_sub_succ (by simpa using h)]
theorem pow_lt (s : Nat) (h : s < 32) : 2 ^ s < 4294967296 := by
  rw [show (4294967296 : Nat) = 2 ^ 32 from rfl]; exact Nat.pow_lt_pow_right (by decide) h
/-- The word without some bits. -/
theorem clr_eq (X Y : Nat) (hX : X < 4294967296) (hY : Y < 4294967296) : bits .and .u32 (X : Int) (bits .xor .u32 4294967295 (Y : Int)) = ((X &&& (4294967295 ^^^ Y) : Nat) : Int) := by
  rw [show (4294967295 : Int) = ((4294967295 : Nat) : Int) from rfl, u32_xor_nat _ _ (by decide) hY, u32_and_nat _ _ hX (Nat.xor_lt_two_pow (n := 32) (by decide) hY)]
theorem clr_bit (X Y i : Nat) (hi : i < 32) : (X &&& (4294967295 ^^^ Y)).testBit i = (X.testBit i && !Y.testBit i) := by
  rw [Nat.testBit_and, Nat.testBit_xor, tb_max, show decide (i < 32) = true by simpa using hi]; simp
theorem clr_lt (X Y : Nat) (hX : X < 4294967296) : X &&& (4294967295 ^^^ Y) < 4294967296 := Nat.lt_of_le_of_lt Nat.and_le_left hX
/-- One source's bit is taken out of what is pending. -/
theorem clr_bw (f : Nat → Bool) (s : Nat) (h : s < 32) : bits .and .u32 ((bw f : Nat) : Int) (bits .xor .u32 4294967295 ((2 ^ s : Nat) : Int)) = ((bw (fun i => if i = s then false else f i) : Nat) : Int) := by
  rw [clr_eq _ _ (bw_lt f) (pow_lt s h)]
  refine congrArg (fun n : Nat => (n : Int)) ?_
  symm
  refine bw_of _ (clr_lt _ _ (bw_lt f)) _ (fun i hi => ?_)
  rw [clr_bit _ _ _ hi, bw_bit, Nat.testBit_two_pow, show decide (i < 32) = true by simpa using hi]
  by_cases e : i = s
  · subst e; simp
  · have : ¬ s = i := fun x => e x.symm
    simp [e, this]
/-- One source's bit is put into what is in service. -/
theorem set_eq (X s : Nat) (hX : X < 4294967296) (h : s < 32) : bits .or .u32 (X : Int) ((2 ^ s : Nat) : Int) = ((X ||| 2 ^ s : Nat) : Int) := u32_or_nat _ _ hX (pow_lt s h)
theorem set_lt (X s : Nat) (hX : X < 4294967296) (h : s < 32) : X ||| 2 ^ s < 4294967296 := Nat.or_lt_two_pow (n := 32) hX (pow_lt s h)
theorem set_bit (X s i : Nat) : (X ||| 2 ^ s).testBit i = if i = s then true else X.testBit i := by
  rw [Nat.testBit_or, Nat.testBit_two_pow]
  by_cases e : i = s
  · subst e; simp
  · have : ¬ s = i := fun x => e x.symm
    simp [e, this]
theorem bitI_mod (v : Int) (i : Nat) (hi : i < 32) (v0 : 0 ≤ v) : (v % 4294967296).toNat.testBit i = bitI v i := by
  obtain ⟨V, rfl⟩ := Int.eq_ofNat_of_zero_le v0
  rw [bitI_nat, show ((V : Int) % 4294967296).toNat = V % 2 ^ 32 by omega, Nat.testBit_mod_two_pow, show decide (i < 32) = true by simpa using hi, Bool.true_and]
theorem one_bit (i : Nat) : Nat.testBit 1 (i + 1) = false := by rw [Nat.testBit_succ]; simp
/-- What is told of lines. -/
theorem lines_word (S : PS) (l : Nat) (Q : Nat) (hl : l < 4294967296) (hq : Q < 4294967296) (hs : ∀ i, 1 ≤ i → i < 32 → S.se i = Q.testBit i) :
    bits .andNot .u32 (bits .andNot .u32 (l : Int) 1) (Q : Int) = ((bw (S.lines (l : Int)).pe : Nat) : Int) := by
  rw [show (1 : Int) = ((1 : Nat) : Int) from rfl, u32_andNot_nat _ _ hl (by decide), u32_andNot_nat _ _ (Nat.lt_of_le_of_lt Nat.and_le_left hl) hq]
  refine congrArg (fun n : Nat => (n : Int)) ?_
  symm
  refine bw_of _ (Nat.lt_of_le_of_lt Nat.and_le_left (Nat.lt_of_le_of_lt Nat.and_le_left hl)) _ (fun i hi => ?_)
  rw [Nat.testBit_and, Nat.testBit_and, tb_sub _ _ hq, tb_sub _ _ (by decide), show decide (i < 32) = true by simpa using hi]
  show (decide (0 < i) && bitI (l : Int) i && !S.se i) = _
  rw [bitI_nat]
  rcases i with _ | i
  · simp
  · rw [hs (i + 1) (by omega) hi, one_bit]
    simp
/-- What is enabled. -/
theorem enab_word (v : Int) (v0 : 0 ≤ v) (v1 : v < 18446744073709551616) : bits .andNot .u32 (v % 4294967296) 1 = ((bw (fun i => decide (0 < i) && bitI v i) : Nat) : Int) := by
  have hb : ∀ i, i < 32 → _ := fun i hi => bitI_mod v i hi v0
  obtain ⟨x, hx, hlt⟩ : ∃ x : Nat, v % 4294967296 = (x : Int) ∧ x < 4294967296 := ⟨(v % 4294967296).toNat, by omega, by omega⟩
  rw [hx] at hb ⊢
  rw [show (1 : Int) = ((1 : Nat) : Int) from rfl, u32_andNot_nat _ _ hlt (by decide)]
  refine congrArg (fun n : Nat => (n : Int)) ?_
  symm
  refine bw_of _ (Nat.lt_of_le_of_lt Nat.and_le_left hlt) _ (fun i hi => ?_)
  rw [← hb i hi, Int.toNat_natCast, Nat.testBit_and, tb_sub _ _ (by decide), show decide (i < 32) = true by simpa using hi]
  rcases i with _ | i
  · simp
  · rw [one_bit]; simp [Bool.and_comm]
theorem thr_word (v : Int) (v0 : 0 ≤ v) : bits .and .u32 (v % 4294967296) 7 = v % 8 := by
  obtain ⟨x, hx, hlt⟩ : ∃ x : Nat, v % 4294967296 = (x : Int) ∧ x < 4294967296 := ⟨(v % 4294967296).toNat, by omega, by omega⟩
  rw [hx, show (7 : Int) = ((7 : Nat) : Int) from rfl, u32_and_nat _ _ hlt (by decide), show (7 : Nat) = 2 ^ 3 - 1 from rfl, Nat.and_two_pow_sub_one_eq_mod]
  omega
end Go.Proofs.Ytamhhdhoeghafaa
