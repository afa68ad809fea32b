/-
  The places of the bits of words, rising: lists by a filter; the lowest bit of a number, and the number without it. No condition.
-/
import Derived.Test.YteebmikjikjhmaaDoorQBits
import Derived.Lib.TrailingZeros
namespace Go.Proofs.YteebmikjikjhmaaDoor
set_option linter.unusedVariables false
set_option linter.unusedSimpArgs false
/-- The numbers below n for which it is true, rising. -/
def fl (P : Nat → Bool) (n : Nat) : List Int := ((List.range n).filter P).map fun (i : Nat) => (i : Int)
theorem fl_zero (P : Nat → Bool) : fl P 0 = [] := rfl
theorem fl_succ (P : Nat → Bool) (n : Nat) : fl P (n + 1) = fl P n ++ if P n then [(n : Int)] else [] := by
  unfold fl
  rw [List.range_succ, List.filter_append, List.map_append]
  cases h : P n <;> simp [h]
theorem fl_gap (P : Nat → Bool) (a d : Nat) (h : ∀ i, a ≤ i → i < a + d → P i = false) : fl P (a + d) = fl P a := by
  induction d with
  | zero => rfl
  | succ d ih => rw [← Nat.add_assoc, fl_succ, h (a + d) (by omega) (by omega), ih (fun i h1 h2 => h i h1 (by omega))]; simp
theorem fl_gap' (P : Nat → Bool) (a b : Nat) (hab : a ≤ b) (h : ∀ i, a ≤ i → i < b → P i = false) : fl P b = fl P a := by
  have := fl_gap P a (b - a) (fun i h1 h2 => h i h1 (by omega))
  rwa [Nat.add_sub_cancel' hab] at this
theorem fl_bd (P : Nat → Bool) (n : Nat) (x : Int) (h : x ∈ fl P n) : 0 ≤ x ∧ x < n := by
  unfold fl at h
  obtain ⟨i, hi, rfl⟩ := List.mem_map.1 h
  have := List.mem_range.1 (List.mem_filter.1 hi).1
  omega
theorem fl_len (P : Nat → Bool) (n : Nat) : (fl P n).length ≤ n := by
  unfold fl
  rw [List.length_map]
  exact Nat.le_trans (List.length_filter_le _ _) (by simp)
theorem fl_ext (P Q : Nat → Bool) (n : Nat) (h : ∀ i, P i = Q i) : fl P n = fl Q n := by rw [show P = Q from funext h]
theorem fl_tgs (T : List Bool) (k : Nat) (hk : k ≤ T.length) : tgs 0 (T.take k) = (fl (fun i => T.getD i false) k).map (fun x => x * 16) := by
  induction k with
  | zero => simp [tgs, fl]
  | succ k ih =>
    rw [List.take_add_one, List.getElem?_eq_getElem (by omega), fl_succ, List.map_append, ← ih (by omega)]
    have e : T.getD k false = T[k] := by rw [List.getD_eq_getElem?_getD, List.getElem?_eq_getElem (by omega)]; rfl
    simp only [Option.toList, e]
    rw [tgs_snoc, List.length_take, Nat.min_eq_left (by omega)]
    cases T[k] <;> simp <;> omega
theorem fl_all (T : List Bool) : tgs 0 T = (fl (fun i => T.getD i false) T.length).map (fun x => x * 16) := by
  have := fl_tgs T T.length (Nat.le_refl _)
  rwa [List.take_length] at this
/-- The places of the tags, out of the words. -/
theorem fl_words {b n : Nat} {W : List Nat} {T : List Bool} (h : Words b n W T) (hT : T.length ≤ b * n) : tgs 0 T = (fl (wB b W) (b * n)).map (fun x => x * 16) := by
  rw [fl_all, fl_gap' (wB b W) T.length (b * n) hT (fun i h1 h2 => by rw [h.bit, List.getD_eq_getElem?_getD, List.getElem?_eq_none h1]; rfl)]
  rw [fl_ext (fun i => T.getD i false) (wB b W) _ (fun i => (h.bit i).symm)]
theorem wB_in (b : Nat) (W : List Nat) (k j : Nat) (hj : j < b) : wB b W (b * k + j) = (W.getD k 0).testBit j := by
  unfold wB
  rw [Nat.mul_add_div (by omega), Nat.div_eq_of_lt hj, Nat.mul_add_mod, Nat.mod_eq_of_lt hj, Nat.add_zero]
/-- A number's lowest bit, and the number without it. -/
theorem low_bit (x : Nat) (h0 : x ≠ 0) (h : x < 2 ^ 64) : Lib.ctz 64 x < 64 ∧ (∀ j, j < Lib.ctz 64 x → x.testBit j = false) ∧ x.testBit (Lib.ctz 64 x) = true ∧ ∀ j, (x &&& (x - 1)).testBit j = (decide (Lib.ctz 64 x + 1 ≤ j) && x.testBit j) := by
  obtain ⟨m, hm, hz⟩ := Lib.ctzFrom_spec 64 x (by omega) h
  have e : Lib.ctz 64 x = Lib.ctzFrom 64 x := by simp [Lib.ctz, h0]
  rw [e]
  generalize Lib.ctzFrom 64 x = z at hm hz
  have hp : 0 < 2 ^ z := Nat.two_pow_pos z
  have hx : ∀ j, x.testBit j = if j < z then false else (2 * m + 1).testBit (j - z) := fun j => by
    have := Nat.testBit_two_pow_mul_add (2 * m + 1) (b := 0) (i := z) hp j
    rw [Nat.add_zero, ← hm] at this
    rw [this]; simp
  have hy : ∀ j, (x - 1).testBit j = if j < z then (2 ^ z - 1).testBit j else (2 * m).testBit (j - z) := fun j => by
    have e2 : x - 1 = 2 ^ z * (2 * m) + (2 ^ z - 1) := by
      rw [hm, Nat.mul_add, Nat.mul_one]; omega
    rw [e2, Nat.testBit_two_pow_mul_add _ (by omega)]
  refine ⟨hz, fun j hj => by rw [hx, if_pos hj], by rw [hx, if_neg (by omega), Nat.sub_self]; simp, fun j => ?_⟩
  rw [Nat.testBit_and, hx, hy]
  by_cases h1 : j < z
  · rw [if_pos h1]; simp
  · rw [if_neg h1, if_neg h1]
    by_cases h2 : j = z
    · subst h2; rw [Nat.sub_self]; simp
    · obtain ⟨d, rfl⟩ : ∃ d, j = z + (d + 1) := ⟨j - z - 1, by omega⟩
      rw [show z + (d + 1) - z = d + 1 by omega, Nat.testBit_succ, Nat.testBit_succ, show (2 * m + 1) / 2 = m by omega, show 2 * m / 2 = m by omega]
      have : decide (z + 1 ≤ z + (d + 1)) = true := by simp
      rw [this]; simp
/-- Within a word: its bits below c have been told. -/
structure Inn (X c x : Nat) : Prop where
  lim : x < 18446744073709551616
  c64 : c ≤ 64
  bit : ∀ j, x.testBit j = (decide (c ≤ j) && X.testBit j)
theorem Inn.start (X : Nat) (h : X < 2 ^ 64) : Inn X 0 X := ⟨h, by omega, fun j => by simp⟩
theorem Inn.ge {X c x : Nat} (h : Inn X c x) (h0 : x ≠ 0) : c ≤ Lib.ctz 64 x := by
  have := (low_bit x h0 h.lim).2.2.1
  rw [h.bit] at this
  simp only [Bool.and_eq_true, decide_eq_true_eq] at this
  exact this.1
theorem Inn.next {X c x : Nat} (h : Inn X c x) (h0 : x ≠ 0) : Inn X (Lib.ctz 64 x + 1) (x &&& (x - 1)) := by
  obtain ⟨a1, a2, a3, a4⟩ := low_bit x h0 h.lim
  refine ⟨Nat.lt_of_le_of_lt Nat.and_le_left h.lim, by omega, fun j => ?_⟩
  have := h.ge h0
  rw [a4, h.bit]
  by_cases e : Lib.ctz 64 x + 1 ≤ j
  · have : decide (c ≤ j) = true := by simp; omega
    rw [this]; simp
  · simp [e]
/-- The list so far, and the next one's place. -/
theorem Inn.tell {W : List Nat} {k c x : Nat} (h : Inn (W.getD k 0) c x) (h0 : x ≠ 0) : fl (wB 64 W) (64 * k + (Lib.ctz 64 x + 1)) = fl (wB 64 W) (64 * k + c) ++ [((64 * k + Lib.ctz 64 x : Nat) : Int)] := by
  obtain ⟨a1, a2, a3, a4⟩ := low_bit x h0 h.lim
  have hc := h.ge h0
  have hP : wB 64 W (64 * k + Lib.ctz 64 x) = true := by
    rw [wB_in 64 W k _ a1]
    have := h.bit (Lib.ctz 64 x)
    rw [a3] at this
    have t : decide (c ≤ Lib.ctz 64 x) = true := by simp; omega
    rw [t] at this; simpa using this.symm
  rw [← Nat.add_assoc, fl_succ, hP, if_pos rfl, fl_gap' (wB 64 W) (64 * k + c) (64 * k + Lib.ctz 64 x) (by omega) (fun i h1 h2 => ?_)]
  obtain ⟨j, rfl⟩ : ∃ j, i = 64 * k + j := ⟨i - 64 * k, by omega⟩
  rw [wB_in 64 W k j (by omega)]
  have b1 := a2 j (by omega)
  rw [h.bit] at b1
  have t : decide (c ≤ j) = true := by simp; omega
  rw [t] at b1; simpa using b1
theorem Inn.done {W : List Nat} {k c : Nat} (h : Inn (W.getD k 0) c 0) : fl (wB 64 W) (64 * (k + 1)) = fl (wB 64 W) (64 * k + c) := by
  have hc := h.c64
  refine fl_gap' _ _ _ (by omega) (fun i h1 h2 => ?_)
  obtain ⟨j, rfl⟩ : ∃ j, i = 64 * k + j := ⟨i - 64 * k, by omega⟩
  rw [wB_in 64 W k j (by omega)]
  have b1 := h.bit j
  have t : decide (c ≤ j) = true := by simp; omega
  rw [t] at b1; simpa using b1.symm
theorem and_pred_lt (x : Nat) (h : x ≠ 0) : x &&& (x - 1) < x := Nat.lt_of_le_of_lt Nat.and_le_right (by omega)
end Go.Proofs.YteebmikjikjhmaaDoor
