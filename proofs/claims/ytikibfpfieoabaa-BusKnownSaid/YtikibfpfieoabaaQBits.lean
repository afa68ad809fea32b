/-
  Truths as bits of words: set, cleared, asked; by words of any width. No condition.
-/
import Derived.Test.YtikibfpfieoabaaQSpec
import Derived.Laws.BitsLemmas
namespace Go.Proofs.Ytikibfpfieoabaa
set_option linter.unusedVariables false
set_option linter.unusedSimpArgs false
/-- The truth at i, of words of b bits. -/
def wB (b : Nat) (W : List Nat) (i : Nat) : Bool := (W.getD (i / b) 0).testBit (i % b)
theorem bit_or (x k j : Nat) : (x ||| 2 ^ k).testBit j = (x.testBit j || decide (k = j)) := by
  rw [Nat.testBit_or, Nat.testBit_two_pow]
theorem bit_clear (b x k j : Nat) (hx : x < 2 ^ b) (hk : k < b) : (x &&& (2 ^ b - 1 - 2 ^ k)).testBit j = (x.testBit j && !decide (k = j)) := by
  rw [Nat.testBit_and, show 2 ^ b - 1 - 2 ^ k = 2 ^ b - (2 ^ k + 1) by omega, Nat.testBit_two_pow_sub_succ (Nat.pow_lt_pow_right (by decide) hk), Nat.testBit_two_pow]
  by_cases h : j < b
  · simp [h]
  · have : x.testBit j = false := Nat.testBit_lt_two_pow (Nat.lt_of_lt_of_le hx (Nat.pow_le_pow_right (by decide) (by omega)))
    rw [this]; simp
theorem idx_ne (b i j : Nat) (hb : 0 < b) (h : i / b = j / b) : (i % b = j % b) ↔ i = j := by
  constructor
  · intro h2
    have a := Nat.div_add_mod i b
    have c := Nat.div_add_mod j b
    rw [← a, ← c, h, h2]
  · rintro rfl; rfl
theorem wB_set (b : Nat) (hb : 0 < b) (W : List Nat) (i : Nat) (hi : i / b < W.length) (v : Nat) (f : Bool → Bool)
    (hv : ∀ k, v.testBit k = if i % b = k then f ((W.getD (i / b) 0).testBit k) else (W.getD (i / b) 0).testBit k) (j : Nat) :
    wB b (W.set (i / b) v) j = if i = j then f (wB b W j) else wB b W j := by
  unfold wB
  rw [getD_set _ _ _ _ _ hi]
  by_cases h : i / b = j / b
  · rw [if_pos h, hv, h]
    by_cases e : i = j
    · subst e; simp
    · have : ¬ i % b = j % b := fun h2 => e ((idx_ne b i j hb h).1 h2)
      rw [if_neg this, if_neg e]
  · have : ¬ i = j := fun e => h (by rw [e])
    rw [if_neg h, if_neg this]
theorem wB_or (b : Nat) (hb : 0 < b) (W : List Nat) (i : Nat) (hi : i / b < W.length) (j : Nat) :
    wB b (W.set (i / b) (W.getD (i / b) 0 ||| 2 ^ (i % b))) j = if i = j then true else wB b W j := by
  rw [wB_set b hb W i hi _ (fun _ => true) (fun k => ?_) j]
  rw [bit_or]
  by_cases h : i % b = k <;> simp [h]
theorem wB_clear (b : Nat) (hb : 0 < b) (W : List Nat) (i : Nat) (hi : i / b < W.length) (hw : W.getD (i / b) 0 < 2 ^ b) (j : Nat) :
    wB b (W.set (i / b) (W.getD (i / b) 0 &&& (2 ^ b - 1 - 2 ^ (i % b)))) j = if i = j then false else wB b W j := by
  rw [wB_set b hb W i hi _ (fun _ => false) (fun k => ?_) j]
  rw [bit_clear b _ _ _ hw (Nat.mod_lt _ hb)]
  by_cases h : i % b = k <;> simp [h]
/-- Words hold truths: as many as there are, and none beyond. -/
structure Words (b n : Nat) (W : List Nat) (T : List Bool) : Prop where
  len : W.length = n
  lim : ∀ i, W.getD i 0 < 2 ^ b
  bit : ∀ i, wB b W i = T.getD i false
theorem Words.zero (b n m : Nat) (hb : 0 < 2 ^ b) : Words b n (List.replicate n 0) (List.replicate m false) := by
  refine ⟨by simp, fun i => ?_, fun i => ?_⟩
  · rw [List.getD_eq_getElem?_getD, List.getElem?_replicate]; split <;> simp [hb]
  · unfold wB
    rw [List.getD_eq_getElem?_getD, List.getElem?_replicate, List.getD_eq_getElem?_getD, List.getElem?_replicate]
    split <;> split <;> simp
theorem Words.set {b n : Nat} {W : List Nat} {T : List Bool} (h : Words b n W T) (hb : 0 < b) (i : Nat) (hi : i / b < n) (hT : i < T.length) : Words b n (W.set (i / b) (W.getD (i / b) 0 ||| 2 ^ (i % b))) (T.set i true) := by
  have hl := h.len
  refine ⟨by simpa using hl, fun k => ?_, fun k => ?_⟩
  · rw [getD_set _ _ _ _ _ (by omega)]; split
    · exact Nat.or_lt_two_pow (h.lim _) (Nat.pow_lt_pow_right (by decide) (Nat.mod_lt _ hb))
    · exact h.lim k
  · rw [wB_or b hb W i (by omega) k, getD_set _ _ _ _ _ hT, h.bit k]
theorem Words.clear {b n : Nat} {W : List Nat} {T : List Bool} (h : Words b n W T) (hb : 0 < b) (i : Nat) (hi : i / b < n) (hT : i < T.length) : Words b n (W.set (i / b) (W.getD (i / b) 0 &&& (2 ^ b - 1 - 2 ^ (i % b)))) (T.set i false) := by
  have hl := h.len
  refine ⟨by simpa using hl, fun k => ?_, fun k => ?_⟩
  · rw [getD_set _ _ _ _ _ (by omega)]; split
    · exact Nat.lt_of_le_of_lt Nat.and_le_left (h.lim _)
    · exact h.lim k
  · rw [wB_clear b hb W i (by omega) (h.lim _) k, getD_set _ _ _ _ _ hT, h.bit k]
/-- A bit, asked by a shift and the lowest bit. -/
theorem bit_shr (x k : Nat) : ((x / 2 ^ k % 2 == 1) : Bool) = x.testBit k := by
  rw [Nat.testBit_eq_decide_div_mod_eq]; rfl
theorem bit_shr1 (x k : Nat) : (x >>> k &&& 1 == 1) = x.testBit k := by
  rw [Nat.and_one_is_mod, Nat.shiftRight_eq_div_pow]; exact bit_shr x k
/-- .. by a mask. -/
theorem bit_mask (x k : Nat) : ((x &&& 2 ^ k) == 0) = !x.testBit k := by
  by_cases h : x.testBit k = true
  · rw [h]
    have : (x &&& 2 ^ k) ≠ 0 := fun e => by
      have := congrArg (fun y => Nat.testBit y k) e
      simp [h, Nat.testBit_two_pow_self] at this
    simp [this]
  · rw [Bool.not_eq_true] at h
    have : (x &&& 2 ^ k) = 0 := by
      apply Nat.eq_of_testBit_eq
      intro j
      rw [Nat.testBit_and, Nat.testBit_two_pow, Nat.zero_testBit]
      by_cases e : k = j
      · subst e; simp [h]
      · simp [e]
    rw [h, this]; rfl
end Go.Proofs.Ytikibfpfieoabaa
