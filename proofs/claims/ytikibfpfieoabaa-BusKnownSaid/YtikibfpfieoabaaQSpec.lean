/-
  Memory as lists of bytes and tags: numbers of bytes, what is laid, what tags go. No condition.
-/
import Derived.Test.YtikibfpfieoabaaKp
namespace Go.Proofs.Ytikibfpfieoabaa
set_option linter.unusedVariables false
set_option linter.unusedSimpArgs false
/-- A size of a number. -/
def szB (n : Int) : Bool := n == 1 || n == 2 || n == 4 || n == 8
/-- Are so many bytes there? -/
def thB (len : Nat) (off n : Int) : Bool := decide (0 ≤ off) && decide (off ≤ (len : Int) - n)
/-- The number of so many bytes from a place on, the lowest first. -/
def numB (B : List Int) : Nat → Nat → Int
  | _, 0 => 0
  | off, k + 1 => B.getD off 0 + 256 * numB B (off + 1) k
/-- So many of a number's lowest bytes laid. -/
def layB (B : List Int) (off : Nat) (v : Int) : Nat → List Int
  | 0 => B
  | k + 1 => (layB B off v k).set (off + k) (v / 256 ^ k % 256)
/-- The granules of so many bytes lose their tags. -/
def unT (T : List Bool) (off : Nat) : Nat → List Bool
  | 0 => T
  | k + 1 => (unT T off k).set ((off + k) / 16) false
/-- Bytes are bytes. -/
def ByB (B : List Int) : Prop := ∀ x ∈ B, 0 ≤ x ∧ x < 256
theorem ByB.getD {B : List Int} (h : ByB B) (i : Nat) : 0 ≤ B.getD i 0 ∧ B.getD i 0 < 256 := by
  rw [List.getD_eq_getElem?_getD]
  cases e : B[i]? with
  | none => decide
  | some x => exact h x (List.mem_of_getElem? e)
theorem ByB.zero (n : Nat) : ByB (List.replicate n 0) := fun x hx => by rw [(List.mem_replicate.1 hx).2]; decide
theorem ByB.set {B : List Int} (h : ByB B) (i : Nat) (v : Int) (hv : 0 ≤ v ∧ v < 256) : ByB (B.set i v) := fun x hx => by
  rcases List.mem_or_eq_of_mem_set hx with hx | hx
  · exact h x hx
  · rw [hx]; exact hv
theorem ByB.lay {B : List Int} (h : ByB B) (off : Nat) (v : Int) (k : Nat) : ByB (layB B off v k) := by
  induction k with
  | zero => exact h
  | succ k ih => exact ih.set _ _ ⟨Int.emod_nonneg _ (by decide), Int.emod_lt_of_pos _ (by decide)⟩
theorem layB_len (B : List Int) (off : Nat) (v : Int) (k : Nat) : (layB B off v k).length = B.length := by
  induction k with
  | zero => rfl
  | succ k ih => rw [layB, List.length_set, ih]
theorem unT_len (T : List Bool) (off k : Nat) : (unT T off k).length = T.length := by
  induction k with
  | zero => rfl
  | succ k ih => rw [unT, List.length_set, ih]
theorem getD_set {α : Type} (L : List α) (i j : Nat) (v d : α) (hi : i < L.length) : (L.set i v).getD j d = if i = j then v else L.getD j d := by
  rw [List.getD_eq_getElem?_getD, List.getElem?_set, List.getD_eq_getElem?_getD]
  by_cases e : i = j
  · subst e; simp [hi]
  · simp [e]
theorem layB_at (B : List Int) (off : Nat) (v : Int) (k : Nat) (h : off + k ≤ B.length) (j : Nat) : (layB B off v k).getD j 0 = if off ≤ j ∧ j < off + k then v / 256 ^ (j - off) % 256 else B.getD j 0 := by
  induction k with
  | zero => rw [layB, if_neg (by omega)]
  | succ k ih =>
    rw [layB, getD_set _ _ _ _ _ (by rw [layB_len]; omega), ih (by omega)]
    by_cases e : off + k = j
    · subst e; rw [if_pos rfl, if_pos (by omega)]; congr 3; omega
    · rw [if_neg e]
      by_cases g : off ≤ j ∧ j < off + k
      · rw [if_pos g, if_pos (by omega)]
      · rw [if_neg g, if_neg (by omega)]
theorem unT_at (T : List Bool) (off k : Nat) (h : off + k ≤ 16 * T.length) (j : Nat) : (unT T off k).getD j false = (T.getD j false && !decide (0 < k ∧ off / 16 ≤ j ∧ j ≤ (off + k - 1) / 16)) := by
  induction k with
  | zero => simp [unT]
  | succ k ih =>
    rw [unT, getD_set _ _ _ _ _ (by rw [unT_len]; omega), ih (by omega)]
    by_cases e : (off + k) / 16 = j
    · rw [if_pos e]
      have : decide (0 < k + 1 ∧ off / 16 ≤ j ∧ j ≤ (off + (k + 1) - 1) / 16) = true := by simp; omega
      rw [this]; simp
    · rw [if_neg e]
      have : decide (0 < k ∧ off / 16 ≤ j ∧ j ≤ (off + k - 1) / 16) = decide (0 < k + 1 ∧ off / 16 ≤ j ∧ j ≤ (off + (k + 1) - 1) / 16) := by
        apply decide_eq_decide.2; omega
      rw [this]
/-- Two lists of one length that read alike are alike. -/
theorem list_ext {α : Type} (L M : List α) (d : α) (hl : L.length = M.length) (h : ∀ j, j < L.length → L.getD j d = M.getD j d) : L = M := by
  apply List.ext_getElem hl
  intro j h1 h2
  have := h j h1
  simpa [List.getD_eq_getElem?_getD, List.getElem?_eq_getElem h1, List.getElem?_eq_getElem h2] using this
/-- Of at most sixteen bytes the first and the last one's granules are all. -/
theorem unT_two (T : List Bool) (off k : Nat) (h0 : 0 < k) (h1 : k ≤ 16) (h : off + k ≤ 16 * T.length) : unT T off k = (T.set (off / 16) false).set ((off + k - 1) / 16) false := by
  apply list_ext _ _ false (by simp [unT_len])
  intro j hj
  rw [unT_len] at hj
  rw [unT_at T off k h j, getD_set _ _ _ _ _ (by rw [List.length_set]; omega), getD_set _ _ _ _ _ (by omega)]
  by_cases e : (off + k - 1) / 16 = j
  · rw [if_pos e]
    have : decide (0 < k ∧ off / 16 ≤ j ∧ j ≤ (off + k - 1) / 16) = true := by simp; omega
    rw [this]; simp
  · rw [if_neg e]
    by_cases g : off / 16 = j
    · rw [if_pos g]
      have : decide (0 < k ∧ off / 16 ≤ j ∧ j ≤ (off + k - 1) / 16) = true := by simp; omega
      rw [this]; simp
    · rw [if_neg g]
      have : decide (0 < k ∧ off / 16 ≤ j ∧ j ≤ (off + k - 1) / 16) = false := by simp; omega
      rw [this]; simp
theorem numB_bd {B : List Int} (h : ByB B) (off k : Nat) : 0 ≤ numB B off k ∧ numB B off k < 256 ^ k := by
  induction k generalizing off with
  | zero => simp [numB]
  | succ k ih =>
    have a := ByB.getD h off
    have b := ih (off + 1)
    rw [numB, Int.pow_succ]
    omega
theorem numB_ext {B C : List Int} (off k : Nat) (h : ∀ j, off ≤ j → j < off + k → B.getD j 0 = C.getD j 0) : numB B off k = numB C off k := by
  induction k generalizing off with
  | zero => rfl
  | succ k ih => rw [numB, numB, h off (by omega) (by omega), ih (off + 1) (fun j a b => h j (by omega) (by omega))]
theorem emod_256 (v m : Int) (hm : 0 < m) : v % (256 * m) = v % 256 + 256 * (v / 256 % m) := by
  have h1 := Int.emod_add_mul_ediv (v / 256) m
  have h2 := Int.emod_nonneg (v / 256) (show m ≠ 0 by omega)
  have h3 := Int.emod_lt_of_pos (v / 256) hm
  have e : v = (v % 256 + 256 * (v / 256 % m)) + 256 * m * (v / 256 / m) := by
    rw [Int.mul_assoc]
    generalize m * (v / 256 / m) = y at *
    omega
  conv => lhs; rw [e]
  rw [Int.add_mul_emod_self_left]
  exact Int.emod_eq_of_lt (by omega) (by omega)
/-- What bytes are laid is read. -/
theorem numB_of {B : List Int} (v : Int) (off k : Nat) (h : ∀ j, j < k → B.getD (off + j) 0 = v / 256 ^ j % 256) : numB B off k = v % 256 ^ k := by
  induction k generalizing off v with
  | zero => simp [numB, Int.emod_one]
  | succ k ih =>
    have e := ih (v / 256) (off + 1) (fun j hj => by
      rw [show off + 1 + j = off + (j + 1) by omega, h (j + 1) (by omega), Int.pow_succ, Int.mul_comm, Int.ediv_ediv_of_nonneg (by decide)])
    rw [numB, e]
    have h0 := h 0 (by omega)
    simp only [Nat.add_zero, Int.pow_zero, Int.ediv_one] at h0
    rw [h0, Int.pow_succ, Int.mul_comm (256 ^ k) 256, emod_256 v _ (Int.pow_pos (by decide))]
theorem numB_lay (B : List Int) (off : Nat) (v : Int) (k : Nat) (h : off + k ≤ B.length) : numB (layB B off v k) off k = v % 256 ^ k :=
  numB_of v off k fun j hj => by rw [layB_at B off v k h, if_pos (by omega), show off + j - off = j by omega]
theorem numB_far (B : List Int) (off : Nat) (v : Int) (k : Nat) (h : off + k ≤ B.length) (o m : Nat) (hd : o + m ≤ off ∨ off + k ≤ o) : numB (layB B off v k) o m = numB B o m :=
  numB_ext o m fun j a b => by rw [layB_at B off v k h, if_neg (by omega)]
/-- A number's byte. -/
theorem numB_byte {B : List Int} (h : ByB B) (off k j : Nat) (hj : j < k) : numB B off k / 256 ^ j % 256 = B.getD (off + j) 0 := by
  induction k generalizing off j with
  | zero => omega
  | succ k ih =>
    have a := ByB.getD h off
    rw [numB]
    cases j with
    | zero => simp only [Int.pow_zero, Int.ediv_one, Nat.add_zero]; omega
    | succ j =>
      have e : (B.getD off 0 + 256 * numB B (off + 1) k) / 256 ^ (j + 1) = numB B (off + 1) k / 256 ^ j := by
        rw [Int.pow_succ, Int.mul_comm (256 ^ j) 256, ← Int.ediv_ediv_of_nonneg (by decide)]
        congr 1; omega
      rw [e, ih (off + 1) j (by omega)]; congr 1; omega
theorem layB_comm (B : List Int) (o1 k1 o2 k2 : Nat) (v1 v2 : Int) (h1 : o1 + k1 ≤ B.length) (h2 : o2 + k2 ≤ B.length) (hd : o1 + k1 ≤ o2 ∨ o2 + k2 ≤ o1) : layB (layB B o1 v1 k1) o2 v2 k2 = layB (layB B o2 v2 k2) o1 v1 k1 := by
  apply list_ext _ _ 0 (by simp [layB_len])
  intro j _
  rw [layB_at _ _ _ _ (by rw [layB_len]; omega), layB_at _ _ _ _ h1, layB_at _ _ _ _ (by rw [layB_len]; omega), layB_at _ _ _ _ h2]
  by_cases a : o1 ≤ j ∧ j < o1 + k1 <;> by_cases b : o2 ≤ j ∧ j < o2 + k2 <;> simp only [a, b] <;> simp <;> omega
theorem unT_comm (T : List Bool) (o1 k1 o2 k2 : Nat) (h1 : o1 + k1 ≤ 16 * T.length) (h2 : o2 + k2 ≤ 16 * T.length) : unT (unT T o1 k1) o2 k2 = unT (unT T o2 k2) o1 k1 := by
  apply list_ext _ _ false (by simp [unT_len])
  intro j _
  rw [unT_at _ _ _ (by rw [unT_len]; omega), unT_at _ _ _ h1, unT_at _ _ _ (by rw [unT_len]; omega), unT_at _ _ _ h2]
  cases T.getD j false <;> simp [Bool.and_comm]
/-- The places of the granules with a tag, rising, from a granule on. -/
def tgs : Nat → List Bool → List Int
  | _, [] => []
  | i, b :: l => if b then (16 * (i : Int)) :: tgs (i + 1) l else tgs (i + 1) l
theorem tgs_snoc (i : Nat) (l : List Bool) (b : Bool) : tgs i (l ++ [b]) = tgs i l ++ if b then [16 * ((i + l.length : Nat) : Int)] else [] := by
  induction l generalizing i with
  | nil => cases b <;> simp [tgs]
  | cons a l ih =>
    rw [List.cons_append, tgs, ih (i + 1), tgs]
    cases a <;> simp <;> cases b <;> simp <;> omega
theorem tgs_len (i : Nat) (l : List Bool) : (tgs i l).length ≤ l.length := by
  induction l generalizing i with
  | nil => simp [tgs]
  | cons a l ih => have := ih (i + 1); rw [tgs]; cases a <;> simp <;> omega
theorem tgs_nil (i : Nat) (l : List Bool) : tgs i l = [] ↔ ∀ j, l.getD j false = false := by
  induction l generalizing i with
  | nil => simp [tgs]
  | cons a l ih =>
    rw [tgs]
    cases a with
    | true => simp; exact ⟨0, by simp⟩
    | false =>
      simp only [Bool.false_eq_true, if_false]
      rw [ih (i + 1)]
      constructor
      · intro h j; cases j with
        | zero => simp
        | succ j => simpa using h j
      · intro h j; simpa using h (j + 1)
end Go.Proofs.Ytikibfpfieoabaa
