/-
  Words of layer 9 of one field alone, as the chapter's table of ends goes through them. No condition.
-/
import Derived.Test.YtiefemcpagdiaaaDWord
import Derived.Test.YtiefemcpagdiaaaDDec
import Derived.Test.YtiefemcpagdiaaaDIn
namespace Go.Proofs.Ytiefemcpagdiaaa
open Go.ChangeShapes Go.WideShapes Go.ChangeAt Go.RowKit
set_option linter.unusedVariables false
set_option linter.unusedSimpArgs false

theorem kf1 (k : Int) (k0 : 0 ≤ k) (k1 : k < 32) : (0 ≤ (bits .or .u32 (bits .or .u32 91 (k * 1048576)) 4261412864) ∧ (bits .or .u32 (bits .or .u32 91 (k * 1048576)) 4261412864) < 4294967296) ∧ fl (bits .or .u32 (bits .or .u32 91 (k * 1048576)) 4261412864) 1 128 = 91 ∧ fl (bits .or .u32 (bits .or .u32 91 (k * 1048576)) 4261412864) 128 32 = 0 ∧ fl (bits .or .u32 (bits .or .u32 91 (k * 1048576)) 4261412864) 4096 8 = 0 ∧ fl (bits .or .u32 (bits .or .u32 91 (k * 1048576)) 4261412864) 32768 32 = 0 ∧ fl (bits .or .u32 (bits .or .u32 91 (k * 1048576)) 4261412864) 1048576 32 = k ∧ fl (bits .or .u32 (bits .or .u32 91 (k * 1048576)) 4261412864) 33554432 128 = 127 := by
  have hX : (bits .or .u32 (bits .or .u32 91 (k * 1048576)) 4261412864) = 127 * 33554432 + k * 1048576 + 0 * 32768 + 0 * 4096 + 0 * 128 + 91 := by
    rw [or32' 20 1048576 (by decide) (by omega) 91 (k * 1048576) (by omega) (by omega) (by omega) (by omega) (by omega)]
    rw [or32' 25 33554432 (by decide) (by omega) _ 4261412864 (by omega) (by omega) (by omega) (by omega) (by omega)]
    omega
  exact flds 127 k 0 0 0 91 (by omega) (by omega) (by omega) (by omega) (by omega) (by omega) _ hX
theorem kf2 (k : Int) (k0 : 0 ≤ k) (k1 : k < 32) : (0 ≤ (bits .or .u32 (bits .or .u32 91 (k * 1048576)) 4194304000) ∧ (bits .or .u32 (bits .or .u32 91 (k * 1048576)) 4194304000) < 4294967296) ∧ fl (bits .or .u32 (bits .or .u32 91 (k * 1048576)) 4194304000) 1 128 = 91 ∧ fl (bits .or .u32 (bits .or .u32 91 (k * 1048576)) 4194304000) 128 32 = 0 ∧ fl (bits .or .u32 (bits .or .u32 91 (k * 1048576)) 4194304000) 4096 8 = 0 ∧ fl (bits .or .u32 (bits .or .u32 91 (k * 1048576)) 4194304000) 32768 32 = 0 ∧ fl (bits .or .u32 (bits .or .u32 91 (k * 1048576)) 4194304000) 1048576 32 = k ∧ fl (bits .or .u32 (bits .or .u32 91 (k * 1048576)) 4194304000) 33554432 128 = 125 := by
  have hX : (bits .or .u32 (bits .or .u32 91 (k * 1048576)) 4194304000) = 125 * 33554432 + k * 1048576 + 0 * 32768 + 0 * 4096 + 0 * 128 + 91 := by
    rw [or32' 20 1048576 (by decide) (by omega) 91 (k * 1048576) (by omega) (by omega) (by omega) (by omega) (by omega)]
    rw [or32' 25 33554432 (by decide) (by omega) _ 4194304000 (by omega) (by omega) (by omega) (by omega) (by omega)]
    omega
  exact flds 125 k 0 0 0 91 (by omega) (by omega) (by omega) (by omega) (by omega) (by omega) _ hX
theorem kf3 (k : Int) (k0 : 0 ≤ k) (k1 : k < 32) : (0 ≤ (bits .or .u32 (bits .or .u32 91 (k * 128)) 4160749568) ∧ (bits .or .u32 (bits .or .u32 91 (k * 128)) 4160749568) < 4294967296) ∧ fl (bits .or .u32 (bits .or .u32 91 (k * 128)) 4160749568) 1 128 = 91 ∧ fl (bits .or .u32 (bits .or .u32 91 (k * 128)) 4160749568) 128 32 = k ∧ fl (bits .or .u32 (bits .or .u32 91 (k * 128)) 4160749568) 4096 8 = 0 ∧ fl (bits .or .u32 (bits .or .u32 91 (k * 128)) 4160749568) 32768 32 = 0 ∧ fl (bits .or .u32 (bits .or .u32 91 (k * 128)) 4160749568) 1048576 32 = 0 ∧ fl (bits .or .u32 (bits .or .u32 91 (k * 128)) 4160749568) 33554432 128 = 124 := by
  have hX : (bits .or .u32 (bits .or .u32 91 (k * 128)) 4160749568) = 124 * 33554432 + 0 * 1048576 + 0 * 32768 + 0 * 4096 + k * 128 + 91 := by
    rw [or32' 7 128 (by decide) (by omega) 91 (k * 128) (by omega) (by omega) (by omega) (by omega) (by omega)]
    rw [or32' 25 33554432 (by decide) (by omega) _ 4160749568 (by omega) (by omega) (by omega) (by omega) (by omega)]
    omega
  exact flds 124 0 0 0 k 91 (by omega) (by omega) (by omega) (by omega) (by omega) (by omega) _ hX
theorem kf4 (k : Int) (k0 : 0 ≤ k) (k1 : k < 128) : (0 ≤ (bits .or .u32 91 (k * 33554432)) ∧ (bits .or .u32 91 (k * 33554432)) < 4294967296) ∧ fl (bits .or .u32 91 (k * 33554432)) 1 128 = 91 ∧ fl (bits .or .u32 91 (k * 33554432)) 128 32 = 0 ∧ fl (bits .or .u32 91 (k * 33554432)) 4096 8 = 0 ∧ fl (bits .or .u32 91 (k * 33554432)) 32768 32 = 0 ∧ fl (bits .or .u32 91 (k * 33554432)) 1048576 32 = 0 ∧ fl (bits .or .u32 91 (k * 33554432)) 33554432 128 = k := by
  have hX : (bits .or .u32 91 (k * 33554432)) = k * 33554432 + 0 * 1048576 + 0 * 32768 + 0 * 4096 + 0 * 128 + 91 := by
    rw [or32' 25 33554432 (by decide) (by omega) 91 (k * 33554432) (by omega) (by omega) (by omega) (by omega) (by omega)]
    omega
  exact flds k 0 0 0 0 91 (by omega) (by omega) (by omega) (by omega) (by omega) (by omega) _ hX
/-- What Decode answers of a word, with its truth. -/
def Ans (x : Int) (i : Ins) (l r : Int) (b : Bool) : Prop := (0 ≤ x ∧ x < 4294967296) ∧ ddV (dspec x) x = .tuple #[i.v l r, .bool b]
theorem Ans.w {x : Int} {i : Ins} {l r : Int} {b : Bool} (h : Ans x i l r b) (w : World) :
    Calls Try.prog 7 #[.int .u32 x] w fun e w' => e = .returned (.tuple #[i.v l r, .bool b]) ∧ Kp w w' := by
  have h2 := ddec_w x h.1.1 h.1.2 w
  rw [h.2] at h2; exact h2
theorem kn_get (k : Int) (k0 : 0 ≤ k) (k1 : k < 32) (h : getB k = true) : ∃ i l r, Ans (bits .or .u32 (bits .or .u32 91 (k * 1048576)) 4261412864) i l r true ∧ i.op = 23 ∧ i.fn = k := by
  obtain ⟨hb, ho, hrd, hf3, hr1, hr2, hf7⟩ := kf1 k k0 k1
  have h12 : ¬ k = 12 := by intro e; rw [e] at h; revert h; decide
  have hs : dspec (bits .or .u32 (bits .or .u32 91 (k * 1048576)) 4261412864) = some ⟨23, k, 0, 0, 0, 0, 0, false, false⟩ := by simp [dspec, dsCap, dsReg, dsOne, twoB, ho, hrd, hf3, hr1, hr2, hf7, h12, h]
  exact ⟨_, _, _, ⟨hb, by rw [hs]; rfl⟩, rfl, rfl⟩
theorem kn_12 : ∃ i l r, Ans (bits .or .u32 (bits .or .u32 91 (12 * 1048576)) 4261412864) i l r true ∧ i.op = 26 := by
  obtain ⟨hb, ho, hrd, hf3, hr1, hr2, hf7⟩ := kf1 12 (by decide) (by decide)
  generalize (bits .or .u32 (bits .or .u32 91 (12 * 1048576)) 4261412864) = Y at hb ho hrd hf3 hr1 hr2 hf7 ⊢
  have hs : dspec Y = some ⟨26, 0, 0, 0, 0, 0, 0, false, false⟩ := by simp [dspec, dsCap, dsReg, dsOne, twoB, ho, hrd, hf3, hr1, hr2, hf7]
  exact ⟨_, _, _, ⟨hb, by rw [hs]; rfl⟩, rfl⟩
theorem kn_12k (k : Int) (h : k = 12) : ∃ i l r, Ans (bits .or .u32 (bits .or .u32 91 (k * 1048576)) 4261412864) i l r true ∧ i.op = 26 := by subst h; exact kn_12
theorem kn_no (k : Int) (k0 : 0 ≤ k) (k1 : k < 32) (h : getB k = false) (h12 : ¬ k = 12) : ∃ i l r, Ans (bits .or .u32 (bits .or .u32 91 (k * 1048576)) 4261412864) i l r false := by
  obtain ⟨hb, ho, hrd, hf3, hr1, hr2, hf7⟩ := kf1 k k0 k1
  have hs : dspec (bits .or .u32 (bits .or .u32 91 (k * 1048576)) 4261412864) = none := by simp [dspec, dsCap, dsReg, dsOne, twoB, ho, hrd, hf3, hr1, hr2, hf7, h12, h]
  exact ⟨_, _, _, ⟨hb, by rw [hs]; rfl⟩⟩
theorem kn_load (k : Int) (k0 : 0 ≤ k) (k1 : k < 32) (p : Bool) (hp : decide (k < 16) = p) : ∃ i l r, Ans (bits .or .u32 (bits .or .u32 91 (k * 1048576)) 4194304000) i l r p := by
  obtain ⟨hb, ho, hrd, hf3, hr1, hr2, hf7⟩ := kf2 k k0 k1
  cases p
  · have hs : dspec (bits .or .u32 (bits .or .u32 91 (k * 1048576)) 4194304000) = none := by simp only [decide_eq_false_iff_not] at hp; simp [dspec, dsCap, dsReg, dsLoad, twoB, ho, hf3, hr2, hf7, hp]
    exact ⟨_, _, _, ⟨hb, by rw [hs]; rfl⟩⟩
  · have hs : dspec (bits .or .u32 (bits .or .u32 91 (k * 1048576)) 4194304000) = some ⟨28, 0, 0, 0, 0, 0, k % 8, false, decide (8 ≤ k)⟩ := by simp only [decide_eq_true_eq] at hp; simp [dspec, dsCap, dsReg, dsLoad, twoB, ho, hrd, hr1, hf3, hr2, hf7, hp]
    exact ⟨_, _, _, ⟨hb, by rw [hs]; rfl⟩⟩
theorem kn_store (k : Int) (k0 : 0 ≤ k) (k1 : k < 32) (s : Bool) (hs : stoB k = s) : ∃ i l r, Ans (bits .or .u32 (bits .or .u32 91 (k * 128)) 4160749568) i l r s := by
  obtain ⟨hb, ho, hrd, hf3, hr1, hr2, hf7⟩ := kf3 k k0 k1
  cases s
  · have hs : dspec (bits .or .u32 (bits .or .u32 91 (k * 128)) 4160749568) = none := by simp [dspec, dsCap, dsReg, dsStore, twoB, ho, hrd, hf3, hr2, hf7, hs]
    exact ⟨_, _, _, ⟨hb, by rw [hs]; rfl⟩⟩
  · have hs : dspec (bits .or .u32 (bits .or .u32 91 (k * 128)) 4160749568) = some ⟨29, 0, 0, 0, 0, 0, k % 8, false, decide (8 ≤ k)⟩ := by simp [dspec, dsCap, dsReg, dsStore, twoB, ho, hrd, hr1, hf3, hr2, hf7, hs]
    exact ⟨_, _, _, ⟨hb, by rw [hs]; rfl⟩⟩
/-- Of which f7 there is something, if all else is nought. -/
def okF (k : Int) : Bool := k == 1 || twoB k || k == 124 || k == 125 || k == 127
theorem kn_f (k : Int) (k0 : 0 ≤ k) (k1 : k < 128) (b : Bool) (hb' : okF k = b) : ∃ i l r, Ans (bits .or .u32 91 (k * 33554432)) i l r b := by
  obtain ⟨hb, ho, hrd, hf3, hr1, hr2, hf7⟩ := kf4 k k0 k1
  generalize (bits .or .u32 91 (k * 33554432)) = Y at hb ho hrd hf3 hr1 hr2 hf7 ⊢
  have hd : dspec Y = dsReg Y := by simp [dspec, dsCap, ho, hf3]
  rcases hz : dspec Y with _ | i
  · refine ⟨zIns, 0, 0, hb, ?_⟩
    rw [hz]
    cases b
    · rfl
    · exfalso
      rw [hd] at hz
      simp only [okF, Bool.or_eq_true, beq_iff_eq] at hb'
      rcases hb' with (((h | h) | h) | h) | h
      · simp [dsReg, hf7, h] at hz
      · by_cases h1 : k = 1 <;> simp [dsReg, hf7, h, h1] at hz
      · simp [dsReg, hf7, h, twoB, dsStore, hrd, stoB] at hz
      · simp [dsReg, hf7, h, twoB, dsLoad, hr2] at hz
      · simp [dsReg, hf7, h, twoB, dsOne, hr2, getB] at hz
  · refine ⟨i, 4, Y, hb, ?_⟩
    rw [hz]
    cases b
    · exfalso
      rw [hd] at hz
      simp only [okF, Bool.or_eq_false_iff, beq_eq_false_iff_ne] at hb'
      obtain ⟨⟨⟨⟨h1, h2⟩, h3⟩, h4⟩, h5⟩ := hb'
      simp [dsReg, hf7, h1, h2, h3, h4, h5] at hz
    · rfl
def cntF : Nat → Nat
  | 0 => 0
  | n + 1 => cntF n + (if okF (n : Int) then 1 else 0)
set_option maxRecDepth 4000 in
theorem cnt_128 : cntF 128 = 19 := by decide
theorem cnt_le (n : Nat) : cntF n ≤ n := by
  induction n with
  | zero => exact Nat.le_refl _
  | succ n ih => unfold cntF; split <;> omega
theorem inB_take (k : Int) (l : List Int) (j : Nat) (c : Int) (h : l[j]? = some c) : inB k (l.take (j + 1)) = (inB k (l.take j) || c == k) := by
  unfold inB
  rw [List.take_add_one, h, Bool.eq_iff_iff, Bool.or_eq_true, List.contains_iff_mem, List.contains_iff_mem, List.mem_append, beq_iff_eq]
  simp only [Option.toList, List.mem_singleton]
  constructor
  · rintro (h | h)
    · exact Or.inl h
    · exact Or.inr h.symm
  · rintro (h | h)
    · exact Or.inl h
    · exact Or.inr h.symm
def gets9 : List Int := [0, 1, 2, 3, 4, 5, 6, 7, 8, 9, 10, 11, 15, 17, 24]
theorem gets_all (k : Int) (k0 : 0 ≤ k) (k1 : k < 32) : inB k gets9 = getB k := by
  obtain ⟨n, rfl⟩ := Int.eq_ofNat_of_zero_le k0
  have h2 : n < 32 := by omega
  have key : ∀ n : Fin 32, inB (n.1 : Int) gets9 = getB (n.1 : Int) := by decide
  exact key ⟨n, h2⟩
theorem dk_q : dspec 17114383 = some ⟨6, 0, 10, 10, 0, 16, 7, false, false⟩ := by decide
end Go.Proofs.Ytiefemcpagdiaaa
