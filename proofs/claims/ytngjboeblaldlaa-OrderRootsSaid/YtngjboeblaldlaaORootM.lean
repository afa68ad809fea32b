/-
  A root's bounds are all there is; the closure of what nothing opens; what comes of a root. Plain mathematics.
-/
import Derived.Test.YtngjboeblaldlaaOHas
import Derived.Test.YtngjboeblaldlaaOMath
namespace Go.Proofs.Ytngjboeblaldlaa
open Go.ChangeShapes Go.WideShapes Go.ChangeAt Go.RowKit
set_option linter.unusedVariables false
set_option linter.unusedSimpArgs false

theorem root_plc (a : Int) (a0 : 0 ≤ a) (a1 : a < 18446744073709551616) : uppV 52 a = 0 ∧ 0 ≤ midV 52 a ∧ midV 52 a < 4096 := by
  unfold uppV midV
  have e1 : ((52 : Int) + 14).toNat = 66 := by decide
  have e2 : (52 : Int).toNat = 52 := by decide
  rw [e1, e2]
  omega
theorem root_step (a x : Int) (a0 : 0 ≤ a) (a1 : a < 18446744073709551616) (x0 : 0 ≤ x) (x1 : x < 14336) : plcV 0 52 a x = x * 4503599627370496 := by
  obtain ⟨h1, h2, h3⟩ := root_plc a a0 a1
  have e1 : corV 0 = 14336 := by decide
  have e2 : (52 : Int).toNat = 52 := by decide
  have e3 : stepV 0 52 a x = 0 := by
    unfold stepV
    rw [e1, if_neg (by omega), if_neg (by omega)]
  unfold plcV
  rw [h1, e3, e2]
  have : (2 : Int) ^ 52 = 4503599627370496 := by decide
  rw [this]; omega
theorem root_ofB (a : Int) (a0 : 0 ≤ a) (a1 : a < 18446744073709551616) : ofB 52 0 a = 0 := by
  unfold ofB; rw [root_step a 0 a0 a1 (by omega) (by omega)]; decide
theorem t14_root : t14 0 0 true = 4096 := by decide
theorem root_ofT (a : Int) (a0 : 0 ≤ a) (a1 : a < 18446744073709551616) : ofT 52 0 0 true a = 0 := by
  unfold ofT; rw [t14_root, root_step a 4096 a0 a1 (by omega) (by omega)]; decide
theorem root_ofO (a : Int) (a0 : 0 ≤ a) (a1 : a < 18446744073709551616) : ofO 52 0 0 true a = true := by
  have e : ofF 52 0 0 true a = false := by unfold ofF; simp
  unfold ofO; rw [e]; unfold ofH; rw [t14_root, root_step a 4096 a0 a1 (by omega) (by omega)]; decide
/-- A root. -/
def kRoot (a : Int) : Cp := ⟨true, 65535, 262143, 0, 52, 0, 0, true, a⟩
theorem rc_root (a : Int) (a0 : 0 ≤ a) (a1 : a < 18446744073709551616) : RC (kRoot a) := ⟨by show (0:Int) ≤ 65535; decide, by show (65535:Int) < 65536; decide, by show (0:Int) ≤ 262143; decide, by show (262143:Int) < 262144; decide, by show (0:Int) ≤ 0; decide, by show (0:Int) < 2; decide, ⟨by show (0:Int) ≤ 52; decide, by show (52:Int) ≤ 52; decide, by show (0:Int) ≤ 0; decide, by show (0:Int) < 16384; decide, by show (0:Int) ≤ 0; decide, by show (0:Int) < 4096; decide, a0, a1⟩⟩
theorem root_rng (a k : Int) (a0 : 0 ≤ a) (a1 : a < 18446744073709551616) (k0 : 0 ≤ k) (k1 : k < 262144) : rngIn (kRoot a) k = decide (k ≤ 262135) := by
  show namesB (ofB 52 0 a) (ofT 52 0 0 true a) (ofO 52 0 0 true a) k = _
  rw [root_ofB a a0 a1, root_ofT a a0 a1, root_ofO a a0 a1]
  have e : inB 0 0 true k 1 = true := by
    unfold inB ltB
    have : topN 0 true = 18446744073709551616 := by decide
    rw [this]
    simp only [Bool.and_eq_true, Bool.not_eq_true', decide_eq_true_eq, decide_eq_false_iff_not]
    omega
  unfold namesB; rw [e, Bool.and_true]
theorem clo_uns (l : List Cp) (h : ∀ x ∈ l, x.sealed = false) : clo l = baseL l := by
  have hb : ∀ x ∈ baseL l, x.sealed = false := fun x hx => h x ((base_mem l x).1 hx).1
  have key : ∀ n, rounds (baseL l) n = baseL l := by
    intro n
    induction n with
    | zero => rfl
    | succ n ih => show roundC (baseL l) (rounds (baseL l) n) = _; rw [ih]; exact fold_unsealed _ _ hb
  exact key _
theorem clo_root (a : Int) : clo [kRoot a] = [kRoot a] := by
  rw [clo_uns _ (by intro x hx; simp at hx; subst hx; rfl)]
  simp [baseL, addC, kRoot]
theorem and_two (pe : Int) : bits .and .i64 pe 2 = 0 ∨ bits .and .i64 pe 2 = 2 := by
  have hv : ∀ i, i < 64 → (bv 2).getLsbD i = decide (i = 1) := fun i hi => bv_one 1 (by omega) i hi
  rw [and_ub]
  cases h : (bv pe).getLsbD 1
  · left
    have e : bv pe &&& bv 2 = 0#64 := by
      rw [bit_iff]; intro k hk
      rw [BitVec.getLsbD_and, hv k hk]
      by_cases e : k = 1
      · subst e; rw [h]; rfl
      · simp [e]
    rw [e]; exact (ub_0 _).2 rfl
  · right
    have e : bv pe &&& bv 2 = bv 2 := by
      apply BitVec.eq_of_getLsbD_eq; intro k hk
      rw [BitVec.getLsbD_and, hv k hk]
      by_cases e : k = 1
      · subst e; rw [h]; rfl
      · simp [e]
    rw [e, ub_bv _ (by omega) (by omega)]
/-- What of a root can come, and what can't. -/
theorem root_ways (c : Cp) (a : Int) (rc : RC c) (a0 : 0 ≤ a) (a1 : a < 18446744073709551616) (h0 : c.tg = true) (hl : lessB (uns c) (kRoot a) = true) (hv : Bool) (hh : hasB [kRoot a] c = hv) :
    (¬ 262135 < c.ty ∧ hv = true) ∨ (262135 < c.ty ∧ (c.ty != 262143) = false ∧ hv = true) ∨
    (262135 < c.ty ∧ (c.ty != 262143) = true ∧ (c.ty != 262142) = false ∧ (bits .and .i64 c.pe 2 == 0) = true ∧ hv = false) ∨
    (262135 < c.ty ∧ (c.ty != 262143) = true ∧ (c.ty != 262142) = false ∧ (bits .and .i64 c.pe 2 == 0) = false ∧ hv = true) ∨
    (262135 < c.ty ∧ (c.ty != 262143) = true ∧ (c.ty != 262142) = true ∧ hv = false) := by
  have y0 := rc.y0
  have y1 := rc.y1
  have hs : c.sealed = !(c.ty == 262143) := by unfold Cp.sealed sealedB; cases h : c.ty == 262143 <;> simp_all
  rw [hasB, clo_root, h0] at hh
  simp only [List.any_cons, List.any_nil, Bool.or_false, hl, Bool.true_and, Bool.not_true, Bool.false_or] at hh
  have hc : canD (kRoot a) 128 c.ty = decide (c.ty ≤ 262135) := by
    unfold canD
    rw [root_rng a c.ty a0 a1 y0 y1]
    have e1 : (kRoot a).sealed = false := rfl
    have e2 : hasP (kRoot a).pe 128 = true := by show hasP 65535 128 = true; decide +kernel
    rw [e1, e2]; rfl
  rw [hc, hs] at hh
  by_cases h1 : c.ty = 262143
  · right; left
    refine ⟨by omega, by simp [h1], ?_⟩
    rw [← hh, h1]; simp
  · have hne : decide (c ∈ [kRoot a]) = false := by
      rw [decide_eq_false_iff_not]; intro h
      simp at h
      apply h1; rw [h]; rfl
    have e1 : (c.ty == 262143) = false := by simpa using h1
    have e2 : (c.ty != 262143) = true := by simpa using h1
    rw [hne, e1] at hh
    simp only [Bool.not_false, Bool.not_true, Bool.false_or] at hh
    by_cases h2 : c.ty = 262142
    · rw [if_pos h2] at hh
      have e3 : (c.ty != 262142) = false := by simp [h2]
      rcases and_two c.pe with h | h
      · right; right; left
        refine ⟨by omega, e2, e3, by rw [h]; rfl, ?_⟩
        rw [← hh, hasP, h]; rfl
      · right; right; right; left
        refine ⟨by omega, e2, e3, by rw [h]; rfl, ?_⟩
        rw [← hh, hasP, h]; rfl
    · rw [if_neg h2] at hh
      by_cases h3 : c.ty ≤ 262135
      · left; exact ⟨by omega, by rw [← hh]; simpa using h3⟩
      · right; right; right; right
        exact ⟨by omega, e2, by simpa using h2, by rw [← hh]; simpa using h3⟩
theorem clo_not (l : List Cp) (h : ∀ x ∈ l, x.tg = false) : clo l = [] := by
  have e : baseL l = [] := by
    rw [List.eq_nil_iff_forall_not_mem]
    intro x hx
    obtain ⟨h1, h2⟩ := (base_mem l x).1 hx
    rw [h x h1] at h2; cases h2
  unfold clo; rw [e]; rfl
theorem has_not (l : List Cp) (c : Cp) (h : ∀ x ∈ l, x.tg = false) : hasB l c = !c.tg := by
  rw [hasB, clo_not l h]
  cases ht : c.tg
  · rfl
  · have : decide (c ∈ l) = false := by
      rw [decide_eq_false_iff_not]; intro hx; have := h c hx; rw [ht] at this; cases this
    simp [this]
end Go.Proofs.Ytngjboeblaldlaa
