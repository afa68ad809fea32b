/-
  A root's bounds are all there is; the closure of what nothing opens; what comes of a root. Plain mathematics.
  OrderRoots: of a root all that is right can come that is of no type that nothing can seal by; of capabilities without a tag nothing with one can come: the walk of the law, way by way. Numbers are within their types.
-/
import Derived.Test.YtkddgjaflcjhiaaOHas
import Derived.Test.YtkddgjaflcjhiaaOMath
import Derived.Test.YtkddgjaflcjhiaaOWorks
import Derived.Test.YtkddgjaflcjhiaaORight
namespace Go.Proofs.Ytkddgjaflcjhiaa
open Go.ChangeShapes Go.WideShapes Go.ChangeAt Go.RowKit
set_option linter.unusedVariables false
set_option linter.unusedSimpArgs false

theorem root_plc (a : Int) (a0 : 0 ≤ a) (a1 : a < 18446744073709551616) : uppV 52 a = 0 ∧ 0 ≤ midV 52 a ∧ midV 52 a < 4096 := by
  unfold uppV midV
  have e1 : ((52 : Int) + 14).toNat = 66 := by decide
  have e2 : (52 : Int).toNat = 52 := by decide
  rw [e1, e2]
  omega
theorem root_step (a x : Int) (a0 : 0 ≤ a) (a1 : a < 18446744073709551616) (x0 : 0 ≤ x) (x1 : x < 14336) : plcV 0 52 a x = x * 4503599627370496 := by
  obtain ⟨h1, h2, h3⟩ := root_plc a a0 a1
  have e1 : corV 0 = 14336 := by decide
  have e2 : (52 : Int).toNat = 52 := by decide
  have e3 : stepV 0 52 a x = 0 := by
    unfold stepV
    rw [e1, if_neg (by omega), if_neg (by omega)]
  unfold plcV
  rw [h1, e3, e2]
  have : (2 : Int) ^ 52 = 4503599627370496 := by decide
  rw [this]; omega
theorem root_ofB (a : Int) (a0 : 0 ≤ a) (a1 : a < 18446744073709551616) : ofB 52 0 a = 0 := by
  unfold ofB; rw [root_step a 0 a0 a1 (by omega) (by omega)]; decide
theorem t14_root : t14 0 0 true = 4096 := by decide
theorem root_ofT (a : Int) (a0 : 0 ≤ a) (a1 : a < 18446744073709551616) : ofT 52 0 0 true a = 0 := by
  unfold ofT; rw [t14_root, root_step a 4096 a0 a1 (by omega) (by omega)]; decide
theorem root_ofO (a : Int) (a0 : 0 ≤ a) (a1 : a < 18446744073709551616) : ofO 52 0 0 true a = true := by
  have e : ofF 52 0 0 true a = false := by unfold ofF; simp
  unfold ofO; rw [e]; unfold ofH; rw [t14_root, root_step a 4096 a0 a1 (by omega) (by omega)]; decide
/-- A root. -/
def kRoot (a : Int) : Cp := ⟨true, 65535, 262143, 0, 52, 0, 0, true, a⟩
theorem rc_root (a : Int) (a0 : 0 ≤ a) (a1 : a < 18446744073709551616) : RC (kRoot a) := ⟨by show (0:Int) ≤ 65535; decide, by show (65535:Int) < 65536; decide, by show (0:Int) ≤ 262143; decide, by show (262143:Int) < 262144; decide, by show (0:Int) ≤ 0; decide, by show (0:Int) < 2; decide, ⟨by show (0:Int) ≤ 52; decide, by show (52:Int) ≤ 52; decide, by show (0:Int) ≤ 0; decide, by show (0:Int) < 16384; decide, by show (0:Int) ≤ 0; decide, by show (0:Int) < 4096; decide, a0, a1⟩⟩
theorem root_rng (a k : Int) (a0 : 0 ≤ a) (a1 : a < 18446744073709551616) (k0 : 0 ≤ k) (k1 : k < 262144) : rngIn (kRoot a) k = decide (k ≤ 262135) := by
  show namesB (ofB 52 0 a) (ofT 52 0 0 true a) (ofO 52 0 0 true a) k = _
  rw [root_ofB a a0 a1, root_ofT a a0 a1, root_ofO a a0 a1]
  have e : inB 0 0 true k 1 = true := by
    unfold inB ltB
    have : topN 0 true = 18446744073709551616 := by decide
    rw [this]
    simp only [Bool.and_eq_true, Bool.not_eq_true', decide_eq_true_eq, decide_eq_false_iff_not]
    omega
  unfold namesB; rw [e, Bool.and_true]
theorem clo_uns (l : List Cp) (h : ∀ x ∈ l, x.sealed = false) : clo l = baseL l := by
  have hb : ∀ x ∈ baseL l, x.sealed = false := fun x hx => h x ((base_mem l x).1 hx).1
  have key : ∀ n, rounds (baseL l) n = baseL l := by
    intro n
    induction n with
    | zero => rfl
    | succ n ih => show roundC (baseL l) (rounds (baseL l) n) = _; rw [ih]; exact fold_unsealed _ _ hb
  exact key _
theorem clo_root (a : Int) : clo [kRoot a] = [kRoot a] := by
  rw [clo_uns _ (by intro x hx; simp at hx; subst hx; rfl)]
  simp [baseL, addC, kRoot]
theorem and_two (pe : Int) : bits .and .i64 pe 2 = 0 ∨ bits .and .i64 pe 2 = 2 := by
  have hv : ∀ i, i < 64 → (bv 2).getLsbD i = decide (i = 1) := fun i hi => bv_one 1 (by omega) i hi
  rw [and_ub]
  cases h : (bv pe).getLsbD 1
  · left
    have e : bv pe &&& bv 2 = 0#64 := by
      rw [bit_iff]; intro k hk
      rw [BitVec.getLsbD_and, hv k hk]
      by_cases e : k = 1
      · subst e; rw [h]; rfl
      · simp [e]
    rw [e]; exact (ub_0 _).2 rfl
  · right
    have e : bv pe &&& bv 2 = bv 2 := by
      apply BitVec.eq_of_getLsbD_eq; intro k hk
      rw [BitVec.getLsbD_and, hv k hk]
      by_cases e : k = 1
      · subst e; rw [h]; rfl
      · simp [e]
    rw [e, ub_bv _ (by omega) (by omega)]
/-- What of a root can come, and what can't. -/
theorem root_ways (c : Cp) (a : Int) (rc : RC c) (a0 : 0 ≤ a) (a1 : a < 18446744073709551616) (h0 : c.tg = true) (hl : lessB (uns c) (kRoot a) = true) (hv : Bool) (hh : hasB [kRoot a] c = hv) :
    (¬ 262135 < c.ty ∧ hv = true) ∨ (262135 < c.ty ∧ (c.ty != 262143) = false ∧ hv = true) ∨
    (262135 < c.ty ∧ (c.ty != 262143) = true ∧ (c.ty != 262142) = false ∧ (bits .and .i64 c.pe 2 == 0) = true ∧ hv = false) ∨
    (262135 < c.ty ∧ (c.ty != 262143) = true ∧ (c.ty != 262142) = false ∧ (bits .and .i64 c.pe 2 == 0) = false ∧ hv = true) ∨
    (262135 < c.ty ∧ (c.ty != 262143) = true ∧ (c.ty != 262142) = true ∧ hv = false) := by
  have y0 := rc.y0
  have y1 := rc.y1
  have hs : c.sealed = !(c.ty == 262143) := by unfold Cp.sealed sealedB; cases h : c.ty == 262143 <;> simp_all
  rw [hasB, clo_root, h0] at hh
  simp only [List.any_cons, List.any_nil, Bool.or_false, hl, Bool.true_and, Bool.not_true, Bool.false_or] at hh
  have hc : canD (kRoot a) 128 c.ty = decide (c.ty ≤ 262135) := by
    unfold canD
    rw [root_rng a c.ty a0 a1 y0 y1]
    have e1 : (kRoot a).sealed = false := rfl
    have e2 : hasP (kRoot a).pe 128 = true := by show hasP 65535 128 = true; decide +kernel
    rw [e1, e2]; rfl
  rw [hc, hs] at hh
  by_cases h1 : c.ty = 262143
  · right; left
    refine ⟨by omega, by simp [h1], ?_⟩
    rw [← hh, h1]; simp
  · have hne : decide (c ∈ [kRoot a]) = false := by
      rw [decide_eq_false_iff_not]; intro h
      simp at h
      apply h1; rw [h]; rfl
    have e1 : (c.ty == 262143) = false := by simpa using h1
    have e2 : (c.ty != 262143) = true := by simpa using h1
    rw [hne, e1] at hh
    simp only [Bool.not_false, Bool.not_true, Bool.false_or] at hh
    by_cases h2 : c.ty = 262142
    · rw [if_pos h2] at hh
      have e3 : (c.ty != 262142) = false := by simp [h2]
      rcases and_two c.pe with h | h
      · right; right; left
        refine ⟨by omega, e2, e3, by rw [h]; rfl, ?_⟩
        rw [← hh, hasP, h]; rfl
      · right; right; right; left
        refine ⟨by omega, e2, e3, by rw [h]; rfl, ?_⟩
        rw [← hh, hasP, h]; rfl
    · rw [if_neg h2] at hh
      by_cases h3 : c.ty ≤ 262135
      · left; exact ⟨by omega, by rw [← hh]; simpa using h3⟩
      · right; right; right; right
        exact ⟨by omega, e2, by simpa using h2, by rw [← hh]; simpa using h3⟩
theorem clo_not (l : List Cp) (h : ∀ x ∈ l, x.tg = false) : clo l = [] := by
  have e : baseL l = [] := by
    rw [List.eq_nil_iff_forall_not_mem]
    intro x hx
    obtain ⟨h1, h2⟩ := (base_mem l x).1 hx
    rw [h x h1] at h2; cases h2
  unfold clo; rw [e]; rfl
theorem has_not (l : List Cp) (c : Cp) (h : ∀ x ∈ l, x.tg = false) : hasB l c = !c.tg := by
  rw [hasB, clo_not l h]
  cases ht : c.tg
  · rfl
  · have : decide (c ∈ l) = false := by
      rw [decide_eq_false_iff_not]; intro hx; have := h c hx; rw [ht] at this; cases this
    simp [this]
end Go.Proofs.Ytkddgjaflcjhiaa
namespace Go.Proofs.Ytkddgjaflcjhiaa
open Go.ChangeShapes Go.WideShapes Go.ChangeAt Go.RowKit Go.Maps
set_option linter.unusedVariables false
set_option linter.unusedSimpArgs false
set_option maxHeartbeats 2000000 in
set_option maxRecDepth 100000 in
theorem roots_no (c : Cp) (at' : Int) (rw : Raw c) (hr : rightC c = false) (w : World) :
    Calls Try.prog 11 #[.agg #[.bool c.tg, .int .i64 c.pe, .int .i64 c.ty, .int .i64 c.mo, .int .i64 c.e, .int .i64 c.b, .int .i64 c.t, .bool c.g, .int .u64 c.a], .int .u64 at'] w fun e' w' => e' = .returned (.bool true) ∧ Below w.heap.size w w' := by
  have HRT := Lib.hid (right_c c rw false hr)
  go_enter Try.func11, Try.ntmps11
  go_wp2_with (first
    | (go_at_call 21; (with_reducible refine (HRT.out _).mono ?_); rintro e' w1 ⟨rfl, qk⟩; have B1 := Lib.hid (((Kp.refl w).allocs _ _).trans qk).1; clear qk)
    | (go_at_call 13; (with_reducible refine (works_w _).mono ?_); rintro e' wz ⟨rfl, hbz⟩; have BZ := Lib.hid (B1.out.trans (hbz.mono B1.out.size)); clear hbz))
  go_ret
  exact ⟨rfl, BZ.out⟩
set_option maxHeartbeats 2000000 in
set_option maxRecDepth 100000 in
theorem roots_0 (c : Cp) (at' : Int) (rc : RC c) (rw : Raw c) (hr : rightC c = true) (a0 : 0 ≤ at') (a1 : at' < 18446744073709551616) (h0 : c.tg = false)  (w : World) :
    Calls Try.prog 11 #[.agg #[.bool false, .int .i64 c.pe, .int .i64 c.ty, .int .i64 c.mo, .int .i64 c.e, .int .i64 c.b, .int .i64 c.t, .bool c.g, .int .u64 c.a], .int .u64 at'] w fun e' w' => e' = .returned (.bool true) ∧ Below w.heap.size w w' := by
  have HRT : Hid (∀ w1 : World, Calls Try.prog 21 #[.agg #[.bool false, .int .i64 c.pe, .int .i64 c.ty, .int .i64 c.mo, .int .i64 c.e, .int .i64 c.b, .int .i64 c.t, .bool c.g, .int .u64 c.a]] w1 fun e' w' => e' = .returned (.bool true) ∧ Kp w1 w') := Lib.hid (fun w1 => by have := right_c c rw true hr w1; rw [h0] at this; exact this)
  have HRO : Hid (∀ w1 : World, Calls Try.prog 4 #[.int .i64 0, .int .u64 at'] w1 fun e' w' => e' = .returned (.agg #[.bool true, .int .i64 65535, .int .i64 262143, .int .i64 0, .int .i64 52, .int .i64 0, .int .i64 0, .bool true, .int .u64 at']) ∧ Kp w1 w') := Lib.hid (fun w1 => root_m 0 at' w1)
  have HNU : Hid (∀ w1 : World, Calls Try.prog 6 #[.int .u64 at'] w1 fun e' w' => e' = .returned (.agg #[.bool false, .int .i64 0, .int .i64 262143, .int .i64 0, .int .i64 52, .int .i64 0, .int .i64 0, .bool true, .int .u64 at']) ∧ Below w1.heap.size w1 w') := Lib.hid (fun w1 => kb (number_w at' w1))
  have HD : Hid (∀ w1 : World, Rd (w1.alloc (.cells #[.bool false, .int .i64 65535, .int .i64 262143, .int .i64 0, .int .i64 52, .int .i64 0, .int .i64 0, .bool true, .int .u64 at', .bool false, .int .i64 0, .int .i64 262143, .int .i64 0, .int .i64 52, .int .i64 0, .int .i64 0, .bool true, .int .u64 at'] 25)) (w1.alloc (.cells #[.bool false, .int .i64 65535, .int .i64 262143, .int .i64 0, .int .i64 52, .int .i64 0, .int .i64 0, .bool true, .int .u64 at', .bool false, .int .i64 0, .int .i64 262143, .int .i64 0, .int .i64 52, .int .i64 0, .int .i64 0, .bool true, .int .u64 at'] 25)).heap.size (some ⟨w1.heap.size, 0, none⟩) [mvC (kRoot at') at' false, ⟨false, 0, 262143, 0, 52, 0, 0, true, at'⟩]) := Lib.hid (fun w1 => rd_new [mvC (kRoot at') at' false, ⟨false, 0, 262143, 0, 52, 0, 0, true, at'⟩] w1)
  have rcN : RC ⟨false, 0, 262143, 0, 52, 0, 0, true, at'⟩ := ⟨by show (0:Int) ≤ 0; decide, by show (0:Int) < 65536; decide, by show (0:Int) ≤ 262143; decide, by show (262143:Int) < 262144; decide, by show (0:Int) ≤ 0; decide, by show (0:Int) < 2; decide, (rc_root at' a0 a1).f⟩
  have HH2 : Hid (∀ (A : Option Addr) (n : Nat) (w1 : World), Rd w1 w1.heap.size A [mvC (kRoot at') at' false, ⟨false, 0, 262143, 0, 52, 0, 0, true, at'⟩] → Calls Try.prog 27 #[.slice A 2 n, .agg #[.bool false, .int .i64 c.pe, .int .i64 c.ty, .int .i64 c.mo, .int .i64 c.e, .int .i64 c.b, .int .i64 c.t, .bool c.g, .int .u64 c.a]] w1 fun e' w' => e' = .returned (.bool true) ∧ Below w1.heap.size w1 w') := Lib.hid (fun A n w1 h => by
    have := has_w [mvC (kRoot at') at' false, ⟨false, 0, 262143, 0, 52, 0, 0, true, at'⟩] A n c (by intro d hd; simp at hd; rcases hd with rfl | rfl; exact (rc_root at' a0 a1).mv a0 a1 false; exact rcN) (by simp) rc true (by rw [has_not _ _ (by intro x hx; simp at hx; rcases hx with rfl | rfl <;> rfl), h0]; rfl) w1 h
    rw [h0] at this; exact this)
  have WAY : (¬ 262135 < c.ty) ∨ (262135 < c.ty ∧ (c.ty != 262143) = false) ∨ (262135 < c.ty ∧ (c.ty != 262143) = true ∧ (c.ty != 262142) = false ∧ (bits .and .i64 c.pe 2 == 0) = true) ∨ (262135 < c.ty ∧ (c.ty != 262143) = true ∧ (c.ty != 262142) = false ∧ (bits .and .i64 c.pe 2 == 0) = false) ∨ (262135 < c.ty ∧ (c.ty != 262143) = true ∧ (c.ty != 262142) = true) := by
    by_cases g1 : 262135 < c.ty
    · cases g2 : (c.ty != 262143)
      · exact .inr (.inl ⟨g1, rfl⟩)
      · cases g3 : (c.ty != 262142)
        · cases g4 : (bits .and .i64 c.pe 2 == 0)
          · exact .inr (.inr (.inr (.inl ⟨g1, rfl, rfl, rfl⟩)))
          · exact .inr (.inr (.inl ⟨g1, rfl, rfl, rfl⟩))
        · exact .inr (.inr (.inr (.inr ⟨g1, rfl, rfl⟩)))
    · exact .inl g1
  clear rc rw hr  h0 rcN 
  rcases WAY with g1 | ⟨g1, g2⟩ | ⟨g1, g2, g3, g4⟩ | ⟨g1, g2, g3, g4⟩ | ⟨g1, g2, g3⟩
  all_goals
    go_enter Try.func11, Try.ntmps11
    go_upto_region 11 with (first
      | (go_at_call 21; (with_reducible refine (HRT.out _).mono ?_); rintro e' w1 ⟨rfl, qk⟩; have HKw1 := Lib.hid qk; have qw10 : w1.cell? ⟨w.heap.size, 0, none⟩ = some (.bool false) := (qk.cell (p := ⟨w.heap.size, 0, none⟩) (by first | (simp; done) | (simp; omega) | omega)).trans (by simp [go_sem, *]); have qw11 : w1.cell? ⟨w.heap.size, 1, none⟩ = some (.int .i64 c.pe) := (qk.cell (p := ⟨w.heap.size, 1, none⟩) (by first | (simp; done) | (simp; omega) | omega)).trans (by simp [go_sem, *]); have qw12 : w1.cell? ⟨w.heap.size, 2, none⟩ = some (.int .i64 c.ty) := (qk.cell (p := ⟨w.heap.size, 2, none⟩) (by first | (simp; done) | (simp; omega) | omega)).trans (by simp [go_sem, *]); have qw13 : w1.cell? ⟨w.heap.size, 3, none⟩ = some (.int .i64 c.mo) := (qk.cell (p := ⟨w.heap.size, 3, none⟩) (by first | (simp; done) | (simp; omega) | omega)).trans (by simp [go_sem, *]); have qw14 : w1.cell? ⟨w.heap.size, 4, none⟩ = some (.int .i64 c.e) := (qk.cell (p := ⟨w.heap.size, 4, none⟩) (by first | (simp; done) | (simp; omega) | omega)).trans (by simp [go_sem, *]); have qw15 : w1.cell? ⟨w.heap.size, 5, none⟩ = some (.int .i64 c.b) := (qk.cell (p := ⟨w.heap.size, 5, none⟩) (by first | (simp; done) | (simp; omega) | omega)).trans (by simp [go_sem, *]); have qw16 : w1.cell? ⟨w.heap.size, 6, none⟩ = some (.int .i64 c.t) := (qk.cell (p := ⟨w.heap.size, 6, none⟩) (by first | (simp; done) | (simp; omega) | omega)).trans (by simp [go_sem, *]); have qw17 : w1.cell? ⟨w.heap.size, 7, none⟩ = some (.bool c.g) := (qk.cell (p := ⟨w.heap.size, 7, none⟩) (by first | (simp; done) | (simp; omega) | omega)).trans (by simp [go_sem, *]); have qw18 : w1.cell? ⟨w.heap.size, 8, none⟩ = some (.int .u64 c.a) := (qk.cell (p := ⟨w.heap.size, 8, none⟩) (by first | (simp; done) | (simp; omega) | omega)).trans (by simp [go_sem, *]); have l1 : w.heap.size < w1.heap.size := (by have := qk.size; (try simp at this); omega); have B1 := Lib.hid (((Kp.refl w).allocs _ _).trans qk).1; clear qk)
      | (go_at_call 4; (with_reducible refine (HRO.out _).mono ?_); rintro e' w2 ⟨rfl, qk⟩; have HKw2 := Lib.hid qk; have qw20 : w2.cell? ⟨w.heap.size, 0, none⟩ = some (.bool false) := (qk.cell (p := ⟨w.heap.size, 0, none⟩) (by first | (simp; done) | (simp; omega) | omega)).trans (by simp [go_sem, *]); have qw21 : w2.cell? ⟨w.heap.size, 1, none⟩ = some (.int .i64 c.pe) := (qk.cell (p := ⟨w.heap.size, 1, none⟩) (by first | (simp; done) | (simp; omega) | omega)).trans (by simp [go_sem, *]); have qw22 : w2.cell? ⟨w.heap.size, 2, none⟩ = some (.int .i64 c.ty) := (qk.cell (p := ⟨w.heap.size, 2, none⟩) (by first | (simp; done) | (simp; omega) | omega)).trans (by simp [go_sem, *]); have qw23 : w2.cell? ⟨w.heap.size, 3, none⟩ = some (.int .i64 c.mo) := (qk.cell (p := ⟨w.heap.size, 3, none⟩) (by first | (simp; done) | (simp; omega) | omega)).trans (by simp [go_sem, *]); have qw24 : w2.cell? ⟨w.heap.size, 4, none⟩ = some (.int .i64 c.e) := (qk.cell (p := ⟨w.heap.size, 4, none⟩) (by first | (simp; done) | (simp; omega) | omega)).trans (by simp [go_sem, *]); have qw25 : w2.cell? ⟨w.heap.size, 5, none⟩ = some (.int .i64 c.b) := (qk.cell (p := ⟨w.heap.size, 5, none⟩) (by first | (simp; done) | (simp; omega) | omega)).trans (by simp [go_sem, *]); have qw26 : w2.cell? ⟨w.heap.size, 6, none⟩ = some (.int .i64 c.t) := (qk.cell (p := ⟨w.heap.size, 6, none⟩) (by first | (simp; done) | (simp; omega) | omega)).trans (by simp [go_sem, *]); have qw27 : w2.cell? ⟨w.heap.size, 7, none⟩ = some (.bool c.g) := (qk.cell (p := ⟨w.heap.size, 7, none⟩) (by first | (simp; done) | (simp; omega) | omega)).trans (by simp [go_sem, *]); have qw28 : w2.cell? ⟨w.heap.size, 8, none⟩ = some (.int .u64 c.a) := (qk.cell (p := ⟨w.heap.size, 8, none⟩) (by first | (simp; done) | (simp; omega) | omega)).trans (by simp [go_sem, *]); have l2 : w.heap.size < w2.heap.size := (by have := qk.size; omega); have B2 := Lib.hid (B1.out.trans (qk.1.mono B1.out.size)); clear qk))
    have AC : At (w.heap.size) [.bool false, .int .i64 c.pe, .int .i64 c.ty, .int .i64 c.mo, .int .i64 c.e, .int .i64 c.b, .int .i64 c.t, .bool c.g, .int .u64 c.a] (((w2.alloc (.cells #[.bool true, .int .i64 65535, .int .i64 262143, .int .i64 0, .int .i64 52, .int .i64 0, .int .i64 0, .bool true, .int .u64 at'] 25)).alloc (.cells #[.bool false, .int .i64 c.pe, .int .i64 262143, .int .i64 c.mo, .int .i64 c.e, .int .i64 c.b, .int .i64 c.t, .bool c.g, .int .u64 c.a] 25)).alloc (.cells #[.bool false, .int .i64 65535, .int .i64 262143, .int .i64 0, .int .i64 52, .int .i64 0, .int .i64 0, .bool true, .int .u64 at'] 25)) := (((At.of9 (by assumption) (by assumption) (by assumption) (by assumption) (by assumption) (by assumption) (by assumption) (by assumption) (by assumption) : At (w.heap.size) [.bool false, .int .i64 c.pe, .int .i64 c.ty, .int .i64 c.mo, .int .i64 c.e, .int .i64 c.b, .int .i64 c.t, .bool c.g, .int .u64 c.a] w2).alloc _).alloc _).alloc _
    have AD : At (w2.heap.size + 1 + 1) [.bool false, .int .i64 65535, .int .i64 262143, .int .i64 0, .int .i64 52, .int .i64 0, .int .i64 0, .bool true, .int .u64 at'] (((w2.alloc (.cells #[.bool true, .int .i64 65535, .int .i64 262143, .int .i64 0, .int .i64 52, .int .i64 0, .int .i64 0, .bool true, .int .u64 at'] 25)).alloc (.cells #[.bool false, .int .i64 c.pe, .int .i64 262143, .int .i64 c.mo, .int .i64 c.e, .int .i64 c.b, .int .i64 c.t, .bool c.g, .int .u64 c.a] 25)).alloc (.cells #[.bool false, .int .i64 65535, .int .i64 262143, .int .i64 0, .int .i64 52, .int .i64 0, .int .i64 0, .bool true, .int .u64 at'] 25)) := At.new' ((w2.alloc (.cells #[.bool true, .int .i64 65535, .int .i64 262143, .int .i64 0, .int .i64 52, .int .i64 0, .int .i64 0, .bool true, .int .u64 at'] 25)).alloc (.cells #[.bool false, .int .i64 c.pe, .int .i64 262143, .int .i64 c.mo, .int .i64 c.e, .int .i64 c.b, .int .i64 c.t, .bool c.g, .int .u64 c.a] 25)) [.bool false, .int .i64 65535, .int .i64 262143, .int .i64 0, .int .i64 52, .int .i64 0, .int .i64 0, .bool true, .int .u64 at'] 25 (by first | rfl | simp)
    have AB : Bl w (w2.heap.size + 1 + 1 + 1) (((w2.alloc (.cells #[.bool true, .int .i64 65535, .int .i64 262143, .int .i64 0, .int .i64 52, .int .i64 0, .int .i64 0, .bool true, .int .u64 at'] 25)).alloc (.cells #[.bool false, .int .i64 c.pe, .int .i64 262143, .int .i64 c.mo, .int .i64 c.e, .int .i64 c.b, .int .i64 c.t, .bool c.g, .int .u64 c.a] 25)).alloc (.cells #[.bool false, .int .i64 65535, .int .i64 262143, .int .i64 0, .int .i64 52, .int .i64 0, .int .i64 0, .bool true, .int .u64 at'] 25)) := ⟨((B2.out.alloc (by omega) _).alloc (by simp; omega) _).alloc (by first | omega | (simp; omega)) _, by omega, by simp⟩
    refine wp_region_held_drew (S := (fun w' => At (w.heap.size) [.bool false, .int .i64 c.pe, .int .i64 c.ty, .int .i64 c.mo, .int .i64 c.e, .int .i64 c.b, .int .i64 c.t, .bool c.g, .int .u64 c.a] w' ∧ At (w2.heap.size + 1 + 1) [.bool false, .int .i64 65535, .int .i64 262143, .int .i64 0, .int .i64 52, .int .i64 0, .int .i64 0, .bool true, .int .u64 at'] w' ∧ Bl w (w2.heap.size + 1 + 1 + 1) w')) (by kernel_rfl) ⟨At.drew (by with_reducible assumption), At.drew (by with_reducible assumption), Bl.drew (by with_reducible assumption)⟩ (fun hS => ?_)
    generalize hgw : (((w2.alloc (.cells #[.bool true, .int .i64 65535, .int .i64 262143, .int .i64 0, .int .i64 52, .int .i64 0, .int .i64 0, .bool true, .int .u64 at'] 25)).alloc (.cells #[.bool false, .int .i64 c.pe, .int .i64 262143, .int .i64 c.mo, .int .i64 c.e, .int .i64 c.b, .int .i64 c.t, .bool c.g, .int .u64 c.a] 25)).alloc (.cells #[.bool false, .int .i64 65535, .int .i64 262143, .int .i64 0, .int .i64 52, .int .i64 0, .int .i64 0, .bool true, .int .u64 at'] 25)).drew = g0 at hS ⊢
    clear hgw
    try simp only [Act.put, zA, zB, zC]
    (refine tk 0 ?_ rfl (Or.inl ⟨by rfl, ?_⟩) hS ?_; rotate_left; focus (intro w' hSw; obtain ⟨s0, s1, sb⟩ := hSw; obtain ⟨_, _, _, _, _, _, _, _, _⟩ := s0.out9; obtain ⟨_, _, _, _, _, _, _, _, _⟩ := s1.out9; go_simp <;> try with_reducible rfl))
    try simp only [Act.put, zA, zB, zC]
    (refine tk 1 ?_ rfl (Or.inl ⟨by rfl, ?_⟩) hS ?_; rotate_left; focus (intro w' hSw; obtain ⟨s0, s1, sb⟩ := hSw; go_simp <;> try with_reducible rfl))
    try simp only [Act.put, zA, zB, zC]
    (refine tk 4 ?_ rfl (Or.inl ⟨by rfl, ?_⟩) hS ?_; rotate_left; focus (intro w' hSw; obtain ⟨s0, s1, sb⟩ := hSw; obtain ⟨_, _, _, _, _, _, _, _, _⟩ := s0.out9; obtain ⟨_, _, _, _, _, _, _, _, _⟩ := s1.out9; go_simp <;> try with_reducible rfl))
    try simp only [Act.put, zA, zB, zC]
    (refine tk 6 ?_ rfl (Or.inl ⟨by rfl, ?_⟩) hS ?_; rotate_left; focus (intro w' hSw; obtain ⟨s0, s1, sb⟩ := hSw; go_simp <;> try with_reducible rfl))
    try simp only [Act.put, zA, zB, zC]
    (refine tk 7 ?_ rfl (Or.inl ⟨by rfl, ?_⟩) hS ?_; rotate_left; focus (intro w' hSw; obtain ⟨s0, s1, sb⟩ := hSw; obtain ⟨_, _, _, _, _, _, _, _, _⟩ := s0.out9; obtain ⟨_, _, _, _, _, _, _, _, _⟩ := s1.out9; go_simp <;> try with_reducible rfl))
    try simp only [Act.put, zA, zB, zC]
    (refine tk 8 ?_ rfl (Or.inl ⟨by rfl, ?_⟩) hS ?_; rotate_left; focus (intro w' hSw; obtain ⟨s0, s1, sb⟩ := hSw; go_simp <;> try with_reducible rfl))
    try simp only [Act.put, zA, zB, zC]
    refine rdy 2 rfl (fun K hK => ?_)
    refine take_if (by rfl) ?_
    obtain ⟨s0, s1, sb⟩ := hS
    go_simp
    (with_reducible refine (HNU.out _).mono ?_)
    rintro e' g2 ⟨rfl, hb⟩
    have t0 := sb.at_ hb s0 (show w.heap.size < w2.heap.size + 1 + 1 + 1 by omega)
    have t1 := sb.at_ hb s1 (show w2.heap.size + 1 + 1 < w2.heap.size + 1 + 1 + 1 by omega)
    refine hK.out _ _ ⟨t0, t1, (sb.step hb)⟩ (fun hS => ?_)
    clear hK K hb s0 t0 s1 t1 sb
    try simp only [Act.put, zA, zB, zC]
    refine rdy 3 rfl (fun K hK => ?_)
    refine take_if (by rfl) ?_
    obtain ⟨s0, s1, sb⟩ := hS
    go_simp
    refine hK.out _ _ ⟨(At.alloc s0 _), (At.alloc s1 _), (Bl.alloc sb _)⟩ (fun hS => ?_)
    clear hK K
    try simp only [Act.put, zA, zB, zC]
    have r3 : Rd (g2.alloc (.cells #[.bool false, .int .i64 65535, .int .i64 262143, .int .i64 0, .int .i64 52, .int .i64 0, .int .i64 0, .bool true, .int .u64 at', .bool false, .int .i64 0, .int .i64 262143, .int .i64 0, .int .i64 52, .int .i64 0, .int .i64 0, .bool true, .int .u64 at'] 25)) (g2.alloc (.cells #[.bool false, .int .i64 65535, .int .i64 262143, .int .i64 0, .int .i64 52, .int .i64 0, .int .i64 0, .bool true, .int .u64 at', .bool false, .int .i64 0, .int .i64 262143, .int .i64 0, .int .i64 52, .int .i64 0, .int .i64 0, .bool true, .int .u64 at'] 25)).heap.size (some ⟨g2.heap.size, 0, none⟩) [mvC (kRoot at') at' false, ⟨false, 0, 262143, 0, 52, 0, 0, true, at'⟩] := rd_new [mvC (kRoot at') at' false, ⟨false, 0, 262143, 0, 52, 0, 0, true, at'⟩] g2
    generalize hgw : (g2.alloc (.cells #[.bool false, .int .i64 65535, .int .i64 262143, .int .i64 0, .int .i64 52, .int .i64 0, .int .i64 0, .bool true, .int .u64 at', .bool false, .int .i64 0, .int .i64 262143, .int .i64 0, .int .i64 52, .int .i64 0, .int .i64 0, .bool true, .int .u64 at'] 25)) = g3 at hS r3 ⊢
    clear hgw
    refine rdy 5 rfl (fun K hK => ?_)
    refine take_if (by rfl) ?_
    obtain ⟨s0, s1, sb⟩ := hS
    go_simp
    (with_reducible refine (HH2.out _ _ _ r3).mono ?_)
    rintro e' g5 ⟨rfl, hb⟩
    have t0 := sb.at_ hb s0 (show w.heap.size < w2.heap.size + 1 + 1 + 1 by omega)
    have t1 := sb.at_ hb s1 (show w2.heap.size + 1 + 1 < w2.heap.size + 1 + 1 + 1 by omega)
    have r3 := r3.below hb (Nat.le_refl _)
    refine hK.out _ _ ⟨t0, t1, (sb.step hb)⟩ (fun hS => ?_)
    clear hK K hb s0 t0 s1 t1 sb
    try simp only [Act.put, zA, zB, zC]
    clear r3
    (refine tk 9 ?_ rfl (Or.inl ⟨by rfl, ?_⟩) hS ?_; rotate_left; focus (intro w' hSw; obtain ⟨s0, s1, sb⟩ := hSw; go_simp <;> try with_reducible rfl))
    try simp only [Act.put, zA, zB, zC]
    (refine tk 10 ?_ rfl (Or.inl ⟨by rfl, ?_⟩) hS ?_; rotate_left; focus (intro w' hSw; obtain ⟨s0, s1, sb⟩ := hSw; go_simp <;> try with_reducible rfl))
    try simp only [Act.put, zA, zB, zC]
    refine rdy 11 rfl (fun K hK => ?_)
    refine take_if (by rfl) ?_
    obtain ⟨s0, s1, sb⟩ := hS
    go_simp
    (with_reducible refine (works_w _).mono ?_)
    rintro e' g11 ⟨rfl, hb⟩
    have t0 := sb.at_ hb s0 (show w.heap.size < w2.heap.size + 1 + 1 + 1 by omega)
    have t1 := sb.at_ hb s1 (show w2.heap.size + 1 + 1 < w2.heap.size + 1 + 1 + 1 by omega)
    refine hK.out _ _ ⟨t0, t1, (sb.step hb)⟩ (fun hS => ?_)
    clear hK K hb s0 t0 s1 t1 sb
    try simp only [Act.put, zA, zB, zC]
    (refine tk 12 ?_ rfl (Or.inl ⟨by rfl, ?_⟩) hS ?_; rotate_left; focus (intro w' hSw; obtain ⟨s0, s1, sb⟩ := hSw; go_simp <;> try with_reducible rfl))
    try simp only [Act.put, zA, zB, zC]
    (refine tk 13 ?_ rfl (Or.inl ⟨by rfl, ?_⟩) hS ?_; rotate_left; focus (intro w' hSw; obtain ⟨s0, s1, sb⟩ := hSw; go_simp <;> try with_reducible rfl))
    try simp only [Act.put, zA, zB, zC]
    refine wpAnyH_done (by kernel_rfl) ?_ _
    obtain ⟨s0, s1, sb⟩ := hS
    go_wp2
    go_ret
    exact ⟨rfl, sb.bl⟩
set_option maxHeartbeats 2000000 in
set_option maxRecDepth 100000 in
theorem roots_1 (c : Cp) (at' : Int) (rc : RC c) (rw : Raw c) (hr : rightC c = true) (a0 : 0 ≤ at') (a1 : at' < 18446744073709551616) (h0 : c.tg = true) (h1 : lessB (uns c) (kRoot at') = false) (w : World) :
    Calls Try.prog 11 #[.agg #[.bool true, .int .i64 c.pe, .int .i64 c.ty, .int .i64 c.mo, .int .i64 c.e, .int .i64 c.b, .int .i64 c.t, .bool c.g, .int .u64 c.a], .int .u64 at'] w fun e' w' => e' = .returned (.bool true) ∧ Below w.heap.size w w' := by
  have HRT : Hid (∀ w1 : World, Calls Try.prog 21 #[.agg #[.bool true, .int .i64 c.pe, .int .i64 c.ty, .int .i64 c.mo, .int .i64 c.e, .int .i64 c.b, .int .i64 c.t, .bool c.g, .int .u64 c.a]] w1 fun e' w' => e' = .returned (.bool true) ∧ Kp w1 w') := Lib.hid (fun w1 => by have := right_c c rw true hr w1; rw [h0] at this; exact this)
  have HRO : Hid (∀ w1 : World, Calls Try.prog 4 #[.int .i64 0, .int .u64 at'] w1 fun e' w' => e' = .returned (.agg #[.bool true, .int .i64 65535, .int .i64 262143, .int .i64 0, .int .i64 52, .int .i64 0, .int .i64 0, .bool true, .int .u64 at']) ∧ Kp w1 w') := Lib.hid (fun w1 => root_m 0 at' w1)
  have HNU : Hid (∀ w1 : World, Calls Try.prog 6 #[.int .u64 at'] w1 fun e' w' => e' = .returned (.agg #[.bool false, .int .i64 0, .int .i64 262143, .int .i64 0, .int .i64 52, .int .i64 0, .int .i64 0, .bool true, .int .u64 at']) ∧ Below w1.heap.size w1 w') := Lib.hid (fun w1 => kb (number_w at' w1))
  have HD : Hid (∀ w1 : World, Rd (w1.alloc (.cells #[.bool false, .int .i64 65535, .int .i64 262143, .int .i64 0, .int .i64 52, .int .i64 0, .int .i64 0, .bool true, .int .u64 at', .bool false, .int .i64 0, .int .i64 262143, .int .i64 0, .int .i64 52, .int .i64 0, .int .i64 0, .bool true, .int .u64 at'] 25)) (w1.alloc (.cells #[.bool false, .int .i64 65535, .int .i64 262143, .int .i64 0, .int .i64 52, .int .i64 0, .int .i64 0, .bool true, .int .u64 at', .bool false, .int .i64 0, .int .i64 262143, .int .i64 0, .int .i64 52, .int .i64 0, .int .i64 0, .bool true, .int .u64 at'] 25)).heap.size (some ⟨w1.heap.size, 0, none⟩) [mvC (kRoot at') at' false, ⟨false, 0, 262143, 0, 52, 0, 0, true, at'⟩]) := Lib.hid (fun w1 => rd_new [mvC (kRoot at') at' false, ⟨false, 0, 262143, 0, 52, 0, 0, true, at'⟩] w1)
  have rcN : RC ⟨false, 0, 262143, 0, 52, 0, 0, true, at'⟩ := ⟨by show (0:Int) ≤ 0; decide, by show (0:Int) < 65536; decide, by show (0:Int) ≤ 262143; decide, by show (262143:Int) < 262144; decide, by show (0:Int) ≤ 0; decide, by show (0:Int) < 2; decide, (rc_root at' a0 a1).f⟩
  have HH2 : Hid (∀ (A : Option Addr) (n : Nat) (w1 : World), Rd w1 w1.heap.size A [mvC (kRoot at') at' false, ⟨false, 0, 262143, 0, 52, 0, 0, true, at'⟩] → Calls Try.prog 27 #[.slice A 2 n, .agg #[.bool true, .int .i64 c.pe, .int .i64 c.ty, .int .i64 c.mo, .int .i64 c.e, .int .i64 c.b, .int .i64 c.t, .bool c.g, .int .u64 c.a]] w1 fun e' w' => e' = .returned (.bool false) ∧ Below w1.heap.size w1 w') := Lib.hid (fun A n w1 h => by
    have := has_w [mvC (kRoot at') at' false, ⟨false, 0, 262143, 0, 52, 0, 0, true, at'⟩] A n c (by intro d hd; simp at hd; rcases hd with rfl | rfl; exact (rc_root at' a0 a1).mv a0 a1 false; exact rcN) (by simp) rc false (by rw [has_not _ _ (by intro x hx; simp at hx; rcases hx with rfl | rfl <;> rfl), h0]; rfl) w1 h
    rw [h0] at this; exact this)
  have HLE : Hid (∀ w1 : World, Calls Try.prog 25 #[.agg #[.bool true, .int .i64 c.pe, .int .i64 262143, .int .i64 c.mo, .int .i64 c.e, .int .i64 c.b, .int .i64 c.t, .bool c.g, .int .u64 c.a], .agg #[.bool true, .int .i64 65535, .int .i64 262143, .int .i64 0, .int .i64 52, .int .i64 0, .int .i64 0, .bool true, .int .u64 at']] w1 fun e' w' => e' = .returned (.bool false) ∧ Kp w1 w') := Lib.hid (fun w1 => by
    have := less_o (uns c) (kRoot at') rc.uns (rc_root at' a0 a1) false h1 w1
    rw [show (uns c).tg = true from h0] at this; exact this)
  have WAY : (¬ 262135 < c.ty) ∨ (262135 < c.ty ∧ (c.ty != 262143) = false) ∨ (262135 < c.ty ∧ (c.ty != 262143) = true ∧ (c.ty != 262142) = false ∧ (bits .and .i64 c.pe 2 == 0) = true) ∨ (262135 < c.ty ∧ (c.ty != 262143) = true ∧ (c.ty != 262142) = false ∧ (bits .and .i64 c.pe 2 == 0) = false) ∨ (262135 < c.ty ∧ (c.ty != 262143) = true ∧ (c.ty != 262142) = true) := by
    by_cases g1 : 262135 < c.ty
    · cases g2 : (c.ty != 262143)
      · exact .inr (.inl ⟨g1, rfl⟩)
      · cases g3 : (c.ty != 262142)
        · cases g4 : (bits .and .i64 c.pe 2 == 0)
          · exact .inr (.inr (.inr (.inl ⟨g1, rfl, rfl, rfl⟩)))
          · exact .inr (.inr (.inl ⟨g1, rfl, rfl, rfl⟩))
        · exact .inr (.inr (.inr (.inr ⟨g1, rfl, rfl⟩)))
    · exact .inl g1
  clear rc rw hr h1 h0 rcN 
  rcases WAY with g1 | ⟨g1, g2⟩ | ⟨g1, g2, g3, g4⟩ | ⟨g1, g2, g3, g4⟩ | ⟨g1, g2, g3⟩
  all_goals
    go_enter Try.func11, Try.ntmps11
    go_upto_region 11 with (first
      | (go_at_call 21; (with_reducible refine (HRT.out _).mono ?_); rintro e' w1 ⟨rfl, qk⟩; have HKw1 := Lib.hid qk; have qw10 : w1.cell? ⟨w.heap.size, 0, none⟩ = some (.bool true) := (qk.cell (p := ⟨w.heap.size, 0, none⟩) (by first | (simp; done) | (simp; omega) | omega)).trans (by simp [go_sem, *]); have qw11 : w1.cell? ⟨w.heap.size, 1, none⟩ = some (.int .i64 c.pe) := (qk.cell (p := ⟨w.heap.size, 1, none⟩) (by first | (simp; done) | (simp; omega) | omega)).trans (by simp [go_sem, *]); have qw12 : w1.cell? ⟨w.heap.size, 2, none⟩ = some (.int .i64 c.ty) := (qk.cell (p := ⟨w.heap.size, 2, none⟩) (by first | (simp; done) | (simp; omega) | omega)).trans (by simp [go_sem, *]); have qw13 : w1.cell? ⟨w.heap.size, 3, none⟩ = some (.int .i64 c.mo) := (qk.cell (p := ⟨w.heap.size, 3, none⟩) (by first | (simp; done) | (simp; omega) | omega)).trans (by simp [go_sem, *]); have qw14 : w1.cell? ⟨w.heap.size, 4, none⟩ = some (.int .i64 c.e) := (qk.cell (p := ⟨w.heap.size, 4, none⟩) (by first | (simp; done) | (simp; omega) | omega)).trans (by simp [go_sem, *]); have qw15 : w1.cell? ⟨w.heap.size, 5, none⟩ = some (.int .i64 c.b) := (qk.cell (p := ⟨w.heap.size, 5, none⟩) (by first | (simp; done) | (simp; omega) | omega)).trans (by simp [go_sem, *]); have qw16 : w1.cell? ⟨w.heap.size, 6, none⟩ = some (.int .i64 c.t) := (qk.cell (p := ⟨w.heap.size, 6, none⟩) (by first | (simp; done) | (simp; omega) | omega)).trans (by simp [go_sem, *]); have qw17 : w1.cell? ⟨w.heap.size, 7, none⟩ = some (.bool c.g) := (qk.cell (p := ⟨w.heap.size, 7, none⟩) (by first | (simp; done) | (simp; omega) | omega)).trans (by simp [go_sem, *]); have qw18 : w1.cell? ⟨w.heap.size, 8, none⟩ = some (.int .u64 c.a) := (qk.cell (p := ⟨w.heap.size, 8, none⟩) (by first | (simp; done) | (simp; omega) | omega)).trans (by simp [go_sem, *]); have l1 : w.heap.size < w1.heap.size := (by have := qk.size; (try simp at this); omega); have B1 := Lib.hid (((Kp.refl w).allocs _ _).trans qk).1; clear qk)
      | (go_at_call 4; (with_reducible refine (HRO.out _).mono ?_); rintro e' w2 ⟨rfl, qk⟩; have HKw2 := Lib.hid qk; have qw20 : w2.cell? ⟨w.heap.size, 0, none⟩ = some (.bool true) := (qk.cell (p := ⟨w.heap.size, 0, none⟩) (by first | (simp; done) | (simp; omega) | omega)).trans (by simp [go_sem, *]); have qw21 : w2.cell? ⟨w.heap.size, 1, none⟩ = some (.int .i64 c.pe) := (qk.cell (p := ⟨w.heap.size, 1, none⟩) (by first | (simp; done) | (simp; omega) | omega)).trans (by simp [go_sem, *]); have qw22 : w2.cell? ⟨w.heap.size, 2, none⟩ = some (.int .i64 c.ty) := (qk.cell (p := ⟨w.heap.size, 2, none⟩) (by first | (simp; done) | (simp; omega) | omega)).trans (by simp [go_sem, *]); have qw23 : w2.cell? ⟨w.heap.size, 3, none⟩ = some (.int .i64 c.mo) := (qk.cell (p := ⟨w.heap.size, 3, none⟩) (by first | (simp; done) | (simp; omega) | omega)).trans (by simp [go_sem, *]); have qw24 : w2.cell? ⟨w.heap.size, 4, none⟩ = some (.int .i64 c.e) := (qk.cell (p := ⟨w.heap.size, 4, none⟩) (by first | (simp; done) | (simp; omega) | omega)).trans (by simp [go_sem, *]); have qw25 : w2.cell? ⟨w.heap.size, 5, none⟩ = some (.int .i64 c.b) := (qk.cell (p := ⟨w.heap.size, 5, none⟩) (by first | (simp; done) | (simp; omega) | omega)).trans (by simp [go_sem, *]); have qw26 : w2.cell? ⟨w.heap.size, 6, none⟩ = some (.int .i64 c.t) := (qk.cell (p := ⟨w.heap.size, 6, none⟩) (by first | (simp; done) | (simp; omega) | omega)).trans (by simp [go_sem, *]); have qw27 : w2.cell? ⟨w.heap.size, 7, none⟩ = some (.bool c.g) := (qk.cell (p := ⟨w.heap.size, 7, none⟩) (by first | (simp; done) | (simp; omega) | omega)).trans (by simp [go_sem, *]); have qw28 : w2.cell? ⟨w.heap.size, 8, none⟩ = some (.int .u64 c.a) := (qk.cell (p := ⟨w.heap.size, 8, none⟩) (by first | (simp; done) | (simp; omega) | omega)).trans (by simp [go_sem, *]); have l2 : w.heap.size < w2.heap.size := (by have := qk.size; omega); have B2 := Lib.hid (B1.out.trans (qk.1.mono B1.out.size)); clear qk)
      | (go_at_call 25; (with_reducible refine (HLE.out _).mono ?_); rintro e' w3 ⟨rfl, qk⟩; have HKw3 := Lib.hid qk; have qw30 : w3.cell? ⟨w.heap.size, 0, none⟩ = some (.bool true) := (qk.cell (p := ⟨w.heap.size, 0, none⟩) (by first | (simp; done) | (simp; omega) | omega)).trans (by simp [go_sem, *]); have qw31 : w3.cell? ⟨w.heap.size, 1, none⟩ = some (.int .i64 c.pe) := (qk.cell (p := ⟨w.heap.size, 1, none⟩) (by first | (simp; done) | (simp; omega) | omega)).trans (by simp [go_sem, *]); have qw32 : w3.cell? ⟨w.heap.size, 2, none⟩ = some (.int .i64 c.ty) := (qk.cell (p := ⟨w.heap.size, 2, none⟩) (by first | (simp; done) | (simp; omega) | omega)).trans (by simp [go_sem, *]); have qw33 : w3.cell? ⟨w.heap.size, 3, none⟩ = some (.int .i64 c.mo) := (qk.cell (p := ⟨w.heap.size, 3, none⟩) (by first | (simp; done) | (simp; omega) | omega)).trans (by simp [go_sem, *]); have qw34 : w3.cell? ⟨w.heap.size, 4, none⟩ = some (.int .i64 c.e) := (qk.cell (p := ⟨w.heap.size, 4, none⟩) (by first | (simp; done) | (simp; omega) | omega)).trans (by simp [go_sem, *]); have qw35 : w3.cell? ⟨w.heap.size, 5, none⟩ = some (.int .i64 c.b) := (qk.cell (p := ⟨w.heap.size, 5, none⟩) (by first | (simp; done) | (simp; omega) | omega)).trans (by simp [go_sem, *]); have qw36 : w3.cell? ⟨w.heap.size, 6, none⟩ = some (.int .i64 c.t) := (qk.cell (p := ⟨w.heap.size, 6, none⟩) (by first | (simp; done) | (simp; omega) | omega)).trans (by simp [go_sem, *]); have qw37 : w3.cell? ⟨w.heap.size, 7, none⟩ = some (.bool c.g) := (qk.cell (p := ⟨w.heap.size, 7, none⟩) (by first | (simp; done) | (simp; omega) | omega)).trans (by simp [go_sem, *]); have qw38 : w3.cell? ⟨w.heap.size, 8, none⟩ = some (.int .u64 c.a) := (qk.cell (p := ⟨w.heap.size, 8, none⟩) (by first | (simp; done) | (simp; omega) | omega)).trans (by simp [go_sem, *]); have qw39 : w3.cell? ⟨w2.heap.size, 0, none⟩ = some (.bool true) := (qk.cell (p := ⟨w2.heap.size, 0, none⟩) (by first | (simp; done) | (simp; omega) | omega)).trans (by simp [go_sem, *]); have qw310 : w3.cell? ⟨w2.heap.size, 1, none⟩ = some (.int .i64 65535) := (qk.cell (p := ⟨w2.heap.size, 1, none⟩) (by first | (simp; done) | (simp; omega) | omega)).trans (by simp [go_sem, *]); have qw311 : w3.cell? ⟨w2.heap.size, 2, none⟩ = some (.int .i64 262143) := (qk.cell (p := ⟨w2.heap.size, 2, none⟩) (by first | (simp; done) | (simp; omega) | omega)).trans (by simp [go_sem, *]); have qw312 : w3.cell? ⟨w2.heap.size, 3, none⟩ = some (.int .i64 0) := (qk.cell (p := ⟨w2.heap.size, 3, none⟩) (by first | (simp; done) | (simp; omega) | omega)).trans (by simp [go_sem, *]); have qw313 : w3.cell? ⟨w2.heap.size, 4, none⟩ = some (.int .i64 52) := (qk.cell (p := ⟨w2.heap.size, 4, none⟩) (by first | (simp; done) | (simp; omega) | omega)).trans (by simp [go_sem, *]); have qw314 : w3.cell? ⟨w2.heap.size, 5, none⟩ = some (.int .i64 0) := (qk.cell (p := ⟨w2.heap.size, 5, none⟩) (by first | (simp; done) | (simp; omega) | omega)).trans (by simp [go_sem, *]); have qw315 : w3.cell? ⟨w2.heap.size, 6, none⟩ = some (.int .i64 0) := (qk.cell (p := ⟨w2.heap.size, 6, none⟩) (by first | (simp; done) | (simp; omega) | omega)).trans (by simp [go_sem, *]); have qw316 : w3.cell? ⟨w2.heap.size, 7, none⟩ = some (.bool true) := (qk.cell (p := ⟨w2.heap.size, 7, none⟩) (by first | (simp; done) | (simp; omega) | omega)).trans (by simp [go_sem, *]); have qw317 : w3.cell? ⟨w2.heap.size, 8, none⟩ = some (.int .u64 at') := (qk.cell (p := ⟨w2.heap.size, 8, none⟩) (by first | (simp; done) | (simp; omega) | omega)).trans (by simp [go_sem, *]); have l3 : w2.heap.size + 1 < w3.heap.size := (by have := qk.size; (try simp at this); omega); have l30 : w.heap.size < w3.heap.size := (by omega); have l31 : w2.heap.size < w3.heap.size := (by omega); have B3 := Lib.hid (((B2.out.alloc (by omega) _).alloc (by simp; omega) _).trans (qk.1.mono (by simp; omega))); clear qk))
    have AC : At (w.heap.size) [.bool true, .int .i64 c.pe, .int .i64 c.ty, .int .i64 c.mo, .int .i64 c.e, .int .i64 c.b, .int .i64 c.t, .bool c.g, .int .u64 c.a] (w3.alloc (.cells #[.bool false, .int .i64 65535, .int .i64 262143, .int .i64 0, .int .i64 52, .int .i64 0, .int .i64 0, .bool true, .int .u64 at'] 25)) := (At.of9 (by assumption) (by assumption) (by assumption) (by assumption) (by assumption) (by assumption) (by assumption) (by assumption) (by assumption) : At (w.heap.size) [.bool true, .int .i64 c.pe, .int .i64 c.ty, .int .i64 c.mo, .int .i64 c.e, .int .i64 c.b, .int .i64 c.t, .bool c.g, .int .u64 c.a] w3).alloc _
    have AD : At (w3.heap.size) [.bool false, .int .i64 65535, .int .i64 262143, .int .i64 0, .int .i64 52, .int .i64 0, .int .i64 0, .bool true, .int .u64 at'] (w3.alloc (.cells #[.bool false, .int .i64 65535, .int .i64 262143, .int .i64 0, .int .i64 52, .int .i64 0, .int .i64 0, .bool true, .int .u64 at'] 25)) := At.new' w3 [.bool false, .int .i64 65535, .int .i64 262143, .int .i64 0, .int .i64 52, .int .i64 0, .int .i64 0, .bool true, .int .u64 at'] 25 (by first | rfl | simp)
    have AB : Bl w (w3.heap.size + 1) (w3.alloc (.cells #[.bool false, .int .i64 65535, .int .i64 262143, .int .i64 0, .int .i64 52, .int .i64 0, .int .i64 0, .bool true, .int .u64 at'] 25)) := ⟨B3.out.alloc (by first | omega | (simp; omega)) _, by omega, by simp⟩
    refine wp_region_held_drew (S := (fun w' => At (w.heap.size) [.bool true, .int .i64 c.pe, .int .i64 c.ty, .int .i64 c.mo, .int .i64 c.e, .int .i64 c.b, .int .i64 c.t, .bool c.g, .int .u64 c.a] w' ∧ At (w3.heap.size) [.bool false, .int .i64 65535, .int .i64 262143, .int .i64 0, .int .i64 52, .int .i64 0, .int .i64 0, .bool true, .int .u64 at'] w' ∧ Bl w (w3.heap.size + 1) w')) (by kernel_rfl) ⟨At.drew (by with_reducible assumption), At.drew (by with_reducible assumption), Bl.drew (by with_reducible assumption)⟩ (fun hS => ?_)
    generalize hgw : (w3.alloc (.cells #[.bool false, .int .i64 65535, .int .i64 262143, .int .i64 0, .int .i64 52, .int .i64 0, .int .i64 0, .bool true, .int .u64 at'] 25)).drew = g0 at hS ⊢
    clear hgw
    try simp only [Act.put, zA, zB, zC]
    (refine tk 0 ?_ rfl (Or.inl ⟨by rfl, ?_⟩) hS ?_; rotate_left; focus (intro w' hSw; obtain ⟨s0, s1, sb⟩ := hSw; obtain ⟨_, _, _, _, _, _, _, _, _⟩ := s0.out9; obtain ⟨_, _, _, _, _, _, _, _, _⟩ := s1.out9; go_simp <;> try with_reducible rfl))
    try simp only [Act.put, zA, zB, zC]
    (refine tk 1 ?_ rfl (Or.inl ⟨by rfl, ?_⟩) hS ?_; rotate_left; focus (intro w' hSw; obtain ⟨s0, s1, sb⟩ := hSw; go_simp <;> try with_reducible rfl))
    try simp only [Act.put, zA, zB, zC]
    (refine tk 4 ?_ rfl (Or.inl ⟨by rfl, ?_⟩) hS ?_; rotate_left; focus (intro w' hSw; obtain ⟨s0, s1, sb⟩ := hSw; obtain ⟨_, _, _, _, _, _, _, _, _⟩ := s0.out9; obtain ⟨_, _, _, _, _, _, _, _, _⟩ := s1.out9; go_simp <;> try with_reducible rfl))
    try simp only [Act.put, zA, zB, zC]
    (refine tk 6 ?_ rfl (Or.inl ⟨by rfl, ?_⟩) hS ?_; rotate_left; focus (intro w' hSw; obtain ⟨s0, s1, sb⟩ := hSw; go_simp <;> try with_reducible rfl))
    try simp only [Act.put, zA, zB, zC]
    (refine tk 7 ?_ rfl (Or.inl ⟨by rfl, ?_⟩) hS ?_; rotate_left; focus (intro w' hSw; obtain ⟨s0, s1, sb⟩ := hSw; obtain ⟨_, _, _, _, _, _, _, _, _⟩ := s0.out9; obtain ⟨_, _, _, _, _, _, _, _, _⟩ := s1.out9; go_simp <;> try with_reducible rfl))
    try simp only [Act.put, zA, zB, zC]
    (refine tk 8 ?_ rfl (Or.inl ⟨by rfl, ?_⟩) hS ?_; rotate_left; focus (intro w' hSw; obtain ⟨s0, s1, sb⟩ := hSw; go_simp <;> try with_reducible rfl))
    try simp only [Act.put, zA, zB, zC]
    refine rdy 2 rfl (fun K hK => ?_)
    refine take_if (by rfl) ?_
    obtain ⟨s0, s1, sb⟩ := hS
    go_simp
    (with_reducible refine (HNU.out _).mono ?_)
    rintro e' g2 ⟨rfl, hb⟩
    have t0 := sb.at_ hb s0 (show w.heap.size < w3.heap.size + 1 by omega)
    have t1 := sb.at_ hb s1 (show w3.heap.size < w3.heap.size + 1 by omega)
    refine hK.out _ _ ⟨t0, t1, (sb.step hb)⟩ (fun hS => ?_)
    clear hK K hb s0 t0 s1 t1 sb
    try simp only [Act.put, zA, zB, zC]
    refine rdy 3 rfl (fun K hK => ?_)
    refine take_if (by rfl) ?_
    obtain ⟨s0, s1, sb⟩ := hS
    go_simp
    refine hK.out _ _ ⟨(At.alloc s0 _), (At.alloc s1 _), (Bl.alloc sb _)⟩ (fun hS => ?_)
    clear hK K
    try simp only [Act.put, zA, zB, zC]
    have r3 : Rd (g2.alloc (.cells #[.bool false, .int .i64 65535, .int .i64 262143, .int .i64 0, .int .i64 52, .int .i64 0, .int .i64 0, .bool true, .int .u64 at', .bool false, .int .i64 0, .int .i64 262143, .int .i64 0, .int .i64 52, .int .i64 0, .int .i64 0, .bool true, .int .u64 at'] 25)) (g2.alloc (.cells #[.bool false, .int .i64 65535, .int .i64 262143, .int .i64 0, .int .i64 52, .int .i64 0, .int .i64 0, .bool true, .int .u64 at', .bool false, .int .i64 0, .int .i64 262143, .int .i64 0, .int .i64 52, .int .i64 0, .int .i64 0, .bool true, .int .u64 at'] 25)).heap.size (some ⟨g2.heap.size, 0, none⟩) [mvC (kRoot at') at' false, ⟨false, 0, 262143, 0, 52, 0, 0, true, at'⟩] := rd_new [mvC (kRoot at') at' false, ⟨false, 0, 262143, 0, 52, 0, 0, true, at'⟩] g2
    generalize hgw : (g2.alloc (.cells #[.bool false, .int .i64 65535, .int .i64 262143, .int .i64 0, .int .i64 52, .int .i64 0, .int .i64 0, .bool true, .int .u64 at', .bool false, .int .i64 0, .int .i64 262143, .int .i64 0, .int .i64 52, .int .i64 0, .int .i64 0, .bool true, .int .u64 at'] 25)) = g3 at hS r3 ⊢
    clear hgw
    refine rdy 5 rfl (fun K hK => ?_)
    refine take_if (by rfl) ?_
    obtain ⟨s0, s1, sb⟩ := hS
    go_simp
    (with_reducible refine (HH2.out _ _ _ r3).mono ?_)
    rintro e' g5 ⟨rfl, hb⟩
    have t0 := sb.at_ hb s0 (show w.heap.size < w3.heap.size + 1 by omega)
    have t1 := sb.at_ hb s1 (show w3.heap.size < w3.heap.size + 1 by omega)
    have r3 := r3.below hb (Nat.le_refl _)
    refine hK.out _ _ ⟨t0, t1, (sb.step hb)⟩ (fun hS => ?_)
    clear hK K hb s0 t0 s1 t1 sb
    try simp only [Act.put, zA, zB, zC]
    clear r3
    (refine tk 9 ?_ rfl (Or.inl ⟨by rfl, ?_⟩) hS ?_; rotate_left; focus (intro w' hSw; obtain ⟨s0, s1, sb⟩ := hSw; go_simp <;> try with_reducible rfl))
    try simp only [Act.put, zA, zB, zC]
    (refine tk 10 ?_ rfl (Or.inl ⟨by rfl, ?_⟩) hS ?_; rotate_left; focus (intro w' hSw; obtain ⟨s0, s1, sb⟩ := hSw; go_simp <;> try with_reducible rfl))
    try simp only [Act.put, zA, zB, zC]
    refine rdy 11 rfl (fun K hK => ?_)
    refine take_if (by rfl) ?_
    obtain ⟨s0, s1, sb⟩ := hS
    go_simp
    (with_reducible refine (works_w _).mono ?_)
    rintro e' g11 ⟨rfl, hb⟩
    have t0 := sb.at_ hb s0 (show w.heap.size < w3.heap.size + 1 by omega)
    have t1 := sb.at_ hb s1 (show w3.heap.size < w3.heap.size + 1 by omega)
    refine hK.out _ _ ⟨t0, t1, (sb.step hb)⟩ (fun hS => ?_)
    clear hK K hb s0 t0 s1 t1 sb
    try simp only [Act.put, zA, zB, zC]
    (refine tk 12 ?_ rfl (Or.inl ⟨by rfl, ?_⟩) hS ?_; rotate_left; focus (intro w' hSw; obtain ⟨s0, s1, sb⟩ := hSw; go_simp <;> try with_reducible rfl))
    try simp only [Act.put, zA, zB, zC]
    (refine tk 13 ?_ rfl (Or.inl ⟨by rfl, ?_⟩) hS ?_; rotate_left; focus (intro w' hSw; obtain ⟨s0, s1, sb⟩ := hSw; go_simp <;> try with_reducible rfl))
    try simp only [Act.put, zA, zB, zC]
    refine wpAnyH_done (by kernel_rfl) ?_ _
    obtain ⟨s0, s1, sb⟩ := hS
    go_wp2
    go_ret
    exact ⟨rfl, sb.bl⟩
set_option maxHeartbeats 2000000 in
set_option maxRecDepth 100000 in
theorem roots_2 (c : Cp) (at' : Int) (rc : RC c) (rw : Raw c) (hr : rightC c = true) (a0 : 0 ≤ at') (a1 : at' < 18446744073709551616) (h0 : c.tg = true) (h1 : lessB (uns c) (kRoot at') = true) (w : World) :
    Calls Try.prog 11 #[.agg #[.bool true, .int .i64 c.pe, .int .i64 c.ty, .int .i64 c.mo, .int .i64 c.e, .int .i64 c.b, .int .i64 c.t, .bool c.g, .int .u64 c.a], .int .u64 at'] w fun e' w' => e' = .returned (.bool true) ∧ Below w.heap.size w w' := by
  have HRT : Hid (∀ w1 : World, Calls Try.prog 21 #[.agg #[.bool true, .int .i64 c.pe, .int .i64 c.ty, .int .i64 c.mo, .int .i64 c.e, .int .i64 c.b, .int .i64 c.t, .bool c.g, .int .u64 c.a]] w1 fun e' w' => e' = .returned (.bool true) ∧ Kp w1 w') := Lib.hid (fun w1 => by have := right_c c rw true hr w1; rw [h0] at this; exact this)
  have HRO : Hid (∀ w1 : World, Calls Try.prog 4 #[.int .i64 0, .int .u64 at'] w1 fun e' w' => e' = .returned (.agg #[.bool true, .int .i64 65535, .int .i64 262143, .int .i64 0, .int .i64 52, .int .i64 0, .int .i64 0, .bool true, .int .u64 at']) ∧ Kp w1 w') := Lib.hid (fun w1 => root_m 0 at' w1)
  have HNU : Hid (∀ w1 : World, Calls Try.prog 6 #[.int .u64 at'] w1 fun e' w' => e' = .returned (.agg #[.bool false, .int .i64 0, .int .i64 262143, .int .i64 0, .int .i64 52, .int .i64 0, .int .i64 0, .bool true, .int .u64 at']) ∧ Below w1.heap.size w1 w') := Lib.hid (fun w1 => kb (number_w at' w1))
  have HD : Hid (∀ w1 : World, Rd (w1.alloc (.cells #[.bool false, .int .i64 65535, .int .i64 262143, .int .i64 0, .int .i64 52, .int .i64 0, .int .i64 0, .bool true, .int .u64 at', .bool false, .int .i64 0, .int .i64 262143, .int .i64 0, .int .i64 52, .int .i64 0, .int .i64 0, .bool true, .int .u64 at'] 25)) (w1.alloc (.cells #[.bool false, .int .i64 65535, .int .i64 262143, .int .i64 0, .int .i64 52, .int .i64 0, .int .i64 0, .bool true, .int .u64 at', .bool false, .int .i64 0, .int .i64 262143, .int .i64 0, .int .i64 52, .int .i64 0, .int .i64 0, .bool true, .int .u64 at'] 25)).heap.size (some ⟨w1.heap.size, 0, none⟩) [mvC (kRoot at') at' false, ⟨false, 0, 262143, 0, 52, 0, 0, true, at'⟩]) := Lib.hid (fun w1 => rd_new [mvC (kRoot at') at' false, ⟨false, 0, 262143, 0, 52, 0, 0, true, at'⟩] w1)
  have rcN : RC ⟨false, 0, 262143, 0, 52, 0, 0, true, at'⟩ := ⟨by show (0:Int) ≤ 0; decide, by show (0:Int) < 65536; decide, by show (0:Int) ≤ 262143; decide, by show (262143:Int) < 262144; decide, by show (0:Int) ≤ 0; decide, by show (0:Int) < 2; decide, (rc_root at' a0 a1).f⟩
  have HH2 : Hid (∀ (A : Option Addr) (n : Nat) (w1 : World), Rd w1 w1.heap.size A [mvC (kRoot at') at' false, ⟨false, 0, 262143, 0, 52, 0, 0, true, at'⟩] → Calls Try.prog 27 #[.slice A 2 n, .agg #[.bool true, .int .i64 c.pe, .int .i64 c.ty, .int .i64 c.mo, .int .i64 c.e, .int .i64 c.b, .int .i64 c.t, .bool c.g, .int .u64 c.a]] w1 fun e' w' => e' = .returned (.bool false) ∧ Below w1.heap.size w1 w') := Lib.hid (fun A n w1 h => by
    have := has_w [mvC (kRoot at') at' false, ⟨false, 0, 262143, 0, 52, 0, 0, true, at'⟩] A n c (by intro d hd; simp at hd; rcases hd with rfl | rfl; exact (rc_root at' a0 a1).mv a0 a1 false; exact rcN) (by simp) rc false (by rw [has_not _ _ (by intro x hx; simp at hx; rcases hx with rfl | rfl <;> rfl), h0]; rfl) w1 h
    rw [h0] at this; exact this)
  have HLE : Hid (∀ w1 : World, Calls Try.prog 25 #[.agg #[.bool true, .int .i64 c.pe, .int .i64 262143, .int .i64 c.mo, .int .i64 c.e, .int .i64 c.b, .int .i64 c.t, .bool c.g, .int .u64 c.a], .agg #[.bool true, .int .i64 65535, .int .i64 262143, .int .i64 0, .int .i64 52, .int .i64 0, .int .i64 0, .bool true, .int .u64 at']] w1 fun e' w' => e' = .returned (.bool true) ∧ Kp w1 w') := Lib.hid (fun w1 => by
    have := less_o (uns c) (kRoot at') rc.uns (rc_root at' a0 a1) true h1 w1
    rw [show (uns c).tg = true from h0] at this; exact this)
  obtain ⟨hv, hh⟩ : ∃ hv, hasB [kRoot at'] c = hv := ⟨_, rfl⟩
  have HR1 : Hid (∀ w1 : World, Rd (w1.alloc (.cells #[.bool true, .int .i64 65535, .int .i64 262143, .int .i64 0, .int .i64 52, .int .i64 0, .int .i64 0, .bool true, .int .u64 at'] 25)) (w1.alloc (.cells #[.bool true, .int .i64 65535, .int .i64 262143, .int .i64 0, .int .i64 52, .int .i64 0, .int .i64 0, .bool true, .int .u64 at'] 25)).heap.size (some ⟨w1.heap.size, 0, none⟩) [kRoot at']) := Lib.hid (fun w1 => rd_new [kRoot at'] w1)
  have HH1 : Hid (∀ (A : Option Addr) (n : Nat) (w1 : World), Rd w1 w1.heap.size A [kRoot at'] → Calls Try.prog 27 #[.slice A 1 n, .agg #[.bool true, .int .i64 c.pe, .int .i64 c.ty, .int .i64 c.mo, .int .i64 c.e, .int .i64 c.b, .int .i64 c.t, .bool c.g, .int .u64 c.a]] w1 fun e' w' => e' = .returned (.bool hv) ∧ Below w1.heap.size w1 w') := Lib.hid (fun A n w1 h => by
    have := has_w [kRoot at'] A n c (by intro d hd; simp at hd; subst hd; exact rc_root at' a0 a1) (by simp) rc hv hh w1 h
    rw [h0] at this; exact this)
  have WAY := root_ways c at' rc a0 a1 h0 h1 hv hh
  clear rc rw hr h1 h0 rcN hh
  rcases WAY with ⟨g1, rfl⟩ | ⟨g1, g2, rfl⟩ | ⟨g1, g2, g3, g4, rfl⟩ | ⟨g1, g2, g3, g4, rfl⟩ | ⟨g1, g2, g3, rfl⟩
  all_goals
    go_enter Try.func11, Try.ntmps11
    go_upto_region 11 with (first
      | (go_at_call 21; (with_reducible refine (HRT.out _).mono ?_); rintro e' w1 ⟨rfl, qk⟩; have HKw1 := Lib.hid qk; have qw10 : w1.cell? ⟨w.heap.size, 0, none⟩ = some (.bool true) := (qk.cell (p := ⟨w.heap.size, 0, none⟩) (by first | (simp; done) | (simp; omega) | omega)).trans (by simp [go_sem, *]); have qw11 : w1.cell? ⟨w.heap.size, 1, none⟩ = some (.int .i64 c.pe) := (qk.cell (p := ⟨w.heap.size, 1, none⟩) (by first | (simp; done) | (simp; omega) | omega)).trans (by simp [go_sem, *]); have qw12 : w1.cell? ⟨w.heap.size, 2, none⟩ = some (.int .i64 c.ty) := (qk.cell (p := ⟨w.heap.size, 2, none⟩) (by first | (simp; done) | (simp; omega) | omega)).trans (by simp [go_sem, *]); have qw13 : w1.cell? ⟨w.heap.size, 3, none⟩ = some (.int .i64 c.mo) := (qk.cell (p := ⟨w.heap.size, 3, none⟩) (by first | (simp; done) | (simp; omega) | omega)).trans (by simp [go_sem, *]); have qw14 : w1.cell? ⟨w.heap.size, 4, none⟩ = some (.int .i64 c.e) := (qk.cell (p := ⟨w.heap.size, 4, none⟩) (by first | (simp; done) | (simp; omega) | omega)).trans (by simp [go_sem, *]); have qw15 : w1.cell? ⟨w.heap.size, 5, none⟩ = some (.int .i64 c.b) := (qk.cell (p := ⟨w.heap.size, 5, none⟩) (by first | (simp; done) | (simp; omega) | omega)).trans (by simp [go_sem, *]); have qw16 : w1.cell? ⟨w.heap.size, 6, none⟩ = some (.int .i64 c.t) := (qk.cell (p := ⟨w.heap.size, 6, none⟩) (by first | (simp; done) | (simp; omega) | omega)).trans (by simp [go_sem, *]); have qw17 : w1.cell? ⟨w.heap.size, 7, none⟩ = some (.bool c.g) := (qk.cell (p := ⟨w.heap.size, 7, none⟩) (by first | (simp; done) | (simp; omega) | omega)).trans (by simp [go_sem, *]); have qw18 : w1.cell? ⟨w.heap.size, 8, none⟩ = some (.int .u64 c.a) := (qk.cell (p := ⟨w.heap.size, 8, none⟩) (by first | (simp; done) | (simp; omega) | omega)).trans (by simp [go_sem, *]); have l1 : w.heap.size < w1.heap.size := (by have := qk.size; (try simp at this); omega); have B1 := Lib.hid (((Kp.refl w).allocs _ _).trans qk).1; clear qk)
      | (go_at_call 4; (with_reducible refine (HRO.out _).mono ?_); rintro e' w2 ⟨rfl, qk⟩; have HKw2 := Lib.hid qk; have qw20 : w2.cell? ⟨w.heap.size, 0, none⟩ = some (.bool true) := (qk.cell (p := ⟨w.heap.size, 0, none⟩) (by first | (simp; done) | (simp; omega) | omega)).trans (by simp [go_sem, *]); have qw21 : w2.cell? ⟨w.heap.size, 1, none⟩ = some (.int .i64 c.pe) := (qk.cell (p := ⟨w.heap.size, 1, none⟩) (by first | (simp; done) | (simp; omega) | omega)).trans (by simp [go_sem, *]); have qw22 : w2.cell? ⟨w.heap.size, 2, none⟩ = some (.int .i64 c.ty) := (qk.cell (p := ⟨w.heap.size, 2, none⟩) (by first | (simp; done) | (simp; omega) | omega)).trans (by simp [go_sem, *]); have qw23 : w2.cell? ⟨w.heap.size, 3, none⟩ = some (.int .i64 c.mo) := (qk.cell (p := ⟨w.heap.size, 3, none⟩) (by first | (simp; done) | (simp; omega) | omega)).trans (by simp [go_sem, *]); have qw24 : w2.cell? ⟨w.heap.size, 4, none⟩ = some (.int .i64 c.e) := (qk.cell (p := ⟨w.heap.size, 4, none⟩) (by first | (simp; done) | (simp; omega) | omega)).trans (by simp [go_sem, *]); have qw25 : w2.cell? ⟨w.heap.size, 5, none⟩ = some (.int .i64 c.b) := (qk.cell (p := ⟨w.heap.size, 5, none⟩) (by first | (simp; done) | (simp; omega) | omega)).trans (by simp [go_sem, *]); have qw26 : w2.cell? ⟨w.heap.size, 6, none⟩ = some (.int .i64 c.t) := (qk.cell (p := ⟨w.heap.size, 6, none⟩) (by first | (simp; done) | (simp; omega) | omega)).trans (by simp [go_sem, *]); have qw27 : w2.cell? ⟨w.heap.size, 7, none⟩ = some (.bool c.g) := (qk.cell (p := ⟨w.heap.size, 7, none⟩) (by first | (simp; done) | (simp; omega) | omega)).trans (by simp [go_sem, *]); have qw28 : w2.cell? ⟨w.heap.size, 8, none⟩ = some (.int .u64 c.a) := (qk.cell (p := ⟨w.heap.size, 8, none⟩) (by first | (simp; done) | (simp; omega) | omega)).trans (by simp [go_sem, *]); have l2 : w.heap.size < w2.heap.size := (by have := qk.size; omega); have B2 := Lib.hid (B1.out.trans (qk.1.mono B1.out.size)); clear qk)
      | (go_at_call 25; (with_reducible refine (HLE.out _).mono ?_); rintro e' w3 ⟨rfl, qk⟩; have HKw3 := Lib.hid qk; have qw30 : w3.cell? ⟨w.heap.size, 0, none⟩ = some (.bool true) := (qk.cell (p := ⟨w.heap.size, 0, none⟩) (by first | (simp; done) | (simp; omega) | omega)).trans (by simp [go_sem, *]); have qw31 : w3.cell? ⟨w.heap.size, 1, none⟩ = some (.int .i64 c.pe) := (qk.cell (p := ⟨w.heap.size, 1, none⟩) (by first | (simp; done) | (simp; omega) | omega)).trans (by simp [go_sem, *]); have qw32 : w3.cell? ⟨w.heap.size, 2, none⟩ = some (.int .i64 c.ty) := (qk.cell (p := ⟨w.heap.size, 2, none⟩) (by first | (simp; done) | (simp; omega) | omega)).trans (by simp [go_sem, *]); have qw33 : w3.cell? ⟨w.heap.size, 3, none⟩ = some (.int .i64 c.mo) := (qk.cell (p := ⟨w.heap.size, 3, none⟩) (by first | (simp; done) | (simp; omega) | omega)).trans (by simp [go_sem, *]); have qw34 : w3.cell? ⟨w.heap.size, 4, none⟩ = some (.int .i64 c.e) := (qk.cell (p := ⟨w.heap.size, 4, none⟩) (by first | (simp; done) | (simp; omega) | omega)).trans (by simp [go_sem, *]); have qw35 : w3.cell? ⟨w.heap.size, 5, none⟩ = some (.int .i64 c.b) := (qk.cell (p := ⟨w.heap.size, 5, none⟩) (by first | (simp; done) | (simp; omega) | omega)).trans (by simp [go_sem, *]); have qw36 : w3.cell? ⟨w.heap.size, 6, none⟩ = some (.int .i64 c.t) := (qk.cell (p := ⟨w.heap.size, 6, none⟩) (by first | (simp; done) | (simp; omega) | omega)).trans (by simp [go_sem, *]); have qw37 : w3.cell? ⟨w.heap.size, 7, none⟩ = some (.bool c.g) := (qk.cell (p := ⟨w.heap.size, 7, none⟩) (by first | (simp; done) | (simp; omega) | omega)).trans (by simp [go_sem, *]); have qw38 : w3.cell? ⟨w.heap.size, 8, none⟩ = some (.int .u64 c.a) := (qk.cell (p := ⟨w.heap.size, 8, none⟩) (by first | (simp; done) | (simp; omega) | omega)).trans (by simp [go_sem, *]); have qw39 : w3.cell? ⟨w2.heap.size, 0, none⟩ = some (.bool true) := (qk.cell (p := ⟨w2.heap.size, 0, none⟩) (by first | (simp; done) | (simp; omega) | omega)).trans (by simp [go_sem, *]); have qw310 : w3.cell? ⟨w2.heap.size, 1, none⟩ = some (.int .i64 65535) := (qk.cell (p := ⟨w2.heap.size, 1, none⟩) (by first | (simp; done) | (simp; omega) | omega)).trans (by simp [go_sem, *]); have qw311 : w3.cell? ⟨w2.heap.size, 2, none⟩ = some (.int .i64 262143) := (qk.cell (p := ⟨w2.heap.size, 2, none⟩) (by first | (simp; done) | (simp; omega) | omega)).trans (by simp [go_sem, *]); have qw312 : w3.cell? ⟨w2.heap.size, 3, none⟩ = some (.int .i64 0) := (qk.cell (p := ⟨w2.heap.size, 3, none⟩) (by first | (simp; done) | (simp; omega) | omega)).trans (by simp [go_sem, *]); have qw313 : w3.cell? ⟨w2.heap.size, 4, none⟩ = some (.int .i64 52) := (qk.cell (p := ⟨w2.heap.size, 4, none⟩) (by first | (simp; done) | (simp; omega) | omega)).trans (by simp [go_sem, *]); have qw314 : w3.cell? ⟨w2.heap.size, 5, none⟩ = some (.int .i64 0) := (qk.cell (p := ⟨w2.heap.size, 5, none⟩) (by first | (simp; done) | (simp; omega) | omega)).trans (by simp [go_sem, *]); have qw315 : w3.cell? ⟨w2.heap.size, 6, none⟩ = some (.int .i64 0) := (qk.cell (p := ⟨w2.heap.size, 6, none⟩) (by first | (simp; done) | (simp; omega) | omega)).trans (by simp [go_sem, *]); have qw316 : w3.cell? ⟨w2.heap.size, 7, none⟩ = some (.bool true) := (qk.cell (p := ⟨w2.heap.size, 7, none⟩) (by first | (simp; done) | (simp; omega) | omega)).trans (by simp [go_sem, *]); have qw317 : w3.cell? ⟨w2.heap.size, 8, none⟩ = some (.int .u64 at') := (qk.cell (p := ⟨w2.heap.size, 8, none⟩) (by first | (simp; done) | (simp; omega) | omega)).trans (by simp [go_sem, *]); have l3 : w2.heap.size + 1 < w3.heap.size := (by have := qk.size; (try simp at this); omega); have l30 : w.heap.size < w3.heap.size := (by omega); have l31 : w2.heap.size < w3.heap.size := (by omega); have B3 := Lib.hid (((B2.out.alloc (by omega) _).alloc (by simp; omega) _).trans (qk.1.mono (by simp; omega))); clear qk)
      | (go_at_call 27; (with_reducible refine (HH1.out _ _ _ (HR1.out w3)).mono ?_); rintro e' w4 ⟨rfl, qk⟩; have HKw4 := Lib.hid qk; have qw40 : w4.cell? ⟨w.heap.size, 0, none⟩ = some (.bool true) := (qk.cell (p := ⟨w.heap.size, 0, none⟩) (by first | (simp; done) | (simp; omega) | omega)).trans (by simp [go_sem, *]); have qw41 : w4.cell? ⟨w.heap.size, 1, none⟩ = some (.int .i64 c.pe) := (qk.cell (p := ⟨w.heap.size, 1, none⟩) (by first | (simp; done) | (simp; omega) | omega)).trans (by simp [go_sem, *]); have qw42 : w4.cell? ⟨w.heap.size, 2, none⟩ = some (.int .i64 c.ty) := (qk.cell (p := ⟨w.heap.size, 2, none⟩) (by first | (simp; done) | (simp; omega) | omega)).trans (by simp [go_sem, *]); have qw43 : w4.cell? ⟨w.heap.size, 3, none⟩ = some (.int .i64 c.mo) := (qk.cell (p := ⟨w.heap.size, 3, none⟩) (by first | (simp; done) | (simp; omega) | omega)).trans (by simp [go_sem, *]); have qw44 : w4.cell? ⟨w.heap.size, 4, none⟩ = some (.int .i64 c.e) := (qk.cell (p := ⟨w.heap.size, 4, none⟩) (by first | (simp; done) | (simp; omega) | omega)).trans (by simp [go_sem, *]); have qw45 : w4.cell? ⟨w.heap.size, 5, none⟩ = some (.int .i64 c.b) := (qk.cell (p := ⟨w.heap.size, 5, none⟩) (by first | (simp; done) | (simp; omega) | omega)).trans (by simp [go_sem, *]); have qw46 : w4.cell? ⟨w.heap.size, 6, none⟩ = some (.int .i64 c.t) := (qk.cell (p := ⟨w.heap.size, 6, none⟩) (by first | (simp; done) | (simp; omega) | omega)).trans (by simp [go_sem, *]); have qw47 : w4.cell? ⟨w.heap.size, 7, none⟩ = some (.bool c.g) := (qk.cell (p := ⟨w.heap.size, 7, none⟩) (by first | (simp; done) | (simp; omega) | omega)).trans (by simp [go_sem, *]); have qw48 : w4.cell? ⟨w.heap.size, 8, none⟩ = some (.int .u64 c.a) := (qk.cell (p := ⟨w.heap.size, 8, none⟩) (by first | (simp; done) | (simp; omega) | omega)).trans (by simp [go_sem, *]); have qw49 : w4.cell? ⟨w2.heap.size, 0, none⟩ = some (.bool true) := (qk.cell (p := ⟨w2.heap.size, 0, none⟩) (by first | (simp; done) | (simp; omega) | omega)).trans (by simp [go_sem, *]); have qw410 : w4.cell? ⟨w2.heap.size, 1, none⟩ = some (.int .i64 65535) := (qk.cell (p := ⟨w2.heap.size, 1, none⟩) (by first | (simp; done) | (simp; omega) | omega)).trans (by simp [go_sem, *]); have qw411 : w4.cell? ⟨w2.heap.size, 2, none⟩ = some (.int .i64 262143) := (qk.cell (p := ⟨w2.heap.size, 2, none⟩) (by first | (simp; done) | (simp; omega) | omega)).trans (by simp [go_sem, *]); have qw412 : w4.cell? ⟨w2.heap.size, 3, none⟩ = some (.int .i64 0) := (qk.cell (p := ⟨w2.heap.size, 3, none⟩) (by first | (simp; done) | (simp; omega) | omega)).trans (by simp [go_sem, *]); have qw413 : w4.cell? ⟨w2.heap.size, 4, none⟩ = some (.int .i64 52) := (qk.cell (p := ⟨w2.heap.size, 4, none⟩) (by first | (simp; done) | (simp; omega) | omega)).trans (by simp [go_sem, *]); have qw414 : w4.cell? ⟨w2.heap.size, 5, none⟩ = some (.int .i64 0) := (qk.cell (p := ⟨w2.heap.size, 5, none⟩) (by first | (simp; done) | (simp; omega) | omega)).trans (by simp [go_sem, *]); have qw415 : w4.cell? ⟨w2.heap.size, 6, none⟩ = some (.int .i64 0) := (qk.cell (p := ⟨w2.heap.size, 6, none⟩) (by first | (simp; done) | (simp; omega) | omega)).trans (by simp [go_sem, *]); have qw416 : w4.cell? ⟨w2.heap.size, 7, none⟩ = some (.bool true) := (qk.cell (p := ⟨w2.heap.size, 7, none⟩) (by first | (simp; done) | (simp; omega) | omega)).trans (by simp [go_sem, *]); have qw417 : w4.cell? ⟨w2.heap.size, 8, none⟩ = some (.int .u64 at') := (qk.cell (p := ⟨w2.heap.size, 8, none⟩) (by first | (simp; done) | (simp; omega) | omega)).trans (by simp [go_sem, *]); have l4 : w3.heap.size < w4.heap.size := (by have := qk.size; (try simp at this); omega); have l40 : w.heap.size < w4.heap.size := (by omega); have l41 : w2.heap.size < w4.heap.size := (by omega); have B4 := Lib.hid ((B3.out.alloc (by omega) _).trans (qk.mono (by simp; omega))); clear qk))
    have AC : At (w.heap.size) [.bool true, .int .i64 c.pe, .int .i64 c.ty, .int .i64 c.mo, .int .i64 c.e, .int .i64 c.b, .int .i64 c.t, .bool c.g, .int .u64 c.a] (w4.alloc (.cells #[.bool false, .int .i64 65535, .int .i64 262143, .int .i64 0, .int .i64 52, .int .i64 0, .int .i64 0, .bool true, .int .u64 at'] 25)) := (At.of9 (by assumption) (by assumption) (by assumption) (by assumption) (by assumption) (by assumption) (by assumption) (by assumption) (by assumption) : At (w.heap.size) [.bool true, .int .i64 c.pe, .int .i64 c.ty, .int .i64 c.mo, .int .i64 c.e, .int .i64 c.b, .int .i64 c.t, .bool c.g, .int .u64 c.a] w4).alloc _
    have AD : At (w4.heap.size) [.bool false, .int .i64 65535, .int .i64 262143, .int .i64 0, .int .i64 52, .int .i64 0, .int .i64 0, .bool true, .int .u64 at'] (w4.alloc (.cells #[.bool false, .int .i64 65535, .int .i64 262143, .int .i64 0, .int .i64 52, .int .i64 0, .int .i64 0, .bool true, .int .u64 at'] 25)) := At.new' w4 [.bool false, .int .i64 65535, .int .i64 262143, .int .i64 0, .int .i64 52, .int .i64 0, .int .i64 0, .bool true, .int .u64 at'] 25 (by first | rfl | simp)
    have AB : Bl w (w4.heap.size + 1) (w4.alloc (.cells #[.bool false, .int .i64 65535, .int .i64 262143, .int .i64 0, .int .i64 52, .int .i64 0, .int .i64 0, .bool true, .int .u64 at'] 25)) := ⟨B4.out.alloc (by first | omega | (simp; omega)) _, by omega, by simp⟩
    refine wp_region_held_drew (S := (fun w' => At (w.heap.size) [.bool true, .int .i64 c.pe, .int .i64 c.ty, .int .i64 c.mo, .int .i64 c.e, .int .i64 c.b, .int .i64 c.t, .bool c.g, .int .u64 c.a] w' ∧ At (w4.heap.size) [.bool false, .int .i64 65535, .int .i64 262143, .int .i64 0, .int .i64 52, .int .i64 0, .int .i64 0, .bool true, .int .u64 at'] w' ∧ Bl w (w4.heap.size + 1) w')) (by kernel_rfl) ⟨At.drew (by with_reducible assumption), At.drew (by with_reducible assumption), Bl.drew (by with_reducible assumption)⟩ (fun hS => ?_)
    generalize hgw : (w4.alloc (.cells #[.bool false, .int .i64 65535, .int .i64 262143, .int .i64 0, .int .i64 52, .int .i64 0, .int .i64 0, .bool true, .int .u64 at'] 25)).drew = g0 at hS ⊢
    clear hgw
    try simp only [Act.put, zA, zB, zC]
    (refine tk 0 ?_ rfl (Or.inl ⟨by rfl, ?_⟩) hS ?_; rotate_left; focus (intro w' hSw; obtain ⟨s0, s1, sb⟩ := hSw; obtain ⟨_, _, _, _, _, _, _, _, _⟩ := s0.out9; obtain ⟨_, _, _, _, _, _, _, _, _⟩ := s1.out9; go_simp <;> try with_reducible rfl))
    try simp only [Act.put, zA, zB, zC]
    (refine tk 1 ?_ rfl (Or.inl ⟨by rfl, ?_⟩) hS ?_; rotate_left; focus (intro w' hSw; obtain ⟨s0, s1, sb⟩ := hSw; go_simp <;> try with_reducible rfl))
    try simp only [Act.put, zA, zB, zC]
    (refine tk 4 ?_ rfl (Or.inl ⟨by rfl, ?_⟩) hS ?_; rotate_left; focus (intro w' hSw; obtain ⟨s0, s1, sb⟩ := hSw; obtain ⟨_, _, _, _, _, _, _, _, _⟩ := s0.out9; obtain ⟨_, _, _, _, _, _, _, _, _⟩ := s1.out9; go_simp <;> try with_reducible rfl))
    try simp only [Act.put, zA, zB, zC]
    (refine tk 6 ?_ rfl (Or.inl ⟨by rfl, ?_⟩) hS ?_; rotate_left; focus (intro w' hSw; obtain ⟨s0, s1, sb⟩ := hSw; go_simp <;> try with_reducible rfl))
    try simp only [Act.put, zA, zB, zC]
    (refine tk 7 ?_ rfl (Or.inl ⟨by rfl, ?_⟩) hS ?_; rotate_left; focus (intro w' hSw; obtain ⟨s0, s1, sb⟩ := hSw; obtain ⟨_, _, _, _, _, _, _, _, _⟩ := s0.out9; obtain ⟨_, _, _, _, _, _, _, _, _⟩ := s1.out9; go_simp <;> try with_reducible rfl))
    try simp only [Act.put, zA, zB, zC]
    (refine tk 8 ?_ rfl (Or.inl ⟨by rfl, ?_⟩) hS ?_; rotate_left; focus (intro w' hSw; obtain ⟨s0, s1, sb⟩ := hSw; go_simp <;> try with_reducible rfl))
    try simp only [Act.put, zA, zB, zC]
    refine rdy 2 rfl (fun K hK => ?_)
    refine take_if (by rfl) ?_
    obtain ⟨s0, s1, sb⟩ := hS
    go_simp
    (with_reducible refine (HNU.out _).mono ?_)
    rintro e' g2 ⟨rfl, hb⟩
    have t0 := sb.at_ hb s0 (show w.heap.size < w4.heap.size + 1 by omega)
    have t1 := sb.at_ hb s1 (show w4.heap.size < w4.heap.size + 1 by omega)
    refine hK.out _ _ ⟨t0, t1, (sb.step hb)⟩ (fun hS => ?_)
    clear hK K hb s0 t0 s1 t1 sb
    try simp only [Act.put, zA, zB, zC]
    refine rdy 3 rfl (fun K hK => ?_)
    refine take_if (by rfl) ?_
    obtain ⟨s0, s1, sb⟩ := hS
    go_simp
    refine hK.out _ _ ⟨(At.alloc s0 _), (At.alloc s1 _), (Bl.alloc sb _)⟩ (fun hS => ?_)
    clear hK K
    try simp only [Act.put, zA, zB, zC]
    have r3 : Rd (g2.alloc (.cells #[.bool false, .int .i64 65535, .int .i64 262143, .int .i64 0, .int .i64 52, .int .i64 0, .int .i64 0, .bool true, .int .u64 at', .bool false, .int .i64 0, .int .i64 262143, .int .i64 0, .int .i64 52, .int .i64 0, .int .i64 0, .bool true, .int .u64 at'] 25)) (g2.alloc (.cells #[.bool false, .int .i64 65535, .int .i64 262143, .int .i64 0, .int .i64 52, .int .i64 0, .int .i64 0, .bool true, .int .u64 at', .bool false, .int .i64 0, .int .i64 262143, .int .i64 0, .int .i64 52, .int .i64 0, .int .i64 0, .bool true, .int .u64 at'] 25)).heap.size (some ⟨g2.heap.size, 0, none⟩) [mvC (kRoot at') at' false, ⟨false, 0, 262143, 0, 52, 0, 0, true, at'⟩] := rd_new [mvC (kRoot at') at' false, ⟨false, 0, 262143, 0, 52, 0, 0, true, at'⟩] g2
    generalize hgw : (g2.alloc (.cells #[.bool false, .int .i64 65535, .int .i64 262143, .int .i64 0, .int .i64 52, .int .i64 0, .int .i64 0, .bool true, .int .u64 at', .bool false, .int .i64 0, .int .i64 262143, .int .i64 0, .int .i64 52, .int .i64 0, .int .i64 0, .bool true, .int .u64 at'] 25)) = g3 at hS r3 ⊢
    clear hgw
    refine rdy 5 rfl (fun K hK => ?_)
    refine take_if (by rfl) ?_
    obtain ⟨s0, s1, sb⟩ := hS
    go_simp
    (with_reducible refine (HH2.out _ _ _ r3).mono ?_)
    rintro e' g5 ⟨rfl, hb⟩
    have t0 := sb.at_ hb s0 (show w.heap.size < w4.heap.size + 1 by omega)
    have t1 := sb.at_ hb s1 (show w4.heap.size < w4.heap.size + 1 by omega)
    have r3 := r3.below hb (Nat.le_refl _)
    refine hK.out _ _ ⟨t0, t1, (sb.step hb)⟩ (fun hS => ?_)
    clear hK K hb s0 t0 s1 t1 sb
    try simp only [Act.put, zA, zB, zC]
    clear r3
    (refine tk 9 ?_ rfl (Or.inl ⟨by rfl, ?_⟩) hS ?_; rotate_left; focus (intro w' hSw; obtain ⟨s0, s1, sb⟩ := hSw; go_simp <;> try with_reducible rfl))
    try simp only [Act.put, zA, zB, zC]
    (refine tk 10 ?_ rfl (Or.inl ⟨by rfl, ?_⟩) hS ?_; rotate_left; focus (intro w' hSw; obtain ⟨s0, s1, sb⟩ := hSw; go_simp <;> try with_reducible rfl))
    try simp only [Act.put, zA, zB, zC]
    refine rdy 11 rfl (fun K hK => ?_)
    refine take_if (by rfl) ?_
    obtain ⟨s0, s1, sb⟩ := hS
    go_simp
    (with_reducible refine (works_w _).mono ?_)
    rintro e' g11 ⟨rfl, hb⟩
    have t0 := sb.at_ hb s0 (show w.heap.size < w4.heap.size + 1 by omega)
    have t1 := sb.at_ hb s1 (show w4.heap.size < w4.heap.size + 1 by omega)
    refine hK.out _ _ ⟨t0, t1, (sb.step hb)⟩ (fun hS => ?_)
    clear hK K hb s0 t0 s1 t1 sb
    try simp only [Act.put, zA, zB, zC]
    (refine tk 12 ?_ rfl (Or.inl ⟨by rfl, ?_⟩) hS ?_; rotate_left; focus (intro w' hSw; obtain ⟨s0, s1, sb⟩ := hSw; go_simp <;> try with_reducible rfl))
    try simp only [Act.put, zA, zB, zC]
    (refine tk 13 ?_ rfl (Or.inl ⟨by rfl, ?_⟩) hS ?_; rotate_left; focus (intro w' hSw; obtain ⟨s0, s1, sb⟩ := hSw; go_simp <;> try with_reducible rfl))
    try simp only [Act.put, zA, zB, zC]
    refine wpAnyH_done (by kernel_rfl) ?_ _
    obtain ⟨s0, s1, sb⟩ := hS
    go_wp2
    go_ret
    exact ⟨rfl, sb.bl⟩
end Go.Proofs.Ytkddgjaflcjhiaa
namespace Go.Proofs.Ytkddgjaflcjhiaa.orderRoots
open Go.ChangeShapes Go.WideShapes Go.ChangeAt Go.RowKit
theorem own : ownKnob Try.prog.godebug = none := by kernel_rfl
theorem roots_all (c : Cp) (at' : Int) (rw : Raw c) (a0 : 0 ≤ at') (a1 : at' < 18446744073709551616) (w : World) :
    Calls Try.prog 11 #[.agg #[.bool c.tg, .int .i64 c.pe, .int .i64 c.ty, .int .i64 c.mo, .int .i64 c.e, .int .i64 c.b, .int .i64 c.t, .bool c.g, .int .u64 c.a], .int .u64 at'] w fun e' w' => e' = .returned (.bool true) ∧ Below w.heap.size w w' := by
  cases hr : rightC c
  · exact roots_no c at' rw hr w
  · have rc := RC.of_right rw hr
    cases h0 : c.tg
    · have := roots_0 c at' rc rw hr a0 a1 h0 w
      exact this
    · cases h1 : lessB (uns c) (kRoot at')
      · exact roots_1 c at' rc rw hr a0 a1 h0 h1 w
      · exact roots_2 c at' rc rw hr a0 a1 h0 h1 w
set_option maxHeartbeats 8000000 in
set_option maxRecDepth 100000 in
theorem walk (a0 : Bool) (a1 : Int) (a2 : Int) (a3 : Int) (a4 : Int) (a5 : Int) (a6 : Int) (a7 : Bool) (a8 : Int) (a9 : Int) (w1 : (Lit.int .i64 a1).wf = true) (w2 : (Lit.int .i64 a2).wf = true) (w3 : (Lit.int .i64 a3).wf = true) (w4 : (Lit.int .i64 a4).wf = true) (w5 : (Lit.int .i64 a5).wf = true) (w6 : (Lit.int .i64 a6).wf = true) (w8 : (Lit.int .u64 a8).wf = true) (w9 : (Lit.int .u64 a9).wf = true) (w : World) :
    Calls Try.prog 11 #[.agg #[.bool a0, .int .i64 a1, .int .i64 a2, .int .i64 a3, .int .i64 a4, .int .i64 a5, .int .i64 a6, .bool a7, .int .u64 a8], .int .u64 a9] w fun e w' => e = .returned (.bool true) ∧ Below w.heap.size w w' :=
  roots_all ⟨a0, a1, a2, a3, a4, a5, a6, a7, a8⟩ a9 ⟨(i64_bd w1).1, (i64_bd w1).2, (i64_bd w2).1, (i64_bd w2).2, (i64_bd w3).1, (i64_bd w3).2, (i64_bd w4).1, (i64_bd w4).2, (i64_bd w5).1, (i64_bd w5).2, (i64_bd w6).1, (i64_bd w6).2, (u64_bd w8).1, (u64_bd w8).2⟩ (u64_bd w9).1 (u64_bd w9).2 w
end Go.Proofs.Ytkddgjaflcjhiaa.orderRoots
