/-
  Contracts of the document's answer for layer 3: Lay, Mask and Round, whole. Numbers are within their types.
-/
import Derived.Test.YtddgmbfngbobgaaBRefOver0
import Derived.Test.YtddgmbfngbobgaaBRefOver1
namespace Go.Proofs.Ytddgmbfngbobgaa
open Go.ChangeShapes Go.WideShapes Go.ChangeAt Go.RowKit
set_option linter.unusedVariables false
set_option linter.unusedSimpArgs false

theorem lost_top (N : Int) (k : Nat) : (lostB N k || ((N / 2 ^ k % 2048 + b01 (lostB N k)) % 2 == 1)) = lostB N (k + 1) := by
  rw [lost_next]
  cases h : lostB N k
  · simp [b01]
  · simp
theorem cut_0 (a : Int) (k : Nat) (a0 : 0 ≤ a) (a1 : a < 18446744073709551616) (hk : k ≤ 60) (n : Int) (hn : n = (k : Int)) (w : World) :
    Calls Try.prog 84 #[.agg #[.int .u64 0, .int .u64 a], .int .i64 n] w fun e' w' => e' = .returned (.tuple #[.int .i64 (a / 2 ^ k % 2048), .bool (lostB a k)]) ∧ Kp w w' := by
  have c := refcut_w 0 a k (by omega) (by omega) a0 a1 hk n hn w
  rw [at_N] at c; exact c
theorem cut_T (a x : Int) (H L : Int) (k : Nat) (h0 : 0 ≤ H) (h1 : H < 2) (l0 : 0 ≤ L) (l1 : L < 18446744073709551616) (hN : wN H L = a + x) (hk : k ≤ 60) (n : Int) (hn : n = (k : Int)) (w : World) :
    Calls Try.prog 84 #[.agg #[.int .u64 H, .int .u64 L], .int .i64 n] w fun e' w' => e' = .returned (.tuple #[.int .i64 ((a + x) / 2 ^ k % 2048), .bool (lostB (a + x) k)]) ∧ Kp w w' := by
  have c := refcut_w H L k h0 h1 l0 l1 hk n hn w
  rw [hN] at c; exact c
theorem m2048 (x : Int) : 0 ≤ x % 2048 ∧ x % 2048 < 2048 := by omega
theorem refLay_w (tg : Bool) (pe ty mo e b t : Int) (g : Bool) (a n : Int) (a0 : 0 ≤ a) (a1 : a < 18446744073709551616) (n0 : 0 ≤ n) (n1 : n < 18446744073709551616) (w : World) :
    Calls Try.prog 58 #[.agg #[.bool tg, .int .i64 pe, .int .i64 ty, .int .i64 mo, .int .i64 e, .int .i64 b, .int .i64 t, .bool g, .int .u64 a], .int .u64 n] w fun e' w' => e' = .returned (.tuple #[.agg #[.bool tg, .int .i64 pe, .int .i64 ty, .int .i64 mo, .int .i64 (layE a n), .int .i64 (layB a n), .int .i64 (layT a n), .bool (bigB n), .int .u64 a], .bool (layX a n)]) ∧ Kp w w' := by
  by_cases h : 4096 ≤ n
  · have hb : bigB n = true := by simpa [bigB] using h
    have hk := e0V_bd n n0 n1
    have hend := eZ_end n n0 n1
    have hL : 0 ≤ (a + n) % 18446744073709551616 ∧ (a + n) % 18446744073709551616 < 18446744073709551616 := by omega
    have hT := top_N a n _ a0 a1 n0 n1 rfl
    have hH : 0 ≤ b01 (decide ((a + n) % 18446744073709551616 < n)) ∧ b01 (decide ((a + n) % 18446744073709551616 < n)) < 2 := ⟨b01_lo _, b01_hi _⟩
    have ca := cut_0 a (e0V n + 3) a0 a1 (by omega) ((e0V n : Int) + 3) (by omega)
    have ct := cut_T a n _ _ (e0V n + 3) hH.1 hH.2 hL.1 hL.2 hT (by omega) ((e0V n : Int) + 3) (by omega)
    have ca2 := cut_0 a (e0V n + 1 + 3) a0 a1 (by omega) ((e0V n : Int) + 1 + 3) (by omega)
    have ct2 := cut_T a n _ _ (e0V n + 1 + 3) hH.1 hH.2 hL.1 hL.2 hT (by omega) ((e0V n : Int) + 1 + 3) (by omega)
    have hc : decide (0 < (e0V n : Int)) = true ∨ decide (0 < (e0V n : Int)) = false ∧ (n / 4096 % 2 == 1) = true := by
      by_cases h8 : 8192 ≤ n
      · have := e0V_pos n h8; exact Or.inl (by simp; omega)
      · have h9 := e0V_small n n0 (by omega)
        refine Or.inr ⟨by rw [h9]; rfl, ?_⟩
        have : n / 4096 % 2 = 1 := by omega
        rw [this]; rfl
    cases ho : overB a n
    · have hx : exV a n = e0V n := by unfold exV; rw [ho]; rfl
      have c := lay_stay tg pe ty mo e b t g a n a0 a1 n0 n1 _ _ _ _ _ _ _ _ _ _ _ rfl rfl hend (by omega) (by omega) hc (m2048 _).1 (m2048 _).2 (m2048 _).1 (m2048 _).2 (m2048 _).1 (m2048 _).2 (m2048 _).1 (m2048 _).2 ca ct ca2 ct2 ho w
      simp only [layE, layB, layT, layX, hb, if_true, hx]
      have e1 : ceilV (a + n) (e0V n + 3) * 8 % 4096 = ((a + n) / 2 ^ (e0V n + 3) % 2048 + b01 (lostB (a + n) (e0V n + 3))) % 2048 * 8 % 4096 := by
        unfold ceilV; omega
      rw [e1]
      exact c
    · have hx : exV a n = e0V n + 1 := by unfold exV; rw [ho]; rfl
      simp only [layE, layB, layT, layX, hb, if_true, hx]
      have e1 : ceilV (a + n) (e0V n + 1 + 3) * 8 % 4096 = ((a + n) / 2 ^ (e0V n + 1 + 3) % 2048 + b01 (lostB (a + n) (e0V n + 1 + 3))) % 2048 * 8 % 4096 := by
        unfold ceilV; omega
      have e2 : lostB a (e0V n + 1 + 3) = (lostB a (e0V n + 3) || (a / 2 ^ (e0V n + 3) % 2048 % 2 == 1)) := lost_next a (e0V n + 3)
      have e3 : lostB (a + n) (e0V n + 1 + 3) = (lostB (a + n) (e0V n + 3) || (((a + n) / 2 ^ (e0V n + 3) % 2048 + b01 (lostB (a + n) (e0V n + 3))) % 2 == 1)) := (lost_top (a + n) (e0V n + 3)).symm
      have e4 : ((e0V n + 1 : Nat) : Int) = (e0V n : Int) + 1 := by omega
      rw [e1, e4]
      rcases hc with hc | ⟨hc, h12⟩
      · have c := lay_over1 tg pe ty mo e b t g a n a0 a1 n0 n1 _ _ _ _ _ _ _ _ _ _ _ rfl rfl hend (by omega) (by omega) hc (m2048 _).1 (m2048 _).2 (m2048 _).1 (m2048 _).2 (m2048 _).1 (m2048 _).2 (m2048 _).1 (m2048 _).2 ca ct ca2 ct2 _ _ rfl rfl ho w
        rw [← e2, ← e3] at c
        exact c
      · have c := lay_over0 tg pe ty mo e b t g a n a0 a1 n0 n1 _ _ _ _ _ _ _ _ _ _ _ rfl rfl hend (by omega) (by omega) hc h12 (m2048 _).1 (m2048 _).2 (m2048 _).1 (m2048 _).2 (m2048 _).1 (m2048 _).2 (m2048 _).1 (m2048 _).2 ca ct ca2 ct2 _ _ rfl rfl ho w
        rw [← e2, ← e3] at c
        exact c
  · have hb : bigB n = false := by simpa [bigB] using h
    have c := lay_not tg pe ty mo e b t g a n a0 a1 n0 (by omega) w
    simp only [layE, layB, layT, layX, hb, Bool.false_eq_true, if_false]; exact c
theorem maskV_bd (n : Int) (n0 : 0 ≤ n) (n1 : n < 18446744073709551616) : 0 ≤ maskV n ∧ maskV n < 18446744073709551616 := by
  unfold maskV
  split
  · have h := exV_bd 0 n n0 n1
    have h1 := pow_le63 (exV 0 n + 3) (by omega)
    have h2 := pow_pos' (exV 0 n + 3)
    omega
  · omega
theorem refMask_w (n : Int) (n0 : 0 ≤ n) (n1 : n < 18446744073709551616) (w : World) :
    Calls Try.prog 70 #[.int .u64 n] w fun e w' => e = .returned (.int .u64 (maskV n)) ∧ Kp w w' := by
  have hE := layE_bd 0 n n0 n1
  cases hb : bigB n
  · have hm : maskV n = 18446744073709551615 := by simp [maskV, hb]
    have HM := Lib.hid hm
    clear hm
    go_enter Try.func70, Try.ntmps70
    go_wp2_with (go_at_call 58; refine (refLay_w _ _ _ _ _ _ _ _ _ _ (by omega) (by omega) (by omega) (by omega) _).mono ?_; rintro e' w1 ⟨rfl, qk⟩; have HK := Lib.hid qk; clear qk)
    go_ret
    exact ⟨ret_int HM.out.symm, (HK.out.allocs _ _)⟩
  · have hx : layE 0 n = (exV 0 n : Int) := by simp [layE, hb]
    have hx52 := exV_bd 0 n n0 n1
    have hm : IntKind.u64.wrap (18446744073709551615 * 2 ^ (exV 0 n + 3)) = maskV n := by
      rw [mask_m _ (by omega)]; simp [maskV, hb]
    have HM := Lib.hid hm
    have s1 : ((exV 0 n : Int) + 3).toNat = exV 0 n + 3 := by omega
    clear hm
    rw [hx] at hE
    go_enter Try.func70, Try.ntmps70
    go_wp2_with (go_at_call 58; refine (refLay_w _ _ _ _ _ _ _ _ _ _ (by omega) (by omega) (by omega) (by omega) _).mono ?_; rintro e' w1 ⟨rfl, qk⟩; have HK := Lib.hid qk; clear qk)
    go_ret
    exact ⟨ret_int HM.out, (HK.out.allocs _ _)⟩
theorem refRound_w (n : Int) (n0 : 0 ≤ n) (n1 : n < 18446744073709551616) (w : World) :
    Calls Try.prog 69 #[.int .u64 n] w fun e w' => e = .returned (.int .u64 (roundV n)) ∧ Kp w w' := by
  obtain ⟨hm0, hm1⟩ := maskV_bd n n0 n1
  have hN := not64 (maskV n) hm0 hm1
  go_enter Try.func69, Try.ntmps69
  go_wp2_with (go_at_call 70; refine (refMask_w _ (by omega) (by omega) _).mono ?_; rintro e' w1 ⟨rfl, qk⟩; have HK := Lib.hid qk; clear qk)
  go_ret
  exact ⟨rfl, HK.out⟩
end Go.Proofs.Ytddgmbfngbobgaa
