/-
  Contracts of the document's answer for layer 3: Lay, Mask and Round, whole; and of the law BoundsLays. Numbers are within their types.
-/
import Derived.Test.YtiaklnbeklfnpaaBRefOver0
import Derived.Test.YtiaklnbeklfnpaaBRefOver1
import Derived.Test.YtiaklnbeklfnpaaBKnown
import Derived.Test.YtiaklnbeklfnpaaCapEq
namespace Go.Proofs.Ytiaklnbeklfnpaa
open Go.ChangeShapes Go.WideShapes Go.ChangeAt Go.RowKit
set_option linter.unusedVariables false
set_option linter.unusedSimpArgs false

theorem lost_top (N : Int) (k : Nat) : (lostB N k || ((N / 2 ^ k % 2048 + b01 (lostB N k)) % 2 == 1)) = lostB N (k + 1) := by
  rw [lost_next]
  cases h : lostB N k
  · simp [b01]
  · simp
theorem cut_0 (a : Int) (k : Nat) (a0 : 0 ≤ a) (a1 : a < 18446744073709551616) (hk : k ≤ 60) (n : Int) (hn : n = (k : Int)) (w : World) :
    Calls Try.prog 32 #[.agg #[.int .u64 0, .int .u64 a], .int .i64 n] w fun e' w' => e' = .returned (.tuple #[.int .i64 (a / 2 ^ k % 2048), .bool (lostB a k)]) ∧ Kp w w' := by
  have c := refcut_w 0 a k (by omega) (by omega) a0 a1 hk n hn w
  rw [at_N] at c; exact c
theorem cut_T (a x : Int) (H L : Int) (k : Nat) (h0 : 0 ≤ H) (h1 : H < 2) (l0 : 0 ≤ L) (l1 : L < 18446744073709551616) (hN : wN H L = a + x) (hk : k ≤ 60) (n : Int) (hn : n = (k : Int)) (w : World) :
    Calls Try.prog 32 #[.agg #[.int .u64 H, .int .u64 L], .int .i64 n] w fun e' w' => e' = .returned (.tuple #[.int .i64 ((a + x) / 2 ^ k % 2048), .bool (lostB (a + x) k)]) ∧ Kp w w' := by
  have c := refcut_w H L k h0 h1 l0 l1 hk n hn w
  rw [hN] at c; exact c
theorem m2048 (x : Int) : 0 ≤ x % 2048 ∧ x % 2048 < 2048 := by omega
theorem refLay_w (tg : Bool) (pe ty mo e b t : Int) (g : Bool) (a n : Int) (a0 : 0 ≤ a) (a1 : a < 18446744073709551616) (n0 : 0 ≤ n) (n1 : n < 18446744073709551616) (w : World) :
    Calls Try.prog 22 #[.agg #[.bool tg, .int .i64 pe, .int .i64 ty, .int .i64 mo, .int .i64 e, .int .i64 b, .int .i64 t, .bool g, .int .u64 a], .int .u64 n] w fun e' w' => e' = .returned (.tuple #[.agg #[.bool tg, .int .i64 pe, .int .i64 ty, .int .i64 mo, .int .i64 (layE a n), .int .i64 (layB a n), .int .i64 (layT a n), .bool (bigB n), .int .u64 a], .bool (layX a n)]) ∧ Kp w w' := by
  by_cases h : 4096 ≤ n
  · have hb : bigB n = true := by simpa [bigB] using h
    have hk := e0V_bd n n0 n1
    have hend := eZ_end n n0 n1
    have hL : 0 ≤ (a + n) % 18446744073709551616 ∧ (a + n) % 18446744073709551616 < 18446744073709551616 := by omega
    have hT := top_N a n _ a0 a1 n0 n1 rfl
    have hH : 0 ≤ b01 (decide ((a + n) % 18446744073709551616 < n)) ∧ b01 (decide ((a + n) % 18446744073709551616 < n)) < 2 := ⟨b01_lo _, b01_hi _⟩
    have ca := cut_0 a (e0V n + 3) a0 a1 (by omega) ((e0V n : Int) + 3) (by omega)
    have ct := cut_T a n _ _ (e0V n + 3) hH.1 hH.2 hL.1 hL.2 hT (by omega) ((e0V n : Int) + 3) (by omega)
    have ca2 := cut_0 a (e0V n + 1 + 3) a0 a1 (by omega) ((e0V n : Int) + 1 + 3) (by omega)
    have ct2 := cut_T a n _ _ (e0V n + 1 + 3) hH.1 hH.2 hL.1 hL.2 hT (by omega) ((e0V n : Int) + 1 + 3) (by omega)
    have hc : decide (0 < (e0V n : Int)) = true ∨ decide (0 < (e0V n : Int)) = false ∧ (n / 4096 % 2 == 1) = true := by
      by_cases h8 : 8192 ≤ n
      · have := e0V_pos n h8; exact Or.inl (by simp; omega)
      · have h9 := e0V_small n n0 (by omega)
        refine Or.inr ⟨by rw [h9]; rfl, ?_⟩
        have : n / 4096 % 2 = 1 := by omega
        rw [this]; rfl
    cases ho : overB a n
    · have hx : exV a n = e0V n := by unfold exV; rw [ho]; rfl
      have c := lay_stay tg pe ty mo e b t g a n a0 a1 n0 n1 _ _ _ _ _ _ _ _ _ _ _ rfl rfl hend (by omega) (by omega) hc (m2048 _).1 (m2048 _).2 (m2048 _).1 (m2048 _).2 (m2048 _).1 (m2048 _).2 (m2048 _).1 (m2048 _).2 ca ct ca2 ct2 ho w
      simp only [layE, layB, layT, layX, hb, if_true, hx]
      have e1 : ceilV (a + n) (e0V n + 3) * 8 % 4096 = ((a + n) / 2 ^ (e0V n + 3) % 2048 + b01 (lostB (a + n) (e0V n + 3))) % 2048 * 8 % 4096 := by
        unfold ceilV; omega
      rw [e1]
      exact c
    · have hx : exV a n = e0V n + 1 := by unfold exV; rw [ho]; rfl
      simp only [layE, layB, layT, layX, hb, if_true, hx]
      have e1 : ceilV (a + n) (e0V n + 1 + 3) * 8 % 4096 = ((a + n) / 2 ^ (e0V n + 1 + 3) % 2048 + b01 (lostB (a + n) (e0V n + 1 + 3))) % 2048 * 8 % 4096 := by
        unfold ceilV; omega
      have e2 : lostB a (e0V n + 1 + 3) = (lostB a (e0V n + 3) || (a / 2 ^ (e0V n + 3) % 2048 % 2 == 1)) := lost_next a (e0V n + 3)
      have e3 : lostB (a + n) (e0V n + 1 + 3) = (lostB (a + n) (e0V n + 3) || (((a + n) / 2 ^ (e0V n + 3) % 2048 + b01 (lostB (a + n) (e0V n + 3))) % 2 == 1)) := (lost_top (a + n) (e0V n + 3)).symm
      have e4 : ((e0V n + 1 : Nat) : Int) = (e0V n : Int) + 1 := by omega
      rw [e1, e4]
      rcases hc with hc | ⟨hc, h12⟩
      · have c := lay_over1 tg pe ty mo e b t g a n a0 a1 n0 n1 _ _ _ _ _ _ _ _ _ _ _ rfl rfl hend (by omega) (by omega) hc (m2048 _).1 (m2048 _).2 (m2048 _).1 (m2048 _).2 (m2048 _).1 (m2048 _).2 (m2048 _).1 (m2048 _).2 ca ct ca2 ct2 _ _ rfl rfl ho w
        rw [← e2, ← e3] at c
        exact c
      · have c := lay_over0 tg pe ty mo e b t g a n a0 a1 n0 n1 _ _ _ _ _ _ _ _ _ _ _ rfl rfl hend (by omega) (by omega) hc h12 (m2048 _).1 (m2048 _).2 (m2048 _).1 (m2048 _).2 (m2048 _).1 (m2048 _).2 (m2048 _).1 (m2048 _).2 ca ct ca2 ct2 _ _ rfl rfl ho w
        rw [← e2, ← e3] at c
        exact c
  · have hb : bigB n = false := by simpa [bigB] using h
    have c := lay_not tg pe ty mo e b t g a n a0 a1 n0 (by omega) w
    simp only [layE, layB, layT, layX, hb, Bool.false_eq_true, if_false]; exact c
theorem maskV_bd (n : Int) (n0 : 0 ≤ n) (n1 : n < 18446744073709551616) : 0 ≤ maskV n ∧ maskV n < 18446744073709551616 := by
  unfold maskV
  split
  · have h := exV_bd 0 n n0 n1
    have h1 := pow_le63 (exV 0 n + 3) (by omega)
    have h2 := pow_pos' (exV 0 n + 3)
    omega
  · omega
theorem refMask_w (n : Int) (n0 : 0 ≤ n) (n1 : n < 18446744073709551616) (w : World) :
    Calls Try.prog 23 #[.int .u64 n] w fun e w' => e = .returned (.int .u64 (maskV n)) ∧ Kp w w' := by
  have hE := layE_bd 0 n n0 n1
  cases hb : bigB n
  · have hm : maskV n = 18446744073709551615 := by simp [maskV, hb]
    have HM := Lib.hid hm
    clear hm
    go_enter Try.func23, Try.ntmps23
    go_wp2_with (go_at_call 22; refine (refLay_w _ _ _ _ _ _ _ _ _ _ (by omega) (by omega) (by omega) (by omega) _).mono ?_; rintro e' w1 ⟨rfl, qk⟩; have HK := Lib.hid qk; clear qk)
    go_ret
    exact ⟨ret_int HM.out.symm, (HK.out.allocs _ _)⟩
  · have hx : layE 0 n = (exV 0 n : Int) := by simp [layE, hb]
    have hx52 := exV_bd 0 n n0 n1
    have hm : IntKind.u64.wrap (18446744073709551615 * 2 ^ (exV 0 n + 3)) = maskV n := by
      rw [mask_m _ (by omega)]; simp [maskV, hb]
    have HM := Lib.hid hm
    have s1 : ((exV 0 n : Int) + 3).toNat = exV 0 n + 3 := by omega
    clear hm
    rw [hx] at hE
    go_enter Try.func23, Try.ntmps23
    go_wp2_with (go_at_call 22; refine (refLay_w _ _ _ _ _ _ _ _ _ _ (by omega) (by omega) (by omega) (by omega) _).mono ?_; rintro e' w1 ⟨rfl, qk⟩; have HK := Lib.hid qk; clear qk)
    go_ret
    exact ⟨ret_int HM.out, (HK.out.allocs _ _)⟩
theorem refRound_w (n : Int) (n0 : 0 ≤ n) (n1 : n < 18446744073709551616) (w : World) :
    Calls Try.prog 24 #[.int .u64 n] w fun e w' => e = .returned (.int .u64 (roundV n)) ∧ Kp w w' := by
  obtain ⟨hm0, hm1⟩ := maskV_bd n n0 n1
  have hN := not64 (maskV n) hm0 hm1
  go_enter Try.func24, Try.ntmps24
  go_wp2_with (go_at_call 23; refine (refMask_w _ (by omega) (by omega) _).mono ?_; rintro e' w1 ⟨rfl, qk⟩; have HK := Lib.hid qk; clear qk)
  go_ret
  exact ⟨rfl, HK.out⟩
set_option maxHeartbeats 4000000 in
set_option maxRecDepth 100000 in
theorem lays_w (tg : Bool) (pe ty mo e b t : Int) (g : Bool) (a n : Int) (a0 : 0 ≤ a) (a1 : a < 18446744073709551616) (n0 : 0 ≤ n) (n1 : n < 18446744073709551616) (w : World) :
    Calls Try.prog 12 #[.agg #[.bool tg, .int .i64 pe, .int .i64 ty, .int .i64 mo, .int .i64 e, .int .i64 b, .int .i64 t, .bool g, .int .u64 a], .int .u64 n] w fun e' w' => e' = .returned (.bool true) ∧ Kp w w' := by
  obtain ⟨hm0, hm1⟩ := maskV_bd n n0 n1
  have xx : (layX a n == layX a n) = true := by simp
  have k11 : ∀ n : Nat, n < n + 1 + 1 := fun n => by omega
  go_enter Try.func12, Try.ntmps12
  go_wp2_with (first
    | (go_at_call 18; (with_reducible refine (lay_w _ _ _ _ _ _ _ _ _ _ a0 a1 n0 n1 _).mono ?_); rintro e' w1 ⟨rfl, qk⟩; have HKw1 := Lib.hid qk; have qw10 : w1.cell? ⟨w.heap.size, 0, none⟩ = some (.bool tg) := (qk.cell (p := ⟨w.heap.size, 0, none⟩) (by first | (simp; done) | (simp; omega) | omega)).trans (by simp [go_sem, *]); have qw11 : w1.cell? ⟨w.heap.size, 1, none⟩ = some (.int .i64 pe) := (qk.cell (p := ⟨w.heap.size, 1, none⟩) (by first | (simp; done) | (simp; omega) | omega)).trans (by simp [go_sem, *]); have qw12 : w1.cell? ⟨w.heap.size, 2, none⟩ = some (.int .i64 ty) := (qk.cell (p := ⟨w.heap.size, 2, none⟩) (by first | (simp; done) | (simp; omega) | omega)).trans (by simp [go_sem, *]); have qw13 : w1.cell? ⟨w.heap.size, 3, none⟩ = some (.int .i64 mo) := (qk.cell (p := ⟨w.heap.size, 3, none⟩) (by first | (simp; done) | (simp; omega) | omega)).trans (by simp [go_sem, *]); have qw14 : w1.cell? ⟨w.heap.size, 4, none⟩ = some (.int .i64 e) := (qk.cell (p := ⟨w.heap.size, 4, none⟩) (by first | (simp; done) | (simp; omega) | omega)).trans (by simp [go_sem, *]); have qw15 : w1.cell? ⟨w.heap.size, 5, none⟩ = some (.int .i64 b) := (qk.cell (p := ⟨w.heap.size, 5, none⟩) (by first | (simp; done) | (simp; omega) | omega)).trans (by simp [go_sem, *]); have qw16 : w1.cell? ⟨w.heap.size, 6, none⟩ = some (.int .i64 t) := (qk.cell (p := ⟨w.heap.size, 6, none⟩) (by first | (simp; done) | (simp; omega) | omega)).trans (by simp [go_sem, *]); have qw17 : w1.cell? ⟨w.heap.size, 7, none⟩ = some (.bool g) := (qk.cell (p := ⟨w.heap.size, 7, none⟩) (by first | (simp; done) | (simp; omega) | omega)).trans (by simp [go_sem, *]); have qw18 : w1.cell? ⟨w.heap.size, 8, none⟩ = some (.int .u64 a) := (qk.cell (p := ⟨w.heap.size, 8, none⟩) (by first | (simp; done) | (simp; omega) | omega)).trans (by simp [go_sem, *]); have K1 := Lib.hid (Kp.trans ((Kp.refl w).allocs _ _) qk); have sz1 := qk.size; (try simp at sz1); have qa0 : w.heap.size < w1.heap.size := (by omega); have qa1 : ¬ w.heap.size = w1.heap.size := (by omega); have qa2 : ¬ w1.heap.size = w.heap.size := (by omega); clear qk)
    | (go_at_call 22; (with_reducible refine (refLay_w _ _ _ _ _ _ _ _ _ _ a0 a1 n0 n1 _).mono ?_); rintro e' w2 ⟨rfl, qk⟩; have HKw2 := Lib.hid qk; have qw20 : w2.cell? ⟨w1.heap.size, 0, none⟩ = some (.bool tg) := (qk.cell (p := ⟨w1.heap.size, 0, none⟩) (by first | (simp; done) | (simp; omega) | omega)).trans (by simp [go_sem, *]); have qw21 : w2.cell? ⟨w1.heap.size, 1, none⟩ = some (.int .i64 pe) := (qk.cell (p := ⟨w1.heap.size, 1, none⟩) (by first | (simp; done) | (simp; omega) | omega)).trans (by simp [go_sem, *]); have qw22 : w2.cell? ⟨w1.heap.size, 2, none⟩ = some (.int .i64 ty) := (qk.cell (p := ⟨w1.heap.size, 2, none⟩) (by first | (simp; done) | (simp; omega) | omega)).trans (by simp [go_sem, *]); have qw23 : w2.cell? ⟨w1.heap.size, 3, none⟩ = some (.int .i64 mo) := (qk.cell (p := ⟨w1.heap.size, 3, none⟩) (by first | (simp; done) | (simp; omega) | omega)).trans (by simp [go_sem, *]); have qw24 : w2.cell? ⟨w1.heap.size, 4, none⟩ = some (.int .i64 (layE a n)) := (qk.cell (p := ⟨w1.heap.size, 4, none⟩) (by first | (simp; done) | (simp; omega) | omega)).trans (by simp [go_sem, *]); have qw25 : w2.cell? ⟨w1.heap.size, 5, none⟩ = some (.int .i64 (layB a n)) := (qk.cell (p := ⟨w1.heap.size, 5, none⟩) (by first | (simp; done) | (simp; omega) | omega)).trans (by simp [go_sem, *]); have qw26 : w2.cell? ⟨w1.heap.size, 6, none⟩ = some (.int .i64 (layT a n)) := (qk.cell (p := ⟨w1.heap.size, 6, none⟩) (by first | (simp; done) | (simp; omega) | omega)).trans (by simp [go_sem, *]); have qw27 : w2.cell? ⟨w1.heap.size, 7, none⟩ = some (.bool (bigB n)) := (qk.cell (p := ⟨w1.heap.size, 7, none⟩) (by first | (simp; done) | (simp; omega) | omega)).trans (by simp [go_sem, *]); have qw28 : w2.cell? ⟨w1.heap.size, 8, none⟩ = some (.int .u64 a) := (qk.cell (p := ⟨w1.heap.size, 8, none⟩) (by first | (simp; done) | (simp; omega) | omega)).trans (by simp [go_sem, *]); have K2 := Lib.hid (Kp.trans (K1.out.allocs _ _) qk); have sz2 := qk.size; (try simp at sz2); have qb0 : w1.heap.size < w2.heap.size := (by omega); have qb1 : ¬ w1.heap.size = w2.heap.size := (by omega); have qb2 : ¬ w2.heap.size = w1.heap.size := (by omega); clear qk)
    | (go_at_call 13; (with_reducible refine (mask_w n n0 n1 _).mono ?_); rintro e' w3 ⟨rfl, qk⟩; have K3 := Lib.hid (Kp.trans (K2.out.allocs _ _) qk); clear qk)
    | (go_at_call 23; (with_reducible refine (refMask_w n n0 n1 _).mono ?_); rintro e' w4 ⟨rfl, qk⟩; have K4 := Lib.hid (K3.out.trans qk); clear qk)
    | (go_at_call 14; (with_reducible refine (round_w n n0 n1 hm0 hm1 _).mono ?_); rintro e' w5 ⟨rfl, qk⟩; have K5 := Lib.hid (K4.out.trans qk); clear qk)
    | (go_at_call 24; (with_reducible refine (refRound_w n n0 n1 _).mono ?_); rintro e' w6 ⟨rfl, qk⟩; have K6 := Lib.hid (K5.out.trans qk); clear qk)
    | (go_at_call 8; (with_reducible refine (known_w _).mono ?_); rintro e' w7 ⟨rfl, qk⟩; have K7 := Lib.hid (K6.out.trans qk); clear qk))
  go_ret
  exact ⟨rfl, K7.out⟩
end Go.Proofs.Ytiaklnbeklfnpaa
