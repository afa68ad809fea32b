/-
  Contracts of bounds.shorten and bounds.Lay: what is laid is what the plain mathematics says. Numbers are within their types.
-/
import Derived.Test.YtkddgjaflcjhiaaBCut
import Derived.Test.YtkddgjaflcjhiaaBOfW
namespace Go.Proofs.Ytkddgjaflcjhiaa
open Go.ChangeShapes Go.WideShapes Go.ChangeAt Go.RowKit
set_option linter.unusedVariables false
set_option linter.unusedSimpArgs false

theorem short_w (h l i m e : Int) (h0 : 0 ≤ h) (h1 : h < 2) (l0 : 0 ≤ l) (l1 : l < 18446744073709551616) (i0 : 0 ≤ i) (i1 : i < 2) (m0 : 0 ≤ m) (m1 : m < 18446744073709551616) (e0 : 0 ≤ e) (e1 : e ≤ 60) (w : World) :
    Calls Try.prog 45 #[.agg #[.int .u64 h, .int .u64 l], .agg #[.int .u64 i, .int .u64 m], e] w fun e' w' => e' = .returned (.tuple #[.int .u64 (wN h l / 2 ^ (e + 3).toNat % 2048), .int .u64 (ceilV (wN i m) (e + 3).toNat), .bool (!lostB (wN h l) (e + 3).toNat && !lostB (wN i m) (e + 3).toNat)]) ∧ Kp w w' := by
  have kb : Bh w (w.heap.size + 2) ((w.alloc (.cells #[.int .u64 h, .int .u64 l] 69)).alloc (.cells #[.int .u64 i, .int .u64 m] 69)) := ⟨((Kp.refl w).allocs _ _).allocs _ _, by simp, by simp⟩
  have q : 0 ≤ wN i m / 2 ^ (e + 3).toNat % 2048 ∧ wN i m / 2 ^ (e + 3).toNat % 2048 < 2048 := by omega
  obtain ⟨q0, q1⟩ := q
  cases c1 : lostB (wN h l) (e + 3).toNat <;> cases c2 : lostB (wN i m) (e + 3).toNat
  all_goals
    have C1 := Lib.hid c1
    have C2 := Lib.hid c2
    go_enter Try.func45, Try.ntmps45
    go_wp2_with (first
      | (go_at_call 77; refine (cut_w _ _ _ (by omega) (by omega) (by omega) (by omega) (by omega) (by omega) _).mono ?_; rintro e' w1 ⟨rfl, qk⟩; have q0 : w1.cell? ⟨w.heap.size + 1, 0, none⟩ = some (.int .u64 i) := Bh.cell (n := w.heap.size + 2) (W := w) (by assumption) qk (by dsimp only; omega) (by first | with_reducible assumption | (simp [go_sem, *]; done)); have q1 : w1.cell? ⟨w.heap.size + 1, 1, none⟩ = some (.int .u64 m) := Bh.cell (n := w.heap.size + 2) (W := w) (by assumption) qk (by dsimp only; omega) (by first | with_reducible assumption | (simp [go_sem, *]; done)); have qb : Bh w (w.heap.size + 2) w1 := Bh.step (by with_reducible assumption) qk; have ql := qb.le; clear qk))
    refine bodyPost_ret (v := .tuple #[.int .u64 (wN h l / 2 ^ (e + 3).toNat % 2048), .int .u64 (ceilV (wN i m) (e + 3).toNat), _]) ?_ rfl ⟨rfl, qb.kp⟩
    have c2 := C2.out
    unfold ceilV
    rw [c2]
    simp [results, Try.results45, go_sem, b01]
theorem plus0_w (a n : Int) (a0 : 0 ≤ a) (a1 : a < 18446744073709551616) (n0 : 0 ≤ n) (n1 : n < 18446744073709551616) (w : World) :
    Calls Try.prog 43 #[.agg #[.int .u64 0, .int .u64 a], .agg #[.int .u64 0, .int .u64 n]] w fun e w' => e = .returned (.agg #[.int .u64 (wH (a + n)), .int .u64 (wL (a + n))]) ∧ Kp w w' := by
  have h : wN 0 a + wN 0 n = a + n := by unfold wN; omega
  have c := plus_w 0 a 0 n (by omega) (by omega) a0 a1 (by omega) (by omega) n0 n1 w
  rw [h] at c; exact c
theorem short0_w (a x e : Int) (a0 : 0 ≤ a) (a1 : a < 18446744073709551616) (x0 : 0 ≤ x) (x1 : x < 36893488147419103232) (e0 : 0 ≤ e) (e1 : e ≤ 60) (w : World) :
    Calls Try.prog 45 #[.agg #[.int .u64 0, .int .u64 a], .agg #[.int .u64 (wH x), .int .u64 (wL x)], e] w fun e' w' => e' = .returned (.tuple #[.int .u64 (a / 2 ^ (e + 3).toNat % 2048), .int .u64 (ceilV x (e + 3).toNat), .bool (!lostB a (e + 3).toNat && !lostB x (e + 3).toNat)]) ∧ Kp w w' := by
  have h : wN 0 a = a := by unfold wN; omega
  have h2 : wN (wH x) (wL x) = x := by rw [wN_of]; omega
  have c := short_w 0 a (wH x) (wL x) e (by omega) (by omega) a0 a1 (wH_lo _) (wH_hi _) (wL_lo _) (wL_hi _) e0 e1 w
  rw [h, h2] at c; exact c
set_option maxHeartbeats 4000000 in
set_option maxRecDepth 100000 in
theorem lay_small (tg : Bool) (pe ty mo e b t : Int) (g : Bool) (a n : Int) (a0 : 0 ≤ a) (a1 : a < 18446744073709551616) (n0 : 0 ≤ n) (n1 : n < 4096) (w : World) :
    Calls Try.prog 14 #[.agg #[tg, pe, ty, mo, e, b, t, g, .int .u64 a], .int .u64 n] w fun e' w' => e' = .returned (.tuple #[.agg #[tg, pe, ty, mo, (), .int .i64 (a % 16384), .int .i64 ((a + n) % 4096), false, .int .u64 a], true]) ∧ Kp w w' := by
  have hn : decide (4096 ≤ n) = false := by simp; omega
  have k11 : ∀ n : Nat, n < n + 1 + 1 := fun n => by omega
  have k12 : ∀ n : Nat, n < n + 1 + 1 + 1 := fun n => by omega
  have hL : wL (a + n) % 4096 = (a + n) % 4096 := by unfold wL; omega
  have HL := Lib.hid hL
  clear hL
  have hl0 := wL_lo (a + n)
  go_enter Try.func14, Try.ntmps14
  go_wp2_with (go_at_call 43; refine (plus0_w _ _ (by omega) (by omega) (by omega) (by omega) _).mono ?_; rintro e' w1 ⟨rfl, qk⟩; (try have hx := Kp.chain hy qk (by first | exact Nat.le_refl _ | (simp; done) | (simp; omega))); (try have hx1 := (Kp.up1 hx).1); (try have hx2 := (Kp.up1 hx).2.1); (try have hx3 := (Kp.up1 hx).2.2); (try have hy := Kp.chain hz qk (by first | exact Nat.le_refl _ | (simp; done) | (simp; omega))); (try have hy1 := (Kp.up1 hy).1); (try have hy2 := (Kp.up1 hy).2.1); (try have hy3 := (Kp.up1 hy).2.2); obtain ⟨hc, hf, hz⟩ := qk.cells; (try have hz1 := (Kp.up1 hz).1); (try have hz2 := (Kp.up1 hz).2.1); (try have hz3 := (Kp.up1 hz).2.2); have HK := Lib.hid qk; clear qk)
  go_region
  go_wp2
  refine bodyPost_ret (v := .tuple #[.agg #[tg, pe, ty, mo, (), .int .i64 (a % 16384), .int .i64 ((a + n) % 4096), false, .int .u64 a], true]) ?_ rfl ⟨rfl, ?_⟩
  · rw [← HL.out]
    simp (maxDischargeDepth := 8) [results, Try.results14, go_sem, *]
  · have K := (((Kp.refl w).allocs _ _).allocs _ _).allocs _ _ |>.trans HK.out
    repeat' (first | with_reducible refine Kp.setCell ?_ ?_ _ | with_reducible refine Kp.allocs ?_ _ _ | with_reducible refine Kp.drewN ?_ _ | with_reducible refine Kp.drew ?_)
    all_goals first | exact K | (dsimp only; omega)
set_option maxHeartbeats 8000000 in
set_option maxRecDepth 100000 in
theorem lay_big (tg : Bool) (pe ty mo e b t : Int) (g : Bool) (a n : Int) (a0 : 0 ≤ a) (a1 : a < 18446744073709551616) (n0 : 4096 ≤ n) (n1 : n < 18446744073709551616) (w : World) :
    Calls Try.prog 14 #[.agg #[tg, pe, ty, mo, e, b, t, g, .int .u64 a], .int .u64 n] w fun e' w' => e' = .returned (.tuple #[.agg #[tg, pe, ty, mo, .int .i64 (exV a n : Int), .int .i64 (a / 2 ^ (exV a n + 3) % 2048 * 8), .int .i64 (ceilV (a + n) (exV a n + 3) * 8 % 4096), true, .int .u64 a], .bool (!lostB a (exV a n + 3) && !lostB (a + n) (exV a n + 3))]) ∧ Kp w w' := by
  have hn : decide (4096 ≤ n) = true := by simp; omega
  have k11 : ∀ n : Nat, n < n + 1 + 1 := fun n => by omega
  have k12 : ∀ n : Nat, n < n + 1 + 1 + 1 := fun n => by omega
  have he : len64 (n / 8192) ≤ 51 := e0V_bd n (by omega) n1
  obtain ⟨k, hk⟩ : ∃ k : Nat, k = len64 (n / 8192) := ⟨_, rfl⟩
  have hk' : len64 (n / 8192) = k := hk.symm
  have hx0 : exV a n = if overB a n then k + 1 else k := by rw [hk]; rfl
  have hov : overB a n = decide (1024 ≤ (ceilV (a + n) (k + 3) - a / 2 ^ (k + 3) % 2048) % 2048) := by rw [hk]; rfl
  have hk51 : k ≤ 51 := by omega
  have c1 := ceilV_bd (a + n) (k + 3)
  have c2 := ceilV_bd (a + n) (k + 1 + 3)
  obtain ⟨c10, c11⟩ := c1
  obtain ⟨c20, c21⟩ := c2
  have s1 : ((k : Int) + 3).toNat = k + 3 := by omega
  have s2 : ((k : Int) + 1 + 3).toNat = k + 1 + 3 := by omega
  obtain ⟨D, hD⟩ : ∃ D : Int, D = (ceilV (a + n) (k + 3) - a / 2 ^ (k + 3) % 2048) % 2048 := ⟨_, rfl⟩
  have hDw : (IntKind.u64.wrap (ceilV (a + n) (k + 3) - a / 2 ^ (k + 3) % 2048)).tmod 2048 = D := by
    rw [Int.tmod_eq_emod_of_nonneg (wrap_bd _).1, IntKind.wrap_u64, hD]
    generalize ceilV (a + n) (k + 3) = x
    generalize a / 2 ^ (k + 3) % 2048 = y
    omega
  rw [← hD] at hov
  clear hD he hk
  by_cases hc : 1024 ≤ D
  · have hX : exV a n = k + 1 := by rw [hx0, hov]; simp [hc]
    have HX := Lib.hid hX
    clear hX hx0 hov
    have hcd : decide (1024 ≤ D) = true := by simpa using hc
    rw [HX.out]
    go_enter Try.func14, Try.ntmps14
    go_wp2_with (first
      | (go_at_call 43; (with_reducible refine (plus0_w _ _ (by omega) (by omega) (by omega) (by omega) _).mono ?_); rintro e' w1 ⟨rfl, qk⟩; have HKw1 := Lib.hid qk; have qw10 : w1.cell? ⟨w.heap.size, 0, none⟩ = some (.bool tg) := qk.c; have qw11 : w1.cell? ⟨w.heap.size, 1, none⟩ = some (.int .i64 pe) := qk.c; have qw12 : w1.cell? ⟨w.heap.size, 2, none⟩ = some (.int .i64 ty) := qk.c; have qw13 : w1.cell? ⟨w.heap.size, 3, none⟩ = some (.int .i64 mo) := qk.c; have qw14 : w1.cell? ⟨w.heap.size, 4, none⟩ = some (.int .i64 e) := qk.c; have qw15 : w1.cell? ⟨w.heap.size, 5, none⟩ = some (.int .i64 b) := qk.c; have qw16 : w1.cell? ⟨w.heap.size, 6, none⟩ = some (.int .i64 t) := qk.c; have qw17 : w1.cell? ⟨w.heap.size, 7, none⟩ = some (.bool g) := qk.c; have qw18 : w1.cell? ⟨w.heap.size, 8, none⟩ = some (.int .u64 a) := qk.c; have qw19 : w1.cell? ⟨w.heap.size + 1, 0, none⟩ = some (.bool false) := qk.c; have qw110 : w1.cell? ⟨w.heap.size + 1, 1, none⟩ = some (.int .i64 0) := qk.c; have qw111 : w1.cell? ⟨w.heap.size + 1, 2, none⟩ = some (.int .i64 0) := qk.c; have qw112 : w1.cell? ⟨w.heap.size + 1, 3, none⟩ = some (.int .i64 0) := qk.c; have qw113 : w1.cell? ⟨w.heap.size + 1, 4, none⟩ = some (.int .i64 0) := qk.c; have qw114 : w1.cell? ⟨w.heap.size + 1, 5, none⟩ = some (.int .i64 0) := qk.c; have qw115 : w1.cell? ⟨w.heap.size + 1, 6, none⟩ = some (.int .i64 0) := qk.c; have qw116 : w1.cell? ⟨w.heap.size + 1, 7, none⟩ = some (.bool false) := qk.c; have qw117 : w1.cell? ⟨w.heap.size + 1, 8, none⟩ = some (.int .u64 0) := qk.c; have qw118 : w1.cell? ⟨w.heap.size + 1 + 1, 0, none⟩ = some (.int .u64 0) := qk.c; have qw119 : w1.cell? ⟨w.heap.size + 1 + 1, 1, none⟩ = some (.int .u64 a) := qk.c; have zw10 : w1.frozen? ⟨w.heap.size, 4, none⟩ = false := qk.z; have zw11 : w1.frozen? ⟨w.heap.size, 5, none⟩ = false := qk.z; have zw12 : w1.frozen? ⟨w.heap.size, 6, none⟩ = false := qk.z; have zw13 : w1.frozen? ⟨w.heap.size, 7, none⟩ = false := qk.z; have zw14 : w1.frozen? ⟨w.heap.size + 1, 0, none⟩ = false := qk.z; have zw15 : w1.frozen? ⟨w.heap.size + 1, 1, none⟩ = false := qk.z; have zw16 : w1.frozen? ⟨w.heap.size + 1, 2, none⟩ = false := qk.z; have zw17 : w1.frozen? ⟨w.heap.size + 1, 3, none⟩ = false := qk.z; have zw18 : w1.frozen? ⟨w.heap.size + 1, 4, none⟩ = false := qk.z; have zw19 : w1.frozen? ⟨w.heap.size + 1, 5, none⟩ = false := qk.z; have zw110 : w1.frozen? ⟨w.heap.size + 1, 6, none⟩ = false := qk.z; have zw111 : w1.frozen? ⟨w.heap.size + 1, 7, none⟩ = false := qk.z; have zw112 : w1.frozen? ⟨w.heap.size + 1, 8, none⟩ = false := qk.z; have KW : Kp w w1 := Kp.trans (((Kp.refl w).allocs _ _).allocs _ _ |>.allocs _ _) qk; have ql : w.heap.size + 3 ≤ w1.heap.size := (by have hq := qk.size; first | omega | (simp at hq; omega)); have ql0 : w.heap.size < w1.heap.size := (by omega); have ql1 : w.heap.size + 1 < w1.heap.size := (by omega); have ql2 : w.heap.size + 1 + 1 < w1.heap.size := (by omega); have ql3 : ¬ w1.heap.size = w.heap.size := (by omega); clear qk)
      | (go_at_call 44; refine (len64_w _ (by omega) (by omega) _).mono ?_; rintro e' wz ⟨rfl, rfl⟩)
      | (go_at_call 45; (with_reducible refine (short0_w _ _ _ (by omega) (by omega) (by omega) (by omega) (by omega) (by omega) _).mono ?_); rintro e' w2 ⟨rfl, qk⟩; have HKw2 := Lib.hid qk; have qw20 : w2.cell? ⟨w.heap.size, 0, none⟩ = some (.bool tg) := qk.c; have qw21 : w2.cell? ⟨w.heap.size, 1, none⟩ = some (.int .i64 pe) := qk.c; have qw22 : w2.cell? ⟨w.heap.size, 2, none⟩ = some (.int .i64 ty) := qk.c; have qw23 : w2.cell? ⟨w.heap.size, 3, none⟩ = some (.int .i64 mo) := qk.c; have qw24 : w2.cell? ⟨w.heap.size, 4, none⟩ = some (.int .i64 e) := qk.c; have qw25 : w2.cell? ⟨w.heap.size, 5, none⟩ = some (.int .i64 b) := qk.c; have qw26 : w2.cell? ⟨w.heap.size, 6, none⟩ = some (.int .i64 t) := qk.c; have qw27 : w2.cell? ⟨w.heap.size, 7, none⟩ = some (.bool true) := qk.c; have qw28 : w2.cell? ⟨w.heap.size, 8, none⟩ = some (.int .u64 a) := qk.c; have qw29 : w2.cell? ⟨w.heap.size + 1, 0, none⟩ = some (.bool false) := qk.c; have qw210 : w2.cell? ⟨w.heap.size + 1, 1, none⟩ = some (.int .i64 0) := qk.c; have qw211 : w2.cell? ⟨w.heap.size + 1, 2, none⟩ = some (.int .i64 0) := qk.c; have qw212 : w2.cell? ⟨w.heap.size + 1, 3, none⟩ = some (.int .i64 0) := qk.c; have qw213 : w2.cell? ⟨w.heap.size + 1, 4, none⟩ = some (.int .i64 0) := qk.c; have qw214 : w2.cell? ⟨w.heap.size + 1, 5, none⟩ = some (.int .i64 0) := qk.c; have qw215 : w2.cell? ⟨w.heap.size + 1, 6, none⟩ = some (.int .i64 0) := qk.c; have qw216 : w2.cell? ⟨w.heap.size + 1, 7, none⟩ = some (.bool false) := qk.c; have qw217 : w2.cell? ⟨w.heap.size + 1, 8, none⟩ = some (.int .u64 0) := qk.c; have qw218 : w2.cell? ⟨w.heap.size + 1 + 1, 0, none⟩ = some (.int .u64 0) := qk.c; have qw219 : w2.cell? ⟨w.heap.size + 1 + 1, 1, none⟩ = some (.int .u64 a) := qk.c; have qw220 : w2.cell? ⟨w1.heap.size, 0, none⟩ = some (.int .u64 (wH (a + n))) := qk.c; have qw221 : w2.cell? ⟨w1.heap.size, 1, none⟩ = some (.int .u64 (wL (a + n))) := qk.c; have zw20 : w2.frozen? ⟨w.heap.size, 4, none⟩ = false := qk.z; have zw21 : w2.frozen? ⟨w.heap.size, 5, none⟩ = false := qk.z; have zw22 : w2.frozen? ⟨w.heap.size, 6, none⟩ = false := qk.z; have zw23 : w2.frozen? ⟨w.heap.size, 7, none⟩ = false := qk.z; have zw24 : w2.frozen? ⟨w.heap.size + 1, 0, none⟩ = false := qk.z; have zw25 : w2.frozen? ⟨w.heap.size + 1, 1, none⟩ = false := qk.z; have zw26 : w2.frozen? ⟨w.heap.size + 1, 2, none⟩ = false := qk.z; have zw27 : w2.frozen? ⟨w.heap.size + 1, 3, none⟩ = false := qk.z; have zw28 : w2.frozen? ⟨w.heap.size + 1, 4, none⟩ = false := qk.z; have zw29 : w2.frozen? ⟨w.heap.size + 1, 5, none⟩ = false := qk.z; have zw210 : w2.frozen? ⟨w.heap.size + 1, 6, none⟩ = false := qk.z; have zw211 : w2.frozen? ⟨w.heap.size + 1, 7, none⟩ = false := qk.z; have zw212 : w2.frozen? ⟨w.heap.size + 1, 8, none⟩ = false := qk.z; have KW : Kp w w2 := Kp.trans (by first | with_reducible assumption | (refine Kp.allocs (Kp.setCell ?_ ?_ _) _ _ <;> first | assumption | (dsimp only; omega))) qk; have qm : w1.heap.size + 1 ≤ w2.heap.size := (by have hq := qk.size; first | omega | (simp at hq; omega)); clear qk))
    refine bodyPost_ret (v := .tuple #[.agg #[tg, pe, ty, mo, .int .i64 ((k + 1 : Nat) : Int), .int .i64 (a / 2 ^ (k + 1 + 3) % 2048 * 8), .int .i64 (ceilV (a + n) (k + 1 + 3) * 8 % 4096), true, .int .u64 a], .bool (!lostB a (k + 1 + 3) && !lostB (a + n) (k + 1 + 3))]) ?_ rfl ⟨rfl, ?_⟩
    · simp (maxDischargeDepth := 8) [results, Try.results14, go_sem, *]
    · repeat' (first | with_reducible refine Kp.setCell ?_ ?_ _ | with_reducible refine Kp.allocs ?_ _ _)
      all_goals first | exact KW | (dsimp only; omega)
  · have hX : exV a n = k := by rw [hx0, hov]; simp [hc]
    have HX := Lib.hid hX
    clear hX hx0 hov
    have hcd : decide (1024 ≤ D) = false := by simpa using hc
    rw [HX.out]
    go_enter Try.func14, Try.ntmps14
    go_wp2_with (first
      | (go_at_call 43; (with_reducible refine (plus0_w _ _ (by omega) (by omega) (by omega) (by omega) _).mono ?_); rintro e' w1 ⟨rfl, qk⟩; have HKw1 := Lib.hid qk; have qw10 : w1.cell? ⟨w.heap.size, 0, none⟩ = some (.bool tg) := qk.c; have qw11 : w1.cell? ⟨w.heap.size, 1, none⟩ = some (.int .i64 pe) := qk.c; have qw12 : w1.cell? ⟨w.heap.size, 2, none⟩ = some (.int .i64 ty) := qk.c; have qw13 : w1.cell? ⟨w.heap.size, 3, none⟩ = some (.int .i64 mo) := qk.c; have qw14 : w1.cell? ⟨w.heap.size, 4, none⟩ = some (.int .i64 e) := qk.c; have qw15 : w1.cell? ⟨w.heap.size, 5, none⟩ = some (.int .i64 b) := qk.c; have qw16 : w1.cell? ⟨w.heap.size, 6, none⟩ = some (.int .i64 t) := qk.c; have qw17 : w1.cell? ⟨w.heap.size, 7, none⟩ = some (.bool g) := qk.c; have qw18 : w1.cell? ⟨w.heap.size, 8, none⟩ = some (.int .u64 a) := qk.c; have qw19 : w1.cell? ⟨w.heap.size + 1, 0, none⟩ = some (.bool false) := qk.c; have qw110 : w1.cell? ⟨w.heap.size + 1, 1, none⟩ = some (.int .i64 0) := qk.c; have qw111 : w1.cell? ⟨w.heap.size + 1, 2, none⟩ = some (.int .i64 0) := qk.c; have qw112 : w1.cell? ⟨w.heap.size + 1, 3, none⟩ = some (.int .i64 0) := qk.c; have qw113 : w1.cell? ⟨w.heap.size + 1, 4, none⟩ = some (.int .i64 0) := qk.c; have qw114 : w1.cell? ⟨w.heap.size + 1, 5, none⟩ = some (.int .i64 0) := qk.c; have qw115 : w1.cell? ⟨w.heap.size + 1, 6, none⟩ = some (.int .i64 0) := qk.c; have qw116 : w1.cell? ⟨w.heap.size + 1, 7, none⟩ = some (.bool false) := qk.c; have qw117 : w1.cell? ⟨w.heap.size + 1, 8, none⟩ = some (.int .u64 0) := qk.c; have qw118 : w1.cell? ⟨w.heap.size + 1 + 1, 0, none⟩ = some (.int .u64 0) := qk.c; have qw119 : w1.cell? ⟨w.heap.size + 1 + 1, 1, none⟩ = some (.int .u64 a) := qk.c; have zw10 : w1.frozen? ⟨w.heap.size, 4, none⟩ = false := qk.z; have zw11 : w1.frozen? ⟨w.heap.size, 5, none⟩ = false := qk.z; have zw12 : w1.frozen? ⟨w.heap.size, 6, none⟩ = false := qk.z; have zw13 : w1.frozen? ⟨w.heap.size, 7, none⟩ = false := qk.z; have zw14 : w1.frozen? ⟨w.heap.size + 1, 0, none⟩ = false := qk.z; have zw15 : w1.frozen? ⟨w.heap.size + 1, 1, none⟩ = false := qk.z; have zw16 : w1.frozen? ⟨w.heap.size + 1, 2, none⟩ = false := qk.z; have zw17 : w1.frozen? ⟨w.heap.size + 1, 3, none⟩ = false := qk.z; have zw18 : w1.frozen? ⟨w.heap.size + 1, 4, none⟩ = false := qk.z; have zw19 : w1.frozen? ⟨w.heap.size + 1, 5, none⟩ = false := qk.z; have zw110 : w1.frozen? ⟨w.heap.size + 1, 6, none⟩ = false := qk.z; have zw111 : w1.frozen? ⟨w.heap.size + 1, 7, none⟩ = false := qk.z; have zw112 : w1.frozen? ⟨w.heap.size + 1, 8, none⟩ = false := qk.z; have KW : Kp w w1 := Kp.trans (((Kp.refl w).allocs _ _).allocs _ _ |>.allocs _ _) qk; have ql : w.heap.size + 3 ≤ w1.heap.size := (by have hq := qk.size; first | omega | (simp at hq; omega)); have ql0 : w.heap.size < w1.heap.size := (by omega); have ql1 : w.heap.size + 1 < w1.heap.size := (by omega); have ql2 : w.heap.size + 1 + 1 < w1.heap.size := (by omega); have ql3 : ¬ w1.heap.size = w.heap.size := (by omega); clear qk)
      | (go_at_call 44; refine (len64_w _ (by omega) (by omega) _).mono ?_; rintro e' wz ⟨rfl, rfl⟩)
      | (go_at_call 45; (with_reducible refine (short0_w _ _ _ (by omega) (by omega) (by omega) (by omega) (by omega) (by omega) _).mono ?_); rintro e' w2 ⟨rfl, qk⟩; have HKw2 := Lib.hid qk; have qw20 : w2.cell? ⟨w.heap.size, 0, none⟩ = some (.bool tg) := qk.c; have qw21 : w2.cell? ⟨w.heap.size, 1, none⟩ = some (.int .i64 pe) := qk.c; have qw22 : w2.cell? ⟨w.heap.size, 2, none⟩ = some (.int .i64 ty) := qk.c; have qw23 : w2.cell? ⟨w.heap.size, 3, none⟩ = some (.int .i64 mo) := qk.c; have qw24 : w2.cell? ⟨w.heap.size, 4, none⟩ = some (.int .i64 e) := qk.c; have qw25 : w2.cell? ⟨w.heap.size, 5, none⟩ = some (.int .i64 b) := qk.c; have qw26 : w2.cell? ⟨w.heap.size, 6, none⟩ = some (.int .i64 t) := qk.c; have qw27 : w2.cell? ⟨w.heap.size, 7, none⟩ = some (.bool true) := qk.c; have qw28 : w2.cell? ⟨w.heap.size, 8, none⟩ = some (.int .u64 a) := qk.c; have qw29 : w2.cell? ⟨w.heap.size + 1, 0, none⟩ = some (.bool false) := qk.c; have qw210 : w2.cell? ⟨w.heap.size + 1, 1, none⟩ = some (.int .i64 0) := qk.c; have qw211 : w2.cell? ⟨w.heap.size + 1, 2, none⟩ = some (.int .i64 0) := qk.c; have qw212 : w2.cell? ⟨w.heap.size + 1, 3, none⟩ = some (.int .i64 0) := qk.c; have qw213 : w2.cell? ⟨w.heap.size + 1, 4, none⟩ = some (.int .i64 0) := qk.c; have qw214 : w2.cell? ⟨w.heap.size + 1, 5, none⟩ = some (.int .i64 0) := qk.c; have qw215 : w2.cell? ⟨w.heap.size + 1, 6, none⟩ = some (.int .i64 0) := qk.c; have qw216 : w2.cell? ⟨w.heap.size + 1, 7, none⟩ = some (.bool false) := qk.c; have qw217 : w2.cell? ⟨w.heap.size + 1, 8, none⟩ = some (.int .u64 0) := qk.c; have qw218 : w2.cell? ⟨w.heap.size + 1 + 1, 0, none⟩ = some (.int .u64 0) := qk.c; have qw219 : w2.cell? ⟨w.heap.size + 1 + 1, 1, none⟩ = some (.int .u64 a) := qk.c; have qw220 : w2.cell? ⟨w1.heap.size, 0, none⟩ = some (.int .u64 (wH (a + n))) := qk.c; have qw221 : w2.cell? ⟨w1.heap.size, 1, none⟩ = some (.int .u64 (wL (a + n))) := qk.c; have zw20 : w2.frozen? ⟨w.heap.size, 4, none⟩ = false := qk.z; have zw21 : w2.frozen? ⟨w.heap.size, 5, none⟩ = false := qk.z; have zw22 : w2.frozen? ⟨w.heap.size, 6, none⟩ = false := qk.z; have zw23 : w2.frozen? ⟨w.heap.size, 7, none⟩ = false := qk.z; have zw24 : w2.frozen? ⟨w.heap.size + 1, 0, none⟩ = false := qk.z; have zw25 : w2.frozen? ⟨w.heap.size + 1, 1, none⟩ = false := qk.z; have zw26 : w2.frozen? ⟨w.heap.size + 1, 2, none⟩ = false := qk.z; have zw27 : w2.frozen? ⟨w.heap.size + 1, 3, none⟩ = false := qk.z; have zw28 : w2.frozen? ⟨w.heap.size + 1, 4, none⟩ = false := qk.z; have zw29 : w2.frozen? ⟨w.heap.size + 1, 5, none⟩ = false := qk.z; have zw210 : w2.frozen? ⟨w.heap.size + 1, 6, none⟩ = false := qk.z; have zw211 : w2.frozen? ⟨w.heap.size + 1, 7, none⟩ = false := qk.z; have zw212 : w2.frozen? ⟨w.heap.size + 1, 8, none⟩ = false := qk.z; have KW : Kp w w2 := Kp.trans (by first | with_reducible assumption | (refine Kp.allocs (Kp.setCell ?_ ?_ _) _ _ <;> first | assumption | (dsimp only; omega))) qk; have qm : w1.heap.size + 1 ≤ w2.heap.size := (by have hq := qk.size; first | omega | (simp at hq; omega)); clear qk))
    refine bodyPost_ret (v := .tuple #[.agg #[tg, pe, ty, mo, .int .i64 (k : Int), .int .i64 (a / 2 ^ (k + 3) % 2048 * 8), .int .i64 (ceilV (a + n) (k + 3) * 8 % 4096), true, .int .u64 a], .bool (!lostB a (k + 3) && !lostB (a + n) (k + 3))]) ?_ rfl ⟨rfl, ?_⟩
    · simp (maxDischargeDepth := 8) [results, Try.results14, go_sem, *]
    · repeat' (first | with_reducible refine Kp.setCell ?_ ?_ _ | with_reducible refine Kp.allocs ?_ _ _)
      all_goals first | exact KW | (dsimp only; omega)
theorem lay_w (tg : Bool) (pe ty mo e b t : Int) (g : Bool) (a n : Int) (a0 : 0 ≤ a) (a1 : a < 18446744073709551616) (n0 : 0 ≤ n) (n1 : n < 18446744073709551616) (w : World) :
    Calls Try.prog 14 #[.agg #[tg, pe, ty, mo, e, b, t, g, .int .u64 a], .int .u64 n] w fun e' w' => e' = .returned (.tuple #[.agg #[tg, pe, ty, mo, .int .i64 (layE a n), .int .i64 (layB a n), .int .i64 (layT a n), .bool (bigB n), .int .u64 a], .bool (layX a n)]) ∧ Kp w w' := by
  by_cases h : 4096 ≤ n
  · have hb : bigB n = true := by simpa [bigB] using h
    have c := lay_big tg pe ty mo e b t g a n a0 a1 h n1 w
    simp only [layE, layB, layT, layX, hb, if_true]; exact c
  · have hb : bigB n = false := by simpa [bigB] using h
    have c := lay_small tg pe ty mo e b t g a n a0 a1 n0 (by omega) w
    simp only [layE, layB, layT, layX, hb, Bool.false_eq_true, if_false]; exact c
end Go.Proofs.Ytkddgjaflcjhiaa
