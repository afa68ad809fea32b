/-
  Contracts of bounds.Of and what it calls: the bounds of a capability whose fields are in their places are those of the plain mathematics. B below 2^14, T below 2^12, E from 0 to 52.
-/
import Derived.Test.YtkddgjaflcjhiaaBOfM
namespace Go.Proofs.Ytkddgjaflcjhiaa
open Go.ChangeShapes Go.WideShapes Go.ChangeAt Go.RowKit
set_option linter.unusedVariables false
set_option linter.unusedSimpArgs false

theorem cor_eq (b : Int) (b0 : 0 ≤ b) (b1 : b < 16384) : IntKind.u64.wrap ((IntKind.u64.wrap (b / 2048 - 1)).tmod 8 * 2048) = corV b := by
  rw [Int.tmod_eq_emod_of_nonneg (wrap_bd _).1, IntKind.wrap_u64, IntKind.wrap_u64]; unfold corV; omega
theorem mid_eq (e a : Int) (a0 : 0 ≤ a) : (a / 2 ^ e.toNat).tmod 16384 = midV e a := by
  rw [Int.tmod_eq_emod_of_nonneg (Int.ediv_nonneg a0 (Int.le_of_lt (pow_pos' _)))]; rfl
theorem div_min (a : Int) (n : Nat) (a0 : 0 ≤ a) (a1 : a < 18446744073709551616) : a / 2 ^ min n 64 = a / 2 ^ n := by
  by_cases h : n ≤ 64
  · rw [Nat.min_eq_left h]
  · rw [Nat.min_eq_right (by omega), pow64, Int.ediv_eq_zero_of_lt a0 a1, Int.ediv_eq_zero_of_lt a0]
    have : (2 : Int) ^ n = 2 ^ 64 * 2 ^ (n - 64) := by rw [← two_pow_add]; congr 1; omega
    have h2 := pow_pos' (n - 64)
    rw [this, pow64]
    have : (18446744073709551616 : Int) * 1 ≤ 18446744073709551616 * 2 ^ (n - 64) := Int.mul_le_mul_of_nonneg_left (by omega) (by omega)
    omega
theorem upp_eq (e a : Int) (a0 : 0 ≤ a) (a1 : a < 18446744073709551616) : a / 2 ^ min (e + 14).toNat 64 = uppV e a := div_min a _ a0 a1
set_option maxHeartbeats 1000000 in
theorem part_w (tg : Bool) (pe ty mo e b t : Int) (g : Bool) (a x : Int) (e0 : 0 ≤ e) (e1 : e ≤ 52) (b0 : 0 ≤ b) (b1 : b < 16384) (a0 : 0 ≤ a) (a1 : a < 18446744073709551616) (x0 : 0 ≤ x) (x1 : x < 16384) (w : World) :
    Calls Try.prog 78 #[.agg #[tg, pe, ty, mo, e, b, t, g, .int .u64 a], .int .u64 x] w fun e' w' => e' = .returned (.int .u64 (IntKind.u64.wrap (uppV e a + stepV b e a x))) ∧ Kp w w' := by
  have f1 := cor_eq b b0 b1
  have f2 := mid_eq e a a0
  have f3 := upp_eq e a a0 a1
  have f4 : (0 : Int) ≤ e + 14 := by omega
  have hu := uppV_bd e a a0 a1
  obtain ⟨hu0, hu1⟩ := hu
  have hc := corV_bd b
  obtain ⟨hc0, hc1⟩ := hc
  have hm := midV_bd e a
  obtain ⟨hm0, hm1⟩ := hm
  go_enter Try.func78, Try.ntmps78
  go_wp2
  all_goals
    go_ret
    refine ⟨ret_int ?_, (Kp.refl w).allocs _ _⟩
    clear f1 f2 f3
    rw [IntKind.wrap_u64]
    try rw [IntKind.wrap_u64]
    unfold stepV
    (repeat' split) <;> omega
theorem wholeT_w (tg : Bool) (pe ty mo e b t : Int) (g : Bool) (a : Int) (b0 : 0 ≤ b) (b1 : b < 16384) (t0 : 0 ≤ t) (t1 : t < 4096) (w : World) :
    Calls Try.prog 48 #[.agg #[tg, pe, ty, mo, e, b, t, g, .int .u64 a]] w fun e' w' => e' = .returned (.int .u64 (t14 b t g)) ∧ Kp w w' := by
  have O : ∀ z : Int, 0 ≤ z → z < 4 → bits BinOp.or IntKind.u64 (z * 4096) t = z * 4096 + t := fun z z0 z1 => or_add 4096 t z 12 (by decide) (by omega) t0 t1 z0 (by omega)
  have HO := Lib.hid O
  clear O
  cases g
  all_goals
    go_enter Try.func48, Try.ntmps48
    go_wp2_with fail
    go_quiet (fail)
    go_wp2
  all_goals
    go_ret
    refine ⟨ret_int ?_, ((Kp.refl w).allocs _ _).drewN _⟩
    refine (HO.out _ (by omega) (by omega)).trans ?_
    unfold t14 b01 ltB
    simp only [decide_eq_true_eq]
    split <;> simp <;> omega
theorem place_w (tg : Bool) (pe ty mo e b t : Int) (g : Bool) (a x : Int) (e0 : 0 ≤ e) (e1 : e ≤ 52) (b0 : 0 ≤ b) (b1 : b < 16384) (a0 : 0 ≤ a) (a1 : a < 18446744073709551616) (x0 : 0 ≤ x) (x1 : x < 16384) (w : World) :
    Calls Try.prog 47 #[.agg #[tg, pe, ty, mo, e, b, t, g, .int .u64 a], .int .u64 x] w fun e' w' => e' = .returned (.agg #[.int .u64 (wH (plcV b e a x)), .int .u64 (wL (plcV b e a x))]) ∧ Kp w w' := by
  have k0 : Bh w (w.heap.size + 2) ((w.alloc (.cells #[tg, pe, ty, mo, e, b, t, g, .int .u64 a] 25)).alloc (.cells #[.int .u64 0, .int .u64 0] 69)) := ⟨((Kp.refl w).allocs _ _).allocs _ _, by simp, by simp⟩
  have hp := Lib.hid (plc_wrap (uppV e a + stepV b e a x) x e e0 e1)
  have hw := wrap_bd (uppV e a + stepV b e a x)
  go_enter Try.func47, Try.ntmps47
  go_wp2_with (first
    | (go_at_call 78; refine (part_w _ _ _ _ _ _ _ _ _ _ (by omega) (by omega) (by omega) (by omega) (by omega) (by omega) (by omega) (by omega) _).mono ?_; rintro e' w1 ⟨rfl, qk⟩; have q0 : w1.cell? ⟨w.heap.size + 1, 0, none⟩ = some (.int .u64 0) := Bh.cell (n := w.heap.size + 2) (W := w) (by assumption) qk (by dsimp only; omega) (by first | with_reducible assumption | (simp [go_sem, *]; done)); have q1 : w1.cell? ⟨w.heap.size + 1, 1, none⟩ = some (.int .u64 0) := Bh.cell (n := w.heap.size + 2) (W := w) (by assumption) qk (by dsimp only; omega) (by first | with_reducible assumption | (simp [go_sem, *]; done)); have z0 : w1.frozen? ⟨w.heap.size + 1, 0, none⟩ = false := (qk.2 _).trans (by first | with_reducible assumption | (simp [go_sem, *]; done)); have z1 : w1.frozen? ⟨w.heap.size + 1, 1, none⟩ = false := (qk.2 _).trans (by first | with_reducible assumption | (simp [go_sem, *]; done)); have qb : Bh w (w.heap.size + 2) w1 := Bh.step (by with_reducible assumption) qk; have ql := qb.le; clear qk)
    | (go_at_call 79; refine (up_w _ _ _ (by omega) (by omega) (by omega) (by omega) (by omega) (by omega) _).mono ?_; rintro e' w1 ⟨rfl, qk⟩; have q0 : w1.cell? ⟨w.heap.size + 1, 0, none⟩ = some (.int .u64 0) := Bh.cell (n := w.heap.size + 2) (W := w) (by assumption) qk (by dsimp only; omega) (by first | with_reducible assumption | (simp [go_sem, *]; done)); have q1 : w1.cell? ⟨w.heap.size + 1, 1, none⟩ = some (.int .u64 0) := Bh.cell (n := w.heap.size + 2) (W := w) (by assumption) qk (by dsimp only; omega) (by first | with_reducible assumption | (simp [go_sem, *]; done)); have z0 : w1.frozen? ⟨w.heap.size + 1, 0, none⟩ = false := (qk.2 _).trans (by first | with_reducible assumption | (simp [go_sem, *]; done)); have z1 : w1.frozen? ⟨w.heap.size + 1, 1, none⟩ = false := (qk.2 _).trans (by first | with_reducible assumption | (simp [go_sem, *]; done)); have qb : Bh w (w.heap.size + 2) w1 := Bh.step (by with_reducible assumption) qk; have ql := qb.le; clear qk)
    | (go_at_call 43; refine (plus_w _ _ _ _ (wH_lo _) (wH_hi _) (wL_lo _) (wL_hi _) (wH_lo _) (wH_hi _) (wL_lo _) (wL_hi _) _).mono ?_; rintro e' w1 ⟨rfl, qk⟩; have q0 : w1.cell? ⟨w.heap.size + 1, 0, none⟩ = some (.int .u64 0) := Bh.cell (n := w.heap.size + 2) (W := w) (by assumption) qk (by dsimp only; omega) (by first | with_reducible assumption | (simp [go_sem, *]; done)); have q1 : w1.cell? ⟨w.heap.size + 1, 1, none⟩ = some (.int .u64 0) := Bh.cell (n := w.heap.size + 2) (W := w) (by assumption) qk (by dsimp only; omega) (by first | with_reducible assumption | (simp [go_sem, *]; done)); have z0 : w1.frozen? ⟨w.heap.size + 1, 0, none⟩ = false := (qk.2 _).trans (by first | with_reducible assumption | (simp [go_sem, *]; done)); have z1 : w1.frozen? ⟨w.heap.size + 1, 1, none⟩ = false := (qk.2 _).trans (by first | with_reducible assumption | (simp [go_sem, *]; done)); have qb : Bh w (w.heap.size + 2) w1 := Bh.step (by with_reducible assumption) qk; have ql := qb.le; clear qk))
  refine bodyPost_ret (v := .agg #[.int .u64 (wH _), .int .u64 (wL _)]) ?_ rfl ⟨ret_wide (wH_congr hp.out) (wL_congr hp.out), (qb.kp.setCell (by dsimp only; omega) _).setCell (by dsimp only; omega) _⟩
  simp [results, Try.results47, go_sem, q0, q1]
theorem far_w (h l i k : Int) (h0 : 0 ≤ h) (h1 : h < 2) (l0 : 0 ≤ l) (l1 : l < 18446744073709551616) (k0 : 0 ≤ k) (k1 : k < 18446744073709551616) (w : World) :
    Calls Try.prog 49 #[.agg #[.int .u64 i, .int .u64 k], .agg #[.int .u64 h, .int .u64 l]] w fun e' w' => e' = .returned (.bool (farB h l k)) ∧ Kp w w' := by
  have kk : Bh w (w.heap.size + 2) ((w.alloc (.cells #[.int .u64 i, .int .u64 k] 69)).alloc (.cells #[.int .u64 h, .int .u64 l] 69)) := ⟨((Kp.refl w).allocs _ _).allocs _ _, by simp, by simp⟩
  have hN := wN_bd h l h0 h1 l0 l1
  have hfd : ∀ (x y : Int) (w : World), (Instr.field 69 (.agg #[.int .u64 x, .int .u64 y]) 1).run Try.prog w = .ok (.int .u64 y) w := fun _ _ _ => by kernel_rfl
  go_enter Try.func49, Try.ntmps49
  go_wp2_with fail
  go_region_held3 (fun w' => w'.cell? ⟨w.heap.size, 0, none⟩ = some (.int .u64 i) ∧ w'.cell? ⟨w.heap.size, 1, none⟩ = some (.int .u64 k) ∧ w'.cell? ⟨w.heap.size + 1, 0, none⟩ = some (.int .u64 h) ∧ w'.cell? ⟨w.heap.size + 1, 1, none⟩ = some (.int .u64 l) ∧ Bh w (w.heap.size + 2) w')
    (first | (refine ⟨?_, ?_, ?_, ?_, ?_⟩ <;> first | with_reducible assumption | ((repeat' (first | with_reducible assumption | with_reducible apply Bh.drew | with_reducible apply Bh.alloc | with_reducible apply Bh.set | with_reducible refine Bh.cell_set (n := w.heap.size + 2) (p := ⟨_, _, none⟩) ?_ ?_ ?_ | with_reducible refine Bh.cell_alloc (W := w) (n := w.heap.size + 2) (p := ⟨_, _, none⟩) ?_ ?_ ?_ | (dsimp only; omega))); done) | (with_reducible apply Bh.drew; assumption) | (simp [go_sem, *]; done)))
    (first
      | (go_at_call 80; go_split_ands; refine (down_w _ _ _ (by omega) (by omega) (by omega) (by omega) (by omega) (by omega) _).mono ?_; rintro e w' ⟨rfl, qk⟩; have q0 : w'.cell? ⟨w.heap.size, 0, none⟩ = some (.int .u64 i) := Bh.cell (n := w.heap.size + 2) (W := w) (by with_reducible assumption) qk (by dsimp only; omega) (by with_reducible assumption); have q1 : w'.cell? ⟨w.heap.size, 1, none⟩ = some (.int .u64 k) := Bh.cell (n := w.heap.size + 2) (W := w) (by with_reducible assumption) qk (by dsimp only; omega) (by with_reducible assumption); have q2 : w'.cell? ⟨w.heap.size + 1, 0, none⟩ = some (.int .u64 h) := Bh.cell (n := w.heap.size + 2) (W := w) (by with_reducible assumption) qk (by dsimp only; omega) (by with_reducible assumption); have q3 : w'.cell? ⟨w.heap.size + 1, 1, none⟩ = some (.int .u64 l) := Bh.cell (n := w.heap.size + 2) (W := w) (by with_reducible assumption) qk (by dsimp only; omega) (by with_reducible assumption); have qb : Bh w (w.heap.size + 2) w' := Bh.step (by with_reducible assumption) qk; have ql := qb.le; clear qk))
  go_wp2
  go_ret
  refine ⟨ret_bool ?_, qb.kp⟩
  unfold farB
  rw [← wL_mod]
  show decide (_ < _) = _
  rw [decide_eq_decide]
  rw [Int.tmod_eq_emod_of_nonneg (wrap_bd _).1, IntKind.wrap_u64]
  unfold wL
  omega
end Go.Proofs.Ytkddgjaflcjhiaa
