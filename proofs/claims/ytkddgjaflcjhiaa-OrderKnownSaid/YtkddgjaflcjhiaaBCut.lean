/-
  Contracts of math/bits.Len64 and of bounds.cut and bounds.shorten. Numbers are within their types; shifts are of at most 63 bits.
-/
import Derived.Test.YtkddgjaflcjhiaaBLayM
import Derived.Test.YtkddgjaflcjhiaaBOf
import Derived.Test.YtkddgjaflcjhiaaBBits
namespace Go.Proofs.Ytkddgjaflcjhiaa
open Go.ChangeShapes Go.WideShapes Go.ChangeAt Go.RowKit
set_option linter.unusedVariables false
set_option linter.unusedSimpArgs false

theorem lenN_aux (f x : Nat) : Lib.bitLenAux f x = lenN f x := by
  induction f generalizing x with
  | zero => simp [Lib.bitLenAux, lenN]
  | succ f ih => unfold Lib.bitLenAux lenN; split <;> simp_all <;> omega
theorem len64_w (x : Int) (h0 : 0 ≤ x) (h1 : x < 18446744073709551616) (w : World) :
    Calls Try.prog 44 #[.int .u64 x] w fun e w' => e = .returned (.int .i64 (len64 x)) ∧ w = w' := by
  have E : (len64 x : Int) = (Lib.bitLen x.toNat : Int) := by unfold len64 Lib.bitLen; rw [lenN_aux]
  rw [E]; exact bitLen_w x h0 (by omega) w
theorem cut_m (N : Int) (k : Nat) (h l : Int) (hN : N = wN h l) (h0 : 0 ≤ h) (h1 : h < 2) (l0 : 0 ≤ l) (l1 : l < 18446744073709551616) :
    wL (N / 2 ^ k) % 2048 = N / 2 ^ k % 2048 ∧ (lostB N k = false → wH (N / 2 ^ k * 2 ^ k) = h ∧ wL (N / 2 ^ k * 2 ^ k) = l) ∧ (lostB N k = true → ¬ (wH (N / 2 ^ k * 2 ^ k) = h ∧ wL (N / 2 ^ k * 2 ^ k) = l)) ∧ wN (wH (N / 2 ^ k)) (wL (N / 2 ^ k)) = N / 2 ^ k := by
  have hb := wN_bd h l h0 h1 l0 l1
  rw [← hN] at hb
  have hp := pow_pos' k
  have hd : 0 ≤ N / 2 ^ k ∧ N / 2 ^ k ≤ N := ⟨Int.ediv_nonneg hb.1 (Int.le_of_lt hp), Int.ediv_le_self _ hb.1⟩
  have hm := Int.emod_add_mul_ediv N (2 ^ k)
  have hm0 := Int.emod_nonneg N (show (2 : Int) ^ k ≠ 0 by omega)
  have hcm : N / 2 ^ k * 2 ^ k = 2 ^ k * (N / 2 ^ k) := Int.mul_comm _ _
  have hq0 : 0 ≤ N / 2 ^ k * 2 ^ k := Int.mul_nonneg hd.1 (Int.le_of_lt hp)
  refine ⟨by unfold wL; omega, fun hl => ?_, fun hl => ?_, by rw [wN_of]; omega⟩
  · simp only [lostB, decide_eq_false_iff_not, Decidable.not_not] at hl
    rw [show N / 2 ^ k * 2 ^ k = N by omega, hN]
    exact ⟨wH_wN h l h0 h1 l0 l1, wL_wN h l h0 h1 l0 l1⟩
  · simp only [lostB, decide_eq_true_eq] at hl
    rintro ⟨x, y⟩
    have hw : wN (wH (N / 2 ^ k * 2 ^ k)) (wL (N / 2 ^ k * 2 ^ k)) = N := by rw [x, y, hN]
    rw [wN_of] at hw
    generalize N / 2 ^ k * 2 ^ k = z at *
    omega
set_option maxHeartbeats 1000000 in
theorem cut_w (h l k : Int) (h0 : 0 ≤ h) (h1 : h < 2) (l0 : 0 ≤ l) (l1 : l < 18446744073709551616) (k0 : 0 ≤ k) (k1 : k ≤ 63) (w : World) :
    Calls Try.prog 77 #[.agg #[.int .u64 h, .int .u64 l], .int .u64 k] w fun e w' => e = .returned (.tuple #[.int .u64 (wN h l / 2 ^ k.toNat % 2048), .bool (lostB (wN h l) k.toNat)]) ∧ Kp w w' := by
  obtain ⟨m1, m2, m3, m4⟩ := cut_m (wN h l) k.toNat h l rfl h0 h1 l0 l1
  have M1 := Lib.hid m1
  clear m1
  have kb : Bh w (w.heap.size + 1) (w.alloc (.cells #[.int .u64 h, .int .u64 l] 69)) := ⟨(Kp.refl w).allocs _ _, by simp, by simp⟩
  have c0 := wL_lo (wN h l / 2 ^ k.toNat)
  have D : (lostB (wN h l) k.toNat = false ∧ wH (wN h l / 2 ^ k.toNat * 2 ^ k.toNat) = h ∧ wL (wN h l / 2 ^ k.toNat * 2 ^ k.toNat) = l) ∨ (lostB (wN h l) k.toNat = true ∧ ¬ wH (wN h l / 2 ^ k.toNat * 2 ^ k.toNat) = h) ∨ (lostB (wN h l) k.toNat = true ∧ wH (wN h l / 2 ^ k.toNat * 2 ^ k.toNat) = h ∧ ¬ wL (wN h l / 2 ^ k.toNat * 2 ^ k.toNat) = l) := by
    cases hl : lostB (wN h l) k.toNat
    · exact .inl ⟨rfl, m2 hl⟩
    · by_cases hx : wH (wN h l / 2 ^ k.toNat * 2 ^ k.toNat) = h
      · exact .inr (.inr ⟨rfl, hx, fun hy => m3 hl ⟨hx, hy⟩⟩)
      · exact .inr (.inl ⟨rfl, hx⟩)
  clear m2 m3
  rcases D with ⟨d0, d1, d2⟩ | ⟨d0, d1⟩ | ⟨d0, d1, d2⟩
  all_goals
    have D0 := Lib.hid d0
    clear d0
    go_enter Try.func77, Try.ntmps77
    go_wp2_with (first
      | (go_at_call 80; refine (down_w _ _ _ (by omega) (by omega) (by omega) (by omega) (by omega) (by omega) _).mono ?_; rintro e' w1 ⟨rfl, qk⟩; have q0 : w1.cell? ⟨w.heap.size, 0, none⟩ = some (.int .u64 h) := Bh.cell (n := w.heap.size + 1) (W := w) (by assumption) qk (by dsimp only; omega) (by first | with_reducible assumption | (simp [go_sem, *]; done)); have q1 : w1.cell? ⟨w.heap.size, 1, none⟩ = some (.int .u64 l) := Bh.cell (n := w.heap.size + 1) (W := w) (by assumption) qk (by dsimp only; omega) (by first | with_reducible assumption | (simp [go_sem, *]; done)); have qb : Bh w (w.heap.size + 1) w1 := Bh.step (by with_reducible assumption) qk; have ql := qb.le; have hz : w.heap.size < w1.heap.size := (by omega); have kc : Bh w (w1.heap.size + 1) (w1.alloc (.cells #[.int .u64 (wH (wN h l / 2 ^ k.toNat)), .int .u64 (wL (wN h l / 2 ^ k.toNat))] 69)) := ⟨qb.kp.allocs _ _, (by omega), (by simp)⟩; clear qk))
    go_region_held3 (fun w' => w'.cell? ⟨w.heap.size, 0, none⟩ = some (.int .u64 h) ∧ w'.cell? ⟨w.heap.size, 1, none⟩ = some (.int .u64 l) ∧ w'.cell? ⟨w1.heap.size, 0, none⟩ = some (.int .u64 (wH (wN h l / 2 ^ k.toNat))) ∧ w'.cell? ⟨w1.heap.size, 1, none⟩ = some (.int .u64 (wL (wN h l / 2 ^ k.toNat))) ∧ Bh w (w1.heap.size + 1) w')
      (first | (refine ⟨?_, ?_, ?_, ?_, ?_⟩ <;> first | with_reducible assumption | ((repeat' (first | with_reducible assumption | with_reducible apply Bh.drew | with_reducible apply Bh.alloc | with_reducible apply Bh.set | with_reducible refine Bh.cell_set (n := w1.heap.size + 1) (p := ⟨_, _, none⟩) ?_ ?_ ?_ | with_reducible refine Bh.cell_alloc (W := w) (n := w1.heap.size + 1) (p := ⟨_, _, none⟩) ?_ ?_ ?_ | (dsimp only; omega))); done) | (with_reducible apply Bh.drew; assumption) | (simp [go_sem, *]; done)))
      (first
        | (go_at_call 79; go_split_ands; refine (up_w _ _ _ (wH_lo _) (wH_hi _) (wL_lo _) (wL_hi _) (by omega) (by omega) _).mono ?_; rintro e w' ⟨rfl, qk⟩; have q0 : w'.cell? ⟨w.heap.size, 0, none⟩ = some (.int .u64 h) := Bh.cell (n := w1.heap.size + 1) (W := w) (by with_reducible assumption) qk (by dsimp only; omega) (by with_reducible assumption); have q1 : w'.cell? ⟨w.heap.size, 1, none⟩ = some (.int .u64 l) := Bh.cell (n := w1.heap.size + 1) (W := w) (by with_reducible assumption) qk (by dsimp only; omega) (by with_reducible assumption); have q2 : w'.cell? ⟨w1.heap.size, 0, none⟩ = some (.int .u64 (wH (wN h l / 2 ^ k.toNat))) := Bh.cell (n := w1.heap.size + 1) (W := w) (by with_reducible assumption) qk (by dsimp only; omega) (by with_reducible assumption); have q3 : w'.cell? ⟨w1.heap.size, 1, none⟩ = some (.int .u64 (wL (wN h l / 2 ^ k.toNat))) := Bh.cell (n := w1.heap.size + 1) (W := w) (by with_reducible assumption) qk (by dsimp only; omega) (by with_reducible assumption); have qb : Bh w (w1.heap.size + 1) w' := Bh.step (by with_reducible assumption) qk; have ql := qb.le; clear qk))
    go_wp2
    refine bodyPost_ret (v := .tuple #[.int .u64 (wN h l / 2 ^ k.toNat % 2048), .bool (lostB (wN h l) k.toNat)]) ?_ rfl ⟨rfl, qb.kp⟩
    have d0 := D0.out
    rw [d0, ← M1.out]
    simp [results, Try.results77, go_sem]
    try (rw [Int.tmod_eq_emod_of_nonneg (wL_lo _)])
end Go.Proofs.Ytkddgjaflcjhiaa
