/-
  Contracts of bounds.Within, bounds.In and bounds.Len: what they say of ranges, as true numbers. Numbers are within their types.
-/
import Derived.Test.YtkddgjaflcjhiaaBWide
import Derived.Deep.RegionHeld3
import Derived.Deep.DeepCutAuto
namespace Go.Proofs.Ytkddgjaflcjhiaa
open Go.ChangeShapes Go.WideShapes Go.ChangeAt Go.RowKit
set_option linter.unusedVariables false
set_option linter.unusedSimpArgs false

def topN (t : Int) (o : Bool) : Int := wN (b01 o) t
theorem topN_bd (t : Int) (o : Bool) (t0 : 0 ≤ t) (t1 : t < 18446744073709551616) : 0 ≤ topN t o ∧ topN t o < 36893488147419103232 := wN_bd _ _ (b01_lo o) (b01_hi o) t0 t1
def withinB (b t : Int) (o : Bool) (c u : Int) (p : Bool) : Bool := decide (c ≤ b) && !ltB (topN u p) (topN t o)
def inB (b t : Int) (o : Bool) (a n : Int) : Bool := decide (0 ≤ n) && decide (b ≤ a) && !ltB (topN t o) (a + n)
def lenV (b t : Int) (o : Bool) : Int := if topN t o < b then 0 else if b + 18446744073709551616 ≤ topN t o then 18446744073709551615 else topN t o - b

theorem within_w (b t : Int) (o : Bool) (c u : Int) (p : Bool) (t0 : 0 ≤ t) (t1 : t < 18446744073709551616) (u0 : 0 ≤ u) (u1 : u < 18446744073709551616) (w : World) :
    Calls Try.prog 17 #[.agg #[.int .u64 b, .int .u64 t, o], .agg #[.int .u64 c, .int .u64 u, p]] w fun e w' => e = .returned (.bool (withinB b t o c u p)) ∧ Kp w w' := by
  by_cases hb : c ≤ b
  · have hd : decide (c ≤ b) = true := by simpa using hb
    have k0 : Bh w (w.heap.size + 2) ((w.alloc (.cells #[.int .u64 b, .int .u64 t, o] 39)).alloc (.cells #[.int .u64 c, .int .u64 u, p] 39)) := ⟨((Kp.refl w).allocs _ _).allocs _ _, by simp, by simp⟩
    go_enter Try.func17, Try.ntmps17
    go_wp2_with fail
    go_region_held3 (fun w' => w'.cell? ⟨w.heap.size, 0, none⟩ = some (.int .u64 b) ∧ w'.cell? ⟨w.heap.size, 1, none⟩ = some (.int .u64 t) ∧ w'.cell? ⟨w.heap.size, 2, none⟩ = some (.bool o) ∧ w'.cell? ⟨w.heap.size + 1, 0, none⟩ = some (.int .u64 c) ∧ w'.cell? ⟨w.heap.size + 1, 1, none⟩ = some (.int .u64 u) ∧ w'.cell? ⟨w.heap.size + 1, 2, none⟩ = some (.bool p) ∧ Bh w (w.heap.size + 2) w')
      (first | (refine ⟨?_, ?_, ?_, ?_, ?_, ?_, ?_⟩ <;> first | with_reducible assumption | ((repeat' (first | with_reducible assumption | with_reducible apply Bh.drew | with_reducible apply Bh.alloc | with_reducible apply Bh.set | with_reducible refine Bh.cell_set (n := w.heap.size + 2) (p := ⟨_, _, none⟩) ?_ ?_ ?_ | with_reducible refine Bh.cell_alloc (W := w) (n := w.heap.size + 2) (p := ⟨_, _, none⟩) ?_ ?_ ?_ | (dsimp only; omega))); done) | (with_reducible apply Bh.drew; assumption) | (simp [go_sem, *]; done)))
      (first
        | (go_at_call 50; go_split_ands; refine (topOf_w _ _ _ _).mono ?_; rintro e w' ⟨rfl, qk⟩; have q0 : w'.cell? ⟨w.heap.size, 0, none⟩ = some (.int .u64 b) := Bh.cell (n := w.heap.size + 2) (W := w) (by with_reducible assumption) qk (by dsimp only; omega) (by with_reducible assumption); have q1 : w'.cell? ⟨w.heap.size, 1, none⟩ = some (.int .u64 t) := Bh.cell (n := w.heap.size + 2) (W := w) (by with_reducible assumption) qk (by dsimp only; omega) (by with_reducible assumption); have q2 : w'.cell? ⟨w.heap.size, 2, none⟩ = some (.bool o) := Bh.cell (n := w.heap.size + 2) (W := w) (by with_reducible assumption) qk (by dsimp only; omega) (by with_reducible assumption); have q3 : w'.cell? ⟨w.heap.size + 1, 0, none⟩ = some (.int .u64 c) := Bh.cell (n := w.heap.size + 2) (W := w) (by with_reducible assumption) qk (by dsimp only; omega) (by with_reducible assumption); have q4 : w'.cell? ⟨w.heap.size + 1, 1, none⟩ = some (.int .u64 u) := Bh.cell (n := w.heap.size + 2) (W := w) (by with_reducible assumption) qk (by dsimp only; omega) (by with_reducible assumption); have q5 : w'.cell? ⟨w.heap.size + 1, 2, none⟩ = some (.bool p) := Bh.cell (n := w.heap.size + 2) (W := w) (by with_reducible assumption) qk (by dsimp only; omega) (by with_reducible assumption); have qb : Bh w (w.heap.size + 2) w' := Bh.step (by with_reducible assumption) qk; have ql := qb.le; clear qk)
        | (go_at_call 51; go_split_ands; refine (below_w _ _ _ _ (b01_lo _) (b01_hi _) (by omega) (by omega) (b01_lo _) (b01_hi _) (by omega) (by omega) _).mono ?_; rintro e w' ⟨rfl, qk⟩; have q0 : w'.cell? ⟨w.heap.size, 0, none⟩ = some (.int .u64 b) := Bh.cell (n := w.heap.size + 2) (W := w) (by with_reducible assumption) qk (by dsimp only; omega) (by with_reducible assumption); have q1 : w'.cell? ⟨w.heap.size, 1, none⟩ = some (.int .u64 t) := Bh.cell (n := w.heap.size + 2) (W := w) (by with_reducible assumption) qk (by dsimp only; omega) (by with_reducible assumption); have q2 : w'.cell? ⟨w.heap.size, 2, none⟩ = some (.bool o) := Bh.cell (n := w.heap.size + 2) (W := w) (by with_reducible assumption) qk (by dsimp only; omega) (by with_reducible assumption); have q3 : w'.cell? ⟨w.heap.size + 1, 0, none⟩ = some (.int .u64 c) := Bh.cell (n := w.heap.size + 2) (W := w) (by with_reducible assumption) qk (by dsimp only; omega) (by with_reducible assumption); have q4 : w'.cell? ⟨w.heap.size + 1, 1, none⟩ = some (.int .u64 u) := Bh.cell (n := w.heap.size + 2) (W := w) (by with_reducible assumption) qk (by dsimp only; omega) (by with_reducible assumption); have q5 : w'.cell? ⟨w.heap.size + 1, 2, none⟩ = some (.bool p) := Bh.cell (n := w.heap.size + 2) (W := w) (by with_reducible assumption) qk (by dsimp only; omega) (by with_reducible assumption); have qb : Bh w (w.heap.size + 2) w' := Bh.step (by with_reducible assumption) qk; have ql := qb.le; clear qk))
    go_wp2
    go_ret
    refine ⟨ret_bool ?_, qb.kp⟩
    show (!ltB (wN (b01 p) u) (wN (b01 o) t)) = _
    simp [withinB, topN, hd]
  · have hd : decide (c ≤ b) = false := by simpa using hb
    go_enter Try.func17, Try.ntmps17
    go_wp2_with fail
    go_quiet (fail)
    go_wp2
    go_ret
    refine ⟨ret_bool ?_, (((Kp.refl w).allocs _ _).allocs _ _).drewN _⟩
    show false = _
    simp [withinB, hd]

theorem in_w (b t : Int) (o : Bool) (a n : Int) (t0 : 0 ≤ t) (t1 : t < 18446744073709551616) (a0 : 0 ≤ a) (a1 : a < 18446744073709551616) (n0 : -9223372036854775808 ≤ n) (n1 : n < 9223372036854775808) (w : World) :
    Calls Try.prog 92 #[.agg #[.int .u64 b, .int .u64 t, o], .int .u64 a, n] w fun e w' => e = .returned (.bool (inB b t o a n)) ∧ Kp w w' := by
  have hw := wrap_bd n
  by_cases hn : 0 ≤ n
  · have hdn : decide (0 ≤ n) = true := by simpa using hn
    have X : wN (wH (wN 0 a + wN 0 n)) (wL (wN 0 a + wN 0 n)) = a + n := by rw [wN_of]; unfold wN; omega
    have HX := Lib.hid X
    clear X
    by_cases hb : b ≤ a
    · have hd : decide (b ≤ a) = true := by simpa using hb
      go_enter Try.func92, Try.ntmps92
      go_wp2_with (go_at_call 43; refine (plus_w _ _ _ _ (by omega) (by omega) (by omega) (by omega) (by omega) (by omega) (by omega) (by omega) _).mono ?_; rintro e w1 ⟨rfl, hk⟩; have c0 : w1.cell? ⟨w.heap.size, 0, none⟩ = some (.int .u64 b) := (by rw [hk.cell (by simp)]; simp [go_sem]); have c1 : w1.cell? ⟨w.heap.size, 1, none⟩ = some (.int .u64 t) := (by rw [hk.cell (by simp)]; simp [go_sem]); have c2 : w1.cell? ⟨w.heap.size, 2, none⟩ = some (.bool o) := (by rw [hk.cell (by simp)]; simp [go_sem]); have hz : w.heap.size < w1.heap.size := (by have := hk.size; simp at this; omega); have k1 : Bh w (w1.heap.size + 1) (w1.alloc (.cells #[.int .u64 (wH (wN 0 a + wN 0 n)), .int .u64 (wL (wN 0 a + wN 0 n))] 69)) := ⟨(((Kp.refl w).allocs _ _).trans hk).allocs _ _, by omega, by simp⟩; clear hk)
      go_region_held3 (fun w' => w'.cell? ⟨w.heap.size, 0, none⟩ = some (.int .u64 b) ∧ w'.cell? ⟨w.heap.size, 1, none⟩ = some (.int .u64 t) ∧ w'.cell? ⟨w.heap.size, 2, none⟩ = some (.bool o) ∧ w'.cell? ⟨w1.heap.size, 0, none⟩ = some (.int .u64 (wH (wN 0 a + wN 0 n))) ∧ w'.cell? ⟨w1.heap.size, 1, none⟩ = some (.int .u64 (wL (wN 0 a + wN 0 n))) ∧ Bh w (w1.heap.size + 1) w')
        (first | (refine ⟨?_, ?_, ?_, ?_, ?_, ?_⟩ <;> first | with_reducible assumption | ((repeat' (first | with_reducible assumption | with_reducible apply Bh.drew | with_reducible apply Bh.alloc | with_reducible apply Bh.set | with_reducible refine Bh.cell_set (n := w1.heap.size + 1) (p := ⟨_, _, none⟩) ?_ ?_ ?_ | with_reducible refine Bh.cell_alloc (W := w) (n := w1.heap.size + 1) (p := ⟨_, _, none⟩) ?_ ?_ ?_ | (dsimp only; omega))); done) | (with_reducible apply Bh.drew; assumption) | (simp [go_sem, *]; done)))
        (first
          | (go_at_call 50; go_split_ands; refine (topOf_w _ _ _ _).mono ?_; rintro e w' ⟨rfl, qk⟩; have q0 : w'.cell? ⟨w.heap.size, 0, none⟩ = some (.int .u64 b) := Bh.cell (n := w1.heap.size + 1) (W := w) (by with_reducible assumption) qk (by dsimp only; omega) (by with_reducible assumption); have q1 : w'.cell? ⟨w.heap.size, 1, none⟩ = some (.int .u64 t) := Bh.cell (n := w1.heap.size + 1) (W := w) (by with_reducible assumption) qk (by dsimp only; omega) (by with_reducible assumption); have q2 : w'.cell? ⟨w.heap.size, 2, none⟩ = some (.bool o) := Bh.cell (n := w1.heap.size + 1) (W := w) (by with_reducible assumption) qk (by dsimp only; omega) (by with_reducible assumption); have q3 : w'.cell? ⟨w1.heap.size, 0, none⟩ = some (.int .u64 (wH (wN 0 a + wN 0 n))) := Bh.cell (n := w1.heap.size + 1) (W := w) (by with_reducible assumption) qk (by dsimp only; omega) (by with_reducible assumption); have q4 : w'.cell? ⟨w1.heap.size, 1, none⟩ = some (.int .u64 (wL (wN 0 a + wN 0 n))) := Bh.cell (n := w1.heap.size + 1) (W := w) (by with_reducible assumption) qk (by dsimp only; omega) (by with_reducible assumption); have qb : Bh w (w1.heap.size + 1) w' := Bh.step (by with_reducible assumption) qk; have ql := qb.le; clear qk)
          | (go_at_call 51; go_split_ands; refine (below_w _ _ _ _ (b01_lo _) (b01_hi _) (by omega) (by omega) (wH_lo _) (wH_hi _) (wL_lo _) (wL_hi _) _).mono ?_; rintro e w' ⟨rfl, qk⟩; have q0 : w'.cell? ⟨w.heap.size, 0, none⟩ = some (.int .u64 b) := Bh.cell (n := w1.heap.size + 1) (W := w) (by with_reducible assumption) qk (by dsimp only; omega) (by with_reducible assumption); have q1 : w'.cell? ⟨w.heap.size, 1, none⟩ = some (.int .u64 t) := Bh.cell (n := w1.heap.size + 1) (W := w) (by with_reducible assumption) qk (by dsimp only; omega) (by with_reducible assumption); have q2 : w'.cell? ⟨w.heap.size, 2, none⟩ = some (.bool o) := Bh.cell (n := w1.heap.size + 1) (W := w) (by with_reducible assumption) qk (by dsimp only; omega) (by with_reducible assumption); have q3 : w'.cell? ⟨w1.heap.size, 0, none⟩ = some (.int .u64 (wH (wN 0 a + wN 0 n))) := Bh.cell (n := w1.heap.size + 1) (W := w) (by with_reducible assumption) qk (by dsimp only; omega) (by with_reducible assumption); have q4 : w'.cell? ⟨w1.heap.size, 1, none⟩ = some (.int .u64 (wL (wN 0 a + wN 0 n))) := Bh.cell (n := w1.heap.size + 1) (W := w) (by with_reducible assumption) qk (by dsimp only; omega) (by with_reducible assumption); have qb : Bh w (w1.heap.size + 1) w' := Bh.step (by with_reducible assumption) qk; have ql := qb.le; clear qk))
      go_wp2
      go_ret
      refine ⟨ret_bool ?_, qb.kp⟩
      show (!ltB (wN (b01 o) t) (wN (wH (wN 0 a + wN 0 n)) (wL (wN 0 a + wN 0 n)))) = _
      rw [HX.out]
      simp [inB, topN, hd, hdn]
    · have hd : decide (b ≤ a) = false := by simpa using hb
      go_enter Try.func92, Try.ntmps92
      go_wp2_with (go_at_call 43; refine (plus_w _ _ _ _ (by omega) (by omega) (by omega) (by omega) (by omega) (by omega) (by omega) (by omega) _).mono ?_; rintro e w1 ⟨rfl, hk⟩; have c0 : w1.cell? ⟨w.heap.size, 0, none⟩ = some (.int .u64 b) := (by rw [hk.cell (by simp)]; simp [go_sem]); have hz : w.heap.size < w1.heap.size := (by have := hk.size; simp at this; omega); have HK := Lib.hid hk; clear hk)
      go_quiet (fail)
      go_wp2
      go_ret
      refine ⟨ret_bool ?_, ((((Kp.refl w).allocs _ _).trans HK.out).allocs _ _).drewN _⟩
      show false = _
      simp [inB, hd]
  · have hdn : decide (0 ≤ n) = false := by simpa using hn
    go_enter Try.func92, Try.ntmps92
    go_wp2_with (go_at_call 43; refine (plus_w _ _ _ _ (by omega) (by omega) (by omega) (by omega) (by omega) (by omega) (by omega) (by omega) _).mono ?_; rintro e w1 ⟨rfl, hk⟩; have HK := Lib.hid hk; clear hk)
    go_quiet (fail)
    go_wp2
    go_ret
    refine ⟨ret_bool ?_, ((((Kp.refl w).allocs _ _).trans HK.out).allocs _ _).drewN _⟩
    show false = _
    simp [inB, hdn]

theorem len_m (b t : Int) (o : Bool) (b0 : 0 ≤ b) (b1 : b < 18446744073709551616) (t0 : 0 ≤ t) (t1 : t < 18446744073709551616) :
    wN 0 b = b ∧ wN (wH (wN 0 b + wN 1 0)) (wL (wN 0 b + wN 1 0)) = b + 18446744073709551616 ∧ (topN t o < b → lenV b t o = 0) ∧ (b ≤ topN t o → b + 18446744073709551616 ≤ topN t o → lenV b t o = 18446744073709551615) ∧
    (b ≤ topN t o → topN t o < b + 18446744073709551616 → lenV b t o = IntKind.u64.wrap (t - b)) := by
  refine ⟨by unfold wN; omega, by rw [wN_of]; unfold wN; omega, fun h => by simp [lenV, h], fun h1 h2 => ?_, fun h1 h2 => ?_⟩
  · unfold lenV; rw [if_neg (by omega), if_pos h2]
  · unfold lenV; rw [if_neg (by omega), if_neg (by omega), IntKind.wrap_u64]
    cases o <;> simp only [topN, wN, b01, if_true, if_false, Bool.false_eq_true] at * <;> omega
end Go.Proofs.Ytkddgjaflcjhiaa
