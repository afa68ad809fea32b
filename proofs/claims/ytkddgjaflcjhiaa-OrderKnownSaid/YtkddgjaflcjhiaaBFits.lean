/-
  What '==' says of two ranges, and the contract of bounds.Fits. E from 0 to 52, B below 2^14, T below 2^12.
-/
import Derived.Test.YtkddgjaflcjhiaaBOfW
namespace Go.Proofs.Ytkddgjaflcjhiaa
open Go.ChangeShapes Go.WideShapes Go.ChangeAt Go.RowKit
set_option linter.unusedVariables false
set_option linter.unusedSimpArgs false

def rangeB (b t : Int) (o : Bool) (c u : Int) (p : Bool) : Bool := decide (b = c ∧ t = u ∧ o = p)
theorem range_eql (b t : Int) (o : Bool) (c u : Int) (p : Bool) (w : World) :
    (binOp .eql 39 (.agg #[.int .u64 b, .int .u64 t, o]) (.agg #[.int .u64 c, .int .u64 u, p])).run Try.prog w = .ok (.bool (rangeB b t o c u p)) w := by
  by_cases h1 : b = c
  rotate_left
  · simp [go_sem, rangeB, h1]
  subst h1
  by_cases h2 : t = u
  rotate_left
  · simp [go_sem, rangeB, h2]
  subst h2
  by_cases h3 : o = p
  rotate_left
  · simp [go_sem, rangeB, h3]
  subst h3
  simp [go_sem, rangeB]
/-- Whether another address has the same bounds. -/
def fitsV (e b t : Int) (g : Bool) (a at' : Int) : Bool := rangeB (ofB e b at') (ofT e b t g at') (ofO e b t g at') (ofB e b a) (ofT e b t g a) (ofO e b t g a)
set_option maxHeartbeats 4000000 in
set_option maxRecDepth 100000 in
theorem fitsC_w (tg : Bool) (pe ty mo e b t : Int) (g : Bool) (a x : Int) (e0 : 0 ≤ e) (e1 : e ≤ 52) (b0 : 0 ≤ b) (b1 : b < 16384) (t0 : 0 ≤ t) (t1 : t < 4096) (a0 : 0 ≤ a) (a1 : a < 18446744073709551616) (x0 : 0 ≤ x) (x1 : x < 18446744073709551616) (v : Bool) (hv : fitsV e b t g a x = v) (w : World) :
    Calls Try.prog 73 #[.agg #[tg, pe, ty, mo, e, b, t, g, .int .u64 a], .int .u64 x] w fun e' w' => e' = .returned (.bool v) ∧ Kp w w' := by
  obtain ⟨B1, hB1⟩ : ∃ B1, ofB e b x = B1 := ⟨_, rfl⟩
  obtain ⟨T1, hT1⟩ : ∃ T1, ofT e b t g x = T1 := ⟨_, rfl⟩
  obtain ⟨O1, hO1⟩ : ∃ O1, ofO e b t g x = O1 := ⟨_, rfl⟩
  obtain ⟨B2, hB2⟩ : ∃ B2, ofB e b a = B2 := ⟨_, rfl⟩
  obtain ⟨T2, hT2⟩ : ∃ T2, ofT e b t g a = T2 := ⟨_, rfl⟩
  obtain ⟨O2, hO2⟩ : ∃ O2, ofO e b t g a = O2 := ⟨_, rfl⟩
  have c1 : ∀ w : World, Calls Try.prog 16 #[.agg #[tg, pe, ty, mo, e, b, t, g, .int .u64 x]] w fun e' w' => e' = .returned (.agg #[.int .u64 B1, .int .u64 T1, O1]) ∧ Kp w w' := fun w => by
    have c := of_w tg pe ty mo e b t g x e0 e1 b0 b1 t0 t1 x0 x1 w
    rw [hB1, hT1, hO1] at c; exact c
  have c2 : ∀ w : World, Calls Try.prog 16 #[.agg #[tg, pe, ty, mo, e, b, t, g, .int .u64 a]] w fun e' w' => e' = .returned (.agg #[.int .u64 B2, .int .u64 T2, O2]) ∧ Kp w w' := fun w => by
    have c := of_w tg pe ty mo e b t g a e0 e1 b0 b1 t0 t1 a0 a1 w
    rw [hB2, hT2, hO2] at c; exact c
  have hE : ∀ w : World, (binOp .eql 39 (.agg #[.int .u64 B1, .int .u64 T1, O1]) (.agg #[.int .u64 B2, .int .u64 T2, O2])).run Try.prog w = .ok (.bool v) w := fun w => by
    rw [range_eql]
    have : rangeB B1 T1 O1 B2 T2 O2 = v := by rw [← hv]; unfold fitsV; rw [hB1, hT1, hO1, hB2, hT2, hO2]
    rw [this]
  have C1 := Lib.hid c1
  have C2 := Lib.hid c2
  have k11 : ∀ n : Nat, n < n + 1 + 1 := fun n => by omega
  clear c1 c2 hB1 hT1 hO1 hB2 hT2 hO2 hv
  have kb : Bh w (w.heap.size + 2) ((w.alloc (.cells #[tg, pe, ty, mo, e, b, t, g, .int .u64 a] 25)).alloc (.cells #[tg, pe, ty, mo, e, b, t, g, .int .u64 x] 25)) := ⟨((Kp.refl w).allocs _ _).allocs _ _, by simp, by simp⟩
  go_enter Try.func73, Try.ntmps73
  go_upto_region 3 with fail
  go_region_held3 (fun w' => w'.cell? ⟨w.heap.size, 0, none⟩ = some (.bool tg) ∧ w'.cell? ⟨w.heap.size, 1, none⟩ = some (.int .i64 pe) ∧ w'.cell? ⟨w.heap.size, 2, none⟩ = some (.int .i64 ty) ∧ w'.cell? ⟨w.heap.size, 3, none⟩ = some (.int .i64 mo) ∧ w'.cell? ⟨w.heap.size, 4, none⟩ = some (.int .i64 e) ∧ w'.cell? ⟨w.heap.size, 5, none⟩ = some (.int .i64 b) ∧ w'.cell? ⟨w.heap.size, 6, none⟩ = some (.int .i64 t) ∧ w'.cell? ⟨w.heap.size, 7, none⟩ = some (.bool g) ∧ w'.cell? ⟨w.heap.size, 8, none⟩ = some (.int .u64 a) ∧ w'.cell? ⟨w.heap.size + 1, 0, none⟩ = some (.bool tg) ∧ w'.cell? ⟨w.heap.size + 1, 1, none⟩ = some (.int .i64 pe) ∧ w'.cell? ⟨w.heap.size + 1, 2, none⟩ = some (.int .i64 ty) ∧ w'.cell? ⟨w.heap.size + 1, 3, none⟩ = some (.int .i64 mo) ∧ w'.cell? ⟨w.heap.size + 1, 4, none⟩ = some (.int .i64 e) ∧ w'.cell? ⟨w.heap.size + 1, 5, none⟩ = some (.int .i64 b) ∧ w'.cell? ⟨w.heap.size + 1, 6, none⟩ = some (.int .i64 t) ∧ w'.cell? ⟨w.heap.size + 1, 7, none⟩ = some (.bool g) ∧ w'.cell? ⟨w.heap.size + 1, 8, none⟩ = some (.int .u64 x) ∧ Bh w (w.heap.size + 2) w')
    (first | (refine ⟨?_, ?_, ?_, ?_, ?_, ?_, ?_, ?_, ?_, ?_, ?_, ?_, ?_, ?_, ?_, ?_, ?_, ?_, ?_⟩ <;> first | with_reducible assumption | ((repeat' (first | with_reducible assumption | with_reducible apply Bh.drew | with_reducible apply Bh.alloc | with_reducible apply Bh.set | with_reducible refine Bh.cell_set (n := w.heap.size + 2) (p := ⟨_, _, none⟩) ?_ ?_ ?_ | with_reducible refine Bh.cell_alloc (W := w) (n := w.heap.size + 2) (p := ⟨_, _, none⟩) ?_ ?_ ?_ | (dsimp only; omega))); done) | (with_reducible apply Bh.drew; assumption) | (simp [go_sem, *]; done)))
    (first
      | (go_at_call 16; go_split_ands; with_reducible refine (C1.out _).mono ?_; rintro e w' ⟨rfl, qk⟩; have q0 : w'.cell? ⟨w.heap.size, 0, none⟩ = some (.bool tg) := Bh.cell (n := w.heap.size + 2) (W := w) (by with_reducible assumption) qk (by dsimp only; omega) (by with_reducible assumption); have q1 : w'.cell? ⟨w.heap.size, 1, none⟩ = some (.int .i64 pe) := Bh.cell (n := w.heap.size + 2) (W := w) (by with_reducible assumption) qk (by dsimp only; omega) (by with_reducible assumption); have q2 : w'.cell? ⟨w.heap.size, 2, none⟩ = some (.int .i64 ty) := Bh.cell (n := w.heap.size + 2) (W := w) (by with_reducible assumption) qk (by dsimp only; omega) (by with_reducible assumption); have q3 : w'.cell? ⟨w.heap.size, 3, none⟩ = some (.int .i64 mo) := Bh.cell (n := w.heap.size + 2) (W := w) (by with_reducible assumption) qk (by dsimp only; omega) (by with_reducible assumption); have q4 : w'.cell? ⟨w.heap.size, 4, none⟩ = some (.int .i64 e) := Bh.cell (n := w.heap.size + 2) (W := w) (by with_reducible assumption) qk (by dsimp only; omega) (by with_reducible assumption); have q5 : w'.cell? ⟨w.heap.size, 5, none⟩ = some (.int .i64 b) := Bh.cell (n := w.heap.size + 2) (W := w) (by with_reducible assumption) qk (by dsimp only; omega) (by with_reducible assumption); have q6 : w'.cell? ⟨w.heap.size, 6, none⟩ = some (.int .i64 t) := Bh.cell (n := w.heap.size + 2) (W := w) (by with_reducible assumption) qk (by dsimp only; omega) (by with_reducible assumption); have q7 : w'.cell? ⟨w.heap.size, 7, none⟩ = some (.bool g) := Bh.cell (n := w.heap.size + 2) (W := w) (by with_reducible assumption) qk (by dsimp only; omega) (by with_reducible assumption); have q8 : w'.cell? ⟨w.heap.size, 8, none⟩ = some (.int .u64 a) := Bh.cell (n := w.heap.size + 2) (W := w) (by with_reducible assumption) qk (by dsimp only; omega) (by with_reducible assumption); have q9 : w'.cell? ⟨w.heap.size + 1, 0, none⟩ = some (.bool tg) := Bh.cell (n := w.heap.size + 2) (W := w) (by with_reducible assumption) qk (by dsimp only; omega) (by with_reducible assumption); have q10 : w'.cell? ⟨w.heap.size + 1, 1, none⟩ = some (.int .i64 pe) := Bh.cell (n := w.heap.size + 2) (W := w) (by with_reducible assumption) qk (by dsimp only; omega) (by with_reducible assumption); have q11 : w'.cell? ⟨w.heap.size + 1, 2, none⟩ = some (.int .i64 ty) := Bh.cell (n := w.heap.size + 2) (W := w) (by with_reducible assumption) qk (by dsimp only; omega) (by with_reducible assumption); have q12 : w'.cell? ⟨w.heap.size + 1, 3, none⟩ = some (.int .i64 mo) := Bh.cell (n := w.heap.size + 2) (W := w) (by with_reducible assumption) qk (by dsimp only; omega) (by with_reducible assumption); have q13 : w'.cell? ⟨w.heap.size + 1, 4, none⟩ = some (.int .i64 e) := Bh.cell (n := w.heap.size + 2) (W := w) (by with_reducible assumption) qk (by dsimp only; omega) (by with_reducible assumption); have q14 : w'.cell? ⟨w.heap.size + 1, 5, none⟩ = some (.int .i64 b) := Bh.cell (n := w.heap.size + 2) (W := w) (by with_reducible assumption) qk (by dsimp only; omega) (by with_reducible assumption); have q15 : w'.cell? ⟨w.heap.size + 1, 6, none⟩ = some (.int .i64 t) := Bh.cell (n := w.heap.size + 2) (W := w) (by with_reducible assumption) qk (by dsimp only; omega) (by with_reducible assumption); have q16 : w'.cell? ⟨w.heap.size + 1, 7, none⟩ = some (.bool g) := Bh.cell (n := w.heap.size + 2) (W := w) (by with_reducible assumption) qk (by dsimp only; omega) (by with_reducible assumption); have q17 : w'.cell? ⟨w.heap.size + 1, 8, none⟩ = some (.int .u64 x) := Bh.cell (n := w.heap.size + 2) (W := w) (by with_reducible assumption) qk (by dsimp only; omega) (by with_reducible assumption); have qb : Bh w (w.heap.size + 2) w' := Bh.step (by with_reducible assumption) qk; have ql := qb.le; clear qk)
      | (go_at_call 16; go_split_ands; with_reducible refine (C2.out _).mono ?_; rintro e w' ⟨rfl, qk⟩; have q0 : w'.cell? ⟨w.heap.size, 0, none⟩ = some (.bool tg) := Bh.cell (n := w.heap.size + 2) (W := w) (by with_reducible assumption) qk (by dsimp only; omega) (by with_reducible assumption); have q1 : w'.cell? ⟨w.heap.size, 1, none⟩ = some (.int .i64 pe) := Bh.cell (n := w.heap.size + 2) (W := w) (by with_reducible assumption) qk (by dsimp only; omega) (by with_reducible assumption); have q2 : w'.cell? ⟨w.heap.size, 2, none⟩ = some (.int .i64 ty) := Bh.cell (n := w.heap.size + 2) (W := w) (by with_reducible assumption) qk (by dsimp only; omega) (by with_reducible assumption); have q3 : w'.cell? ⟨w.heap.size, 3, none⟩ = some (.int .i64 mo) := Bh.cell (n := w.heap.size + 2) (W := w) (by with_reducible assumption) qk (by dsimp only; omega) (by with_reducible assumption); have q4 : w'.cell? ⟨w.heap.size, 4, none⟩ = some (.int .i64 e) := Bh.cell (n := w.heap.size + 2) (W := w) (by with_reducible assumption) qk (by dsimp only; omega) (by with_reducible assumption); have q5 : w'.cell? ⟨w.heap.size, 5, none⟩ = some (.int .i64 b) := Bh.cell (n := w.heap.size + 2) (W := w) (by with_reducible assumption) qk (by dsimp only; omega) (by with_reducible assumption); have q6 : w'.cell? ⟨w.heap.size, 6, none⟩ = some (.int .i64 t) := Bh.cell (n := w.heap.size + 2) (W := w) (by with_reducible assumption) qk (by dsimp only; omega) (by with_reducible assumption); have q7 : w'.cell? ⟨w.heap.size, 7, none⟩ = some (.bool g) := Bh.cell (n := w.heap.size + 2) (W := w) (by with_reducible assumption) qk (by dsimp only; omega) (by with_reducible assumption); have q8 : w'.cell? ⟨w.heap.size, 8, none⟩ = some (.int .u64 a) := Bh.cell (n := w.heap.size + 2) (W := w) (by with_reducible assumption) qk (by dsimp only; omega) (by with_reducible assumption); have q9 : w'.cell? ⟨w.heap.size + 1, 0, none⟩ = some (.bool tg) := Bh.cell (n := w.heap.size + 2) (W := w) (by with_reducible assumption) qk (by dsimp only; omega) (by with_reducible assumption); have q10 : w'.cell? ⟨w.heap.size + 1, 1, none⟩ = some (.int .i64 pe) := Bh.cell (n := w.heap.size + 2) (W := w) (by with_reducible assumption) qk (by dsimp only; omega) (by with_reducible assumption); have q11 : w'.cell? ⟨w.heap.size + 1, 2, none⟩ = some (.int .i64 ty) := Bh.cell (n := w.heap.size + 2) (W := w) (by with_reducible assumption) qk (by dsimp only; omega) (by with_reducible assumption); have q12 : w'.cell? ⟨w.heap.size + 1, 3, none⟩ = some (.int .i64 mo) := Bh.cell (n := w.heap.size + 2) (W := w) (by with_reducible assumption) qk (by dsimp only; omega) (by with_reducible assumption); have q13 : w'.cell? ⟨w.heap.size + 1, 4, none⟩ = some (.int .i64 e) := Bh.cell (n := w.heap.size + 2) (W := w) (by with_reducible assumption) qk (by dsimp only; omega) (by with_reducible assumption); have q14 : w'.cell? ⟨w.heap.size + 1, 5, none⟩ = some (.int .i64 b) := Bh.cell (n := w.heap.size + 2) (W := w) (by with_reducible assumption) qk (by dsimp only; omega) (by with_reducible assumption); have q15 : w'.cell? ⟨w.heap.size + 1, 6, none⟩ = some (.int .i64 t) := Bh.cell (n := w.heap.size + 2) (W := w) (by with_reducible assumption) qk (by dsimp only; omega) (by with_reducible assumption); have q16 : w'.cell? ⟨w.heap.size + 1, 7, none⟩ = some (.bool g) := Bh.cell (n := w.heap.size + 2) (W := w) (by with_reducible assumption) qk (by dsimp only; omega) (by with_reducible assumption); have q17 : w'.cell? ⟨w.heap.size + 1, 8, none⟩ = some (.int .u64 x) := Bh.cell (n := w.heap.size + 2) (W := w) (by with_reducible assumption) qk (by dsimp only; omega) (by with_reducible assumption); have qb : Bh w (w.heap.size + 2) w' := Bh.step (by with_reducible assumption) qk; have ql := qb.le; clear qk))
  all_goals
    go_wp2
    go_ret
    exact ⟨rfl, qb.kp⟩
end Go.Proofs.Ytkddgjaflcjhiaa
