/-
  The contract of bounds.Of: the bounds of a capability whose fields are in their places. B below 2^14, T below 2^12, E from 0 to 52.
-/
import Derived.Test.YtkddgjaflcjhiaaBOf
namespace Go.Proofs.Ytkddgjaflcjhiaa
open Go.ChangeShapes Go.WideShapes Go.ChangeAt Go.RowKit
set_option linter.unusedVariables false
set_option linter.unusedSimpArgs false

/-- What Of's first statement leaves. -/
def OfMid (W : World) (k : Nat) (e b t : Int) (g : Bool) (a : Int) (s3 s4 : Value) (wx : World) : Prop := ∃ i j : Nat, s3 = .pointer (some ⟨i, 0, none⟩) ∧ s4 = .pointer (some ⟨j, 0, none⟩) ∧
  wx.cell? ⟨i, 0, none⟩ = some (.int .u64 (wH (plcV b e a b))) ∧ wx.cell? ⟨i, 1, none⟩ = some (.int .u64 (ofB e b a)) ∧ wx.cell? ⟨j, 0, none⟩ = some (.int .u64 (ofH e b t g a)) ∧ wx.cell? ⟨j, 1, none⟩ = some (.int .u64 (ofT e b t g a)) ∧
  wx.cell? ⟨k, 4, none⟩ = some (.int .i64 e) ∧ k + 1 < i ∧ k + 1 < j ∧ i ≠ j ∧ i < wx.heap.size ∧ j < wx.heap.size ∧ wx.frozen? ⟨j, 0, none⟩ = false ∧ Kp W wx
set_option maxHeartbeats 40000000 in
set_option maxRecDepth 100000 in
theorem of_w (tg : Bool) (pe ty mo e b t : Int) (g : Bool) (a : Int) (e0 : 0 ≤ e) (e1 : e ≤ 52) (b0 : 0 ≤ b) (b1 : b < 16384) (t0 : 0 ≤ t) (t1 : t < 4096) (a0 : 0 ≤ a) (a1 : a < 18446744073709551616) (w : World) :
    Calls Try.prog 16 #[.agg #[tg, pe, ty, mo, e, b, t, g, .int .u64 a]] w fun e' w' => e' = .returned (.agg #[.int .u64 (ofB e b a), .int .u64 (ofT e b t g a), .bool (ofO e b t g a)]) ∧ Kp w w' := by
  have k0 : Bh ((w.alloc (.cells #[tg, pe, ty, mo, e, b, t, g, .int .u64 a] 25)).alloc (.cells #[.int .u64 0, .int .u64 0, false] 39)) (w.heap.size + 2) ((w.alloc (.cells #[tg, pe, ty, mo, e, b, t, g, .int .u64 a] 25)).alloc (.cells #[.int .u64 0, .int .u64 0, false] 39)) := ⟨Kp.refl _, by simp, by simp⟩
  have hx := t14_bd b t g b0 t0 t1
  have k11 : ∀ n : Nat, n < n + 1 + 1 := fun n => by omega
  have k12 : ∀ n : Nat, n < n + 1 + 1 + 1 := fun n => by omega
  have wb : IntKind.u64.wrap b = b := by rw [IntKind.wrap_u64]; omega
  go_enter Try.func16, Try.ntmps16
  go_upto_region 1 with fail
  go_cut [3, 4] (fun s3 s4 wx => OfMid ((w.alloc (.cells #[tg, pe, ty, mo, e, b, t, g, .int .u64 a] 25)).alloc (.cells #[.int .u64 0, .int .u64 0, false] 39)) w.heap.size e b t g a s3 s4 wx)
  case first =>
    go_region_held3 (fun w' => w'.cell? ⟨w.heap.size, 0, none⟩ = some (.bool tg) ∧ w'.cell? ⟨w.heap.size, 1, none⟩ = some (.int .i64 pe) ∧ w'.cell? ⟨w.heap.size, 2, none⟩ = some (.int .i64 ty) ∧ w'.cell? ⟨w.heap.size, 3, none⟩ = some (.int .i64 mo) ∧ w'.cell? ⟨w.heap.size, 4, none⟩ = some (.int .i64 e) ∧ w'.cell? ⟨w.heap.size, 5, none⟩ = some (.int .i64 b) ∧ w'.cell? ⟨w.heap.size, 6, none⟩ = some (.int .i64 t) ∧ w'.cell? ⟨w.heap.size, 7, none⟩ = some (.bool g) ∧ w'.cell? ⟨w.heap.size, 8, none⟩ = some (.int .u64 a) ∧ Bh ((w.alloc (.cells #[tg, pe, ty, mo, e, b, t, g, .int .u64 a] 25)).alloc (.cells #[.int .u64 0, .int .u64 0, false] 39)) (w.heap.size + 2) w')
      (first | (refine ⟨?_, ?_, ?_, ?_, ?_, ?_, ?_, ?_, ?_, ?_⟩ <;> first | with_reducible assumption | ((repeat' (first | with_reducible assumption | with_reducible apply Bh.drew | with_reducible apply Bh.alloc | with_reducible apply Bh.set | with_reducible refine Bh.cell_set (n := w.heap.size + 2) (p := ⟨_, _, none⟩) ?_ ?_ ?_ | with_reducible refine Bh.cell_alloc (W := ((w.alloc (.cells #[tg, pe, ty, mo, e, b, t, g, .int .u64 a] 25)).alloc (.cells #[.int .u64 0, .int .u64 0, false] 39))) (n := w.heap.size + 2) (p := ⟨_, _, none⟩) ?_ ?_ ?_ | (dsimp only; omega))); done) | (with_reducible apply Bh.drew; assumption) | (simp [go_sem, *]; done)))
      (first
        | (go_at_call 47; go_split_ands; refine (place_w _ _ _ _ _ _ _ _ _ _ (by omega) (by omega) (by omega) (by omega) (by omega) (by omega) (by omega) (by omega) _).mono ?_; rintro e w' ⟨rfl, qk⟩; have q0 : w'.cell? ⟨w.heap.size, 0, none⟩ = some (.bool tg) := Bh.cell (n := w.heap.size + 2) (W := ((w.alloc (.cells #[tg, pe, ty, mo, e, b, t, g, .int .u64 a] 25)).alloc (.cells #[.int .u64 0, .int .u64 0, false] 39))) (by with_reducible assumption) qk (by dsimp only; omega) (by with_reducible assumption); have q1 : w'.cell? ⟨w.heap.size, 1, none⟩ = some (.int .i64 pe) := Bh.cell (n := w.heap.size + 2) (W := ((w.alloc (.cells #[tg, pe, ty, mo, e, b, t, g, .int .u64 a] 25)).alloc (.cells #[.int .u64 0, .int .u64 0, false] 39))) (by with_reducible assumption) qk (by dsimp only; omega) (by with_reducible assumption); have q2 : w'.cell? ⟨w.heap.size, 2, none⟩ = some (.int .i64 ty) := Bh.cell (n := w.heap.size + 2) (W := ((w.alloc (.cells #[tg, pe, ty, mo, e, b, t, g, .int .u64 a] 25)).alloc (.cells #[.int .u64 0, .int .u64 0, false] 39))) (by with_reducible assumption) qk (by dsimp only; omega) (by with_reducible assumption); have q3 : w'.cell? ⟨w.heap.size, 3, none⟩ = some (.int .i64 mo) := Bh.cell (n := w.heap.size + 2) (W := ((w.alloc (.cells #[tg, pe, ty, mo, e, b, t, g, .int .u64 a] 25)).alloc (.cells #[.int .u64 0, .int .u64 0, false] 39))) (by with_reducible assumption) qk (by dsimp only; omega) (by with_reducible assumption); have q4 : w'.cell? ⟨w.heap.size, 4, none⟩ = some (.int .i64 e) := Bh.cell (n := w.heap.size + 2) (W := ((w.alloc (.cells #[tg, pe, ty, mo, e, b, t, g, .int .u64 a] 25)).alloc (.cells #[.int .u64 0, .int .u64 0, false] 39))) (by with_reducible assumption) qk (by dsimp only; omega) (by with_reducible assumption); have q5 : w'.cell? ⟨w.heap.size, 5, none⟩ = some (.int .i64 b) := Bh.cell (n := w.heap.size + 2) (W := ((w.alloc (.cells #[tg, pe, ty, mo, e, b, t, g, .int .u64 a] 25)).alloc (.cells #[.int .u64 0, .int .u64 0, false] 39))) (by with_reducible assumption) qk (by dsimp only; omega) (by with_reducible assumption); have q6 : w'.cell? ⟨w.heap.size, 6, none⟩ = some (.int .i64 t) := Bh.cell (n := w.heap.size + 2) (W := ((w.alloc (.cells #[tg, pe, ty, mo, e, b, t, g, .int .u64 a] 25)).alloc (.cells #[.int .u64 0, .int .u64 0, false] 39))) (by with_reducible assumption) qk (by dsimp only; omega) (by with_reducible assumption); have q7 : w'.cell? ⟨w.heap.size, 7, none⟩ = some (.bool g) := Bh.cell (n := w.heap.size + 2) (W := ((w.alloc (.cells #[tg, pe, ty, mo, e, b, t, g, .int .u64 a] 25)).alloc (.cells #[.int .u64 0, .int .u64 0, false] 39))) (by with_reducible assumption) qk (by dsimp only; omega) (by with_reducible assumption); have q8 : w'.cell? ⟨w.heap.size, 8, none⟩ = some (.int .u64 a) := Bh.cell (n := w.heap.size + 2) (W := ((w.alloc (.cells #[tg, pe, ty, mo, e, b, t, g, .int .u64 a] 25)).alloc (.cells #[.int .u64 0, .int .u64 0, false] 39))) (by with_reducible assumption) qk (by dsimp only; omega) (by with_reducible assumption); have qb : Bh ((w.alloc (.cells #[tg, pe, ty, mo, e, b, t, g, .int .u64 a] 25)).alloc (.cells #[.int .u64 0, .int .u64 0, false] 39)) (w.heap.size + 2) w' := Bh.step (by with_reducible assumption) qk; have ql := qb.le; (try have hx := Kp.chain hy qk (by first | exact Nat.le_refl _ | (simp; done) | (simp; omega))); (try have hx1 := (Kp.up1 hx).1); (try have hx2 := (Kp.up1 hx).2.1); (try have hx3 := (Kp.up1 hx).2.2); (try have hy := Kp.chain hz qk (by first | exact Nat.le_refl _ | (simp; done) | (simp; omega))); (try have hy1 := (Kp.up1 hy).1); (try have hy2 := (Kp.up1 hy).2.1); (try have hy3 := (Kp.up1 hy).2.2); obtain ⟨hc, hf, hz⟩ := qk.cells; (try have hz1 := (Kp.up1 hz).1); (try have hz2 := (Kp.up1 hz).2.1); (try have hz3 := (Kp.up1 hz).2.2); clear qk)
        | (go_at_call 48; go_split_ands; refine (wholeT_w _ _ _ _ _ _ _ _ _ (by omega) (by omega) (by omega) (by omega) _).mono ?_; rintro e w' ⟨rfl, qk⟩; have q0 : w'.cell? ⟨w.heap.size, 0, none⟩ = some (.bool tg) := Bh.cell (n := w.heap.size + 2) (W := ((w.alloc (.cells #[tg, pe, ty, mo, e, b, t, g, .int .u64 a] 25)).alloc (.cells #[.int .u64 0, .int .u64 0, false] 39))) (by with_reducible assumption) qk (by dsimp only; omega) (by with_reducible assumption); have q1 : w'.cell? ⟨w.heap.size, 1, none⟩ = some (.int .i64 pe) := Bh.cell (n := w.heap.size + 2) (W := ((w.alloc (.cells #[tg, pe, ty, mo, e, b, t, g, .int .u64 a] 25)).alloc (.cells #[.int .u64 0, .int .u64 0, false] 39))) (by with_reducible assumption) qk (by dsimp only; omega) (by with_reducible assumption); have q2 : w'.cell? ⟨w.heap.size, 2, none⟩ = some (.int .i64 ty) := Bh.cell (n := w.heap.size + 2) (W := ((w.alloc (.cells #[tg, pe, ty, mo, e, b, t, g, .int .u64 a] 25)).alloc (.cells #[.int .u64 0, .int .u64 0, false] 39))) (by with_reducible assumption) qk (by dsimp only; omega) (by with_reducible assumption); have q3 : w'.cell? ⟨w.heap.size, 3, none⟩ = some (.int .i64 mo) := Bh.cell (n := w.heap.size + 2) (W := ((w.alloc (.cells #[tg, pe, ty, mo, e, b, t, g, .int .u64 a] 25)).alloc (.cells #[.int .u64 0, .int .u64 0, false] 39))) (by with_reducible assumption) qk (by dsimp only; omega) (by with_reducible assumption); have q4 : w'.cell? ⟨w.heap.size, 4, none⟩ = some (.int .i64 e) := Bh.cell (n := w.heap.size + 2) (W := ((w.alloc (.cells #[tg, pe, ty, mo, e, b, t, g, .int .u64 a] 25)).alloc (.cells #[.int .u64 0, .int .u64 0, false] 39))) (by with_reducible assumption) qk (by dsimp only; omega) (by with_reducible assumption); have q5 : w'.cell? ⟨w.heap.size, 5, none⟩ = some (.int .i64 b) := Bh.cell (n := w.heap.size + 2) (W := ((w.alloc (.cells #[tg, pe, ty, mo, e, b, t, g, .int .u64 a] 25)).alloc (.cells #[.int .u64 0, .int .u64 0, false] 39))) (by with_reducible assumption) qk (by dsimp only; omega) (by with_reducible assumption); have q6 : w'.cell? ⟨w.heap.size, 6, none⟩ = some (.int .i64 t) := Bh.cell (n := w.heap.size + 2) (W := ((w.alloc (.cells #[tg, pe, ty, mo, e, b, t, g, .int .u64 a] 25)).alloc (.cells #[.int .u64 0, .int .u64 0, false] 39))) (by with_reducible assumption) qk (by dsimp only; omega) (by with_reducible assumption); have q7 : w'.cell? ⟨w.heap.size, 7, none⟩ = some (.bool g) := Bh.cell (n := w.heap.size + 2) (W := ((w.alloc (.cells #[tg, pe, ty, mo, e, b, t, g, .int .u64 a] 25)).alloc (.cells #[.int .u64 0, .int .u64 0, false] 39))) (by with_reducible assumption) qk (by dsimp only; omega) (by with_reducible assumption); have q8 : w'.cell? ⟨w.heap.size, 8, none⟩ = some (.int .u64 a) := Bh.cell (n := w.heap.size + 2) (W := ((w.alloc (.cells #[tg, pe, ty, mo, e, b, t, g, .int .u64 a] 25)).alloc (.cells #[.int .u64 0, .int .u64 0, false] 39))) (by with_reducible assumption) qk (by dsimp only; omega) (by with_reducible assumption); have qb : Bh ((w.alloc (.cells #[tg, pe, ty, mo, e, b, t, g, .int .u64 a] 25)).alloc (.cells #[.int .u64 0, .int .u64 0, false] 39)) (w.heap.size + 2) w' := Bh.step (by with_reducible assumption) qk; have ql := qb.le; (try have hx := Kp.chain hy qk (by first | exact Nat.le_refl _ | (simp; done) | (simp; omega))); (try have hx1 := (Kp.up1 hx).1); (try have hx2 := (Kp.up1 hx).2.1); (try have hx3 := (Kp.up1 hx).2.2); (try have hy := Kp.chain hz qk (by first | exact Nat.le_refl _ | (simp; done) | (simp; omega))); (try have hy1 := (Kp.up1 hy).1); (try have hy2 := (Kp.up1 hy).2.1); (try have hy3 := (Kp.up1 hy).2.2); obtain ⟨hc, hf, hz⟩ := qk.cells; (try have hz1 := (Kp.up1 hz).1); (try have hz2 := (Kp.up1 hz).2.1); (try have hz3 := (Kp.up1 hz).2.2); clear qk))
    all_goals
      rename_i hh
      have hB := hh.2.2.2.2.2.2.2.2.2
      have hc4 := hh.2.2.2.2.1
      clear hh
      go_wp2_with fail
      go_meet
      refine ⟨_, _, rfl, rfl, ?_, ?_, ?_, ?_, hc4, ?_, ?_, ?_, ?_, ?_, ?_, hB.kp⟩
    all_goals first
      | (simp [go_sem, ofB, ofT, ofH, *]; done)
      | omega
      | (simp (maxDischargeDepth := 8) [go_sem, ofB, ofT, ofH, *]; done)
      | (simp; omega)
      | (simp [*]; omega)
  case rest =>
    obtain ⟨i, j, rfl, rfl, h0, h1, h2, h3, h4, h5, h6, h7, h8, h9, h10, hkp⟩ := hcut
    have r0 : wc.cell? ⟨w.heap.size + 1, 0, none⟩ = some (.int .u64 0) := by rw [hkp.cell (by simp)]; simp [go_sem]
    have r1 : wc.cell? ⟨w.heap.size + 1, 1, none⟩ = some (.int .u64 0) := by rw [hkp.cell (by simp)]; simp [go_sem]
    have r2 : wc.cell? ⟨w.heap.size + 1, 2, none⟩ = some (.bool false) := by rw [hkp.cell (by simp)]; simp [go_sem]
    have f0 : wc.frozen? ⟨w.heap.size + 1, 0, none⟩ = false := by rw [hkp.2]; simp [go_sem]
    have f1 : wc.frozen? ⟨w.heap.size + 1, 1, none⟩ = false := by rw [hkp.2]; simp [go_sem]
    have f2 : wc.frozen? ⟨w.heap.size + 1, 2, none⟩ = false := by rw [hkp.2]; simp [go_sem]
    have kb : Bh ((w.alloc (.cells #[tg, pe, ty, mo, e, b, t, g, .int .u64 a] 25)).alloc (.cells #[.int .u64 0, .int .u64 0, false] 39)) wc.heap.size wc := ⟨hkp, hkp.size, Nat.le_refl _⟩
    have kw : Kp w ((w.alloc (.cells #[tg, pe, ty, mo, e, b, t, g, .int .u64 a] 25)).alloc (.cells #[.int .u64 0, .int .u64 0, false] 39)) := ((Kp.refl w).allocs _ _).allocs _ _
    have hji : ¬ i = j := h7
    have hij : ¬ j = i := fun h => h7 h.symm
    have n1 : ¬ w.heap.size + 1 = j := by omega
    have n2 : ¬ j = w.heap.size + 1 := by omega
    have n3 : ¬ w.heap.size + 1 = i := by omega
    have n4 : ¬ i = w.heap.size + 1 := by omega
    have x0 : bits .xor .u64 0 1 = 1 := by decide
    have x1 : bits .xor .u64 1 1 = 0 := by decide
    have hH : ofH e b t g a = 0 ∨ ofH e b t g a = 1 := by have := ofH_bd e b t g a; omega
    have bb := ofB_bd e b a
    have bt := ofT_bd e b t g a
    clear k0 hkp wb k11 k12 hx h7
    rcases hH with hH | hH
    all_goals
      rw [hH] at h2
      have HH := Lib.hid hH
      clear hH
      by_cases he : e < 51
      · cases hF : farB (ofH e b t g a) (ofT e b t g a) (ofB e b a)
        all_goals
          have HO := Lib.hid (show ofF e b t g a = _ by unfold ofF; rw [hF])
          rw [HH.out] at hF
          go_wp2_with (first
            | (go_at_call 49; refine (far_w _ _ _ _ (by omega) (by omega) (by omega) (by omega) (by omega) (by omega) _).mono ?_; rintro e' w1 ⟨rfl, qk⟩; have q0 : w1.cell? ⟨i, 0, none⟩ = some (.int .u64 (wH (plcV b e a b))) := Bh.cell (n := wc.heap.size) (W := ((w.alloc (.cells #[tg, pe, ty, mo, e, b, t, g, .int .u64 a] 25)).alloc (.cells #[.int .u64 0, .int .u64 0, false] 39))) (by assumption) qk (by dsimp only; omega) (by first | with_reducible assumption | (simp [go_sem, *]; done)); have q1 : w1.cell? ⟨i, 1, none⟩ = some (.int .u64 (ofB e b a)) := Bh.cell (n := wc.heap.size) (W := ((w.alloc (.cells #[tg, pe, ty, mo, e, b, t, g, .int .u64 a] 25)).alloc (.cells #[.int .u64 0, .int .u64 0, false] 39))) (by assumption) qk (by dsimp only; omega) (by first | with_reducible assumption | (simp [go_sem, *]; done)); have q2 : w1.cell? ⟨j, 0, none⟩ = some (_) := Bh.cell (n := wc.heap.size) (W := ((w.alloc (.cells #[tg, pe, ty, mo, e, b, t, g, .int .u64 a] 25)).alloc (.cells #[.int .u64 0, .int .u64 0, false] 39))) (by assumption) qk (by dsimp only; omega) (by first | with_reducible assumption | (simp [go_sem, *]; done)); have q3 : w1.cell? ⟨j, 1, none⟩ = some (.int .u64 (ofT e b t g a)) := Bh.cell (n := wc.heap.size) (W := ((w.alloc (.cells #[tg, pe, ty, mo, e, b, t, g, .int .u64 a] 25)).alloc (.cells #[.int .u64 0, .int .u64 0, false] 39))) (by assumption) qk (by dsimp only; omega) (by first | with_reducible assumption | (simp [go_sem, *]; done)); have q4 : w1.cell? ⟨w.heap.size + 1, 0, none⟩ = some (.int .u64 0) := Bh.cell (n := wc.heap.size) (W := ((w.alloc (.cells #[tg, pe, ty, mo, e, b, t, g, .int .u64 a] 25)).alloc (.cells #[.int .u64 0, .int .u64 0, false] 39))) (by assumption) qk (by dsimp only; omega) (by first | with_reducible assumption | (simp [go_sem, *]; done)); have q5 : w1.cell? ⟨w.heap.size + 1, 1, none⟩ = some (.int .u64 0) := Bh.cell (n := wc.heap.size) (W := ((w.alloc (.cells #[tg, pe, ty, mo, e, b, t, g, .int .u64 a] 25)).alloc (.cells #[.int .u64 0, .int .u64 0, false] 39))) (by assumption) qk (by dsimp only; omega) (by first | with_reducible assumption | (simp [go_sem, *]; done)); have q6 : w1.cell? ⟨w.heap.size + 1, 2, none⟩ = some (.bool false) := Bh.cell (n := wc.heap.size) (W := ((w.alloc (.cells #[tg, pe, ty, mo, e, b, t, g, .int .u64 a] 25)).alloc (.cells #[.int .u64 0, .int .u64 0, false] 39))) (by assumption) qk (by dsimp only; omega) (by first | with_reducible assumption | (simp [go_sem, *]; done)); have z0 : w1.frozen? ⟨w.heap.size + 1, 0, none⟩ = false := (qk.2 _).trans (by first | with_reducible assumption | (simp [go_sem, *]; done)); have z1 : w1.frozen? ⟨w.heap.size + 1, 1, none⟩ = false := (qk.2 _).trans (by first | with_reducible assumption | (simp [go_sem, *]; done)); have z2 : w1.frozen? ⟨w.heap.size + 1, 2, none⟩ = false := (qk.2 _).trans (by first | with_reducible assumption | (simp [go_sem, *]; done)); have z3 : w1.frozen? ⟨j, 0, none⟩ = false := (qk.2 _).trans (by first | with_reducible assumption | (simp [go_sem, *]; done)); have qb : Bh ((w.alloc (.cells #[tg, pe, ty, mo, e, b, t, g, .int .u64 a] 25)).alloc (.cells #[.int .u64 0, .int .u64 0, false] 39)) (wc.heap.size) w1 := Bh.step (by with_reducible assumption) qk; have ql := qb.le; clear qk))
          refine bodyPost_ret (v := .agg #[.int .u64 (ofB e b a), .int .u64 (ofT e b t g a), .bool (ofO e b t g a)]) ?_ rfl ⟨rfl, ?_⟩
          · simp [results, Try.results16, go_sem, *]
            have h := HO.out
            have h' := HH.out
            simp [ofO, h, h', he]
          · have K := kw.trans qb.kp
            repeat' (with_reducible refine Kp.setCell ?_ ?_ _)
            all_goals first | exact K | (dsimp only; omega)
      · have hd : decide (e < 51) = false := by simpa using he
        go_wp2_with fail
        refine bodyPost_ret (v := .agg #[.int .u64 (ofB e b a), .int .u64 (ofT e b t g a), .bool (ofO e b t g a)]) ?_ rfl ⟨rfl, ?_⟩
        · simp [results, Try.results16, go_sem, *]
          have h' := HH.out
          simp [ofO, ofF, hd, h']
        · have K := kw.trans kb.kp
          repeat' (with_reducible refine Kp.setCell ?_ ?_ _)
          all_goals first | exact K | (dsimp only; omega)
end Go.Proofs.Ytkddgjaflcjhiaa
