/-
  The contract of bounds.Len: how many bytes a range has. Numbers are within their types.
-/
import Derived.Test.YtddgmbfngbobgaaBIn
namespace Go.Proofs.Ytddgmbfngbobgaa
open Go.ChangeShapes Go.WideShapes Go.ChangeAt Go.RowKit
set_option linter.unusedVariables false
set_option linter.unusedSimpArgs false
/-- What Len's first statement leaves. -/
def LenMid (w : World) (b t : Int) (o : Bool) (s3 s4 : Value) (wx : World) : Prop := ∃ g h : Nat, s3 = .pointer (some ⟨g, 0, none⟩) ∧ s4 = .pointer (some ⟨h, 0, none⟩) ∧
  wx.cell? ⟨g, 0, none⟩ = some (.int .u64 0) ∧ wx.cell? ⟨g, 1, none⟩ = some (.int .u64 b) ∧ wx.cell? ⟨h, 0, none⟩ = some (.int .u64 (b01 o)) ∧ wx.cell? ⟨h, 1, none⟩ = some (.int .u64 t) ∧
  wx.cell? ⟨w.heap.size, 0, none⟩ = some (.int .u64 b) ∧ wx.cell? ⟨w.heap.size, 1, none⟩ = some (.int .u64 t) ∧ w.heap.size < g ∧ w.heap.size < h ∧ g < wx.heap.size ∧ h < wx.heap.size ∧ Kp w wx
set_option maxHeartbeats 4000000 in
theorem len_w (b t : Int) (o : Bool) (b0 : 0 ≤ b) (b1 : b < 18446744073709551616) (t0 : 0 ≤ t) (t1 : t < 18446744073709551616) (w : World) :
    Calls Try.prog 44 #[.agg #[.int .u64 b, .int .u64 t, .bool o]] w fun e w' => e = .returned (.int .u64 (lenV b t o)) ∧ Kp w w' := by
  have k0 : Bh w (w.heap.size + 1) (w.alloc (.cells #[.int .u64 b, .int .u64 t, .bool o] 40)) := ⟨((Kp.refl w).allocs _ _), by simp, by simp⟩
  go_enter Try.func44, Try.ntmps44
  go_upto_region 1 with fail
  go_cut [3, 4] (fun s3 s4 wx => LenMid w b t o s3 s4 wx)
  case first =>
    go_region_held3 (fun w' => w'.cell? ⟨w.heap.size, 0, none⟩ = some (.int .u64 b) ∧ w'.cell? ⟨w.heap.size, 1, none⟩ = some (.int .u64 t) ∧ w'.cell? ⟨w.heap.size, 2, none⟩ = some (.bool o) ∧ Bh w (w.heap.size + 1) w')
      (first | (refine ⟨?_, ?_, ?_, ?_⟩ <;> first | with_reducible assumption | ((repeat' (first | with_reducible assumption | with_reducible apply Bh.drew | with_reducible apply Bh.alloc | with_reducible apply Bh.set | with_reducible refine Bh.cell_set (n := w.heap.size + 1) (p := ⟨_, _, none⟩) ?_ ?_ ?_ | with_reducible refine Bh.cell_alloc (W := w) (n := w.heap.size + 1) (p := ⟨_, _, none⟩) ?_ ?_ ?_ | (dsimp only; omega))); done) | (with_reducible apply Bh.drew; assumption) | (simp [go_sem, *]; done)))
      (first
        | (go_at_call 75; go_split_ands; refine (topOf_w _ _ _ _).mono ?_; rintro e w' ⟨rfl, qk⟩; have q0 : w'.cell? ⟨w.heap.size, 0, none⟩ = some (.int .u64 b) := Bh.cell (n := w.heap.size + 1) (W := w) (by with_reducible assumption) qk (by dsimp only; omega) (by with_reducible assumption); have q1 : w'.cell? ⟨w.heap.size, 1, none⟩ = some (.int .u64 t) := Bh.cell (n := w.heap.size + 1) (W := w) (by with_reducible assumption) qk (by dsimp only; omega) (by with_reducible assumption); have q2 : w'.cell? ⟨w.heap.size, 2, none⟩ = some (.bool o) := Bh.cell (n := w.heap.size + 1) (W := w) (by with_reducible assumption) qk (by dsimp only; omega) (by with_reducible assumption); have qb : Bh w (w.heap.size + 1) w' := Bh.step (by with_reducible assumption) qk; have ql := qb.le; obtain ⟨hc, hf, hz⟩ := qk.cells; clear qk))
    all_goals
      rename_i hh
      have hB := hh.2.2.2
      have hb0 := hh.1
      have hb1 := hh.2.1
      clear hh
      go_wp2_with fail
      go_meet
      refine ⟨_, _, rfl, rfl, ?_, ?_, ?_, ?_, hb0, hb1, ?_, ?_, ?_, ?_, hB.kp⟩
    all_goals first
      | (simp [go_sem, hc, hf, hz]; done)
      | (simp; omega)
      | (have z1 := hz (w.heap.size + 1); have z2 := hz (w.heap.size + 1 + 1); simp at z1 z2; simp; omega)
  case rest =>
    obtain ⟨g, h, rfl, rfl, h0, h1, h2, h3, h4, h5, h6, h7, h8, h9, hkp⟩ := hcut
    obtain ⟨m1, m2, m3, m4, m5⟩ := len_m b t o b0 b1 t0 t1
    have T := topN_bd t o t0 t1
    by_cases c1 : topN t o < b
    · have e1 : ltB (wN (b01 o) t) (wN 0 b) = true := by rw [m1]; simpa [ltB, topN] using c1
      have M := Lib.hid (m3 c1)
      clear m1 m2 m3 m4 m5 T
      go_wp2_with (go_at_call 76; refine (below_w _ _ _ _ (b01_lo _) (b01_hi _) (by omega) (by omega) (by omega) (by omega) (by omega) (by omega) _).mono ?_; rintro e w1 ⟨rfl, hk⟩; have HK := Lib.hid hk; clear hk)
      go_ret
      exact ⟨ret_int M.out.symm, hkp.trans HK.out⟩
    · have e1 : ltB (wN (b01 o) t) (wN 0 b) = false := by rw [m1]; simpa [ltB, topN] using c1
      have hR : (ltB (wN (b01 o) t) (wN (wH (wN 0 b + wN 1 0)) (wL (wN 0 b + wN 1 0))) = false ∧ lenV b t o = 18446744073709551615) ∨ (ltB (wN (b01 o) t) (wN (wH (wN 0 b + wN 1 0)) (wL (wN 0 b + wN 1 0))) = true ∧ lenV b t o = IntKind.u64.wrap (t - b)) := by
        rw [m2]
        by_cases c2 : b + 18446744073709551616 ≤ topN t o
        · exact .inl ⟨by simpa [ltB, topN] using c2, m4 (by omega) c2⟩
        · exact .inr ⟨by simpa [ltB, topN] using c2, m5 (by omega) (by omega)⟩
      clear m1 m2 m3 m4 m5 T c1
      rcases hR with ⟨e2, M⟩ | ⟨e2, M⟩
      all_goals
        have M' := Lib.hid M
        clear M
        go_wp2_with (go_at_call 76; go_loud (refine (below_w _ _ _ _ (b01_lo _) (b01_hi _) (by omega) (by omega) (by omega) (by omega) (by omega) (by omega) _).mono ?_; rintro e w1 ⟨rfl, hk⟩; have r0 := (hk.cell (p := ⟨g, 0, none⟩) h8).trans h0; have r1 := (hk.cell (p := ⟨g, 1, none⟩) h8).trans h1; have r2 := (hk.cell (p := ⟨h, 0, none⟩) h9).trans h2; have r3 := (hk.cell (p := ⟨h, 1, none⟩) h9).trans h3; have r4 := (hk.cell (p := ⟨w.heap.size, 0, none⟩) (by dsimp only; omega)).trans h4; have r5 := (hk.cell (p := ⟨w.heap.size, 1, none⟩) (by dsimp only; omega)).trans h5; have hB : Bh w wc.heap.size w1 := ⟨hkp.trans hk, by omega, hk.size⟩; clear hk))
        go_region_held3 (fun w' => w'.cell? ⟨g, 0, none⟩ = some (.int .u64 0) ∧ w'.cell? ⟨g, 1, none⟩ = some (.int .u64 b) ∧ w'.cell? ⟨h, 0, none⟩ = some (.int .u64 (b01 o)) ∧ w'.cell? ⟨h, 1, none⟩ = some (.int .u64 t) ∧ w'.cell? ⟨w.heap.size, 0, none⟩ = some (.int .u64 b) ∧ w'.cell? ⟨w.heap.size, 1, none⟩ = some (.int .u64 t) ∧ Bh w (wc.heap.size) w')
          (first | (refine ⟨?_, ?_, ?_, ?_, ?_, ?_, ?_⟩ <;> first | with_reducible assumption | ((repeat' (first | with_reducible assumption | with_reducible apply Bh.drew | with_reducible apply Bh.alloc | with_reducible apply Bh.set | with_reducible refine Bh.cell_set (n := wc.heap.size) (p := ⟨_, _, none⟩) ?_ ?_ ?_ | with_reducible refine Bh.cell_alloc (W := w) (n := wc.heap.size) (p := ⟨_, _, none⟩) ?_ ?_ ?_ | (dsimp only; omega))); done) | (with_reducible apply Bh.drew; assumption) | (simp [go_sem, *]; done)))
          (first
            | (go_at_call 74; go_split_ands; refine (plus_w _ _ _ _ (by omega) (by omega) (by omega) (by omega) (by omega) (by omega) (by omega) (by omega) _).mono ?_; rintro e w' ⟨rfl, qk⟩; have q0 : w'.cell? ⟨g, 0, none⟩ = some (.int .u64 0) := Bh.cell (n := wc.heap.size) (W := w) (by with_reducible assumption) qk (by dsimp only; omega) (by with_reducible assumption); have q1 : w'.cell? ⟨g, 1, none⟩ = some (.int .u64 b) := Bh.cell (n := wc.heap.size) (W := w) (by with_reducible assumption) qk (by dsimp only; omega) (by with_reducible assumption); have q2 : w'.cell? ⟨h, 0, none⟩ = some (.int .u64 (b01 o)) := Bh.cell (n := wc.heap.size) (W := w) (by with_reducible assumption) qk (by dsimp only; omega) (by with_reducible assumption); have q3 : w'.cell? ⟨h, 1, none⟩ = some (.int .u64 t) := Bh.cell (n := wc.heap.size) (W := w) (by with_reducible assumption) qk (by dsimp only; omega) (by with_reducible assumption); have q4 : w'.cell? ⟨w.heap.size, 0, none⟩ = some (.int .u64 b) := Bh.cell (n := wc.heap.size) (W := w) (by with_reducible assumption) qk (by dsimp only; omega) (by with_reducible assumption); have q5 : w'.cell? ⟨w.heap.size, 1, none⟩ = some (.int .u64 t) := Bh.cell (n := wc.heap.size) (W := w) (by with_reducible assumption) qk (by dsimp only; omega) (by with_reducible assumption); have qb : Bh w (wc.heap.size) w' := Bh.step (by with_reducible assumption) qk; have ql := qb.le; clear qk)
            | (go_at_call 76; go_split_ands; refine (below_w _ _ _ _ (b01_lo _) (b01_hi _) (by omega) (by omega) (wH_lo _) (wH_hi _) (wL_lo _) (wL_hi _) _).mono ?_; rintro e w' ⟨rfl, qk⟩; have q0 : w'.cell? ⟨g, 0, none⟩ = some (.int .u64 0) := Bh.cell (n := wc.heap.size) (W := w) (by with_reducible assumption) qk (by dsimp only; omega) (by with_reducible assumption); have q1 : w'.cell? ⟨g, 1, none⟩ = some (.int .u64 b) := Bh.cell (n := wc.heap.size) (W := w) (by with_reducible assumption) qk (by dsimp only; omega) (by with_reducible assumption); have q2 : w'.cell? ⟨h, 0, none⟩ = some (.int .u64 (b01 o)) := Bh.cell (n := wc.heap.size) (W := w) (by with_reducible assumption) qk (by dsimp only; omega) (by with_reducible assumption); have q3 : w'.cell? ⟨h, 1, none⟩ = some (.int .u64 t) := Bh.cell (n := wc.heap.size) (W := w) (by with_reducible assumption) qk (by dsimp only; omega) (by with_reducible assumption); have q4 : w'.cell? ⟨w.heap.size, 0, none⟩ = some (.int .u64 b) := Bh.cell (n := wc.heap.size) (W := w) (by with_reducible assumption) qk (by dsimp only; omega) (by with_reducible assumption); have q5 : w'.cell? ⟨w.heap.size, 1, none⟩ = some (.int .u64 t) := Bh.cell (n := wc.heap.size) (W := w) (by with_reducible assumption) qk (by dsimp only; omega) (by with_reducible assumption); have qb : Bh w (wc.heap.size) w' := Bh.step (by with_reducible assumption) qk; have ql := qb.le; clear qk))
        go_wp2
        go_ret
        exact ⟨ret_int M'.out.symm, qb.kp⟩
end Go.Proofs.Ytddgmbfngbobgaa
