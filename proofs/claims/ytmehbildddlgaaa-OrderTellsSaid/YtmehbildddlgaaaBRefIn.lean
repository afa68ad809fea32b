/-
  Contracts of the document's answer for ranges (ravelinref03: one, top, notAbove, In, Within, Len): they are what the plain mathematics says. Numbers are within their types.
-/
import Derived.Test.YtmehbildddlgaaaBOfW
namespace Go.Proofs.Ytmehbildddlgaaa
open Go.ChangeShapes Go.WideShapes Go.ChangeAt Go.RowKit
set_option linter.unusedVariables false
set_option linter.unusedSimpArgs false

theorem one_w (o : Bool) (w : World) :
    Calls Try.prog 71 #[.bool o] w fun e w' => e = .returned (.int .i64 (b01 o)) ∧ w = w' := by
  cases o
  all_goals
    go_enter Try.func71, Try.ntmps71
    go_wp2
    go_ret
    exact ⟨rfl, rfl⟩
theorem one_k (o : Bool) (w : World) :
    Calls Try.prog 71 #[.bool o] w fun e w' => e = .returned (.int .i64 (b01 o)) ∧ Kp w w' :=
  (one_w o w).mono fun _ _ ⟨h, k⟩ => ⟨h, k ▸ Kp.refl w⟩
theorem wrap_b01 (o : Bool) : IntKind.u64.wrap (b01 o) = b01 o := by cases o <;> decide
set_option maxHeartbeats 1000000 in
theorem rtop_w (b t : Int) (o : Bool) (w : World) :
    Calls Try.prog 70 #[.agg #[.int .u64 b, .int .u64 t, .bool o]] w fun e w' => e = .returned (.agg #[.int .u64 (b01 o), .int .u64 t]) ∧ Kp w w' := by
  have kb : Bh w (w.heap.size + 1) ((w.alloc (.cells #[.int .u64 b, .int .u64 t, .bool o] 66)).alloc (.cells #[.int .u64 0, .int .u64 0] 81)) := ⟨((Kp.refl w).allocs _ _).allocs _ _, by simp, by simp⟩
  have hw := wrap_b01 o
  go_enter Try.func70, Try.ntmps70
  go_wp2_with fail
  go_region_held3 (fun w' => w'.cell? ⟨w.heap.size, 0, none⟩ = some (.int .u64 b) ∧ w'.cell? ⟨w.heap.size, 1, none⟩ = some (.int .u64 t) ∧ w'.cell? ⟨w.heap.size, 2, none⟩ = some (.bool o) ∧ Bh w (w.heap.size + 1) w')
    (first | (refine ⟨?_, ?_, ?_, ?_⟩ <;> first | with_reducible assumption | ((repeat' (first | with_reducible assumption | with_reducible apply Bh.drew | with_reducible apply Bh.alloc | with_reducible apply Bh.set | with_reducible refine Bh.cell_set (n := w.heap.size + 1) (p := ⟨_, _, none⟩) ?_ ?_ ?_ | with_reducible refine Bh.cell_alloc (W := w) (n := w.heap.size + 1) (p := ⟨_, _, none⟩) ?_ ?_ ?_ | (dsimp only; omega))); done) | (with_reducible apply Bh.drew; assumption) | (simp [go_sem, *]; done)))
    (first
      | (go_at_call 71; go_split_ands; refine (one_k _ _).mono ?_; rintro e w' ⟨rfl, qk⟩; have q0 : w'.cell? ⟨w.heap.size, 0, none⟩ = some (.int .u64 b) := Bh.cell (n := w.heap.size + 1) (W := w) (by with_reducible assumption) qk (by dsimp only; omega) (by with_reducible assumption); have q1 : w'.cell? ⟨w.heap.size, 1, none⟩ = some (.int .u64 t) := Bh.cell (n := w.heap.size + 1) (W := w) (by with_reducible assumption) qk (by dsimp only; omega) (by with_reducible assumption); have q2 : w'.cell? ⟨w.heap.size, 2, none⟩ = some (.bool o) := Bh.cell (n := w.heap.size + 1) (W := w) (by with_reducible assumption) qk (by dsimp only; omega) (by with_reducible assumption); have qb : Bh w (w.heap.size + 1) w' := Bh.step (by with_reducible assumption) qk; have ql := qb.le; (try have hx := Kp.chain hy qk (by first | exact Nat.le_refl _ | (simp; done) | (simp; omega))); (try have hx1 := (Kp.up1 hx).1); (try have hx2 := (Kp.up1 hx).2.1); (try have hx3 := (Kp.up1 hx).2.2); (try have hy := Kp.chain hz qk (by first | exact Nat.le_refl _ | (simp; done) | (simp; omega))); (try have hy1 := (Kp.up1 hy).1); (try have hy2 := (Kp.up1 hy).2.1); (try have hy3 := (Kp.up1 hy).2.2); obtain ⟨hc, hf, hz⟩ := qk.cells; (try have hz1 := (Kp.up1 hz).1); (try have hz2 := (Kp.up1 hz).2.1); (try have hz3 := (Kp.up1 hz).2.2); clear qk))
  go_wp2
  rename_i hh
  have hB := hh.2.2.2
  refine bodyPost_ret (v := .agg #[.int .u64 (b01 o), .int .u64 t]) ?_ rfl ⟨rfl, hB.kp⟩
  simp (maxDischargeDepth := 8) [results, Try.results70, go_sem, *]
theorem na_w (h l i m : Int) (h0 : 0 ≤ h) (h1 : h < 2) (l0 : 0 ≤ l) (l1 : l < 18446744073709551616) (i0 : 0 ≤ i) (i1 : i < 2) (m0 : 0 ≤ m) (m1 : m < 18446744073709551616) (w : World) :
    Calls Try.prog 69 #[.agg #[.int .u64 h, .int .u64 l], .agg #[.int .u64 i, .int .u64 m]] w fun e w' => e = .returned (.bool (!ltB (wN i m) (wN h l))) ∧ Kp w w' := by
  go_enter Try.func69, Try.ntmps69
  go_wp2
  all_goals
    go_ret
    refine ⟨ret_bool ?_, ((Kp.refl w).allocs _ _).allocs _ _⟩
    unfold ltB wN
    rw [Bool.eq_iff_iff]
    simp only [Bool.not_eq_true', decide_eq_true_eq, decide_eq_false_iff_not, Bool.true_eq_false, beq_iff_eq, Bool.false_eq_true, true_iff, false_iff] at *
    omega
theorem rwithin_w (b t : Int) (o : Bool) (c u : Int) (p : Bool) (t0 : 0 ≤ t) (t1 : t < 18446744073709551616) (u0 : 0 ≤ u) (u1 : u < 18446744073709551616) (w : World) :
    Calls Try.prog 44 #[.agg #[.int .u64 b, .int .u64 t, .bool o], .agg #[.int .u64 c, .int .u64 u, .bool p]] w fun e w' => e = .returned (.bool (withinB b t o c u p)) ∧ Kp w w' := by
  by_cases hb : c ≤ b
  · have hd : decide (c ≤ b) = true := by simpa using hb
    have k0 : Bh w (w.heap.size + 2) ((w.alloc (.cells #[.int .u64 b, .int .u64 t, .bool o] 66)).alloc (.cells #[.int .u64 c, .int .u64 u, .bool p] 66)) := ⟨((Kp.refl w).allocs _ _).allocs _ _, by simp, by simp⟩
    go_enter Try.func44, Try.ntmps44
    go_wp2_with fail
    go_region_held3 (fun w' => w'.cell? ⟨w.heap.size, 0, none⟩ = some (.int .u64 b) ∧ w'.cell? ⟨w.heap.size, 1, none⟩ = some (.int .u64 t) ∧ w'.cell? ⟨w.heap.size, 2, none⟩ = some (.bool o) ∧ w'.cell? ⟨w.heap.size + 1, 0, none⟩ = some (.int .u64 c) ∧ w'.cell? ⟨w.heap.size + 1, 1, none⟩ = some (.int .u64 u) ∧ w'.cell? ⟨w.heap.size + 1, 2, none⟩ = some (.bool p) ∧ Bh w (w.heap.size + 2) w')
      (first | (refine ⟨?_, ?_, ?_, ?_, ?_, ?_, ?_⟩ <;> first | with_reducible assumption | ((repeat' (first | with_reducible assumption | with_reducible apply Bh.drew | with_reducible apply Bh.alloc | with_reducible apply Bh.set | with_reducible refine Bh.cell_set (n := w.heap.size + 2) (p := ⟨_, _, none⟩) ?_ ?_ ?_ | with_reducible refine Bh.cell_alloc (W := w) (n := w.heap.size + 2) (p := ⟨_, _, none⟩) ?_ ?_ ?_ | (dsimp only; omega))); done) | (with_reducible apply Bh.drew; assumption) | (simp [go_sem, *]; done)))
      (first
        | (go_at_call 70; go_split_ands; refine (rtop_w _ _ _ _).mono ?_; rintro e w' ⟨rfl, qk⟩; have q0 : w'.cell? ⟨w.heap.size, 0, none⟩ = some (.int .u64 b) := Bh.cell (n := w.heap.size + 2) (W := w) (by with_reducible assumption) qk (by dsimp only; omega) (by with_reducible assumption); have q1 : w'.cell? ⟨w.heap.size, 1, none⟩ = some (.int .u64 t) := Bh.cell (n := w.heap.size + 2) (W := w) (by with_reducible assumption) qk (by dsimp only; omega) (by with_reducible assumption); have q2 : w'.cell? ⟨w.heap.size, 2, none⟩ = some (.bool o) := Bh.cell (n := w.heap.size + 2) (W := w) (by with_reducible assumption) qk (by dsimp only; omega) (by with_reducible assumption); have q3 : w'.cell? ⟨w.heap.size + 1, 0, none⟩ = some (.int .u64 c) := Bh.cell (n := w.heap.size + 2) (W := w) (by with_reducible assumption) qk (by dsimp only; omega) (by with_reducible assumption); have q4 : w'.cell? ⟨w.heap.size + 1, 1, none⟩ = some (.int .u64 u) := Bh.cell (n := w.heap.size + 2) (W := w) (by with_reducible assumption) qk (by dsimp only; omega) (by with_reducible assumption); have q5 : w'.cell? ⟨w.heap.size + 1, 2, none⟩ = some (.bool p) := Bh.cell (n := w.heap.size + 2) (W := w) (by with_reducible assumption) qk (by dsimp only; omega) (by with_reducible assumption); have qb : Bh w (w.heap.size + 2) w' := Bh.step (by with_reducible assumption) qk; have ql := qb.le; clear qk)
        | (go_at_call 69; go_split_ands; refine (na_w _ _ _ _ (b01_lo _) (b01_hi _) (by omega) (by omega) (b01_lo _) (b01_hi _) (by omega) (by omega) _).mono ?_; rintro e w' ⟨rfl, qk⟩; have q0 : w'.cell? ⟨w.heap.size, 0, none⟩ = some (.int .u64 b) := Bh.cell (n := w.heap.size + 2) (W := w) (by with_reducible assumption) qk (by dsimp only; omega) (by with_reducible assumption); have q1 : w'.cell? ⟨w.heap.size, 1, none⟩ = some (.int .u64 t) := Bh.cell (n := w.heap.size + 2) (W := w) (by with_reducible assumption) qk (by dsimp only; omega) (by with_reducible assumption); have q2 : w'.cell? ⟨w.heap.size, 2, none⟩ = some (.bool o) := Bh.cell (n := w.heap.size + 2) (W := w) (by with_reducible assumption) qk (by dsimp only; omega) (by with_reducible assumption); have q3 : w'.cell? ⟨w.heap.size + 1, 0, none⟩ = some (.int .u64 c) := Bh.cell (n := w.heap.size + 2) (W := w) (by with_reducible assumption) qk (by dsimp only; omega) (by with_reducible assumption); have q4 : w'.cell? ⟨w.heap.size + 1, 1, none⟩ = some (.int .u64 u) := Bh.cell (n := w.heap.size + 2) (W := w) (by with_reducible assumption) qk (by dsimp only; omega) (by with_reducible assumption); have q5 : w'.cell? ⟨w.heap.size + 1, 2, none⟩ = some (.bool p) := Bh.cell (n := w.heap.size + 2) (W := w) (by with_reducible assumption) qk (by dsimp only; omega) (by with_reducible assumption); have qb : Bh w (w.heap.size + 2) w' := Bh.step (by with_reducible assumption) qk; have ql := qb.le; clear qk))
    go_wp2
    go_ret
    refine ⟨ret_bool ?_, qb.kp⟩
    show (!ltB (wN (b01 p) u) (wN (b01 o) t)) = _
    simp [withinB, topN, hd]
  · have hd : decide (c ≤ b) = false := by simpa using hb
    go_enter Try.func44, Try.ntmps44
    go_wp2_with fail
    go_quiet (fail)
    go_wp2
    go_ret
    refine ⟨ret_bool ?_, (((Kp.refl w).allocs _ _).allocs _ _).drewN _⟩
    show false = _
    simp [withinB, hd]
theorem rin_w (b t : Int) (o : Bool) (a n : Int) (t0 : 0 ≤ t) (t1 : t < 18446744073709551616) (a0 : 0 ≤ a) (a1 : a < 18446744073709551616) (n0 : -9223372036854775808 ≤ n) (n1 : n < 9223372036854775808) (w : World) :
    Calls Try.prog 68 #[.agg #[.int .u64 b, .int .u64 t, .bool o], .int .u64 a, .int .i64 n] w fun e w' => e = .returned (.bool (inB b t o a n)) ∧ Kp w w' := by
  by_cases hn : 0 ≤ n
  · have hdn : decide (n < 0) = false := by simpa using hn
    by_cases hb : b ≤ a
    · have hd : decide (a < b) = false := by simpa using hb
      have hW := wrap_bd (a + n)
      obtain ⟨E, hE⟩ : ∃ E : Int, E = IntKind.u64.wrap (a + n) := ⟨_, rfl⟩
      have hE' : IntKind.u64.wrap (a + n) = E := hE.symm
      have hEN : wN (b01 (decide (E < a))) E = a + n := by
        rw [hE, IntKind.wrap_u64]; unfold wN b01; simp only [decide_eq_true_eq]; split <;> omega
      have HEN := Lib.hid hEN
      rw [hE'] at hW
      clear hEN hE
      have hw : ∀ q : Bool, IntKind.u64.wrap (b01 q) = b01 q := wrap_b01
      have k0 : Bh w (w.heap.size + 1) (w.alloc (.cells #[.int .u64 b, .int .u64 t, .bool o] 66)) := ⟨((Kp.refl w).allocs _ _), by simp, by simp⟩
      have hI : inB b t o a n = !ltB (wN (b01 o) t) (a + n) := by
        have e1 : decide (0 ≤ n) = true := by simpa using hn
        have e2 : decide (b ≤ a) = true := by simpa using hb
        unfold inB; rw [e1, e2]; rfl
      have HI := Lib.hid hI
      clear hI
      go_enter Try.func68, Try.ntmps68
      go_wp2_with fail
      go_region_held3 (fun w' => w'.cell? ⟨w.heap.size, 0, none⟩ = some (.int .u64 b) ∧ w'.cell? ⟨w.heap.size, 1, none⟩ = some (.int .u64 t) ∧ w'.cell? ⟨w.heap.size, 2, none⟩ = some (.bool o) ∧ Bh w (w.heap.size + 1) w')
        (first | (refine ⟨?_, ?_, ?_, ?_⟩ <;> first | with_reducible assumption | ((repeat' (first | with_reducible assumption | with_reducible apply Bh.drew | with_reducible apply Bh.alloc | with_reducible apply Bh.set | with_reducible refine Bh.cell_set (n := w.heap.size + 1) (p := ⟨_, _, none⟩) ?_ ?_ ?_ | with_reducible refine Bh.cell_alloc (W := w) (n := w.heap.size + 1) (p := ⟨_, _, none⟩) ?_ ?_ ?_ | (dsimp only; omega))); done) | (with_reducible apply Bh.drew; assumption) | (simp [go_sem, *]; done)))
        (first
          | (go_at_call 71; go_split_ands; refine (one_k _ _).mono ?_; rintro e w' ⟨rfl, qk⟩; have q0 : w'.cell? ⟨w.heap.size, 0, none⟩ = some (.int .u64 b) := Bh.cell (n := w.heap.size + 1) (W := w) (by with_reducible assumption) qk (by dsimp only; omega) (by with_reducible assumption); have q1 : w'.cell? ⟨w.heap.size, 1, none⟩ = some (.int .u64 t) := Bh.cell (n := w.heap.size + 1) (W := w) (by with_reducible assumption) qk (by dsimp only; omega) (by with_reducible assumption); have q2 : w'.cell? ⟨w.heap.size, 2, none⟩ = some (.bool o) := Bh.cell (n := w.heap.size + 1) (W := w) (by with_reducible assumption) qk (by dsimp only; omega) (by with_reducible assumption); have qb : Bh w (w.heap.size + 1) w' := Bh.step (by with_reducible assumption) qk; have ql := qb.le; clear qk)
          | (go_at_call 70; go_split_ands; refine (rtop_w _ _ _ _).mono ?_; rintro e w' ⟨rfl, qk⟩; have q0 : w'.cell? ⟨w.heap.size, 0, none⟩ = some (.int .u64 b) := Bh.cell (n := w.heap.size + 1) (W := w) (by with_reducible assumption) qk (by dsimp only; omega) (by with_reducible assumption); have q1 : w'.cell? ⟨w.heap.size, 1, none⟩ = some (.int .u64 t) := Bh.cell (n := w.heap.size + 1) (W := w) (by with_reducible assumption) qk (by dsimp only; omega) (by with_reducible assumption); have q2 : w'.cell? ⟨w.heap.size, 2, none⟩ = some (.bool o) := Bh.cell (n := w.heap.size + 1) (W := w) (by with_reducible assumption) qk (by dsimp only; omega) (by with_reducible assumption); have qb : Bh w (w.heap.size + 1) w' := Bh.step (by with_reducible assumption) qk; have ql := qb.le; clear qk)
          | (go_at_call 69; go_split_ands; refine (na_w _ _ _ _ (b01_lo _) (b01_hi _) (by omega) (by omega) (b01_lo _) (b01_hi _) (by omega) (by omega) _).mono ?_; rintro e w' ⟨rfl, qk⟩; have q0 : w'.cell? ⟨w.heap.size, 0, none⟩ = some (.int .u64 b) := Bh.cell (n := w.heap.size + 1) (W := w) (by with_reducible assumption) qk (by dsimp only; omega) (by with_reducible assumption); have q1 : w'.cell? ⟨w.heap.size, 1, none⟩ = some (.int .u64 t) := Bh.cell (n := w.heap.size + 1) (W := w) (by with_reducible assumption) qk (by dsimp only; omega) (by with_reducible assumption); have q2 : w'.cell? ⟨w.heap.size, 2, none⟩ = some (.bool o) := Bh.cell (n := w.heap.size + 1) (W := w) (by with_reducible assumption) qk (by dsimp only; omega) (by with_reducible assumption); have qb : Bh w (w.heap.size + 1) w' := Bh.step (by with_reducible assumption) qk; have ql := qb.le; clear qk))
      all_goals
        go_wp2
        go_ret
        refine ⟨ret_bool ?_, qb.kp⟩
        rw [HI.out, ← HEN.out]
    · have hd : decide (a < b) = true := by simpa using hb
      go_enter Try.func68, Try.ntmps68
      go_wp2
      go_ret
      refine ⟨ret_bool ?_, (Kp.refl w).allocs _ _⟩
      have e2 : decide (b ≤ a) = false := by simpa using hb
      simp [inB, e2]
  · have hdn : decide (n < 0) = true := by simpa using hn
    go_enter Try.func68, Try.ntmps68
    go_wp2
    go_ret
    refine ⟨ret_bool ?_, (Kp.refl w).allocs _ _⟩
    have e2 : decide (0 ≤ n) = false := by simpa using hn
    simp [inB, e2]
end Go.Proofs.Ytmehbildddlgaaa
