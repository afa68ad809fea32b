/-
  Contracts of the document's answer for ranges (ravelinref03: one, top, notAbove, In, Within, Len): they are what the plain mathematics says. Numbers are within their types.
  Contracts of the document's answer for layer 3: part, up, add (numbers of 65 bits as an upper bit and 64). Numbers are within their types.
  The contract of the document's answer for bounds (ravelinref03.Of, Fits): it is what the plain mathematics says. Bounds' fields are in their places.
  The contracts of the document's answer for bounds, with the plain mathematics put in: Of, Fits. Bounds' fields are in their places.
-/
import Derived.Test.YtkddgjaflcjhiaaBOfW
import Derived.Test.YtkddgjaflcjhiaaCAt
import Derived.Test.YtkddgjaflcjhiaaCBase
namespace Go.Proofs.Ytkddgjaflcjhiaa
open Go.ChangeShapes Go.WideShapes Go.ChangeAt Go.RowKit
set_option linter.unusedVariables false
set_option linter.unusedSimpArgs false

theorem one_w (o : Bool) (w : World) :
    Calls Try.prog 84 #[o] w fun e w' => e = .returned (.int .i64 (b01 o)) ∧ w = w' := by
  cases o
  all_goals
    go_enter Try.func84, Try.ntmps84
    go_wp2
    go_ret
    exact ⟨rfl, rfl⟩
theorem one_k (o : Bool) (w : World) :
    Calls Try.prog 84 #[o] w fun e w' => e = .returned (.int .i64 (b01 o)) ∧ Kp w w' :=
  (one_w o w).mono fun _ _ ⟨h, k⟩ => ⟨h, k ▸ Kp.refl w⟩
theorem wrap_b01 (o : Bool) : IntKind.u64.wrap (b01 o) = b01 o := by cases o <;> decide
set_option maxHeartbeats 1000000 in
theorem rtop_w (b t : Int) (o : Bool) (w : World) :
    Calls Try.prog 83 #[.agg #[.int .u64 b, .int .u64 t, o]] w fun e w' => e = .returned (.agg #[.int .u64 (b01 o), .int .u64 t]) ∧ Kp w w' := by
  have kb : Bh w (w.heap.size + 1) ((w.alloc (.cells #[.int .u64 b, .int .u64 t, o] 39)).alloc (.cells #[.int .u64 0, .int .u64 0] 98)) := ⟨((Kp.refl w).allocs _ _).allocs _ _, by simp, by simp⟩
  have hw := wrap_b01 o
  go_enter Try.func83, Try.ntmps83
  go_wp2_with fail
  go_region_held3 (fun w' => w'.cell? ⟨w.heap.size, 0, none⟩ = some (.int .u64 b) ∧ w'.cell? ⟨w.heap.size, 1, none⟩ = some (.int .u64 t) ∧ w'.cell? ⟨w.heap.size, 2, none⟩ = some (.bool o) ∧ Bh w (w.heap.size + 1) w')
    (first | (refine ⟨?_, ?_, ?_, ?_⟩ <;> first | with_reducible assumption | ((repeat' (first | with_reducible assumption | with_reducible apply Bh.drew | with_reducible apply Bh.alloc | with_reducible apply Bh.set | with_reducible refine Bh.cell_set (n := w.heap.size + 1) (p := ⟨_, _, none⟩) ?_ ?_ ?_ | with_reducible refine Bh.cell_alloc (W := w) (n := w.heap.size + 1) (p := ⟨_, _, none⟩) ?_ ?_ ?_ | (dsimp only; omega))); done) | (with_reducible apply Bh.drew; assumption) | (simp [go_sem, *]; done)))
    (first
      | (go_at_call 84; go_split_ands; refine (one_k _ _).mono ?_; rintro e w' ⟨rfl, qk⟩; have q0 : w'.cell? ⟨w.heap.size, 0, none⟩ = some (.int .u64 b) := Bh.cell (n := w.heap.size + 1) (W := w) (by with_reducible assumption) qk (by dsimp only; omega) (by with_reducible assumption); have q1 : w'.cell? ⟨w.heap.size, 1, none⟩ = some (.int .u64 t) := Bh.cell (n := w.heap.size + 1) (W := w) (by with_reducible assumption) qk (by dsimp only; omega) (by with_reducible assumption); have q2 : w'.cell? ⟨w.heap.size, 2, none⟩ = some (.bool o) := Bh.cell (n := w.heap.size + 1) (W := w) (by with_reducible assumption) qk (by dsimp only; omega) (by with_reducible assumption); have qb : Bh w (w.heap.size + 1) w' := Bh.step (by with_reducible assumption) qk; have ql := qb.le; (try have hx := Kp.chain hy qk (by first | exact Nat.le_refl _ | (simp; done) | (simp; omega))); (try have hx1 := (Kp.up1 hx).1); (try have hx2 := (Kp.up1 hx).2.1); (try have hx3 := (Kp.up1 hx).2.2); (try have hy := Kp.chain hz qk (by first | exact Nat.le_refl _ | (simp; done) | (simp; omega))); (try have hy1 := (Kp.up1 hy).1); (try have hy2 := (Kp.up1 hy).2.1); (try have hy3 := (Kp.up1 hy).2.2); obtain ⟨hc, hf, hz⟩ := qk.cells; (try have hz1 := (Kp.up1 hz).1); (try have hz2 := (Kp.up1 hz).2.1); (try have hz3 := (Kp.up1 hz).2.2); clear qk))
  go_wp2
  rename_i hh
  have hB := hh.2.2.2
  refine bodyPost_ret (v := .agg #[.int .u64 (b01 o), .int .u64 t]) ?_ rfl ⟨rfl, hB.kp⟩
  simp (maxDischargeDepth := 8) [results, Try.results83, go_sem, *]
theorem na_w (h l i m : Int) (h0 : 0 ≤ h) (h1 : h < 2) (l0 : 0 ≤ l) (l1 : l < 18446744073709551616) (i0 : 0 ≤ i) (i1 : i < 2) (m0 : 0 ≤ m) (m1 : m < 18446744073709551616) (w : World) :
    Calls Try.prog 82 #[.agg #[.int .u64 h, .int .u64 l], .agg #[.int .u64 i, .int .u64 m]] w fun e w' => e = .returned (.bool (!ltB (wN i m) (wN h l))) ∧ Kp w w' := by
  go_enter Try.func82, Try.ntmps82
  go_wp2
  all_goals
    go_ret
    refine ⟨ret_bool ?_, ((Kp.refl w).allocs _ _).allocs _ _⟩
    unfold ltB wN
    rw [Bool.eq_iff_iff]
    simp only [Bool.not_eq_true', decide_eq_true_eq, decide_eq_false_iff_not, Bool.true_eq_false, beq_iff_eq, Bool.false_eq_true, true_iff, false_iff] at *
    omega
theorem rwithin_w (b t : Int) (o : Bool) (c u : Int) (p : Bool) (t0 : 0 ≤ t) (t1 : t < 18446744073709551616) (u0 : 0 ≤ u) (u1 : u < 18446744073709551616) (w : World) :
    Calls Try.prog 59 #[.agg #[.int .u64 b, .int .u64 t, o], .agg #[.int .u64 c, .int .u64 u, p]] w fun e w' => e = .returned (.bool (withinB b t o c u p)) ∧ Kp w w' := by
  by_cases hb : c ≤ b
  · have hd : decide (c ≤ b) = true := by simpa using hb
    have k0 : Bh w (w.heap.size + 2) ((w.alloc (.cells #[.int .u64 b, .int .u64 t, o] 39)).alloc (.cells #[.int .u64 c, .int .u64 u, p] 39)) := ⟨((Kp.refl w).allocs _ _).allocs _ _, by simp, by simp⟩
    go_enter Try.func59, Try.ntmps59
    go_wp2_with fail
    go_region_held3 (fun w' => w'.cell? ⟨w.heap.size, 0, none⟩ = some (.int .u64 b) ∧ w'.cell? ⟨w.heap.size, 1, none⟩ = some (.int .u64 t) ∧ w'.cell? ⟨w.heap.size, 2, none⟩ = some (.bool o) ∧ w'.cell? ⟨w.heap.size + 1, 0, none⟩ = some (.int .u64 c) ∧ w'.cell? ⟨w.heap.size + 1, 1, none⟩ = some (.int .u64 u) ∧ w'.cell? ⟨w.heap.size + 1, 2, none⟩ = some (.bool p) ∧ Bh w (w.heap.size + 2) w')
      (first | (refine ⟨?_, ?_, ?_, ?_, ?_, ?_, ?_⟩ <;> first | with_reducible assumption | ((repeat' (first | with_reducible assumption | with_reducible apply Bh.drew | with_reducible apply Bh.alloc | with_reducible apply Bh.set | with_reducible refine Bh.cell_set (n := w.heap.size + 2) (p := ⟨_, _, none⟩) ?_ ?_ ?_ | with_reducible refine Bh.cell_alloc (W := w) (n := w.heap.size + 2) (p := ⟨_, _, none⟩) ?_ ?_ ?_ | (dsimp only; omega))); done) | (with_reducible apply Bh.drew; assumption) | (simp [go_sem, *]; done)))
      (first
        | (go_at_call 83; go_split_ands; refine (rtop_w _ _ _ _).mono ?_; rintro e w' ⟨rfl, qk⟩; have q0 : w'.cell? ⟨w.heap.size, 0, none⟩ = some (.int .u64 b) := Bh.cell (n := w.heap.size + 2) (W := w) (by with_reducible assumption) qk (by dsimp only; omega) (by with_reducible assumption); have q1 : w'.cell? ⟨w.heap.size, 1, none⟩ = some (.int .u64 t) := Bh.cell (n := w.heap.size + 2) (W := w) (by with_reducible assumption) qk (by dsimp only; omega) (by with_reducible assumption); have q2 : w'.cell? ⟨w.heap.size, 2, none⟩ = some (.bool o) := Bh.cell (n := w.heap.size + 2) (W := w) (by with_reducible assumption) qk (by dsimp only; omega) (by with_reducible assumption); have q3 : w'.cell? ⟨w.heap.size + 1, 0, none⟩ = some (.int .u64 c) := Bh.cell (n := w.heap.size + 2) (W := w) (by with_reducible assumption) qk (by dsimp only; omega) (by with_reducible assumption); have q4 : w'.cell? ⟨w.heap.size + 1, 1, none⟩ = some (.int .u64 u) := Bh.cell (n := w.heap.size + 2) (W := w) (by with_reducible assumption) qk (by dsimp only; omega) (by with_reducible assumption); have q5 : w'.cell? ⟨w.heap.size + 1, 2, none⟩ = some (.bool p) := Bh.cell (n := w.heap.size + 2) (W := w) (by with_reducible assumption) qk (by dsimp only; omega) (by with_reducible assumption); have qb : Bh w (w.heap.size + 2) w' := Bh.step (by with_reducible assumption) qk; have ql := qb.le; clear qk)
        | (go_at_call 82; go_split_ands; refine (na_w _ _ _ _ (b01_lo _) (b01_hi _) (by omega) (by omega) (b01_lo _) (b01_hi _) (by omega) (by omega) _).mono ?_; rintro e w' ⟨rfl, qk⟩; have q0 : w'.cell? ⟨w.heap.size, 0, none⟩ = some (.int .u64 b) := Bh.cell (n := w.heap.size + 2) (W := w) (by with_reducible assumption) qk (by dsimp only; omega) (by with_reducible assumption); have q1 : w'.cell? ⟨w.heap.size, 1, none⟩ = some (.int .u64 t) := Bh.cell (n := w.heap.size + 2) (W := w) (by with_reducible assumption) qk (by dsimp only; omega) (by with_reducible assumption); have q2 : w'.cell? ⟨w.heap.size, 2, none⟩ = some (.bool o) := Bh.cell (n := w.heap.size + 2) (W := w) (by with_reducible assumption) qk (by dsimp only; omega) (by with_reducible assumption); have q3 : w'.cell? ⟨w.heap.size + 1, 0, none⟩ = some (.int .u64 c) := Bh.cell (n := w.heap.size + 2) (W := w) (by with_reducible assumption) qk (by dsimp only; omega) (by with_reducible assumption); have q4 : w'.cell? ⟨w.heap.size + 1, 1, none⟩ = some (.int .u64 u) := Bh.cell (n := w.heap.size + 2) (W := w) (by with_reducible assumption) qk (by dsimp only; omega) (by with_reducible assumption); have q5 : w'.cell? ⟨w.heap.size + 1, 2, none⟩ = some (.bool p) := Bh.cell (n := w.heap.size + 2) (W := w) (by with_reducible assumption) qk (by dsimp only; omega) (by with_reducible assumption); have qb : Bh w (w.heap.size + 2) w' := Bh.step (by with_reducible assumption) qk; have ql := qb.le; clear qk))
    go_wp2
    go_ret
    refine ⟨ret_bool ?_, qb.kp⟩
    show (!ltB (wN (b01 p) u) (wN (b01 o) t)) = _
    simp [withinB, topN, hd]
  · have hd : decide (c ≤ b) = false := by simpa using hb
    go_enter Try.func59, Try.ntmps59
    go_wp2_with fail
    go_quiet (fail)
    go_wp2
    go_ret
    refine ⟨ret_bool ?_, (((Kp.refl w).allocs _ _).allocs _ _).drewN _⟩
    show false = _
    simp [withinB, hd]
theorem rin_w (b t : Int) (o : Bool) (a n : Int) (t0 : 0 ≤ t) (t1 : t < 18446744073709551616) (a0 : 0 ≤ a) (a1 : a < 18446744073709551616) (n0 : -9223372036854775808 ≤ n) (n1 : n < 9223372036854775808) (w : World) :
    Calls Try.prog 81 #[.agg #[.int .u64 b, .int .u64 t, o], .int .u64 a, n] w fun e w' => e = .returned (.bool (inB b t o a n)) ∧ Kp w w' := by
  by_cases hn : 0 ≤ n
  · have hdn : decide (n < 0) = false := by simpa using hn
    by_cases hb : b ≤ a
    · have hd : decide (a < b) = false := by simpa using hb
      have hW := wrap_bd (a + n)
      obtain ⟨E, hE⟩ : ∃ E : Int, E = IntKind.u64.wrap (a + n) := ⟨_, rfl⟩
      have hE' : IntKind.u64.wrap (a + n) = E := hE.symm
      have hEN : wN (b01 (decide (E < a))) E = a + n := by
        rw [hE, IntKind.wrap_u64]; unfold wN b01; simp only [decide_eq_true_eq]; split <;> omega
      have HEN := Lib.hid hEN
      rw [hE'] at hW
      clear hEN hE
      have hw : ∀ q : Bool, IntKind.u64.wrap (b01 q) = b01 q := wrap_b01
      have k0 : Bh w (w.heap.size + 1) (w.alloc (.cells #[.int .u64 b, .int .u64 t, o] 39)) := ⟨((Kp.refl w).allocs _ _), by simp, by simp⟩
      have hI : inB b t o a n = !ltB (wN (b01 o) t) (a + n) := by
        have e1 : decide (0 ≤ n) = true := by simpa using hn
        have e2 : decide (b ≤ a) = true := by simpa using hb
        unfold inB; rw [e1, e2]; rfl
      have HI := Lib.hid hI
      clear hI
      go_enter Try.func81, Try.ntmps81
      go_wp2_with fail
      go_region_held3 (fun w' => w'.cell? ⟨w.heap.size, 0, none⟩ = some (.int .u64 b) ∧ w'.cell? ⟨w.heap.size, 1, none⟩ = some (.int .u64 t) ∧ w'.cell? ⟨w.heap.size, 2, none⟩ = some (.bool o) ∧ Bh w (w.heap.size + 1) w')
        (first | (refine ⟨?_, ?_, ?_, ?_⟩ <;> first | with_reducible assumption | ((repeat' (first | with_reducible assumption | with_reducible apply Bh.drew | with_reducible apply Bh.alloc | with_reducible apply Bh.set | with_reducible refine Bh.cell_set (n := w.heap.size + 1) (p := ⟨_, _, none⟩) ?_ ?_ ?_ | with_reducible refine Bh.cell_alloc (W := w) (n := w.heap.size + 1) (p := ⟨_, _, none⟩) ?_ ?_ ?_ | (dsimp only; omega))); done) | (with_reducible apply Bh.drew; assumption) | (simp [go_sem, *]; done)))
        (first
          | (go_at_call 84; go_split_ands; refine (one_k _ _).mono ?_; rintro e w' ⟨rfl, qk⟩; have q0 : w'.cell? ⟨w.heap.size, 0, none⟩ = some (.int .u64 b) := Bh.cell (n := w.heap.size + 1) (W := w) (by with_reducible assumption) qk (by dsimp only; omega) (by with_reducible assumption); have q1 : w'.cell? ⟨w.heap.size, 1, none⟩ = some (.int .u64 t) := Bh.cell (n := w.heap.size + 1) (W := w) (by with_reducible assumption) qk (by dsimp only; omega) (by with_reducible assumption); have q2 : w'.cell? ⟨w.heap.size, 2, none⟩ = some (.bool o) := Bh.cell (n := w.heap.size + 1) (W := w) (by with_reducible assumption) qk (by dsimp only; omega) (by with_reducible assumption); have qb : Bh w (w.heap.size + 1) w' := Bh.step (by with_reducible assumption) qk; have ql := qb.le; clear qk)
          | (go_at_call 83; go_split_ands; refine (rtop_w _ _ _ _).mono ?_; rintro e w' ⟨rfl, qk⟩; have q0 : w'.cell? ⟨w.heap.size, 0, none⟩ = some (.int .u64 b) := Bh.cell (n := w.heap.size + 1) (W := w) (by with_reducible assumption) qk (by dsimp only; omega) (by with_reducible assumption); have q1 : w'.cell? ⟨w.heap.size, 1, none⟩ = some (.int .u64 t) := Bh.cell (n := w.heap.size + 1) (W := w) (by with_reducible assumption) qk (by dsimp only; omega) (by with_reducible assumption); have q2 : w'.cell? ⟨w.heap.size, 2, none⟩ = some (.bool o) := Bh.cell (n := w.heap.size + 1) (W := w) (by with_reducible assumption) qk (by dsimp only; omega) (by with_reducible assumption); have qb : Bh w (w.heap.size + 1) w' := Bh.step (by with_reducible assumption) qk; have ql := qb.le; clear qk)
          | (go_at_call 82; go_split_ands; refine (na_w _ _ _ _ (b01_lo _) (b01_hi _) (by omega) (by omega) (b01_lo _) (b01_hi _) (by omega) (by omega) _).mono ?_; rintro e w' ⟨rfl, qk⟩; have q0 : w'.cell? ⟨w.heap.size, 0, none⟩ = some (.int .u64 b) := Bh.cell (n := w.heap.size + 1) (W := w) (by with_reducible assumption) qk (by dsimp only; omega) (by with_reducible assumption); have q1 : w'.cell? ⟨w.heap.size, 1, none⟩ = some (.int .u64 t) := Bh.cell (n := w.heap.size + 1) (W := w) (by with_reducible assumption) qk (by dsimp only; omega) (by with_reducible assumption); have q2 : w'.cell? ⟨w.heap.size, 2, none⟩ = some (.bool o) := Bh.cell (n := w.heap.size + 1) (W := w) (by with_reducible assumption) qk (by dsimp only; omega) (by with_reducible assumption); have qb : Bh w (w.heap.size + 1) w' := Bh.step (by with_reducible assumption) qk; have ql := qb.le; clear qk))
      all_goals
        go_wp2
        go_ret
        refine ⟨ret_bool ?_, qb.kp⟩
        rw [HI.out, ← HEN.out]
    · have hd : decide (a < b) = true := by simpa using hb
      go_enter Try.func81, Try.ntmps81
      go_wp2
      go_ret
      refine ⟨ret_bool ?_, (Kp.refl w).allocs _ _⟩
      have e2 : decide (b ≤ a) = false := by simpa using hb
      simp [inB, e2]
  · have hdn : decide (n < 0) = true := by simpa using hn
    go_enter Try.func81, Try.ntmps81
    go_wp2
    go_ret
    refine ⟨ret_bool ?_, (Kp.refl w).allocs _ _⟩
    have e2 : decide (0 ≤ n) = false := by simpa using hn
    simp [inB, e2]
end Go.Proofs.Ytkddgjaflcjhiaa
namespace Go.Proofs.Ytkddgjaflcjhiaa
open Go.ChangeShapes Go.WideShapes Go.ChangeAt Go.RowKit
set_option linter.unusedVariables false
set_option linter.unusedSimpArgs false

theorem rpart_w (a s : Int) (a0 : 0 ≤ a) (a1 : a < 18446744073709551616) (s0 : -1 ≤ s) (s1 : s ≤ 1) (w : World) :
    Calls Try.prog 85 #[.int .u64 a, s] w fun e w' => e = .returned (.tuple #[.int .u64 (IntKind.u64.wrap (a + s)), .bool (decide (a + s < 0))]) ∧ w = w' := by
  have hs : s = -1 ∨ s = 0 ∨ s = 1 := by omega
  rcases hs with rfl | rfl | rfl
  all_goals
    go_enter Try.func85, Try.ntmps85
    go_wp2
    go_ret2
    refine ⟨ret_two ?_ ?_, rfl⟩
    · first | rfl | (simp only [IntKind.wrap_u64, IntKind.wrap_i64, wrap64] <;> omega) | omega
    · first | (rw [Bool.eq_iff_iff]; simp <;> omega) | rfl
set_option maxHeartbeats 4000000 in
theorem radd_w (h l i m : Int) (h0 : 0 ≤ h) (h1 : h < 2) (l0 : 0 ≤ l) (l1 : l < 18446744073709551616) (i0 : 0 ≤ i) (i1 : i < 2) (m0 : 0 ≤ m) (m1 : m < 18446744073709551616) (w : World) :
    Calls Try.prog 86 #[.agg #[.int .u64 h, .int .u64 l], .agg #[.int .u64 i, .int .u64 m]] w fun e' w' => e' = .returned (.agg #[.int .u64 (wH (wN h l + wN i m)), .int .u64 (wL (wN h l + wN i m))]) ∧ Kp w w' := by
  obtain ⟨s, hs⟩ : ∃ s, IntKind.u64.wrap (l + m) = s := ⟨_, rfl⟩
  have hs' : (l + m) % 18446744073709551616 = s := by rw [← hs, IntKind.wrap_u64]
  have w1 : IntKind.u64.wrap (h + i) = h + i := by rw [IntKind.wrap_u64]; omega
  have w2 : IntKind.u64.wrap (h + i + 1) = h + i + 1 := by rw [IntKind.wrap_u64]; omega
  have t1 : (h + i).tmod 2 = (h + i) % 2 := Int.tmod_eq_emod_of_nonneg (by omega)
  have t2 : (h + i + 1).tmod 2 = (h + i + 1) % 2 := Int.tmod_eq_emod_of_nonneg (by omega)
  have HS := Lib.hid hs'
  clear hs'
  cases hc : decide (s < l)
  all_goals
    have HC := Lib.hid hc
    go_enter Try.func86, Try.ntmps86
    go_wp2
  · refine bodyPost_ret (v := .agg #[.int .u64 ((h + i) % 2), .int .u64 s]) (by simp [results, Try.results86, go_sem]) rfl ⟨ret_wide ?_ ?_, ((Kp.refl w).allocs _ _).allocs _ _ |>.allocs _ _⟩
    · have := HS.out; unfold wH wN; simp at hc; omega
    · have := HS.out; unfold wL wN; omega
  · refine bodyPost_ret (v := .agg #[.int .u64 ((h + i + 1) % 2), .int .u64 s]) (by simp [results, Try.results86, go_sem]) rfl ⟨ret_wide ?_ ?_, ((Kp.refl w).allocs _ _).allocs _ _ |>.allocs _ _⟩
    · have := HC.out; have := HS.out; unfold wH wN; simp at hc; omega
    · have := HS.out; unfold wL wN; omega
/-- A number of 65 bits, doubled i times. -/
def dbl (N : Int) (i : Nat) : Int := N * 2 ^ i
theorem dbl_next (N : Int) (i : Nat) : dbl N (i + 1) = dbl N i * 2 := by unfold dbl; rw [two_pow_add, ← Int.mul_assoc]; rfl
theorem dbl_H (N : Int) : wL N / 9223372036854775808 = wH (N * 2) := by unfold wL wH; omega
theorem dbl_L (N : Int) : (wL N * 2) % 18446744073709551616 = wL (N * 2) := by unfold wL; omega
set_option maxHeartbeats 4000000 in
set_option maxRecDepth 100000 in
theorem rup_w (v : Int) (o : Bool) (n : Int) (v0 : 0 ≤ v) (v1 : v < 18446744073709551616) (n0 : 0 ≤ n) (n1 : n ≤ 66) (w : World) :
    Calls Try.prog 87 #[.int .u64 v, o, n] w fun e' w' => e' = .returned (.agg #[.int .u64 (wH (wN (b01 o) v * 2 ^ n.toNat)), .int .u64 (wL (wN (b01 o) v * 2 ^ n.toNat))]) ∧ Kp w w' := by
  have e0 : wH (dbl (wN (b01 o) v) 0) = b01 o ∧ wL (dbl (wN (b01 o) v) 0) = v := by
    have := b01_lo o; have := b01_hi o
    unfold dbl wH wL wN
    rw [show (2 : Int) ^ 0 = 1 from rfl]
    omega
  obtain ⟨N, hN⟩ : ∃ N, wN (b01 o) v = N := ⟨_, rfl⟩
  rw [hN] at e0 ⊢
  have HN := Lib.hid hN
  clear hN
  obtain ⟨m, rfl⟩ := Int.eq_ofNat_of_zero_le n0
  have hH : ∀ k : Nat, wL (dbl N k) / 9223372036854775808 = wH (dbl N (k + 1)) := fun k => by rw [dbl_next]; exact dbl_H _
  have hL : ∀ k : Nat, (wL (dbl N k) * 2) % 18446744073709551616 = wL (dbl N (k + 1)) := fun k => by rw [dbl_next]; exact dbl_L _
  have HH := Lib.hid hH
  have HL := Lib.hid hL
  clear hH hL
  cases o
  · skip
    have e1 : wH (dbl N 0) = 0 := e0.1
    have e2 := e0.2
    have E1 := Lib.hid e1
    have E2 := Lib.hid e2
    clear e0 e1 e2
    have A0 : At (w.heap.size) [.int .u64 0, .int .u64 0] ((w.alloc (.cells #[.int .u64 0, .int .u64 0] 98)).alloc (.cells #[.int .u64 0, .int .u64 v] 98)) := ((At.new' w [.int .u64 0, .int .u64 0] 98 (by simp)).alloc _)
    have R0 : Rm (w.heap.size) 2 ((w.alloc (.cells #[.int .u64 0, .int .u64 0] 98)).alloc (.cells #[.int .u64 0, .int .u64 v] 98)) := ((Rm.new' w [.int .u64 0, .int .u64 0] 98 2 (by simp) (by simp)).alloc _ _)
    have A1 : At (w.heap.size + 1) [.int .u64 0, .int .u64 v] ((w.alloc (.cells #[.int .u64 0, .int .u64 0] 98)).alloc (.cells #[.int .u64 0, .int .u64 v] 98)) := (At.new' (w.alloc (.cells #[.int .u64 0, .int .u64 0] 98)) [.int .u64 0, .int .u64 v] 98 (by simp))
    have R1 : Rm (w.heap.size + 1) 2 ((w.alloc (.cells #[.int .u64 0, .int .u64 0] 98)).alloc (.cells #[.int .u64 0, .int .u64 v] 98)) := (Rm.new' (w.alloc (.cells #[.int .u64 0, .int .u64 0] 98)) [.int .u64 0, .int .u64 v] 98 2 (by simp) (by simp))
    have kb : Bh w (w.heap.size + 2) ((w.alloc (.cells #[.int .u64 0, .int .u64 0] 98)).alloc (.cells #[.int .u64 0, .int .u64 v] 98)) := ⟨(((Kp.refl w).allocs _ _).allocs _ _), by simp, by simp⟩
    go_enter Try.func87, Try.ntmps87
    go_wp2
    go_loopw [8] (fun i wr => ∃ k : Nat, k ≤ m ∧ i = .int .i64 k ∧ At (w.heap.size + 1) [.int .u64 (wH (dbl N k)), .int .u64 (wL (dbl N k))] wr ∧ Rm (w.heap.size + 1) 2 wr ∧ Rm (w.heap.size) 2 wr ∧ Bh w (w.heap.size + 2) wr) (fun i _ => m - (intOf i).toNat)
    case atStart => exact ⟨0, by omega, rfl, by rw [E1.out, E2.out]; exact A1, R1, R0, kb⟩
    case round =>
      clear A0 A1 R0 R1 kb
      obtain ⟨k, hk, rfl, h1, r1, r0, kr⟩ := hrel
      by_cases hlt : k < m
      · have i0 : (0 : Int) ≤ (k : Int) := by omega
        have i1 : (k : Int) < (m : Int) := by omega
        have q1 := HH.out k
        have q2 := HL.out k
        have hb := wL_lo (dbl N k)
        have hb1 := wL_hi (dbl N k)
        obtain ⟨H', hH'⟩ : ∃ x, wH (dbl N (k + 1)) = x := ⟨_, rfl⟩
        obtain ⟨L', hL'⟩ : ∃ x, wL (dbl N (k + 1)) = x := ⟨_, rfl⟩
        rw [hH'] at q1
        rw [hL'] at q2
        have HA := Lib.hid hH'
        have HB := Lib.hid hL'
        clear hH' hL'
        generalize wL (dbl N k) = l at h1 q1 q2 hb hb1
        generalize wH (dbl N k) = hh at h1
        have q3 : IntKind.u64.wrap (l * 2) = L' := by rw [IntKind.wrap_u64]; exact q2
        have q4 : IntKind.u64.wrap (l * 2 ^ 1) = L' := q3
        have q5 : l / 2 ^ 63 = H' := q1
        have c0 := h1 0 _ rfl
        have c1 := h1 1 _ rfl
        have z0 := (r1 0 (by omega)).2
        have z1 := (r1 1 (by omega)).2
        go_wp2
        go_roundw
        case rel => exact ⟨k + 1, by omega, by go_num, by rw [HA.out, HB.out]; exact At.put (At.put h1 0 (by simp) (.int .u64 H')) 1 (by simp) (.int .u64 L'), Rm.set (Rm.set r1 _) _, Rm.set (Rm.set r0 _) _, Bh.set2 (Bh.set2 kr (by dsimp only; omega)) (by dsimp only; omega)⟩
        case measure => simp [intOf]; omega
      · obtain rfl : k = m := by omega
        have c0 := h1 0 _ rfl
        have c1 := h1 1 _ rfl
        obtain ⟨⟨x0, d0⟩, z0⟩ := r0 0 (by omega)
        obtain ⟨⟨x1, d1⟩, z1⟩ := r0 1 (by omega)
        go_wp2
        refine bodyPost_ret (v := .agg #[.int .u64 (wH (dbl N k)), .int .u64 (wL (dbl N k))]) ?_ rfl ⟨rfl, ?_⟩
        · simp [results, Try.results87, go_sem, *]
        · repeat' (first | with_reducible refine Kp.setCell ?_ ?_ _ | with_reducible refine Kp.allocs ?_ _ _)
          all_goals first | exact kr.kp | (dsimp only; omega)
  · skip
    have e1 : wH (dbl N 0) = 1 := e0.1
    have e2 := e0.2
    have E1 := Lib.hid e1
    have E2 := Lib.hid e2
    clear e0 e1 e2
    have A0 : At (w.heap.size) [.int .u64 0, .int .u64 0] ((w.alloc (.cells #[.int .u64 0, .int .u64 0] 98)).alloc (.cells #[.int .u64 1, .int .u64 v] 98)) := ((At.new' w [.int .u64 0, .int .u64 0] 98 (by simp)).alloc _)
    have R0 : Rm (w.heap.size) 2 ((w.alloc (.cells #[.int .u64 0, .int .u64 0] 98)).alloc (.cells #[.int .u64 1, .int .u64 v] 98)) := ((Rm.new' w [.int .u64 0, .int .u64 0] 98 2 (by simp) (by simp)).alloc _ _)
    have A1 : At (w.heap.size + 1) [.int .u64 1, .int .u64 v] ((w.alloc (.cells #[.int .u64 0, .int .u64 0] 98)).alloc (.cells #[.int .u64 1, .int .u64 v] 98)) := (At.new' (w.alloc (.cells #[.int .u64 0, .int .u64 0] 98)) [.int .u64 1, .int .u64 v] 98 (by simp))
    have R1 : Rm (w.heap.size + 1) 2 ((w.alloc (.cells #[.int .u64 0, .int .u64 0] 98)).alloc (.cells #[.int .u64 1, .int .u64 v] 98)) := (Rm.new' (w.alloc (.cells #[.int .u64 0, .int .u64 0] 98)) [.int .u64 1, .int .u64 v] 98 2 (by simp) (by simp))
    have kb : Bh w (w.heap.size + 2) ((w.alloc (.cells #[.int .u64 0, .int .u64 0] 98)).alloc (.cells #[.int .u64 1, .int .u64 v] 98)) := ⟨(((Kp.refl w).allocs _ _).allocs _ _), by simp, by simp⟩
    go_enter Try.func87, Try.ntmps87
    go_wp2
    go_loopw [8] (fun i wr => ∃ k : Nat, k ≤ m ∧ i = .int .i64 k ∧ At (w.heap.size + 1) [.int .u64 (wH (dbl N k)), .int .u64 (wL (dbl N k))] wr ∧ Rm (w.heap.size + 1) 2 wr ∧ Rm (w.heap.size) 2 wr ∧ Bh w (w.heap.size + 2) wr) (fun i _ => m - (intOf i).toNat)
    case atStart => exact ⟨0, by omega, rfl, by rw [E1.out, E2.out]; exact A1, R1, R0, kb⟩
    case round =>
      clear A0 A1 R0 R1 kb
      obtain ⟨k, hk, rfl, h1, r1, r0, kr⟩ := hrel
      by_cases hlt : k < m
      · have i0 : (0 : Int) ≤ (k : Int) := by omega
        have i1 : (k : Int) < (m : Int) := by omega
        have q1 := HH.out k
        have q2 := HL.out k
        have hb := wL_lo (dbl N k)
        have hb1 := wL_hi (dbl N k)
        obtain ⟨H', hH'⟩ : ∃ x, wH (dbl N (k + 1)) = x := ⟨_, rfl⟩
        obtain ⟨L', hL'⟩ : ∃ x, wL (dbl N (k + 1)) = x := ⟨_, rfl⟩
        rw [hH'] at q1
        rw [hL'] at q2
        have HA := Lib.hid hH'
        have HB := Lib.hid hL'
        clear hH' hL'
        generalize wL (dbl N k) = l at h1 q1 q2 hb hb1
        generalize wH (dbl N k) = hh at h1
        have q3 : IntKind.u64.wrap (l * 2) = L' := by rw [IntKind.wrap_u64]; exact q2
        have q4 : IntKind.u64.wrap (l * 2 ^ 1) = L' := q3
        have q5 : l / 2 ^ 63 = H' := q1
        have c0 := h1 0 _ rfl
        have c1 := h1 1 _ rfl
        have z0 := (r1 0 (by omega)).2
        have z1 := (r1 1 (by omega)).2
        go_wp2
        go_roundw
        case rel => exact ⟨k + 1, by omega, by go_num, by rw [HA.out, HB.out]; exact At.put (At.put h1 0 (by simp) (.int .u64 H')) 1 (by simp) (.int .u64 L'), Rm.set (Rm.set r1 _) _, Rm.set (Rm.set r0 _) _, Bh.set2 (Bh.set2 kr (by dsimp only; omega)) (by dsimp only; omega)⟩
        case measure => simp [intOf]; omega
      · obtain rfl : k = m := by omega
        have c0 := h1 0 _ rfl
        have c1 := h1 1 _ rfl
        obtain ⟨⟨x0, d0⟩, z0⟩ := r0 0 (by omega)
        obtain ⟨⟨x1, d1⟩, z1⟩ := r0 1 (by omega)
        go_wp2
        refine bodyPost_ret (v := .agg #[.int .u64 (wH (dbl N k)), .int .u64 (wL (dbl N k))]) ?_ rfl ⟨rfl, ?_⟩
        · simp [results, Try.results87, go_sem, *]
        · repeat' (first | with_reducible refine Kp.setCell ?_ ?_ _ | with_reducible refine Kp.allocs ?_ _ _)
          all_goals first | exact kr.kp | (dsimp only; omega)
end Go.Proofs.Ytkddgjaflcjhiaa
namespace Go.Proofs.Ytkddgjaflcjhiaa
open Go.ChangeShapes Go.WideShapes Go.ChangeAt Go.RowKit
set_option linter.unusedVariables false
set_option linter.unusedSimpArgs false

theorem Rm.out3 {B : Nat} {w : World} (h : Rm B 3 w) : (∃ v, w.cell? ⟨B, 0, none⟩ = some v) ∧ w.frozen? ⟨B, 0, none⟩ = false ∧ (∃ v, w.cell? ⟨B, 1, none⟩ = some v) ∧ w.frozen? ⟨B, 1, none⟩ = false ∧ (∃ v, w.cell? ⟨B, 2, none⟩ = some v) ∧ w.frozen? ⟨B, 2, none⟩ = false :=
  ⟨(h 0 (by omega)).1, (h 0 (by omega)).2, (h 1 (by omega)).1, (h 1 (by omega)).2, (h 2 (by omega)).1, (h 2 (by omega)).2⟩
theorem wN_step (u : Int) (u0 : -1 ≤ u) (u1 : u < 18446744073709551616) : wN (b01 (decide (u < 0))) (IntKind.u64.wrap u) % 36893488147419103232 = u % 36893488147419103232 := by
  rw [IntKind.wrap_u64]
  by_cases h : u < 0
  · have : u = -1 := by omega
    subst this; decide
  · simp only [h, decide_false, b01]; unfold wN; simp; omega
theorem wN_zero (x : Int) : wN (b01 false) x = x := by unfold wN b01; simp
theorem mul_mod65 (x y k : Int) (h : x % 36893488147419103232 = y % 36893488147419103232) : (x * k) % 36893488147419103232 = (y * k) % 36893488147419103232 := by
  rw [Int.mul_emod, h, ← Int.mul_emod]
/-- What is put together of a part and a mantissa, as the document's answer does it. -/
theorem put_eq (u x e : Int) (u0 : -1 ≤ u) (u1 : u < 18446744073709551616) (P X : Int) (hP : wN (b01 (decide (u < 0))) (IntKind.u64.wrap u) * 2 ^ (e + 14).toNat = P) (hX : x * 2 ^ e.toNat = X) :
    wH (wN (wH P) (wL P) + wN (wH X) (wL X)) = wH (u * 2 ^ (e + 14).toNat + x * 2 ^ e.toNat) ∧ wL (wN (wH P) (wL P) + wN (wH X) (wL X)) = wL (u * 2 ^ (e + 14).toNat + x * 2 ^ e.toNat) := by
  have h1 := mul_mod65 _ _ (2 ^ (e + 14).toNat) (wN_step u u0 u1)
  rw [hP] at h1
  rw [hX, wN_of, wN_of]
  have : (P % 36893488147419103232 + X % 36893488147419103232) % 36893488147419103232 = (u * 2 ^ (e + 14).toNat + X) % 36893488147419103232 := by
    rw [← Int.add_emod, Int.add_emod, h1, ← Int.add_emod]
  exact ⟨wH_congr this, wL_congr this⟩
set_option maxHeartbeats 8000000 in
set_option maxRecDepth 100000 in
theorem refOf_core (tg : Bool) (pe ty mo e b t : Int) (g : Bool) (a : Int) (h : Fld e b t a) (T C M U s1 s2 p q PH PL XH XL BH BL QH QL YH YL TH TL d1 d2 fm TN : Int) (lo hi F : Bool)
    (hT : t14 b t g = T) (hC : (b / 2048 + 7) % 8 * 2048 = C) (hM : (a / 2 ^ e.toNat) % 16384 = M) (hU : a / 2 ^ (e + 14).toNat = U)
    (hs1 : b01 (decide (b < C)) - b01 (decide (M < C)) = s1) (hs2 : b01 (decide (T < C)) - b01 (decide (M < C)) = s2)
    (PA : Hid (∀ w : World, Calls Try.prog 85 #[.int .u64 U, s1] w fun e w' => e = .returned (.tuple #[.int .u64 p, lo]) ∧ w = w')) (PB : Hid (∀ w : World, Calls Try.prog 85 #[.int .u64 U, s2] w fun e w' => e = .returned (.tuple #[.int .u64 q, hi]) ∧ w = w'))
    (U1 : Hid (∀ w : World, Calls Try.prog 87 #[.int .u64 p, lo, .int .i64 (e + 14)] w fun e' w' => e' = .returned (.agg #[.int .u64 PH, .int .u64 PL]) ∧ Kp w w')) (X1 : Hid (∀ w : World, Calls Try.prog 87 #[.int .u64 b, false, e] w fun e' w' => e' = .returned (.agg #[.int .u64 XH, .int .u64 XL]) ∧ Kp w w')) (D1 : Hid (∀ w : World, Calls Try.prog 86 #[.agg #[.int .u64 PH, .int .u64 PL], .agg #[.int .u64 XH, .int .u64 XL]] w fun e' w' => e' = .returned (.agg #[.int .u64 BH, .int .u64 BL]) ∧ Kp w w'))
    (U2 : Hid (∀ w : World, Calls Try.prog 87 #[.int .u64 q, hi, .int .i64 (e + 14)] w fun e' w' => e' = .returned (.agg #[.int .u64 QH, .int .u64 QL]) ∧ Kp w w')) (X2 : Hid (∀ w : World, Calls Try.prog 87 #[.int .u64 T, false, e] w fun e' w' => e' = .returned (.agg #[.int .u64 YH, .int .u64 YL]) ∧ Kp w w')) (D2 : Hid (∀ w : World, Calls Try.prog 86 #[.agg #[.int .u64 QH, .int .u64 QL], .agg #[.int .u64 YH, .int .u64 YL]] w fun e' w' => e' = .returned (.agg #[.int .u64 TH, .int .u64 TL]) ∧ Kp w w'))
    (tH : 0 ≤ TH ∧ TH < 2) (bL : 0 ≤ BL ∧ BL < 18446744073709551616) (tL : 0 ≤ TL ∧ TL < 18446744073709551616) (hd1 : TL / 9223372036854775808 = d1) (hd2 : BL / 9223372036854775808 = d2) (hfm : (2 * TH + d1 + 4 - d2) % 4 = fm) (hF : decide (1 < fm) = F)
    (O : Bool) (hO : O = if (decide (e < 51) && F) then TH == 0 else TH == 1) (w : World) :
    Calls Try.prog 60 #[.agg #[tg, pe, ty, mo, e, b, t, g, .int .u64 a]] w fun e' w' => e' = .returned (.agg #[.int .u64 BL, .int .u64 TL, O]) ∧ Kp w w' := by
  have HF := Lib.hid h
  obtain ⟨e0, e1, b0, b1, t0, t1, a0, a1⟩ := h
  have hTb := t14_bd b t g b0 t0 t1
  rw [hT] at hTb
  have HT := Lib.hid hT
  have hC' : 0 ≤ C ∧ C ≤ 14336 := by omega
  have hM' : 0 ≤ M ∧ M < 16384 := by omega
  have k1 : b.tdiv 4096 = b / 4096 := Int.tdiv_eq_ediv_of_nonneg b0
  have k2 : b.tmod 4096 = b % 4096 := Int.tmod_eq_emod_of_nonneg b0
  have k3 : b.tdiv 2048 = b / 2048 := Int.tdiv_eq_ediv_of_nonneg b0
  have k4 : IntKind.i64.wrap (b / 2048 + 7) = b / 2048 + 7 := by rw [IntKind.wrap_i64]; omega
  have k5 : (b / 2048 + 7).tmod 8 = (b / 2048 + 7) % 8 := Int.tmod_eq_emod_of_nonneg (by omega)
  have k6 : IntKind.i64.wrap ((b / 2048 + 7) % 8 * 2048) = C := by rw [hC, IntKind.wrap_i64]; omega
  have k7 : IntKind.u64.wrap e = e := by rw [IntKind.wrap_u64]; omega
  have hdn : 0 ≤ a / 2 ^ e.toNat := Int.ediv_nonneg a0 (Int.le_of_lt (pow_pos' _))
  have k8 : (a / 2 ^ e.toNat).tmod 16384 = M := by rw [Int.tmod_eq_emod_of_nonneg hdn]; exact hM
  have k8' : (a / 2 ^ min e.toNat 64).tmod 16384 = M := by rw [div_min a _ a0 a1]; exact k8
  have k9 : IntKind.i64.wrap M = M := by rw [IntKind.wrap_i64]; omega
  have k10 : IntKind.i64.wrap (e + 14) = e + 14 := by rw [IntKind.wrap_i64]; omega
  have k11 : IntKind.u64.wrap (e + 14) = e + 14 := by rw [IntKind.wrap_u64]; omega
  have k17 : 0 ≤ e + 14 := by omega
  have k18 : a / 2 ^ (e + 14).toNat = U := hU
  have k12 : a / 2 ^ min (e + 14).toNat 64 = U := by rw [div_min a _ a0 a1]; exact hU
  have k13 : IntKind.u64.wrap b = b := by rw [IntKind.wrap_u64]; omega
  have k14 : IntKind.u64.wrap T = T := by rw [IntKind.wrap_u64]; omega
  have k15 : IntKind.i64.wrap (b01 (decide (b < C)) - b01 (decide (M < C))) = s1 := by rw [hs1, IntKind.wrap_i64]; have := b01_lo (decide (b < C)); have := b01_hi (decide (b < C)); have := b01_lo (decide (M < C)); have := b01_hi (decide (M < C)); omega
  have k16 : IntKind.i64.wrap (b01 (decide (T < C)) - b01 (decide (M < C))) = s2 := by rw [hs2, IntKind.wrap_i64]; have := b01_lo (decide (T < C)); have := b01_hi (decide (T < C)); have := b01_lo (decide (M < C)); have := b01_hi (decide (M < C)); omega
  have m1 : IntKind.u64.wrap (2 * TH) = 2 * TH := by rw [IntKind.wrap_u64]; omega
  have hdb : 0 ≤ d1 ∧ d1 < 2 ∧ 0 ≤ d2 ∧ d2 < 2 := by omega
  have m2 : IntKind.u64.wrap (2 * TH + d1) = 2 * TH + d1 := by rw [IntKind.wrap_u64]; omega
  have m3 : IntKind.u64.wrap (2 * TH + d1 + 4) = 2 * TH + d1 + 4 := by rw [IntKind.wrap_u64]; omega
  have m4 : IntKind.u64.wrap (2 * TH + d1 + 4 - d2) = 2 * TH + d1 + 4 - d2 := by rw [IntKind.wrap_u64]; omega
  have m5 : (2 * TH + d1 + 4 - d2).tmod 4 = fm := by rw [Int.tmod_eq_emod_of_nonneg (by omega)]; exact hfm
  have n1 : TL / 2 ^ 63 = d1 := hd1
  have n2 : BL / 2 ^ 63 = d2 := hd2
  have m6 : IntKind.u64.wrap (1 - TH) = 1 - TH := by rw [IntKind.wrap_u64]; omega
  have HO := Lib.hid hO
  have hbig : decide (e + 14 < 64) = true ∨ decide (e + 14 < 64) = false ∧ U = 0 := by
    by_cases hb : e + 14 < 64
    · exact Or.inl (by simpa using hb)
    · refine Or.inr ⟨by simpa using hb, ?_⟩
      rw [← hU]
      have h1 : (2 : Int) ^ 64 ≤ 2 ^ (e + 14).toNat := by
        have h2 : 2 ^ 64 ≤ 2 ^ (e + 14).toNat := Nat.pow_le_pow_right (by omega) (by omega)
        have h3 : ((2 ^ 64 : Nat) : Int) ≤ ((2 ^ (e + 14).toNat : Nat) : Int) := by omega
        simpa using h3
      rw [pow64] at h1
      exact Int.ediv_eq_zero_of_lt a0 (by omega)
  clear hT hC hM hU hs1 hs2 hfm hO hdn
  have A0 : At (w.heap.size) [tg, pe, ty, mo, e, b, t, g, .int .u64 a] ((w.alloc (.cells #[tg, pe, ty, mo, e, b, t, g, .int .u64 a] 25)).alloc (.cells #[.int .u64 0, .int .u64 0, false] 39)) := ((At.new' w [tg, pe, ty, mo, e, b, t, g, .int .u64 a] 25 (by simp)).alloc _)
  have A1 : At (w.heap.size + 1) [.int .u64 0, .int .u64 0, false] ((w.alloc (.cells #[tg, pe, ty, mo, e, b, t, g, .int .u64 a] 25)).alloc (.cells #[.int .u64 0, .int .u64 0, false] 39)) := (At.new' (w.alloc (.cells #[tg, pe, ty, mo, e, b, t, g, .int .u64 a] 25)) [.int .u64 0, .int .u64 0, false] 39 (by simp))
  have R1 : Rm (w.heap.size + 1) 3 ((w.alloc (.cells #[tg, pe, ty, mo, e, b, t, g, .int .u64 a] 25)).alloc (.cells #[.int .u64 0, .int .u64 0, false] 39)) := (Rm.new' (w.alloc (.cells #[tg, pe, ty, mo, e, b, t, g, .int .u64 a] 25)) [.int .u64 0, .int .u64 0, false] 39 3 (by simp) (by simp))
  have kb : Bh w (w.heap.size + 2) ((w.alloc (.cells #[tg, pe, ty, mo, e, b, t, g, .int .u64 a] 25)).alloc (.cells #[.int .u64 0, .int .u64 0, false] 39)) := ⟨(((Kp.refl w).allocs _ _).allocs _ _), by simp, by simp⟩
  go_enter Try.func60, Try.ntmps60
  go_upto_region 2 with fail
  go_cut [4] (fun s4 wx => s4 = .int .i64 T ∧ At (w.heap.size) [tg, pe, ty, mo, e, b, t, g, .int .u64 a] wx ∧ Rm (w.heap.size + 1) 3 wx ∧ Bh w (w.heap.size + 2) wx)
  case first =>
    refine wp_region_held_drew (S := (fun w' => At (w.heap.size) [tg, pe, ty, mo, e, b, t, g, .int .u64 a] w' ∧ Rm (w.heap.size + 1) 3 w' ∧ Bh w (w.heap.size + 2) w')) (by kernel_rfl) ⟨At.drew (by with_reducible assumption), Rm.drew (by with_reducible assumption), Bh.drew (by with_reducible assumption)⟩ (fun hS => ?_)
    (refine tk 0 ?_ rfl (Or.inl ⟨by rfl, ?_⟩) hS ?_; rotate_left; focus (intro w' hSw; obtain ⟨s0, s1, sb⟩ := hSw; go_simp <;> try with_reducible rfl))
    try simp only [Act.put, zA, zB, zC]
    (refine tk 1 ?_ rfl (Or.inl ⟨by rfl, ?_⟩) hS ?_; rotate_left; focus (intro w' hSw; obtain ⟨s0, s1, sb⟩ := hSw; obtain ⟨_, _, _, _, _, _, _, _, _⟩ := s0.out9; go_simp <;> try with_reducible rfl))
    try simp only [Act.put, zA, zB, zC]
    (refine tk 2 ?_ rfl (Or.inl ⟨by rfl, ?_⟩) hS ?_; rotate_left; focus (intro w' hSw; obtain ⟨s0, s1, sb⟩ := hSw; go_simp <;> try with_reducible rfl))
    try simp only [Act.put, zA, zB, zC]
    (refine tk 3 ?_ rfl (Or.inl ⟨by rfl, ?_⟩) hS ?_; rotate_left; focus (intro w' hSw; obtain ⟨s0, s1, sb⟩ := hSw; obtain ⟨_, _, _, _, _, _, _, _, _⟩ := s0.out9; go_simp <;> try with_reducible rfl))
    try simp only [Act.put, zA, zB, zC]
    (refine tk 4 ?_ rfl (Or.inl ⟨by rfl, ?_⟩) hS ?_; rotate_left; focus (intro w' hSw; obtain ⟨s0, s1, sb⟩ := hSw; go_simp <;> try with_reducible rfl))
    try simp only [Act.put, zA, zB, zC]
    (refine tk 5 ?_ rfl (Or.inl ⟨by rfl, ?_⟩) hS ?_; rotate_left; focus (intro w' hSw; obtain ⟨s0, s1, sb⟩ := hSw; go_simp <;> try with_reducible rfl))
    try simp only [Act.put, zA, zB, zC]
    (refine tk 6 ?_ rfl (Or.inl ⟨by rfl, ?_⟩) hS ?_; rotate_left; focus (intro w' hSw; obtain ⟨s0, s1, sb⟩ := hSw; obtain ⟨_, _, _, _, _, _, _, _, _⟩ := s0.out9; go_simp <;> try with_reducible rfl))
    try simp only [Act.put, zA, zB, zC]
    (refine tk 7 ?_ rfl (Or.inl ⟨by rfl, ?_⟩) hS ?_; rotate_left; focus (intro w' hSw; obtain ⟨s0, s1, sb⟩ := hSw; go_simp <;> try with_reducible rfl))
    try simp only [Act.put, zA, zB, zC]
    (refine tk 8 ?_ rfl (Or.inl ⟨by rfl, ?_⟩) hS ?_; rotate_left; focus (intro w' hSw; obtain ⟨s0, s1, sb⟩ := hSw; obtain ⟨_, _, _, _, _, _, _, _, _⟩ := s0.out9; go_simp <;> try with_reducible rfl))
    try simp only [Act.put, zA, zB, zC]
    (refine tk 9 ?_ rfl (Or.inl ⟨by rfl, ?_⟩) hS ?_; rotate_left; focus (intro w' hSw; obtain ⟨s0, s1, sb⟩ := hSw; go_simp <;> try with_reducible rfl))
    try simp only [Act.put, zA, zB, zC]
    (refine tk 10 ?_ rfl (Or.inl ⟨by rfl, ?_⟩) hS ?_; rotate_left; focus (intro w' hSw; obtain ⟨s0, s1, sb⟩ := hSw; go_simp <;> try with_reducible rfl))
    try simp only [Act.put, zA, zB, zC]
    (refine tk 13 ?_ rfl (Or.inl ⟨by rfl, ?_⟩) hS ?_; rotate_left; focus (intro w' hSw; obtain ⟨s0, s1, sb⟩ := hSw; go_simp <;> try with_reducible rfl))
    try simp only [Act.put, zA, zB, zC]
    (refine tk 14 ?_ rfl (Or.inl ⟨by rfl, ?_⟩) hS ?_; rotate_left; focus (intro w' hSw; obtain ⟨s0, s1, sb⟩ := hSw; obtain ⟨_, _, _, _, _, _, _, _, _⟩ := s0.out9; go_simp <;> try with_reducible rfl))
    try simp only [Act.put, zA, zB, zC]
    refine rdy 11 rfl (fun K hK => ?_)
    (refine take_if (by rfl) ?_; obtain ⟨s0, s1, sb⟩ := hS; go_simp; (with_reducible refine (one_k _ _).mono ?_); rintro e' w' ⟨rfl, qk⟩; have t0 := At.kp s0 qk (Nat.lt_of_lt_of_le (show w.heap.size < w.heap.size + 2 by omega) sb.le); have t1 := Rm.kp s1 qk (Nat.lt_of_lt_of_le (show w.heap.size + 1 < w.heap.size + 2 by omega) sb.le); have tb := Bh.step sb qk; clear qk; refine hK.out _ _ ⟨t0, t1, tb⟩ (fun hS => ?_))
    clear hK K
    try simp only [Act.put, zA, zB, zC]
    (refine tk 12 ?_ rfl (Or.inl ⟨by rfl, ?_⟩) hS ?_; rotate_left; focus (intro w' hSw; obtain ⟨s0, s1, sb⟩ := hSw; go_simp <;> try with_reducible rfl))
    try simp only [Act.put, zA, zB, zC]
    refine rdy 15 rfl (fun K hK => ?_)
    (refine take_if (by rfl) ?_; obtain ⟨s0, s1, sb⟩ := hS; go_simp; (with_reducible refine (one_k _ _).mono ?_); rintro e' w' ⟨rfl, qk⟩; have t0 := At.kp s0 qk (Nat.lt_of_lt_of_le (show w.heap.size < w.heap.size + 2 by omega) sb.le); have t1 := Rm.kp s1 qk (Nat.lt_of_lt_of_le (show w.heap.size + 1 < w.heap.size + 2 by omega) sb.le); have tb := Bh.step sb qk; clear qk; refine hK.out _ _ ⟨t0, t1, tb⟩ (fun hS => ?_))
    clear hK K
    try simp only [Act.put, zA, zB, zC]
    (refine tk 16 ?_ rfl (Or.inl ⟨by rfl, ?_⟩) hS ?_; rotate_left; focus (intro w' hSw; obtain ⟨s0, s1, sb⟩ := hSw; go_simp <;> try with_reducible rfl))
    try simp only [Act.put, zA, zB, zC]
    (refine tk 17 ?_ rfl (Or.inl ⟨by rfl, ?_⟩) hS ?_; rotate_left; focus (intro w' hSw; obtain ⟨s0, s1, sb⟩ := hSw; go_simp <;> try with_reducible rfl))
    try simp only [Act.put, zA, zB, zC]
    (refine tk 18 ?_ rfl (Or.inl ⟨by rfl, ?_⟩) hS ?_; rotate_left; focus (intro w' hSw; obtain ⟨s0, s1, sb⟩ := hSw; go_simp <;> try with_reducible rfl))
    try simp only [Act.put, zA, zB, zC]
    (refine tk 19 ?_ rfl (Or.inl ⟨by rfl, ?_⟩) hS ?_; rotate_left; focus (intro w' hSw; obtain ⟨s0, s1, sb⟩ := hSw; go_simp <;> try with_reducible rfl))
    try simp only [Act.put, zA, zB, zC]
    (refine tk 20 ?_ rfl (Or.inl ⟨by rfl, ?_⟩) hS ?_; rotate_left; focus (intro w' hSw; obtain ⟨s0, s1, sb⟩ := hSw; go_simp <;> try with_reducible rfl))
    try simp only [Act.put, zA, zB, zC]
    refine wpAnyH_done (by kernel_rfl) ?_ _
    obtain ⟨s0, s1, sb⟩ := hS
    obtain ⟨_, _, _, _, _, _, _, _, _⟩ := s0.out9
    go_wp2_with fail
    go_meet
    refine ⟨congrArg (Value.int .i64) ?_, s0, s1, sb⟩
    rw [← HT.out]
    have := b01_lo (decide (t < b % 4096)); have := b01_hi (decide (t < b % 4096)); have := b01_lo g; have := b01_hi g
    unfold t14 ltB
    generalize b01 (decide (t < b % 4096)) = x1 at *
    generalize b01 g = x2 at *
    simp only [IntKind.wrap_i64, wrap64]
    rw [Int.tmod_eq_emod_of_nonneg (by omega)]
    omega
  case rest =>
    obtain ⟨rfl, V0, V1, kv⟩ := hcut
    clear A0 A1 R1 kb
    obtain ⟨_, _, _, _, _, _, _, _, _⟩ := V0.out9
    have kz0 : Bh wc wc.heap.size wc := ⟨Kp.refl _, Nat.le_refl _, Nat.le_refl _⟩
    have hz1 : w.heap.size < wc.heap.size := by have := kv.le; omega
    have hz2 : w.heap.size + 2 ≤ wc.heap.size := kv.le
    rcases hbig with hbig | ⟨hbig, rfl⟩
    · go_upto_region 10 with (first
        | (go_at_call 84; (with_reducible refine (one_w _ _).mono ?_); rintro e' w' ⟨rfl, rfl⟩)
        | (go_at_call 85; (with_reducible refine (PA.out _).mono ?_); rintro e' w' ⟨rfl, rfl⟩)
        | (go_at_call 85; (with_reducible refine (PB.out _).mono ?_); rintro e' w' ⟨rfl, rfl⟩))
      go_cut [12] (fun s12 wx => ∃ i : Nat, s12 = .pointer (some ⟨i, 0, none⟩) ∧ wx.cell? ⟨i, 0, none⟩ = some (.int .u64 BH) ∧ wx.cell? ⟨i, 1, none⟩ = some (.int .u64 BL) ∧ w.heap.size + 2 ≤ i ∧ i < wx.heap.size ∧ Kp wc wx)
      case first =>
        go_region_held3 (fun w' => w'.cell? ⟨w.heap.size, 5, none⟩ = some (.int .i64 b) ∧ Bh wc (wc.heap.size) w')
          (first | (refine ⟨?_, ?_⟩ <;> first | with_reducible assumption | ((repeat' (first | with_reducible assumption | with_reducible apply Bh.drew | with_reducible apply Bh.alloc | with_reducible apply Bh.set | with_reducible refine Bh.cell_set (n := wc.heap.size) (p := ⟨_, _, none⟩) ?_ ?_ ?_ | with_reducible refine Bh.cell_alloc (W := wc) (n := wc.heap.size) (p := ⟨_, _, none⟩) ?_ ?_ ?_ | (dsimp only; omega))); done) | (with_reducible apply Bh.drew; assumption) | (simp [go_sem, *]; done)))
          (first
            | (go_at_call 87; go_split_ands; with_reducible refine (U1.out _).mono ?_; rintro e w' ⟨rfl, qk⟩; have q0 : w'.cell? ⟨w.heap.size, 5, none⟩ = some (.int .i64 b) := Bh.cell (n := wc.heap.size) (W := wc) (by with_reducible assumption) qk (by dsimp only; omega) (by with_reducible assumption); have qb : Bh wc (wc.heap.size) w' := Bh.step (by with_reducible assumption) qk; have ql := qb.le; (try have hx := Kp.chain hy qk (by first | exact Nat.le_refl _ | (simp; done) | (simp; omega))); (try have hx1 := (Kp.up1 hx).1); (try have hx2 := (Kp.up1 hx).2.1); (try have hx3 := (Kp.up1 hx).2.2); (try have hy := Kp.chain hz qk (by first | exact Nat.le_refl _ | (simp; done) | (simp; omega))); (try have hy1 := (Kp.up1 hy).1); (try have hy2 := (Kp.up1 hy).2.1); (try have hy3 := (Kp.up1 hy).2.2); obtain ⟨hc, hf, hz⟩ := qk.cells; (try have hz1 := (Kp.up1 hz).1); (try have hz2 := (Kp.up1 hz).2.1); (try have hz3 := (Kp.up1 hz).2.2); clear qk)
            | (go_at_call 87; go_split_ands; with_reducible refine (X1.out _).mono ?_; rintro e w' ⟨rfl, qk⟩; have q0 : w'.cell? ⟨w.heap.size, 5, none⟩ = some (.int .i64 b) := Bh.cell (n := wc.heap.size) (W := wc) (by with_reducible assumption) qk (by dsimp only; omega) (by with_reducible assumption); have qb : Bh wc (wc.heap.size) w' := Bh.step (by with_reducible assumption) qk; have ql := qb.le; (try have hx := Kp.chain hy qk (by first | exact Nat.le_refl _ | (simp; done) | (simp; omega))); (try have hx1 := (Kp.up1 hx).1); (try have hx2 := (Kp.up1 hx).2.1); (try have hx3 := (Kp.up1 hx).2.2); (try have hy := Kp.chain hz qk (by first | exact Nat.le_refl _ | (simp; done) | (simp; omega))); (try have hy1 := (Kp.up1 hy).1); (try have hy2 := (Kp.up1 hy).2.1); (try have hy3 := (Kp.up1 hy).2.2); obtain ⟨hc, hf, hz⟩ := qk.cells; (try have hz1 := (Kp.up1 hz).1); (try have hz2 := (Kp.up1 hz).2.1); (try have hz3 := (Kp.up1 hz).2.2); clear qk)
            | (go_at_call 86; go_split_ands; with_reducible refine (D1.out _).mono ?_; rintro e w' ⟨rfl, qk⟩; have q0 : w'.cell? ⟨w.heap.size, 5, none⟩ = some (.int .i64 b) := Bh.cell (n := wc.heap.size) (W := wc) (by with_reducible assumption) qk (by dsimp only; omega) (by with_reducible assumption); have qb : Bh wc (wc.heap.size) w' := Bh.step (by with_reducible assumption) qk; have ql := qb.le; (try have hx := Kp.chain hy qk (by first | exact Nat.le_refl _ | (simp; done) | (simp; omega))); (try have hx1 := (Kp.up1 hx).1); (try have hx2 := (Kp.up1 hx).2.1); (try have hx3 := (Kp.up1 hx).2.2); (try have hy := Kp.chain hz qk (by first | exact Nat.le_refl _ | (simp; done) | (simp; omega))); (try have hy1 := (Kp.up1 hy).1); (try have hy2 := (Kp.up1 hy).2.1); (try have hy3 := (Kp.up1 hy).2.2); obtain ⟨hc, hf, hz⟩ := qk.cells; (try have hz1 := (Kp.up1 hz).1); (try have hz2 := (Kp.up1 hz).2.1); (try have hz3 := (Kp.up1 hz).2.2); clear qk))
        all_goals
          rename_i hh
          have hB := hh.2
          have hBl := hB.le
          clear hh
          go_wp2_with fail
          go_meet
          refine ⟨_, rfl, ?_, ?_, ?_, ?_, hB.kp⟩
        all_goals first
          | (simp [go_sem, *]; done)
          | omega
          | (simp (maxDischargeDepth := 8) [go_sem, *]; done)
          | (simp; omega)
          | (simp [*]; omega)
      case rest =>
        rename_i v1
        obtain ⟨i, rfl, i0, i1, hi1, hi2, hk⟩ := hcut
        have kq : Kp w wc := kv.kp.trans hk
        have B0 : At (i) [.int .u64 BH, .int .u64 BL] wc := fun j v hj => by
          match j with
          | 0 => simp at hj; subst hj; exact i0
          | 1 => simp at hj; subst hj; exact i1
          | j + 2 => simp at hj
        have B1 : Rm (w.heap.size + 1) 3 wc := Rm.kp V1 hk (by omega)
        have kc : Bh w (wc.heap.size) wc := ⟨kq, kq.size, Nat.le_refl _⟩
        obtain ⟨N, hN⟩ : ∃ N, wc.heap.size = N := ⟨_, rfl⟩
        have hsz := hk.size
        rw [hN] at hi2 kc
        clear hN hk kq V0 V1 kv i0 i1
        have hnw : w.heap.size + 2 ≤ N := by omega
        have ho : ∃ x, O = x := ⟨_, rfl⟩
        cases he : decide (e < 51) <;> cases F
        all_goals
          have h := HO.out
          rw [he] at h
          simp only [Bool.false_and, Bool.true_and, Bool.and_false, Bool.and_true, if_true, if_false, Bool.false_eq_true] at h
          subst h
          clear HO ho
          go_wp2_with (first
            | (go_at_call 87; (with_reducible refine (U2.out _).mono ?_); rintro e' w3 ⟨rfl, qk⟩; have kbw3 : Bh w (N) w3 := Bh.step kc qk; have Aw30 := At.kp B0 qk (Nat.lt_of_lt_of_le (show i < N by omega) (Bh.le (W := w) kc)); have Aw30_0 := Aw30 0 _ rfl; have Aw30_1 := Aw30 1 _ rfl; have Rw31 := Rm.kp B1 qk (Nat.lt_of_lt_of_le (show w.heap.size + 1 < N by omega) (Bh.le (W := w) kc)); obtain ⟨⟨_, _⟩, _, ⟨_, _⟩, _, ⟨_, _⟩, _⟩ := Rw31.out3; clear qk)
            | (go_at_call 87; (with_reducible refine (X2.out _).mono ?_); rintro e' w4 ⟨rfl, qk⟩; have kbw4 : Bh w (N) w4 := Bh.step (by with_reducible assumption) qk; have Aw40 : At (i) [.int .u64 BH, .int .u64 BL] w4 := At.kp (by with_reducible assumption) qk (Nat.lt_of_lt_of_le (show i < N by omega) (Bh.le (W := w) (by with_reducible assumption))); have Aw40_0 := Aw40 0 _ rfl; have Aw40_1 := Aw40 1 _ rfl; have Rw41 : Rm (w.heap.size + 1) 3 w4 := Rm.kp (by with_reducible assumption) qk (Nat.lt_of_lt_of_le (show w.heap.size + 1 < N by omega) (Bh.le (W := w) (by with_reducible assumption))); obtain ⟨⟨_, _⟩, _, ⟨_, _⟩, _, ⟨_, _⟩, _⟩ := Rw41.out3; clear qk)
            | (go_at_call 86; (with_reducible refine (D2.out _).mono ?_); rintro e' w5 ⟨rfl, qk⟩; have kbw5 : Bh w (N) w5 := Bh.step (by with_reducible assumption) qk; have Aw50 : At (i) [.int .u64 BH, .int .u64 BL] w5 := At.kp (by with_reducible assumption) qk (Nat.lt_of_lt_of_le (show i < N by omega) (Bh.le (W := w) (by with_reducible assumption))); have Aw50_0 := Aw50 0 _ rfl; have Aw50_1 := Aw50 1 _ rfl; have Rw51 : Rm (w.heap.size + 1) 3 w5 := Rm.kp (by with_reducible assumption) qk (Nat.lt_of_lt_of_le (show w.heap.size + 1 < N by omega) (Bh.le (W := w) (by with_reducible assumption))); obtain ⟨⟨_, _⟩, _, ⟨_, _⟩, _, ⟨_, _⟩, _⟩ := Rw51.out3; have lw5 := kbw5.le; have hr := kbw5.lo; have qa0 : i < w5.heap.size := (by omega); have qa1 : ¬ i = w5.heap.size := (by omega); have qa2 : ¬ w5.heap.size = i := (by omega); have qb0 : w.heap.size + 1 < w5.heap.size := (by omega); have qb1 : ¬ w.heap.size + 1 = w5.heap.size := (by omega); have qb2 : ¬ w5.heap.size = w.heap.size + 1 := (by omega); have qc1 : ¬ w.heap.size + 1 = i := (by omega); have qc2 : ¬ i = w.heap.size + 1 := (by omega); clear qk))
          refine bodyPost_ret (v := _) ?_ rfl ⟨rfl, ?_⟩
          · simp [results, Try.results60, go_sem, *]
            try (rw [Bool.eq_iff_iff]; simp <;> omega)
          · repeat' (first | with_reducible refine Kp.setCell ?_ ?_ _ | with_reducible refine Kp.allocs ?_ _ _)
            all_goals first | exact kbw5.kp | (dsimp only; omega)
    · go_upto_region 10 with (first
        | (go_at_call 84; (with_reducible refine (one_w _ _).mono ?_); rintro e' w' ⟨rfl, rfl⟩)
        | (go_at_call 85; (with_reducible refine (PA.out _).mono ?_); rintro e' w' ⟨rfl, rfl⟩)
        | (go_at_call 85; (with_reducible refine (PB.out _).mono ?_); rintro e' w' ⟨rfl, rfl⟩))
      go_cut [12] (fun s12 wx => ∃ i : Nat, s12 = .pointer (some ⟨i, 0, none⟩) ∧ wx.cell? ⟨i, 0, none⟩ = some (.int .u64 BH) ∧ wx.cell? ⟨i, 1, none⟩ = some (.int .u64 BL) ∧ w.heap.size + 2 ≤ i ∧ i < wx.heap.size ∧ Kp wc wx)
      case first =>
        go_region_held3 (fun w' => w'.cell? ⟨w.heap.size, 5, none⟩ = some (.int .i64 b) ∧ Bh wc (wc.heap.size) w')
          (first | (refine ⟨?_, ?_⟩ <;> first | with_reducible assumption | ((repeat' (first | with_reducible assumption | with_reducible apply Bh.drew | with_reducible apply Bh.alloc | with_reducible apply Bh.set | with_reducible refine Bh.cell_set (n := wc.heap.size) (p := ⟨_, _, none⟩) ?_ ?_ ?_ | with_reducible refine Bh.cell_alloc (W := wc) (n := wc.heap.size) (p := ⟨_, _, none⟩) ?_ ?_ ?_ | (dsimp only; omega))); done) | (with_reducible apply Bh.drew; assumption) | (simp [go_sem, *]; done)))
          (first
            | (go_at_call 87; go_split_ands; with_reducible refine (U1.out _).mono ?_; rintro e w' ⟨rfl, qk⟩; have q0 : w'.cell? ⟨w.heap.size, 5, none⟩ = some (.int .i64 b) := Bh.cell (n := wc.heap.size) (W := wc) (by with_reducible assumption) qk (by dsimp only; omega) (by with_reducible assumption); have qb : Bh wc (wc.heap.size) w' := Bh.step (by with_reducible assumption) qk; have ql := qb.le; (try have hx := Kp.chain hy qk (by first | exact Nat.le_refl _ | (simp; done) | (simp; omega))); (try have hx1 := (Kp.up1 hx).1); (try have hx2 := (Kp.up1 hx).2.1); (try have hx3 := (Kp.up1 hx).2.2); (try have hy := Kp.chain hz qk (by first | exact Nat.le_refl _ | (simp; done) | (simp; omega))); (try have hy1 := (Kp.up1 hy).1); (try have hy2 := (Kp.up1 hy).2.1); (try have hy3 := (Kp.up1 hy).2.2); obtain ⟨hc, hf, hz⟩ := qk.cells; (try have hz1 := (Kp.up1 hz).1); (try have hz2 := (Kp.up1 hz).2.1); (try have hz3 := (Kp.up1 hz).2.2); clear qk)
            | (go_at_call 87; go_split_ands; with_reducible refine (X1.out _).mono ?_; rintro e w' ⟨rfl, qk⟩; have q0 : w'.cell? ⟨w.heap.size, 5, none⟩ = some (.int .i64 b) := Bh.cell (n := wc.heap.size) (W := wc) (by with_reducible assumption) qk (by dsimp only; omega) (by with_reducible assumption); have qb : Bh wc (wc.heap.size) w' := Bh.step (by with_reducible assumption) qk; have ql := qb.le; (try have hx := Kp.chain hy qk (by first | exact Nat.le_refl _ | (simp; done) | (simp; omega))); (try have hx1 := (Kp.up1 hx).1); (try have hx2 := (Kp.up1 hx).2.1); (try have hx3 := (Kp.up1 hx).2.2); (try have hy := Kp.chain hz qk (by first | exact Nat.le_refl _ | (simp; done) | (simp; omega))); (try have hy1 := (Kp.up1 hy).1); (try have hy2 := (Kp.up1 hy).2.1); (try have hy3 := (Kp.up1 hy).2.2); obtain ⟨hc, hf, hz⟩ := qk.cells; (try have hz1 := (Kp.up1 hz).1); (try have hz2 := (Kp.up1 hz).2.1); (try have hz3 := (Kp.up1 hz).2.2); clear qk)
            | (go_at_call 86; go_split_ands; with_reducible refine (D1.out _).mono ?_; rintro e w' ⟨rfl, qk⟩; have q0 : w'.cell? ⟨w.heap.size, 5, none⟩ = some (.int .i64 b) := Bh.cell (n := wc.heap.size) (W := wc) (by with_reducible assumption) qk (by dsimp only; omega) (by with_reducible assumption); have qb : Bh wc (wc.heap.size) w' := Bh.step (by with_reducible assumption) qk; have ql := qb.le; (try have hx := Kp.chain hy qk (by first | exact Nat.le_refl _ | (simp; done) | (simp; omega))); (try have hx1 := (Kp.up1 hx).1); (try have hx2 := (Kp.up1 hx).2.1); (try have hx3 := (Kp.up1 hx).2.2); (try have hy := Kp.chain hz qk (by first | exact Nat.le_refl _ | (simp; done) | (simp; omega))); (try have hy1 := (Kp.up1 hy).1); (try have hy2 := (Kp.up1 hy).2.1); (try have hy3 := (Kp.up1 hy).2.2); obtain ⟨hc, hf, hz⟩ := qk.cells; (try have hz1 := (Kp.up1 hz).1); (try have hz2 := (Kp.up1 hz).2.1); (try have hz3 := (Kp.up1 hz).2.2); clear qk))
        all_goals
          rename_i hh
          have hB := hh.2
          have hBl := hB.le
          clear hh
          go_wp2_with fail
          go_meet
          refine ⟨_, rfl, ?_, ?_, ?_, ?_, hB.kp⟩
        all_goals first
          | (simp [go_sem, *]; done)
          | omega
          | (simp (maxDischargeDepth := 8) [go_sem, *]; done)
          | (simp; omega)
          | (simp [*]; omega)
      case rest =>
        rename_i v1
        obtain ⟨i, rfl, i0, i1, hi1, hi2, hk⟩ := hcut
        have kq : Kp w wc := kv.kp.trans hk
        have B0 : At (i) [.int .u64 BH, .int .u64 BL] wc := fun j v hj => by
          match j with
          | 0 => simp at hj; subst hj; exact i0
          | 1 => simp at hj; subst hj; exact i1
          | j + 2 => simp at hj
        have B1 : Rm (w.heap.size + 1) 3 wc := Rm.kp V1 hk (by omega)
        have kc : Bh w (wc.heap.size) wc := ⟨kq, kq.size, Nat.le_refl _⟩
        obtain ⟨N, hN⟩ : ∃ N, wc.heap.size = N := ⟨_, rfl⟩
        have hsz := hk.size
        rw [hN] at hi2 kc
        clear hN hk kq V0 V1 kv i0 i1
        have hnw : w.heap.size + 2 ≤ N := by omega
        have ho : ∃ x, O = x := ⟨_, rfl⟩
        cases he : decide (e < 51) <;> cases F
        all_goals
          have h := HO.out
          rw [he] at h
          simp only [Bool.false_and, Bool.true_and, Bool.and_false, Bool.and_true, if_true, if_false, Bool.false_eq_true] at h
          subst h
          clear HO ho
          go_wp2_with (first
            | (go_at_call 87; (with_reducible refine (U2.out _).mono ?_); rintro e' w3 ⟨rfl, qk⟩; have kbw3 : Bh w (N) w3 := Bh.step kc qk; have Aw30 := At.kp B0 qk (Nat.lt_of_lt_of_le (show i < N by omega) (Bh.le (W := w) kc)); have Aw30_0 := Aw30 0 _ rfl; have Aw30_1 := Aw30 1 _ rfl; have Rw31 := Rm.kp B1 qk (Nat.lt_of_lt_of_le (show w.heap.size + 1 < N by omega) (Bh.le (W := w) kc)); obtain ⟨⟨_, _⟩, _, ⟨_, _⟩, _, ⟨_, _⟩, _⟩ := Rw31.out3; clear qk)
            | (go_at_call 87; (with_reducible refine (X2.out _).mono ?_); rintro e' w4 ⟨rfl, qk⟩; have kbw4 : Bh w (N) w4 := Bh.step (by with_reducible assumption) qk; have Aw40 : At (i) [.int .u64 BH, .int .u64 BL] w4 := At.kp (by with_reducible assumption) qk (Nat.lt_of_lt_of_le (show i < N by omega) (Bh.le (W := w) (by with_reducible assumption))); have Aw40_0 := Aw40 0 _ rfl; have Aw40_1 := Aw40 1 _ rfl; have Rw41 : Rm (w.heap.size + 1) 3 w4 := Rm.kp (by with_reducible assumption) qk (Nat.lt_of_lt_of_le (show w.heap.size + 1 < N by omega) (Bh.le (W := w) (by with_reducible assumption))); obtain ⟨⟨_, _⟩, _, ⟨_, _⟩, _, ⟨_, _⟩, _⟩ := Rw41.out3; clear qk)
            | (go_at_call 86; (with_reducible refine (D2.out _).mono ?_); rintro e' w5 ⟨rfl, qk⟩; have kbw5 : Bh w (N) w5 := Bh.step (by with_reducible assumption) qk; have Aw50 : At (i) [.int .u64 BH, .int .u64 BL] w5 := At.kp (by with_reducible assumption) qk (Nat.lt_of_lt_of_le (show i < N by omega) (Bh.le (W := w) (by with_reducible assumption))); have Aw50_0 := Aw50 0 _ rfl; have Aw50_1 := Aw50 1 _ rfl; have Rw51 : Rm (w.heap.size + 1) 3 w5 := Rm.kp (by with_reducible assumption) qk (Nat.lt_of_lt_of_le (show w.heap.size + 1 < N by omega) (Bh.le (W := w) (by with_reducible assumption))); obtain ⟨⟨_, _⟩, _, ⟨_, _⟩, _, ⟨_, _⟩, _⟩ := Rw51.out3; have lw5 := kbw5.le; have hr := kbw5.lo; have qa0 : i < w5.heap.size := (by omega); have qa1 : ¬ i = w5.heap.size := (by omega); have qa2 : ¬ w5.heap.size = i := (by omega); have qb0 : w.heap.size + 1 < w5.heap.size := (by omega); have qb1 : ¬ w.heap.size + 1 = w5.heap.size := (by omega); have qb2 : ¬ w5.heap.size = w.heap.size + 1 := (by omega); have qc1 : ¬ w.heap.size + 1 = i := (by omega); have qc2 : ¬ i = w.heap.size + 1 := (by omega); clear qk))
          refine bodyPost_ret (v := _) ?_ rfl ⟨rfl, ?_⟩
          · simp [results, Try.results60, go_sem, *]
            try (rw [Bool.eq_iff_iff]; simp <;> omega)
          · repeat' (first | with_reducible refine Kp.setCell ?_ ?_ _ | with_reducible refine Kp.allocs ?_ _ _)
            all_goals first | exact kbw5.kp | (dsimp only; omega)
end Go.Proofs.Ytkddgjaflcjhiaa
namespace Go.Proofs.Ytkddgjaflcjhiaa
open Go.ChangeShapes Go.WideShapes Go.ChangeAt Go.RowKit
set_option linter.unusedVariables false
set_option linter.unusedSimpArgs false

theorem step_eq (b e a x : Int) : b01 (decide (x < corV b)) - b01 (decide (midV e a < corV b)) = stepV b e a x := by
  unfold stepV b01
  by_cases h1 : x < corV b <;> by_cases h2 : midV e a < corV b <;> simp [h1, h2] <;> omega
theorem stepV_bd (b e a x : Int) : -1 ≤ stepV b e a x ∧ stepV b e a x ≤ 1 := by unfold stepV; split <;> (try split) <;> omega
theorem uppV_small (e a : Int) (e0 : 0 ≤ e) (a0 : 0 ≤ a) (a1 : a < 18446744073709551616) : 0 ≤ uppV e a ∧ uppV e a < 1125899906842624 := by
  unfold uppV
  have h2 : 2 ^ 14 ≤ 2 ^ (e + 14).toNat := Nat.pow_le_pow_right (by omega) (by omega)
  have h3 : (16384 : Int) ≤ 2 ^ (e + 14).toNat := by
    have h4 : ((2 ^ 14 : Nat) : Int) ≤ ((2 ^ (e + 14).toNat : Nat) : Int) := Int.ofNat_le.2 h2
    simpa using h4
  generalize (2 : Int) ^ (e + 14).toNat = m at *
  have h5 : 0 ≤ a / m := Int.ediv_nonneg a0 (by omega)
  have h6 := Int.ediv_mul_le a (show m ≠ 0 by omega)
  have h7 := Int.mul_le_mul_of_nonneg_left h3 h5
  omega
theorem plc_put (b e a x : Int) (e0 : 0 ≤ e) (a0 : 0 ≤ a) (a1 : a < 18446744073709551616) :
    wH (wN (wH (wN (b01 (decide (uppV e a + stepV b e a x < 0))) (IntKind.u64.wrap (uppV e a + stepV b e a x)) * 2 ^ (e + 14).toNat)) (wL (wN (b01 (decide (uppV e a + stepV b e a x < 0))) (IntKind.u64.wrap (uppV e a + stepV b e a x)) * 2 ^ (e + 14).toNat)) + wN (wH (wN (b01 false) x * 2 ^ e.toNat)) (wL (wN (b01 false) x * 2 ^ e.toNat))) = wH (plcV b e a x) ∧
    wL (wN (wH (wN (b01 (decide (uppV e a + stepV b e a x < 0))) (IntKind.u64.wrap (uppV e a + stepV b e a x)) * 2 ^ (e + 14).toNat)) (wL (wN (b01 (decide (uppV e a + stepV b e a x < 0))) (IntKind.u64.wrap (uppV e a + stepV b e a x)) * 2 ^ (e + 14).toNat)) + wN (wH (wN (b01 false) x * 2 ^ e.toNat)) (wL (wN (b01 false) x * 2 ^ e.toNat))) = wL (plcV b e a x) := by
  have h1 := uppV_small e a e0 a0 a1
  have h2 := stepV_bd b e a x
  exact put_eq (uppV e a + stepV b e a x) x e (by omega) (by omega) _ _ rfl (by rw [wN_zero])
theorem add_at {h l i m : Int} (A B : Int) (h0 : 0 ≤ h) (h1 : h < 2) (l0 : 0 ≤ l) (l1 : l < 18446744073709551616) (i0 : 0 ≤ i) (i1 : i < 2) (m0 : 0 ≤ m) (m1 : m < 18446744073709551616) (e1 : wH (wN h l + wN i m) = A) (e2 : wL (wN h l + wN i m) = B) (w : World) :
    Calls Try.prog 86 #[.agg #[.int .u64 h, .int .u64 l], .agg #[.int .u64 i, .int .u64 m]] w fun e' w' => e' = .returned (.agg #[.int .u64 A, .int .u64 B]) ∧ Kp w w' := by
  subst e1 e2; exact radd_w h l i m h0 h1 l0 l1 i0 i1 m0 m1 w
theorem refOf_w (tg : Bool) (pe ty mo e b t : Int) (g : Bool) (a : Int) (h : Fld e b t a) (w : World) :
    Calls Try.prog 60 #[.agg #[tg, pe, ty, mo, e, b, t, g, .int .u64 a]] w fun e' w' => e' = .returned (.agg #[.int .u64 (ofB e b a), .int .u64 (ofT e b t g a), .bool (ofO e b t g a)]) ∧ Kp w w' := by
  have hU := uppV_small e a h.e0 h.a0 h.a1
  have hT := t14_bd b t g h.b0 h.t0 h.t1
  have hs1 := stepV_bd b e a b
  have hs2 := stepV_bd b e a (t14 b t g)
  have p1 := plc_put b e a b h.e0 h.a0 h.a1
  have p2 := plc_put b e a (t14 b t g) h.e0 h.a0 h.a1
  have tH := ofH_bd e b t g a
  have bL := ofB_bd e b a
  have tL := ofT_bd e b t g a
  have e0 := h.e0
  have e1 := h.e1
  have b0 := h.b0
  have b1 := h.b1
  refine refOf_core tg pe ty mo e b t g a h (t14 b t g) (corV b) (midV e a) (uppV e a) (stepV b e a b) (stepV b e a (t14 b t g)) _ _ _ _ _ _ (wH (plcV b e a b)) (ofB e b a) _ _ _ _ (ofH e b t g a) (ofT e b t g a) _ _ _ 0 _ _ (farB (ofH e b t g a) (ofT e b t g a) (ofB e b a))
    rfl rfl rfl rfl (step_eq _ _ _ _) (step_eq _ _ _ _)
    (Lib.hid (fun w => rpart_w (uppV e a) (stepV b e a b) hU.1 (by omega) hs1.1 hs1.2 w)) (Lib.hid (fun w => rpart_w (uppV e a) (stepV b e a (t14 b t g)) hU.1 (by omega) hs2.1 hs2.2 w))
    (Lib.hid (fun w => rup_w _ _ (e + 14) (wrap_bd _).1 (wrap_bd _).2 (by omega) (by omega) w)) (Lib.hid (fun w => rup_w b false e b0 (by omega) e0 (by omega) w))
    (Lib.hid (fun w => add_at _ _ (wH_lo _) (wH_hi _) (wL_lo _) (wL_hi _) (wH_lo _) (wH_hi _) (wL_lo _) (wL_hi _) p1.1 p1.2 w))
    (Lib.hid (fun w => rup_w _ _ (e + 14) (wrap_bd _).1 (wrap_bd _).2 (by omega) (by omega) w)) (Lib.hid (fun w => rup_w (t14 b t g) false e hT.1 (by omega) e0 (by omega) w))
    (Lib.hid (fun w => add_at _ _ (wH_lo _) (wH_hi _) (wL_lo _) (wL_hi _) (wH_lo _) (wH_hi _) (wL_lo _) (wL_hi _) p2.1 p2.2 w))
    tH bL tL rfl rfl rfl ?_ (ofO e b t g a) ?_ w
  · unfold farB wN
    congr 1
    have hq : (ofH e b t g a * 18446744073709551616 + ofT e b t g a) / 9223372036854775808 = 2 * ofH e b t g a + ofT e b t g a / 9223372036854775808 := by omega
    rw [hq]
    generalize ofT e b t g a / 9223372036854775808 = x
    generalize ofB e b a / 9223372036854775808 = y
    rw [show (2 * ofH e b t g a + x + 4 - y) % 4 = (2 * ofH e b t g a + x - y) % 4 by omega]
  · unfold ofO ofF; rfl
end Go.Proofs.Ytkddgjaflcjhiaa
