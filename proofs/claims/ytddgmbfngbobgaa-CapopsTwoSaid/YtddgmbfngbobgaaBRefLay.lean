/-
  Contracts of the document's answer for layer 3: Lay, Mask, Round: what they say is what the plain mathematics says. Numbers are within their types.
-/
import Derived.Test.YtddgmbfngbobgaaBRefCut
import Derived.Test.YtddgmbfngbobgaaBMask
namespace Go.Proofs.Ytddgmbfngbobgaa
open Go.ChangeShapes Go.WideShapes Go.ChangeAt Go.RowKit
set_option linter.unusedVariables false
set_option linter.unusedSimpArgs false

/-- The exponent that the first i bits tell. -/
def eI (n : Int) (i : Nat) : Nat := len64 (n % 2 ^ i / 8192)
theorem eI_start (n : Int) (n0 : 0 ≤ n) : eI n 13 = 0 := by
  have h : n % 2 ^ 13 / 8192 = 0 := by
    have : (2 : Int) ^ 13 = 8192 := by decide
    rw [this]; omega
  unfold eI; rw [h]; simp [len64, lenN]
theorem eI_zero (n : Int) (i : Nat) (h : n / 2 ^ i % 2 = 0) : eI n (i + 1) = eI n i := by
  unfold eI; rw [mod_step, h]; simp
theorem eI_one (n : Int) (i : Nat) (n0 : 0 ≤ n) (hi : 13 ≤ i) (h64 : i < 64) (h : n / 2 ^ i % 2 = 1) : eI n (i + 1) = i - 12 := by
  have hp := pow_pos' i
  have r0 := Int.emod_nonneg n (Int.ne_of_gt hp)
  have r1 := Int.emod_lt_of_pos n hp
  unfold eI
  rw [mod_step, h, Int.mul_one]
  have e : (2 : Int) ^ i = 2 ^ (i - 13) * 8192 := by
    have : (8192 : Int) = 2 ^ 13 := by decide
    rw [this, ← two_pow_add, show i - 13 + 13 = i by omega]
  have hq : (n % 2 ^ i + 2 ^ i) / 8192 = n % 2 ^ i / 8192 + 2 ^ (i - 13) := by
    have : n % 2 ^ i + 2 ^ i = n % 2 ^ i + 2 ^ (i - 13) * 8192 := by rw [← e]
    rw [this, Int.add_mul_ediv_right _ _ (by omega)]
  have hl : n % 2 ^ i / 8192 < 2 ^ (i - 13) := by
    apply Int.ediv_lt_of_lt_mul (by omega)
    rw [← e]; exact r1
  rw [hq]
  obtain ⟨x, hx⟩ : ∃ x : Nat, (x : Int) = n % 2 ^ i / 8192 := ⟨(n % 2 ^ i / 8192).toNat, by omega⟩
  rw [← hx] at hl ⊢
  have hl2 : x < 2 ^ (i - 13) := by
    have h3 : ((x : Nat) : Int) < ((2 ^ (i - 13) : Nat) : Int) := by simpa using hl
    exact Int.ofNat_lt.mp h3
  have ht : ((x : Int) + 2 ^ (i - 13)).toNat = x + 2 ^ (i - 13) := by
    have : ((x : Int) + 2 ^ (i - 13)) = ((x + 2 ^ (i - 13) : Nat) : Int) := by simp
    rw [this]; rfl
  unfold len64
  rw [ht]
  have a := lenN_ge 64 (x + 2 ^ (i - 13)) (i - 13) (by omega) (by omega)
  have b := lenN_lt 64 (x + 2 ^ (i - 13)) (i - 13 + 1) (by rw [Nat.pow_succ]; omega)
  omega
theorem eI_end (n : Int) (n0 : 0 ≤ n) (n1 : n < 18446744073709551616) : eI n 64 = e0V n := by
  unfold eI e0V
  rw [pow64, Int.emod_eq_of_lt n0 n1]
theorem eI_bd (n : Int) (i : Nat) (n0 : 0 ≤ n) (n1 : n < 18446744073709551616) : eI n i ≤ 51 := by
  have hp := pow_pos' i
  have r0 := Int.emod_nonneg n (Int.ne_of_gt hp)
  have r1 : n % 2 ^ i ≤ n := by
    have h := Int.emod_add_mul_ediv n (2 ^ i)
    have h2 := Int.mul_nonneg (Int.le_of_lt hp) (Int.ediv_nonneg n0 (Int.le_of_lt hp))
    omega
  exact e0V_bd (n % 2 ^ i) r0 (by omega)
theorem e0V_small (n : Int) (n0 : 0 ≤ n) (h : n < 8192) : e0V n = 0 := by
  have : n / 8192 = 0 := by omega
  simp [e0V, this, len64, lenN]
theorem e0V_pos (n : Int) (h : 8192 ≤ n) : 0 < e0V n := by
  have h1 : 1 ≤ (n / 8192).toNat := by omega
  have := lenN_ge 64 (n / 8192).toNat 0 (by omega) (by simpa using h1)
  unfold e0V len64; omega
/-- What bits are lost by one more. -/
theorem lost_next (N : Int) (k : Nat) : lostB N (k + 1) = (lostB N k || (N / 2 ^ k % 2048 % 2 == 1)) := by
  have e : N / 2 ^ k % 2048 % 2 = N / 2 ^ k % 2 := by omega
  rw [e]
  rcases bit_cases N k with b | b
  · rw [lost_zero N k b, b]; simp
  · rw [lost_one N k b, b]; simp
def eZ (n : Int) (i : Nat) : Int := (eI n i : Int)
theorem eZ_bd (n : Int) (i : Nat) (n0 : 0 ≤ n) (n1 : n < 18446744073709551616) : 0 ≤ eZ n i ∧ eZ n i ≤ 51 := by
  have := eI_bd n i n0 n1; unfold eZ; omega
theorem eZ_end (n : Int) (n0 : 0 ≤ n) (n1 : n < 18446744073709551616) : eZ n 64 = (e0V n : Int) := by unfold eZ; rw [eI_end n n0 n1]
theorem eZ_zero (n : Int) (i : Nat) (h : n / 2 ^ i % 2 = 0) : eZ n (i + 1) = eZ n i := by unfold eZ; rw [eI_zero n i h]
theorem eZ_one (n : Int) (i : Nat) (n0 : 0 ≤ n) (hi : 13 ≤ i) (h64 : i < 64) (h : n / 2 ^ i % 2 = 1) : eZ n (i + 1) = (i : Int) - 12 := by
  unfold eZ; rw [eI_one n i n0 hi h64 h]; omega
theorem top_N (a n L : Int) (a0 : 0 ≤ a) (a1 : a < 18446744073709551616) (n0 : 0 ≤ n) (n1 : n < 18446744073709551616) (h : (a + n) % 18446744073709551616 = L) : wN (b01 (decide (L < n))) L = a + n := by
  by_cases c : L < n
  · simp only [c, decide_true, wN, b01, if_true]; omega
  · simp only [c, decide_false, wN, b01, Bool.false_eq_true, if_false]; omega
theorem at_N (a : Int) : wN 0 a = a := by unfold wN; omega
set_option maxHeartbeats 8000000 in
set_option maxRecDepth 100000 in
theorem lay_not (tg : Bool) (pe ty mo e b t : Int) (g : Bool) (a n : Int) (a0 : 0 ≤ a) (a1 : a < 18446744073709551616) (n0 : 0 ≤ n) (n1 : n < 4096) (w : World) :
    Calls Try.prog 58 #[.agg #[.bool tg, .int .i64 pe, .int .i64 ty, .int .i64 mo, .int .i64 e, .int .i64 b, .int .i64 t, .bool g, .int .u64 a], .int .u64 n] w fun e' w' => e' = .returned (.tuple #[.agg #[.bool tg, .int .i64 pe, .int .i64 ty, .int .i64 mo, .int .i64 0, .int .i64 (a % 16384), .int .i64 ((a + n) % 4096), .bool false, .int .u64 a], .bool true]) ∧ Kp w w' := by
  have k11 : ∀ n : Nat, n < n + 1 + 1 := fun n => by omega
  have k12 : ∀ n : Nat, n < n + 1 + 1 + 1 := fun n => by omega
  obtain ⟨L, hL⟩ : ∃ L, wL (a + n) = L := ⟨_, rfl⟩
  have hL0 : (a + n) % 18446744073709551616 = L := by rw [← hL]; rfl
  have hwr : IntKind.u64.wrap (a + n) = L := by rw [IntKind.wrap_u64]; exact hL0
  have hl0 : 0 ≤ L ∧ L < 18446744073709551616 := by rw [← hL]; exact ⟨wL_lo _, wL_hi _⟩
  obtain ⟨hl0, hl1⟩ := hl0
  have HT := Lib.hid (top_N a n L a0 a1 n0 (by omega) hL0)
  obtain ⟨H, hH⟩ : ∃ H, b01 (decide (L < n)) = H := ⟨_, rfl⟩
  have hH0 : 0 ≤ H ∧ H < 2 := by rw [← hH]; exact ⟨b01_lo _, b01_hi _⟩
  obtain ⟨hH0, hH1⟩ := hH0
  rw [hH] at HT
  have HM := Lib.hid (show L % 4096 = (a + n) % 4096 by omega)
  have HE := Lib.hid ((eZ_end n n0 (by omega)).trans (show ((e0V n : Nat) : Int) = 0 by rw [e0V_small n n0 (by omega)] <;> rfl))
  have t12 : (n / 4096 % 2 == 1) = false := by have : n / 4096 % 2 = 0 := by omega
                                               rw [this]; rfl
  clear hL hL0
  go_enter Try.func58, Try.ntmps58
  go_wp2_with (go_at_call 80; (with_reducible refine (refone_w _ _).mono ?_); rintro e' w1 ⟨rfl, rfl⟩)
  go_loop [8, 9] (fun x i => ∃ j : Nat, 13 ≤ j ∧ j ≤ 64 ∧ i = .int .i64 j ∧ x = .int .i64 (eZ n j)) (fun _ i => 64 - (intOf i).toNat)
  case atStart => exact ⟨13, by omega, by omega, rfl, by rw [show eZ n 13 = 0 by unfold eZ; rw [eI_start n n0]; rfl]⟩
  case round =>
    obtain ⟨j, hj13, hj64, rfl, rfl⟩ := hrel
    have j0 : (0 : Int) ≤ (j : Int) := by omega
    have eb := eZ_bd n j n0 (by omega)
    obtain ⟨eb0, eb1⟩ := eb
    by_cases hlt : j < 64
    · have hlt' : (j : Int) < 64 := by omega
      have dv := div_bd3 n j n0
      obtain ⟨dv0, dv1⟩ := dv
      rcases bit_cases n j with hb | hb
      · have HB := Lib.hid (eZ_zero n j hb)
        have hb1 : (n / 2 ^ j % 2 == 1) = false := by rw [hb]; rfl
        clear hb
        go_wp2
        go_round
        case rel => exact ⟨j + 1, by omega, by omega, by go_num, by rw [HB.out]⟩
        case measure => simp [intOf]; omega
      · have HB := Lib.hid (eZ_one n j n0 hj13 hlt hb)
        have hb1 : (n / 2 ^ j % 2 == 1) = true := by rw [hb]; rfl
        clear hb
        go_wp2
        go_round
        case rel => exact ⟨j + 1, by omega, by omega, by go_num, by rw [HB.out]⟩
        case measure => simp [intOf]; omega
    · have hj : j = 64 := by omega
      subst hj
      clear hj13 hj64 j0 hlt eb0 eb1
      rw [HE.out]
      go_wp2
      refine bodyPost_ret (v := .tuple #[.agg #[.bool tg, .int .i64 pe, .int .i64 ty, .int .i64 mo, .int .i64 0, .int .i64 (a % 16384), .int .i64 ((a + n) % 4096), .bool false, .int .u64 a], .bool true]) ?_ rfl ⟨rfl, ?_⟩
      · rw [← HM.out]
        simp (maxDischargeDepth := 8) [results, Try.results58, go_sem, *]
      · repeat' (first | with_reducible refine Kp.setCell ?_ ?_ _ | with_reducible refine Kp.allocs ?_ _ _)
        all_goals first | exact Kp.refl _ | (simp; done) | (dsimp only; omega)
set_option maxHeartbeats 8000000 in
set_option maxRecDepth 100000 in
theorem lay_stay (tg : Bool) (pe ty mo e b t : Int) (g : Bool) (a n : Int) (a0 : 0 ≤ a) (a1 : a < 18446744073709551616) (n0 : 0 ≤ n) (n1 : n < 18446744073709551616) (L H E A T A2 T2 : Int) (la lt la2 lt2 : Bool) (hL0 : (a + n) % 18446744073709551616 = L) (hH : b01 (decide (L < n)) = H) (hEn : eZ n 64 = E) (E0 : 0 ≤ E) (E1 : E ≤ 51) (hc : decide (0 < E) = true ∨ decide (0 < E) = false ∧ (n / 4096 % 2 == 1) = true) (A0 : 0 ≤ A) (A1 : A < 2048) (T0 : 0 ≤ T) (T1 : T < 2048) (A20 : 0 ≤ A2) (A21 : A2 < 2048) (T20 : 0 ≤ T2) (T21 : T2 < 2048) (ca : ∀ w : World, Calls Try.prog 84 #[.agg #[.int .u64 0, .int .u64 a], .int .i64 (E + 3)] w fun e' w' => e' = .returned (.tuple #[.int .i64 A, .bool la]) ∧ Kp w w') (ct : ∀ w : World, Calls Try.prog 84 #[.agg #[.int .u64 H, .int .u64 L], .int .i64 (E + 3)] w fun e' w' => e' = .returned (.tuple #[.int .i64 T, .bool lt]) ∧ Kp w w') (ca2 : ∀ w : World, Calls Try.prog 84 #[.agg #[.int .u64 0, .int .u64 a], .int .i64 (E + 1 + 3)] w fun e' w' => e' = .returned (.tuple #[.int .i64 A2, .bool la2]) ∧ Kp w w') (ct2 : ∀ w : World, Calls Try.prog 84 #[.agg #[.int .u64 H, .int .u64 L], .int .i64 (E + 1 + 3)] w fun e' w' => e' = .returned (.tuple #[.int .i64 T2, .bool lt2]) ∧ Kp w w') (hov : decide (1024 ≤ (T + b01 lt - A) % 2048) = false) (w : World) :
    Calls Try.prog 58 #[.agg #[.bool tg, .int .i64 pe, .int .i64 ty, .int .i64 mo, .int .i64 e, .int .i64 b, .int .i64 t, .bool g, .int .u64 a], .int .u64 n] w fun e' w' => e' = .returned (.tuple #[.agg #[.bool tg, .int .i64 pe, .int .i64 ty, .int .i64 mo, .int .i64 E, .int .i64 (A * 8), .int .i64 ((T + b01 lt) % 2048 * 8 % 4096), .bool true, .int .u64 a], .bool (!la && !lt)]) ∧ Kp w w' := by
  have k11 : ∀ n : Nat, n < n + 1 + 1 := fun n => by omega
  have k12 : ∀ n : Nat, n < n + 1 + 1 + 1 := fun n => by omega
  have hwr : IntKind.u64.wrap (a + n) = L := by rw [IntKind.wrap_u64]; exact hL0
  have hl0 : 0 ≤ L ∧ L < 18446744073709551616 := by omega
  obtain ⟨hl0, hl1⟩ := hl0
  have hH0 : 0 ≤ H ∧ H < 2 := by rw [← hH]; exact ⟨b01_lo _, b01_hi _⟩
  obtain ⟨hH0, hH1⟩ := hH0
  have CA := Lib.hid ca
  have CT := Lib.hid ct
  have CA2 := Lib.hid ca2
  have CT2 := Lib.hid ct2
  have HE := Lib.hid hEn
  have bt : b01 true = 1 := rfl
  have bf : b01 false = 0 := rfl
  clear ca ct ca2 ct2 hL0 hEn
  cases lt <;> cases la <;> rcases hc with hc | ⟨hc, t12⟩
  all_goals
    simp only [bt, bf, Int.add_zero, Bool.or_true, Bool.or_false, Bool.true_or, Bool.false_or, Bool.not_true, Bool.not_false, Bool.and_true, Bool.and_false] at hov ⊢
    go_enter Try.func58, Try.ntmps58
    go_wp2_with (go_at_call 80; (with_reducible refine (refone_w _ _).mono ?_); rintro e' w1 ⟨rfl, rfl⟩)
    go_loop [8, 9] (fun x i => ∃ j : Nat, 13 ≤ j ∧ j ≤ 64 ∧ i = .int .i64 j ∧ x = .int .i64 (eZ n j)) (fun _ i => 64 - (intOf i).toNat)
    case atStart => exact ⟨13, by omega, by omega, rfl, by rw [show eZ n 13 = 0 by unfold eZ; rw [eI_start n n0]; rfl]⟩
    case round =>
      obtain ⟨j, hj13, hj64, rfl, rfl⟩ := hrel
      have j0 : (0 : Int) ≤ (j : Int) := by omega
      have eb := eZ_bd n j n0 (by omega)
      obtain ⟨eb0, eb1⟩ := eb
      by_cases hlt : j < 64
      · have hlt' : (j : Int) < 64 := by omega
        have dv := div_bd3 n j n0
        obtain ⟨dv0, dv1⟩ := dv
        rcases bit_cases n j with hb | hb
        · have HB := Lib.hid (eZ_zero n j hb)
          have hb1 : (n / 2 ^ j % 2 == 1) = false := by rw [hb]; rfl
          clear hb
          go_wp2
          go_round
          case rel => exact ⟨j + 1, by omega, by omega, by go_num, by rw [HB.out]⟩
          case measure => simp [intOf]; omega
        · have HB := Lib.hid (eZ_one n j n0 hj13 hlt hb)
          have hb1 : (n / 2 ^ j % 2 == 1) = true := by rw [hb]; rfl
          clear hb
          go_wp2
          go_round
          case rel => exact ⟨j + 1, by omega, by omega, by go_num, by rw [HB.out]⟩
          case measure => simp [intOf]; omega
      · have hj : j = 64 := by omega
        subst hj
        clear hj13 hj64 j0 hlt eb0 eb1
        rw [HE.out]
        go_wp2_with (first
          | (go_at_call 80; (with_reducible refine (refone_w _ _).mono ?_); rintro e' w1 ⟨rfl, rfl⟩)
          | (go_at_call 84; (with_reducible refine (CA.out _).mono ?_); rintro e' x1 ⟨rfl, qk⟩; have HKx1 := Lib.hid qk; have qx10 : x1.cell? ⟨w.heap.size, 0, none⟩ = some (.bool tg) := (qk.cell (p := ⟨w.heap.size, 0, none⟩) (by first | (simp; done) | (simp; omega) | omega)).trans (by simp [go_sem, *]); have qx11 : x1.cell? ⟨w.heap.size, 1, none⟩ = some (.int .i64 pe) := (qk.cell (p := ⟨w.heap.size, 1, none⟩) (by first | (simp; done) | (simp; omega) | omega)).trans (by simp [go_sem, *]); have qx12 : x1.cell? ⟨w.heap.size, 2, none⟩ = some (.int .i64 ty) := (qk.cell (p := ⟨w.heap.size, 2, none⟩) (by first | (simp; done) | (simp; omega) | omega)).trans (by simp [go_sem, *]); have qx13 : x1.cell? ⟨w.heap.size, 3, none⟩ = some (.int .i64 mo) := (qk.cell (p := ⟨w.heap.size, 3, none⟩) (by first | (simp; done) | (simp; omega) | omega)).trans (by simp [go_sem, *]); have qx14 : x1.cell? ⟨w.heap.size, 4, none⟩ = some (.int .i64 e) := (qk.cell (p := ⟨w.heap.size, 4, none⟩) (by first | (simp; done) | (simp; omega) | omega)).trans (by simp [go_sem, *]); have qx15 : x1.cell? ⟨w.heap.size, 5, none⟩ = some (.int .i64 b) := (qk.cell (p := ⟨w.heap.size, 5, none⟩) (by first | (simp; done) | (simp; omega) | omega)).trans (by simp [go_sem, *]); have qx16 : x1.cell? ⟨w.heap.size, 6, none⟩ = some (.int .i64 t) := (qk.cell (p := ⟨w.heap.size, 6, none⟩) (by first | (simp; done) | (simp; omega) | omega)).trans (by simp [go_sem, *]); have qx17 : x1.cell? ⟨w.heap.size, 7, none⟩ = some (.bool true) := (qk.cell (p := ⟨w.heap.size, 7, none⟩) (by first | (simp; done) | (simp; omega) | omega)).trans (by simp [go_sem, *]); have qx18 : x1.cell? ⟨w.heap.size, 8, none⟩ = some (.int .u64 a) := (qk.cell (p := ⟨w.heap.size, 8, none⟩) (by first | (simp; done) | (simp; omega) | omega)).trans (by simp [go_sem, *]); have qx19 : x1.cell? ⟨w.heap.size + 1, 0, none⟩ = some (.bool false) := (qk.cell (p := ⟨w.heap.size + 1, 0, none⟩) (by first | (simp; done) | (simp; omega) | omega)).trans (by simp [go_sem, *]); have qx110 : x1.cell? ⟨w.heap.size + 1, 1, none⟩ = some (.int .i64 0) := (qk.cell (p := ⟨w.heap.size + 1, 1, none⟩) (by first | (simp; done) | (simp; omega) | omega)).trans (by simp [go_sem, *]); have qx111 : x1.cell? ⟨w.heap.size + 1, 2, none⟩ = some (.int .i64 0) := (qk.cell (p := ⟨w.heap.size + 1, 2, none⟩) (by first | (simp; done) | (simp; omega) | omega)).trans (by simp [go_sem, *]); have qx112 : x1.cell? ⟨w.heap.size + 1, 3, none⟩ = some (.int .i64 0) := (qk.cell (p := ⟨w.heap.size + 1, 3, none⟩) (by first | (simp; done) | (simp; omega) | omega)).trans (by simp [go_sem, *]); have qx113 : x1.cell? ⟨w.heap.size + 1, 4, none⟩ = some (.int .i64 0) := (qk.cell (p := ⟨w.heap.size + 1, 4, none⟩) (by first | (simp; done) | (simp; omega) | omega)).trans (by simp [go_sem, *]); have qx114 : x1.cell? ⟨w.heap.size + 1, 5, none⟩ = some (.int .i64 0) := (qk.cell (p := ⟨w.heap.size + 1, 5, none⟩) (by first | (simp; done) | (simp; omega) | omega)).trans (by simp [go_sem, *]); have qx115 : x1.cell? ⟨w.heap.size + 1, 6, none⟩ = some (.int .i64 0) := (qk.cell (p := ⟨w.heap.size + 1, 6, none⟩) (by first | (simp; done) | (simp; omega) | omega)).trans (by simp [go_sem, *]); have qx116 : x1.cell? ⟨w.heap.size + 1, 7, none⟩ = some (.bool false) := (qk.cell (p := ⟨w.heap.size + 1, 7, none⟩) (by first | (simp; done) | (simp; omega) | omega)).trans (by simp [go_sem, *]); have qx117 : x1.cell? ⟨w.heap.size + 1, 8, none⟩ = some (.int .u64 0) := (qk.cell (p := ⟨w.heap.size + 1, 8, none⟩) (by first | (simp; done) | (simp; omega) | omega)).trans (by simp [go_sem, *]); have qx118 : x1.cell? ⟨w.heap.size + 1 + 1, 0, none⟩ = some (.int .u64 H) := (qk.cell (p := ⟨w.heap.size + 1 + 1, 0, none⟩) (by first | (simp; done) | (simp; omega) | omega)).trans (by simp [go_sem, *]); have qx119 : x1.cell? ⟨w.heap.size + 1 + 1, 1, none⟩ = some (.int .u64 L) := (qk.cell (p := ⟨w.heap.size + 1 + 1, 1, none⟩) (by first | (simp; done) | (simp; omega) | omega)).trans (by simp [go_sem, *]); have zx10 : x1.frozen? ⟨w.heap.size, 4, none⟩ = false := (qk.2 _).trans (by simp [go_sem, *]); have zx11 : x1.frozen? ⟨w.heap.size, 5, none⟩ = false := (qk.2 _).trans (by simp [go_sem, *]); have zx12 : x1.frozen? ⟨w.heap.size, 6, none⟩ = false := (qk.2 _).trans (by simp [go_sem, *]); have zx13 : x1.frozen? ⟨w.heap.size + 1, 0, none⟩ = false := (qk.2 _).trans (by simp [go_sem, *]); have zx14 : x1.frozen? ⟨w.heap.size + 1, 1, none⟩ = false := (qk.2 _).trans (by simp [go_sem, *]); have zx15 : x1.frozen? ⟨w.heap.size + 1, 2, none⟩ = false := (qk.2 _).trans (by simp [go_sem, *]); have zx16 : x1.frozen? ⟨w.heap.size + 1, 3, none⟩ = false := (qk.2 _).trans (by simp [go_sem, *]); have zx17 : x1.frozen? ⟨w.heap.size + 1, 4, none⟩ = false := (qk.2 _).trans (by simp [go_sem, *]); have zx18 : x1.frozen? ⟨w.heap.size + 1, 5, none⟩ = false := (qk.2 _).trans (by simp [go_sem, *]); have zx19 : x1.frozen? ⟨w.heap.size + 1, 6, none⟩ = false := (qk.2 _).trans (by simp [go_sem, *]); have zx110 : x1.frozen? ⟨w.heap.size + 1, 7, none⟩ = false := (qk.2 _).trans (by simp [go_sem, *]); have zx111 : x1.frozen? ⟨w.heap.size + 1, 8, none⟩ = false := (qk.2 _).trans (by simp [go_sem, *]); have sz1 := qk.size; (try simp at sz1); have K1 := Lib.hid (Kp.trans (((Kp.refl w).allocs _ _ |>.allocs _ _).allocs _ _) qk); clear qk)
          | (go_at_call 84; (with_reducible refine (CT.out _).mono ?_); rintro e' x2 ⟨rfl, qk⟩; have HKx2 := Lib.hid qk; have qx20 : x2.cell? ⟨w.heap.size, 0, none⟩ = some (.bool tg) := (qk.cell (p := ⟨w.heap.size, 0, none⟩) (by first | (simp; done) | (simp; omega) | omega)).trans (by simp [go_sem, *]); have qx21 : x2.cell? ⟨w.heap.size, 1, none⟩ = some (.int .i64 pe) := (qk.cell (p := ⟨w.heap.size, 1, none⟩) (by first | (simp; done) | (simp; omega) | omega)).trans (by simp [go_sem, *]); have qx22 : x2.cell? ⟨w.heap.size, 2, none⟩ = some (.int .i64 ty) := (qk.cell (p := ⟨w.heap.size, 2, none⟩) (by first | (simp; done) | (simp; omega) | omega)).trans (by simp [go_sem, *]); have qx23 : x2.cell? ⟨w.heap.size, 3, none⟩ = some (.int .i64 mo) := (qk.cell (p := ⟨w.heap.size, 3, none⟩) (by first | (simp; done) | (simp; omega) | omega)).trans (by simp [go_sem, *]); have qx24 : x2.cell? ⟨w.heap.size, 4, none⟩ = some (.int .i64 e) := (qk.cell (p := ⟨w.heap.size, 4, none⟩) (by first | (simp; done) | (simp; omega) | omega)).trans (by simp [go_sem, *]); have qx25 : x2.cell? ⟨w.heap.size, 5, none⟩ = some (.int .i64 b) := (qk.cell (p := ⟨w.heap.size, 5, none⟩) (by first | (simp; done) | (simp; omega) | omega)).trans (by simp [go_sem, *]); have qx26 : x2.cell? ⟨w.heap.size, 6, none⟩ = some (.int .i64 t) := (qk.cell (p := ⟨w.heap.size, 6, none⟩) (by first | (simp; done) | (simp; omega) | omega)).trans (by simp [go_sem, *]); have qx27 : x2.cell? ⟨w.heap.size, 7, none⟩ = some (.bool true) := (qk.cell (p := ⟨w.heap.size, 7, none⟩) (by first | (simp; done) | (simp; omega) | omega)).trans (by simp [go_sem, *]); have qx28 : x2.cell? ⟨w.heap.size, 8, none⟩ = some (.int .u64 a) := (qk.cell (p := ⟨w.heap.size, 8, none⟩) (by first | (simp; done) | (simp; omega) | omega)).trans (by simp [go_sem, *]); have qx29 : x2.cell? ⟨w.heap.size + 1, 0, none⟩ = some (.bool false) := (qk.cell (p := ⟨w.heap.size + 1, 0, none⟩) (by first | (simp; done) | (simp; omega) | omega)).trans (by simp [go_sem, *]); have qx210 : x2.cell? ⟨w.heap.size + 1, 1, none⟩ = some (.int .i64 0) := (qk.cell (p := ⟨w.heap.size + 1, 1, none⟩) (by first | (simp; done) | (simp; omega) | omega)).trans (by simp [go_sem, *]); have qx211 : x2.cell? ⟨w.heap.size + 1, 2, none⟩ = some (.int .i64 0) := (qk.cell (p := ⟨w.heap.size + 1, 2, none⟩) (by first | (simp; done) | (simp; omega) | omega)).trans (by simp [go_sem, *]); have qx212 : x2.cell? ⟨w.heap.size + 1, 3, none⟩ = some (.int .i64 0) := (qk.cell (p := ⟨w.heap.size + 1, 3, none⟩) (by first | (simp; done) | (simp; omega) | omega)).trans (by simp [go_sem, *]); have qx213 : x2.cell? ⟨w.heap.size + 1, 4, none⟩ = some (.int .i64 0) := (qk.cell (p := ⟨w.heap.size + 1, 4, none⟩) (by first | (simp; done) | (simp; omega) | omega)).trans (by simp [go_sem, *]); have qx214 : x2.cell? ⟨w.heap.size + 1, 5, none⟩ = some (.int .i64 0) := (qk.cell (p := ⟨w.heap.size + 1, 5, none⟩) (by first | (simp; done) | (simp; omega) | omega)).trans (by simp [go_sem, *]); have qx215 : x2.cell? ⟨w.heap.size + 1, 6, none⟩ = some (.int .i64 0) := (qk.cell (p := ⟨w.heap.size + 1, 6, none⟩) (by first | (simp; done) | (simp; omega) | omega)).trans (by simp [go_sem, *]); have qx216 : x2.cell? ⟨w.heap.size + 1, 7, none⟩ = some (.bool false) := (qk.cell (p := ⟨w.heap.size + 1, 7, none⟩) (by first | (simp; done) | (simp; omega) | omega)).trans (by simp [go_sem, *]); have qx217 : x2.cell? ⟨w.heap.size + 1, 8, none⟩ = some (.int .u64 0) := (qk.cell (p := ⟨w.heap.size + 1, 8, none⟩) (by first | (simp; done) | (simp; omega) | omega)).trans (by simp [go_sem, *]); have qx218 : x2.cell? ⟨w.heap.size + 1 + 1, 0, none⟩ = some (.int .u64 H) := (qk.cell (p := ⟨w.heap.size + 1 + 1, 0, none⟩) (by first | (simp; done) | (simp; omega) | omega)).trans (by simp [go_sem, *]); have qx219 : x2.cell? ⟨w.heap.size + 1 + 1, 1, none⟩ = some (.int .u64 L) := (qk.cell (p := ⟨w.heap.size + 1 + 1, 1, none⟩) (by first | (simp; done) | (simp; omega) | omega)).trans (by simp [go_sem, *]); have zx20 : x2.frozen? ⟨w.heap.size, 4, none⟩ = false := (qk.2 _).trans (by simp [go_sem, *]); have zx21 : x2.frozen? ⟨w.heap.size, 5, none⟩ = false := (qk.2 _).trans (by simp [go_sem, *]); have zx22 : x2.frozen? ⟨w.heap.size, 6, none⟩ = false := (qk.2 _).trans (by simp [go_sem, *]); have zx23 : x2.frozen? ⟨w.heap.size + 1, 0, none⟩ = false := (qk.2 _).trans (by simp [go_sem, *]); have zx24 : x2.frozen? ⟨w.heap.size + 1, 1, none⟩ = false := (qk.2 _).trans (by simp [go_sem, *]); have zx25 : x2.frozen? ⟨w.heap.size + 1, 2, none⟩ = false := (qk.2 _).trans (by simp [go_sem, *]); have zx26 : x2.frozen? ⟨w.heap.size + 1, 3, none⟩ = false := (qk.2 _).trans (by simp [go_sem, *]); have zx27 : x2.frozen? ⟨w.heap.size + 1, 4, none⟩ = false := (qk.2 _).trans (by simp [go_sem, *]); have zx28 : x2.frozen? ⟨w.heap.size + 1, 5, none⟩ = false := (qk.2 _).trans (by simp [go_sem, *]); have zx29 : x2.frozen? ⟨w.heap.size + 1, 6, none⟩ = false := (qk.2 _).trans (by simp [go_sem, *]); have zx210 : x2.frozen? ⟨w.heap.size + 1, 7, none⟩ = false := (qk.2 _).trans (by simp [go_sem, *]); have zx211 : x2.frozen? ⟨w.heap.size + 1, 8, none⟩ = false := (qk.2 _).trans (by simp [go_sem, *]); have sz2 := qk.size; (try simp at sz2); have K2 := Lib.hid (Kp.trans (K1.out) qk); clear qk))
        refine bodyPost_ret ?_ rfl ⟨rfl, ?_⟩
        · simp (maxDischargeDepth := 8) [results, Try.results58, go_sem, *]
        · repeat' (first | with_reducible refine Kp.setCell ?_ ?_ _ | with_reducible refine Kp.allocs ?_ _ _)
          all_goals first | exact K2.out | (dsimp only; omega)
end Go.Proofs.Ytddgmbfngbobgaa
