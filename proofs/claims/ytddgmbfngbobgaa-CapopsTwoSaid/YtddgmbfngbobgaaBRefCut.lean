/-
  Contracts of the document's answer for layer 3: one, bit, cut: bits of a number of 65 bits, and what is cut off. Numbers are within their types.
-/
import Derived.Test.YtddgmbfngbobgaaBCut
namespace Go.Proofs.Ytddgmbfngbobgaa
open Go.ChangeShapes Go.WideShapes Go.ChangeAt Go.RowKit
set_option linter.unusedVariables false
set_option linter.unusedSimpArgs false

theorem mod_two (x m : Int) (hm : 0 < m) : x % (m * 2) = x % m + m * (x / m % 2) := by
  have h1 := Int.emod_add_mul_ediv x m
  have h2 := Int.emod_add_mul_ediv (x / m) 2
  have h3 := Int.emod_nonneg x (Int.ne_of_gt hm)
  have h4 := Int.emod_lt_of_pos x hm
  obtain ⟨r, hr⟩ : ∃ r, r = x / m % 2 := ⟨_, rfl⟩
  obtain ⟨q, hq⟩ : ∃ q, q = x / m / 2 := ⟨_, rfl⟩
  rw [← hr, ← hq] at h2
  have hr2 : r = 0 ∨ r = 1 := by omega
  have e : x = (x % m + m * r) + m * 2 * q := by
    have : m * (r + 2 * q) = m * r + m * 2 * q := by rw [Int.mul_add, Int.mul_assoc]
    rw [h2] at this
    omega
  have e2 : x % (m * 2) = ((x % m + m * r) + m * 2 * q) % (m * 2) := by rw [← e]
  rw [e2, Int.add_mul_emod_self_left, ← hr]
  apply Int.emod_eq_of_lt
  · rcases hr2 with h | h <;> rw [h] <;> omega
  · rcases hr2 with h | h <;> rw [h] <;> omega
theorem mod_step (N : Int) (i : Nat) : N % 2 ^ (i + 1) = N % 2 ^ i + 2 ^ i * (N / 2 ^ i % 2) := by
  rw [show (2 : Int) ^ (i + 1) = 2 ^ i * 2 from Int.pow_succ 2 i]; exact mod_two N _ (pow_pos' i)
theorem bit_cases (N : Int) (i : Nat) : N / 2 ^ i % 2 = 0 ∨ N / 2 ^ i % 2 = 1 := by omega
theorem lost_one (N : Int) (i : Nat) (h : N / 2 ^ i % 2 = 1) : lostB N (i + 1) = true := by
  have hs := mod_step N i
  have hp := pow_pos' i
  have h2 := Int.emod_nonneg N (Int.ne_of_gt hp)
  simp only [lostB, decide_eq_true_eq]
  rw [hs, h]; omega
theorem lost_zero (N : Int) (i : Nat) (h : N / 2 ^ i % 2 = 0) : lostB N (i + 1) = lostB N i := by
  have hs := mod_step N i
  simp only [lostB]
  rw [hs, h]; simp
theorem lost_more (N : Int) (i : Nat) (h : lostB N i = true) : lostB N (i + 1) = true := by
  rcases bit_cases N i with b | b
  · rw [lost_zero N i b]; exact h
  · exact lost_one N i b
theorem div_pow (N : Int) (a b : Nat) : N / 2 ^ a / 2 ^ b = N / 2 ^ (a + b) := by
  rw [two_pow_add, Int.ediv_ediv_of_nonneg (Int.le_of_lt (pow_pos' a))]
theorem cut_step (N : Int) (n i : Nat) : N / 2 ^ n % 2 ^ (i + 1) = N / 2 ^ n % 2 ^ i + 2 ^ i * (N / 2 ^ (n + i) % 2) := by
  rw [mod_step (N / 2 ^ n) i, div_pow]

theorem div_bd3 (x : Int) (n : Nat) (h0 : 0 ≤ x) : 0 ≤ x / 2 ^ n ∧ x / 2 ^ n ≤ x := ⟨Int.ediv_nonneg h0 (Int.le_of_lt (pow_pos' n)), Int.ediv_le_self _ h0⟩
theorem refone_w (o : Bool) (w : World) :
    Calls Try.prog 80 #[.bool o] w fun e w' => e = .returned (.int .i64 (b01 o)) ∧ w = w' := by
  cases o
  all_goals
    go_enter Try.func80, Try.ntmps80
    go_wp2
    go_ret
    exact ⟨rfl, rfl⟩
theorem bit_m (h l : Int) (i : Nat) (h0 : 0 ≤ h) (h1 : h < 2) (l0 : 0 ≤ l) (l1 : l < 18446744073709551616) :
    (i < 64 → wN h l / 2 ^ i % 2 = l / 2 ^ i % 2) ∧ (i = 64 → wN h l / 2 ^ i % 2 = h) ∧ (64 < i → wN h l / 2 ^ i % 2 = 0) := by
  refine ⟨fun hi => ?_, fun hi => ?_, fun hi => ?_⟩
  · have hp := pow_pos' i
    have e : (18446744073709551616 : Int) = 2 ^ i * (2 * 2 ^ (63 - i)) := by
      have h2 := pow_split i (by omega)
      have h3 : (2 : Int) ^ (64 - i) = 2 * 2 ^ (63 - i) := by
        rw [show 64 - i = (63 - i) + 1 by omega, Int.pow_succ, Int.mul_comm]
      rw [h3] at h2; exact h2.symm
    have e2 : wN h l = l + 2 ^ i * (h * (2 * 2 ^ (63 - i))) := by
      unfold wN
      rw [e, ← Int.mul_assoc, Int.mul_comm h, Int.mul_assoc, Int.add_comm]
    rw [e2, Int.add_mul_ediv_left _ _ (Int.ne_of_gt hp), show h * (2 * 2 ^ (63 - i)) = 2 * (h * 2 ^ (63 - i)) by rw [← Int.mul_assoc, Int.mul_comm h, Int.mul_assoc]]
    omega
  · subst hi
    rw [pow64]; unfold wN; omega
  · have hb := wN_bd h l h0 h1 l0 l1
    have hp : (2 : Int) ^ 65 ≤ 2 ^ i := by
      have h2 : 2 ^ 65 ≤ 2 ^ i := Nat.pow_le_pow_right (by omega) hi
      have h3 : (((2 ^ 65 : Nat)) : Int) ≤ ((2 ^ i : Nat) : Int) := Int.ofNat_le.mpr h2
      simpa using h3
    rw [Int.ediv_eq_zero_of_lt hb.1 (by omega)]; rfl
theorem bit_w (h l i v : Int) (h0 : 0 ≤ h) (h1 : h < 2) (l0 : 0 ≤ l) (l1 : l < 18446744073709551616) (i0 : 0 ≤ i) (i1 : i ≤ 100) (hv : wN h l / 2 ^ i.toNat % 2 = v) (w : World) :
    Calls Try.prog 106 #[.agg #[.int .u64 h, .int .u64 l], .int .i64 i] w fun e w' => e = .returned (.int .u64 v) ∧ Kp w w' := by
  obtain ⟨m1, m2, m3⟩ := bit_m h l i.toNat h0 h1 l0 l1
  by_cases c : i = 64
  · have H := Lib.hid (m2 (by omega))
    have HV := Lib.hid hv
    have t1 : (i == 64) = true := by simpa using c
    clear m1 m2 m3 hv c
    go_enter Try.func106, Try.ntmps106
    go_wp2
    go_ret
    exact ⟨ret_int (by rw [← HV.out, H.out]), (Kp.refl w).allocs _ _⟩
  · by_cases c2 : 64 < i
    · have H := Lib.hid (m3 (by omega))
      have HV := Lib.hid hv
      have t1 : (i == 64) = false := by simpa using c
      have t2 : decide (64 < i) = true := by simpa using c2
      clear m1 m2 m3 hv c
      go_enter Try.func106, Try.ntmps106
      go_wp2
      go_ret
      exact ⟨ret_int (by rw [← HV.out, H.out]), (Kp.refl w).allocs _ _⟩
    · have H := Lib.hid (m1 (by omega))
      have HV := Lib.hid hv
      have t1 : (i == 64) = false := by simpa using c
      have t2 : decide (64 < i) = false := by simpa using c2
      have i2 : i ≤ 63 := by omega
      have d := div_bd3 l i.toNat l0
      obtain ⟨d0, d1⟩ := d
      clear m1 m2 m3 hv c
      go_enter Try.func106, Try.ntmps106
      go_wp2
      go_ret
      exact ⟨ret_int (by rw [← HV.out, H.out]), (Kp.refl w).allocs _ _⟩
/-- A row of two cells, and that of an elder world nothing has turned. -/
def Wd (W : World) (B : Nat) (h l : Int) (w : World) : Prop := Kp W w ∧ B < w.heap.size ∧ w.cell? ⟨B, 0, none⟩ = some (.int .u64 h) ∧ w.cell? ⟨B, 1, none⟩ = some (.int .u64 l)
theorem Wd.step {W : World} {B : Nat} {h l : Int} {w w' : World} (k : Wd W B h l w) (q : Kp w w') : Wd W B h l w' :=
  ⟨k.1.trans q, Nat.lt_of_lt_of_le k.2.1 q.size, (q.cell (p := ⟨B, 0, none⟩) k.2.1).trans k.2.2.1, (q.cell (p := ⟨B, 1, none⟩) k.2.1).trans k.2.2.2⟩
theorem bit_at {N h l i v : Int} {j : Nat} (hN : N = wN h l) (hb : N / 2 ^ j % 2 = v) (hi : i.toNat = j) : wN h l / 2 ^ i.toNat % 2 = v := by
  rw [← hN, hi]; exact hb
theorem ret_cut {a b : Int} {c d : Bool} (h : a = b) (h2 : c = d) : Ending.returned (.tuple #[.int .i64 a, .bool c]) = .returned (.tuple #[.int .i64 b, .bool d]) := by rw [h, h2]
set_option maxHeartbeats 4000000 in
set_option maxRecDepth 100000 in
theorem refcut_w (h l : Int) (k : Nat) (h0 : 0 ≤ h) (h1 : h < 2) (l0 : 0 ≤ l) (l1 : l < 18446744073709551616) (hk : k ≤ 60) (n : Int) (hn : n = (k : Int)) (w : World) :
    Calls Try.prog 84 #[.agg #[.int .u64 h, .int .u64 l], .int .i64 n] w fun e w' => e = .returned (.tuple #[.int .i64 (wN h l / 2 ^ k % 2048), .bool (lostB (wN h l) k)]) ∧ Kp w w' := by
  obtain ⟨N, hN⟩ : ∃ N, N = wN h l := ⟨_, rfl⟩
  rw [← hN]
  have HN := Lib.hid hN
  have kk : (k : Int) ≤ 60 := by omega
  clear hN
  subst hn
  go_enter Try.func84, Try.ntmps84
  go_wp2
  go_loopw [6, 7] (fun s i wr => ∃ j : Nat, j ≤ k ∧ i = .int .i64 j ∧ s = .bool (lostB N j) ∧ Wd w w.heap.size h l wr) (fun _ i _ => k - (intOf i).toNat)
  case atStart => exact ⟨0, Nat.zero_le _, rfl, by simp [lostB], ⟨(Kp.refl w).allocs _ _, by simp, by simp [go_sem], by simp [go_sem]⟩⟩
  case round =>
    obtain ⟨j, hj, rfl, rfl, hw⟩ := hrel
    have HW := Lib.hid hw
    obtain ⟨_, _, c0, c1⟩ := hw
    have j0 : (0 : Int) ≤ (j : Int) := by omega
    by_cases hlt : j < k
    · have hlt' : (j : Int) < (k : Int) := by omega
      have jb : (j : Int) ≤ 60 := by omega
      cases hl : lostB N j
      · rcases bit_cases N j with hb | hb
        · have HB := Lib.hid (bit_at (i := (j : Int)) HN.out hb (Int.toNat_natCast j))
          have HL := Lib.hid (lost_zero N j hb)
          clear hb
          go_wp2_with (go_at_call 106; (with_reducible refine (bit_w h l j 0 h0 h1 l0 l1 j0 (by omega) HB.out _).mono ?_); rintro e' w1 ⟨rfl, qk⟩; have HW1 := Lib.hid (HW.out.step qk); clear qk)
          go_roundw
          case rel => exact ⟨j + 1, by omega, by go_num, by rw [HL.out, hl], HW1.out⟩
          case measure => simp [intOf]; omega
        · have HB := Lib.hid (bit_at (i := (j : Int)) HN.out hb (Int.toNat_natCast j))
          have HL := Lib.hid (lost_one N j hb)
          clear hb
          go_wp2_with (go_at_call 106; (with_reducible refine (bit_w h l j 1 h0 h1 l0 l1 j0 (by omega) HB.out _).mono ?_); rintro e' w1 ⟨rfl, qk⟩; have HW1 := Lib.hid (HW.out.step qk); clear qk)
          go_roundw
          case rel => exact ⟨j + 1, by omega, by go_num, by rw [HL.out], HW1.out⟩
          case measure => simp [intOf]; omega
      · have HL := Lib.hid (lost_more N j hl)
        go_wp2_with fail
        go_roundw
        case rel => exact ⟨j + 1, by omega, by go_num, by rw [HL.out], HW.out⟩
        case measure => simp [intOf]; omega
    · have hkj : j = k := by omega
      subst hkj
      clear hlt
      go_wp2
      go_loopw [8, 9] (fun s i wr => ∃ m : Nat, m ≤ 11 ∧ i = .int .i64 m ∧ s = .int .i64 (N / 2 ^ j % 2 ^ m) ∧ Wd w w.heap.size h l wr) (fun _ i _ => 11 - (intOf i).toNat)
      case atStart => exact ⟨0, Nat.zero_le _, rfl, by simp [Int.emod_one], HW.out⟩
      case round =>
        obtain ⟨m, hm, rfl, rfl, hw2⟩ := hrel
        have HW2 := Lib.hid hw2
        obtain ⟨_, _, d0, d1⟩ := hw2
        have m0 : (0 : Int) ≤ (m : Int) := by omega
        by_cases hlt2 : m < 11
        · have hlt2' : (m : Int) < 11 := by omega
          have p0 := pow_pos' m
          have p1 : (2 : Int) ^ m ≤ 1024 := by
            have h2 : 2 ^ m ≤ 2 ^ 10 := Nat.pow_le_pow_right (by omega) (by omega)
            have h3 : (((2 ^ m : Nat)) : Int) ≤ ((2 ^ 10 : Nat) : Int) := Int.ofNat_le.mpr h2
            simpa using h3
          have r0 := Int.emod_nonneg (N / 2 ^ j) (Int.ne_of_gt p0)
          have r1 := Int.emod_lt_of_pos (N / 2 ^ j) p0
          have jm : ((j : Int) + (m : Int)).toNat = j + m := by omega
          have HS := Lib.hid (cut_step N j m)
          rcases bit_cases N (j + m) with hb | hb
          · have HB := Lib.hid (bit_at (i := (j : Int) + (m : Int)) HN.out hb jm)
            have HB' := Lib.hid hb
            clear hb
            go_wp2_with (go_at_call 106; (with_reducible refine (bit_w h l ((j : Int) + (m : Int)) 0 h0 h1 l0 l1 (by omega) (by omega) HB.out _).mono ?_); rintro e' w1 ⟨rfl, qk⟩; have HW1 := Lib.hid (HW2.out.step qk); clear qk)
            go_roundw
            case rel => exact ⟨m + 1, by omega, by go_num, by rw [HS.out, HB'.out]; simp, HW1.out⟩
            case measure => simp [intOf]; omega
          · have HB := Lib.hid (bit_at (i := (j : Int) + (m : Int)) HN.out hb jm)
            have HB' := Lib.hid hb
            clear hb
            go_wp2_with (go_at_call 106; (with_reducible refine (bit_w h l ((j : Int) + (m : Int)) 1 h0 h1 l0 l1 (by omega) (by omega) HB.out _).mono ?_); rintro e' w1 ⟨rfl, qk⟩; have HW1 := Lib.hid (HW2.out.step qk); clear qk)
            go_roundw
            case rel => exact ⟨m + 1, by omega, by go_num, by rw [HS.out, HB'.out]; simp, HW1.out⟩
            case measure => simp [intOf]; omega
        · have hm11 : m = 11 := by omega
          subst hm11
          go_wp2
          go_ret2
          exact ⟨rfl, HW2.out.1⟩
end Go.Proofs.Ytddgmbfngbobgaa
