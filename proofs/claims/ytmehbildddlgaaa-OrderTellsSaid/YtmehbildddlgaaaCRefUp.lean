/-
  Contracts of the document's answer for layer 3: part, up, add (numbers of 65 bits as an upper bit and 64). Numbers are within their types.
-/
import Derived.Test.YtmehbildddlgaaaBRefIn
import Derived.Test.YtmehbildddlgaaaCAt
import Derived.Test.YtmehbildddlgaaaCBase
namespace Go.Proofs.Ytmehbildddlgaaa
open Go.ChangeShapes Go.WideShapes Go.ChangeAt Go.RowKit
set_option linter.unusedVariables false
set_option linter.unusedSimpArgs false

theorem rpart_w (a s : Int) (a0 : 0 ≤ a) (a1 : a < 18446744073709551616) (s0 : -1 ≤ s) (s1 : s ≤ 1) (w : World) :
    Calls Try.prog 72 #[.int .u64 a, .int .i64 s] w fun e w' => e = .returned (.tuple #[.int .u64 (IntKind.u64.wrap (a + s)), .bool (decide (a + s < 0))]) ∧ w = w' := by
  have hs : s = -1 ∨ s = 0 ∨ s = 1 := by omega
  rcases hs with rfl | rfl | rfl
  all_goals
    go_enter Try.func72, Try.ntmps72
    go_wp2
    go_ret2
    refine ⟨ret_two ?_ ?_, rfl⟩
    · first | rfl | (simp only [IntKind.wrap_u64, IntKind.wrap_i64, wrap64] <;> omega) | omega
    · first | (rw [Bool.eq_iff_iff]; simp <;> omega) | rfl
set_option maxHeartbeats 4000000 in
theorem radd_w (h l i m : Int) (h0 : 0 ≤ h) (h1 : h < 2) (l0 : 0 ≤ l) (l1 : l < 18446744073709551616) (i0 : 0 ≤ i) (i1 : i < 2) (m0 : 0 ≤ m) (m1 : m < 18446744073709551616) (w : World) :
    Calls Try.prog 73 #[.agg #[.int .u64 h, .int .u64 l], .agg #[.int .u64 i, .int .u64 m]] w fun e' w' => e' = .returned (.agg #[.int .u64 (wH (wN h l + wN i m)), .int .u64 (wL (wN h l + wN i m))]) ∧ Kp w w' := by
  obtain ⟨s, hs⟩ : ∃ s, IntKind.u64.wrap (l + m) = s := ⟨_, rfl⟩
  have hs' : (l + m) % 18446744073709551616 = s := by rw [← hs, IntKind.wrap_u64]
  have w1 : IntKind.u64.wrap (h + i) = h + i := by rw [IntKind.wrap_u64]; omega
  have w2 : IntKind.u64.wrap (h + i + 1) = h + i + 1 := by rw [IntKind.wrap_u64]; omega
  have t1 : (h + i).tmod 2 = (h + i) % 2 := Int.tmod_eq_emod_of_nonneg (by omega)
  have t2 : (h + i + 1).tmod 2 = (h + i + 1) % 2 := Int.tmod_eq_emod_of_nonneg (by omega)
  have HS := Lib.hid hs'
  clear hs'
  cases hc : decide (s < l)
  all_goals
    have HC := Lib.hid hc
    go_enter Try.func73, Try.ntmps73
    go_wp2
  · refine bodyPost_ret (v := .agg #[.int .u64 ((h + i) % 2), .int .u64 s]) (by simp [results, Try.results73, go_sem]) rfl ⟨ret_wide ?_ ?_, ((Kp.refl w).allocs _ _).allocs _ _ |>.allocs _ _⟩
    · have := HS.out; unfold wH wN; simp at hc; omega
    · have := HS.out; unfold wL wN; omega
  · refine bodyPost_ret (v := .agg #[.int .u64 ((h + i + 1) % 2), .int .u64 s]) (by simp [results, Try.results73, go_sem]) rfl ⟨ret_wide ?_ ?_, ((Kp.refl w).allocs _ _).allocs _ _ |>.allocs _ _⟩
    · have := HC.out; have := HS.out; unfold wH wN; simp at hc; omega
    · have := HS.out; unfold wL wN; omega
/-- A number of 65 bits, doubled i times. -/
def dbl (N : Int) (i : Nat) : Int := N * 2 ^ i
theorem dbl_next (N : Int) (i : Nat) : dbl N (i + 1) = dbl N i * 2 := by unfold dbl; rw [two_pow_add, ← Int.mul_assoc]; rfl
theorem dbl_H (N : Int) : wL N / 9223372036854775808 = wH (N * 2) := by unfold wL wH; omega
theorem dbl_L (N : Int) : (wL N * 2) % 18446744073709551616 = wL (N * 2) := by unfold wL; omega
set_option maxHeartbeats 4000000 in
set_option maxRecDepth 100000 in
theorem rup_w (v : Int) (o : Bool) (n : Int) (v0 : 0 ≤ v) (v1 : v < 18446744073709551616) (n0 : 0 ≤ n) (n1 : n ≤ 66) (w : World) :
    Calls Try.prog 74 #[.int .u64 v, .bool o, .int .i64 n] w fun e' w' => e' = .returned (.agg #[.int .u64 (wH (wN (b01 o) v * 2 ^ n.toNat)), .int .u64 (wL (wN (b01 o) v * 2 ^ n.toNat))]) ∧ Kp w w' := by
  have e0 : wH (dbl (wN (b01 o) v) 0) = b01 o ∧ wL (dbl (wN (b01 o) v) 0) = v := by
    have := b01_lo o; have := b01_hi o
    unfold dbl wH wL wN
    rw [show (2 : Int) ^ 0 = 1 from rfl]
    omega
  obtain ⟨N, hN⟩ : ∃ N, wN (b01 o) v = N := ⟨_, rfl⟩
  rw [hN] at e0 ⊢
  have HN := Lib.hid hN
  clear hN
  obtain ⟨m, rfl⟩ := Int.eq_ofNat_of_zero_le n0
  have hH : ∀ k : Nat, wL (dbl N k) / 9223372036854775808 = wH (dbl N (k + 1)) := fun k => by rw [dbl_next]; exact dbl_H _
  have hL : ∀ k : Nat, (wL (dbl N k) * 2) % 18446744073709551616 = wL (dbl N (k + 1)) := fun k => by rw [dbl_next]; exact dbl_L _
  have HH := Lib.hid hH
  have HL := Lib.hid hL
  clear hH hL
  cases o
  · skip
    have e1 : wH (dbl N 0) = 0 := e0.1
    have e2 := e0.2
    have E1 := Lib.hid e1
    have E2 := Lib.hid e2
    clear e0 e1 e2
    have A0 : At (w.heap.size) [.int .u64 0, .int .u64 0] ((w.alloc (.cells #[.int .u64 0, .int .u64 0] 81)).alloc (.cells #[.int .u64 0, .int .u64 v] 81)) := ((At.new' w [.int .u64 0, .int .u64 0] 81 (by simp)).alloc _)
    have R0 : Rm (w.heap.size) 2 ((w.alloc (.cells #[.int .u64 0, .int .u64 0] 81)).alloc (.cells #[.int .u64 0, .int .u64 v] 81)) := ((Rm.new' w [.int .u64 0, .int .u64 0] 81 2 (by simp) (by simp)).alloc _ _)
    have A1 : At (w.heap.size + 1) [.int .u64 0, .int .u64 v] ((w.alloc (.cells #[.int .u64 0, .int .u64 0] 81)).alloc (.cells #[.int .u64 0, .int .u64 v] 81)) := (At.new' (w.alloc (.cells #[.int .u64 0, .int .u64 0] 81)) [.int .u64 0, .int .u64 v] 81 (by simp))
    have R1 : Rm (w.heap.size + 1) 2 ((w.alloc (.cells #[.int .u64 0, .int .u64 0] 81)).alloc (.cells #[.int .u64 0, .int .u64 v] 81)) := (Rm.new' (w.alloc (.cells #[.int .u64 0, .int .u64 0] 81)) [.int .u64 0, .int .u64 v] 81 2 (by simp) (by simp))
    have kb : Bh w (w.heap.size + 2) ((w.alloc (.cells #[.int .u64 0, .int .u64 0] 81)).alloc (.cells #[.int .u64 0, .int .u64 v] 81)) := ⟨(((Kp.refl w).allocs _ _).allocs _ _), by simp, by simp⟩
    go_enter Try.func74, Try.ntmps74
    go_wp2
    go_loopw [8] (fun i wr => ∃ k : Nat, k ≤ m ∧ i = .int .i64 k ∧ At (w.heap.size + 1) [.int .u64 (wH (dbl N k)), .int .u64 (wL (dbl N k))] wr ∧ Rm (w.heap.size + 1) 2 wr ∧ Rm (w.heap.size) 2 wr ∧ Bh w (w.heap.size + 2) wr) (fun i _ => m - (intOf i).toNat)
    case atStart => exact ⟨0, by omega, rfl, by rw [E1.out, E2.out]; exact A1, R1, R0, kb⟩
    case round =>
      clear A0 A1 R0 R1 kb
      obtain ⟨k, hk, rfl, h1, r1, r0, kr⟩ := hrel
      by_cases hlt : k < m
      · have i0 : (0 : Int) ≤ (k : Int) := by omega
        have i1 : (k : Int) < (m : Int) := by omega
        have q1 := HH.out k
        have q2 := HL.out k
        have hb := wL_lo (dbl N k)
        have hb1 := wL_hi (dbl N k)
        obtain ⟨H', hH'⟩ : ∃ x, wH (dbl N (k + 1)) = x := ⟨_, rfl⟩
        obtain ⟨L', hL'⟩ : ∃ x, wL (dbl N (k + 1)) = x := ⟨_, rfl⟩
        rw [hH'] at q1
        rw [hL'] at q2
        have HA := Lib.hid hH'
        have HB := Lib.hid hL'
        clear hH' hL'
        generalize wL (dbl N k) = l at h1 q1 q2 hb hb1
        generalize wH (dbl N k) = hh at h1
        have q3 : IntKind.u64.wrap (l * 2) = L' := by rw [IntKind.wrap_u64]; exact q2
        have q4 : IntKind.u64.wrap (l * 2 ^ 1) = L' := q3
        have q5 : l / 2 ^ 63 = H' := q1
        have c0 := h1 0 _ rfl
        have c1 := h1 1 _ rfl
        have z0 := (r1 0 (by omega)).2
        have z1 := (r1 1 (by omega)).2
        go_wp2
        go_roundw
        case rel => exact ⟨k + 1, by omega, by go_num, by rw [HA.out, HB.out]; exact At.put (At.put h1 0 (by simp) (.int .u64 H')) 1 (by simp) (.int .u64 L'), Rm.set (Rm.set r1 _) _, Rm.set (Rm.set r0 _) _, Bh.set2 (Bh.set2 kr (by dsimp only; omega)) (by dsimp only; omega)⟩
        case measure => simp [intOf]; omega
      · obtain rfl : k = m := by omega
        have c0 := h1 0 _ rfl
        have c1 := h1 1 _ rfl
        obtain ⟨⟨x0, d0⟩, z0⟩ := r0 0 (by omega)
        obtain ⟨⟨x1, d1⟩, z1⟩ := r0 1 (by omega)
        go_wp2
        refine bodyPost_ret (v := .agg #[.int .u64 (wH (dbl N k)), .int .u64 (wL (dbl N k))]) ?_ rfl ⟨rfl, ?_⟩
        · simp [results, Try.results74, go_sem, *]
        · repeat' (first | with_reducible refine Kp.setCell ?_ ?_ _ | with_reducible refine Kp.allocs ?_ _ _)
          all_goals first | exact kr.kp | (dsimp only; omega)
  · skip
    have e1 : wH (dbl N 0) = 1 := e0.1
    have e2 := e0.2
    have E1 := Lib.hid e1
    have E2 := Lib.hid e2
    clear e0 e1 e2
    have A0 : At (w.heap.size) [.int .u64 0, .int .u64 0] ((w.alloc (.cells #[.int .u64 0, .int .u64 0] 81)).alloc (.cells #[.int .u64 1, .int .u64 v] 81)) := ((At.new' w [.int .u64 0, .int .u64 0] 81 (by simp)).alloc _)
    have R0 : Rm (w.heap.size) 2 ((w.alloc (.cells #[.int .u64 0, .int .u64 0] 81)).alloc (.cells #[.int .u64 1, .int .u64 v] 81)) := ((Rm.new' w [.int .u64 0, .int .u64 0] 81 2 (by simp) (by simp)).alloc _ _)
    have A1 : At (w.heap.size + 1) [.int .u64 1, .int .u64 v] ((w.alloc (.cells #[.int .u64 0, .int .u64 0] 81)).alloc (.cells #[.int .u64 1, .int .u64 v] 81)) := (At.new' (w.alloc (.cells #[.int .u64 0, .int .u64 0] 81)) [.int .u64 1, .int .u64 v] 81 (by simp))
    have R1 : Rm (w.heap.size + 1) 2 ((w.alloc (.cells #[.int .u64 0, .int .u64 0] 81)).alloc (.cells #[.int .u64 1, .int .u64 v] 81)) := (Rm.new' (w.alloc (.cells #[.int .u64 0, .int .u64 0] 81)) [.int .u64 1, .int .u64 v] 81 2 (by simp) (by simp))
    have kb : Bh w (w.heap.size + 2) ((w.alloc (.cells #[.int .u64 0, .int .u64 0] 81)).alloc (.cells #[.int .u64 1, .int .u64 v] 81)) := ⟨(((Kp.refl w).allocs _ _).allocs _ _), by simp, by simp⟩
    go_enter Try.func74, Try.ntmps74
    go_wp2
    go_loopw [8] (fun i wr => ∃ k : Nat, k ≤ m ∧ i = .int .i64 k ∧ At (w.heap.size + 1) [.int .u64 (wH (dbl N k)), .int .u64 (wL (dbl N k))] wr ∧ Rm (w.heap.size + 1) 2 wr ∧ Rm (w.heap.size) 2 wr ∧ Bh w (w.heap.size + 2) wr) (fun i _ => m - (intOf i).toNat)
    case atStart => exact ⟨0, by omega, rfl, by rw [E1.out, E2.out]; exact A1, R1, R0, kb⟩
    case round =>
      clear A0 A1 R0 R1 kb
      obtain ⟨k, hk, rfl, h1, r1, r0, kr⟩ := hrel
      by_cases hlt : k < m
      · have i0 : (0 : Int) ≤ (k : Int) := by omega
        have i1 : (k : Int) < (m : Int) := by omega
        have q1 := HH.out k
        have q2 := HL.out k
        have hb := wL_lo (dbl N k)
        have hb1 := wL_hi (dbl N k)
        obtain ⟨H', hH'⟩ : ∃ x, wH (dbl N (k + 1)) = x := ⟨_, rfl⟩
        obtain ⟨L', hL'⟩ : ∃ x, wL (dbl N (k + 1)) = x := ⟨_, rfl⟩
        rw [hH'] at q1
        rw [hL'] at q2
        have HA := Lib.hid hH'
        have HB := Lib.hid hL'
        clear hH' hL'
        generalize wL (dbl N k) = l at h1 q1 q2 hb hb1
        generalize wH (dbl N k) = hh at h1
        have q3 : IntKind.u64.wrap (l * 2) = L' := by rw [IntKind.wrap_u64]; exact q2
        have q4 : IntKind.u64.wrap (l * 2 ^ 1) = L' := q3
        have q5 : l / 2 ^ 63 = H' := q1
        have c0 := h1 0 _ rfl
        have c1 := h1 1 _ rfl
        have z0 := (r1 0 (by omega)).2
        have z1 := (r1 1 (by omega)).2
        go_wp2
        go_roundw
        case rel => exact ⟨k + 1, by omega, by go_num, by rw [HA.out, HB.out]; exact At.put (At.put h1 0 (by simp) (.int .u64 H')) 1 (by simp) (.int .u64 L'), Rm.set (Rm.set r1 _) _, Rm.set (Rm.set r0 _) _, Bh.set2 (Bh.set2 kr (by dsimp only; omega)) (by dsimp only; omega)⟩
        case measure => simp [intOf]; omega
      · obtain rfl : k = m := by omega
        have c0 := h1 0 _ rfl
        have c1 := h1 1 _ rfl
        obtain ⟨⟨x0, d0⟩, z0⟩ := r0 0 (by omega)
        obtain ⟨⟨x1, d1⟩, z1⟩ := r0 1 (by omega)
        go_wp2
        refine bodyPost_ret (v := .agg #[.int .u64 (wH (dbl N k)), .int .u64 (wL (dbl N k))]) ?_ rfl ⟨rfl, ?_⟩
        · simp [results, Try.results74, go_sem, *]
        · repeat' (first | with_reducible refine Kp.setCell ?_ ?_ _ | with_reducible refine Kp.allocs ?_ _ _)
          all_goals first | exact kr.kp | (dsimp only; omega)
end Go.Proofs.Ytmehbildddlgaaa
