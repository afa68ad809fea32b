/-
  Contracts of the document's readers for layer 7: atomics. No condition.
-/
import Derived.Test.YtlfeandnpflaaaaGreatDoorIRAlu
import Derived.Test.YtlfeandnpflaaaaGreatDoorMC
import Derived.LoopN
namespace Go.Proofs.YtlfeandnpflaaaaGreatDoor
open Go.ChangeShapes Go.WideShapes Go.ChangeAt Go.RowKit
set_option linter.unusedVariables false
set_option linter.unusedSimpArgs false

set_option maxHeartbeats 4000000 in
theorem in_w (n : Int) (v : Bool) (hv : amoB n = v) (B : Nat) (w : World) (h : At B [.int .i64 0, .int .i64 1, .int .i64 4, .int .i64 8, .int .i64 12, .int .i64 16, .int .i64 20, .int .i64 24, .int .i64 28] w) :
    Calls Tryz.prog 94 #[.int .i64 n, .slice (some ⟨B, 0, none⟩) 9 9] w fun e w' => e = .returned (.bool v) ∧ Kp w w' := by
  subst hv
  have c0 := h 0 _ rfl; have c1 := h 1 _ rfl; have c2 := h 2 _ rfl; have c3 := h 3 _ rfl; have c4 := h 4 _ rfl; have c5 := h 5 _ rfl; have c6 := h 6 _ rfl; have c7 := h 7 _ rfl; have c8 := h 8 _ rfl
  rcases (show n = 0 ∨ n = 1 ∨ n = 4 ∨ n = 8 ∨ n = 12 ∨ n = 16 ∨ n = 20 ∨ n = 24 ∨ n = 28 ∨ (¬ n = 0 ∧ ¬ n = 1 ∧ ¬ n = 4 ∧ ¬ n = 8 ∧ ¬ n = 12 ∧ ¬ n = 16 ∧ ¬ n = 20 ∧ ¬ n = 24 ∧ ¬ n = 28) by omega) with g | g | g | g | g | g | g | g | g | g
  · have t0 : ((0 : Int) == n) = true := by simp; omega
    have G := Lib.hid g
    clear g
    go_enter Tryz.func94, Tryz.ntmps94
    go_wp2
    refine wp_loop_rounds 10 ?_
    iterate 1 (rw [rounds_succ]; go_wp2)
    go_ret
    exact ⟨ret_bool (by rw [G.out]; rfl), Kp.refl _⟩
  · have t0 : ((0 : Int) == n) = false := by simp; omega
    have t1 : ((1 : Int) == n) = true := by simp; omega
    have G := Lib.hid g
    clear g
    go_enter Tryz.func94, Tryz.ntmps94
    go_wp2
    refine wp_loop_rounds 10 ?_
    iterate 2 (rw [rounds_succ]; go_wp2)
    go_ret
    exact ⟨ret_bool (by rw [G.out]; rfl), Kp.refl _⟩
  · have t0 : ((0 : Int) == n) = false := by simp; omega
    have t1 : ((1 : Int) == n) = false := by simp; omega
    have t2 : ((4 : Int) == n) = true := by simp; omega
    have G := Lib.hid g
    clear g
    go_enter Tryz.func94, Tryz.ntmps94
    go_wp2
    refine wp_loop_rounds 10 ?_
    iterate 3 (rw [rounds_succ]; go_wp2)
    go_ret
    exact ⟨ret_bool (by rw [G.out]; rfl), Kp.refl _⟩
  · have t0 : ((0 : Int) == n) = false := by simp; omega
    have t1 : ((1 : Int) == n) = false := by simp; omega
    have t2 : ((4 : Int) == n) = false := by simp; omega
    have t3 : ((8 : Int) == n) = true := by simp; omega
    have G := Lib.hid g
    clear g
    go_enter Tryz.func94, Tryz.ntmps94
    go_wp2
    refine wp_loop_rounds 10 ?_
    iterate 4 (rw [rounds_succ]; go_wp2)
    go_ret
    exact ⟨ret_bool (by rw [G.out]; rfl), Kp.refl _⟩
  · have t0 : ((0 : Int) == n) = false := by simp; omega
    have t1 : ((1 : Int) == n) = false := by simp; omega
    have t2 : ((4 : Int) == n) = false := by simp; omega
    have t3 : ((8 : Int) == n) = false := by simp; omega
    have t4 : ((12 : Int) == n) = true := by simp; omega
    have G := Lib.hid g
    clear g
    go_enter Tryz.func94, Tryz.ntmps94
    go_wp2
    refine wp_loop_rounds 10 ?_
    iterate 5 (rw [rounds_succ]; go_wp2)
    go_ret
    exact ⟨ret_bool (by rw [G.out]; rfl), Kp.refl _⟩
  · have t0 : ((0 : Int) == n) = false := by simp; omega
    have t1 : ((1 : Int) == n) = false := by simp; omega
    have t2 : ((4 : Int) == n) = false := by simp; omega
    have t3 : ((8 : Int) == n) = false := by simp; omega
    have t4 : ((12 : Int) == n) = false := by simp; omega
    have t5 : ((16 : Int) == n) = true := by simp; omega
    have G := Lib.hid g
    clear g
    go_enter Tryz.func94, Tryz.ntmps94
    go_wp2
    refine wp_loop_rounds 10 ?_
    iterate 6 (rw [rounds_succ]; go_wp2)
    go_ret
    exact ⟨ret_bool (by rw [G.out]; rfl), Kp.refl _⟩
  · have t0 : ((0 : Int) == n) = false := by simp; omega
    have t1 : ((1 : Int) == n) = false := by simp; omega
    have t2 : ((4 : Int) == n) = false := by simp; omega
    have t3 : ((8 : Int) == n) = false := by simp; omega
    have t4 : ((12 : Int) == n) = false := by simp; omega
    have t5 : ((16 : Int) == n) = false := by simp; omega
    have t6 : ((20 : Int) == n) = true := by simp; omega
    have G := Lib.hid g
    clear g
    go_enter Tryz.func94, Tryz.ntmps94
    go_wp2
    refine wp_loop_rounds 10 ?_
    iterate 7 (rw [rounds_succ]; go_wp2)
    go_ret
    exact ⟨ret_bool (by rw [G.out]; rfl), Kp.refl _⟩
  · have t0 : ((0 : Int) == n) = false := by simp; omega
    have t1 : ((1 : Int) == n) = false := by simp; omega
    have t2 : ((4 : Int) == n) = false := by simp; omega
    have t3 : ((8 : Int) == n) = false := by simp; omega
    have t4 : ((12 : Int) == n) = false := by simp; omega
    have t5 : ((16 : Int) == n) = false := by simp; omega
    have t6 : ((20 : Int) == n) = false := by simp; omega
    have t7 : ((24 : Int) == n) = true := by simp; omega
    have G := Lib.hid g
    clear g
    go_enter Tryz.func94, Tryz.ntmps94
    go_wp2
    refine wp_loop_rounds 10 ?_
    iterate 8 (rw [rounds_succ]; go_wp2)
    go_ret
    exact ⟨ret_bool (by rw [G.out]; rfl), Kp.refl _⟩
  · have t0 : ((0 : Int) == n) = false := by simp; omega
    have t1 : ((1 : Int) == n) = false := by simp; omega
    have t2 : ((4 : Int) == n) = false := by simp; omega
    have t3 : ((8 : Int) == n) = false := by simp; omega
    have t4 : ((12 : Int) == n) = false := by simp; omega
    have t5 : ((16 : Int) == n) = false := by simp; omega
    have t6 : ((20 : Int) == n) = false := by simp; omega
    have t7 : ((24 : Int) == n) = false := by simp; omega
    have t8 : ((28 : Int) == n) = true := by simp; omega
    have G := Lib.hid g
    clear g
    go_enter Tryz.func94, Tryz.ntmps94
    go_wp2
    refine wp_loop_rounds 10 ?_
    iterate 9 (rw [rounds_succ]; go_wp2)
    go_ret
    exact ⟨ret_bool (by rw [G.out]; rfl), Kp.refl _⟩
  · have t0 : ((0 : Int) == n) = false := by simp; omega
    have t1 : ((1 : Int) == n) = false := by simp; omega
    have t2 : ((4 : Int) == n) = false := by simp; omega
    have t3 : ((8 : Int) == n) = false := by simp; omega
    have t4 : ((12 : Int) == n) = false := by simp; omega
    have t5 : ((16 : Int) == n) = false := by simp; omega
    have t6 : ((20 : Int) == n) = false := by simp; omega
    have t7 : ((24 : Int) == n) = false := by simp; omega
    have t8 : ((28 : Int) == n) = false := by simp; omega
    have G := Lib.hid g
    clear g
    go_enter Tryz.func94, Tryz.ntmps94
    go_wp2
    refine wp_loop_rounds 10 ?_
    iterate 10 (rw [rounds_succ]; go_wp2)
    go_ret
    exact ⟨ret_bool (by obtain ⟨g0, g1, g2, g3, g4, g5, g6, g7, g8⟩ := G.out; simp [amoB, g0, g1, g2, g3, g4, g5, g6, g7, g8]), Kp.refl _⟩
end Go.Proofs.YtlfeandnpflaaaaGreatDoor
