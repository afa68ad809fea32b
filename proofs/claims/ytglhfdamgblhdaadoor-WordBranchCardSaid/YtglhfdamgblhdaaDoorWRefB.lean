/-
  Contracts of the document's answer for layer 1: Branch, Size and Extend return, for any numbers within their types, what WMath's functions say; of the world at most new blocks come.
-/
import Derived.Test.YtglhfdamgblhdaaDoorWRef
namespace Go.Proofs.YtglhfdamgblhdaaDoor
open Go.ChangeShapes Go.WideShapes Go.ChangeAt Go.RowKit
set_option linter.unusedVariables false
set_option linter.unusedSimpArgs false
theorem grown_then {a b c : World} (h : Grown a b) (k : Grown b c) : Grown a c :=
  ⟨World.keptBut_trans h.1 k.1, fun x => (k.2.1 x).trans (h.2.1 x), Nat.le_trans h.2.2 k.2.2⟩
theorem not_less (s : Bool) (a b : Int) : (!lessV s a b) = (if s then decide (sg b ≤ sg a) else decide (b ≤ a)) := by
  cases s
  · simp only [lessV]; by_cases h : a < b <;> simp [h] <;> omega
  · simp only [lessV]; by_cases h : sg a < sg b <;> simp [h] <;> omega
theorem rbr_w (fn a b : Int) (h0 : 0 ≤ a) (h1 : a < 18446744073709551616) (h2 : 0 ≤ b) (h3 : b < 18446744073709551616) (w : World) :
    Calls Tryd.prog 7 #[.int .i64 fn, .int .u64 a, .int .u64 b] w fun e w' => e = .returned (.tuple #[.bool (brV fn a b), .bool (brOk fn)]) ∧ w = w' := by
  have N1 := Lib.hid (not_less true a b)
  have N2 := Lib.hid (not_less false a b)
  by_cases c : fn = 0 ∨ fn = 1 ∨ fn = 4 ∨ fn = 5 ∨ fn = 6 ∨ fn = 7
  · rcases c with rfl | rfl | rfl | rfl | rfl | rfl
    all_goals
      go_enter Tryd.func7, Tryd.ntmps7
      go_wp2_with (go_at_call 15; refine (rless_w a b _ h0 h1 h2 h3 _).mono ?_; rintro e w' ⟨rfl, rfl⟩)
      go_ret2
      refine ⟨ret_bb ?_ rfl, rfl⟩
    all_goals first | rfl | (rw [N1.out]; rfl) | (rw [N2.out]; rfl)
  · have n0 : (fn == 0) = false := by simp; omega
    have n1 : (fn == 1) = false := by simp; omega
    have n2 : (fn == 4) = false := by simp; omega
    have n3 : (fn == 5) = false := by simp; omega
    have n4 : (fn == 6) = false := by simp; omega
    have n5 : (fn == 7) = false := by simp; omega
    clear c
    go_enter Tryd.func7, Tryd.ntmps7
    go_wp2
    go_ret2
    simp only [beq_eq_false_iff_ne] at n0 n1 n2 n3 n4 n5
    refine ⟨ret_bb ?_ ?_, rfl⟩ <;> simp [brV, brOk, n0, n1, n2, n3, n4, n5]
set_option maxHeartbeats 2000000 in
theorem rsize_w (i : Int) (w : World) :
    Calls Tryd.prog 9 #[.int .i64 i] w fun e w' => e = .returned (.int .i64 (sizeV i)) ∧ Grown w w' := by
  by_cases hn : i < 0
  · go_enter Tryd.func9, Tryd.ntmps9
    go_wp2
    go_ret
    exact ⟨ret_int (by unfold sizeV; repeat' split
                       all_goals omega), (Grown.refl _).alloc _ _⟩
  · by_cases hb : 7 < i
    · go_enter Tryd.func9, Tryd.ntmps9
      go_wp2
      go_ret
      exact ⟨ret_int (by unfold sizeV; repeat' split
                         all_goals omega), (Grown.refl _).alloc _ _⟩
    · have hi : i = 0 ∨ i = 1 ∨ i = 2 ∨ i = 3 ∨ i = 4 ∨ i = 5 ∨ i = 6 ∨ i = 7 := by omega
      clear hn hb
      rcases hi with rfl | rfl | rfl | rfl | rfl | rfl | rfl | rfl
      all_goals
        go_enter Tryd.func9, Tryd.ntmps9
        go_wp2
        go_ret
        exact ⟨rfl, (Grown.refl _).alloc _ _⟩
theorem up_at (w : Int) (n : Nat) (hn : n = 8 ∨ n = 16 ∨ n = 32) (a : Int) (h0 : 0 ≤ a) (h1 : a < 18446744073709551616) (W : World) :
    Calls Tryd.prog 16 #[.int .u64 a, .int .i64 n] W fun e w' => e = .returned (.int .u64 (sx (2 ^ n) a)) ∧ W = w' := by
  rcases hn with rfl | rfl | rfl
  · have e := up_8 a; have p : ((2 : Int) ^ 8) = 256 := by decide
    rw [p, ← e]; exact rup_w a 8 h0 h1 (by omega) (by omega) W
  · have e := up_16 a; have p : ((2 : Int) ^ 16) = 65536 := by decide
    rw [p, ← e]; exact rup_w a 16 h0 h1 (by omega) (by omega) W
  · have e := up_32 a; have p : ((2 : Int) ^ 32) = 4294967296 := by decide
    rw [p, ← e]; exact rup_w a 32 h0 h1 (by omega) (by omega) W
theorem rext_w (a i : Int) (h0 : 0 ≤ a) (h1 : a < 18446744073709551616) (w : World) :
    Calls Tryd.prog 11 #[.int .u64 a, .int .i64 i] w fun e w' => e = .returned (.int .u64 (extV a i)) ∧ Grown w w' := by
  have u8 := fun W => up_at 0 8 (by omega) a h0 h1 W
  have u16 := fun W => up_at 0 16 (by omega) a h0 h1 W
  have u32 := fun W => up_at 0 32 (by omega) a h0 h1 W
  have l8 := fun W => rlow_w a 8 h0 h1 (by omega) W
  have l16 := fun W => rlow_w a 16 h0 h1 (by omega) W
  have l32 := fun W => rlow_w a 32 h0 h1 (by omega) W
  have U8 := Lib.hid u8
  have U16 := Lib.hid u16
  have U32 := Lib.hid u32
  have L8 := Lib.hid l8
  have L16 := Lib.hid l16
  have L32 := Lib.hid l32
  clear u8 u16 u32 l8 l16 l32
  by_cases c : i = 0 ∨ i = 1 ∨ i = 2 ∨ i = 4 ∨ i = 5 ∨ i = 6
  · have s0 : sizeV 0 = 1 := by decide
    have s1 : sizeV 1 = 2 := by decide
    have s2 : sizeV 2 = 4 := by decide
    have s4 : sizeV 4 = 1 := by decide
    have s5 : sizeV 5 = 2 := by decide
    have s6 : sizeV 6 = 4 := by decide
    rcases c with rfl | rfl | rfl | rfl | rfl | rfl
    · go_enter Tryd.func11, Tryd.ntmps11
      go_wp2_with (first | (go_at_call 9; refine (rsize_w _ _).mono ?_; rintro e w' ⟨rfl, hg⟩) | (go_at_call 16; refine (U8.out _).mono ?_; rintro e w' ⟨rfl, rfl⟩))
      go_ret
      exact ⟨ret_int (by simp [extV]), hg⟩
    · go_enter Tryd.func11, Tryd.ntmps11
      go_wp2_with (first | (go_at_call 9; refine (rsize_w _ _).mono ?_; rintro e w' ⟨rfl, hg⟩) | (go_at_call 16; refine (U16.out _).mono ?_; rintro e w' ⟨rfl, rfl⟩))
      go_ret
      exact ⟨ret_int (by simp [extV]), hg⟩
    · go_enter Tryd.func11, Tryd.ntmps11
      go_wp2_with (first | (go_at_call 9; refine (rsize_w _ _).mono ?_; rintro e w' ⟨rfl, hg⟩) | (go_at_call 16; refine (U32.out _).mono ?_; rintro e w' ⟨rfl, rfl⟩))
      go_ret
      exact ⟨ret_int (by simp [extV]), hg⟩
    · go_enter Tryd.func11, Tryd.ntmps11
      go_wp2_with (first | (go_at_call 9; refine (rsize_w _ _).mono ?_; rintro e w' ⟨rfl, hg⟩) | (go_at_call 17; refine (L8.out _).mono ?_; rintro e w' ⟨rfl, rfl⟩))
      go_ret
      exact ⟨ret_int (by simp [extV]), hg⟩
    · go_enter Tryd.func11, Tryd.ntmps11
      go_wp2_with (first | (go_at_call 9; refine (rsize_w _ _).mono ?_; rintro e w' ⟨rfl, hg⟩) | (go_at_call 17; refine (L16.out _).mono ?_; rintro e w' ⟨rfl, rfl⟩))
      go_ret
      exact ⟨ret_int (by simp [extV]), hg⟩
    · go_enter Tryd.func11, Tryd.ntmps11
      go_wp2_with (first | (go_at_call 9; refine (rsize_w _ _).mono ?_; rintro e w' ⟨rfl, hg⟩) | (go_at_call 17; refine (L32.out _).mono ?_; rintro e w' ⟨rfl, rfl⟩))
      go_ret
      exact ⟨ret_int (by simp [extV]), hg⟩
  · have n0 : (i == 0) = false := by simp; omega
    have n1 : (i == 1) = false := by simp; omega
    have n2 : (i == 2) = false := by simp; omega
    have n3 : (i == 4) = false := by simp; omega
    have n4 : (i == 5) = false := by simp; omega
    have n5 : (i == 6) = false := by simp; omega
    clear c
    go_enter Tryd.func11, Tryd.ntmps11
    go_wp2
    go_ret
    simp only [beq_eq_false_iff_ne] at n0 n1 n2 n3 n4 n5
    exact ⟨ret_int (by simp [extV, n0, n1, n2, n3, n4, n5]), Grown.refl _⟩
end Go.Proofs.YtglhfdamgblhdaaDoor
