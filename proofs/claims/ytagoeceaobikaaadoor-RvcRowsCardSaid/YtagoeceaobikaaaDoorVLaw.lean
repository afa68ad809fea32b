/-
  What the laws of layer 8 share: the document's answer of any half, the code's, the chapter's examples. No condition but what the tables hold.
-/
import Derived.Test.YtagoeceaobikaaaDoorVExpand
import Derived.Test.YtagoeceaobikaaaDoorVRefC
import Derived.Test.YtagoeceaobikaaaDoorVAll
namespace Go.Proofs.YtagoeceaobikaaaDoor
open Go.ChangeShapes Go.WideShapes Go.ChangeAt Go.RowKit
set_option linter.unusedVariables false
set_option linter.unusedSimpArgs false
theorem facts (x : Nat) (hx : x < 65536) : (ex x = none ∧ dx x = 0) ∨ ∃ v i, ex x = some v ∧ dx x = (v : Int) ∧ v ≠ 0 ∧ v < 4294967296 ∧ v % 4 = 3 ∧ x % 4 ≠ 3 ∧ spec v = some i ∧ kindB i = true ∧ reachB i = true ∧ (twB i = true ∨ bk v = x) := by
  have h := chk_all x hx
  unfold chk at h
  generalize ex x = o at h ⊢
  cases o with
  | none => left; exact ⟨rfl, by simpa using h⟩
  | some v =>
    right
    simp only [Bool.and_eq_true, Bool.or_eq_true, beq_iff_eq, bne_iff_ne, decide_eq_true_eq] at h
    obtain ⟨⟨⟨⟨⟨h1, h2⟩, h3⟩, h4⟩, h5⟩, h6⟩ := h
    generalize hs : spec v = s at h6
    cases s with
    | none => cases h6
    | some i =>
      simp only [Bool.and_eq_true, Bool.or_eq_true, beq_iff_eq] at h6
      exact ⟨v, i, rfl, h1, h2, h3, h4, h5, hs, h6.1.1, h6.1.2, h6.2⟩
theorem expand_n (x : Nat) (hx : x < 65536) (h : ex x = none) (w : World) (tb : Tb w) :
    Calls Tryd.prog 9 #[.int .u16 (x : Int)] w fun e w' => e = .returned (.tuple #[.int .u32 0, .bool false]) ∧ Kp w w' := by
  have c := expand_w x hx w tb
  rw [h] at c
  exact c
theorem expand_s (x : Nat) (hx : x < 65536) (v : Nat) (h : ex x = some v) (w : World) (tb : Tb w) :
    Calls Tryd.prog 9 #[.int .u16 (x : Int)] w fun e w' => e = .returned (.tuple #[.int .u32 (v : Int), .bool true]) ∧ Kp w w' := by
  have c := expand_w x hx w tb
  rw [h] at c
  exact c
theorem rexp_0 (x : Nat) (hx : x < 65536) (h : dx x = 0) (w : World) :
    Calls Tryd.prog 10 #[.int .u16 (x : Int)] w fun e w' => e = .returned (.tuple #[.int .u32 0, .bool false]) ∧ w = w' := by
  rcases (show x % 4 = 0 ∨ x % 4 = 1 ∨ x % 4 = 2 ∨ x % 4 = 3 by omega) with l | l | l | l
  · have e : dFirst x = 0 := by rw [← h]; unfold dx; rw [if_pos (by omega)]
    have hm : ((x : Int).tmod 4) = 0 := by rw [Int.tmod_eq_emod_of_nonneg (by omega)]; omega
    have HE := Lib.hid e
    clear h e l
    go_enter Tryd.func10, Tryd.ntmps10
    go_wp2_with (go_at_call 18; have c := first_w x (by omega) (by omega) w; rw [HE.out] at c; with_reducible refine c.mono ?_; rintro e' w1 ⟨rfl, rfl⟩)
    go_ret2
    exact ⟨rfl, rfl⟩
  · have e : dSecond x = 0 := by rw [← h]; unfold dx; rw [if_neg (by omega), if_pos (by omega)]
    have hm : ((x : Int).tmod 4) = 1 := by rw [Int.tmod_eq_emod_of_nonneg (by omega)]; omega
    have HE := Lib.hid e
    clear h e l
    go_enter Tryd.func10, Tryd.ntmps10
    go_wp2_with (go_at_call 19; have c := second_w x (by omega) (by omega) w; rw [HE.out] at c; with_reducible refine c.mono ?_; rintro e' w1 ⟨rfl, rfl⟩)
    go_ret2
    exact ⟨rfl, rfl⟩
  · have e : dThird x = 0 := by rw [← h]; unfold dx; rw [if_neg (by omega), if_neg (by omega), if_pos (by omega)]
    have hm : ((x : Int).tmod 4) = 2 := by rw [Int.tmod_eq_emod_of_nonneg (by omega)]; omega
    have HE := Lib.hid e
    clear h e l
    go_enter Tryd.func10, Tryd.ntmps10
    go_wp2_with (go_at_call 20; have c := third_w x (by omega) (by omega) w; rw [HE.out] at c; with_reducible refine c.mono ?_; rintro e' w1 ⟨rfl, rfl⟩)
    go_ret2
    exact ⟨rfl, rfl⟩
  · have hm : ((x : Int).tmod 4) = 3 := by rw [Int.tmod_eq_emod_of_nonneg (by omega)]; omega
    clear h l
    go_enter Tryd.func10, Tryd.ntmps10
    go_wp2
    go_ret2
    exact ⟨rfl, rfl⟩
theorem rexp_v (x : Nat) (hx : x < 65536) (v : Nat) (h : dx x = (v : Int)) (v0 : v ≠ 0) (v1 : v < 4294967296) (w : World) :
    Calls Tryd.prog 10 #[.int .u16 (x : Int)] w fun e w' => e = .returned (.tuple #[.int .u32 (v : Int), .bool true]) ∧ w = w' := by
  have hb : ((v : Int) != 0) = true := by simp [v0]
  rcases (show x % 4 = 0 ∨ x % 4 = 1 ∨ x % 4 = 2 ∨ x % 4 = 3 by omega) with l | l | l | l
  · have e : dFirst x = (v : Int) := by rw [← h]; unfold dx; rw [if_pos (by omega)]
    have hm : ((x : Int).tmod 4) = 0 := by rw [Int.tmod_eq_emod_of_nonneg (by omega)]; omega
    have HE := Lib.hid e
    clear h e l
    go_enter Tryd.func10, Tryd.ntmps10
    go_wp2_with (go_at_call 18; have c := first_w x (by omega) (by omega) w; rw [HE.out] at c; with_reducible refine c.mono ?_; rintro e' w1 ⟨rfl, rfl⟩)
    go_ret2
    exact ⟨ret_two (by omega) rfl, rfl⟩
  · have e : dSecond x = (v : Int) := by rw [← h]; unfold dx; rw [if_neg (by omega), if_pos (by omega)]
    have hm : ((x : Int).tmod 4) = 1 := by rw [Int.tmod_eq_emod_of_nonneg (by omega)]; omega
    have HE := Lib.hid e
    clear h e l
    go_enter Tryd.func10, Tryd.ntmps10
    go_wp2_with (go_at_call 19; have c := second_w x (by omega) (by omega) w; rw [HE.out] at c; with_reducible refine c.mono ?_; rintro e' w1 ⟨rfl, rfl⟩)
    go_ret2
    exact ⟨ret_two (by omega) rfl, rfl⟩
  · have e : dThird x = (v : Int) := by rw [← h]; unfold dx; rw [if_neg (by omega), if_neg (by omega), if_pos (by omega)]
    have hm : ((x : Int).tmod 4) = 2 := by rw [Int.tmod_eq_emod_of_nonneg (by omega)]; omega
    have HE := Lib.hid e
    clear h e l
    go_enter Tryd.func10, Tryd.ntmps10
    go_wp2_with (go_at_call 20; have c := third_w x (by omega) (by omega) w; rw [HE.out] at c; with_reducible refine c.mono ?_; rintro e' w1 ⟨rfl, rfl⟩)
    go_ret2
    exact ⟨ret_two (by omega) rfl, rfl⟩
  · exfalso; unfold dx at h; rw [if_neg (by omega), if_neg (by omega), if_neg (by omega)] at h; omega
theorem is_w (x v : Nat) (hx : x < 65536) (h : ex x = some v) (w : World) (tb : Tb w) :
    Calls Tryd.prog 14 #[.int .u16 (x : Int), .int .u32 (v : Int)] w fun e w' => e = .returned (.bool true) ∧ Kp w w' := by
  have TB := Lib.hid tb
  clear tb
  go_enter Tryd.func14, Tryd.ntmps14
  go_wp2_with (go_at_call 9; (with_reducible refine (expand_s x hx v h _ TB.out).mono ?_); rintro e' w1 ⟨rfl, qk⟩; have HK1 := Lib.hid qk; have TB1 := Lib.hid (Tb.kp TB.out qk); clear qk)
  go_ret
  exact ⟨rfl, HK1.out⟩
theorem is_1 (w : World) (tb : Tb w) : Calls Tryd.prog 14 #[.int .u16 1, .int .u32 19] w fun e w' => e = .returned (.bool true) ∧ Kp w w' := is_w 1 19 (by decide) (by decide +kernel) w tb
theorem is_17665 (w : World) (tb : Tb w) : Calls Tryd.prog 14 #[.int .u16 17665, .int .u32 1299] w fun e w' => e = .returned (.bool true) ∧ Kp w w' := is_w 17665 1299 (by decide) (by decide +kernel) w tb
theorem is_32898 (w : World) (tb : Tb w) : Calls Tryd.prog 14 #[.int .u16 32898, .int .u32 32871] w fun e w' => e = .returned (.bool true) ∧ Kp w w' := is_w 32898 32871 (by decide) (by decide +kernel) w tb
theorem is_36866 (w : World) (tb : Tb w) : Calls Tryd.prog 14 #[.int .u16 36866, .int .u32 1048691] w fun e w' => e = .returned (.bool true) ∧ Kp w w' := is_w 36866 1048691 (by decide) (by decide +kernel) w tb
theorem none_0 (w : World) (tb : Tb w) : Calls Tryd.prog 9 #[.int .u16 0] w fun e w' => e = .returned (.tuple #[.int .u32 0, .bool false]) ∧ Kp w w' := expand_n 0 (by decide) (by decide +kernel) w tb
theorem none_65535 (w : World) (tb : Tb w) : Calls Tryd.prog 9 #[.int .u16 65535] w fun e w' => e = .returned (.tuple #[.int .u32 0, .bool false]) ∧ Kp w w' := expand_n 65535 (by decide) (by decide +kernel) w tb
theorem works_w (w : World) (tb : Tb w) :
    Calls Tryd.prog 11 #[] w fun e w' => e = .returned (.bool true) ∧ Kp w w' := by
  have TB := Lib.hid tb
  clear tb
  go_enter Tryd.func11, Tryd.ntmps11
  go_wp2_with (first | (go_at_call 9; (with_reducible refine (none_0 _ TB.out).mono ?_); rintro e' w1 ⟨rfl, qk⟩; have HK1 := Lib.hid qk; have TB1 := Lib.hid (Tb.kp TB.out qk); clear qk) | (go_at_call 9; (with_reducible refine (none_65535 _ TB1.out).mono ?_); rintro e' w2 ⟨rfl, qk⟩; have HK2 := Lib.hid qk; have TB2 := Lib.hid (Tb.kp TB1.out qk); clear qk) | (go_at_call 14; (with_reducible refine (is_1 _ TB2.out).mono ?_); rintro e' w3 ⟨rfl, qk⟩; have HK3 := Lib.hid qk; have TB3 := Lib.hid (Tb.kp TB2.out qk); clear qk) | (go_at_call 14; (with_reducible refine (is_17665 _ TB3.out).mono ?_); rintro e' w4 ⟨rfl, qk⟩; have HK4 := Lib.hid qk; have TB4 := Lib.hid (Tb.kp TB3.out qk); clear qk) | (go_at_call 14; (with_reducible refine (is_32898 _ TB4.out).mono ?_); rintro e' w5 ⟨rfl, qk⟩; have HK5 := Lib.hid qk; have TB5 := Lib.hid (Tb.kp TB4.out qk); clear qk) | (go_at_call 14; (with_reducible refine (is_36866 _ TB5.out).mono ?_); rintro e' w6 ⟨rfl, qk⟩; have HK6 := Lib.hid qk; have TB6 := Lib.hid (Tb.kp TB5.out qk); clear qk))
  go_ret
  exact ⟨rfl, (((((HK1.out.trans HK2.out).trans HK3.out).trans HK4.out).trans HK5.out).trans HK6.out)⟩
theorem expands_w (x : Nat) (hx : x < 65536) (w : World) (tb : Tb w) :
    Calls Tryd.prog 3 #[.int .u16 (x : Int)] w fun e w' => e = .returned (.bool true) ∧ Kp w w' := by
  have TB := Lib.hid tb
  clear tb
  rcases facts x hx with ⟨h, d⟩ | ⟨v, i, h, d, v0, v1, -⟩
  · have EX := Lib.hid h
    have DX := Lib.hid d
    clear h d
    go_enter Tryd.func3, Tryd.ntmps3
    go_wp2_with (first | (go_at_call 9; (with_reducible refine (expand_n x hx EX.out _ TB.out).mono ?_); rintro e' w1 ⟨rfl, qk⟩; have HK1 := Lib.hid qk; have TB1 := Lib.hid (Tb.kp TB.out qk); clear qk) | (go_at_call 10; with_reducible refine (rexp_0 x hx DX.out w1).mono ?_; rintro e' w1' ⟨rfl, rfl⟩) | (go_at_call 11; (with_reducible refine (works_w _ TB1.out).mono ?_); rintro e' w2 ⟨rfl, qk⟩; have HK2 := Lib.hid qk; have TB2 := Lib.hid (Tb.kp TB1.out qk); clear qk))
    go_ret
    exact ⟨rfl, (HK1.out.trans HK2.out)⟩
  · have EX := Lib.hid h
    have DX := Lib.hid d
    clear h d
    go_enter Tryd.func3, Tryd.ntmps3
    go_wp2_with (first | (go_at_call 9; (with_reducible refine (expand_s x hx v EX.out _ TB.out).mono ?_); rintro e' w1 ⟨rfl, qk⟩; have HK1 := Lib.hid qk; have TB1 := Lib.hid (Tb.kp TB.out qk); clear qk) | (go_at_call 10; with_reducible refine (rexp_v x hx v DX.out v0 v1 w1).mono ?_; rintro e' w1' ⟨rfl, rfl⟩) | (go_at_call 11; (with_reducible refine (works_w _ TB1.out).mono ?_); rintro e' w2 ⟨rfl, qk⟩; have HK2 := Lib.hid qk; have TB2 := Lib.hid (Tb.kp TB1.out qk); clear qk))
    go_ret
    exact ⟨rfl, (HK1.out.trans HK2.out)⟩
end Go.Proofs.YtagoeceaobikaaaDoor
