/-
  Contract of rvc.Expand: of any half the word for which it stands, if for any. No condition but what the tables hold.
  What the laws of layer 8 share: the document's answer of any half, the code's, the chapter's examples. No condition but what the tables hold.
-/
import Derived.Test.YtlfeandnpflaaaaGreatDoorVExpA
import Derived.Test.YtlfeandnpflaaaaGreatDoorVExpB
import Derived.Test.YtlfeandnpflaaaaGreatDoorVExpC
import Derived.Test.YtlfeandnpflaaaaGreatDoorVExpD
import Derived.Test.YtlfeandnpflaaaaGreatDoorMF
import Derived.Test.YtlfeandnpflaaaaGreatDoorVAll
namespace Go.Proofs.YtlfeandnpflaaaaGreatDoor
theorem expand_w (x : Nat) (hx : x < 65536) (w : World) (tb : Tb w) :
    Calls Tryz.prog 17 #[.int .u16 (x : Int)] w fun e w' => e = .returned (VR (ex x)) ∧ Kp w w' := by
  rcases (show x % 4 = 0 ∨ x % 4 = 1 ∨ x % 4 = 2 ∨ x % 4 = 3 by omega) with l | l | l | l
  · rcases (show x / 8192 = 0 ∨ x / 8192 = 1 ∨ x / 8192 = 2 ∨ x / 8192 = 3 ∨ x / 8192 = 4 ∨ x / 8192 = 5 ∨ x / 8192 = 6 ∨ x / 8192 = 7 by omega) with u | u | u | u | u | u | u | u
    · exact exp_0_0 x hx w tb l u
    · exact exp_0_1 x hx w tb l u
    · exact exp_0_2 x hx w tb l u
    · exact exp_0_3 x hx w tb l u
    · exact exp_0_4 x hx w tb l u
    · exact exp_0_5 x hx w tb l u
    · exact exp_0_6 x hx w tb l u
    · exact exp_0_7 x hx w tb l u
  · rcases (show x / 8192 = 0 ∨ x / 8192 = 1 ∨ x / 8192 = 2 ∨ x / 8192 = 3 ∨ x / 8192 = 4 ∨ x / 8192 = 5 ∨ x / 8192 = 6 ∨ x / 8192 = 7 by omega) with u | u | u | u | u | u | u | u
    · exact exp_1_0 x hx w tb l u
    · exact exp_1_1 x hx w tb l u
    · exact exp_1_2 x hx w tb l u
    · exact exp_1_3 x hx w tb l u
    · exact exp_1_4 x hx w tb l u
    · exact exp_1_5 x hx w tb l u
    · exact exp_1_6 x hx w tb l u
    · exact exp_1_7 x hx w tb l u
  · rcases (show x / 8192 = 0 ∨ x / 8192 = 1 ∨ x / 8192 = 2 ∨ x / 8192 = 3 ∨ x / 8192 = 4 ∨ x / 8192 = 5 ∨ x / 8192 = 6 ∨ x / 8192 = 7 by omega) with u | u | u | u | u | u | u | u
    · exact exp_2_0 x hx w tb l u
    · exact exp_2_1 x hx w tb l u
    · exact exp_2_2 x hx w tb l u
    · exact exp_2_3 x hx w tb l u
    · exact exp_2_4 x hx w tb l u
    · exact exp_2_5 x hx w tb l u
    · exact exp_2_6 x hx w tb l u
    · exact exp_2_7 x hx w tb l u
  · rcases (show x / 8192 = 0 ∨ x / 8192 = 1 ∨ x / 8192 = 2 ∨ x / 8192 = 3 ∨ x / 8192 = 4 ∨ x / 8192 = 5 ∨ x / 8192 = 6 ∨ x / 8192 = 7 by omega) with u | u | u | u | u | u | u | u
    · exact exp_3_0 x hx w tb l u
    · exact exp_3_1 x hx w tb l u
    · exact exp_3_2 x hx w tb l u
    · exact exp_3_3 x hx w tb l u
    · exact exp_3_4 x hx w tb l u
    · exact exp_3_5 x hx w tb l u
    · exact exp_3_6 x hx w tb l u
    · exact exp_3_7 x hx w tb l u
end Go.Proofs.YtlfeandnpflaaaaGreatDoor
namespace Go.Proofs.YtlfeandnpflaaaaGreatDoor
open Go.ChangeShapes Go.WideShapes Go.ChangeAt Go.RowKit
set_option linter.unusedVariables false
set_option linter.unusedSimpArgs false
theorem facts (x : Nat) (hx : x < 65536) : (ex x = none ∧ dx x = 0) ∨ ∃ v i, ex x = some v ∧ dx x = (v : Int) ∧ v ≠ 0 ∧ v < 4294967296 ∧ v % 4 = 3 ∧ x % 4 ≠ 3 ∧ spec v = some i ∧ kindB i = true ∧ reachB i = true ∧ (twB i = true ∨ bk v = x) := by
  have h := chk_all x hx
  unfold chk at h
  generalize ex x = o at h ⊢
  cases o with
  | none => left; exact ⟨rfl, by simpa using h⟩
  | some v =>
    right
    simp only [Bool.and_eq_true, Bool.or_eq_true, beq_iff_eq, bne_iff_ne, decide_eq_true_eq] at h
    obtain ⟨⟨⟨⟨⟨h1, h2⟩, h3⟩, h4⟩, h5⟩, h6⟩ := h
    generalize hs : spec v = s at h6
    cases s with
    | none => cases h6
    | some i =>
      simp only [Bool.and_eq_true, Bool.or_eq_true, beq_iff_eq] at h6
      exact ⟨v, i, rfl, h1, h2, h3, h4, h5, hs, h6.1.1, h6.1.2, h6.2⟩
theorem expand_n (x : Nat) (hx : x < 65536) (h : ex x = none) (w : World) (tb : Tb w) :
    Calls Tryz.prog 17 #[.int .u16 (x : Int)] w fun e w' => e = .returned (.tuple #[.int .u32 0, .bool false]) ∧ Kp w w' := by
  have c := expand_w x hx w tb
  rw [h] at c
  exact c
theorem expand_s (x : Nat) (hx : x < 65536) (v : Nat) (h : ex x = some v) (w : World) (tb : Tb w) :
    Calls Tryz.prog 17 #[.int .u16 (x : Int)] w fun e w' => e = .returned (.tuple #[.int .u32 (v : Int), .bool true]) ∧ Kp w w' := by
  have c := expand_w x hx w tb
  rw [h] at c
  exact c
theorem rexp_0 (x : Nat) (hx : x < 65536) (h : dx x = 0) (w : World) :
    Calls Tryz.prog 16 #[.int .u16 (x : Int)] w fun e w' => e = .returned (.tuple #[.int .u32 0, .bool false]) ∧ w = w' := by
  rcases (show x % 4 = 0 ∨ x % 4 = 1 ∨ x % 4 = 2 ∨ x % 4 = 3 by omega) with l | l | l | l
  · have e : dFirst x = 0 := by rw [← h]; unfold dx; rw [if_pos (by omega)]
    have hm : ((x : Int).tmod 4) = 0 := by rw [Int.tmod_eq_emod_of_nonneg (by omega)]; omega
    have HE := Lib.hid e
    clear h e l
    go_enter Tryz.func16, Tryz.ntmps16
    go_wp2_with (go_at_call 25; have c := first_w x (by omega) (by omega) w; rw [HE.out] at c; with_reducible refine c.mono ?_; rintro e' w1 ⟨rfl, rfl⟩)
    go_ret2
    exact ⟨rfl, rfl⟩
  · have e : dSecond x = 0 := by rw [← h]; unfold dx; rw [if_neg (by omega), if_pos (by omega)]
    have hm : ((x : Int).tmod 4) = 1 := by rw [Int.tmod_eq_emod_of_nonneg (by omega)]; omega
    have HE := Lib.hid e
    clear h e l
    go_enter Tryz.func16, Tryz.ntmps16
    go_wp2_with (go_at_call 26; have c := second_w x (by omega) (by omega) w; rw [HE.out] at c; with_reducible refine c.mono ?_; rintro e' w1 ⟨rfl, rfl⟩)
    go_ret2
    exact ⟨rfl, rfl⟩
  · have e : dThird x = 0 := by rw [← h]; unfold dx; rw [if_neg (by omega), if_neg (by omega), if_pos (by omega)]
    have hm : ((x : Int).tmod 4) = 2 := by rw [Int.tmod_eq_emod_of_nonneg (by omega)]; omega
    have HE := Lib.hid e
    clear h e l
    go_enter Tryz.func16, Tryz.ntmps16
    go_wp2_with (go_at_call 27; have c := third_w x (by omega) (by omega) w; rw [HE.out] at c; with_reducible refine c.mono ?_; rintro e' w1 ⟨rfl, rfl⟩)
    go_ret2
    exact ⟨rfl, rfl⟩
  · have hm : ((x : Int).tmod 4) = 3 := by rw [Int.tmod_eq_emod_of_nonneg (by omega)]; omega
    clear h l
    go_enter Tryz.func16, Tryz.ntmps16
    go_wp2
    go_ret2
    exact ⟨rfl, rfl⟩
theorem rexp_v (x : Nat) (hx : x < 65536) (v : Nat) (h : dx x = (v : Int)) (v0 : v ≠ 0) (v1 : v < 4294967296) (w : World) :
    Calls Tryz.prog 16 #[.int .u16 (x : Int)] w fun e w' => e = .returned (.tuple #[.int .u32 (v : Int), .bool true]) ∧ w = w' := by
  have hb : ((v : Int) != 0) = true := by simp [v0]
  rcases (show x % 4 = 0 ∨ x % 4 = 1 ∨ x % 4 = 2 ∨ x % 4 = 3 by omega) with l | l | l | l
  · have e : dFirst x = (v : Int) := by rw [← h]; unfold dx; rw [if_pos (by omega)]
    have hm : ((x : Int).tmod 4) = 0 := by rw [Int.tmod_eq_emod_of_nonneg (by omega)]; omega
    have HE := Lib.hid e
    clear h e l
    go_enter Tryz.func16, Tryz.ntmps16
    go_wp2_with (go_at_call 25; have c := first_w x (by omega) (by omega) w; rw [HE.out] at c; with_reducible refine c.mono ?_; rintro e' w1 ⟨rfl, rfl⟩)
    go_ret2
    exact ⟨ret_two (by omega) rfl, rfl⟩
  · have e : dSecond x = (v : Int) := by rw [← h]; unfold dx; rw [if_neg (by omega), if_pos (by omega)]
    have hm : ((x : Int).tmod 4) = 1 := by rw [Int.tmod_eq_emod_of_nonneg (by omega)]; omega
    have HE := Lib.hid e
    clear h e l
    go_enter Tryz.func16, Tryz.ntmps16
    go_wp2_with (go_at_call 26; have c := second_w x (by omega) (by omega) w; rw [HE.out] at c; with_reducible refine c.mono ?_; rintro e' w1 ⟨rfl, rfl⟩)
    go_ret2
    exact ⟨ret_two (by omega) rfl, rfl⟩
  · have e : dThird x = (v : Int) := by rw [← h]; unfold dx; rw [if_neg (by omega), if_neg (by omega), if_pos (by omega)]
    have hm : ((x : Int).tmod 4) = 2 := by rw [Int.tmod_eq_emod_of_nonneg (by omega)]; omega
    have HE := Lib.hid e
    clear h e l
    go_enter Tryz.func16, Tryz.ntmps16
    go_wp2_with (go_at_call 27; have c := third_w x (by omega) (by omega) w; rw [HE.out] at c; with_reducible refine c.mono ?_; rintro e' w1 ⟨rfl, rfl⟩)
    go_ret2
    exact ⟨ret_two (by omega) rfl, rfl⟩
  · exfalso; unfold dx at h; rw [if_neg (by omega), if_neg (by omega), if_neg (by omega)] at h; omega
theorem none_0 (w : World) (tb : Tb w) : Calls Tryz.prog 17 #[.int .u16 0] w fun e w' => e = .returned (.tuple #[.int .u32 0, .bool false]) ∧ Kp w w' := expand_n 0 (by decide) (by decide +kernel) w tb
theorem none_65535 (w : World) (tb : Tb w) : Calls Tryz.prog 17 #[.int .u16 65535] w fun e w' => e = .returned (.tuple #[.int .u32 0, .bool false]) ∧ Kp w w' := expand_n 65535 (by decide) (by decide +kernel) w tb
end Go.Proofs.YtlfeandnpflaaaaGreatDoor
