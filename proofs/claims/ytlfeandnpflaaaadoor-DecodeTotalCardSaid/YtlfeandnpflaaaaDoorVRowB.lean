/-
  Contracts of rvc's rows (pairs of registers, moves): each tells its word, or none. No condition but what the tables hold.
-/
import Derived.Test.YtlfeandnpflaaaaDoorVRowA
namespace Go.Proofs.YtlfeandnpflaaaaDoor
open Go.ChangeShapes Go.WideShapes Go.ChangeAt Go.RowKit
set_option linter.unusedVariables false
set_option linter.unusedSimpArgs false
set_option maxHeartbeats 1000000 in
theorem r_pair (x : Nat) (hx : x < 65536) (w : World) (tb : Tb w) :
    Calls Tryd.prog 69 #[.int .u16 (x : Int)] w fun e w' => e = .returned (VR (rPair x)) ∧ w = w' := by
  have TB := Lib.hid tb
  clear tb
  have rd0 := rD_lt x
  have rs0 := rS_lt x
  have nd0 := nD_lt x
  have ns0 := nS_lt x
  have a0 : x / 4096 % 2 = 0 ∨ x / 4096 % 2 = 1 := by omega
  have b0 : x / 32 % 4 = 0 ∨ x / 32 % 4 = 1 ∨ x / 32 % 4 = 2 ∨ x / 32 % 4 = 3 := by omega
  rcases a0 with ha | ha <;> rcases b0 with hb | hb | hb | hb
  · have e : rPair x = some (vr ||| R5 51 0 (nD x) (nD x) (nS x)) := by simp [rPair, ha, hb]
    rw [e]
    have HA := Lib.hid ha
    have HB := Lib.hid hb
    clear e ha hb
    go_enter Tryd.func69, Tryd.ntmps69
    go_wp2_with (first | (go_at_call 63; have c := vnd_w x hx w; (try simp only [Int.cast_ofNat_Int, Int.natCast_zero, Int.natCast_one] at c); with_reducible refine c.mono ?_; rintro e' w1 ⟨rfl, rfl⟩) | (go_at_call 61; have c := vns_w x hx w; (try simp only [Int.cast_ofNat_Int, Int.natCast_zero, Int.natCast_one] at c); with_reducible refine c.mono ?_; rintro e' w1 ⟨rfl, rfl⟩) | (go_at_call 73; have c := vb12_w x hx w; rw [HA.out] at c; (try simp only [Int.cast_ofNat_Int, Int.natCast_zero, Int.natCast_one] at c); with_reducible refine c.mono ?_; rintro e' w1 ⟨rfl, rfl⟩) | (go_at_call 36; have c := vf_6_5 x hx w; rw [HB.out] at c; (try simp only [Int.cast_ofNat_Int, Int.natCast_zero, Int.natCast_one] at c); with_reducible refine c.mono ?_; rintro e' w1 ⟨rfl, rfl⟩) | (go_at_call 74; have c := wR_w 51 0 (nD x) (nD x) (nS x) (by decide) (by decide) nd0 nd0 ns0 w; (try simp only [Int.cast_ofNat_Int, Int.natCast_zero, Int.natCast_one] at c); with_reducible refine c.mono ?_; rintro e' w1 ⟨rfl, rfl⟩))
    go_ret2
    exact ⟨ret_two (vr_or _ (R5_32 _ _ _ _ _ (by decide) (by decide) nd0 nd0 ns0)) rfl, rfl⟩
  · have e : rPair x = some (R5 51 4 (nD x) (nD x) (nS x)) := by simp [rPair, ha, hb]
    rw [e]
    have HA := Lib.hid ha
    have HB := Lib.hid hb
    clear e ha hb
    go_enter Tryd.func69, Tryd.ntmps69
    go_wp2_with (first | (go_at_call 63; have c := vnd_w x hx w; (try simp only [Int.cast_ofNat_Int, Int.natCast_zero, Int.natCast_one] at c); with_reducible refine c.mono ?_; rintro e' w1 ⟨rfl, rfl⟩) | (go_at_call 61; have c := vns_w x hx w; (try simp only [Int.cast_ofNat_Int, Int.natCast_zero, Int.natCast_one] at c); with_reducible refine c.mono ?_; rintro e' w1 ⟨rfl, rfl⟩) | (go_at_call 73; have c := vb12_w x hx w; rw [HA.out] at c; (try simp only [Int.cast_ofNat_Int, Int.natCast_zero, Int.natCast_one] at c); with_reducible refine c.mono ?_; rintro e' w1 ⟨rfl, rfl⟩) | (go_at_call 36; have c := vf_6_5 x hx w; rw [HB.out] at c; (try simp only [Int.cast_ofNat_Int, Int.natCast_zero, Int.natCast_one] at c); with_reducible refine c.mono ?_; rintro e' w1 ⟨rfl, rfl⟩) | (go_at_call 74; have c := wR_w 51 4 (nD x) (nD x) (nS x) (by decide) (by decide) nd0 nd0 ns0 w; (try simp only [Int.cast_ofNat_Int, Int.natCast_zero, Int.natCast_one] at c); with_reducible refine c.mono ?_; rintro e' w1 ⟨rfl, rfl⟩))
    go_ret2
    exact ⟨rfl, rfl⟩
  · have e : rPair x = some (R5 51 6 (nD x) (nD x) (nS x)) := by simp [rPair, ha, hb]
    rw [e]
    have HA := Lib.hid ha
    have HB := Lib.hid hb
    clear e ha hb
    go_enter Tryd.func69, Tryd.ntmps69
    go_wp2_with (first | (go_at_call 63; have c := vnd_w x hx w; (try simp only [Int.cast_ofNat_Int, Int.natCast_zero, Int.natCast_one] at c); with_reducible refine c.mono ?_; rintro e' w1 ⟨rfl, rfl⟩) | (go_at_call 61; have c := vns_w x hx w; (try simp only [Int.cast_ofNat_Int, Int.natCast_zero, Int.natCast_one] at c); with_reducible refine c.mono ?_; rintro e' w1 ⟨rfl, rfl⟩) | (go_at_call 73; have c := vb12_w x hx w; rw [HA.out] at c; (try simp only [Int.cast_ofNat_Int, Int.natCast_zero, Int.natCast_one] at c); with_reducible refine c.mono ?_; rintro e' w1 ⟨rfl, rfl⟩) | (go_at_call 36; have c := vf_6_5 x hx w; rw [HB.out] at c; (try simp only [Int.cast_ofNat_Int, Int.natCast_zero, Int.natCast_one] at c); with_reducible refine c.mono ?_; rintro e' w1 ⟨rfl, rfl⟩) | (go_at_call 74; have c := wR_w 51 6 (nD x) (nD x) (nS x) (by decide) (by decide) nd0 nd0 ns0 w; (try simp only [Int.cast_ofNat_Int, Int.natCast_zero, Int.natCast_one] at c); with_reducible refine c.mono ?_; rintro e' w1 ⟨rfl, rfl⟩))
    go_ret2
    exact ⟨rfl, rfl⟩
  · have e : rPair x = some (R5 51 7 (nD x) (nD x) (nS x)) := by simp [rPair, ha, hb]
    rw [e]
    have HA := Lib.hid ha
    have HB := Lib.hid hb
    clear e ha hb
    go_enter Tryd.func69, Tryd.ntmps69
    go_wp2_with (first | (go_at_call 63; have c := vnd_w x hx w; (try simp only [Int.cast_ofNat_Int, Int.natCast_zero, Int.natCast_one] at c); with_reducible refine c.mono ?_; rintro e' w1 ⟨rfl, rfl⟩) | (go_at_call 61; have c := vns_w x hx w; (try simp only [Int.cast_ofNat_Int, Int.natCast_zero, Int.natCast_one] at c); with_reducible refine c.mono ?_; rintro e' w1 ⟨rfl, rfl⟩) | (go_at_call 73; have c := vb12_w x hx w; rw [HA.out] at c; (try simp only [Int.cast_ofNat_Int, Int.natCast_zero, Int.natCast_one] at c); with_reducible refine c.mono ?_; rintro e' w1 ⟨rfl, rfl⟩) | (go_at_call 36; have c := vf_6_5 x hx w; rw [HB.out] at c; (try simp only [Int.cast_ofNat_Int, Int.natCast_zero, Int.natCast_one] at c); with_reducible refine c.mono ?_; rintro e' w1 ⟨rfl, rfl⟩) | (go_at_call 74; have c := wR_w 51 7 (nD x) (nD x) (nS x) (by decide) (by decide) nd0 nd0 ns0 w; (try simp only [Int.cast_ofNat_Int, Int.natCast_zero, Int.natCast_one] at c); with_reducible refine c.mono ?_; rintro e' w1 ⟨rfl, rfl⟩))
    go_ret2
    exact ⟨rfl, rfl⟩
  · have e : rPair x = some (vr ||| R5 59 0 (nD x) (nD x) (nS x)) := by simp [rPair, ha, hb]
    rw [e]
    have HA := Lib.hid ha
    have HB := Lib.hid hb
    clear e ha hb
    go_enter Tryd.func69, Tryd.ntmps69
    go_wp2_with (first | (go_at_call 63; have c := vnd_w x hx w; (try simp only [Int.cast_ofNat_Int, Int.natCast_zero, Int.natCast_one] at c); with_reducible refine c.mono ?_; rintro e' w1 ⟨rfl, rfl⟩) | (go_at_call 61; have c := vns_w x hx w; (try simp only [Int.cast_ofNat_Int, Int.natCast_zero, Int.natCast_one] at c); with_reducible refine c.mono ?_; rintro e' w1 ⟨rfl, rfl⟩) | (go_at_call 73; have c := vb12_w x hx w; rw [HA.out] at c; (try simp only [Int.cast_ofNat_Int, Int.natCast_zero, Int.natCast_one] at c); with_reducible refine c.mono ?_; rintro e' w1 ⟨rfl, rfl⟩) | (go_at_call 36; have c := vf_6_5 x hx w; rw [HB.out] at c; (try simp only [Int.cast_ofNat_Int, Int.natCast_zero, Int.natCast_one] at c); with_reducible refine c.mono ?_; rintro e' w1 ⟨rfl, rfl⟩) | (go_at_call 74; have c := wR_w 59 0 (nD x) (nD x) (nS x) (by decide) (by decide) nd0 nd0 ns0 w; (try simp only [Int.cast_ofNat_Int, Int.natCast_zero, Int.natCast_one] at c); with_reducible refine c.mono ?_; rintro e' w1 ⟨rfl, rfl⟩))
    go_ret2
    exact ⟨ret_two (vr_or _ (R5_32 _ _ _ _ _ (by decide) (by decide) nd0 nd0 ns0)) rfl, rfl⟩
  · have e : rPair x = some (R5 59 0 (nD x) (nD x) (nS x)) := by simp [rPair, ha, hb]
    rw [e]
    have HA := Lib.hid ha
    have HB := Lib.hid hb
    clear e ha hb
    go_enter Tryd.func69, Tryd.ntmps69
    go_wp2_with (first | (go_at_call 63; have c := vnd_w x hx w; (try simp only [Int.cast_ofNat_Int, Int.natCast_zero, Int.natCast_one] at c); with_reducible refine c.mono ?_; rintro e' w1 ⟨rfl, rfl⟩) | (go_at_call 61; have c := vns_w x hx w; (try simp only [Int.cast_ofNat_Int, Int.natCast_zero, Int.natCast_one] at c); with_reducible refine c.mono ?_; rintro e' w1 ⟨rfl, rfl⟩) | (go_at_call 73; have c := vb12_w x hx w; rw [HA.out] at c; (try simp only [Int.cast_ofNat_Int, Int.natCast_zero, Int.natCast_one] at c); with_reducible refine c.mono ?_; rintro e' w1 ⟨rfl, rfl⟩) | (go_at_call 36; have c := vf_6_5 x hx w; rw [HB.out] at c; (try simp only [Int.cast_ofNat_Int, Int.natCast_zero, Int.natCast_one] at c); with_reducible refine c.mono ?_; rintro e' w1 ⟨rfl, rfl⟩) | (go_at_call 74; have c := wR_w 59 0 (nD x) (nD x) (nS x) (by decide) (by decide) nd0 nd0 ns0 w; (try simp only [Int.cast_ofNat_Int, Int.natCast_zero, Int.natCast_one] at c); with_reducible refine c.mono ?_; rintro e' w1 ⟨rfl, rfl⟩))
    go_ret2
    exact ⟨rfl, rfl⟩
  · have e : rPair x = none := by simp [rPair, ha, hb]
    rw [e]
    have HA := Lib.hid ha
    have HB := Lib.hid hb
    clear e ha hb
    go_enter Tryd.func69, Tryd.ntmps69
    go_wp2_with (first | (go_at_call 63; have c := vnd_w x hx w; (try simp only [Int.cast_ofNat_Int, Int.natCast_zero, Int.natCast_one] at c); with_reducible refine c.mono ?_; rintro e' w1 ⟨rfl, rfl⟩) | (go_at_call 61; have c := vns_w x hx w; (try simp only [Int.cast_ofNat_Int, Int.natCast_zero, Int.natCast_one] at c); with_reducible refine c.mono ?_; rintro e' w1 ⟨rfl, rfl⟩) | (go_at_call 73; have c := vb12_w x hx w; rw [HA.out] at c; (try simp only [Int.cast_ofNat_Int, Int.natCast_zero, Int.natCast_one] at c); with_reducible refine c.mono ?_; rintro e' w1 ⟨rfl, rfl⟩) | (go_at_call 36; have c := vf_6_5 x hx w; rw [HB.out] at c; (try simp only [Int.cast_ofNat_Int, Int.natCast_zero, Int.natCast_one] at c); with_reducible refine c.mono ?_; rintro e' w1 ⟨rfl, rfl⟩))
    go_ret2
    exact ⟨rfl, rfl⟩
  · have e : rPair x = none := by simp [rPair, ha, hb]
    rw [e]
    have HA := Lib.hid ha
    have HB := Lib.hid hb
    clear e ha hb
    go_enter Tryd.func69, Tryd.ntmps69
    go_wp2_with (first | (go_at_call 63; have c := vnd_w x hx w; (try simp only [Int.cast_ofNat_Int, Int.natCast_zero, Int.natCast_one] at c); with_reducible refine c.mono ?_; rintro e' w1 ⟨rfl, rfl⟩) | (go_at_call 61; have c := vns_w x hx w; (try simp only [Int.cast_ofNat_Int, Int.natCast_zero, Int.natCast_one] at c); with_reducible refine c.mono ?_; rintro e' w1 ⟨rfl, rfl⟩) | (go_at_call 73; have c := vb12_w x hx w; rw [HA.out] at c; (try simp only [Int.cast_ofNat_Int, Int.natCast_zero, Int.natCast_one] at c); with_reducible refine c.mono ?_; rintro e' w1 ⟨rfl, rfl⟩) | (go_at_call 36; have c := vf_6_5 x hx w; rw [HB.out] at c; (try simp only [Int.cast_ofNat_Int, Int.natCast_zero, Int.natCast_one] at c); with_reducible refine c.mono ?_; rintro e' w1 ⟨rfl, rfl⟩))
    go_ret2
    exact ⟨rfl, rfl⟩
set_option maxHeartbeats 1000000 in
theorem r_near (x : Nat) (hx : x < 65536) (w : World) (tb : Tb w) :
    Calls Tryd.prog 29 #[.int .u16 (x : Int)] w fun e w' => e = .returned (VR (rNear x)) ∧ w = w' := by
  have TB := Lib.hid tb
  clear tb
  have rd0 := rD_lt x
  have rs0 := rS_lt x
  have nd0 := nD_lt x
  have ns0 := nS_lt x
  have a0 : x / 1024 % 4 = 0 ∨ x / 1024 % 4 = 1 ∨ x / 1024 % 4 = 2 ∨ x / 1024 % 4 = 3 := by omega
  rcases a0 with ha | ha | ha | ha
  · have e : rNear x = some (wI 19 5 (nD x) (nD x) (nm 0 x)) := by simp [rNear, ha]
    rw [e]
    have HA := Lib.hid ha
    clear e ha
    go_enter Tryd.func29, Tryd.ntmps29
    go_wp2_with (first | (go_at_call 63; have c := vnd_w x hx w; (try simp only [Int.cast_ofNat_Int, Int.natCast_zero, Int.natCast_one] at c); with_reducible refine c.mono ?_; rintro e' w1 ⟨rfl, rfl⟩) | (go_at_call 36; have c := vf_11_10 x hx w; rw [HA.out] at c; (try simp only [Int.cast_ofNat_Int, Int.natCast_zero, Int.natCast_one] at c); with_reducible refine c.mono ?_; rintro e' w1 ⟨rfl, rfl⟩) | (go_at_call 58; have c := num_w 0 (by decide) x hx w TB.out; (try simp only [Int.cast_ofNat_Int, Int.natCast_zero, Int.natCast_one] at c); with_reducible refine c.mono ?_; rintro e' w1 ⟨rfl, rfl⟩) | (go_at_call 60; have c := wI_w 19 5 (nD x) (nD x) (nm 0 x) (by decide) (by decide) nd0 nd0 (nm_32 0 x (by decide)) w TB.out; (try simp only [Int.cast_ofNat_Int, Int.natCast_zero, Int.natCast_one] at c); with_reducible refine c.mono ?_; rintro e' w1 ⟨rfl, rfl⟩))
    go_ret2
    exact ⟨rfl, rfl⟩
  · have e : rNear x = some (vr ||| wI 19 5 (nD x) (nD x) (nm 0 x)) := by simp [rNear, ha]
    rw [e]
    have HA := Lib.hid ha
    clear e ha
    go_enter Tryd.func29, Tryd.ntmps29
    go_wp2_with (first | (go_at_call 63; have c := vnd_w x hx w; (try simp only [Int.cast_ofNat_Int, Int.natCast_zero, Int.natCast_one] at c); with_reducible refine c.mono ?_; rintro e' w1 ⟨rfl, rfl⟩) | (go_at_call 36; have c := vf_11_10 x hx w; rw [HA.out] at c; (try simp only [Int.cast_ofNat_Int, Int.natCast_zero, Int.natCast_one] at c); with_reducible refine c.mono ?_; rintro e' w1 ⟨rfl, rfl⟩) | (go_at_call 58; have c := num_w 0 (by decide) x hx w TB.out; (try simp only [Int.cast_ofNat_Int, Int.natCast_zero, Int.natCast_one] at c); with_reducible refine c.mono ?_; rintro e' w1 ⟨rfl, rfl⟩) | (go_at_call 60; have c := wI_w 19 5 (nD x) (nD x) (nm 0 x) (by decide) (by decide) nd0 nd0 (nm_32 0 x (by decide)) w TB.out; (try simp only [Int.cast_ofNat_Int, Int.natCast_zero, Int.natCast_one] at c); with_reducible refine c.mono ?_; rintro e' w1 ⟨rfl, rfl⟩))
    go_ret2
    exact ⟨ret_two (vr_or _ (wI_32 _ _ _ _ _ (by decide) (by decide) nd0 nd0)) rfl, rfl⟩
  · have e : rNear x = some (wI 19 7 (nD x) (nD x) (sg 5 (nm 0 x))) := by simp [rNear, ha]
    rw [e]
    have HA := Lib.hid ha
    clear e ha
    go_enter Tryd.func29, Tryd.ntmps29
    go_wp2_with (first | (go_at_call 63; have c := vnd_w x hx w; (try simp only [Int.cast_ofNat_Int, Int.natCast_zero, Int.natCast_one] at c); with_reducible refine c.mono ?_; rintro e' w1 ⟨rfl, rfl⟩) | (go_at_call 36; have c := vf_11_10 x hx w; rw [HA.out] at c; (try simp only [Int.cast_ofNat_Int, Int.natCast_zero, Int.natCast_one] at c); with_reducible refine c.mono ?_; rintro e' w1 ⟨rfl, rfl⟩) | (go_at_call 67; have c := sgn_0 x hx w TB.out; (try simp only [Int.cast_ofNat_Int, Int.natCast_zero, Int.natCast_one] at c); with_reducible refine c.mono ?_; rintro e' w1 ⟨rfl, rfl⟩) | (go_at_call 60; have c := wI_w 19 7 (nD x) (nD x) (sg 5 (nm 0 x)) (by decide) (by decide) nd0 nd0 (sg_lt 5 (nm 0 x) (by decide) (nm_32 0 x (by decide)) (nm_lt 0 5 x (by decide) (by decide))) w TB.out; (try simp only [Int.cast_ofNat_Int, Int.natCast_zero, Int.natCast_one] at c); with_reducible refine c.mono ?_; rintro e' w1 ⟨rfl, rfl⟩))
    go_ret2
    exact ⟨rfl, rfl⟩
  · have e : rNear x = rPair x := by simp [rNear, ha]
    rw [e]
    have HA := Lib.hid ha
    clear e ha
    generalize hv : rPair x = v
    have HV := Lib.hid hv
    clear hv
    cases v
    · go_enter Tryd.func29, Tryd.ntmps29
      go_wp2_with (first | (go_at_call 63; have c := vnd_w x hx w; (try simp only [Int.cast_ofNat_Int, Int.natCast_zero, Int.natCast_one] at c); with_reducible refine c.mono ?_; rintro e' w1 ⟨rfl, rfl⟩) | (go_at_call 36; have c := vf_11_10 x hx w; rw [HA.out] at c; (try simp only [Int.cast_ofNat_Int, Int.natCast_zero, Int.natCast_one] at c); with_reducible refine c.mono ?_; rintro e' w1 ⟨rfl, rfl⟩) | (go_at_call 69; have c := r_pair x hx w TB.out; rw [HV.out] at c; dsimp only [VR] at c; with_reducible refine c.mono ?_; rintro e' w1 ⟨rfl, rfl⟩))
      go_ret2
      exact ⟨rfl, rfl⟩
    · go_enter Tryd.func29, Tryd.ntmps29
      go_wp2_with (first | (go_at_call 63; have c := vnd_w x hx w; (try simp only [Int.cast_ofNat_Int, Int.natCast_zero, Int.natCast_one] at c); with_reducible refine c.mono ?_; rintro e' w1 ⟨rfl, rfl⟩) | (go_at_call 36; have c := vf_11_10 x hx w; rw [HA.out] at c; (try simp only [Int.cast_ofNat_Int, Int.natCast_zero, Int.natCast_one] at c); with_reducible refine c.mono ?_; rintro e' w1 ⟨rfl, rfl⟩) | (go_at_call 69; have c := r_pair x hx w TB.out; rw [HV.out] at c; dsimp only [VR] at c; with_reducible refine c.mono ?_; rintro e' w1 ⟨rfl, rfl⟩))
      go_ret2
      exact ⟨rfl, rfl⟩
set_option maxHeartbeats 1000000 in
theorem r_move (x : Nat) (hx : x < 65536) (w : World) (tb : Tb w) :
    Calls Tryd.prog 34 #[.int .u16 (x : Int)] w fun e w' => e = .returned (VR (rMove x)) ∧ w = w' := by
  have TB := Lib.hid tb
  clear tb
  have rd0 := rD_lt x
  have rs0 := rS_lt x
  have nd0 := nD_lt x
  have ns0 := nS_lt x
  have a0 : x / 4096 % 2 = 0 ∨ x / 4096 % 2 = 1 := by omega
  have hs : (((rS x : Nat) : Int) == 0) = (rS x == 0) := beqc _
  have hd : (((rD x : Nat) : Int) == 0) = (rD x == 0) := beqc _
  have e : rMove x = (if x / 4096 % 2 = 0 then (if (rS x == 0) = true then unl (rD x == 0) (wI 103 0 0 (rD x) 0) else some (R5 51 0 (rD x) 0 (rS x))) else if (rS x == 0) = true then (if (rD x == 0) = true then some 1048691 else some (wI 103 0 1 (rD x) 0)) else some (R5 51 0 (rD x) (rD x) (rS x))) := by simp [rMove]
  rw [e]
  clear e
  generalize hp : (rS x == 0) = p at *
  generalize hq : (rD x == 0) = q at *
  clear hp hq
  rcases a0 with ha | ha <;> rw [ha] <;> have HA := Lib.hid ha <;> clear ha <;> rcases bft p with rfl | rfl <;> rcases bft q with rfl | rfl
  · go_enter Tryd.func34, Tryd.ntmps34
    go_wp2_with (first | (go_at_call 66; have c := vrd_w x hx w; (try simp only [Int.cast_ofNat_Int, Int.natCast_zero, Int.natCast_one] at c); with_reducible refine c.mono ?_; rintro e' w1 ⟨rfl, rfl⟩) | (go_at_call 72; have c := vrs_w x hx w; (try simp only [Int.cast_ofNat_Int, Int.natCast_zero, Int.natCast_one] at c); with_reducible refine c.mono ?_; rintro e' w1 ⟨rfl, rfl⟩) | (go_at_call 73; have c := vb12_w x hx w; rw [HA.out] at c; (try simp only [Int.cast_ofNat_Int, Int.natCast_zero, Int.natCast_one] at c); with_reducible refine c.mono ?_; rintro e' w1 ⟨rfl, rfl⟩) | (go_at_call 60; have c := wI_w 103 0 0 (rD x) 0 (by decide) (by decide) (by decide) rd0 (by decide) w TB.out; (try simp only [Int.cast_ofNat_Int, Int.natCast_zero, Int.natCast_one] at c); with_reducible refine c.mono ?_; rintro e' w1 ⟨rfl, rfl⟩) | (go_at_call 59; have c := unl_t (wI 103 0 0 (rD x) 0) w; (try simp only [Int.cast_ofNat_Int, Int.natCast_zero, Int.natCast_one] at c); with_reducible refine c.mono ?_; rintro e' w1 ⟨rfl, rfl⟩))
    go_ret2
    exact ⟨rfl, rfl⟩
  · go_enter Tryd.func34, Tryd.ntmps34
    go_wp2_with (first | (go_at_call 66; have c := vrd_w x hx w; (try simp only [Int.cast_ofNat_Int, Int.natCast_zero, Int.natCast_one] at c); with_reducible refine c.mono ?_; rintro e' w1 ⟨rfl, rfl⟩) | (go_at_call 72; have c := vrs_w x hx w; (try simp only [Int.cast_ofNat_Int, Int.natCast_zero, Int.natCast_one] at c); with_reducible refine c.mono ?_; rintro e' w1 ⟨rfl, rfl⟩) | (go_at_call 73; have c := vb12_w x hx w; rw [HA.out] at c; (try simp only [Int.cast_ofNat_Int, Int.natCast_zero, Int.natCast_one] at c); with_reducible refine c.mono ?_; rintro e' w1 ⟨rfl, rfl⟩) | (go_at_call 60; have c := wI_w 103 0 0 (rD x) 0 (by decide) (by decide) (by decide) rd0 (by decide) w TB.out; (try simp only [Int.cast_ofNat_Int, Int.natCast_zero, Int.natCast_one] at c); with_reducible refine c.mono ?_; rintro e' w1 ⟨rfl, rfl⟩) | (go_at_call 59; have c := unl_f (wI 103 0 0 (rD x) 0) w; (try simp only [Int.cast_ofNat_Int, Int.natCast_zero, Int.natCast_one] at c); with_reducible refine c.mono ?_; rintro e' w1 ⟨rfl, rfl⟩))
    go_ret2
    exact ⟨rfl, rfl⟩
  · go_enter Tryd.func34, Tryd.ntmps34
    go_wp2_with (first | (go_at_call 66; have c := vrd_w x hx w; (try simp only [Int.cast_ofNat_Int, Int.natCast_zero, Int.natCast_one] at c); with_reducible refine c.mono ?_; rintro e' w1 ⟨rfl, rfl⟩) | (go_at_call 72; have c := vrs_w x hx w; (try simp only [Int.cast_ofNat_Int, Int.natCast_zero, Int.natCast_one] at c); with_reducible refine c.mono ?_; rintro e' w1 ⟨rfl, rfl⟩) | (go_at_call 73; have c := vb12_w x hx w; rw [HA.out] at c; (try simp only [Int.cast_ofNat_Int, Int.natCast_zero, Int.natCast_one] at c); with_reducible refine c.mono ?_; rintro e' w1 ⟨rfl, rfl⟩) | (go_at_call 74; have c := wR_w 51 0 (rD x) 0 (rS x) (by decide) (by decide) rd0 (by decide) rs0 w; (try simp only [Int.cast_ofNat_Int, Int.natCast_zero, Int.natCast_one] at c); with_reducible refine c.mono ?_; rintro e' w1 ⟨rfl, rfl⟩))
    go_ret2
    exact ⟨rfl, rfl⟩
  · go_enter Tryd.func34, Tryd.ntmps34
    go_wp2_with (first | (go_at_call 66; have c := vrd_w x hx w; (try simp only [Int.cast_ofNat_Int, Int.natCast_zero, Int.natCast_one] at c); with_reducible refine c.mono ?_; rintro e' w1 ⟨rfl, rfl⟩) | (go_at_call 72; have c := vrs_w x hx w; (try simp only [Int.cast_ofNat_Int, Int.natCast_zero, Int.natCast_one] at c); with_reducible refine c.mono ?_; rintro e' w1 ⟨rfl, rfl⟩) | (go_at_call 73; have c := vb12_w x hx w; rw [HA.out] at c; (try simp only [Int.cast_ofNat_Int, Int.natCast_zero, Int.natCast_one] at c); with_reducible refine c.mono ?_; rintro e' w1 ⟨rfl, rfl⟩) | (go_at_call 74; have c := wR_w 51 0 (rD x) 0 (rS x) (by decide) (by decide) rd0 (by decide) rs0 w; (try simp only [Int.cast_ofNat_Int, Int.natCast_zero, Int.natCast_one] at c); with_reducible refine c.mono ?_; rintro e' w1 ⟨rfl, rfl⟩))
    go_ret2
    exact ⟨rfl, rfl⟩
  · go_enter Tryd.func34, Tryd.ntmps34
    go_wp2_with (first | (go_at_call 66; have c := vrd_w x hx w; (try simp only [Int.cast_ofNat_Int, Int.natCast_zero, Int.natCast_one] at c); with_reducible refine c.mono ?_; rintro e' w1 ⟨rfl, rfl⟩) | (go_at_call 72; have c := vrs_w x hx w; (try simp only [Int.cast_ofNat_Int, Int.natCast_zero, Int.natCast_one] at c); with_reducible refine c.mono ?_; rintro e' w1 ⟨rfl, rfl⟩) | (go_at_call 73; have c := vb12_w x hx w; rw [HA.out] at c; (try simp only [Int.cast_ofNat_Int, Int.natCast_zero, Int.natCast_one] at c); with_reducible refine c.mono ?_; rintro e' w1 ⟨rfl, rfl⟩))
    go_ret2
    exact ⟨rfl, rfl⟩
  · go_enter Tryd.func34, Tryd.ntmps34
    go_wp2_with (first | (go_at_call 66; have c := vrd_w x hx w; (try simp only [Int.cast_ofNat_Int, Int.natCast_zero, Int.natCast_one] at c); with_reducible refine c.mono ?_; rintro e' w1 ⟨rfl, rfl⟩) | (go_at_call 72; have c := vrs_w x hx w; (try simp only [Int.cast_ofNat_Int, Int.natCast_zero, Int.natCast_one] at c); with_reducible refine c.mono ?_; rintro e' w1 ⟨rfl, rfl⟩) | (go_at_call 73; have c := vb12_w x hx w; rw [HA.out] at c; (try simp only [Int.cast_ofNat_Int, Int.natCast_zero, Int.natCast_one] at c); with_reducible refine c.mono ?_; rintro e' w1 ⟨rfl, rfl⟩) | (go_at_call 60; have c := wI_w 103 0 1 (rD x) 0 (by decide) (by decide) (by decide) rd0 (by decide) w TB.out; (try simp only [Int.cast_ofNat_Int, Int.natCast_zero, Int.natCast_one] at c); with_reducible refine c.mono ?_; rintro e' w1 ⟨rfl, rfl⟩))
    go_ret2
    exact ⟨rfl, rfl⟩
  · go_enter Tryd.func34, Tryd.ntmps34
    go_wp2_with (first | (go_at_call 66; have c := vrd_w x hx w; (try simp only [Int.cast_ofNat_Int, Int.natCast_zero, Int.natCast_one] at c); with_reducible refine c.mono ?_; rintro e' w1 ⟨rfl, rfl⟩) | (go_at_call 72; have c := vrs_w x hx w; (try simp only [Int.cast_ofNat_Int, Int.natCast_zero, Int.natCast_one] at c); with_reducible refine c.mono ?_; rintro e' w1 ⟨rfl, rfl⟩) | (go_at_call 73; have c := vb12_w x hx w; rw [HA.out] at c; (try simp only [Int.cast_ofNat_Int, Int.natCast_zero, Int.natCast_one] at c); with_reducible refine c.mono ?_; rintro e' w1 ⟨rfl, rfl⟩) | (go_at_call 74; have c := wR_w 51 0 (rD x) (rD x) (rS x) (by decide) (by decide) rd0 rd0 rs0 w; (try simp only [Int.cast_ofNat_Int, Int.natCast_zero, Int.natCast_one] at c); with_reducible refine c.mono ?_; rintro e' w1 ⟨rfl, rfl⟩))
    go_ret2
    exact ⟨rfl, rfl⟩
  · go_enter Tryd.func34, Tryd.ntmps34
    go_wp2_with (first | (go_at_call 66; have c := vrd_w x hx w; (try simp only [Int.cast_ofNat_Int, Int.natCast_zero, Int.natCast_one] at c); with_reducible refine c.mono ?_; rintro e' w1 ⟨rfl, rfl⟩) | (go_at_call 72; have c := vrs_w x hx w; (try simp only [Int.cast_ofNat_Int, Int.natCast_zero, Int.natCast_one] at c); with_reducible refine c.mono ?_; rintro e' w1 ⟨rfl, rfl⟩) | (go_at_call 73; have c := vb12_w x hx w; rw [HA.out] at c; (try simp only [Int.cast_ofNat_Int, Int.natCast_zero, Int.natCast_one] at c); with_reducible refine c.mono ?_; rintro e' w1 ⟨rfl, rfl⟩) | (go_at_call 74; have c := wR_w 51 0 (rD x) (rD x) (rS x) (by decide) (by decide) rd0 rd0 rs0 w; (try simp only [Int.cast_ofNat_Int, Int.natCast_zero, Int.natCast_one] at c); with_reducible refine c.mono ?_; rintro e' w1 ⟨rfl, rfl⟩))
    go_ret2
    exact ⟨rfl, rfl⟩
end Go.Proofs.YtlfeandnpflaaaaDoor
