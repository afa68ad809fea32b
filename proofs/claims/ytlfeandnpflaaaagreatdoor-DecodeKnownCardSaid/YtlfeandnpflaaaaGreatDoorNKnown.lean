/-
  DecodeKnown of layer 10: all halves, and words of all operations and functions. No condition but what the tables hold.
-/
import Derived.Test.YtlfeandnpflaaaaGreatDoorMM
import Derived.Test.YtlfeandnpflaaaaGreatDoorMN
namespace Go.Proofs.YtlfeandnpflaaaaGreatDoor
open Go.ChangeShapes Go.WideShapes Go.ChangeAt Go.RowKit
set_option linter.unusedVariables false
set_option linter.unusedSimpArgs false
theorem bits32 (o : BinOp) (a b : Int) : 0 ≤ bits o .u32 a b ∧ bits o .u32 a b < 4294967296 := by
  have h := wf_bits o .u32 a b
  have hm0 : IntKind.u32.min = 0 := rfl
  have hm1 : IntKind.u32.max = 4294967295 := rfl
  simp only [Lit.wf, Bool.and_eq_true, decide_eq_true_eq, hm0, hm1] at h
  omega
set_option maxHeartbeats 16000000 in
theorem known10_w (w : World) (tb : Tb w) : Calls Tryz.prog 4 #[] w fun e w' => e = .returned (.bool true) ∧ Kp w w' := by
  have TB := Lib.hid tb
  clear tb
  go_enter Tryz.func4, Tryz.ntmps4
  go_wp2
  go_loopw [1] (fun h wr => ∃ n : Nat, n ≤ 65540 ∧ h = .int .u32 n ∧ Kp w wr) (fun h _ => 65540 - (intOf h).toNat)
  case atStart => exact ⟨0, by omega, rfl, Kp.refl w⟩
  case round =>
    obtain ⟨n, hn, rfl, hk⟩ := hrel
    have HK0 := Lib.hid hk
    clear hk
    by_cases hlt : n < 65536
    · have e0 : (decide ((n : Int) < 65536)) = true := by simp; omega
      go_wp2_with (go_at_call 3; (with_reducible refine Calls.mono (tells_w n (by omega) (by omega) _ (TB.out.kp HK0.out)) ?_); rintro e' w1 ⟨rfl, qk⟩; have HK1 := Lib.hid (HK0.out.trans qk); clear qk)
      go_roundw
      case rel => exact ⟨n + 3, by omega, by go_num, HK1.out⟩
      case measure => simp [intOf]; omega
    · have e0 : (decide ((n : Int) < 65536)) = false := by simp; omega
      go_wp2
      go_loopw [2] (fun op w2 => ∃ m : Nat, m ≤ 131 ∧ op = .int .u32 m ∧ Kp w w2) (fun op _ => 132 - (intOf op).toNat)
      case atStart => exact ⟨3, by omega, rfl, HK0.out⟩
      case round =>
        obtain ⟨m, hm, rfl, hk⟩ := hrel
        have HK1 := Lib.hid hk
        clear hk
        by_cases hlt2 : m < 128
        · have e1 : (decide ((m : Int) < 128)) = true := by simp; omega
          go_wp2
          go_loopw [3] (fun f w3 => ∃ g : Nat, g ≤ 8 ∧ f = .int .u32 g ∧ Kp w w3) (fun f _ => 8 - (intOf f).toNat)
          case atStart => exact ⟨0, by omega, rfl, HK1.out⟩
          case round =>
            obtain ⟨g, hg, rfl, hk⟩ := hrel
            have HK2 := Lib.hid hk
            clear hk
            by_cases hlt3 : g < 8
            · have e2 : (decide ((g : Int) < 8)) = true := by simp; omega
              have ht : ((g : Int).tmod 3) = (g : Int) % 3 := Int.tmod_eq_emod_of_nonneg (by omega)
              go_wp2
              go_loopw [4] (fun k w4 => ∃ j : Nat, j ≤ 130 ∧ k = .int .u32 j ∧ Kp w w4) (fun k _ => 131 - (intOf k).toNat)
              case atStart => exact ⟨0, by omega, rfl, HK2.out⟩
              case round =>
                obtain ⟨j, hj, rfl, hk⟩ := hrel
                have HK3 := Lib.hid hk
                clear hk
                by_cases hlt4 : j < 128
                · have e3 : (decide ((j : Int) < 128)) = true := by simp; omega
                  go_wp2_with (first | (go_at_call 3; (with_reducible refine Calls.mono (tells_w _ (bits32 _ _ _).1 (bits32 _ _ _).2 _ (TB.out.kp HK3.out)) ?_); rintro e' w4 ⟨rfl, qk⟩; have HK4 := Lib.hid (HK3.out.trans qk); clear qk) | (go_at_call 10; (with_reducible refine Calls.mono (total_w _ j (bits32 _ _ _).1 (bits32 _ _ _).2 (by omega) (by omega) _ (TB.out.kp HK4.out)) ?_); rintro e' w5 ⟨rfl, qk⟩; have HK5 := Lib.hid (HK4.out.trans qk); clear qk) | (go_at_call 11; (with_reducible refine Calls.mono (who_w _ (bits32 _ _ _).1 (bits32 _ _ _).2 _ (TB.out.kp HK5.out)) ?_); rintro e' w6 ⟨rfl, qk⟩; have HK6 := Lib.hid (HK5.out.trans qk); clear qk) | (go_at_call 11; (with_reducible refine Calls.mono (who_w _ (bits32 _ _ _).1 (bits32 _ _ _).2 _ (TB.out.kp HK6.out)) ?_); rintro e' w7 ⟨rfl, qk⟩; have HK7 := Lib.hid (HK6.out.trans qk); clear qk))
                  go_roundw
                  case rel => exact ⟨j + (1 + g % 3), by omega, by first | go_num | (congr 1; simp only [IntKind.wrap_u32]; omega), HK7.out⟩
                  case measure => simp [intOf, IntKind.wrap_u32]; omega
                · have e3 : (decide ((j : Int) < 128)) = false := by simp; omega
                  go_wp2
                  go_roundw
                  case rel => exact ⟨g + 1, by omega, by go_num, HK3.out⟩
                  case measure => simp [intOf]; omega
            · have e2 : (decide ((g : Int) < 8)) = false := by simp; omega
              go_wp2
              go_roundw
              case rel => exact ⟨m + 4, by omega, by go_num, HK2.out⟩
              case measure => simp [intOf]; omega
        · have e1 : (decide ((m : Int) < 128)) = false := by simp; omega
          go_wp2_with (go_at_call 9; (with_reducible refine Calls.mono (works10_w _ (TB.out.kp HK1.out)) ?_); rintro e' wz ⟨rfl, qk⟩; have KZ := Lib.hid (HK1.out.trans qk); clear qk)
          go_ret
          exact ⟨rfl, KZ.out⟩
end Go.Proofs.YtlfeandnpflaaaaGreatDoor
