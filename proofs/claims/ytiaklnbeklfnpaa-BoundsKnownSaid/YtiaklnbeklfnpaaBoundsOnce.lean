/-
  BoundsOnce: an address and a length that masks and rounds allow have just their bounds: the walk of the law. No condition.
-/
import Derived.Test.YtiaklnbeklfnpaaBMask
import Derived.Test.YtiaklnbeklfnpaaBKnown
namespace Go.Proofs.Ytiaklnbeklfnpaa.boundsOnce
open Go.ChangeShapes Go.WideShapes Go.ChangeAt Go.RowKit
set_option linter.unusedVariables false
set_option linter.unusedSimpArgs false
theorem own : ownKnob Try.prog.godebug = none := by kernel_rfl
set_option maxHeartbeats 4000000 in
set_option maxRecDepth 100000 in
theorem all_k (v0 : World) (a n : Int) (a0 : 0 ≤ a) (a1 : a < 18446744073709551616) (n0 : 0 ≤ n) (n1 : n < 18446744073709551616) (w : World) (hk : Kp v0 w) :
    Calls Try.prog 11 #[.int .u64 a, .int .u64 n] w fun e w' => e = .returned (.bool true) ∧ Kp v0 w' := by
  obtain ⟨N, r0⟩ : ∃ N : Int, N = n % 9223372036854775809 := ⟨_, rfl⟩
  have N0 : 0 ≤ N := by omega
  have N1 : N ≤ 9223372036854775808 := by omega
  obtain ⟨c1, c2, c3, c4, c5, c6, c7, c8, c9⟩ := once_round N N0 N1
  obtain ⟨d1, d2, d3⟩ := once_lay a N a0 a1 N0 N1
  obtain ⟨l, rl⟩ : ∃ l : Int, l = roundV N := ⟨_, rfl⟩
  obtain ⟨m, rm⟩ : ∃ m : Int, m = maskV N := ⟨_, rfl⟩
  rw [← rm] at c4 c5 c7 c8 c9 d1 d2 d3
  rw [← rl] at c1 c2 c3 c4 c5 c6 c7 d3
  obtain ⟨p, rp⟩ : ∃ p : Int, p = bits .and .u64 a m := ⟨_, rfl⟩
  rw [← rp] at d1 d2 d3
  have hl : l < 18446744073709551616 := by omega
  have E0 := (layE_bd p l c1 hl)
  have B0 := layB_bd p l
  have T0 := layT_bd p l
  have t1 : decide (l < N) = false := by simp; omega
  have t2 := not64 m c8 c9
  have t3 : decide (18446744073709551615 - m < l - N) = false := by simp; omega
  have r0' : n % 9223372036854775809 = N := r0.symm
  have rl' : roundV N = l := rl.symm
  have rm' : maskV N = m := rm.symm
  have rp' : bits .and .u64 a m = p := rp.symm
  have g1 : 0 ≤ l - N := by omega
  clear r0 rl rm rp
  cases hf : fitsB p l
  · clear d3
    go_enter Try.func11, Try.ntmps11
    go_wp2_with (first
      | (go_at_call 13; refine (mask_w _ (by omega) (by omega) _).mono ?_; rintro e' w1 ⟨rfl, qk⟩; have KW : Kp v0 w1 := Kp.trans (by assumption) qk; clear qk)
      | (go_at_call 14; refine (round_w _ (by omega) (by omega) (by simp only [*]) (by simp only [*]) _).mono ?_; rintro e' w1 ⟨rfl, qk⟩; have KW : Kp v0 w1 := Kp.trans (by assumption) qk; clear qk)
      | (go_at_call 20; refine (fits_w _ _ (by omega) (by omega) (by omega) (by omega) _).mono ?_; rintro e' w1 ⟨rfl, rfl⟩)
      | (go_at_call 8; refine (known_w _).mono ?_; rintro e' w1 ⟨rfl, qk⟩; have KW : Kp v0 w1 := Kp.trans (by assumption) qk; clear qk))
    go_ret
    exact ⟨rfl, KW⟩
  · have hfit : p + l ≤ 18446744073709551616 := by simpa [fitsB] using hf
    obtain ⟨y1, y2, y3⟩ := d3 hfit
    clear d3 hfit
    obtain ⟨E, eE⟩ : ∃ E : Int, E = layE p l := ⟨_, rfl⟩
    obtain ⟨B, eB⟩ : ∃ B : Int, B = layB p l := ⟨_, rfl⟩
    obtain ⟨T, eT⟩ : ∃ T : Int, T = layT p l := ⟨_, rfl⟩
    obtain ⟨G, eG⟩ : ∃ G : Bool, G = bigB l := ⟨_, rfl⟩
    rw [← eE] at E0 y2 y3
    rw [← eB] at B0 y2 y3
    rw [← eT] at T0 y3
    rw [← eG] at y3
    obtain ⟨tt, et⟩ : ∃ tt : Int, tt = ofT E B T G p := ⟨_, rfl⟩
    obtain ⟨oo, eo⟩ : ∃ oo : Bool, oo = ofO E B T G p := ⟨_, rfl⟩
    have tb := ofT_bd E B T G p
    rw [← et] at y3 tb
    rw [← eo] at y3
    have eE' : layE p l = E := eE.symm
    have eB' : layB p l = B := eB.symm
    have eT' : layT p l = T := eT.symm
    have eG' : bigB l = G := eG.symm
    have et' : ofT E B T G p = tt := et.symm
    have eo' : ofO E B T G p = oo := eo.symm
    clear eE eB eT eG et eo
    go_enter Try.func11, Try.ntmps11
    go_wp2_with (first
      | (go_at_call 13; refine (mask_w _ (by omega) (by omega) _).mono ?_; rintro e' w1 ⟨rfl, qk⟩; have KW : Kp v0 w1 := Kp.trans (by assumption) qk; clear qk)
      | (go_at_call 14; refine (round_w _ (by omega) (by omega) (by simp only [*]) (by simp only [*]) _).mono ?_; rintro e' w1 ⟨rfl, qk⟩; have KW : Kp v0 w1 := Kp.trans (by assumption) qk; clear qk)
      | (go_at_call 20; refine (fits_w _ _ (by omega) (by omega) (by omega) (by omega) _).mono ?_; rintro e' w1 ⟨rfl, rfl⟩)
      | (go_at_call 18; refine (lay_w _ _ _ _ _ _ _ _ _ _ (by omega) (by omega) (by omega) (by omega) _).mono ?_; rintro e' w1 ⟨rfl, qk⟩; have KW : Kp v0 w1 := Kp.trans (by assumption) qk; clear qk)
      | (go_at_call 19; refine (of_w _ _ _ _ _ _ _ _ _ (by omega) (by omega) (by omega) (by omega) (by omega) (by omega) (by omega) (by omega) _).mono ?_; rintro e' w2 ⟨rfl, qk⟩; have KV : Kp v0 w2 := Kp.trans (Kp.allocs KW _ _) qk; clear qk)
      | (go_at_call 7; refine (len_w _ _ _ (by omega) (by omega) (by omega) (by omega) _).mono ?_; rintro e' w3 ⟨rfl, qk⟩; have KU : Kp v0 w3 := Kp.trans (Kp.allocs KV _ _) qk; clear qk)
      | (go_at_call 8; refine (known_w _).mono ?_; rintro e' w4 ⟨rfl, qk⟩; have KT : Kp v0 w4 := Kp.trans KU qk; clear qk))
    go_ret
    exact ⟨rfl, KT⟩
theorem walk (a0 : Int) (a1 : Int) (w0 : (Lit.int .u64 a0).wf = true) (w1 : (Lit.int .u64 a1).wf = true) (w : World) :
    Calls Try.prog 11 #[.int .u64 a0, .int .u64 a1] w fun e w' => e = .returned (.bool true) ∧ Grown w w' :=
  (all_k w a0 a1 (u64_bd w0).1 (u64_bd w0).2 (u64_bd w1).1 (u64_bd w1).2 w (Kp.refl w)).mono fun _ _ h => ⟨h.1, h.2.grown⟩
end Go.Proofs.Ytiaklnbeklfnpaa.boundsOnce
