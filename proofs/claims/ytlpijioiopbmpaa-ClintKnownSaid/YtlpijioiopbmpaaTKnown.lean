/-
  ClintKnown of layer 13: its walk. No condition but what the calls lean on.
-/
import Derived.Test.YtlpijioiopbmpaaTOne
namespace Go.Proofs.Ytlpijioiopbmpaa
open Go.ChangeShapes Go.WideShapes Go.ChangeAt Go.RowKit
set_option linter.unusedVariables false
set_option linter.unusedSimpArgs false
def nS1 : TS := TS.new.stS 16384 8 10
def nS2 : TS := nS1.stS 16388 4 1
def nS3 : TS := nS2.stS 0 4 3
def nS4 : TS := nS3.stS 49144 8 18446744073709551615
def nS5 : TS := nS4.tick 3
theorem nk1 : nS1.Ok := TS.new_ok.stS _ _ _ (by decide) (by decide)
theorem nk2 : nS2.Ok := nk1.stS _ _ _ (by decide) (by decide)
theorem nk3 : nS3.Ok := nk2.stS _ _ _ (by decide) (by decide)
theorem nk4 : nS4.Ok := nk3.stS _ _ _ (by decide) (by decide)
theorem nk5 : nS5.Ok := nk4.tick _
theorem nf3 : nS2.ldV 16384 8 = 4294967306 := by decide +kernel
theorem nf4 : nS2.timer = false := by decide +kernel
theorem nf6 : nS3.be = true := by decide +kernel
theorem nf7 : nS3.ldV 0 4 = 1 := by decide +kernel
theorem nf8 : nS3.ldV 0 8 = 0 := by decide +kernel
theorem nf9 : nS3.ldV 16388 8 = 0 := by decide +kernel
theorem nf10 : nS5.tick (-5) = nS5 := rfl
theorem nf11 : nS5.now = 2 := by decide +kernel
/-- The places that are gone through. -/
def nP : List Int := [-9223372036854775808, -4, 1, 4, 8, 16380, 16386, 16392, 49140, 49152, 9223372036854775807]
def nV : List Value := nP.map fun x => .int .i64 x
theorem nP_no : nP.all (fun x => decide (-9223372036854775808 ≤ x) && decide (x < 9223372036854775808) && (List.range 19).all (fun m => !rgT x ((m : Int) - 1))) = true := by decide +kernel
theorem nP_at (k : Nat) (hk : k < 11) : ∃ x, nP[k]? = some x ∧ nV[k]? = some (.int .i64 x) ∧ -9223372036854775808 ≤ x ∧ x < 9223372036854775808 ∧ ∀ m : Nat, m < 19 → rgT x ((m : Int) - 1) = false := by
  have hl : nP.length = 11 := rfl
  have h1 : nP[k]? = some nP[k] := List.getElem?_eq_getElem (by omega)
  have := List.all_eq_true.1 nP_no nP[k] (List.getElem_mem _)
  simp only [Bool.and_eq_true, decide_eq_true_eq, List.all_eq_true, List.mem_range, Bool.not_eq_true'] at this
  exact ⟨nP[k], h1, by rw [nV, List.getElem?_map, h1]; rfl, this.1.1, this.1.2, this.2⟩
set_option maxRecDepth 100000 in
set_option maxHeartbeats 16000000 in
theorem known13c_w (W : World) (tb : TTb W) :
    Calls Try.prog 6 #[] W fun e w' => e = .returned (.bool true) ∧ Below W.heap.size W w' := by
  have HTB := Lib.hid tb
  have NK0 := Lib.hid TS.new_ok
  have NK1 := Lib.hid nk1
  have NK2 := Lib.hid nk2
  have NK3 := Lib.hid nk3
  have NK4 := Lib.hid nk4
  have NK5 := Lib.hid nk5
  clear tb
  go_enter Try.func6, Try.ntmps6
  go_wp2_with (first | (go_at_call 8; (with_reducible refine (ctnew_w _ HTB.out).mono ?_); rintro e' w0 ⟨g, rfl, m0, b0⟩; have hs0 := b0.size; have H0 := Lib.hid (OneT.mk m0 b0); clear m0 b0) | (go_at_call 14; (with_reducible refine (ctstore_at H0.out.o NK0.out (TTb.h1 HTB (Lib.hid H0.out.b)) 16384 8 10 true nS1 (by decide) rfl (by decide) (by decide) (by decide) (by decide) (by decide) (by decide)).mono ?_); rintro e' w1 ⟨rfl, m1, f1⟩; have hs1 := f1.size; have H1 := Lib.hid (H0.out.code m1 f1); clear m1 f1) | (go_at_call 14; (with_reducible refine (ctstore_at H1.out.o NK1.out (TTb.h1 HTB (Lib.hid H1.out.b)) 16388 4 1 true nS2 (by decide) rfl (by decide) (by decide) (by decide) (by decide) (by decide) (by decide)).mono ?_); rintro e' w2 ⟨rfl, m2, f2⟩; have hs2 := f2.size; have H2 := Lib.hid (H1.out.code m2 f2); clear m2 f2) | (go_at_call 12; (with_reducible refine (ctload_at H2.out.o NK2.out (TTb.h1 HTB (Lib.hid H2.out.b)) 16384 8 4294967306 true nf3 (by decide) (by decide) (by decide) (by decide) (by decide)).mono ?_); rintro e' w3 ⟨rfl, m3, f3⟩; have hs3 := f3.size; have H3 := Lib.hid (H2.out.code m3 f3); clear m3 f3) | (go_at_call 21; (with_reducible refine (cttimer_at H3.out.o NK2.out (TTb.h1 HTB (Lib.hid H3.out.b)) false nf4).mono ?_); rintro e' w4 ⟨rfl, m4, f4⟩; have hs4 := f4.size; have H4 := Lib.hid (H3.out.code m4 f4); clear m4 f4) | (go_at_call 14; (with_reducible refine (ctstore_at H4.out.o NK2.out (TTb.h1 HTB (Lib.hid H4.out.b)) 0 4 3 true nS3 (by decide) rfl (by decide) (by decide) (by decide) (by decide) (by decide) (by decide)).mono ?_); rintro e' w5 ⟨rfl, m5, f5⟩; have hs5 := f5.size; have H5 := Lib.hid (H4.out.code m5 f5); clear m5 f5) | (go_at_call 19; (with_reducible refine (ctsoft_at H5.out.o NK3.out (TTb.h1 HTB (Lib.hid H5.out.b)) true nf6).mono ?_); rintro e' w6 ⟨rfl, m6, f6⟩; have hs6 := f6.size; have H6 := Lib.hid (H5.out.code m6 f6); clear m6 f6) | (go_at_call 12; (with_reducible refine (ctload_at H6.out.o NK3.out (TTb.h1 HTB (Lib.hid H6.out.b)) 0 4 1 true nf7 (by decide) (by decide) (by decide) (by decide) (by decide)).mono ?_); rintro e' w7 ⟨rfl, m7, f7⟩; have hs7 := f7.size; have H7 := Lib.hid (H6.out.code m7 f7); clear m7 f7))
  have hA := At.new w7 nV 3
  have H8 := Lib.hid (H7.out.alloc (.cells nV.toArray 3))
  have hs8 : (w7.alloc (.cells nV.toArray 3)).heap.size = w7.heap.size + 1 := by simp
  rw [show nV.toArray = #[.int .i64 (-9223372036854775808), .int .i64 (-4), .int .i64 1, .int .i64 4, .int .i64 8, .int .i64 16380, .int .i64 16386, .int .i64 16392, .int .i64 49140, .int .i64 49152, .int .i64 9223372036854775807] from rfl] at hA H8 hs8
  generalize w7.alloc (.cells #[.int .i64 (-9223372036854775808), .int .i64 (-4), .int .i64 1, .int .i64 4, .int .i64 8, .int .i64 16380, .int .i64 16386, .int .i64 16392, .int .i64 49140, .int .i64 49152, .int .i64 9223372036854775807] 3) = w8 at hA H8 hs8 ⊢
  have hbw : w0.heap.size ≤ w7.heap.size := by omega
  generalize hhi : w0.heap.size = hi at *
  generalize hb : w7.heap.size = b at *
  have HA8 := Lib.hid hA
  clear hA hb hhi H0 H1 H2 H3 H4 H5 H6 H7
  go_loopw [7] (fun i wr => ∃ k : Nat, k ≤ 11 ∧ i = .int .i64 (k : Int) ∧ OneT W wr hi g nS3 ∧ At b nV wr) (fun i _ => 11 - (intOf i).toNat)
  case atStart => exact ⟨0, by omega, rfl, H8.out, HA8.out⟩
  case round =>
    clear H8 HA8
    obtain ⟨k, hk, rfl, h, hA5⟩ := hrel
    have hWs := h.b.size
    have htop := h.o.top
    have H := Lib.hid h
    by_cases hlt : k < 11
    · obtain ⟨x, hx, hv, x0, x1, hrg⟩ := nP_at k hlt
      have hlt5 : b < wr.heap.size := World.block_lt_of_cell? wr _ (hA5 0 _ rfl)
      have HI := Lib.hid hv
      have HA := Lib.hid hA5
      have HRG := Lib.hid hrg
      have f1 : (k : Int) < 11 := by omega
      clear h hA5 hrg hv hx
      go_wp2
      obtain ⟨w5, hw5⟩ : ∃ w5, w5 = wr := ⟨_, rfl⟩
      rw [← hw5] at H HA hWs htop hlt5 ⊢
      clear hw5
      go_loopw [8] (fun z wr => ∃ m : Nat, m ≤ 19 ∧ z = .int .i64 ((m : Int) - 1) ∧ OneT W wr hi g nS3 ∧ At b nV wr) (fun z _ => 19 - (intOf z + 1).toNat)
      case atStart => exact ⟨0, by omega, rfl, H.out, HA.out⟩
      case round =>
        clear H HA hWs htop hlt5
        obtain ⟨m, hm, rfl, h, hA5⟩ := hrel
        have hWs := h.b.size
        have htop := h.o.top
        have hlt5 : b < wr.heap.size := World.block_lt_of_cell? wr _ (hA5 0 _ rfl)
        have y20 := hA5 _ _ HI.out
        have H2 := Lib.hid h
        have HA2 := Lib.hid hA5
        clear h hA5
        by_cases hmm : m < 19
        · have hr := HRG.out m hmm
          have HR := Lib.hid (show nS3.ldV x ((m : Int) - 1) = 0 ∧ rgT x ((m : Int) - 1) = false ∧ nS3.stS x ((m : Int) - 1) 1 = nS3 from ⟨by unfold TS.ldV; rw [hr]; rfl, hr, by unfold TS.stS; rw [hr]; rfl⟩)
          clear hr
          have f2 : (m : Int) - 1 < 18 := by omega
          go_wp2_with (first | (go_at_call 12; (with_reducible refine (ctload_at H2.out.o NK3.out (TTb.h1 HTB (Lib.hid H2.out.b)) x ((m : Int) - 1) 0 false HR.out.1 HR.out.2.1 x0 x1 (by omega) (by omega)).mono ?_); rintro e' w21 ⟨rfl, m21, f21⟩; have hs21 := f21.size; have H21 := Lib.hid (H2.out.code m21 f21); have HA21 := Lib.hid (HA2.out.fram f21 (by omega) (fun x => by unfold Rg at x; omega)); have y21 := HA21.out _ _ HI.out; clear m21 f21) | (go_at_call 14; (with_reducible refine (ctstore_at H21.out.o NK3.out (TTb.h1 HTB (Lib.hid H21.out.b)) x ((m : Int) - 1) 1 false nS3 HR.out.2.1 HR.out.2.2 x0 x1 (by omega) (by omega) (by decide) (by decide)).mono ?_); rintro e' w22 ⟨rfl, m22, f22⟩; have hs22 := f22.size; have H22 := Lib.hid (H21.out.code m22 f22); have HA22 := Lib.hid (HA21.out.fram f22 (by omega) (fun x => by unfold Rg at x; omega)); clear m22 f22))
          go_roundw
          case rel => exact ⟨m + 1, by omega, by go_num, H22.out, HA22.out⟩
          case measure => simp [intOf]; omega
        · obtain rfl : m = 19 := by omega
          go_wp2
          go_roundw
          case rel => exact ⟨k + 1, by omega, by go_num, H2.out, HA2.out⟩
          case measure => simp [intOf]; omega
    · obtain rfl : k = 11 := by omega
      clear h hA5
      go_wp2_with (first | (go_at_call 12; (with_reducible refine (ctload_at H.out.o NK3.out (TTb.h1 HTB (Lib.hid H.out.b)) 0 8 0 false nf8 (by decide) (by decide) (by decide) (by decide) (by decide)).mono ?_); rintro e' w11 ⟨rfl, m11, f11⟩; have hs11 := f11.size; have H11 := Lib.hid (H.out.code m11 f11); clear m11 f11) | (go_at_call 12; (with_reducible refine (ctload_at H11.out.o NK3.out (TTb.h1 HTB (Lib.hid H11.out.b)) 16388 8 0 false nf9 (by decide) (by decide) (by decide) (by decide) (by decide)).mono ?_); rintro e' w12 ⟨rfl, m12, f12⟩; have hs12 := f12.size; have H12 := Lib.hid (H11.out.code m12 f12); clear m12 f12) | (go_at_call 14; (with_reducible refine (ctstore_at H12.out.o NK3.out (TTb.h1 HTB (Lib.hid H12.out.b)) 49144 8 18446744073709551615 true nS4 (by decide) rfl (by decide) (by decide) (by decide) (by decide) (by decide) (by decide)).mono ?_); rintro e' w13 ⟨rfl, m13, f13⟩; have hs13 := f13.size; have H13 := Lib.hid (H12.out.code m13 f13); clear m13 f13) | (go_at_call 16; (with_reducible refine (cttick_at H13.out.o NK4.out (TTb.h1 HTB (Lib.hid H13.out.b)) 3 nS5 rfl (by decide) (by decide)).mono ?_); rintro e' w14 ⟨rfl, m14, f14⟩; have hs14 := f14.size; have H14 := Lib.hid (H13.out.code m14 f14); clear m14 f14) | (go_at_call 16; (with_reducible refine (cttick_at H14.out.o NK5.out (TTb.h1 HTB (Lib.hid H14.out.b)) (-5) nS5 nf10 (by decide) (by decide)).mono ?_); rintro e' w15 ⟨rfl, m15, f15⟩; have hs15 := f15.size; have H15 := Lib.hid (H14.out.code m15 f15); clear m15 f15) | (go_at_call 20; (with_reducible refine (cttime_at H15.out.o NK5.out (TTb.h1 HTB (Lib.hid H15.out.b)) 2 nf11).mono ?_); rintro e' w16 ⟨rfl, m16, f16⟩; have hs16 := f16.size; have H16 := Lib.hid (H15.out.code m16 f16); clear m16 f16) | (go_at_call 18; (with_reducible refine (known13_w _ (TTb.h1 HTB (Lib.hid H16.out.b))).mono ?_); rintro e' w17 ⟨rfl, b17⟩; have HZ := Lib.hid (H16.out.b.trans (b17.mono H16.out.b.size)); clear b17))
      go_ret
      exact ⟨rfl, HZ.out⟩
end Go.Proofs.Ytlpijioiopbmpaa
