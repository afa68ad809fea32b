/-
  The statements' done: a controller behind some calls. No condition but what the calls lean on.
-/
import Derived.Test.YtamhhdhoeghafaaPWorks
import Derived.Test.YtamhhdhoeghafaaPList
namespace Go.Proofs.Ytamhhdhoeghafaa
open Go.ChangeShapes Go.WideShapes Go.ChangeAt Go.RowKit
set_option linter.unusedVariables false
set_option linter.unusedSimpArgs false
set_option maxRecDepth 4000 in
set_option maxHeartbeats 8000000 in
theorem done12_w (l : List Po) (A : Option Addr) (cap : Nat) (W : World) (hrd : RdPo W W.heap.size A l) (hraw : ∀ c ∈ l, c.Raw) (hlen : l.length ≤ 9223372036854775807) (tb : PTb W) :
    Calls Try.prog 19 #[.slice A l.length cap] W fun e w' => ∃ g hi S, e = .returned (.pointer (some ⟨g, 0, none⟩)) ∧ S.Ok ∧ Pl w' W.heap.size hi g S ∧ Below W.heap.size W w' := by
  have HRD := Lib.hid hrd
  have HRAW := Lib.hid hraw
  have HTB := Lib.hid tb
  clear hrd hraw tb
  go_enter Try.func19, Try.ntmps19
  go_wp2_with (go_at_call 9; (with_reducible refine (cpnew_w _ HTB.out).mono ?_); rintro e' w0 ⟨g, rfl, m0, b0⟩; have hs0 := b0.size; have HM0 := Lib.hid m0; have HB0 := Lib.hid b0; clear m0 b0)
  generalize hhi : w0.heap.size = hi at *
  clear hhi
  go_loopw [4] (fun i wr => ∃ (k : Nat) (S : PS), k ≤ l.length ∧ i = .int .i64 (k : Int) ∧ S.Ok ∧ Pl wr W.heap.size hi g S ∧ Below W.heap.size W wr) (fun i _ => l.length - (intOf i).toNat)
  case atStart => exact ⟨0, PS.new, Nat.zero_le _, rfl, PS.new_ok, HM0.out, HB0.out⟩
  case round =>
    clear HM0 HB0
    obtain ⟨k, S, hk, rfl, ok, m, bl⟩ := hrel
    have OK := Lib.hid ok
    have HM := Lib.hid m
    have HB := Lib.hid bl
    have hL := HRD.out.below bl
    have HTW := Lib.hid (PTb.h1 HTB HB)
    clear ok m bl
    by_cases hlt : k < l.length
    · obtain ⟨bb, oo, rfl, hbb, c, hc, hrow⟩ := hL.at_ hlt
      obtain ⟨q0, q1, q2, q3, q4⟩ := hrow.out
      have hraw := HRAW.out c (List.mem_of_getElem? hc)
      clear hrow hc hL
      obtain ⟨ck, coff, csize, cv, cm⟩ := c
      dsimp only [Po.Raw] at *
      obtain ⟨⟨k0, k1⟩, ⟨o0, o1⟩, ⟨z0, z1⟩, ⟨v0, v1⟩, ⟨m0, m1⟩⟩ := hraw
      rcases (show ck = 0 ∨ ck = 1 ∨ ck = 2 ∨ (¬ ck = 0 ∧ ¬ ck = 1 ∧ ¬ ck = 2) by omega) with rfl | rfl | rfl | ⟨h0, h1, h2⟩
      · go_wp2_with (go_at_call 11; (with_reducible refine (cplines_w HM.out OK.out HTW.out cm m0 m1).mono ?_); rintro e' w1 ⟨rfl, m1, f1⟩; have HM1 := Lib.hid m1; have HB1 := Lib.hid (HB.out.trans (f1.lows HB.out.size (Nat.le_refl _))); clear m1 f1)
        go_roundw
        case rel => exact ⟨k + 1, S.lines cm, by omega, by go_num, OK.out.lines _, HM1.out, HB1.out⟩
        case measure => simp [intOf]; omega
      · have HMd := Lib.hid (HM.out.fr (Fr.drew (Fr.refl wr (fun _ => False))) (fun _ _ _ h => h))
        have HBd := Lib.hid HB.out.drew
        have HTd := Lib.hid (PTb.h1 HTB HBd)
        go_upto_region 9 with fail
        refine wp_region_still_tail 11 (by kernel_rfl) (by kernel_rfl) ?_
        simp only [List.take_succ_cons, List.take_zero, List.drop_succ_cons, List.drop_zero]
        repeat (with_reducible refine wpStill_step (fun K hK => ?_); go_simp; with_reducible refine hK _ ?_; clear hK K)
        with_reducible refine wpStill_nil ?_
        change wpList _ _ _ _ _ wr.drew
        go_wp2_with (go_at_call 13; (with_reducible refine (cpload_w HMd.out OK.out HTd.out coff csize o0 o1 z0 z1).mono ?_); rintro e' w1 ⟨rfl, m1, f1⟩; have HM1 := Lib.hid m1; have HB1 := Lib.hid (HBd.out.trans (f1.lows HBd.out.size (Nat.le_refl _))); clear m1 f1)
        go_roundw
        case rel => exact ⟨k + 1, S.ldS coff csize, by omega, by go_num, OK.out.ldS _ _, HM1.out, HB1.out⟩
        case measure => simp [intOf]; omega
      · have HMd := Lib.hid (HM.out.fr (Fr.drew (Fr.refl wr (fun _ => False))) (fun _ _ _ h => h))
        have HBd := Lib.hid HB.out.drew
        have HTd := Lib.hid (PTb.h1 HTB HBd)
        go_upto_region 11 with fail
        refine wp_region_still_tail 16 (by kernel_rfl) (by kernel_rfl) ?_
        simp only [List.take_succ_cons, List.take_zero, List.drop_succ_cons, List.drop_zero]
        repeat (with_reducible refine wpStill_step (fun K hK => ?_); go_simp; with_reducible refine hK _ ?_; clear hK K)
        with_reducible refine wpStill_nil ?_
        change wpList _ _ _ _ _ wr.drew
        go_wp2_with (go_at_call 15; (with_reducible refine (cpstore_w HMd.out OK.out HTd.out coff csize cv o0 o1 z0 z1 v0 v1).mono ?_); rintro e' w1 ⟨rfl, m1, f1⟩; have HM1 := Lib.hid m1; have HB1 := Lib.hid (HBd.out.trans (f1.lows HBd.out.size (Nat.le_refl _))); clear m1 f1)
        go_roundw
        case rel => exact ⟨k + 1, S.stS coff csize cv, by omega, by go_num, OK.out.stS _ _ _, HM1.out, HB1.out⟩
        case measure => simp [intOf]; omega
      · go_wp2
        go_roundw
        case rel => exact ⟨k + 1, S, by omega, by go_num, OK.out, HM.out, HB.out⟩
        case measure => simp [intOf]; omega
    · clear hL
      obtain rfl : k = l.length := by omega
      go_wp2
      go_ret
      exact ⟨_, _, S, rfl, OK.out, HM.out, HB.out⟩
end Go.Proofs.Ytamhhdhoeghafaa
