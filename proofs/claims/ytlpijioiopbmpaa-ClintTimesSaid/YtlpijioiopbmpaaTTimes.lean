/-
  ClintTimes of layer 13: its walk. No condition but what the calls lean on.
-/
import Derived.Test.YtlpijioiopbmpaaTOne
import Derived.Test.YtlpijioiopbmpaaTList
namespace Go.Proofs.Ytlpijioiopbmpaa
open Go.ChangeShapes Go.WideShapes Go.ChangeAt Go.RowKit
set_option linter.unusedVariables false
set_option linter.unusedSimpArgs false
theorem tmod_bd (x : Int) : -1099511627776 < x.tmod 1099511627776 ∧ x.tmod 1099511627776 < 1099511627776 := by
  have h0 := Int.emod_nonneg x (show (1099511627776 : Int) ≠ 0 by decide)
  have h1 := Int.emod_lt_of_pos x (show (0 : Int) < 1099511627776 by decide)
  rw [Int.tmod_eq_emod]
  split <;> omega
set_option maxRecDepth 100000 in
set_option maxHeartbeats 16000000 in
theorem times13_w (al : Int) (a0 : 0 ≤ al) (a1 : al < 18446744073709551616) (l : List Tn) (A : Option Addr) (cap : Nat) (W : World) (hrd : RdTn W W.heap.size A l) (hraw : ∀ c ∈ l, c.Raw) (hlen : l.length ≤ 9223372036854775807) (tb : TTb W) :
    Calls Try.prog 5 #[.int .u64 al, .slice A l.length cap] W fun e w' => e = .returned (.bool true) ∧ Below W.heap.size W w' := by
  have HRD := Lib.hid hrd
  have HRAW := Lib.hid hraw
  have HTB := Lib.hid tb
  have OK0 := Lib.hid TS.new_ok
  have b0 : 0 ≤ al % 4611686018427387904 := by omega
  have b1 : al % 4611686018427387904 < 4611686018427387904 := by omega
  clear hrd hraw tb
  obtain ⟨alarm, hal⟩ : ∃ x, al % 4611686018427387904 = x := ⟨_, rfl⟩
  rw [hal] at b0 b1
  have b2 : alarm < 18446744073709551616 := by omega
  have OK1 : Hid (TS.new.stS 16384 8 alarm).Ok := Lib.hid (TS.new_ok.stS _ _ _ b0 b2)
  have HS1 : Hid ((TS.new.stS 16384 8 alarm).al = alarm ∧ (TS.new.stS 16384 8 alarm).now = 0) := Lib.hid ⟨rfl, rfl⟩
  obtain ⟨S1, hS1⟩ : ∃ S1, TS.new.stS 16384 8 alarm = S1 := ⟨_, rfl⟩
  rw [hS1] at OK1 HS1
  have HST := Lib.hid hS1
  clear hS1
  go_enter Try.func5, Try.ntmps5
  go_wp2_with (first | (go_at_call 8; (with_reducible refine (ctnew_w _ HTB.out).mono ?_); rintro e' w0 ⟨g, rfl, m0, b0⟩; have hs0 := b0.size; have HN0 := Lib.hid m0; have HB0 := Lib.hid b0; clear m0 b0) | (go_at_call 14; (with_reducible refine (ctstore_at HN0.out OK0.out (TTb.h1 HTB HB0) 16384 8 alarm true S1 rfl HST.out (by decide) (by decide) (by decide) (by decide) b0 b2).mono ?_); rintro e' w1 ⟨rfl, m1, f1⟩; have hs1 := f1.size; have H1 := Lib.hid (OneT.code ⟨HN0.out, HB0.out⟩ m1 f1); clear m1 f1))
  generalize hhi : w0.heap.size = hi at *
  clear hhi HN0 HB0 hal
  go_loopw [6, 7] (fun nv i wr => ∃ (k : Nat) (S : TS), k ≤ 200 ∧ i = .int .i64 (k : Int) ∧ nv = .int .u64 S.now ∧ S.Ok ∧ S.al = alarm ∧ S.now ≤ (k : Int) * 1099511627776 ∧ OneT W wr hi g S) (fun _ i _ => 200 - (intOf i).toNat)
  case atStart => exact ⟨0, S1, by omega, rfl, by rw [HS1.out.2], OK1.out, HS1.out.1, by rw [HS1.out.2]; decide, H1.out⟩
  case round =>
    clear H1 OK0 OK1 HS1 HST
    obtain ⟨k, S, hk, rfl, rfl, ok, hal, hbd, h⟩ := hrel
    have htop := h.o.top
    have hWs := h.b.size
    have OK := Lib.hid ok
    have H := Lib.hid h
    have hL := HRD.out.below h.b
    have hn0' := ok.n0
    have HAL := Lib.hid hal
    clear ok h hal
    obtain ⟨nw, hnw⟩ : ∃ x, S.now = x := ⟨_, rfl⟩
    rw [hnw] at hbd hn0' ⊢
    have HNW := Lib.hid hnw
    clear hnw
    by_cases hlt : k < l.length
    · by_cases h200 : k < 200
      · obtain ⟨bb, oo, rfl, hbb, c, hc, hrow⟩ := hL.at_ hlt
        have q0 := hrow.out
        have hraw := HRAW.out c (List.mem_of_getElem? hc)
        clear hrow hc hL
        obtain ⟨x⟩ := c
        dsimp only [Tn.Raw] at *
        obtain ⟨x0, x1⟩ := hraw
        rw [Nat.mul_one] at q0
        have hj : (k : Int) < 200 := by omega
        have ht := tmod_bd x
        obtain ⟨n, hn⟩ : ∃ n, x.tmod 1099511627776 = n := ⟨_, rfl⟩
        rw [hn] at ht
        obtain ⟨hna, hnb⟩ := ht
        have hn0 : -9223372036854775808 ≤ n := by omega
        have hn1 : n < 9223372036854775808 := by omega
        by_cases hn : 0 < n
        · obtain ⟨S2, hS2⟩ : ∃ S2, S.tick n = S2 := ⟨_, rfl⟩
          have hok : S2.Ok := by rw [← hS2]; exact OK.out.tick n
          have hnw : S2.now = (nw + n) := by rw [← hS2]; unfold TS.tick; rw [if_pos hn]; show (S.now + n) % 18446744073709551616 = nw + n; rw [HNW.out, Int.emod_eq_of_lt (by omega) (by omega)]
          have hal2 : S2.al = alarm := by rw [← hS2]; unfold TS.tick; rw [if_pos hn]; exact HAL.out
          obtain ⟨b, hb⟩ : ∃ b, S2.timer = b := ⟨_, rfl⟩
          have hb2 : decide (alarm ≤ (nw + n)) = b := by rw [← hb, TS.timer, hal2, hnw]
          have e1 : IntKind.u64.wrap n = n := by rw [IntKind.wrap_u64]; omega
          have e2 : IntKind.u64.wrap (nw + n) = nw + n := by rw [IntKind.wrap_u64]; omega
          have d1 : decide (0 < n) = true := by simpa using hn
          have OK2 := Lib.hid hok
          have HS2 := Lib.hid hS2
          have HNOW := Lib.hid hnw
          have HAL2 := Lib.hid hal2
          have HBB := Lib.hid hb
          have HR := Lib.hid (show S2.now ≤ ((k + 1 : Nat) : Int) * 1099511627776 by rw [hnw]; push_cast; omega)
          clear hS2 hnw hb hbd hal2 hok
          go_wp2_with (first | (go_at_call 16; (with_reducible refine (cttick_at H.out.o OK.out (TTb.h1 HTB (Lib.hid H.out.b)) n S2 HS2.out hn0 hn1).mono ?_); rintro e' w1 ⟨rfl, m1, f1⟩; have hs1 := f1.size; have H1 := Lib.hid (H.out.code m1 f1); clear m1 f1) | (go_at_call 20; (with_reducible refine (cttime_at H1.out.o OK2.out (TTb.h1 HTB (Lib.hid H1.out.b)) (nw + n) HNOW.out).mono ?_); rintro e' w2 ⟨rfl, m2, f2⟩; have hs2 := f2.size; have H2 := Lib.hid (H1.out.code m2 f2); clear m2 f2) | (go_at_call 21; (with_reducible refine (cttimer_at H2.out.o OK2.out (TTb.h1 HTB (Lib.hid H2.out.b)) b HBB.out).mono ?_); rintro e' w3 ⟨rfl, m3, f3⟩; have hs3 := f3.size; have H3 := Lib.hid (H2.out.code m3 f3); clear m3 f3))
          go_roundw
          case rel => exact ⟨k + 1, S2, by omega, by go_num, by rw [HNOW.out], OK2.out, HAL2.out, HR.out, H3.out⟩
          case measure => simp [intOf]; omega
        · obtain ⟨S2, hS2⟩ : ∃ S2, S.tick n = S2 := ⟨_, rfl⟩
          have hok : S2.Ok := by rw [← hS2]; exact OK.out.tick n
          have hnw : S2.now = nw := by rw [← hS2]; unfold TS.tick; rw [if_neg hn]; exact HNW.out
          have hal2 : S2.al = alarm := by rw [← hS2]; unfold TS.tick; rw [if_neg hn]; exact HAL.out
          obtain ⟨b, hb⟩ : ∃ b, S2.timer = b := ⟨_, rfl⟩
          have hb2 : decide (alarm ≤ nw) = b := by rw [← hb, TS.timer, hal2, hnw]
          have d1 : decide (0 < n) = false := by simpa using hn
          have OK2 := Lib.hid hok
          have HS2 := Lib.hid hS2
          have HNOW := Lib.hid hnw
          have HAL2 := Lib.hid hal2
          have HBB := Lib.hid hb
          have HR := Lib.hid (show S2.now ≤ ((k + 1 : Nat) : Int) * 1099511627776 by rw [hnw]; push_cast; omega)
          clear hS2 hnw hb hbd hal2 hok
          go_wp2_with (first | (go_at_call 16; (with_reducible refine (cttick_at H.out.o OK.out (TTb.h1 HTB (Lib.hid H.out.b)) n S2 HS2.out hn0 hn1).mono ?_); rintro e' w1 ⟨rfl, m1, f1⟩; have hs1 := f1.size; have H1 := Lib.hid (H.out.code m1 f1); clear m1 f1) | (go_at_call 20; (with_reducible refine (cttime_at H1.out.o OK2.out (TTb.h1 HTB (Lib.hid H1.out.b)) nw HNOW.out).mono ?_); rintro e' w2 ⟨rfl, m2, f2⟩; have hs2 := f2.size; have H2 := Lib.hid (H1.out.code m2 f2); clear m2 f2) | (go_at_call 21; (with_reducible refine (cttimer_at H2.out.o OK2.out (TTb.h1 HTB (Lib.hid H2.out.b)) b HBB.out).mono ?_); rintro e' w3 ⟨rfl, m3, f3⟩; have hs3 := f3.size; have H3 := Lib.hid (H2.out.code m3 f3); clear m3 f3))
          go_roundw
          case rel => exact ⟨k + 1, S2, by omega, by go_num, by rw [HNOW.out], OK2.out, HAL2.out, HR.out, H3.out⟩
          case measure => simp [intOf]; omega
      · have d0 : decide ((k : Int) < 200) = false := by simp; omega
        clear hL
        go_wp2_with (go_at_call 18; (with_reducible refine (known13_w _ (TTb.h1 HTB (Lib.hid H.out.b))).mono ?_); rintro e' w1 ⟨rfl, b1⟩; have HZ := Lib.hid (H.out.b.trans (b1.mono H.out.b.size)); clear b1)
        go_ret
        exact ⟨rfl, HZ.out⟩
    · clear hL
      have d0 : decide ((k : Int) < (l.length : Int)) = false := by simp; omega
      go_wp2_with (go_at_call 18; (with_reducible refine (known13_w _ (TTb.h1 HTB (Lib.hid H.out.b))).mono ?_); rintro e' w1 ⟨rfl, b1⟩; have HZ := Lib.hid (H.out.b.trans (b1.mono H.out.b.size)); clear b1)
      go_ret
      exact ⟨rfl, HZ.out⟩
end Go.Proofs.Ytlpijioiopbmpaa
