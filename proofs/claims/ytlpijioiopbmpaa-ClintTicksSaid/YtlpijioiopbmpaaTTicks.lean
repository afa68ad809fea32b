/-
  ClintTicks of layer 13: its walk. No condition but what the calls lean on.
-/
import Derived.Test.YtlpijioiopbmpaaTOne
namespace Go.Proofs.Ytlpijioiopbmpaa
open Go.ChangeShapes Go.WideShapes Go.ChangeAt Go.RowKit
set_option linter.unusedVariables false
set_option linter.unusedSimpArgs false
/-- Two clints, one behind the other. -/
structure TwoT (W w : World) (hi g lo2 hi2 g2 : Nat) (S T : TS) : Prop where
  o : Cl w W.heap.size hi g S
  p : Cl w lo2 hi2 g2 T
  b : Below W.heap.size W w
  h : hi ≤ lo2
theorem TwoT.one {W w w' : World} {hi g lo2 hi2 g2 : Nat} {S T S' : TS} (h : TwoT W w hi g lo2 hi2 g2 S T) (m : Cl w' W.heap.size hi g S') (f : Fr w w' (Rg W.heap.size hi)) : TwoT W w' hi g lo2 hi2 g2 S' T :=
  ⟨m, h.p.fr f (fun i h1 h2 x => by have := h.h; unfold Rg at x; omega), h.b.trans (f.lows h.b.size (Nat.le_refl _)), h.h⟩
theorem TwoT.two {W w w' : World} {hi g lo2 hi2 g2 : Nat} {S T T' : TS} (h : TwoT W w hi g lo2 hi2 g2 S T) (m : Cl w' lo2 hi2 g2 T') (f : Fr w w' (Rg lo2 hi2)) : TwoT W w' hi g lo2 hi2 g2 S T' :=
  ⟨h.o.fr f (fun i h1 h2 x => by have := h.h; unfold Rg at x; omega), m, h.b.trans (f.lows h.b.size (by have := h.h; have := h.o.bot; have := h.o.gh; omega)), h.h⟩
theorem and_40 (n : Int) : bits .and .i64 n 1099511627775 = n % 1099511627776 := by
  have h : (BitVec.ofInt 64 1099511627775).toNat = 2 ^ 40 - 1 := by decide
  have key : (BitVec.ofInt 64 n &&& BitVec.ofInt 64 1099511627775).toNat = (n % ((2 ^ 64 : Nat) : Int)).toNat % 2 ^ 40 := by
    rw [BitVec.toNat_and, BitVec.toNat_ofInt, h, Nat.and_two_pow_sub_one_eq_mod]
  show IntKind.i64.wrap ((BitVec.ofInt 64 n &&& BitVec.ofInt 64 1099511627775).toNat : Nat) = n % 1099511627776
  rw [key, IntKind.wrap_i64]
  omega
theorem tick_add (S : TS) (a b : Int) (a0 : 0 ≤ a) (b0 : 0 ≤ b) : (S.tick a).tick b = S.tick (a + b) := by
  unfold TS.tick
  by_cases ha : 0 < a <;> by_cases hb : 0 < b
  · rw [if_pos ha, if_pos hb, if_pos (by omega)]
    show TS.mk (((S.now + a) % 18446744073709551616 + b) % 18446744073709551616) S.al S.be = TS.mk ((S.now + (a + b)) % 18446744073709551616) S.al S.be
    rw [Int.emod_add_emod, Int.add_assoc]
  · rw [if_pos ha, if_neg hb, if_pos (by omega), show a + b = a by omega]
  · rw [if_neg ha, if_pos hb, if_pos (by omega), show a + b = b by omega]
  · rw [if_neg ha, if_neg hb, if_neg (by omega)]
set_option maxRecDepth 100000 in
set_option maxHeartbeats 16000000 in
theorem ticks13_w (a b al bell : Int) (a0 : 0 ≤ al) (a1 : al < 18446744073709551616) (b0 : 0 ≤ bell) (b1 : bell < 18446744073709551616) (W : World) (tb : TTb W) :
    Calls Try.prog 7 #[.int .i64 a, .int .i64 b, .int .u64 al, .int .u64 bell] W fun e w' => e = .returned (.bool true) ∧ Below W.heap.size W w' := by
  have HTB := Lib.hid tb
  have OK0 := Lib.hid TS.new_ok
  clear tb
  have ea := and_40 a
  have eb := and_40 b
  have ha0 := Int.emod_nonneg a (show (1099511627776 : Int) ≠ 0 by decide)
  have ha1 := Int.emod_lt_of_pos a (show (0 : Int) < 1099511627776 by decide)
  have hb0 := Int.emod_nonneg b (show (1099511627776 : Int) ≠ 0 by decide)
  have hb1 := Int.emod_lt_of_pos b (show (0 : Int) < 1099511627776 by decide)
  generalize a % 1099511627776 = a' at *
  generalize b % 1099511627776 = b' at *
  have es : IntKind.i64.wrap (a' + b') = a' + b' := IntWalk.i64_in _ (by omega)
  obtain ⟨S1, hS1⟩ : ∃ S1, TS.new.stS 16384 8 al = S1 := ⟨_, rfl⟩
  obtain ⟨S2, hS2⟩ : ∃ S2, S1.stS 0 4 bell = S2 := ⟨_, rfl⟩
  obtain ⟨S3, hS3⟩ : ∃ S3, S2.tick a' = S3 := ⟨_, rfl⟩
  obtain ⟨S4, hS4⟩ : ∃ S4, S3.tick b' = S4 := ⟨_, rfl⟩
  have HS5 := Lib.hid (show S2.tick (a' + b') = S4 by rw [← hS4, ← hS3, tick_add S2 a' b' ha0 hb0])
  have OK1 : Hid S1.Ok := Lib.hid (by rw [← hS1]; exact TS.new_ok.stS _ _ _ a0 a1)
  have OK2 : Hid S2.Ok := Lib.hid (by rw [← hS2]; exact OK1.out.stS _ _ _ b0 b1)
  have OK3 : Hid S3.Ok := Lib.hid (by rw [← hS3]; exact OK2.out.tick _)
  have OK4 : Hid S4.Ok := Lib.hid (by rw [← hS4]; exact OK3.out.tick _)
  obtain ⟨q, hq⟩ : ∃ q, (bell % 2 == 1) = q := ⟨_, rfl⟩
  obtain ⟨u, hu⟩ : ∃ u, S3.ldV 49144 8 = u := ⟨_, rfl⟩
  obtain ⟨t, ht⟩ : ∃ t, S4.timer = t := ⟨_, rfl⟩
  obtain ⟨nw, hn⟩ : ∃ nw, S4.now = nw := ⟨_, rfl⟩
  have hal : S4.al = al ∧ S4.be = q := by
    rw [← hS4, ← hS3, ← hS2, ← hS1, ← hq]
    unfold TS.tick
    constructor <;> (repeat' split) <;> rfl
  have HF := Lib.hid (show S4.ldV 16384 8 = al ∧ S4.ldV 0 4 = bell % 2 ∧ S4.be = q ∧ S4.now = nw from ⟨hal.1, by
    show S4.bell = _
    unfold TS.bell
    rw [hal.2, ← hq]
    by_cases h : bell % 2 = 1
    · simp [h]
    · have : bell % 2 = 0 := by omega
      simp [this], hal.2, hn⟩)
  have HS1 := Lib.hid hS1
  have HS2 := Lib.hid hS2
  have HS3 := Lib.hid hS3
  have HS4 := Lib.hid hS4
  have HU := Lib.hid hu
  have HT := Lib.hid ht
  clear hS1 hS2 hS3 hS4 hu ht hn hal
  have e1 : (nw == nw) = true := by simp
  have e2 : (t == t) = true := by simp
  have e3 : (q == q) = true := by simp
  go_enter Try.func7, Try.ntmps7
  go_wp2_with (first | (go_at_call 8; (with_reducible refine (ctnew_w _ HTB.out).mono ?_); rintro e' w20 ⟨g, rfl, m20, b20⟩; have hs20 := b20.size; have HN20 := Lib.hid m20; have HB20 := Lib.hid b20; clear m20 b20) | (go_at_call 8; (with_reducible refine (ctnew_w _ (TTb.h1 HTB HB20)).mono ?_); rintro e' w21 ⟨g2, rfl, m21, b21⟩; have H0 := Lib.hid (TwoT.mk (HN20.out.below b21) m21 (HB20.out.trans (b21.mono hs20)) (Nat.le_refl _)); clear m21 b21) | (go_at_call 14; (with_reducible refine (ctstore_at H0.out.o OK0.out (TTb.h1 HTB (Lib.hid H0.out.b)) 16384 8 al true S1 rfl HS1.out (by decide) (by decide) (by decide) (by decide) a0 a1).mono ?_); rintro e' w1 ⟨rfl, m1, f1⟩; have H1 := Lib.hid (H0.out.one m1 f1); clear m1 f1) | (go_at_call 14; (with_reducible refine (ctstore_at H1.out.p OK0.out (TTb.h1 HTB (Lib.hid H1.out.b)) 16384 8 al true S1 rfl HS1.out (by decide) (by decide) (by decide) (by decide) a0 a1).mono ?_); rintro e' w2 ⟨rfl, m2, f2⟩; have H2 := Lib.hid (H1.out.two m2 f2); clear m2 f2) | (go_at_call 14; (with_reducible refine (ctstore_at H2.out.o OK1.out (TTb.h1 HTB (Lib.hid H2.out.b)) 0 4 bell true S2 rfl HS2.out (by decide) (by decide) (by decide) (by decide) b0 b1).mono ?_); rintro e' w3 ⟨rfl, m3, f3⟩; have H3 := Lib.hid (H2.out.one m3 f3); clear m3 f3) | (go_at_call 14; (with_reducible refine (ctstore_at H3.out.p OK1.out (TTb.h1 HTB (Lib.hid H3.out.b)) 0 4 bell true S2 rfl HS2.out (by decide) (by decide) (by decide) (by decide) b0 b1).mono ?_); rintro e' w4 ⟨rfl, m4, f4⟩; have H4 := Lib.hid (H3.out.two m4 f4); clear m4 f4) | (go_at_call 16; (with_reducible refine (cttick_at H4.out.o OK2.out (TTb.h1 HTB (Lib.hid H4.out.b)) a' S3 HS3.out (by omega) (by omega)).mono ?_); rintro e' w5 ⟨rfl, m5, f5⟩; have H5 := Lib.hid (H4.out.one m5 f5); clear m5 f5) | (go_at_call 12; (with_reducible refine (ctload_at H5.out.o OK3.out (TTb.h1 HTB (Lib.hid H5.out.b)) 49144 8 u true HU.out rfl (by decide) (by decide) (by decide) (by decide)).mono ?_); rintro e' w6 ⟨rfl, m6, f6⟩; have H6 := Lib.hid (H5.out.one m6 f6); clear m6 f6) | (go_at_call 16; (with_reducible refine (cttick_at H6.out.o OK3.out (TTb.h1 HTB (Lib.hid H6.out.b)) b' S4 HS4.out (by omega) (by omega)).mono ?_); rintro e' w7 ⟨rfl, m7, f7⟩; have H7 := Lib.hid (H6.out.one m7 f7); clear m7 f7) | (go_at_call 21; (with_reducible refine (cttimer_at H7.out.o OK4.out (TTb.h1 HTB (Lib.hid H7.out.b)) t HT.out).mono ?_); rintro e' w8 ⟨rfl, m8, f8⟩; have H8 := Lib.hid (H7.out.one m8 f8); clear m8 f8) | (go_at_call 16; (with_reducible refine (cttick_at H8.out.p OK2.out (TTb.h1 HTB (Lib.hid H8.out.b)) (a' + b') S4 HS5.out (by omega) (by omega)).mono ?_); rintro e' w9 ⟨rfl, m9, f9⟩; have H9 := Lib.hid (H8.out.two m9 f9); clear m9 f9) | (go_at_call 12; (with_reducible refine (ctload_at H9.out.o OK4.out (TTb.h1 HTB (Lib.hid H9.out.b)) 16384 8 al true HF.out.1 rfl (by decide) (by decide) (by decide) (by decide)).mono ?_); rintro e' w10 ⟨rfl, m10, f10⟩; have H10 := Lib.hid (H9.out.one m10 f10); clear m10 f10) | (go_at_call 12; (with_reducible refine (ctload_at H10.out.o OK4.out (TTb.h1 HTB (Lib.hid H10.out.b)) 0 4 (bell % 2) true HF.out.2.1 rfl (by decide) (by decide) (by decide) (by decide)).mono ?_); rintro e' w11 ⟨rfl, m11, f11⟩; have H11 := Lib.hid (H10.out.one m11 f11); clear m11 f11) | (go_at_call 20; (with_reducible refine (cttime_at H11.out.o OK4.out (TTb.h1 HTB (Lib.hid H11.out.b)) nw HF.out.2.2.2).mono ?_); rintro e' w12 ⟨rfl, m12, f12⟩; have H12 := Lib.hid (H11.out.one m12 f12); clear m12 f12) | (go_at_call 20; (with_reducible refine (cttime_at H12.out.p OK4.out (TTb.h1 HTB (Lib.hid H12.out.b)) nw HF.out.2.2.2).mono ?_); rintro e' w13 ⟨rfl, m13, f13⟩; have H13 := Lib.hid (H12.out.two m13 f13); clear m13 f13) | (go_at_call 21; (with_reducible refine (cttimer_at H13.out.o OK4.out (TTb.h1 HTB (Lib.hid H13.out.b)) t HT.out).mono ?_); rintro e' w14 ⟨rfl, m14, f14⟩; have H14 := Lib.hid (H13.out.one m14 f14); clear m14 f14) | (go_at_call 21; (with_reducible refine (cttimer_at H14.out.p OK4.out (TTb.h1 HTB (Lib.hid H14.out.b)) t HT.out).mono ?_); rintro e' w15 ⟨rfl, m15, f15⟩; have H15 := Lib.hid (H14.out.two m15 f15); clear m15 f15) | (go_at_call 19; (with_reducible refine (ctsoft_at H15.out.o OK4.out (TTb.h1 HTB (Lib.hid H15.out.b)) q HF.out.2.2.1).mono ?_); rintro e' w16 ⟨rfl, m16, f16⟩; have H16 := Lib.hid (H15.out.one m16 f16); clear m16 f16) | (go_at_call 18; (with_reducible refine (known13_w _ (TTb.h1 HTB (Lib.hid H16.out.b))).mono ?_); rintro e' w30 ⟨rfl, b30⟩; have HZ := Lib.hid (H16.out.b.trans (b30.mono H16.out.b.size)); clear b30))
  go_ret
  exact ⟨rfl, HZ.out⟩
end Go.Proofs.Ytlpijioiopbmpaa
