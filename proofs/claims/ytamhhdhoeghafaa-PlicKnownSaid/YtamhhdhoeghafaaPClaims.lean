/-
  PlicClaims of layer 12: what a context claims is the best of what it may claim. No condition but what the calls lean on.
-/
import Derived.Test.YtamhhdhoeghafaaPDone
namespace Go.Proofs.Ytamhhdhoeghafaa
open Go.ChangeShapes Go.WideShapes Go.ChangeAt Go.RowKit
set_option linter.unusedVariables false
set_option linter.unusedSimpArgs false
theorem bit_shr1P (x k : Nat) : (x >>> k &&& 1 == 1) = x.testBit k := by
  rw [Nat.and_one_is_mod, Nat.shiftRight_eq_div_pow, Nat.testBit_eq_decide_div_mod_eq]; rfl
set_option maxRecDepth 4000 in
set_option maxHeartbeats 16000000 in
theorem claims12_0 (l : List Po) (A : Option Addr) (cap : Nat) (W : World) (hrd : RdPo W W.heap.size A l) (hraw : ∀ c ∈ l, c.Raw) (hlen : l.length ≤ 9223372036854775807) (tb : PTb W) :
    Calls Try.prog 4 #[.slice A l.length cap, .bool false] W fun e w' => e = .returned (.bool true) ∧ Below W.heap.size W w' := by
  have HTB := Lib.hid tb
  have HD := Lib.hid (done12_w l A cap W hrd hraw hlen tb)
  clear hrd hraw tb
  by_cases h300 : 300 < l.length
  · have d0 : decide (300 < (l.length : Int)) = true := by simp; omega
    go_enter Try.func4, Try.ntmps4
    go_wp2_with (go_at_call 8; (with_reducible refine (works12_w _ HTB.out).mono ?_); rintro e' w1 ⟨rfl, b1⟩; have HZ := Lib.hid b1; clear b1)
    go_ret
    exact ⟨rfl, HZ.out⟩
  have d0 : decide (300 < (l.length : Int)) = false := by simp; omega
  go_enter Try.func4, Try.ntmps4
  go_upto_region 7 with (go_at_call 19; (with_reducible refine HD.out.mono ?_); rintro e' w0 ⟨g, hi, S, rfl, ok, m0, b0⟩; have hs0 := b0.size; have OK := Lib.hid ok; have HO0 := Lib.hid m0; have HB0 := Lib.hid b0; clear m0 b0 ok)
  have hX := bw_lt S.pe
  have hY := bw_lt (S.en 0)
  have hT0 := OK.out.tl 0
  have hT1 := OK.out.th8 0
  have HM : Hid (∀ s, s < 32 → (bw S.pe &&& bw (S.en 0)).testBit s = (S.pe s && S.en 0 s)) := Lib.hid (fun s hs => by rw [Nat.testBit_and, bw_bit, bw_bit]; simp [hs])
  have hand : bits .and .u64 ((bw S.pe : Nat) : Int) ((bw (S.en 0) : Nat) : Int) = ((bw S.pe &&& bw (S.en 0) : Nat) : Int) := bits_and_u64_nat _ _ (by omega) (by omega)
  have hMl : bw S.pe &&& bw (S.en 0) < 18446744073709551616 := Nat.lt_of_le_of_lt Nat.and_le_left (by omega)
  obtain ⟨X, hXe⟩ : ∃ X, bw S.pe = X := ⟨_, rfl⟩
  obtain ⟨Y, hYe⟩ : ∃ Y, bw (S.en 0) = Y := ⟨_, rfl⟩
  obtain ⟨M, hMe⟩ : ∃ M, X &&& Y = M := ⟨_, rfl⟩
  obtain ⟨T, hTe⟩ : ∃ T, S.th 0 = T := ⟨_, rfl⟩
  rw [hXe, hYe, hMe] at HM hand hMl
  rw [hXe] at hX
  rw [hYe] at hY
  rw [hTe] at hT0 hT1
  have V1 := Lib.hid (show S.ldV 4096 4 = (X : Int) by rw [PS.ldV, if_pos (by decide), val_4096, hXe])
  have V2 := Lib.hid (show S.ldV 8192 4 = (Y : Int) by rw [PS.ldV, if_pos (by decide), val_8192, hYe])
  have V3 := Lib.hid (show S.ldV 2097152 4 = T by rw [PS.ldV, if_pos (by decide), val_2097152, hTe])
  have D1 := Lib.hid (ldS_oth S 4096 4 (by decide) (by decide))
  have D2 := Lib.hid (ldS_oth S 8192 4 (by decide) (by decide))
  have D3 := Lib.hid (ldS_oth S 2097152 4 (by decide) (by decide))
  have HXE := Lib.hid hXe
  have HTE := Lib.hid hTe
  clear hXe hYe hMe hTe
  go_wp2_with (first | (go_at_call 20; (with_reducible refine (of_w HO0.out OK.out (PTb.h1 HTB HB0) 4096 X S V1.out D1.out (by decide) (by decide)).mono ?_); rintro e' w1 ⟨rfl, m1, f1⟩; have hs1 := f1.size; have HO1 := Lib.hid m1; have HB1 := Lib.hid (HB0.out.trans (f1.lows HB0.out.size (Nat.le_refl _))); clear m1 f1) | (go_at_call 20; (with_reducible refine (of_w HO1.out OK.out (PTb.h1 HTB HB1) 8192 Y S V2.out D2.out (by decide) (by decide)).mono ?_); rintro e' w2 ⟨rfl, m2, f2⟩; have hs2 := f2.size; have HO2 := Lib.hid m2; have HB2 := Lib.hid (HB1.out.trans (f2.lows HB1.out.size (Nat.le_refl _))); clear m2 f2) | (go_at_call 20; (with_reducible refine (of_w HO2.out OK.out (PTb.h1 HTB HB2) 2097152 T S V3.out D3.out (by decide) (by decide)).mono ?_); rintro e' w3 ⟨rfl, m3, f3⟩; have hs3 := f3.size; have HO3 := Lib.hid m3; have HB3 := Lib.hid (HB2.out.trans (f3.lows HB2.out.size (Nat.le_refl _))); clear m3 f3))
  obtain ⟨w5, hw5⟩ : ∃ w5, w5 = w3 := ⟨_, rfl⟩
  rw [← hw5] at HO3 HB3 ⊢
  clear hw5
  go_loopw [10, 11, 12] (fun b m s wr => ∃ (k B : Nat), 1 ≤ k ∧ k ≤ 32 ∧ s = .int .u64 (k : Int) ∧ b = .int .u64 (B : Int) ∧ m = .int .u64 (S.pr B) ∧ B < 32 ∧ IsBest (S.can 0) S.pr 1 k B ∧ Pl wr W.heap.size hi g S ∧ Below W.heap.size W wr) (fun _ _ s _ => 32 - (intOf s).toNat)
  case atStart => exact ⟨1, 0, Nat.le_refl _, by decide, rfl, rfl, by rw [OK.out.r0], by decide, ⟨.inl rfl, fun i h1 h2 => by omega⟩, HO3.out, HB3.out⟩
  case round =>
    clear HO3 HB3
    obtain ⟨k, B, hk1, hk, rfl, rfl, rfl, hB, hbest, o, bl⟩ := hrel
    have HBE := Lib.hid hbest
    have HO := Lib.hid o
    have HB := Lib.hid bl
    have hWs := bl.size
    have rb0 := OK.out.rl B
    have rb1 := OK.out.rh B
    clear hbest o bl
    by_cases hlt : k < 32
    · have rk0 := OK.out.rl k
      have rk1 := OK.out.rh k
      have V4 := Lib.hid (show S.ldV (4 * (k : Int)) 4 = S.pr k by rw [show (4 * (k : Int)) = ((4 * k : Nat) : Int) by omega, PS.ldV, rgO_pr k hlt, if_pos rfl, val_pr S k hlt])
      have D4 := Lib.hid (ldS_oth S (4 * (k : Int)) 4 (by omega) (by omega))
      obtain ⟨t, ht⟩ : ∃ t, (S.pe k && S.en 0 k) = t := ⟨_, rfl⟩
      have hb : (bits BinOp.and IntKind.u64 ((M : Int) / 2 ^ k) 1 == 1) = t := by
        rw [← ht, ← HM.out k hlt, ← bit_shr1P, show ((2 : Int) ^ k) = ((2 ^ k : Nat) : Int) by simp, ← Int.natCast_ediv, Nat.shiftRight_eq_div_pow]
        have hy : M / 2 ^ k < 18446744073709551616 := Nat.lt_of_le_of_lt (Nat.div_le_self _ _) hMl
        have h := bits_and_u64_nat (M / 2 ^ k) 1 hy (by decide)
        simp only [Int.natCast_one] at h
        rw [h]
        generalize M / 2 ^ k &&& 1 = z
        rw [Bool.eq_iff_iff]; simp; omega
      obtain ⟨q, hq⟩ : ∃ q, decide (S.pr B < S.pr k) = q := ⟨_, rfl⟩
      have HQ := Lib.hid hq
      have HT := Lib.hid ht
      clear ht
      obtain ⟨rb, hrb⟩ : ∃ x, S.pr B = x := ⟨_, rfl⟩
      obtain ⟨rk, hrk⟩ : ∃ x, S.pr k = x := ⟨_, rfl⟩
      rw [hrb] at rb0 rb1 hq ⊢
      rw [hrk] at rk0 rk1 hq V4
      have HRB := Lib.hid hrb
      have HRK := Lib.hid hrk
      clear hrb hrk
      have f1 : (k : Int) < 32 := by omega
      have yes : t = true → q = true → IsBest (S.can 0) S.pr 1 (k + 1) k := fun e1 e2 => by
        have h1 := HT.out
        have h2 := HQ.out
        rw [e1] at h1
        rw [e2, decide_eq_true_eq] at h2
        simp only [Bool.and_eq_true] at h1
        have h0 := OK.out.rl B
        refine ⟨.inr ⟨hk1, by omega, by simp only [PS.can, h1.1, h1.2, Bool.true_and, decide_eq_true_eq]; omega⟩, fun i a1 a2 a3 => ?_⟩
        by_cases e : i = k
        · subst e; exact .inr ⟨rfl, Nat.le_refl _⟩
        · have := HBE.out.all i a1 (by omega) a3; omega
      have no : (t = false ∨ q = false) → IsBest (S.can 0) S.pr 1 (k + 1) B := fun e => by
        have h1 := HT.out
        have h2 := HQ.out
        refine ⟨?_, fun i a1 a2 a3 => ?_⟩
        · rcases HBE.out.at_ with x | x
          · exact .inl x
          · exact .inr ⟨x.1, by omega, x.2.2⟩
        · by_cases ei : i = k
          · subst ei
            simp only [PS.can, Bool.and_eq_true] at a3
            have ht : t = true := by rw [← h1, a3.1.1, a3.1.2]; rfl
            have hq' : q = false := by rcases e with e | e; rw [e] at ht; cases ht; exact e
            rw [hq', decide_eq_false_iff_not] at h2
            have hBk : B ≤ i := by rcases HBE.out.at_ with x | x <;> omega
            omega
          · exact HBE.out.all i a1 (by omega) a3
      have YES := Lib.hid yes
      have NO := Lib.hid no
      clear yes no
      cases t <;> cases q
      · go_wp2_with (go_at_call 20; (with_reducible refine (of_w HO.out OK.out (PTb.h1 HTB HB) (4 * (k : Int)) rk S V4.out D4.out (by omega) (by omega)).mono ?_); rintro e' w4 ⟨rfl, m4, f4⟩; have hs4 := f4.size; have HO4 := Lib.hid m4; have HB4 := Lib.hid (HB.out.trans (f4.lows HB.out.size (Nat.le_refl _))); clear m4 f4)
        go_roundw
        case rel => exact ⟨k + 1, B, by omega, by omega, by go_num, rfl, by rw [HRB.out], hB, NO.out (by simp), HO4.out, HB4.out⟩
        case measure => simp [intOf]; omega
      · go_wp2_with (go_at_call 20; (with_reducible refine (of_w HO.out OK.out (PTb.h1 HTB HB) (4 * (k : Int)) rk S V4.out D4.out (by omega) (by omega)).mono ?_); rintro e' w4 ⟨rfl, m4, f4⟩; have hs4 := f4.size; have HO4 := Lib.hid m4; have HB4 := Lib.hid (HB.out.trans (f4.lows HB.out.size (Nat.le_refl _))); clear m4 f4)
        go_roundw
        case rel => exact ⟨k + 1, B, by omega, by omega, by go_num, rfl, by rw [HRB.out], hB, NO.out (by simp), HO4.out, HB4.out⟩
        case measure => simp [intOf]; omega
      · go_wp2_with (go_at_call 20; (with_reducible refine (of_w HO.out OK.out (PTb.h1 HTB HB) (4 * (k : Int)) rk S V4.out D4.out (by omega) (by omega)).mono ?_); rintro e' w4 ⟨rfl, m4, f4⟩; have hs4 := f4.size; have HO4 := Lib.hid m4; have HB4 := Lib.hid (HB.out.trans (f4.lows HB.out.size (Nat.le_refl _))); clear m4 f4)
        go_roundw
        case rel => exact ⟨k + 1, B, by omega, by omega, by go_num, rfl, by rw [HRB.out], hB, NO.out (by simp), HO4.out, HB4.out⟩
        case measure => simp [intOf]; omega
      · go_wp2_with (go_at_call 20; (with_reducible refine (of_w HO.out OK.out (PTb.h1 HTB HB) (4 * (k : Int)) rk S V4.out D4.out (by omega) (by omega)).mono ?_); rintro e' w4 ⟨rfl, m4, f4⟩; have hs4 := f4.size; have HO4 := Lib.hid m4; have HB4 := Lib.hid (HB.out.trans (f4.lows HB.out.size (Nat.le_refl _))); clear m4 f4)
        go_roundw
        case rel => exact ⟨k + 1, k, by omega, by omega, by go_num, rfl, by rw [HRK.out], by omega, YES.out (by simp) (by simp), HO4.out, HB4.out⟩
        case measure => simp [intOf]; omega
    · obtain rfl : k = 32 := by omega
      have hbst := OK.out.bst_eq 0 B HBE.out
      have HP := Lib.hid (show S.pend 0 = decide (T < S.pr B) by
        show (((0 : Int) == 0 || (0 : Int) == 1) && decide (S.th 0 < S.pr (S.bst 0))) = _
        rw [hbst, HTE.out]; rfl)
      have V5 := Lib.hid (show S.ldV 2097156 4 = (B : Int) by rw [PS.ldV, if_pos (by decide), val_2097156, hbst])
      have D5 := Lib.hid (show S.ldS 2097156 4 = S.claim 0 by rw [PS.ldS, if_pos ⟨rfl, rfl⟩])
      have OK5 := Lib.hid (OK.out.claim 0)
      have D6 := Lib.hid (ldS_oth (S.claim 0) 4096 4 (by decide) (by decide))
      have e0 : ((B : Int) == (B : Int)) = true := by simp
      have hpe := OK.out.p0
      by_cases hB0 : B = 0
      · have V6 := Lib.hid (show (S.claim 0).ldV 4096 4 = (X : Int) by rw [PS.ldV, if_pos (by decide), val_4096, PS.claim, if_pos (by rw [hbst]; exact hB0), HXE.out])
        have e1 : ((X : Int) == (X : Int)) = true := by simp
        subst hB0
        obtain ⟨rb, hrb⟩ : ∃ x, S.pr 0 = x := ⟨_, rfl⟩
        rw [hrb] at rb0 rb1 HP ⊢
        clear hrb hbst
        obtain ⟨p, hp⟩ : ∃ p, decide (T < rb) = p := ⟨_, rfl⟩
        rw [hp] at HP
        have e2 : (p == p) = true := by simp
        go_wp2_with (first | (go_at_call 17; (with_reducible refine (cppend_at HO.out OK.out (PTb.h1 HTB HB) 0 p HP.out (by decide) (by decide)).mono ?_); rintro e' w6 ⟨rfl, m6, f6⟩; have hs6 := f6.size; have HO6 := Lib.hid m6; have HB6 := Lib.hid (HB.out.trans (f6.lows hWs (Nat.le_refl _))); clear m6 f6) | (go_at_call 20; (with_reducible refine (of_w HO6.out OK.out (PTb.h1 HTB HB6) 2097156 ((0 : Nat) : Int) (S.claim 0) V5.out D5.out (by decide) (by decide)).mono ?_); rintro e' w7 ⟨rfl, m7, f7⟩; have hs7 := f7.size; have HO7 := Lib.hid m7; have HB7 := Lib.hid (HB6.out.trans (f7.lows HB6.out.size (Nat.le_refl _))); clear m7 f7) | (go_at_call 20; (with_reducible refine (of_w HO7.out OK5.out (PTb.h1 HTB HB7) 4096 X (S.claim 0) V6.out D6.out (by decide) (by decide)).mono ?_); rintro e' w8 ⟨rfl, m8, f8⟩; have hs8 := f8.size; have HO8 := Lib.hid m8; have HB8 := Lib.hid (HB7.out.trans (f8.lows HB7.out.size (Nat.le_refl _))); clear m8 f8) | (go_at_call 8; (with_reducible refine (works12_w _ (PTb.h1 HTB HB8)).mono ?_); rintro e' w9 ⟨rfl, b9⟩; have HZ := Lib.hid (HB8.out.trans (b9.mono HB8.out.size)); clear b9))
        go_ret
        exact ⟨rfl, HZ.out⟩
      · have hpow := Nat.pow_lt_pow_right (show 1 < 2 by decide) hB
        have z1 : IntKind.u64.wrap (2 ^ B) = ((2 ^ B : Nat) : Int) := by
          rw [IntKind.wrap_u64, show ((2 : Int) ^ B) = ((2 ^ B : Nat) : Int) by simp]
          generalize 2 ^ B = y at *; omega
        have z2 : bits .andNot .u64 (X : Int) ((2 ^ B : Nat) : Int) = ((X &&& (18446744073709551615 - 2 ^ B) : Nat) : Int) := u64_andNot_nat _ _ (by omega) (by omega)
        have hleft : bw (S.claim 0).pe = X &&& (18446744073709551615 - 2 ^ B) := by
          refine bw_of _ (Nat.lt_of_le_of_lt Nat.and_le_left hX) _ fun i hi => ?_
          rw [Nat.testBit_and, show 18446744073709551615 - 2 ^ B = 2 ^ 64 - (2 ^ B + 1) by omega, Nat.testBit_two_pow_sub_succ (Nat.pow_lt_pow_right (by decide) (by omega)), Nat.testBit_two_pow, ← HXE.out, bw_bit]
          rw [PS.claim, if_neg (by rw [hbst]; exact hB0), hbst]
          show (if i = B then false else S.pe i) = _
          by_cases e : i = B
          · subst e; simp
          · rw [if_neg e]; simp [hi, show i < 64 by omega]; exact fun _ x => e x.symm
        have V6 := Lib.hid (show (S.claim 0).ldV 4096 4 = ((X &&& (18446744073709551615 - 2 ^ B) : Nat) : Int) by rw [PS.ldV, if_pos (by decide), val_4096, hleft])
        clear hleft hpow
        generalize X &&& (18446744073709551615 - 2 ^ B) = Q at z2 V6
        generalize ((2 ^ B : Nat) : Int) = Z at z1 z2
        have e1 : ((Q : Int) == (Q : Int)) = true := by simp
        obtain ⟨rb, hrb⟩ : ∃ x, S.pr B = x := ⟨_, rfl⟩
        rw [hrb] at rb0 rb1 HP ⊢
        clear hrb hbst
        obtain ⟨p, hp⟩ : ∃ p, decide (T < rb) = p := ⟨_, rfl⟩
        rw [hp] at HP
        have e2 : (p == p) = true := by simp
        have HB0 := Lib.hid hB0
        obtain ⟨β, hβ⟩ : ∃ β, (B : Int) = β := ⟨_, rfl⟩
        have hβn : β.toNat = B := by omega
        have b0 : 0 < β := by omega
        have b1 : β < 32 := by omega
        rw [← hβn] at z1
        rw [hβ] at V5 e0 ⊢
        clear hB0 hβn hβ hB
        go_wp2_with (first | (go_at_call 17; (with_reducible refine (cppend_at HO.out OK.out (PTb.h1 HTB HB) 0 p HP.out (by decide) (by decide)).mono ?_); rintro e' w6 ⟨rfl, m6, f6⟩; have hs6 := f6.size; have HO6 := Lib.hid m6; have HB6 := Lib.hid (HB.out.trans (f6.lows hWs (Nat.le_refl _))); clear m6 f6) | (go_at_call 20; (with_reducible refine (of_w HO6.out OK.out (PTb.h1 HTB HB6) 2097156 β (S.claim 0) V5.out D5.out (by decide) (by decide)).mono ?_); rintro e' w7 ⟨rfl, m7, f7⟩; have hs7 := f7.size; have HO7 := Lib.hid m7; have HB7 := Lib.hid (HB6.out.trans (f7.lows HB6.out.size (Nat.le_refl _))); clear m7 f7) | (go_at_call 20; (with_reducible refine (of_w HO7.out OK5.out (PTb.h1 HTB HB7) 4096 Q (S.claim 0) V6.out D6.out (by decide) (by decide)).mono ?_); rintro e' w8 ⟨rfl, m8, f8⟩; have hs8 := f8.size; have HO8 := Lib.hid m8; have HB8 := Lib.hid (HB7.out.trans (f8.lows HB7.out.size (Nat.le_refl _))); clear m8 f8) | (go_at_call 8; (with_reducible refine (works12_w _ (PTb.h1 HTB HB8)).mono ?_); rintro e' w9 ⟨rfl, b9⟩; have HZ := Lib.hid (HB8.out.trans (b9.mono HB8.out.size)); clear b9))
        go_ret
        exact ⟨rfl, HZ.out⟩
set_option maxRecDepth 4000 in
set_option maxHeartbeats 16000000 in
theorem claims12_1 (l : List Po) (A : Option Addr) (cap : Nat) (W : World) (hrd : RdPo W W.heap.size A l) (hraw : ∀ c ∈ l, c.Raw) (hlen : l.length ≤ 9223372036854775807) (tb : PTb W) :
    Calls Try.prog 4 #[.slice A l.length cap, .bool true] W fun e w' => e = .returned (.bool true) ∧ Below W.heap.size W w' := by
  have HTB := Lib.hid tb
  have HD := Lib.hid (done12_w l A cap W hrd hraw hlen tb)
  clear hrd hraw tb
  by_cases h300 : 300 < l.length
  · have d0 : decide (300 < (l.length : Int)) = true := by simp; omega
    go_enter Try.func4, Try.ntmps4
    go_wp2_with (go_at_call 8; (with_reducible refine (works12_w _ HTB.out).mono ?_); rintro e' w1 ⟨rfl, b1⟩; have HZ := Lib.hid b1; clear b1)
    go_ret
    exact ⟨rfl, HZ.out⟩
  have d0 : decide (300 < (l.length : Int)) = false := by simp; omega
  go_enter Try.func4, Try.ntmps4
  go_upto_region 7 with (go_at_call 19; (with_reducible refine HD.out.mono ?_); rintro e' w0 ⟨g, hi, S, rfl, ok, m0, b0⟩; have hs0 := b0.size; have OK := Lib.hid ok; have HO0 := Lib.hid m0; have HB0 := Lib.hid b0; clear m0 b0 ok)
  have hX := bw_lt S.pe
  have hY := bw_lt (S.en 1)
  have hT0 := OK.out.tl 1
  have hT1 := OK.out.th8 1
  have HM : Hid (∀ s, s < 32 → (bw S.pe &&& bw (S.en 1)).testBit s = (S.pe s && S.en 1 s)) := Lib.hid (fun s hs => by rw [Nat.testBit_and, bw_bit, bw_bit]; simp [hs])
  have hand : bits .and .u64 ((bw S.pe : Nat) : Int) ((bw (S.en 1) : Nat) : Int) = ((bw S.pe &&& bw (S.en 1) : Nat) : Int) := bits_and_u64_nat _ _ (by omega) (by omega)
  have hMl : bw S.pe &&& bw (S.en 1) < 18446744073709551616 := Nat.lt_of_le_of_lt Nat.and_le_left (by omega)
  obtain ⟨X, hXe⟩ : ∃ X, bw S.pe = X := ⟨_, rfl⟩
  obtain ⟨Y, hYe⟩ : ∃ Y, bw (S.en 1) = Y := ⟨_, rfl⟩
  obtain ⟨M, hMe⟩ : ∃ M, X &&& Y = M := ⟨_, rfl⟩
  obtain ⟨T, hTe⟩ : ∃ T, S.th 1 = T := ⟨_, rfl⟩
  rw [hXe, hYe, hMe] at HM hand hMl
  rw [hXe] at hX
  rw [hYe] at hY
  rw [hTe] at hT0 hT1
  have V1 := Lib.hid (show S.ldV 4096 4 = (X : Int) by rw [PS.ldV, if_pos (by decide), val_4096, hXe])
  have V2 := Lib.hid (show S.ldV 8320 4 = (Y : Int) by rw [PS.ldV, if_pos (by decide), val_8320, hYe])
  have V3 := Lib.hid (show S.ldV 2101248 4 = T by rw [PS.ldV, if_pos (by decide), val_2101248, hTe])
  have D1 := Lib.hid (ldS_oth S 4096 4 (by decide) (by decide))
  have D2 := Lib.hid (ldS_oth S 8320 4 (by decide) (by decide))
  have D3 := Lib.hid (ldS_oth S 2101248 4 (by decide) (by decide))
  have HXE := Lib.hid hXe
  have HTE := Lib.hid hTe
  clear hXe hYe hMe hTe
  go_wp2_with (first | (go_at_call 20; (with_reducible refine (of_w HO0.out OK.out (PTb.h1 HTB HB0) 4096 X S V1.out D1.out (by decide) (by decide)).mono ?_); rintro e' w1 ⟨rfl, m1, f1⟩; have hs1 := f1.size; have HO1 := Lib.hid m1; have HB1 := Lib.hid (HB0.out.trans (f1.lows HB0.out.size (Nat.le_refl _))); clear m1 f1) | (go_at_call 20; (with_reducible refine (of_w HO1.out OK.out (PTb.h1 HTB HB1) 8320 Y S V2.out D2.out (by decide) (by decide)).mono ?_); rintro e' w2 ⟨rfl, m2, f2⟩; have hs2 := f2.size; have HO2 := Lib.hid m2; have HB2 := Lib.hid (HB1.out.trans (f2.lows HB1.out.size (Nat.le_refl _))); clear m2 f2) | (go_at_call 20; (with_reducible refine (of_w HO2.out OK.out (PTb.h1 HTB HB2) 2101248 T S V3.out D3.out (by decide) (by decide)).mono ?_); rintro e' w3 ⟨rfl, m3, f3⟩; have hs3 := f3.size; have HO3 := Lib.hid m3; have HB3 := Lib.hid (HB2.out.trans (f3.lows HB2.out.size (Nat.le_refl _))); clear m3 f3))
  obtain ⟨w5, hw5⟩ : ∃ w5, w5 = w3 := ⟨_, rfl⟩
  rw [← hw5] at HO3 HB3 ⊢
  clear hw5
  go_loopw [10, 11, 12] (fun b m s wr => ∃ (k B : Nat), 1 ≤ k ∧ k ≤ 32 ∧ s = .int .u64 (k : Int) ∧ b = .int .u64 (B : Int) ∧ m = .int .u64 (S.pr B) ∧ B < 32 ∧ IsBest (S.can 1) S.pr 1 k B ∧ Pl wr W.heap.size hi g S ∧ Below W.heap.size W wr) (fun _ _ s _ => 32 - (intOf s).toNat)
  case atStart => exact ⟨1, 0, Nat.le_refl _, by decide, rfl, rfl, by rw [OK.out.r0], by decide, ⟨.inl rfl, fun i h1 h2 => by omega⟩, HO3.out, HB3.out⟩
  case round =>
    clear HO3 HB3
    obtain ⟨k, B, hk1, hk, rfl, rfl, rfl, hB, hbest, o, bl⟩ := hrel
    have HBE := Lib.hid hbest
    have HO := Lib.hid o
    have HB := Lib.hid bl
    have hWs := bl.size
    have rb0 := OK.out.rl B
    have rb1 := OK.out.rh B
    clear hbest o bl
    by_cases hlt : k < 32
    · have rk0 := OK.out.rl k
      have rk1 := OK.out.rh k
      have V4 := Lib.hid (show S.ldV (4 * (k : Int)) 4 = S.pr k by rw [show (4 * (k : Int)) = ((4 * k : Nat) : Int) by omega, PS.ldV, rgO_pr k hlt, if_pos rfl, val_pr S k hlt])
      have D4 := Lib.hid (ldS_oth S (4 * (k : Int)) 4 (by omega) (by omega))
      obtain ⟨t, ht⟩ : ∃ t, (S.pe k && S.en 1 k) = t := ⟨_, rfl⟩
      have hb : (bits BinOp.and IntKind.u64 ((M : Int) / 2 ^ k) 1 == 1) = t := by
        rw [← ht, ← HM.out k hlt, ← bit_shr1P, show ((2 : Int) ^ k) = ((2 ^ k : Nat) : Int) by simp, ← Int.natCast_ediv, Nat.shiftRight_eq_div_pow]
        have hy : M / 2 ^ k < 18446744073709551616 := Nat.lt_of_le_of_lt (Nat.div_le_self _ _) hMl
        have h := bits_and_u64_nat (M / 2 ^ k) 1 hy (by decide)
        simp only [Int.natCast_one] at h
        rw [h]
        generalize M / 2 ^ k &&& 1 = z
        rw [Bool.eq_iff_iff]; simp; omega
      obtain ⟨q, hq⟩ : ∃ q, decide (S.pr B < S.pr k) = q := ⟨_, rfl⟩
      have HQ := Lib.hid hq
      have HT := Lib.hid ht
      clear ht
      obtain ⟨rb, hrb⟩ : ∃ x, S.pr B = x := ⟨_, rfl⟩
      obtain ⟨rk, hrk⟩ : ∃ x, S.pr k = x := ⟨_, rfl⟩
      rw [hrb] at rb0 rb1 hq ⊢
      rw [hrk] at rk0 rk1 hq V4
      have HRB := Lib.hid hrb
      have HRK := Lib.hid hrk
      clear hrb hrk
      have f1 : (k : Int) < 32 := by omega
      have yes : t = true → q = true → IsBest (S.can 1) S.pr 1 (k + 1) k := fun e1 e2 => by
        have h1 := HT.out
        have h2 := HQ.out
        rw [e1] at h1
        rw [e2, decide_eq_true_eq] at h2
        simp only [Bool.and_eq_true] at h1
        have h0 := OK.out.rl B
        refine ⟨.inr ⟨hk1, by omega, by simp only [PS.can, h1.1, h1.2, Bool.true_and, decide_eq_true_eq]; omega⟩, fun i a1 a2 a3 => ?_⟩
        by_cases e : i = k
        · subst e; exact .inr ⟨rfl, Nat.le_refl _⟩
        · have := HBE.out.all i a1 (by omega) a3; omega
      have no : (t = false ∨ q = false) → IsBest (S.can 1) S.pr 1 (k + 1) B := fun e => by
        have h1 := HT.out
        have h2 := HQ.out
        refine ⟨?_, fun i a1 a2 a3 => ?_⟩
        · rcases HBE.out.at_ with x | x
          · exact .inl x
          · exact .inr ⟨x.1, by omega, x.2.2⟩
        · by_cases ei : i = k
          · subst ei
            simp only [PS.can, Bool.and_eq_true] at a3
            have ht : t = true := by rw [← h1, a3.1.1, a3.1.2]; rfl
            have hq' : q = false := by rcases e with e | e; rw [e] at ht; cases ht; exact e
            rw [hq', decide_eq_false_iff_not] at h2
            have hBk : B ≤ i := by rcases HBE.out.at_ with x | x <;> omega
            omega
          · exact HBE.out.all i a1 (by omega) a3
      have YES := Lib.hid yes
      have NO := Lib.hid no
      clear yes no
      cases t <;> cases q
      · go_wp2_with (go_at_call 20; (with_reducible refine (of_w HO.out OK.out (PTb.h1 HTB HB) (4 * (k : Int)) rk S V4.out D4.out (by omega) (by omega)).mono ?_); rintro e' w4 ⟨rfl, m4, f4⟩; have hs4 := f4.size; have HO4 := Lib.hid m4; have HB4 := Lib.hid (HB.out.trans (f4.lows HB.out.size (Nat.le_refl _))); clear m4 f4)
        go_roundw
        case rel => exact ⟨k + 1, B, by omega, by omega, by go_num, rfl, by rw [HRB.out], hB, NO.out (by simp), HO4.out, HB4.out⟩
        case measure => simp [intOf]; omega
      · go_wp2_with (go_at_call 20; (with_reducible refine (of_w HO.out OK.out (PTb.h1 HTB HB) (4 * (k : Int)) rk S V4.out D4.out (by omega) (by omega)).mono ?_); rintro e' w4 ⟨rfl, m4, f4⟩; have hs4 := f4.size; have HO4 := Lib.hid m4; have HB4 := Lib.hid (HB.out.trans (f4.lows HB.out.size (Nat.le_refl _))); clear m4 f4)
        go_roundw
        case rel => exact ⟨k + 1, B, by omega, by omega, by go_num, rfl, by rw [HRB.out], hB, NO.out (by simp), HO4.out, HB4.out⟩
        case measure => simp [intOf]; omega
      · go_wp2_with (go_at_call 20; (with_reducible refine (of_w HO.out OK.out (PTb.h1 HTB HB) (4 * (k : Int)) rk S V4.out D4.out (by omega) (by omega)).mono ?_); rintro e' w4 ⟨rfl, m4, f4⟩; have hs4 := f4.size; have HO4 := Lib.hid m4; have HB4 := Lib.hid (HB.out.trans (f4.lows HB.out.size (Nat.le_refl _))); clear m4 f4)
        go_roundw
        case rel => exact ⟨k + 1, B, by omega, by omega, by go_num, rfl, by rw [HRB.out], hB, NO.out (by simp), HO4.out, HB4.out⟩
        case measure => simp [intOf]; omega
      · go_wp2_with (go_at_call 20; (with_reducible refine (of_w HO.out OK.out (PTb.h1 HTB HB) (4 * (k : Int)) rk S V4.out D4.out (by omega) (by omega)).mono ?_); rintro e' w4 ⟨rfl, m4, f4⟩; have hs4 := f4.size; have HO4 := Lib.hid m4; have HB4 := Lib.hid (HB.out.trans (f4.lows HB.out.size (Nat.le_refl _))); clear m4 f4)
        go_roundw
        case rel => exact ⟨k + 1, k, by omega, by omega, by go_num, rfl, by rw [HRK.out], by omega, YES.out (by simp) (by simp), HO4.out, HB4.out⟩
        case measure => simp [intOf]; omega
    · obtain rfl : k = 32 := by omega
      have hbst := OK.out.bst_eq 1 B HBE.out
      have HP := Lib.hid (show S.pend 1 = decide (T < S.pr B) by
        show (((1 : Int) == 0 || (1 : Int) == 1) && decide (S.th 1 < S.pr (S.bst 1))) = _
        rw [hbst, HTE.out]; rfl)
      have V5 := Lib.hid (show S.ldV 2101252 4 = (B : Int) by rw [PS.ldV, if_pos (by decide), val_2101252, hbst])
      have D5 := Lib.hid (show S.ldS 2101252 4 = S.claim 1 by rw [PS.ldS, if_neg (by decide), if_pos ⟨rfl, rfl⟩])
      have OK5 := Lib.hid (OK.out.claim 1)
      have D6 := Lib.hid (ldS_oth (S.claim 1) 4096 4 (by decide) (by decide))
      have e0 : ((B : Int) == (B : Int)) = true := by simp
      have hpe := OK.out.p0
      by_cases hB0 : B = 0
      · have V6 := Lib.hid (show (S.claim 1).ldV 4096 4 = (X : Int) by rw [PS.ldV, if_pos (by decide), val_4096, PS.claim, if_pos (by rw [hbst]; exact hB0), HXE.out])
        have e1 : ((X : Int) == (X : Int)) = true := by simp
        subst hB0
        obtain ⟨rb, hrb⟩ : ∃ x, S.pr 0 = x := ⟨_, rfl⟩
        rw [hrb] at rb0 rb1 HP ⊢
        clear hrb hbst
        obtain ⟨p, hp⟩ : ∃ p, decide (T < rb) = p := ⟨_, rfl⟩
        rw [hp] at HP
        have e2 : (p == p) = true := by simp
        go_wp2_with (first | (go_at_call 17; (with_reducible refine (cppend_at HO.out OK.out (PTb.h1 HTB HB) 1 p HP.out (by decide) (by decide)).mono ?_); rintro e' w6 ⟨rfl, m6, f6⟩; have hs6 := f6.size; have HO6 := Lib.hid m6; have HB6 := Lib.hid (HB.out.trans (f6.lows hWs (Nat.le_refl _))); clear m6 f6) | (go_at_call 20; (with_reducible refine (of_w HO6.out OK.out (PTb.h1 HTB HB6) 2101252 ((0 : Nat) : Int) (S.claim 1) V5.out D5.out (by decide) (by decide)).mono ?_); rintro e' w7 ⟨rfl, m7, f7⟩; have hs7 := f7.size; have HO7 := Lib.hid m7; have HB7 := Lib.hid (HB6.out.trans (f7.lows HB6.out.size (Nat.le_refl _))); clear m7 f7) | (go_at_call 20; (with_reducible refine (of_w HO7.out OK5.out (PTb.h1 HTB HB7) 4096 X (S.claim 1) V6.out D6.out (by decide) (by decide)).mono ?_); rintro e' w8 ⟨rfl, m8, f8⟩; have hs8 := f8.size; have HO8 := Lib.hid m8; have HB8 := Lib.hid (HB7.out.trans (f8.lows HB7.out.size (Nat.le_refl _))); clear m8 f8) | (go_at_call 8; (with_reducible refine (works12_w _ (PTb.h1 HTB HB8)).mono ?_); rintro e' w9 ⟨rfl, b9⟩; have HZ := Lib.hid (HB8.out.trans (b9.mono HB8.out.size)); clear b9))
        go_ret
        exact ⟨rfl, HZ.out⟩
      · have hpow := Nat.pow_lt_pow_right (show 1 < 2 by decide) hB
        have z1 : IntKind.u64.wrap (2 ^ B) = ((2 ^ B : Nat) : Int) := by
          rw [IntKind.wrap_u64, show ((2 : Int) ^ B) = ((2 ^ B : Nat) : Int) by simp]
          generalize 2 ^ B = y at *; omega
        have z2 : bits .andNot .u64 (X : Int) ((2 ^ B : Nat) : Int) = ((X &&& (18446744073709551615 - 2 ^ B) : Nat) : Int) := u64_andNot_nat _ _ (by omega) (by omega)
        have hleft : bw (S.claim 1).pe = X &&& (18446744073709551615 - 2 ^ B) := by
          refine bw_of _ (Nat.lt_of_le_of_lt Nat.and_le_left hX) _ fun i hi => ?_
          rw [Nat.testBit_and, show 18446744073709551615 - 2 ^ B = 2 ^ 64 - (2 ^ B + 1) by omega, Nat.testBit_two_pow_sub_succ (Nat.pow_lt_pow_right (by decide) (by omega)), Nat.testBit_two_pow, ← HXE.out, bw_bit]
          rw [PS.claim, if_neg (by rw [hbst]; exact hB0), hbst]
          show (if i = B then false else S.pe i) = _
          by_cases e : i = B
          · subst e; simp
          · rw [if_neg e]; simp [hi, show i < 64 by omega]; exact fun _ x => e x.symm
        have V6 := Lib.hid (show (S.claim 1).ldV 4096 4 = ((X &&& (18446744073709551615 - 2 ^ B) : Nat) : Int) by rw [PS.ldV, if_pos (by decide), val_4096, hleft])
        clear hleft hpow
        generalize X &&& (18446744073709551615 - 2 ^ B) = Q at z2 V6
        generalize ((2 ^ B : Nat) : Int) = Z at z1 z2
        have e1 : ((Q : Int) == (Q : Int)) = true := by simp
        obtain ⟨rb, hrb⟩ : ∃ x, S.pr B = x := ⟨_, rfl⟩
        rw [hrb] at rb0 rb1 HP ⊢
        clear hrb hbst
        obtain ⟨p, hp⟩ : ∃ p, decide (T < rb) = p := ⟨_, rfl⟩
        rw [hp] at HP
        have e2 : (p == p) = true := by simp
        have HB0 := Lib.hid hB0
        obtain ⟨β, hβ⟩ : ∃ β, (B : Int) = β := ⟨_, rfl⟩
        have hβn : β.toNat = B := by omega
        have b0 : 0 < β := by omega
        have b1 : β < 32 := by omega
        rw [← hβn] at z1
        rw [hβ] at V5 e0 ⊢
        clear hB0 hβn hβ hB
        go_wp2_with (first | (go_at_call 17; (with_reducible refine (cppend_at HO.out OK.out (PTb.h1 HTB HB) 1 p HP.out (by decide) (by decide)).mono ?_); rintro e' w6 ⟨rfl, m6, f6⟩; have hs6 := f6.size; have HO6 := Lib.hid m6; have HB6 := Lib.hid (HB.out.trans (f6.lows hWs (Nat.le_refl _))); clear m6 f6) | (go_at_call 20; (with_reducible refine (of_w HO6.out OK.out (PTb.h1 HTB HB6) 2101252 β (S.claim 1) V5.out D5.out (by decide) (by decide)).mono ?_); rintro e' w7 ⟨rfl, m7, f7⟩; have hs7 := f7.size; have HO7 := Lib.hid m7; have HB7 := Lib.hid (HB6.out.trans (f7.lows HB6.out.size (Nat.le_refl _))); clear m7 f7) | (go_at_call 20; (with_reducible refine (of_w HO7.out OK5.out (PTb.h1 HTB HB7) 4096 Q (S.claim 1) V6.out D6.out (by decide) (by decide)).mono ?_); rintro e' w8 ⟨rfl, m8, f8⟩; have hs8 := f8.size; have HO8 := Lib.hid m8; have HB8 := Lib.hid (HB7.out.trans (f8.lows HB7.out.size (Nat.le_refl _))); clear m8 f8) | (go_at_call 8; (with_reducible refine (works12_w _ (PTb.h1 HTB HB8)).mono ?_); rintro e' w9 ⟨rfl, b9⟩; have HZ := Lib.hid (HB8.out.trans (b9.mono HB8.out.size)); clear b9))
        go_ret
        exact ⟨rfl, HZ.out⟩
end Go.Proofs.Ytamhhdhoeghafaa
