/-
  PlicOnce of layer 12: what was claimed is not claimed again until it was completed. No condition but what the calls lean on.
-/
import Derived.Test.YtamhhdhoeghafaaPClaims
namespace Go.Proofs.Ytamhhdhoeghafaa
open Go.ChangeShapes Go.WideShapes Go.ChangeAt Go.RowKit
set_option linter.unusedVariables false
set_option linter.unusedSimpArgs false
theorem shr_test (X k : Nat) (hX : X < 18446744073709551616) : (bits BinOp.and IntKind.u64 ((X : Int) / 2 ^ k) 1 == 1) = X.testBit k := by
  rw [← bit_shr1P, show ((2 : Int) ^ k) = ((2 ^ k : Nat) : Int) by simp, ← Int.natCast_ediv, Nat.shiftRight_eq_div_pow]
  have hy : X / 2 ^ k < 18446744073709551616 := Nat.lt_of_le_of_lt (Nat.div_le_self _ _) hX
  have h := bits_and_u64_nat (X / 2 ^ k) 1 hy (by decide)
  simp only [Int.natCast_one] at h
  rw [h]
  generalize X / 2 ^ k &&& 1 = z
  rw [Bool.eq_iff_iff]; simp; omega
/-- A source in service, enabled for a context, and not pending. -/
structure Held (S : PS) (c b : Nat) : Prop where
  ok : S.Ok
  pe : S.pe b = false
  se : S.se b = true
  en : S.en c b = true
  b1 : 1 ≤ b
theorem held_claim {S : PS} (ok : S.Ok) (c b : Nat) (hb : S.bst c = b) (h0 : b ≠ 0) (h32 : b < 32) : Held (S.claim c) c b := by
  have h := (ok.bst_is c).at_
  rw [hb] at h
  have hc : S.can c b = true := by rcases h with h | h; exact absurd h h0; exact h.2.2
  simp only [PS.can, Bool.and_eq_true] at hc
  have hk := ok.claim c
  rw [PS.claim, if_neg (by rw [hb]; exact h0), hb] at hk ⊢
  exact ⟨hk, by show (if b = b then false else S.pe b) = false; rw [if_pos rfl], by show (if b = b then true else S.se b) = true; rw [if_pos rfl], hc.1.2, by omega⟩
theorem Held.lines {S : PS} {c b : Nat} (h : Held S c b) (m : Int) (h1 : 1 ≤ b) : Held (S.lines m) c b :=
  ⟨h.ok.lines m, by show (decide (0 < b) && bitI m b && !S.se b) = false; rw [h.se]; simp, h.se, h.en, h1⟩
theorem Held.claim {S : PS} {c b : Nat} (h : Held S c b) (d : Nat) : Held (S.claim d) c b := by
  have hk := h.ok.claim d
  unfold PS.claim at hk ⊢
  split
  · exact h
  · rename_i h0
    rw [if_neg h0] at hk
    refine ⟨hk, ?_, ?_, h.en, h.b1⟩
    · show (if b = S.bst d then false else S.pe b) = false
      rw [h.pe]; simp
    · show (if b = S.bst d then true else S.se b) = true
      rw [h.se]; simp
theorem Held.ne {S : PS} {c b : Nat} (h : Held S c b) (d : Nat) : S.bst d ≠ b := by
  intro e
  rcases (h.ok.bst_is d).at_ with x | x
  · have := h.b1; omega
  · have hc := x.2.2
    rw [e] at hc
    simp only [PS.can, h.pe, Bool.false_and] at hc
    cases hc
theorem bitI_self (b : Nat) : bitI ((2 ^ b : Nat) : Int) b = true := by rw [bitI_nat]; exact Nat.testBit_two_pow_self
theorem Held.back {S : PS} {c b : Nat} (h : Held S c b) (h1 : 1 ≤ b) (h32 : b < 32) : ((S.comp c ((b : Int) + 1099511627776)).lines ((2 ^ b : Nat) : Int)).pe b = true := by
  have e : ((b : Int) + 1099511627776) % 4294967296 = (b : Int) := by omega
  show (decide (0 < b) && bitI ((2 ^ b : Nat) : Int) b && !(S.comp c ((b : Int) + 1099511627776)).se b) = true
  rw [bitI_self, PS.comp, e, Int.toNat_natCast, if_pos ⟨by omega, h.en⟩]
  show (decide (0 < b) && true && !(if b = b then false else S.se b)) = true
  rw [if_pos rfl]; simp; omega
set_option maxRecDepth 4000 in
set_option maxHeartbeats 16000000 in
theorem once12_0 (l : List Po) (A : Option Addr) (cap : Nat) (q : List Pm) (A2 : Option Addr) (cap2 : Nat) (W : World) (hrd : RdPo W W.heap.size A l) (hraw : ∀ c ∈ l, c.Raw) (hlen : l.length ≤ 9223372036854775807) (hrd2 : RdPm W W.heap.size A2 q) (hraw2 : ∀ c ∈ q, c.Raw) (hlen2 : q.length ≤ 9223372036854775807) (tb : PTb W) :
    Calls Try.prog 5 #[.slice A l.length cap, .bool false, .slice A2 q.length cap2] W fun e w' => e = .returned (.bool true) ∧ Below W.heap.size W w' := by
  have HTB := Lib.hid tb
  have HD := Lib.hid (done12_w l A cap W hrd hraw hlen tb)
  have HRD := Lib.hid hrd2
  have HRAW := Lib.hid hraw2
  clear hrd hraw tb hrd2 hraw2
  have hw0 : Hid (Below W.heap.size W W) := Lib.hid (Below.refl _ _)
  by_cases h300 : 300 < l.length
  · have d0 : decide (300 < (l.length : Int)) = true := by simp; omega
    go_enter Try.func5, Try.ntmps5
    go_wp2_with (go_at_call 8; (with_reducible refine (works12_w _ HTB.out).mono ?_); rintro e' w1 ⟨rfl, b1⟩; have HZ := Lib.hid b1; clear b1)
    go_ret
    exact ⟨rfl, HZ.out⟩
  have d0 : decide (300 < (l.length : Int)) = false := by simp; omega
  by_cases h100 : 100 < q.length
  · have d1 : decide (100 < (q.length : Int)) = true := by simp; omega
    go_enter Try.func5, Try.ntmps5
    go_wp2_with (go_at_call 8; (with_reducible refine (works12_w _ HTB.out).mono ?_); rintro e' w1 ⟨rfl, b1⟩; have HZ := Lib.hid b1; clear b1)
    go_ret
    exact ⟨rfl, HZ.out⟩
  have d1 : decide (100 < (q.length : Int)) = false := by simp; omega
  go_enter Try.func5, Try.ntmps5
  go_upto_region 7 with (go_at_call 19; (with_reducible refine HD.out.mono ?_); rintro e' w0 ⟨g, hi, S, rfl, ok, m0, b0⟩; have hs0 := b0.size; have OK := Lib.hid ok; have HO0 := Lib.hid m0; have HB0 := Lib.hid b0; clear m0 b0 ok)
  obtain ⟨S1, hS1⟩ : ∃ S1, Hid (S.lines 4294967295 = S1) := ⟨_, Lib.hid rfl⟩
  have OK1 : Hid S1.Ok := Lib.hid (by rw [← hS1.out]; exact OK.out.lines _)
  obtain ⟨b, hb⟩ : ∃ b, Hid (S1.bst 0 = b) := ⟨_, Lib.hid rfl⟩
  have hb32 : b < 32 := by have := OK1.out.bst_lt 0; rw [hb.out] at this; exact this
  obtain ⟨β, hβ⟩ : ∃ β, (b : Int) = β := ⟨_, rfl⟩
  have V1 := Lib.hid (show S1.ldV 2097156 4 = β by rw [PS.ldV, if_pos (by decide), val_2097156, hb.out, hβ])
  have D1 := Lib.hid (show S1.ldS 2097156 4 = S1.claim 0 by rw [PS.ldS, if_pos ⟨rfl, rfl⟩])
  by_cases h0 : b = 0
  · have e0 : (β == 0) = true := by simp; omega
    go_wp2_with (first | (go_at_call 11; (with_reducible refine (cplines_at HO0.out OK.out (PTb.h1 HTB HB0) 4294967295 S1 hS1.out (by decide) (by decide)).mono ?_); rintro e' w1 ⟨rfl, m1, f1⟩; have hs1 := f1.size; have HO1 := Lib.hid m1; have HB1 := Lib.hid (HB0.out.trans (f1.lows HB0.out.size (Nat.le_refl _))); clear m1 f1) | (go_at_call 20; (with_reducible refine (of_w HO1.out OK1.out (PTb.h1 HTB HB1) 2097156 β (S1.claim 0) V1.out D1.out (by decide) (by decide)).mono ?_); rintro e' w2 ⟨rfl, m2, f2⟩; have hs2 := f2.size; have HO2 := Lib.hid m2; have HB2 := Lib.hid (HB1.out.trans (f2.lows HB1.out.size (Nat.le_refl _))); clear m2 f2) | (go_at_call 8; (with_reducible refine (works12_w _ (PTb.h1 HTB HB2)).mono ?_); rintro e' w3 ⟨rfl, b3⟩; have HZ := Lib.hid (HB2.out.trans (b3.mono HB2.out.size)); clear b3))
    go_ret
    exact ⟨rfl, HZ.out⟩
  have e0 : (β == 0) = false := by simp; omega
  have e1 : decide (31 < β) = false := by simp; omega
  have hβn : β.toNat = b := by omega
  have b0 : 0 < β := by omega
  have b1 : β < 32 := by omega
  have H1 := Lib.hid (held_claim OK1.out 0 b hb.out h0 hb32)
  have HBN := Lib.hid hβn
  have HBE := Lib.hid hβ
  have H32 := Lib.hid hb32
  have HB00 := Lib.hid (show 1 ≤ b by omega)
  clear h0 hβ hβn hb32
  go_wp2_with (first | (go_at_call 11; (with_reducible refine (cplines_at HO0.out OK.out (PTb.h1 HTB HB0) 4294967295 S1 hS1.out (by decide) (by decide)).mono ?_); rintro e' w1 ⟨rfl, m1, f1⟩; have hs1 := f1.size; have HO1 := Lib.hid m1; have HB1 := Lib.hid (HB0.out.trans (f1.lows HB0.out.size (Nat.le_refl _))); clear m1 f1) | (go_at_call 20; (with_reducible refine (of_w HO1.out OK1.out (PTb.h1 HTB HB1) 2097156 β (S1.claim 0) V1.out D1.out (by decide) (by decide)).mono ?_); rintro e' w2 ⟨rfl, m2, f2⟩; have hs2 := f2.size; have HO2 := Lib.hid m2; have HB2 := Lib.hid (HB1.out.trans (f2.lows HB1.out.size (Nat.le_refl _))); clear m2 f2))
  obtain ⟨w5, hw5⟩ : ∃ w5, w5 = w2 := ⟨_, rfl⟩
  rw [← hw5] at HO2 HB2 ⊢
  clear hw5
  go_loopw [10] (fun i wr => ∃ (k : Nat) (S : PS), k ≤ q.length ∧ i = .int .i64 (k : Int) ∧ Held S 0 b ∧ Pl wr W.heap.size hi g S ∧ Below W.heap.size W wr) (fun i _ => q.length - (intOf i).toNat)
  case atStart => exact ⟨0, _, Nat.zero_le _, rfl, H1.out, HO2.out, HB2.out⟩
  case round =>
    clear HO2 HB2 H1 V1 D1 OK1 hS1
    obtain ⟨k, T, hk, rfl, hh, o, bl⟩ := hrel
    have HH := Lib.hid hh
    have HO := Lib.hid o
    have HB := Lib.hid bl
    have hL := HRD.out.below bl
    have hWs := bl.size
    clear hh o bl
    by_cases hlt : k < q.length
    · obtain ⟨bb, oo, rfl, hbb, m, hm, hrow⟩ := hL.at_ hlt
      have q0 := hrow.out
      rw [Nat.mul_one] at q0
      have hraw := HRAW.out m (List.mem_of_getElem? hm)
      clear hrow hm hL
      obtain ⟨mm⟩ := m
      dsimp only [Pm.Raw] at *
      obtain ⟨m0, m1⟩ := hraw
      obtain ⟨T1, hT1⟩ : ∃ T1, Hid (T.lines mm = T1) := ⟨_, Lib.hid rfl⟩
      have HH1 : Hid (Held T1 0 b) := Lib.hid (by rw [← hT1.out]; exact HH.out.lines mm HB00.out)
      obtain ⟨X, hX⟩ : ∃ X, Hid (bw T1.pe = X) := ⟨_, Lib.hid rfl⟩
      have V1 := Lib.hid (show T1.ldV 4096 4 = (X : Int) by rw [PS.ldV, if_pos (by decide), val_4096, hX.out])
      have hXl : X < 4294967296 := by rw [← hX.out]; exact bw_lt _
      have t1 : (bits BinOp.and IntKind.u64 ((X : Int) / 2 ^ β.toNat) 1 == 1) = false := by
        rw [HBN.out, shr_test X b (by omega), ← hX.out, bw_bit, HH1.out.pe]; simp
      have D1 := Lib.hid (ldS_oth T1 4096 4 (by decide) (by decide))
      obtain ⟨x2, hx2⟩ : ∃ x, Hid (T1.ldV 2097156 4 = x) := ⟨_, Lib.hid rfl⟩
      have t2 : (x2 == β) = false := by
        have h := HH1.out.ne 0
        rw [← hx2.out, PS.ldV, if_pos (by decide), val_2097156, ← HBE.out]; simp; omega
      obtain ⟨T2, hT2⟩ : ∃ T2, Hid (T1.ldS 2097156 4 = T2) := ⟨_, Lib.hid rfl⟩
      have HH2 : Hid (Held T2 0 b) := Lib.hid (by rw [← hT2.out, show T1.ldS 2097156 4 = T1.claim 0 by rw [PS.ldS, if_pos ⟨rfl, rfl⟩]]; exact HH1.out.claim 0)
      obtain ⟨x3, hx3⟩ : ∃ x, Hid (T2.ldV 2101252 4 = x) := ⟨_, Lib.hid rfl⟩
      have t3 : (x3 == β) = false := by
        have h := HH2.out.ne 1
        rw [← hx3.out, PS.ldV, if_pos (by decide), val_2101252, ← HBE.out]; simp; omega
      obtain ⟨T3, hT3⟩ : ∃ T3, Hid (T2.ldS 2101252 4 = T3) := ⟨_, Lib.hid rfl⟩
      have HH3 : Hid (Held T3 0 b) := Lib.hid (by rw [← hT3.out, show T2.ldS 2101252 4 = T2.claim 1 by rw [PS.ldS, if_neg (by decide), if_pos ⟨rfl, rfl⟩]]; exact HH2.out.claim 1)
      go_wp2_with (first | (go_at_call 11; (with_reducible refine (cplines_at HO.out HH.out.ok (PTb.h1 HTB HB) mm T1 hT1.out m0 m1).mono ?_); rintro e' w6 ⟨rfl, m6, f6⟩; have hs6 := f6.size; have HO6 := Lib.hid m6; have HB6 := Lib.hid (HB.out.trans (f6.lows HB.out.size (Nat.le_refl _))); clear m6 f6) | (go_at_call 20; (with_reducible refine (of_w HO6.out HH1.out.ok (PTb.h1 HTB HB6) 4096 X T1 V1.out D1.out (by decide) (by decide)).mono ?_); rintro e' w7 ⟨rfl, m7, f7⟩; have hs7 := f7.size; have HO7 := Lib.hid m7; have HB7 := Lib.hid (HB6.out.trans (f7.lows HB6.out.size (Nat.le_refl _))); clear m7 f7) | (go_at_call 20; (with_reducible refine (of_w HO7.out HH1.out.ok (PTb.h1 HTB HB7) 2097156 x2 T2 hx2.out hT2.out (by decide) (by decide)).mono ?_); rintro e' w8 ⟨rfl, m8, f8⟩; have hs8 := f8.size; have HO8 := Lib.hid m8; have HB8 := Lib.hid (HB7.out.trans (f8.lows HB7.out.size (Nat.le_refl _))); clear m8 f8) | (go_at_call 20; (with_reducible refine (of_w HO8.out HH2.out.ok (PTb.h1 HTB HB8) 2101252 x3 T3 hx3.out hT3.out (by decide) (by decide)).mono ?_); rintro e' w9 ⟨rfl, m9, f9⟩; have hs9 := f9.size; have HO9 := Lib.hid m9; have HB9 := Lib.hid (HB8.out.trans (f9.lows HB8.out.size (Nat.le_refl _))); clear m9 f9))
      go_roundw
      case rel => exact ⟨k + 1, T3, by omega, by go_num, HH3.out, HO9.out, HB9.out⟩
      case measure => simp [intOf]; omega
    · clear hL
      obtain rfl : k = q.length := by omega
      obtain ⟨T1, hT1⟩ : ∃ T1, Hid (T.stS 2097156 4 (β + 1099511627776) = T1) := ⟨_, Lib.hid rfl⟩
      have HT1 : Hid T1.Ok := Lib.hid (by rw [← hT1.out]; exact HH.out.ok.stS _ _ _)
      obtain ⟨Z, hZ⟩ : ∃ Z, IntKind.u32.wrap (2 ^ β.toNat) = Z := ⟨_, rfl⟩
      have HZE : Hid (Z = ((2 ^ b : Nat) : Int)) := Lib.hid (by
        rw [← hZ, HBN.out, IntKind.wrap_u32', show ((2 : Int) ^ b) = ((2 ^ b : Nat) : Int) by simp]
        have := Nat.pow_lt_pow_right (show 1 < 2 by decide) H32.out
        generalize 2 ^ b = y at *; omega)
      have Z0 : 0 ≤ Z := by rw [HZE.out]; exact Int.natCast_nonneg _
      have Z1 : Z < 4294967296 := by
        rw [HZE.out]
        have := Nat.pow_lt_pow_right (show 1 < 2 by decide) H32.out
        generalize 2 ^ b = y at *; omega
      obtain ⟨T2, hT2⟩ : ∃ T2, Hid (T1.lines Z = T2) := ⟨_, Lib.hid rfl⟩
      have HT2 : Hid T2.Ok := Lib.hid (by rw [← hT2.out]; exact HT1.out.lines _)
      have hpe : T2.pe b = true := by
        rw [← hT2.out, ← hT1.out, HZE.out, stS_4, put_2097156, ← HBE.out]
        exact HH.out.back HB00.out H32.out
      obtain ⟨X, hX⟩ : ∃ X, Hid (bw T2.pe = X) := ⟨_, Lib.hid rfl⟩
      have V1 := Lib.hid (show T2.ldV 4096 4 = (X : Int) by rw [PS.ldV, if_pos (by decide), val_4096, hX.out])
      have hXl : X < 4294967296 := by rw [← hX.out]; exact bw_lt _
      have t1 : (bits BinOp.and IntKind.u64 ((X : Int) / 2 ^ β.toNat) 1 == 1) = true := by
        rw [HBN.out, shr_test X b (by omega), ← hX.out, bw_bit, hpe]; simp [H32.out]
      have D1 := Lib.hid (ldS_oth T2 4096 4 (by decide) (by decide))
      clear hpe
      go_wp2_with (first | (go_at_call 15; (with_reducible refine (cpstore_at HO.out HH.out.ok (PTb.h1 HTB HB) 2097156 4 (β + 1099511627776) true T1 (by decide) hT1.out (by decide) (by decide) (by decide) (by decide) (by omega) (by omega)).mono ?_); rintro e' w6 ⟨rfl, m6, f6⟩; have hs6 := f6.size; have HO6 := Lib.hid m6; have HB6 := Lib.hid (HB.out.trans (f6.lows HB.out.size (Nat.le_refl _))); clear m6 f6) | (go_at_call 11; (with_reducible refine (cplines_at HO6.out HT1.out (PTb.h1 HTB HB6) Z T2 hT2.out Z0 Z1).mono ?_); rintro e' w7 ⟨rfl, m7, f7⟩; have hs7 := f7.size; have HO7 := Lib.hid m7; have HB7 := Lib.hid (HB6.out.trans (f7.lows HB6.out.size (Nat.le_refl _))); clear m7 f7) | (go_at_call 20; (with_reducible refine (of_w HO7.out HT2.out (PTb.h1 HTB HB7) 4096 X T2 V1.out D1.out (by decide) (by decide)).mono ?_); rintro e' w8 ⟨rfl, m8, f8⟩; have hs8 := f8.size; have HO8 := Lib.hid m8; have HB8 := Lib.hid (HB7.out.trans (f8.lows HB7.out.size (Nat.le_refl _))); clear m8 f8) | (go_at_call 8; (with_reducible refine (works12_w _ (PTb.h1 HTB HB8)).mono ?_); rintro e' w9 ⟨rfl, b9⟩; have HZ := Lib.hid (HB8.out.trans (b9.mono HB8.out.size)); clear b9))
      go_ret
      exact ⟨rfl, HZ.out⟩
set_option maxRecDepth 4000 in
set_option maxHeartbeats 16000000 in
theorem once12_1 (l : List Po) (A : Option Addr) (cap : Nat) (q : List Pm) (A2 : Option Addr) (cap2 : Nat) (W : World) (hrd : RdPo W W.heap.size A l) (hraw : ∀ c ∈ l, c.Raw) (hlen : l.length ≤ 9223372036854775807) (hrd2 : RdPm W W.heap.size A2 q) (hraw2 : ∀ c ∈ q, c.Raw) (hlen2 : q.length ≤ 9223372036854775807) (tb : PTb W) :
    Calls Try.prog 5 #[.slice A l.length cap, .bool true, .slice A2 q.length cap2] W fun e w' => e = .returned (.bool true) ∧ Below W.heap.size W w' := by
  have HTB := Lib.hid tb
  have HD := Lib.hid (done12_w l A cap W hrd hraw hlen tb)
  have HRD := Lib.hid hrd2
  have HRAW := Lib.hid hraw2
  clear hrd hraw tb hrd2 hraw2
  have hw0 : Hid (Below W.heap.size W W) := Lib.hid (Below.refl _ _)
  by_cases h300 : 300 < l.length
  · have d0 : decide (300 < (l.length : Int)) = true := by simp; omega
    go_enter Try.func5, Try.ntmps5
    go_wp2_with (go_at_call 8; (with_reducible refine (works12_w _ HTB.out).mono ?_); rintro e' w1 ⟨rfl, b1⟩; have HZ := Lib.hid b1; clear b1)
    go_ret
    exact ⟨rfl, HZ.out⟩
  have d0 : decide (300 < (l.length : Int)) = false := by simp; omega
  by_cases h100 : 100 < q.length
  · have d1 : decide (100 < (q.length : Int)) = true := by simp; omega
    go_enter Try.func5, Try.ntmps5
    go_wp2_with (go_at_call 8; (with_reducible refine (works12_w _ HTB.out).mono ?_); rintro e' w1 ⟨rfl, b1⟩; have HZ := Lib.hid b1; clear b1)
    go_ret
    exact ⟨rfl, HZ.out⟩
  have d1 : decide (100 < (q.length : Int)) = false := by simp; omega
  go_enter Try.func5, Try.ntmps5
  go_upto_region 7 with (go_at_call 19; (with_reducible refine HD.out.mono ?_); rintro e' w0 ⟨g, hi, S, rfl, ok, m0, b0⟩; have hs0 := b0.size; have OK := Lib.hid ok; have HO0 := Lib.hid m0; have HB0 := Lib.hid b0; clear m0 b0 ok)
  obtain ⟨S1, hS1⟩ : ∃ S1, Hid (S.lines 4294967295 = S1) := ⟨_, Lib.hid rfl⟩
  have OK1 : Hid S1.Ok := Lib.hid (by rw [← hS1.out]; exact OK.out.lines _)
  obtain ⟨b, hb⟩ : ∃ b, Hid (S1.bst 1 = b) := ⟨_, Lib.hid rfl⟩
  have hb32 : b < 32 := by have := OK1.out.bst_lt 1; rw [hb.out] at this; exact this
  obtain ⟨β, hβ⟩ : ∃ β, (b : Int) = β := ⟨_, rfl⟩
  have V1 := Lib.hid (show S1.ldV 2101252 4 = β by rw [PS.ldV, if_pos (by decide), val_2101252, hb.out, hβ])
  have D1 := Lib.hid (show S1.ldS 2101252 4 = S1.claim 1 by rw [PS.ldS, if_neg (by decide), if_pos ⟨rfl, rfl⟩])
  by_cases h0 : b = 0
  · have e0 : (β == 0) = true := by simp; omega
    go_wp2_with (first | (go_at_call 11; (with_reducible refine (cplines_at HO0.out OK.out (PTb.h1 HTB HB0) 4294967295 S1 hS1.out (by decide) (by decide)).mono ?_); rintro e' w1 ⟨rfl, m1, f1⟩; have hs1 := f1.size; have HO1 := Lib.hid m1; have HB1 := Lib.hid (HB0.out.trans (f1.lows HB0.out.size (Nat.le_refl _))); clear m1 f1) | (go_at_call 20; (with_reducible refine (of_w HO1.out OK1.out (PTb.h1 HTB HB1) 2101252 β (S1.claim 1) V1.out D1.out (by decide) (by decide)).mono ?_); rintro e' w2 ⟨rfl, m2, f2⟩; have hs2 := f2.size; have HO2 := Lib.hid m2; have HB2 := Lib.hid (HB1.out.trans (f2.lows HB1.out.size (Nat.le_refl _))); clear m2 f2) | (go_at_call 8; (with_reducible refine (works12_w _ (PTb.h1 HTB HB2)).mono ?_); rintro e' w3 ⟨rfl, b3⟩; have HZ := Lib.hid (HB2.out.trans (b3.mono HB2.out.size)); clear b3))
    go_ret
    exact ⟨rfl, HZ.out⟩
  have e0 : (β == 0) = false := by simp; omega
  have e1 : decide (31 < β) = false := by simp; omega
  have hβn : β.toNat = b := by omega
  have b0 : 0 < β := by omega
  have b1 : β < 32 := by omega
  have H1 := Lib.hid (held_claim OK1.out 1 b hb.out h0 hb32)
  have HBN := Lib.hid hβn
  have HBE := Lib.hid hβ
  have H32 := Lib.hid hb32
  have HB00 := Lib.hid (show 1 ≤ b by omega)
  clear h0 hβ hβn hb32
  go_wp2_with (first | (go_at_call 11; (with_reducible refine (cplines_at HO0.out OK.out (PTb.h1 HTB HB0) 4294967295 S1 hS1.out (by decide) (by decide)).mono ?_); rintro e' w1 ⟨rfl, m1, f1⟩; have hs1 := f1.size; have HO1 := Lib.hid m1; have HB1 := Lib.hid (HB0.out.trans (f1.lows HB0.out.size (Nat.le_refl _))); clear m1 f1) | (go_at_call 20; (with_reducible refine (of_w HO1.out OK1.out (PTb.h1 HTB HB1) 2101252 β (S1.claim 1) V1.out D1.out (by decide) (by decide)).mono ?_); rintro e' w2 ⟨rfl, m2, f2⟩; have hs2 := f2.size; have HO2 := Lib.hid m2; have HB2 := Lib.hid (HB1.out.trans (f2.lows HB1.out.size (Nat.le_refl _))); clear m2 f2))
  obtain ⟨w5, hw5⟩ : ∃ w5, w5 = w2 := ⟨_, rfl⟩
  rw [← hw5] at HO2 HB2 ⊢
  clear hw5
  go_loopw [10] (fun i wr => ∃ (k : Nat) (S : PS), k ≤ q.length ∧ i = .int .i64 (k : Int) ∧ Held S 1 b ∧ Pl wr W.heap.size hi g S ∧ Below W.heap.size W wr) (fun i _ => q.length - (intOf i).toNat)
  case atStart => exact ⟨0, _, Nat.zero_le _, rfl, H1.out, HO2.out, HB2.out⟩
  case round =>
    clear HO2 HB2 H1 V1 D1 OK1 hS1
    obtain ⟨k, T, hk, rfl, hh, o, bl⟩ := hrel
    have HH := Lib.hid hh
    have HO := Lib.hid o
    have HB := Lib.hid bl
    have hL := HRD.out.below bl
    have hWs := bl.size
    clear hh o bl
    by_cases hlt : k < q.length
    · obtain ⟨bb, oo, rfl, hbb, m, hm, hrow⟩ := hL.at_ hlt
      have q0 := hrow.out
      rw [Nat.mul_one] at q0
      have hraw := HRAW.out m (List.mem_of_getElem? hm)
      clear hrow hm hL
      obtain ⟨mm⟩ := m
      dsimp only [Pm.Raw] at *
      obtain ⟨m0, m1⟩ := hraw
      obtain ⟨T1, hT1⟩ : ∃ T1, Hid (T.lines mm = T1) := ⟨_, Lib.hid rfl⟩
      have HH1 : Hid (Held T1 1 b) := Lib.hid (by rw [← hT1.out]; exact HH.out.lines mm HB00.out)
      obtain ⟨X, hX⟩ : ∃ X, Hid (bw T1.pe = X) := ⟨_, Lib.hid rfl⟩
      have V1 := Lib.hid (show T1.ldV 4096 4 = (X : Int) by rw [PS.ldV, if_pos (by decide), val_4096, hX.out])
      have hXl : X < 4294967296 := by rw [← hX.out]; exact bw_lt _
      have t1 : (bits BinOp.and IntKind.u64 ((X : Int) / 2 ^ β.toNat) 1 == 1) = false := by
        rw [HBN.out, shr_test X b (by omega), ← hX.out, bw_bit, HH1.out.pe]; simp
      have D1 := Lib.hid (ldS_oth T1 4096 4 (by decide) (by decide))
      obtain ⟨x2, hx2⟩ : ∃ x, Hid (T1.ldV 2097156 4 = x) := ⟨_, Lib.hid rfl⟩
      have t2 : (x2 == β) = false := by
        have h := HH1.out.ne 0
        rw [← hx2.out, PS.ldV, if_pos (by decide), val_2097156, ← HBE.out]; simp; omega
      obtain ⟨T2, hT2⟩ : ∃ T2, Hid (T1.ldS 2097156 4 = T2) := ⟨_, Lib.hid rfl⟩
      have HH2 : Hid (Held T2 1 b) := Lib.hid (by rw [← hT2.out, show T1.ldS 2097156 4 = T1.claim 0 by rw [PS.ldS, if_pos ⟨rfl, rfl⟩]]; exact HH1.out.claim 0)
      obtain ⟨x3, hx3⟩ : ∃ x, Hid (T2.ldV 2101252 4 = x) := ⟨_, Lib.hid rfl⟩
      have t3 : (x3 == β) = false := by
        have h := HH2.out.ne 1
        rw [← hx3.out, PS.ldV, if_pos (by decide), val_2101252, ← HBE.out]; simp; omega
      obtain ⟨T3, hT3⟩ : ∃ T3, Hid (T2.ldS 2101252 4 = T3) := ⟨_, Lib.hid rfl⟩
      have HH3 : Hid (Held T3 1 b) := Lib.hid (by rw [← hT3.out, show T2.ldS 2101252 4 = T2.claim 1 by rw [PS.ldS, if_neg (by decide), if_pos ⟨rfl, rfl⟩]]; exact HH2.out.claim 1)
      go_wp2_with (first | (go_at_call 11; (with_reducible refine (cplines_at HO.out HH.out.ok (PTb.h1 HTB HB) mm T1 hT1.out m0 m1).mono ?_); rintro e' w6 ⟨rfl, m6, f6⟩; have hs6 := f6.size; have HO6 := Lib.hid m6; have HB6 := Lib.hid (HB.out.trans (f6.lows HB.out.size (Nat.le_refl _))); clear m6 f6) | (go_at_call 20; (with_reducible refine (of_w HO6.out HH1.out.ok (PTb.h1 HTB HB6) 4096 X T1 V1.out D1.out (by decide) (by decide)).mono ?_); rintro e' w7 ⟨rfl, m7, f7⟩; have hs7 := f7.size; have HO7 := Lib.hid m7; have HB7 := Lib.hid (HB6.out.trans (f7.lows HB6.out.size (Nat.le_refl _))); clear m7 f7) | (go_at_call 20; (with_reducible refine (of_w HO7.out HH1.out.ok (PTb.h1 HTB HB7) 2097156 x2 T2 hx2.out hT2.out (by decide) (by decide)).mono ?_); rintro e' w8 ⟨rfl, m8, f8⟩; have hs8 := f8.size; have HO8 := Lib.hid m8; have HB8 := Lib.hid (HB7.out.trans (f8.lows HB7.out.size (Nat.le_refl _))); clear m8 f8) | (go_at_call 20; (with_reducible refine (of_w HO8.out HH2.out.ok (PTb.h1 HTB HB8) 2101252 x3 T3 hx3.out hT3.out (by decide) (by decide)).mono ?_); rintro e' w9 ⟨rfl, m9, f9⟩; have hs9 := f9.size; have HO9 := Lib.hid m9; have HB9 := Lib.hid (HB8.out.trans (f9.lows HB8.out.size (Nat.le_refl _))); clear m9 f9))
      go_roundw
      case rel => exact ⟨k + 1, T3, by omega, by go_num, HH3.out, HO9.out, HB9.out⟩
      case measure => simp [intOf]; omega
    · clear hL
      obtain rfl : k = q.length := by omega
      obtain ⟨T1, hT1⟩ : ∃ T1, Hid (T.stS 2101252 4 (β + 1099511627776) = T1) := ⟨_, Lib.hid rfl⟩
      have HT1 : Hid T1.Ok := Lib.hid (by rw [← hT1.out]; exact HH.out.ok.stS _ _ _)
      obtain ⟨Z, hZ⟩ : ∃ Z, IntKind.u32.wrap (2 ^ β.toNat) = Z := ⟨_, rfl⟩
      have HZE : Hid (Z = ((2 ^ b : Nat) : Int)) := Lib.hid (by
        rw [← hZ, HBN.out, IntKind.wrap_u32', show ((2 : Int) ^ b) = ((2 ^ b : Nat) : Int) by simp]
        have := Nat.pow_lt_pow_right (show 1 < 2 by decide) H32.out
        generalize 2 ^ b = y at *; omega)
      have Z0 : 0 ≤ Z := by rw [HZE.out]; exact Int.natCast_nonneg _
      have Z1 : Z < 4294967296 := by
        rw [HZE.out]
        have := Nat.pow_lt_pow_right (show 1 < 2 by decide) H32.out
        generalize 2 ^ b = y at *; omega
      obtain ⟨T2, hT2⟩ : ∃ T2, Hid (T1.lines Z = T2) := ⟨_, Lib.hid rfl⟩
      have HT2 : Hid T2.Ok := Lib.hid (by rw [← hT2.out]; exact HT1.out.lines _)
      have hpe : T2.pe b = true := by
        rw [← hT2.out, ← hT1.out, HZE.out, stS_4, put_2101252, ← HBE.out]
        exact HH.out.back HB00.out H32.out
      obtain ⟨X, hX⟩ : ∃ X, Hid (bw T2.pe = X) := ⟨_, Lib.hid rfl⟩
      have V1 := Lib.hid (show T2.ldV 4096 4 = (X : Int) by rw [PS.ldV, if_pos (by decide), val_4096, hX.out])
      have hXl : X < 4294967296 := by rw [← hX.out]; exact bw_lt _
      have t1 : (bits BinOp.and IntKind.u64 ((X : Int) / 2 ^ β.toNat) 1 == 1) = true := by
        rw [HBN.out, shr_test X b (by omega), ← hX.out, bw_bit, hpe]; simp [H32.out]
      have D1 := Lib.hid (ldS_oth T2 4096 4 (by decide) (by decide))
      clear hpe
      go_wp2_with (first | (go_at_call 15; (with_reducible refine (cpstore_at HO.out HH.out.ok (PTb.h1 HTB HB) 2101252 4 (β + 1099511627776) true T1 (by decide) hT1.out (by decide) (by decide) (by decide) (by decide) (by omega) (by omega)).mono ?_); rintro e' w6 ⟨rfl, m6, f6⟩; have hs6 := f6.size; have HO6 := Lib.hid m6; have HB6 := Lib.hid (HB.out.trans (f6.lows HB.out.size (Nat.le_refl _))); clear m6 f6) | (go_at_call 11; (with_reducible refine (cplines_at HO6.out HT1.out (PTb.h1 HTB HB6) Z T2 hT2.out Z0 Z1).mono ?_); rintro e' w7 ⟨rfl, m7, f7⟩; have hs7 := f7.size; have HO7 := Lib.hid m7; have HB7 := Lib.hid (HB6.out.trans (f7.lows HB6.out.size (Nat.le_refl _))); clear m7 f7) | (go_at_call 20; (with_reducible refine (of_w HO7.out HT2.out (PTb.h1 HTB HB7) 4096 X T2 V1.out D1.out (by decide) (by decide)).mono ?_); rintro e' w8 ⟨rfl, m8, f8⟩; have hs8 := f8.size; have HO8 := Lib.hid m8; have HB8 := Lib.hid (HB7.out.trans (f8.lows HB7.out.size (Nat.le_refl _))); clear m8 f8) | (go_at_call 8; (with_reducible refine (works12_w _ (PTb.h1 HTB HB8)).mono ?_); rintro e' w9 ⟨rfl, b9⟩; have HZ := Lib.hid (HB8.out.trans (b9.mono HB8.out.size)); clear b9))
      go_ret
      exact ⟨rfl, HZ.out⟩
end Go.Proofs.Ytamhhdhoeghafaa
