/-
  SerialTells of layer 14: its walk. No condition but what the calls lean on.
-/
import Derived.Test.YtnimpgamiagedaaUWorks
import Derived.Test.YtnimpgamiagedaaUList
namespace Go.Proofs.Ytnimpgamiagedaa
open Go.ChangeShapes Go.WideShapes Go.ChangeAt Go.RowKit
set_option linter.unusedVariables false
set_option linter.unusedSimpArgs false
theorem m3ways (k : Nat) : ((k : Int) % 3 == 0) = true ∨ ((k : Int) % 3 == 0) = false := by cases ((k : Int) % 3 == 0) <;> simp
theorem en_val (S : US) (x : Int) : ({ S with en := x % 2 == 1 } : US).ldV 1 1 = x % 2 := by
  show (if (x % 2 == 1) = true then (1 : Int) else 0) = x % 2
  by_cases h : x % 2 = 1
  · simp [h]
  · have : x % 2 = 0 := by omega
    simp [this]
set_option maxRecDepth 100000 in
set_option maxHeartbeats 16000000 in
theorem tells14_w (l1 : List Ui) (A1 : Option Addr) (cap1 : Nat) (l2 : List Ui) (A2 : Option Addr) (cap2 : Nat) (l3 : List Uv) (A3 : Option Addr) (cap3 : Nat) (came : Int) (c0 : 0 ≤ came) (c1 : came < 256) (W : World) (hrd1 : RdUi W W.heap.size A1 l1) (hraw1 : ∀ c ∈ l1, c.Raw) (hlen1 : l1.length ≤ 9223372036854775807) (hrd2 : RdUi W W.heap.size A2 l2) (hraw2 : ∀ c ∈ l2, c.Raw) (hlen2 : l2.length ≤ 9223372036854775807) (hrd3 : RdUv W W.heap.size A3 l3) (hraw3 : ∀ c ∈ l3, c.Raw) (hlen3 : l3.length ≤ 9223372036854775807) (tb : UTb W) :
    Calls Try.prog 5 #[.slice A1 l1.length cap1, .slice A2 l2.length cap2, .slice A3 l3.length cap3, .int .u8 came] W fun e w' => e = .returned (.bool true) ∧ Below W.heap.size W w' := by
  have HRD1 := Lib.hid hrd1
  have HRD2 := Lib.hid hrd2
  have HRD3 := Lib.hid hrd3
  have HRAW1 := Lib.hid hraw1
  have HRAW2 := Lib.hid hraw2
  have HRAW3 := Lib.hid hraw3
  have HTB := Lib.hid tb
  have OK0 := Lib.hid US.new_ok
  clear hrd1 hrd2 hrd3 hraw1 hraw2 hraw3 tb
  obtain ⟨S1, hS1⟩ : ∃ S1, US.new.inp came = S1 := ⟨_, rfl⟩
  have OK1 : Hid S1.Ok := Lib.hid (by rw [← hS1]; exact US.new_ok.inp _ c0 c1)
  have HV1 := Lib.hid (show S1.l = [came] ∧ S1.told = -1 from ⟨by rw [← hS1]; rfl, by rw [← hS1]; rfl⟩)
  have HS1 := Lib.hid hS1
  clear hS1
  go_enter Try.func5, Try.ntmps5
  go_wp2_with (first | (go_at_call 9; (with_reducible refine (cunew_w _ HTB.out).mono ?_); rintro e' w0 ⟨g, rfl, m0, b0⟩; have hs0 := b0.size; have H0 := Lib.hid (OneU.mk m0 b0); clear m0 b0) | (go_at_call 13; (with_reducible refine (cuin_at H0.out.o OK0.out (UTb.h1 HTB (Lib.hid H0.out.b)) came true S1 rfl HS1.out c0 c1).mono ?_); rintro e' w1 ⟨rfl, m1, f1⟩; have hs1 := f1.size; have H1 := Lib.hid (H0.out.code m1 f1); clear m1 f1))
  generalize hhi : w0.heap.size = hi at *
  clear hhi H0
  go_loopw [10, 11] (fun wv i wr => ∃ (k : Nat) (S : US), k ≤ 300 ∧ i = .int .i64 (k : Int) ∧ wv = .int .i64 S.told ∧ S.Ok ∧ S.l = [came] ∧ OneU W wr hi g S) (fun _ i _ => 300 - (intOf i).toNat)
  case atStart => exact ⟨0, S1, by omega, rfl, by rw [HV1.out.2], OK1.out, HV1.out.1, H1.out⟩
  case round =>
    clear H1 OK0 OK1 HV1 HS1
    obtain ⟨k, S, hk, rfl, rfl, ok, hl, h⟩ := hrel
    have hWs := h.b.size
    have OK := Lib.hid ok
    have HL := Lib.hid hl
    have H := Lib.hid h
    have hL1 := HRD1.out.below h.b
    have hL2 := HRD2.out.below h.b
    have hL3 := HRD3.out.below h.b
    clear ok h hl
    by_cases hall : k < l3.length ∧ k < l1.length ∧ k < l2.length ∧ k < 300
    · obtain ⟨a3, a1, a2, a300⟩ := hall
      have b1 : (k : Int) < (l1.length : Int) := by omega
      have b2 : (k : Int) < (l2.length : Int) := by omega
      have b3 : (k : Int) < (l3.length : Int) := by omega
      have b4 : (k : Int) < 300 := by omega
      obtain ⟨bo, oo, rfl, hbo, c, hc, hrow⟩ := hL1.at_ a1
      have qo := hrow.out
      have hraw := HRAW1.out c (List.mem_of_getElem? hc)
      clear hrow hc
      obtain ⟨off⟩ := c
      dsimp only [Ui.Raw] at hraw qo
      obtain ⟨o0, o1⟩ := hraw
      rw [Nat.mul_one] at qo
      obtain ⟨bs, os, rfl, hbs, c, hc, hrow⟩ := hL2.at_ a2
      have qs := hrow.out
      have hraw := HRAW2.out c (List.mem_of_getElem? hc)
      clear hrow hc
      obtain ⟨size⟩ := c
      dsimp only [Ui.Raw] at hraw qs
      obtain ⟨s0, s1⟩ := hraw
      rw [Nat.mul_one] at qs
      obtain ⟨bv, ov, rfl, hbv, c, hc, hrow⟩ := hL3.at_ a3
      have qv := hrow.out
      have hraw := HRAW3.out c (List.mem_of_getElem? hc)
      clear hrow hc
      obtain ⟨x⟩ := c
      dsimp only [Uv.Raw] at hraw qv
      obtain ⟨x0, x1⟩ := hraw
      rw [Nat.mul_one] at qv
      clear hL1 hL2 hL3
      by_cases hz : size = 1
      rotate_left 1
      · have hz : (size == 1) = false := by simpa using hz
        have hO : rgU off size = false := by simp [rgU, hz]
        obtain ⟨S2, hS2⟩ : ∃ S2, S.stS off size x = S2 := ⟨_, rfl⟩
        have ok2 : S2.Ok := by rw [← hS2]; exact OK.out.stS _ _ _
        have hl2 : S2.l = [came] := by rw [← hS2]; unfold US.stS; rw [hO, if_neg (by decide)]; exact HL.out
        have ht2 : S2.told = S.told := by rw [← hS2]; unfold US.stS; rw [hO, if_neg (by decide)]
        have OK2 := Lib.hid ok2
        have HS2 := Lib.hid hS2
        have HO := Lib.hid hO
        have HL2 := Lib.hid hl2
        have HT2 := Lib.hid ht2
        have HW2 := Lib.hid (show (S2.l.length : Int) = 1 by rw [hl2]; rfl)
        clear ok2 hS2 hO hl2 ht2
        obtain ⟨t3, ht3⟩ : ∃ t3, t3 = S.told := ⟨_, rfl⟩
        rw [← ht3] at HT2
        have e3 : (t3 != t3) = false := by simp
        go_upto_region 7 with fail
        have Hd := Lib.hid (H.out.kp ((Kp.refl wr).drew))
        have qod : wr.drew.cell? _ = _ := qo
        have qsd : wr.drew.cell? _ = _ := qs
        have qvd : wr.drew.cell? _ = _ := qv
        refine wp_region_still_tail 13 (by kernel_rfl) (by kernel_rfl) ?_
        simp only [List.take_succ_cons, List.take_zero, List.drop_succ_cons, List.drop_zero]
        repeat (with_reducible refine wpStill_step (fun K hK => ?_); go_simp; with_reducible refine hK _ ?_; clear hK K)
        with_reducible refine wpStill_nil ?_
        change wpList _ _ _ _ _ wr.drew
        go_upto_region 13 with (first | (go_at_call 19; (with_reducible refine (custore_at Hd.out.o OK.out (UTb.h1 HTB (Lib.hid Hd.out.b)) off size x false S2 HO.out HS2.out o0 o1 s0 s1 x0 x1).mono ?_); rintro e' w1 ⟨rfl, m1, f1⟩; have hs1 := f1.size; have H1 := Lib.hid (Hd.out.code m1 f1); have fq1 := f1.lows hWs (Nat.le_refl _); have hWs : W.heap.size ≤ w1.heap.size := Nat.le_trans hWs f1.size; have qo1 := (fq1.cell (p := ⟨bo, oo + k, none⟩) hbo).trans qod; have qs1 := (fq1.cell (p := ⟨bs, os + k, none⟩) hbs).trans qsd; have qv1 := (fq1.cell (p := ⟨bv, ov + k, none⟩) hbv).trans qvd; clear m1 f1) | (go_at_call 25; (with_reducible refine (cuwaits_at H1.out.o OK2.out (UTb.h1 HTB (Lib.hid H1.out.b)) 1 HW2.out).mono ?_); rintro e' w2 ⟨rfl, m2, f2⟩; have hs2 := f2.size; have H2 := Lib.hid (H1.out.code m2 f2); have fq2 := f2.lows hWs (Nat.le_refl _); have hWs : W.heap.size ≤ w2.heap.size := Nat.le_trans hWs f2.size; have qo2 := (fq2.cell (p := ⟨bo, oo + k, none⟩) hbo).trans qo1; have qs2 := (fq2.cell (p := ⟨bs, os + k, none⟩) hbs).trans qs1; have qv2 := (fq2.cell (p := ⟨bv, ov + k, none⟩) hbv).trans qv1; clear m2 f2))
        refine wp_region_still_lit (by kernel_rfl) (by kernel_rfl) ?_
        repeat (with_reducible refine wpStill_step (fun K hK => ?_); go_simp; with_reducible refine hK _ ?_; clear hK K)
        with_reducible refine wpStill_nil ?_
        change Exit.then _ _ _ _ w2.drew
        have H3 := Lib.hid (H2.out.kp ((Kp.refl w2).drew))
        generalize w2.drew = w3 at H3 ⊢
        clear qo qs qv qo1 qs1 qv1 qo2 qs2 qv2 qod qsd qvd fq1 fq2
        rcases m3ways k with e4 | e4
        · have e5 : ((k : Int).tmod 3 == 0) = true := by rw [Int.tmod_eq_emod_of_nonneg (by omega)]; exact e4
          go_wp2_with (go_at_call 15; (with_reducible refine (cuout_at H3.out.o OK2.out (UTb.h1 HTB (Lib.hid H3.out.b)) t3 S2.out HT2.out rfl).mono ?_); rintro e' w4 ⟨rfl, m4, f4⟩; have hs4 := f4.size; have H4 := Lib.hid (H3.out.code m4 f4); clear m4 f4)
          go_roundw
          case rel => exact ⟨k + 1, S2.out, by omega, by go_num, rfl, OK2.out.out, HL2.out, H4.out⟩
          case measure => simp [intOf]; omega
        · have e5 : ((k : Int).tmod 3 == 0) = false := by rw [Int.tmod_eq_emod_of_nonneg (by omega)]; exact e4
          go_wp2
          go_roundw
          case rel => exact ⟨k + 1, S2, by omega, by go_num, by rw [HT2.out, ht3], OK2.out, HL2.out, H3.out⟩
          case measure => simp [intOf]; omega
      · subst hz
        rcases (show off < 0 ∨ 8 ≤ off ∨ off = 0 ∨ off = 1 ∨ (2 ≤ off ∧ off < 8) by omega) with h1 | h1 | rfl | rfl | ⟨h1, h2⟩
        · have hO : rgU off 1 = false := by simp [rgU]; omega
          have g1 : decide (0 ≤ off) = false := by simp; omega
          obtain ⟨S2, hS2⟩ : ∃ S2, S.stS off 1 x = S2 := ⟨_, rfl⟩
          have ok2 : S2.Ok := by rw [← hS2]; exact OK.out.stS _ _ _
          have hl2 : S2.l = [came] := by rw [← hS2]; unfold US.stS; rw [hO, if_neg (by decide)]; exact HL.out
          have ht2 : S2.told = S.told := by rw [← hS2]; unfold US.stS; rw [hO, if_neg (by decide)]
          have OK2 := Lib.hid ok2
          have HS2 := Lib.hid hS2
          have HO := Lib.hid hO
          have HL2 := Lib.hid hl2
          have HT2 := Lib.hid ht2
          have HW2 := Lib.hid (show (S2.l.length : Int) = 1 by rw [hl2]; rfl)
          clear ok2 hS2 hO hl2 ht2
          obtain ⟨t3, ht3⟩ : ∃ t3, t3 = S.told := ⟨_, rfl⟩
          rw [← ht3] at HT2
          have e3 : (t3 != t3) = false := by simp
          go_upto_region 7 with fail
          have Hd := Lib.hid (H.out.kp ((Kp.refl wr).drew))
          have qod : wr.drew.cell? _ = _ := qo
          have qsd : wr.drew.cell? _ = _ := qs
          have qvd : wr.drew.cell? _ = _ := qv
          refine wp_region_still_tail 13 (by kernel_rfl) (by kernel_rfl) ?_
          simp only [List.take_succ_cons, List.take_zero, List.drop_succ_cons, List.drop_zero]
          repeat (with_reducible refine wpStill_step (fun K hK => ?_); go_simp; with_reducible refine hK _ ?_; clear hK K)
          with_reducible refine wpStill_nil ?_
          change wpList _ _ _ _ _ wr.drew
          go_upto_region 13 with (first | (go_at_call 19; (with_reducible refine (custore_at Hd.out.o OK.out (UTb.h1 HTB (Lib.hid Hd.out.b)) off 1 x false S2 HO.out HS2.out o0 o1 s0 s1 x0 x1).mono ?_); rintro e' w1 ⟨rfl, m1, f1⟩; have hs1 := f1.size; have H1 := Lib.hid (Hd.out.code m1 f1); have fq1 := f1.lows hWs (Nat.le_refl _); have hWs : W.heap.size ≤ w1.heap.size := Nat.le_trans hWs f1.size; have qo1 := (fq1.cell (p := ⟨bo, oo + k, none⟩) hbo).trans qod; have qs1 := (fq1.cell (p := ⟨bs, os + k, none⟩) hbs).trans qsd; have qv1 := (fq1.cell (p := ⟨bv, ov + k, none⟩) hbv).trans qvd; clear m1 f1) | (go_at_call 25; (with_reducible refine (cuwaits_at H1.out.o OK2.out (UTb.h1 HTB (Lib.hid H1.out.b)) 1 HW2.out).mono ?_); rintro e' w2 ⟨rfl, m2, f2⟩; have hs2 := f2.size; have H2 := Lib.hid (H1.out.code m2 f2); have fq2 := f2.lows hWs (Nat.le_refl _); have hWs : W.heap.size ≤ w2.heap.size := Nat.le_trans hWs f2.size; have qo2 := (fq2.cell (p := ⟨bo, oo + k, none⟩) hbo).trans qo1; have qs2 := (fq2.cell (p := ⟨bs, os + k, none⟩) hbs).trans qs1; have qv2 := (fq2.cell (p := ⟨bv, ov + k, none⟩) hbv).trans qv1; clear m2 f2))
          refine wp_region_still_lit (by kernel_rfl) (by kernel_rfl) ?_
          repeat (with_reducible refine wpStill_step (fun K hK => ?_); go_simp; with_reducible refine hK _ ?_; clear hK K)
          with_reducible refine wpStill_nil ?_
          change Exit.then _ _ _ _ w2.drew
          have H3 := Lib.hid (H2.out.kp ((Kp.refl w2).drew))
          generalize w2.drew = w3 at H3 ⊢
          clear qo qs qv qo1 qs1 qv1 qo2 qs2 qv2 qod qsd qvd fq1 fq2
          rcases m3ways k with e4 | e4
          · have e5 : ((k : Int).tmod 3 == 0) = true := by rw [Int.tmod_eq_emod_of_nonneg (by omega)]; exact e4
            go_wp2_with (go_at_call 15; (with_reducible refine (cuout_at H3.out.o OK2.out (UTb.h1 HTB (Lib.hid H3.out.b)) t3 S2.out HT2.out rfl).mono ?_); rintro e' w4 ⟨rfl, m4, f4⟩; have hs4 := f4.size; have H4 := Lib.hid (H3.out.code m4 f4); clear m4 f4)
            go_roundw
            case rel => exact ⟨k + 1, S2.out, by omega, by go_num, rfl, OK2.out.out, HL2.out, H4.out⟩
            case measure => simp [intOf]; omega
          · have e5 : ((k : Int).tmod 3 == 0) = false := by rw [Int.tmod_eq_emod_of_nonneg (by omega)]; exact e4
            go_wp2
            go_roundw
            case rel => exact ⟨k + 1, S2, by omega, by go_num, by rw [HT2.out, ht3], OK2.out, HL2.out, H3.out⟩
            case measure => simp [intOf]; omega
        · have hO : rgU off 1 = false := by simp [rgU]; omega
          have g1 : decide (0 ≤ off) = true := by simp; omega
          have g2 : decide (off < 8) = false := by simp; omega
          obtain ⟨S2, hS2⟩ : ∃ S2, S.stS off 1 x = S2 := ⟨_, rfl⟩
          have ok2 : S2.Ok := by rw [← hS2]; exact OK.out.stS _ _ _
          have hl2 : S2.l = [came] := by rw [← hS2]; unfold US.stS; rw [hO, if_neg (by decide)]; exact HL.out
          have ht2 : S2.told = S.told := by rw [← hS2]; unfold US.stS; rw [hO, if_neg (by decide)]
          have OK2 := Lib.hid ok2
          have HS2 := Lib.hid hS2
          have HO := Lib.hid hO
          have HL2 := Lib.hid hl2
          have HT2 := Lib.hid ht2
          have HW2 := Lib.hid (show (S2.l.length : Int) = 1 by rw [hl2]; rfl)
          clear ok2 hS2 hO hl2 ht2
          obtain ⟨t3, ht3⟩ : ∃ t3, t3 = S.told := ⟨_, rfl⟩
          rw [← ht3] at HT2
          have e3 : (t3 != t3) = false := by simp
          go_upto_region 7 with fail
          have Hd := Lib.hid (H.out.kp ((Kp.refl wr).drew))
          have qod : wr.drew.cell? _ = _ := qo
          have qsd : wr.drew.cell? _ = _ := qs
          have qvd : wr.drew.cell? _ = _ := qv
          refine wp_region_still_tail 13 (by kernel_rfl) (by kernel_rfl) ?_
          simp only [List.take_succ_cons, List.take_zero, List.drop_succ_cons, List.drop_zero]
          repeat (with_reducible refine wpStill_step (fun K hK => ?_); go_simp; with_reducible refine hK _ ?_; clear hK K)
          with_reducible refine wpStill_nil ?_
          change wpList _ _ _ _ _ wr.drew
          go_upto_region 13 with (first | (go_at_call 19; (with_reducible refine (custore_at Hd.out.o OK.out (UTb.h1 HTB (Lib.hid Hd.out.b)) off 1 x false S2 HO.out HS2.out o0 o1 s0 s1 x0 x1).mono ?_); rintro e' w1 ⟨rfl, m1, f1⟩; have hs1 := f1.size; have H1 := Lib.hid (Hd.out.code m1 f1); have fq1 := f1.lows hWs (Nat.le_refl _); have hWs : W.heap.size ≤ w1.heap.size := Nat.le_trans hWs f1.size; have qo1 := (fq1.cell (p := ⟨bo, oo + k, none⟩) hbo).trans qod; have qs1 := (fq1.cell (p := ⟨bs, os + k, none⟩) hbs).trans qsd; have qv1 := (fq1.cell (p := ⟨bv, ov + k, none⟩) hbv).trans qvd; clear m1 f1) | (go_at_call 25; (with_reducible refine (cuwaits_at H1.out.o OK2.out (UTb.h1 HTB (Lib.hid H1.out.b)) 1 HW2.out).mono ?_); rintro e' w2 ⟨rfl, m2, f2⟩; have hs2 := f2.size; have H2 := Lib.hid (H1.out.code m2 f2); have fq2 := f2.lows hWs (Nat.le_refl _); have hWs : W.heap.size ≤ w2.heap.size := Nat.le_trans hWs f2.size; have qo2 := (fq2.cell (p := ⟨bo, oo + k, none⟩) hbo).trans qo1; have qs2 := (fq2.cell (p := ⟨bs, os + k, none⟩) hbs).trans qs1; have qv2 := (fq2.cell (p := ⟨bv, ov + k, none⟩) hbv).trans qv1; clear m2 f2))
          refine wp_region_still_lit (by kernel_rfl) (by kernel_rfl) ?_
          repeat (with_reducible refine wpStill_step (fun K hK => ?_); go_simp; with_reducible refine hK _ ?_; clear hK K)
          with_reducible refine wpStill_nil ?_
          change Exit.then _ _ _ _ w2.drew
          have H3 := Lib.hid (H2.out.kp ((Kp.refl w2).drew))
          generalize w2.drew = w3 at H3 ⊢
          clear qo qs qv qo1 qs1 qv1 qo2 qs2 qv2 qod qsd qvd fq1 fq2
          rcases m3ways k with e4 | e4
          · have e5 : ((k : Int).tmod 3 == 0) = true := by rw [Int.tmod_eq_emod_of_nonneg (by omega)]; exact e4
            go_wp2_with (go_at_call 15; (with_reducible refine (cuout_at H3.out.o OK2.out (UTb.h1 HTB (Lib.hid H3.out.b)) t3 S2.out HT2.out rfl).mono ?_); rintro e' w4 ⟨rfl, m4, f4⟩; have hs4 := f4.size; have H4 := Lib.hid (H3.out.code m4 f4); clear m4 f4)
            go_roundw
            case rel => exact ⟨k + 1, S2.out, by omega, by go_num, rfl, OK2.out.out, HL2.out, H4.out⟩
            case measure => simp [intOf]; omega
          · have e5 : ((k : Int).tmod 3 == 0) = false := by rw [Int.tmod_eq_emod_of_nonneg (by omega)]; exact e4
            go_wp2
            go_roundw
            case rel => exact ⟨k + 1, S2, by omega, by go_num, by rw [HT2.out, ht3], OK2.out, HL2.out, H3.out⟩
            case measure => simp [intOf]; omega
        · have hO : rgU 0 1 = true := rfl
          obtain ⟨S2, hS2⟩ : ∃ S2, S.stS 0 1 x = S2 := ⟨_, rfl⟩
          have ok2 : S2.Ok := by rw [← hS2]; exact OK.out.stS _ _ _
          have hl2 : S2.l = [came] := by rw [← hS2]; unfold US.stS; rw [hO, if_pos rfl, if_pos rfl]; exact HL.out
          have ht2 : S2.told = x % 256 := by rw [← hS2]; unfold US.stS; rw [hO, if_pos rfl, if_pos rfl]
          have OK2 := Lib.hid ok2
          have HS2 := Lib.hid hS2
          have HO := Lib.hid hO
          have HL2 := Lib.hid hl2
          have HT2 := Lib.hid ht2
          have HW2 := Lib.hid (show (S2.l.length : Int) = 1 by rw [hl2]; rfl)
          clear ok2 hS2 hO hl2 ht2
          obtain ⟨t3, ht3⟩ : ∃ t3, t3 = x % 256 := ⟨_, rfl⟩
          rw [← ht3] at HT2
          have e3 : (t3 != t3) = false := by simp
          go_upto_region 7 with fail
          have Hd := Lib.hid (H.out.kp ((Kp.refl wr).drew))
          have qod : wr.drew.cell? _ = _ := qo
          have qsd : wr.drew.cell? _ = _ := qs
          have qvd : wr.drew.cell? _ = _ := qv
          refine wp_region_still_tail 13 (by kernel_rfl) (by kernel_rfl) ?_
          simp only [List.take_succ_cons, List.take_zero, List.drop_succ_cons, List.drop_zero]
          repeat (with_reducible refine wpStill_step (fun K hK => ?_); go_simp; with_reducible refine hK _ ?_; clear hK K)
          with_reducible refine wpStill_nil ?_
          change wpList _ _ _ _ _ wr.drew
          go_upto_region 13 with (first | (go_at_call 19; (with_reducible refine (custore_at Hd.out.o OK.out (UTb.h1 HTB (Lib.hid Hd.out.b)) 0 1 x true S2 HO.out HS2.out o0 o1 s0 s1 x0 x1).mono ?_); rintro e' w1 ⟨rfl, m1, f1⟩; have hs1 := f1.size; have H1 := Lib.hid (Hd.out.code m1 f1); have fq1 := f1.lows hWs (Nat.le_refl _); have hWs : W.heap.size ≤ w1.heap.size := Nat.le_trans hWs f1.size; have qo1 := (fq1.cell (p := ⟨bo, oo + k, none⟩) hbo).trans qod; have qs1 := (fq1.cell (p := ⟨bs, os + k, none⟩) hbs).trans qsd; have qv1 := (fq1.cell (p := ⟨bv, ov + k, none⟩) hbv).trans qvd; clear m1 f1) | (go_at_call 25; (with_reducible refine (cuwaits_at H1.out.o OK2.out (UTb.h1 HTB (Lib.hid H1.out.b)) 1 HW2.out).mono ?_); rintro e' w2 ⟨rfl, m2, f2⟩; have hs2 := f2.size; have H2 := Lib.hid (H1.out.code m2 f2); have fq2 := f2.lows hWs (Nat.le_refl _); have hWs : W.heap.size ≤ w2.heap.size := Nat.le_trans hWs f2.size; have qo2 := (fq2.cell (p := ⟨bo, oo + k, none⟩) hbo).trans qo1; have qs2 := (fq2.cell (p := ⟨bs, os + k, none⟩) hbs).trans qs1; have qv2 := (fq2.cell (p := ⟨bv, ov + k, none⟩) hbv).trans qv1; clear m2 f2))
          refine wp_region_still_lit (by kernel_rfl) (by kernel_rfl) ?_
          repeat (with_reducible refine wpStill_step (fun K hK => ?_); go_simp; with_reducible refine hK _ ?_; clear hK K)
          with_reducible refine wpStill_nil ?_
          change Exit.then _ _ _ _ w2.drew
          have H3 := Lib.hid (H2.out.kp ((Kp.refl w2).drew))
          generalize w2.drew = w3 at H3 ⊢
          clear qo qs qv qo1 qs1 qv1 qo2 qs2 qv2 qod qsd qvd fq1 fq2
          rcases m3ways k with e4 | e4
          · have e5 : ((k : Int).tmod 3 == 0) = true := by rw [Int.tmod_eq_emod_of_nonneg (by omega)]; exact e4
            go_wp2_with (go_at_call 15; (with_reducible refine (cuout_at H3.out.o OK2.out (UTb.h1 HTB (Lib.hid H3.out.b)) t3 S2.out HT2.out rfl).mono ?_); rintro e' w4 ⟨rfl, m4, f4⟩; have hs4 := f4.size; have H4 := Lib.hid (H3.out.code m4 f4); clear m4 f4)
            go_roundw
            case rel => exact ⟨k + 1, S2.out, by omega, by go_num, rfl, OK2.out.out, HL2.out, H4.out⟩
            case measure => simp [intOf]; omega
          · have e5 : ((k : Int).tmod 3 == 0) = false := by rw [Int.tmod_eq_emod_of_nonneg (by omega)]; exact e4
            go_wp2
            go_roundw
            case rel => exact ⟨k + 1, S2, by omega, by go_num, by rw [HT2.out, ht3], OK2.out, HL2.out, H3.out⟩
            case measure => simp [intOf]; omega
        · have hO : rgU 1 1 = true := rfl
          obtain ⟨S2, hS2⟩ : ∃ S2, S.stS 1 1 x = S2 := ⟨_, rfl⟩
          have ok2 : S2.Ok := by rw [← hS2]; exact OK.out.stS _ _ _
          have hl2 : S2.l = [came] := by rw [← hS2]; unfold US.stS; rw [hO, if_pos rfl, if_neg (by decide), if_pos rfl]; exact HL.out
          have ht2 : S2.told = S.told := by rw [← hS2]; unfold US.stS; rw [hO, if_pos rfl, if_neg (by decide), if_pos rfl]
          have OK2 := Lib.hid ok2
          have HS2 := Lib.hid hS2
          have HO := Lib.hid hO
          have HL2 := Lib.hid hl2
          have HT2 := Lib.hid ht2
          have HW2 := Lib.hid (show (S2.l.length : Int) = 1 by rw [hl2]; rfl)
          obtain ⟨y, hy⟩ : ∃ y, S2.ldV 1 1 = y := ⟨_, rfl⟩
          have hyx : y = x % 2 := by rw [← hy, ← hS2]; unfold US.stS; rw [hO, if_pos rfl, if_neg (by decide), if_pos rfl]; exact en_val S x
          have eyy : (y != x % 2) = false := by rw [hyx]; simp
          have eyt : (y != x.tmod 2) = false := by rw [Int.tmod_eq_emod_of_nonneg x0]; exact eyy
          have HY := Lib.hid hy
          have HLD := Lib.hid (show S2.ldS 1 1 = S2 from rfl)
          clear hy hyx
          clear ok2 hS2 hO hl2 ht2
          obtain ⟨t3, ht3⟩ : ∃ t3, t3 = S.told := ⟨_, rfl⟩
          rw [← ht3] at HT2
          have e3 : (t3 != t3) = false := by simp
          go_upto_region 7 with fail
          have Hd := Lib.hid (H.out.kp ((Kp.refl wr).drew))
          have qod : wr.drew.cell? _ = _ := qo
          have qsd : wr.drew.cell? _ = _ := qs
          have qvd : wr.drew.cell? _ = _ := qv
          refine wp_region_still_tail 13 (by kernel_rfl) (by kernel_rfl) ?_
          simp only [List.take_succ_cons, List.take_zero, List.drop_succ_cons, List.drop_zero]
          repeat (with_reducible refine wpStill_step (fun K hK => ?_); go_simp; with_reducible refine hK _ ?_; clear hK K)
          with_reducible refine wpStill_nil ?_
          change wpList _ _ _ _ _ wr.drew
          go_upto_region 13 with (first | (go_at_call 19; (with_reducible refine (custore_at Hd.out.o OK.out (UTb.h1 HTB (Lib.hid Hd.out.b)) 1 1 x true S2 HO.out HS2.out o0 o1 s0 s1 x0 x1).mono ?_); rintro e' w1 ⟨rfl, m1, f1⟩; have hs1 := f1.size; have H1 := Lib.hid (Hd.out.code m1 f1); have fq1 := f1.lows hWs (Nat.le_refl _); have hWs : W.heap.size ≤ w1.heap.size := Nat.le_trans hWs f1.size; have qo1 := (fq1.cell (p := ⟨bo, oo + k, none⟩) hbo).trans qod; have qs1 := (fq1.cell (p := ⟨bs, os + k, none⟩) hbs).trans qsd; have qv1 := (fq1.cell (p := ⟨bv, ov + k, none⟩) hbv).trans qvd; clear m1 f1) | (go_at_call 25; (with_reducible refine (cuwaits_at H1.out.o OK2.out (UTb.h1 HTB (Lib.hid H1.out.b)) 1 HW2.out).mono ?_); rintro e' w2 ⟨rfl, m2, f2⟩; have hs2 := f2.size; have H2 := Lib.hid (H1.out.code m2 f2); have fq2 := f2.lows hWs (Nat.le_refl _); have hWs : W.heap.size ≤ w2.heap.size := Nat.le_trans hWs f2.size; have qo2 := (fq2.cell (p := ⟨bo, oo + k, none⟩) hbo).trans qo1; have qs2 := (fq2.cell (p := ⟨bs, os + k, none⟩) hbs).trans qs1; have qv2 := (fq2.cell (p := ⟨bv, ov + k, none⟩) hbv).trans qv1; clear m2 f2))
          refine wp_region_held_drew (S := fun w' => w'.cell? ⟨bo, oo + k, none⟩ = some (.int .i64 1) ∧ w'.cell? ⟨bv, ov + k, none⟩ = some (.int .u64 x)) (by kernel_rfl) (⟨qo2, qv2⟩) (fun hS => ?_)
          have Hg := Lib.hid (H2.out.kp ((Kp.refl w2).drew))
          have hWg : W.heap.size ≤ w2.drew.heap.size := hWs
          generalize w2.drew = g0 at hS Hg hWg ⊢
          (refine wpAnyH_take (i := 0) (oi := { dst := some 99, op := Op.move (Operand.tmp 13), type := 4, pos := "outright.go:88", after := #[], guard := none }) (v := ?_) rfl (by kernel_rfl) (by kernel_rfl) (by kernel_rfl) (fun _ _ _ h => h) (Or.inl ⟨by rfl, ?_⟩) hS ?_; rotate_left; focus (intro w' s0; go_simp <;> try with_reducible rfl))
          try simp only [Act.put, List.setIfInBounds_toArray, List.set_cons_zero, List.set_cons_succ]
          (refine wpAnyH_take (i := 1) (oi := { dst := some 100, op := Op.move (Operand.tmp 99), type := 4, pos := "outright.go:88", after := #[{ on := 0, ground := Ground.data }], guard := none }) (v := ?_) rfl (by kernel_rfl) (by kernel_rfl) (by kernel_rfl) (fun _ _ _ h => h) (Or.inl ⟨by rfl, ?_⟩) hS ?_; rotate_left; focus (intro w' s0; go_simp <;> try with_reducible rfl))
          try simp only [Act.put, List.setIfInBounds_toArray, List.set_cons_zero, List.set_cons_succ]
          (refine wpAnyH_take (i := 2) (oi := { dst := some 101, op := Op.move (Operand.tmp 0), type := 47, pos := "outright.go:88", after := #[{ on := 1, ground := Ground.guard }], guard := some (1, true) }) (v := ?_) rfl (by kernel_rfl) (by kernel_rfl) (by kernel_rfl) (fun _ _ _ h => h) (Or.inl ⟨by rfl, ?_⟩) hS ?_; rotate_left; focus (intro w' s0; go_simp <;> try with_reducible rfl))
          try simp only [Act.put, List.setIfInBounds_toArray, List.set_cons_zero, List.set_cons_succ]
          (refine wpAnyH_take (i := 3) (oi := { dst := some 102, op := Op.move (Operand.tmp 11), type := 3, pos := "outright.go:88", after := #[{ on := 1, ground := Ground.guard }], guard := some (1, true) }) (v := ?_) rfl (by kernel_rfl) (by kernel_rfl) (by kernel_rfl) (fun _ _ _ h => h) (Or.inl ⟨by rfl, ?_⟩) hS ?_; rotate_left; focus (intro w' s0; go_simp <;> try with_reducible rfl))
          try simp only [Act.put, List.setIfInBounds_toArray, List.set_cons_zero, List.set_cons_succ]
          (refine wpAnyH_take (i := 4) (oi := { dst := some 103, op := Op.indexAddr 47 (Operand.tmp 101) (Operand.tmp 102), type := 0, pos := "outright.go:88", after := #[{ on := 2, ground := Ground.data }, { on := 3, ground := Ground.data }, { on := 1, ground := Ground.guard }], guard := some (1, true) }) (v := ?_) rfl (by kernel_rfl) (by kernel_rfl) (by kernel_rfl) (fun _ _ _ h => h) (Or.inl ⟨by rfl, ?_⟩) hS ?_; rotate_left; focus (intro w' s0; go_simp <;> try with_reducible rfl))
          try simp only [Act.put, List.setIfInBounds_toArray, List.set_cons_zero, List.set_cons_succ]
          (refine wpAnyH_take (i := 5) (oi := { dst := some 104, op := Op.load 3 (Operand.tmp 103), type := 3, pos := "outright.go:88", after := #[{ on := 4, ground := Ground.data }, { on := 1, ground := Ground.guard }], guard := some (1, true) }) (v := ?_) rfl (by kernel_rfl) (by kernel_rfl) (by kernel_rfl) (fun _ _ _ h => h) (Or.inl ⟨by rfl, ?_⟩) hS ?_; rotate_left; focus (intro w' s0; obtain ⟨s1, s2⟩ := s0; go_simp <;> try with_reducible rfl))
          try simp only [Act.put, List.setIfInBounds_toArray, List.set_cons_zero, List.set_cons_succ]
          (refine wpAnyH_take (i := 6) (oi := { dst := some 105, op := Op.binOp BinOp.eql 3 (Operand.tmp 104) (Operand.const (Value.int IntKind.i64 1)) 3, type := 4, pos := "outright.go:88", after := #[{ on := 5, ground := Ground.data }, { on := 1, ground := Ground.guard }], guard := some (1, true) }) (v := ?_) rfl (by kernel_rfl) (by kernel_rfl) (by kernel_rfl) (fun _ _ _ h => h) (Or.inl ⟨by rfl, ?_⟩) hS ?_; rotate_left; focus (intro w' s0; go_simp <;> try with_reducible rfl))
          try simp only [Act.put, List.setIfInBounds_toArray, List.set_cons_zero, List.set_cons_succ]
          (refine wpAnyH_take (i := 7) (oi := { dst := some 106, op := Op.pick (Operand.tmp 100) (Operand.tmp 105) (Operand.const (Value.bool false)), type := 4, pos := "outright.go:88", after := #[{ on := 1, ground := Ground.data }, { on := 6, ground := Ground.data }], guard := none }) (v := ?_) rfl (by kernel_rfl) (by kernel_rfl) (by kernel_rfl) (fun _ _ _ h => h) (Or.inl ⟨by rfl, ?_⟩) hS ?_; rotate_left; focus (intro w' s0; go_simp <;> try with_reducible rfl))
          try simp only [Act.put, List.setIfInBounds_toArray, List.set_cons_zero, List.set_cons_succ]
          (refine wpAnyH_take (i := 8) (oi := { dst := some 107, op := Op.move (Operand.tmp 106), type := 4, pos := "outright.go:88", after := #[{ on := 7, ground := Ground.data }, { on := 1, ground := Ground.chain }], guard := none }) (v := ?_) rfl (by kernel_rfl) (by kernel_rfl) (by kernel_rfl) (fun _ _ _ h => h) (Or.inl ⟨by rfl, ?_⟩) hS ?_; rotate_left; focus (intro w' s0; go_simp <;> try with_reducible rfl))
          try simp only [Act.put, List.setIfInBounds_toArray, List.set_cons_zero, List.set_cons_succ]
          (refine wpAnyH_take (i := 9) (oi := { dst := some 108, op := Op.move (Operand.tmp 9), type := 24, pos := "outright.go:88", after := #[{ on := 8, ground := Ground.guard }], guard := some (8, true) }) (v := ?_) rfl (by kernel_rfl) (by kernel_rfl) (by kernel_rfl) (fun _ _ _ h => h) (Or.inl ⟨by rfl, ?_⟩) hS ?_; rotate_left; focus (intro w' s0; go_simp <;> try with_reducible rfl))
          try simp only [Act.put, List.setIfInBounds_toArray, List.set_cons_zero, List.set_cons_succ]
          (refine wpAnyH_take (i := 11) (oi := { dst := some 110, op := Op.move (Operand.tmp 2), type := 52, pos := "outright.go:88", after := #[{ on := 8, ground := Ground.guard }], guard := some (8, true) }) (v := ?_) rfl (by kernel_rfl) (by kernel_rfl) (by kernel_rfl) (fun _ _ _ h => h) (Or.inl ⟨by rfl, ?_⟩) hS ?_; rotate_left; focus (intro w' s0; go_simp <;> try with_reducible rfl))
          try simp only [Act.put, List.setIfInBounds_toArray, List.set_cons_zero, List.set_cons_succ]
          (refine wpAnyH_take (i := 12) (oi := { dst := some 111, op := Op.move (Operand.tmp 11), type := 3, pos := "outright.go:88", after := #[{ on := 8, ground := Ground.guard }], guard := some (8, true) }) (v := ?_) rfl (by kernel_rfl) (by kernel_rfl) (by kernel_rfl) (fun _ _ _ h => h) (Or.inl ⟨by rfl, ?_⟩) hS ?_; rotate_left; focus (intro w' s0; go_simp <;> try with_reducible rfl))
          try simp only [Act.put, List.setIfInBounds_toArray, List.set_cons_zero, List.set_cons_succ]
          (refine wpAnyH_take (i := 13) (oi := { dst := some 112, op := Op.indexAddr 52 (Operand.tmp 110) (Operand.tmp 111), type := 0, pos := "outright.go:88", after := #[{ on := 11, ground := Ground.data }, { on := 12, ground := Ground.data }, { on := 8, ground := Ground.guard }], guard := some (8, true) }) (v := ?_) rfl (by kernel_rfl) (by kernel_rfl) (by kernel_rfl) (fun _ _ _ h => h) (Or.inl ⟨by rfl, ?_⟩) hS ?_; rotate_left; focus (intro w' s0; go_simp <;> try with_reducible rfl))
          try simp only [Act.put, List.setIfInBounds_toArray, List.set_cons_zero, List.set_cons_succ]
          (refine wpAnyH_take (i := 14) (oi := { dst := some 113, op := Op.load 32 (Operand.tmp 112), type := 32, pos := "outright.go:88", after := #[{ on := 13, ground := Ground.data }, { on := 8, ground := Ground.guard }], guard := some (8, true) }) (v := ?_) rfl (by kernel_rfl) (by kernel_rfl) (by kernel_rfl) (fun _ _ _ h => h) (Or.inl ⟨by rfl, ?_⟩) hS ?_; rotate_left; focus (intro w' s0; obtain ⟨s1, s2⟩ := s0; go_simp <;> try with_reducible rfl))
          try simp only [Act.put, List.setIfInBounds_toArray, List.set_cons_zero, List.set_cons_succ]
          (refine wpAnyH_take (i := 15) (oi := { dst := some 114, op := Op.binOp BinOp.rem 32 (Operand.tmp 113) (Operand.const (Value.int IntKind.u64 2)) 32, type := 32, pos := "outright.go:88", after := #[{ on := 14, ground := Ground.data }, { on := 8, ground := Ground.guard }], guard := some (8, true) }) (v := ?_) rfl (by kernel_rfl) (by kernel_rfl) (by kernel_rfl) (fun _ _ _ h => h) (Or.inl ⟨by rfl, ?_⟩) hS ?_; rotate_left; focus (intro w' s0; go_simp <;> try with_reducible rfl))
          try simp only [Act.put, List.setIfInBounds_toArray, List.set_cons_zero, List.set_cons_succ]
          refine wpAnyH_ready (rs := [10]) (by kernel_rfl) (by simp) ?_
          refine AllReadyH.cons (o := { dst := some 109, op := Op.call { callee := Callee.value (Operand.func 30), args := #[Operand.tmp 108, Operand.const (Value.int IntKind.i64 1)], argTypes := #[24, 3] }, type := 32, pos := "outright.go:88", after := #[{ on := 9, ground := Ground.data }, { on := 8, ground := Ground.chain }, { on := 8, ground := Ground.guard }], guard := some (8, true) }) rfl (fun K hK => ?_) AllReadyH.nil
          refine take_if (by rfl) ?_
          go_simp
          (with_reducible refine (ofU_w Hg.out.o OK2.out (UTb.h1 HTB (Lib.hid Hg.out.b)) 1 y S2 HY.out HLD.out (by decide) (by decide)).mono ?_)
          rintro e' w3 ⟨rfl, m3, f3⟩
          have hS2 : w3.cell? ⟨bo, oo + k, none⟩ = some (.int .i64 1) ∧ w3.cell? ⟨bv, ov + k, none⟩ = some (.int .u64 x) := ⟨((f3.lows hWg (Nat.le_refl _)).cell (p := ⟨bo, oo + k, none⟩) hbo).trans hS.1, ((f3.lows hWg (Nat.le_refl _)).cell (p := ⟨bv, ov + k, none⟩) hbv).trans hS.2⟩
          have H3 := Lib.hid (Hg.out.code m3 f3)
          clear m3 f3
          refine hK.out _ _ hS2 (fun hS => ?_)
          clear hK K hS2
          try simp only [Act.put, List.setIfInBounds_toArray, List.set_cons_zero, List.set_cons_succ]
          (refine wpAnyH_take (i := 16) (oi := { dst := some 115, op := Op.binOp BinOp.neq 32 (Operand.tmp 109) (Operand.tmp 114) 32, type := 4, pos := "outright.go:88", after := #[{ on := 10, ground := Ground.data }, { on := 15, ground := Ground.data }, { on := 8, ground := Ground.guard }], guard := some (8, true) }) (v := ?_) rfl (by kernel_rfl) (by kernel_rfl) (by kernel_rfl) (fun _ _ _ h => h) (Or.inl ⟨by rfl, ?_⟩) hS ?_; rotate_left; focus (intro w' s0; go_simp <;> try with_reducible rfl))
          try simp only [Act.put, List.setIfInBounds_toArray, List.set_cons_zero, List.set_cons_succ]
          (refine wpAnyH_take (i := 17) (oi := { dst := some 116, op := Op.pick (Operand.tmp 107) (Operand.tmp 115) (Operand.const (Value.bool false)), type := 4, pos := "outright.go:88", after := #[{ on := 8, ground := Ground.data }, { on := 16, ground := Ground.data }], guard := none }) (v := ?_) rfl (by kernel_rfl) (by kernel_rfl) (by kernel_rfl) (fun _ _ _ h => h) (Or.inl ⟨by rfl, ?_⟩) hS ?_; rotate_left; focus (intro w' s0; go_simp <;> try with_reducible rfl))
          try simp only [Act.put, List.setIfInBounds_toArray, List.set_cons_zero, List.set_cons_succ]
          refine wpAnyH_done (by kernel_rfl) ?_ _
          clear qo qs qv qo1 qs1 qv1 qo2 qs2 qv2 qod qsd qvd fq1 fq2
          rcases m3ways k with e4 | e4
          · have e5 : ((k : Int).tmod 3 == 0) = true := by rw [Int.tmod_eq_emod_of_nonneg (by omega)]; exact e4
            go_wp2_with (go_at_call 15; (with_reducible refine (cuout_at H3.out.o OK2.out (UTb.h1 HTB (Lib.hid H3.out.b)) t3 S2.out HT2.out rfl).mono ?_); rintro e' w4 ⟨rfl, m4, f4⟩; have hs4 := f4.size; have H4 := Lib.hid (H3.out.code m4 f4); clear m4 f4)
            go_roundw
            case rel => exact ⟨k + 1, S2.out, by omega, by go_num, rfl, OK2.out.out, HL2.out, H4.out⟩
            case measure => simp [intOf]; omega
          · have e5 : ((k : Int).tmod 3 == 0) = false := by rw [Int.tmod_eq_emod_of_nonneg (by omega)]; exact e4
            go_wp2
            go_roundw
            case rel => exact ⟨k + 1, S2, by omega, by go_num, by rw [HT2.out, ht3], OK2.out, HL2.out, H3.out⟩
            case measure => simp [intOf]; omega
        · have hO : rgU off 1 = true := by simp [rgU]; omega
          have g1 : decide (0 ≤ off) = true := by simp; omega
          have g2 : decide (off < 8) = true := by simp; omega
          have g3 : (off == 0) = false := by simp; omega
          have g4 : (off == 1) = false := by simp; omega
          obtain ⟨S2, hS2⟩ : ∃ S2, S.stS off 1 x = S2 := ⟨_, rfl⟩
          have ok2 : S2.Ok := by rw [← hS2]; exact OK.out.stS _ _ _
          have hl2 : S2.l = [came] := by rw [← hS2]; unfold US.stS; rw [hO, if_pos rfl, if_neg (by omega), if_neg (by omega)]; exact HL.out
          have ht2 : S2.told = S.told := by rw [← hS2]; unfold US.stS; rw [hO, if_pos rfl, if_neg (by omega), if_neg (by omega)]
          have OK2 := Lib.hid ok2
          have HS2 := Lib.hid hS2
          have HO := Lib.hid hO
          have HL2 := Lib.hid hl2
          have HT2 := Lib.hid ht2
          have HW2 := Lib.hid (show (S2.l.length : Int) = 1 by rw [hl2]; rfl)
          clear ok2 hS2 hO hl2 ht2
          obtain ⟨t3, ht3⟩ : ∃ t3, t3 = S.told := ⟨_, rfl⟩
          rw [← ht3] at HT2
          have e3 : (t3 != t3) = false := by simp
          go_upto_region 7 with fail
          have Hd := Lib.hid (H.out.kp ((Kp.refl wr).drew))
          have qod : wr.drew.cell? _ = _ := qo
          have qsd : wr.drew.cell? _ = _ := qs
          have qvd : wr.drew.cell? _ = _ := qv
          refine wp_region_still_tail 13 (by kernel_rfl) (by kernel_rfl) ?_
          simp only [List.take_succ_cons, List.take_zero, List.drop_succ_cons, List.drop_zero]
          repeat (with_reducible refine wpStill_step (fun K hK => ?_); go_simp; with_reducible refine hK _ ?_; clear hK K)
          with_reducible refine wpStill_nil ?_
          change wpList _ _ _ _ _ wr.drew
          go_upto_region 13 with (first | (go_at_call 19; (with_reducible refine (custore_at Hd.out.o OK.out (UTb.h1 HTB (Lib.hid Hd.out.b)) off 1 x true S2 HO.out HS2.out o0 o1 s0 s1 x0 x1).mono ?_); rintro e' w1 ⟨rfl, m1, f1⟩; have hs1 := f1.size; have H1 := Lib.hid (Hd.out.code m1 f1); have fq1 := f1.lows hWs (Nat.le_refl _); have hWs : W.heap.size ≤ w1.heap.size := Nat.le_trans hWs f1.size; have qo1 := (fq1.cell (p := ⟨bo, oo + k, none⟩) hbo).trans qod; have qs1 := (fq1.cell (p := ⟨bs, os + k, none⟩) hbs).trans qsd; have qv1 := (fq1.cell (p := ⟨bv, ov + k, none⟩) hbv).trans qvd; clear m1 f1) | (go_at_call 25; (with_reducible refine (cuwaits_at H1.out.o OK2.out (UTb.h1 HTB (Lib.hid H1.out.b)) 1 HW2.out).mono ?_); rintro e' w2 ⟨rfl, m2, f2⟩; have hs2 := f2.size; have H2 := Lib.hid (H1.out.code m2 f2); have fq2 := f2.lows hWs (Nat.le_refl _); have hWs : W.heap.size ≤ w2.heap.size := Nat.le_trans hWs f2.size; have qo2 := (fq2.cell (p := ⟨bo, oo + k, none⟩) hbo).trans qo1; have qs2 := (fq2.cell (p := ⟨bs, os + k, none⟩) hbs).trans qs1; have qv2 := (fq2.cell (p := ⟨bv, ov + k, none⟩) hbv).trans qv1; clear m2 f2))
          refine wp_region_still_lit (by kernel_rfl) (by kernel_rfl) ?_
          repeat (with_reducible refine wpStill_step (fun K hK => ?_); go_simp; with_reducible refine hK _ ?_; clear hK K)
          with_reducible refine wpStill_nil ?_
          change Exit.then _ _ _ _ w2.drew
          have H3 := Lib.hid (H2.out.kp ((Kp.refl w2).drew))
          generalize w2.drew = w3 at H3 ⊢
          clear qo qs qv qo1 qs1 qv1 qo2 qs2 qv2 qod qsd qvd fq1 fq2
          rcases m3ways k with e4 | e4
          · have e5 : ((k : Int).tmod 3 == 0) = true := by rw [Int.tmod_eq_emod_of_nonneg (by omega)]; exact e4
            go_wp2_with (go_at_call 15; (with_reducible refine (cuout_at H3.out.o OK2.out (UTb.h1 HTB (Lib.hid H3.out.b)) t3 S2.out HT2.out rfl).mono ?_); rintro e' w4 ⟨rfl, m4, f4⟩; have hs4 := f4.size; have H4 := Lib.hid (H3.out.code m4 f4); clear m4 f4)
            go_roundw
            case rel => exact ⟨k + 1, S2.out, by omega, by go_num, rfl, OK2.out.out, HL2.out, H4.out⟩
            case measure => simp [intOf]; omega
          · have e5 : ((k : Int).tmod 3 == 0) = false := by rw [Int.tmod_eq_emod_of_nonneg (by omega)]; exact e4
            go_wp2
            go_roundw
            case rel => exact ⟨k + 1, S2, by omega, by go_num, by rw [HT2.out, ht3], OK2.out, HL2.out, H3.out⟩
            case measure => simp [intOf]; omega
    · have hno := hall
      by_cases n3 : k < l3.length
      · by_cases n1 : k < l1.length
        · by_cases n2 : k < l2.length
          · have d4 : decide ((k : Int) < 300) = false := by simp; omega
            clear hL1 hL2 hL3
            have HF := Lib.hid (show S.ldV 0 1 = came by unfold US.ldV US.val; rw [if_pos (by decide), if_pos rfl, HL.out]; rfl)
            obtain ⟨S9, hS9⟩ : ∃ S9, S.out = S9 := ⟨_, rfl⟩
            have HF2 : Hid (S9.ldV 0 1 = came) := Lib.hid (by rw [← hS9]; exact HF.out)
            have OK9 : Hid S9.Ok := Lib.hid (by rw [← hS9]; exact OK.out.out)
            have HS9 := Lib.hid hS9
            clear hS9
            obtain ⟨t3, ht3⟩ : ∃ t3, S.told = t3 := ⟨_, rfl⟩
            rw [ht3]
            have HT3 := Lib.hid ht3
            have e3 : (t3 == t3) = true := by simp
            clear ht3
            go_wp2_with (first | (go_at_call 15; (with_reducible refine (cuout_at H.out.o OK.out (UTb.h1 HTB (Lib.hid H.out.b)) t3 S9 HT3.out HS9.out).mono ?_); rintro e' w1 ⟨rfl, m1, f1⟩; have hs1 := f1.size; have H1 := Lib.hid (H.out.code m1 f1); clear m1 f1) | (go_at_call 30; (with_reducible refine (ofU_w H1.out.o OK9.out (UTb.h1 HTB (Lib.hid H1.out.b)) 0 came _ HF2.out rfl (by decide) (by decide)).mono ?_); rintro e' w2 ⟨rfl, m2, f2⟩; have hs2 := f2.size; have H2 := Lib.hid (H1.out.code m2 f2); clear m2 f2) | (go_at_call 8; (with_reducible refine (works14_w _ (UTb.h1 HTB (Lib.hid H2.out.b))).mono ?_); rintro e' w3 ⟨rfl, b3⟩; have HZ := Lib.hid (H2.out.b.trans (b3.mono H2.out.b.size)); clear b3))
            go_ret
            exact ⟨rfl, HZ.out⟩
          · have d2 : decide ((k : Int) < (l2.length : Int)) = false := by simp; omega
            clear hL1 hL2 hL3
            have HF := Lib.hid (show S.ldV 0 1 = came by unfold US.ldV US.val; rw [if_pos (by decide), if_pos rfl, HL.out]; rfl)
            obtain ⟨S9, hS9⟩ : ∃ S9, S.out = S9 := ⟨_, rfl⟩
            have HF2 : Hid (S9.ldV 0 1 = came) := Lib.hid (by rw [← hS9]; exact HF.out)
            have OK9 : Hid S9.Ok := Lib.hid (by rw [← hS9]; exact OK.out.out)
            have HS9 := Lib.hid hS9
            clear hS9
            obtain ⟨t3, ht3⟩ : ∃ t3, S.told = t3 := ⟨_, rfl⟩
            rw [ht3]
            have HT3 := Lib.hid ht3
            have e3 : (t3 == t3) = true := by simp
            clear ht3
            go_wp2_with (first | (go_at_call 15; (with_reducible refine (cuout_at H.out.o OK.out (UTb.h1 HTB (Lib.hid H.out.b)) t3 S9 HT3.out HS9.out).mono ?_); rintro e' w1 ⟨rfl, m1, f1⟩; have hs1 := f1.size; have H1 := Lib.hid (H.out.code m1 f1); clear m1 f1) | (go_at_call 30; (with_reducible refine (ofU_w H1.out.o OK9.out (UTb.h1 HTB (Lib.hid H1.out.b)) 0 came _ HF2.out rfl (by decide) (by decide)).mono ?_); rintro e' w2 ⟨rfl, m2, f2⟩; have hs2 := f2.size; have H2 := Lib.hid (H1.out.code m2 f2); clear m2 f2) | (go_at_call 8; (with_reducible refine (works14_w _ (UTb.h1 HTB (Lib.hid H2.out.b))).mono ?_); rintro e' w3 ⟨rfl, b3⟩; have HZ := Lib.hid (H2.out.b.trans (b3.mono H2.out.b.size)); clear b3))
            go_ret
            exact ⟨rfl, HZ.out⟩
        · have d1 : decide ((k : Int) < (l1.length : Int)) = false := by simp; omega
          clear hL1 hL2 hL3
          have HF := Lib.hid (show S.ldV 0 1 = came by unfold US.ldV US.val; rw [if_pos (by decide), if_pos rfl, HL.out]; rfl)
          obtain ⟨S9, hS9⟩ : ∃ S9, S.out = S9 := ⟨_, rfl⟩
          have HF2 : Hid (S9.ldV 0 1 = came) := Lib.hid (by rw [← hS9]; exact HF.out)
          have OK9 : Hid S9.Ok := Lib.hid (by rw [← hS9]; exact OK.out.out)
          have HS9 := Lib.hid hS9
          clear hS9
          obtain ⟨t3, ht3⟩ : ∃ t3, S.told = t3 := ⟨_, rfl⟩
          rw [ht3]
          have HT3 := Lib.hid ht3
          have e3 : (t3 == t3) = true := by simp
          clear ht3
          go_wp2_with (first | (go_at_call 15; (with_reducible refine (cuout_at H.out.o OK.out (UTb.h1 HTB (Lib.hid H.out.b)) t3 S9 HT3.out HS9.out).mono ?_); rintro e' w1 ⟨rfl, m1, f1⟩; have hs1 := f1.size; have H1 := Lib.hid (H.out.code m1 f1); clear m1 f1) | (go_at_call 30; (with_reducible refine (ofU_w H1.out.o OK9.out (UTb.h1 HTB (Lib.hid H1.out.b)) 0 came _ HF2.out rfl (by decide) (by decide)).mono ?_); rintro e' w2 ⟨rfl, m2, f2⟩; have hs2 := f2.size; have H2 := Lib.hid (H1.out.code m2 f2); clear m2 f2) | (go_at_call 8; (with_reducible refine (works14_w _ (UTb.h1 HTB (Lib.hid H2.out.b))).mono ?_); rintro e' w3 ⟨rfl, b3⟩; have HZ := Lib.hid (H2.out.b.trans (b3.mono H2.out.b.size)); clear b3))
          go_ret
          exact ⟨rfl, HZ.out⟩
      · have d3 : decide ((k : Int) < (l3.length : Int)) = false := by simp; omega
        clear hL1 hL2 hL3
        have HF := Lib.hid (show S.ldV 0 1 = came by unfold US.ldV US.val; rw [if_pos (by decide), if_pos rfl, HL.out]; rfl)
        obtain ⟨S9, hS9⟩ : ∃ S9, S.out = S9 := ⟨_, rfl⟩
        have HF2 : Hid (S9.ldV 0 1 = came) := Lib.hid (by rw [← hS9]; exact HF.out)
        have OK9 : Hid S9.Ok := Lib.hid (by rw [← hS9]; exact OK.out.out)
        have HS9 := Lib.hid hS9
        clear hS9
        obtain ⟨t3, ht3⟩ : ∃ t3, S.told = t3 := ⟨_, rfl⟩
        rw [ht3]
        have HT3 := Lib.hid ht3
        have e3 : (t3 == t3) = true := by simp
        clear ht3
        go_wp2_with (first | (go_at_call 15; (with_reducible refine (cuout_at H.out.o OK.out (UTb.h1 HTB (Lib.hid H.out.b)) t3 S9 HT3.out HS9.out).mono ?_); rintro e' w1 ⟨rfl, m1, f1⟩; have hs1 := f1.size; have H1 := Lib.hid (H.out.code m1 f1); clear m1 f1) | (go_at_call 30; (with_reducible refine (ofU_w H1.out.o OK9.out (UTb.h1 HTB (Lib.hid H1.out.b)) 0 came _ HF2.out rfl (by decide) (by decide)).mono ?_); rintro e' w2 ⟨rfl, m2, f2⟩; have hs2 := f2.size; have H2 := Lib.hid (H1.out.code m2 f2); clear m2 f2) | (go_at_call 8; (with_reducible refine (works14_w _ (UTb.h1 HTB (Lib.hid H2.out.b))).mono ?_); rintro e' w3 ⟨rfl, b3⟩; have HZ := Lib.hid (H2.out.b.trans (b3.mono H2.out.b.size)); clear b3))
        go_ret
        exact ⟨rfl, HZ.out⟩
end Go.Proofs.Ytnimpgamiagedaa
