/-
  PlicRegisters of layer 12: its walk. No condition but what the calls lean on.
-/
import Derived.Test.YtamhhdhoeghafaaPVals
namespace Go.Proofs.Ytamhhdhoeghafaa
open Go.ChangeShapes Go.WideShapes Go.ChangeAt Go.RowKit
set_option linter.unusedVariables false
set_option linter.unusedSimpArgs false
theorem th_step (cl z : Bool) (off r : Int) (T : List Int) : (cl || (z && decide (off ∈ T ++ [r]))) = ((cl || (z && decide (off ∈ T))) || (z && r == off)) := by
  have h : decide (off ∈ T ++ [r]) = (decide (off ∈ T) || (r == off)) := by
    rw [Bool.eq_iff_iff]
    simp only [decide_eq_true_eq, List.mem_append, List.mem_singleton, Bool.or_eq_true, beq_iff_eq]
    constructor <;> rintro (h | h) <;> first | exact .inl h | exact .inr h.symm
  rw [h]
  cases cl <;> cases z <;> simp
theorem kR_bd (r : Int) (h : r ∈ kR) : 0 ≤ r ∧ r < 2147483648 := by
  rw [kR_mem] at h
  rcases h with h | h | h | h | h | h
  · obtain ⟨k, rfl, hk⟩ := isPr_nat h; omega
  all_goals omega
theorem OwnU.frr {w w' : World} {B : Nat} {v : Value} {L : List Int} {S : Nat → Prop} (h : OwnU w B v L) (k : Fr w w' S) (hS : ∀ i, B ≤ i → ¬ S i) : OwnU w' B v L := by
  obtain ⟨hx, ⟨rfl, hn⟩ | ⟨g, cap, cur, rfl, hb, hg, hn, hcap, hs, ht⟩⟩ := h
  · exact ⟨hx, .inl ⟨rfl, hn⟩⟩
  · refine ⟨hx, .inr ⟨g, cap, cur, rfl, hb, ?_, hn, hcap, hs, ht⟩⟩
    have hlt : g < w.heap.size := by
      rcases Nat.lt_or_ge g w.heap.size with l | l
      · exact l
      · rw [Array.getElem?_eq_none l] at hg; cases hg
    rw [k.block g hlt (hS g hb)]; exact hg
set_option maxRecDepth 4000 in
set_option maxHeartbeats 16000000 in
theorem regs12_w (l : List Po) (A : Option Addr) (cap : Nat) (off size v : Int) (o0 : -9223372036854775808 ≤ off) (o1 : off < 9223372036854775808) (s0 : -9223372036854775808 ≤ size) (s1 : size < 9223372036854775808) (v0 : 0 ≤ v) (v1 : v < 18446744073709551616) (W : World) (hrd : RdPo W W.heap.size A l) (hraw : ∀ c ∈ l, c.Raw) (hlen : l.length ≤ 9223372036854775807) (tb : PTb W) :
    Calls Try.prog 6 #[.slice A l.length cap, .int .i64 off, .int .i64 size, .int .u64 v] W fun e w' => e = .returned (.bool true) ∧ Below W.heap.size W w' := by
  have HTB := Lib.hid tb
  have HD := Lib.hid (done12_w l A cap W hrd hraw hlen tb)
  clear hrd hraw tb
  by_cases h300 : 300 < l.length
  · have d0 : decide (300 < (l.length : Int)) = true := by simp; omega
    go_enter Try.func6, Try.ntmps6
    go_wp2_with (go_at_call 8; (with_reducible refine (works12_w _ HTB.out).mono ?_); rintro e' w1 ⟨rfl, b1⟩; have HZ := Lib.hid b1; clear b1)
    go_ret
    exact ⟨rfl, HZ.out⟩
  have d0 : decide (300 < (l.length : Int)) = false := by simp; omega
  go_enter Try.func6, Try.ntmps6
  go_wp2_with (go_at_call 19; (with_reducible refine HD.out.mono ?_); rintro e' w0 ⟨g, hi, S, rfl, ok, m0, b0⟩; have hs0 := b0.size; have htop := m0.top; have OK := Lib.hid ok; have HO0 := Lib.hid m0; have HB0 := Lib.hid b0; clear m0 b0 ok)
  have hlo : W.heap.size ≤ hi := Nat.le_trans HO0.out.bot (Nat.le_of_lt HO0.out.gh)
  have hrow := ownI_lit w0 w0.heap.size (Nat.le_refl _) [4096, 8192, 8320, 2097152, 2101248] (by decide) (by decide)
  have HL1 : Hid (OwnI (w0.alloc (.cells #[.int .i64 4096, .int .i64 8192, .int .i64 8320, .int .i64 2097152, .int .i64 2101248] 3)) w0.heap.size (.slice (some ⟨w0.heap.size, 0, none⟩) 5 5) (kR.take 5)) := Lib.hid hrow
  have HA1 := Lib.hid ((Fr.refl w0 (fun _ => False)).alloc (.cells #[.int .i64 4096, .int .i64 8192, .int .i64 8320, .int .i64 2097152, .int .i64 2101248] 3))
  clear hrow
  go_loopw [11, 12] (fun r s wr => ∃ k : Nat, k ≤ 32 ∧ s = .int .i64 (k : Int) ∧ OwnI wr w0.heap.size r (kR.take (5 + k)) ∧ Below w0.heap.size w0 wr) (fun _ s _ => 32 - (intOf s).toNat)
  case atStart => exact ⟨0, Nat.zero_le _, rfl, HL1.out, HA1.out.bl (Nat.le_refl _) (fun _ h => h.elim)⟩
  case round =>
    clear HL1 HA1
    obtain ⟨k, hk, rfl, ho, hb⟩ := hrel
    have hsz := hb.size
    have HO1 := Lib.hid ho
    have HB1 := Lib.hid hb
    clear ho hb
    by_cases hlt : k < 32
    · have hst := kR_take k hlt
      obtain ⟨pre, hpre⟩ : ∃ p, kR.take (5 + k) = p := ⟨_, rfl⟩
      have hln : pre.length < 1000000 := by rw [← hpre, List.length_take, kR_len]; omega
      rw [hpre] at hst HO1
      have HST := Lib.hid hst
      have f1 : (k : Int) < 32 := by omega
      clear hst hpre
      go_wp2_with (at_builtin; refine app_i rfl (.tmp 29) (.tmp 32) rfl w0.heap.size _ _ rfl (HO1.out.alloc _) ⟨wr.heap.size, 0, none⟩ 1 (4 * (k : Int)) rfl (by simp [go_sem]) hln (by simp; omega) (wr.heap.size + 1) (by simp) ?_; intro gg cc w2 hown hgr hat hlt2; have HO2 := Lib.hid hown; have HG2 := Lib.hid hgr; clear hown hgr hat)
      go_roundw
      case rel => exact ⟨k + 1, by omega, by go_num, by rw [HST.out]; exact HO2.out, (HB1.out.alloc hsz _).grown HG2.out (by simp; omega) (fun b hb => (HO1.out.lt b hb).1)⟩
      case measure => simp [intOf]; omega
    · obtain rfl : k = 32 := by omega
      rw [show kR.take (5 + 32) = kR from List.take_of_length_le (by rw [kR_len]; omega)] at HO1
      obtain ⟨A1, cap1, rfl, hcap1, hr1⟩ := row_out HO1.out
      rw [kR_len] at hcap1 ⊢
      have HR1 := Lib.hid hr1
      have HB5 := Lib.hid (HB0.out.trans (HB1.out.mono hs0))
      have HM5 := Lib.hid (HO0.out.below HB1.out)
      obtain ⟨w5, rfl⟩ : ∃ w5, w5 = wr := ⟨_, rfl⟩
      have htop5 : hi ≤ w5.heap.size := by omega
      clear hr1 HO1 HB1 HB0 HO0
      go_wp2
      go_loopw [10, 13] (fun u i wr => ∃ k : Nat, k ≤ 37 ∧ i = .int .i64 (k : Int) ∧ OwnU wr w5.heap.size u ((kR.map S.val).take k) ∧ Pl wr W.heap.size hi g S ∧ Fr w5 wr (Rg W.heap.size hi)) (fun _ i _ => 37 - (intOf i).toNat)
      case atStart => exact ⟨0, Nat.zero_le _, rfl, OwnU.nil _ _, HM5.out, Fr.refl _ _⟩
      case round =>
        clear HM5
        obtain ⟨k, hk, rfl, ho, m, hf⟩ := hrel
        have hsz2 := hf.size
        have HU := Lib.hid ho
        have HM := Lib.hid m
        have HF := Lib.hid hf
        have HBW := Lib.hid (HB5.out.trans (hf.lows (by omega) (Nat.le_refl _)))
        have hrr := HR1.out.fr hf (fun i h1 h2 => by unfold Rg at h2; omega)
        clear ho m hf
        by_cases hlt2 : k < 37
        · obtain ⟨r, hr⟩ : ∃ r, kR[k]? = some r := ⟨_, List.getElem?_eq_getElem (by rw [kR_len]; exact hlt2)⟩
          obtain ⟨g1, rfl, hn1, hg1, c1⟩ := hrr k r hr
          have hmem := List.mem_of_getElem? hr
          obtain ⟨bd0, bd1⟩ := kR_bd r hmem
          obtain ⟨l1, l2⟩ := kR_ld S r hmem
          have hst : (kR.map S.val).take (k + 1) = (kR.map S.val).take k ++ [S.val r] := by rw [List.take_add_one, List.getElem?_map, hr]; rfl
          obtain ⟨x, hx⟩ : ∃ x, S.val r = x := ⟨_, rfl⟩
          obtain ⟨pre, hpre⟩ : ∃ p, (kR.map S.val).take k = p := ⟨_, rfl⟩
          have hln : pre.length < 1000000 := by rw [← hpre, List.length_take, List.length_map, kR_len]; omega
          rw [hpre, hx] at hst
          rw [hpre] at HU
          rw [hx] at l1
          have HST := Lib.hid hst
          have L1 := Lib.hid l1
          have L2 := Lib.hid l2
          have f1 : (k : Int) < 37 := by omega
          clear hrr hr hmem hst hx hpre l1 l2
          go_wp2_with (first | (go_at_call 20; (with_reducible refine (of_w HM.out OK.out (PTb.h1 HTB HBW) r x S L1.out L2.out (by omega) (by omega)).mono ?_); rintro e' w6 ⟨rfl, m6, f6⟩; have hs6 := f6.size; have HM6 := Lib.hid m6; have HF6 := Lib.hid (HF.out.trans f6 (fun _ _ h => h)); have HU6 := Lib.hid (OwnU.frr HU.out f6 (fun i h1 h2 => by unfold Rg at h2; omega)); clear m6 f6) | (at_builtin; refine app_u rfl (.tmp 40) (.tmp 47) rfl w5.heap.size _ _ rfl (HU6.out.alloc _) ⟨w6.heap.size, 0, none⟩ 1 x rfl (by simp [go_sem]) hln (by simp; omega) (w6.heap.size + 1) (by simp) ?_; intro gg cc w7 hown hgr hat hlt3; have HU7 := Lib.hid hown; have HG7 := Lib.hid hgr; clear hown hgr hat))
          go_roundw
          case rel => refine ⟨_, _, _, _, _, _, _, _, _, _, _, _, _, _, _, _, _, ⟨k + 1, by omega, ?_, by rw [HST.out]; exact HU7.out, (HM6.out.fr ((Fr.refl w6 (fun i => w5.heap.size ≤ i)).alloc _ |>.grown HG7.out (fun b hb => .inr (HU6.out.lt b hb).1)) (fun i h1 h2 h3 => by omega)), (HF6.out.alloc _).grown HG7.out (fun b hb => .inl (HU6.out.lt b hb).1)⟩, rfl⟩; go_num
          case measure => simp [intOf]; omega
        · obtain rfl : k = 37 := by omega
          rw [show (kR.map S.val).take 37 = kR.map S.val from List.take_of_length_le (by rw [List.length_map, kR_len]; omega)] at HU
          obtain ⟨A2, cap2, rfl, hcap2, hr2⟩ := row_out HU.out
          rw [List.length_map, kR_len] at hcap2 ⊢
          have HR2 := Lib.hid hr2
          have HR3 := Lib.hid hrr
          clear hr2 hrr HR1 HU HF
          obtain ⟨w8, rfl⟩ : ∃ w8, w8 = wr := ⟨_, rfl⟩
          obtain ⟨y, hy⟩ : ∃ y, Hid (rgO off size = y) := ⟨_, Lib.hid rfl⟩
          obtain ⟨S', hS'⟩ : ∃ S', Hid (S.stS off size v = S') := ⟨_, Lib.hid rfl⟩
          have OKS : Hid S'.Ok := Lib.hid (by rw [← hS'.out]; exact OK.out.stS _ _ _)
          obtain ⟨k1, q1⟩ : ∃ b, (off == 2097156) = b := ⟨_, rfl⟩
          obtain ⟨k2, q2⟩ : ∃ b, (off == 2101252) = b := ⟨_, rfl⟩
          obtain ⟨z, cz⟩ : ∃ b, (size == 4) = b := ⟨_, rfl⟩
          have K1 := Lib.hid q1
          have K2 := Lib.hid q2
          have KZ := Lib.hid cz
          have t8 : v.tmod 8 = v % 8 := Int.tmod_eq_emod_of_nonneg v0
          have t32 : v.tmod 4294967296 = v % 4294967296 := Int.tmod_eq_emod_of_nonneg v0
          obtain ⟨Q, hQ⟩ : ∃ Q, bits .andNot .u64 (v % 4294967296) 1 = Q := ⟨_, rfl⟩
          have HQ := Lib.hid hQ
          cases k1 <;> cases k2
          all_goals
            go_wp2_with (go_at_call 15; (with_reducible refine (cpstore_at HM.out OK.out (PTb.h1 HTB HBW) off size v y S' hy.out hS'.out o0 o1 s0 s1 v0 v1).mono ?_); rintro e' w9 ⟨rfl, m9, f9⟩; have hs9 := f9.size; have HM9 := Lib.hid m9; have HF9 := Lib.hid f9; clear m9 f9)
            go_loopw [15, 16] (fun th i wr => ∃ k : Nat, k ≤ 37 ∧ i = .int .i64 (k : Int) ∧ th = .bool ((off == 2097156 || off == 2101252) || (z && decide (off ∈ kR.take k))) ∧ Pl wr W.heap.size hi g S' ∧ Fr w8 wr (Rg W.heap.size hi)) (fun _ i _ => 37 - (intOf i).toNat)
            case atStart => exact ⟨0, by omega, rfl, by rw [K1.out, K2.out]; simp, HM9.out, HF9.out⟩
            case round =>
              clear HM HM9 HF9
              obtain ⟨k, hk, rfl, rfl, m, hf⟩ := hrel
              have hsz3 := hf.size
              have HM := Lib.hid m
              have HF := Lib.hid hf
              have HBW := Lib.hid (HBW.out.trans (hf.lows HBW.out.size (Nat.le_refl _)))
              have hr3 := HR3.out.fr hf (fun i h1 h2 => by unfold Rg at h2; omega)
              have hr4 := HR2.out.fr hf (fun i h1 h2 => by unfold Rg at h2; omega)
              clear m hf
              obtain ⟨t, ht⟩ : ∃ t, ((off == 2097156 || off == 2101252) || (z && decide (off ∈ kR.take k))) = t := ⟨_, rfl⟩
              rw [ht]
              have HTH := Lib.hid ht
              clear ht
              by_cases hlt3 : k < 37
              · obtain ⟨r, hr⟩ : ∃ r, kR[k]? = some r := ⟨_, List.getElem?_eq_getElem (by rw [kR_len]; exact hlt3)⟩
                obtain ⟨g1, rfl, hn1, hg1, x1⟩ := hr3 k r hr
                obtain ⟨g2, rfl, hn2, hg2, x2⟩ := hr4 k (S.val r) (by rw [List.getElem?_map, hr]; rfl)
                have hmem := List.mem_of_getElem? hr
                obtain ⟨bd0, bd1⟩ := kR_bd r hmem
                obtain ⟨l1, l2⟩ := kR_ld S' r hmem
                have LS0 := Lib.hid l1
                have LS := Lib.hid l2
                have hts : ((off == 2097156 || off == 2101252) || (z && decide (off ∈ kR.take (k + 1)))) = (((off == 2097156 || off == 2101252) || (z && decide (off ∈ kR.take k))) || (z && r == off)) := by
                  rw [List.take_add_one, hr]
                  exact th_step _ z off r _
                have HTS := Lib.hid hts
                have hval : S'.val r = if z = true then wantR off v r (S.val r) else S.val r := by
                  rw [← hS'.out]
                  cases z with
                  | true => rw [if_pos rfl, show size = 4 by simpa using KZ.out, stS_4]; exact val_put S off v r v0 hmem
                  | false => rw [if_neg (by simp), stS_size S off size v (by simpa using KZ.out)]
                obtain ⟨x, hx⟩ : ∃ x, S.val r = x := ⟨_, rfl⟩
                rw [hx] at x2 hval
                have HV := Lib.hid hval
                have f1 : (k : Int) < 37 := by omega
                obtain ⟨e, he⟩ : ∃ e, (r == off) = e := ⟨_, rfl⟩
                have HE := Lib.hid he
                clear hr3 hr4 hr hmem l1 l2 hts hval hx
                cases z
                · have LV := Lib.hid (show S'.ldV r 4 = x by rw [LS0.out]; exact HV.out.trans (if_neg (by simp)))
                  have enn : (x != x) = false := by simp
                  go_wp2_with (go_at_call 20; (with_reducible refine (of_w HM.out OKS.out (PTb.h1 HTB HBW) r x S' LV.out LS.out (by omega) (by omega)).mono ?_); rintro e' wf ⟨rfl, mf, ff⟩; have hsf := ff.size; have HMf := Lib.hid mf; have HFf := Lib.hid (HF.out.trans ff (fun _ _ h => h)); clear mf ff)
                  go_roundw
                  case rel => exact ⟨k + 1, by omega, by go_num, by rw [HTS.out, HTH.out]; simp, HMf.out, HFf.out⟩
                  case measure => simp [intOf]; omega
                cases e
                · have LV := Lib.hid (show S'.ldV r 4 = x by rw [LS0.out]; exact HV.out.trans ((if_pos rfl).trans (wantR_ne (by simpa using HE.out))))
                  have enn : (x != x) = false := by simp
                  go_wp2_with (go_at_call 20; (with_reducible refine (of_w HM.out OKS.out (PTb.h1 HTB HBW) r x S' LV.out LS.out (by omega) (by omega)).mono ?_); rintro e' wf ⟨rfl, mf, ff⟩; have hsf := ff.size; have HMf := Lib.hid mf; have HFf := Lib.hid (HF.out.trans ff (fun _ _ h => h)); clear mf ff)
                  go_roundw
                  case rel => exact ⟨k + 1, by omega, by go_num, by rw [HTS.out, HTH.out]; rw [HE.out]; simp, HMf.out, HFf.out⟩
                  case measure => simp [intOf]; omega
                have HRO := Lib.hid (show r = off by simpa using HE.out)
                by_cases a1 : off = 8192
                · have b1 : (off == 8192) = true := by simpa using a1
                  have HA := Lib.hid a1
                  clear a1
                  have LV := Lib.hid (show S'.ldV r 4 = Q by rw [LS0.out]; rw [HV.out, if_pos rfl, HRO.out, wantR_en _ _ _ (.inl HA.out)]; exact HQ.out)
                  have enn : (Q != Q) = false := by simp
                  go_wp2_with (go_at_call 20; (with_reducible refine (of_w HM.out OKS.out (PTb.h1 HTB HBW) r Q S' LV.out LS.out (by omega) (by omega)).mono ?_); rintro e' wf ⟨rfl, mf, ff⟩; have hsf := ff.size; have HMf := Lib.hid mf; have HFf := Lib.hid (HF.out.trans ff (fun _ _ h => h)); clear mf ff)
                  go_roundw
                  case rel => exact ⟨k + 1, by omega, by go_num, by rw [HTS.out, HTH.out]; rw [HE.out]; simp, HMf.out, HFf.out⟩
                  case measure => simp [intOf]; omega
                have b1 : (off == 8192) = false := by simpa using a1
                by_cases a2 : off = 8320
                · have b2 : (off == 8320) = true := by simpa using a2
                  have HA := Lib.hid a2
                  clear a1 a2
                  have LV := Lib.hid (show S'.ldV r 4 = Q by rw [LS0.out]; rw [HV.out, if_pos rfl, HRO.out, wantR_en _ _ _ (.inr HA.out)]; exact HQ.out)
                  have enn : (Q != Q) = false := by simp
                  go_wp2_with (go_at_call 20; (with_reducible refine (of_w HM.out OKS.out (PTb.h1 HTB HBW) r Q S' LV.out LS.out (by omega) (by omega)).mono ?_); rintro e' wf ⟨rfl, mf, ff⟩; have hsf := ff.size; have HMf := Lib.hid mf; have HFf := Lib.hid (HF.out.trans ff (fun _ _ h => h)); clear mf ff)
                  go_roundw
                  case rel => exact ⟨k + 1, by omega, by go_num, by rw [HTS.out, HTH.out]; rw [HE.out]; simp, HMf.out, HFf.out⟩
                  case measure => simp [intOf]; omega
                have b2 : (off == 8320) = false := by simpa using a2
                by_cases a3 : off = 0
                · have b3 : (off != 0) = false := by simpa using a3
                  have HA := Lib.hid a3
                  clear a1 a2 a3
                  have LV := Lib.hid (show S'.ldV r 4 = x by rw [LS0.out]; rw [HV.out, if_pos rfl, HRO.out, wantR_was _ _ _ (by have := HA.out; omega) (by have := HA.out; omega)])
                  have enn : (x != x) = false := by simp
                  go_wp2_with (go_at_call 20; (with_reducible refine (of_w HM.out OKS.out (PTb.h1 HTB HBW) r x S' LV.out LS.out (by omega) (by omega)).mono ?_); rintro e' wf ⟨rfl, mf, ff⟩; have hsf := ff.size; have HMf := Lib.hid mf; have HFf := Lib.hid (HF.out.trans ff (fun _ _ h => h)); clear mf ff)
                  go_roundw
                  case rel => exact ⟨k + 1, by omega, by go_num, by rw [HTS.out, HTH.out]; rw [HE.out]; simp, HMf.out, HFf.out⟩
                  case measure => simp [intOf]; omega
                have b3 : (off != 0) = true := by simpa using a3
                by_cases a4 : off = 4096
                · have b4 : (off != 4096) = false := by simpa using a4
                  have HA := Lib.hid a4
                  clear a1 a2 a3 a4
                  have LV := Lib.hid (show S'.ldV r 4 = x by rw [LS0.out]; rw [HV.out, if_pos rfl, HRO.out, wantR_was _ _ _ (by have := HA.out; omega) (by have := HA.out; omega)])
                  have enn : (x != x) = false := by simp
                  go_wp2_with (go_at_call 20; (with_reducible refine (of_w HM.out OKS.out (PTb.h1 HTB HBW) r x S' LV.out LS.out (by omega) (by omega)).mono ?_); rintro e' wf ⟨rfl, mf, ff⟩; have hsf := ff.size; have HMf := Lib.hid mf; have HFf := Lib.hid (HF.out.trans ff (fun _ _ h => h)); clear mf ff)
                  go_roundw
                  case rel => exact ⟨k + 1, by omega, by go_num, by rw [HTS.out, HTH.out]; rw [HE.out]; simp, HMf.out, HFf.out⟩
                  case measure => simp [intOf]; omega
                · have b4 : (off != 4096) = true := by simpa using a4
                  have HA := Lib.hid (show (off ≠ 8192 ∧ off ≠ 8320) ∧ off ≠ 0 ∧ off ≠ 4096 from ⟨⟨a1, a2⟩, a3, a4⟩)
                  clear a1 a2 a3 a4
                  have LV := Lib.hid (show S'.ldV r 4 = (v % 8) by rw [LS0.out]; rw [HV.out, if_pos rfl, HRO.out, wantR_8 _ _ _ (by have := HA.out; omega) HA.out.2])
                  have enn : ((v % 8) != (v % 8)) = false := by simp
                  go_wp2_with (go_at_call 20; (with_reducible refine (of_w HM.out OKS.out (PTb.h1 HTB HBW) r (v % 8) S' LV.out LS.out (by omega) (by omega)).mono ?_); rintro e' wf ⟨rfl, mf, ff⟩; have hsf := ff.size; have HMf := Lib.hid mf; have HFf := Lib.hid (HF.out.trans ff (fun _ _ h => h)); clear mf ff)
                  go_roundw
                  case rel => exact ⟨k + 1, by omega, by go_num, by rw [HTS.out, HTH.out]; rw [HE.out]; simp, HMf.out, HFf.out⟩
                  case measure => simp [intOf]; omega
              · obtain rfl : k = 37 := by omega
                rw [show kR.take 37 = kR from List.take_of_length_le (by rw [kR_len]; omega)] at HTH
                have hfin : y = (z && t) := by
                  rw [← hy.out, ← HTH.out]
                  unfold rgO
                  rw [KZ.out, isRg_kR]
                  cases z <;> simp [Bool.or_comm]
                have HY := Lib.hid hfin
                clear hr3 hr4 hfin
                cases z <;> cases t
                all_goals
                  obtain rfl : y = _ := HY.out
                  go_wp2_with (go_at_call 8; (with_reducible refine (works12_w _ (PTb.h1 HTB HBW)).mono ?_); rintro e' wz ⟨rfl, bz⟩; have HZ := Lib.hid (HBW.out.trans (bz.mono HBW.out.size)); clear bz)
                  go_ret
                  exact ⟨rfl, HZ.out⟩
end Go.Proofs.Ytamhhdhoeghafaa
