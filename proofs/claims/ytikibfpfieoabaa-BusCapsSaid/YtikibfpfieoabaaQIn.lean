/-
  The program's memory: numbers read and laid, tags asked, set and taken. No condition.
-/
import Derived.Test.YtikibfpfieoabaaQObj
import Derived.StillTailTactics
namespace Go.Proofs.Ytikibfpfieoabaa
open Go.ChangeShapes Go.WideShapes Go.ChangeAt Go.RowKit
set_option linter.unusedVariables false
set_option linter.unusedSimpArgs false
set_option maxRecDepth 4000
theorem numB_snoc (B : List Int) (o k : Nat) : numB B o (k + 1) = numB B o k + B.getD (o + k) 0 * 256 ^ k := by
  induction k generalizing o with
  | zero => simp [numB]
  | succ k ih =>
    rw [numB, ih (o + 1), numB, show o + 1 + k = o + (k + 1) by omega, Int.pow_succ]
    generalize (256 : Int) ^ k = p
    generalize numB B (o + 1) k = x
    generalize B.getD (o + (k + 1)) 0 = b
    generalize B.getD o 0 = c
    rw [Int.mul_add, Int.mul_comm p 256, ← Int.mul_assoc, ← Int.mul_assoc, Int.mul_comm b 256]
    omega
theorem or_hi (v b : Int) (k : Nat) (hk : k ≤ 7) (v0 : 0 ≤ v) (v1 : v < 256 ^ k) (b0 : 0 ≤ b) (b1 : b < 256) : bits .or .u64 v (IntKind.u64.wrap (b * 2 ^ (8 * k))) = v + b * 256 ^ k := by
  obtain ⟨V, rfl⟩ := Int.eq_ofNat_of_zero_le v0
  obtain ⟨c, rfl⟩ := Int.eq_ofNat_of_zero_le b0
  have e : ((2 : Int) ^ (8 * k)) = ((2 ^ (8 * k) : Nat) : Int) := by simp
  rw [← pow2_8] at v1 ⊢
  rw [e] at v1 ⊢
  have hp : 2 ^ (8 * k) ≤ 2 ^ 56 := Nat.pow_le_pow_right (by decide) (by omega)
  have hm : c * 2 ^ (8 * k) ≤ 255 * 2 ^ (8 * k) := Nat.mul_le_mul_right _ (by omega)
  have hV : V < 2 ^ (8 * k) := by omega
  have h := Nat.two_pow_add_eq_or_of_lt hV c
  rw [show ((c : Int) * ((2 ^ (8 * k) : Nat) : Int)) = ((c * 2 ^ (8 * k) : Nat) : Int) by simp, show IntKind.u64.wrap ((c * 2 ^ (8 * k) : Nat) : Int) = ((c * 2 ^ (8 * k) : Nat) : Int) by rw [IntKind.wrap_u64]; omega]
  rw [bits_or_u64_nat _ _ (by omega) (by omega), Nat.or_comm, Nat.mul_comm c, ← h]
  simp; omega
set_option maxHeartbeats 4000000 in
theorem cnumber_w {w : World} {g gb : Nat} {B : List Int} {W : List Nat} {T : List Bool} (m : CM w g gb B W T) (off size : Nat) (hs0 : 1 ≤ size) (hs : size ≤ 8) (hn : off + size ≤ B.length) :
    Calls Try.prog 43 #[.pointer (some ⟨g, 0, none⟩), .int .i64 (off : Int), .int .i64 (size : Int)] w fun e w' => e = .returned (.int .u64 (numB B off size)) ∧ w = w' := by
  have c0 := m.c0
  have hlim := m.lim
  have hne : ¬ B.length = off := by omega
  have HM := Lib.hid m
  clear m
  go_enter Try.func43, Try.ntmps43
  go_wp2
  go_loop [7, 20] (fun v i => ∃ k : Nat, k ≤ size ∧ i = .int .i64 (k : Int) ∧ v = .int .u64 (numB B off k)) (fun _ i => size - (intOf i).toNat)
  case atStart => exact ⟨0, Nat.zero_le _, rfl, rfl⟩
  case round =>
    obtain ⟨k, hk, rfl, rfl⟩ := hrel
    by_cases hlt : k < size
    · have hb := ByB.getD HM.out.byb (off + k)
      have hc := HM.out.byte (off + k) (by omega)
      have hV := numB_bd HM.out.byb off k
      have hst := numB_snoc B off k
      have hor := or_hi (numB B off k) (B.getD (off + k) 0) k (by omega) hV.1 hV.2 hb.1 hb.2
      rw [← hst] at hor
      have HOR := Lib.hid hor
      clear hst hor
      generalize numB B off k = V at *
      generalize B.getD (off + k) 0 = b at *
      obtain ⟨hV0, hV1⟩ := hV
      obtain ⟨hb0, hb1⟩ := hb
      go_wp2
      go_round
      case rel => exact ⟨k + 1, by omega, by go_num, by rw [HOR.out]⟩
      case measure => simp [intOf]; omega
    · obtain rfl : k = size := by omega
      go_wp2
      go_ret
      exact ⟨rfl, rfl⟩
set_option maxHeartbeats 4000000 in
theorem clay_w {w : World} {g gb : Nat} {B : List Int} {W : List Nat} {T : List Bool} (m : CM w g gb B W T) (off size : Nat) (v : Int) (hs : size ≤ 8) (hn : off + size ≤ B.length) (v0 : 0 ≤ v) (v1 : v < 18446744073709551616) :
    Calls Try.prog 39 #[.pointer (some ⟨g, 0, none⟩), .int .i64 (off : Int), .int .i64 (size : Int), .int .u64 v] w fun e w' => e = .returned (.tuple #[]) ∧ CM w' g gb (layB B off v size) W T ∧ Fr w w' (fun i => i = gb) := by
  have hlim := m.lim
  have HM := Lib.hid m
  clear m
  go_enter Try.func39, Try.ntmps39
  go_wp2
  go_loopw [10] (fun i wr => ∃ k : Nat, k ≤ size ∧ i = .int .i64 (k : Int) ∧ CM wr g gb (layB B off v k) W T ∧ Fr w wr (fun i => i = gb)) (fun i _ => size - (intOf i).toNat)
  case atStart => exact ⟨0, Nat.zero_le _, rfl, HM.out, Fr.refl _ _⟩
  case round =>
    obtain ⟨k, hk, rfl, hm, hf⟩ := hrel
    have n1 := hm.ne
    have c0 := hm.c0
    rw [layB_len] at c0
    have z0 := hm.bytes.frozen (off + k)
    have HM2 := Lib.hid hm
    have HF := Lib.hid hf
    have hq0 := hm.byte (off + k)
    rw [layB_len] at hq0
    clear hm hf
    by_cases hlt : k < size
    · have q0 := hq0 (by omega)
      have e1 : IntKind.i64.wrap ((off : Int) + (k : Int)) = ((off + k : Nat) : Int) := by rw [IntWalk.i64_in _ (by omega)]; simp
      have e2 : IntKind.i64.wrap (8 * (k : Int)) = ((8 * k : Nat) : Int) := by rw [IntWalk.i64_in _ (by omega)]; simp
      have f1 : (0 : Int) ≤ (off : Int) + (k : Int) := by omega
      have f2 : (off : Int) + (k : Int) < (B.length : Int) := by omega
      have f3 : ((off : Int) + (k : Int)).toNat = off + k := by omega
      have f4 : (8 * (k : Int)).toNat = 8 * k := by omega
      clear hq0
      go_wp2
      refine wp_region_still_tail 13 (by kernel_rfl) (by kernel_rfl) ?_
      simp only [List.take_succ_cons, List.take_zero, List.drop_succ_cons, List.drop_zero]
      repeat still_step
      refine wpStill_nil ?_
      change wpList _ _ _ _ _ wr.drew
      go_wp2
      go_roundw
      case rel =>
        have h := HM2.out.setB (off + k) (v / 2 ^ (8 * k) % 256) ⟨Int.emod_nonneg _ (by decide), Int.emod_lt_of_pos _ (by decide)⟩
        refine ⟨k + 1, by omega, by go_num, ?_, (HF.out.setCell (.inr rfl) _).drew⟩
        rw [layB, ← pow2_8 k]
        exact h.drew
      case measure => simp [intOf]; omega
    · clear hq0
      obtain rfl : k = size := by omega
      go_wp2
      refine bodyPost_end (v := .tuple #[]) (by simp [results, Try.results39, go_sem]) rfl ⟨rfl, HM2.out, HF.out⟩
theorem place_q (q : Nat) (h : q < 4096) : (q : Int).tmod 64 = ((q % 64 : Nat) : Int) ∧ (q : Int).tdiv 64 = ((q / 64 : Nat) : Int) ∧ q % 64 < 64 ∧ q / 64 < 64 := by
  refine ⟨?_, ?_, by omega, by omega⟩
  · rw [Int.tmod_eq_emod_of_nonneg (by omega)]; omega
  · rw [Int.tdiv_eq_ediv_of_nonneg (by omega)]; omega
set_option maxHeartbeats 4000000 in
theorem cset_yes {w : World} {g gb : Nat} {B : List Int} {W : List Nat} {T : List Bool} (m : CM w g gb B W T) (q : Nat) (hq : q < T.length) :
    Calls Try.prog 40 #[.pointer (some ⟨g, 1, none⟩), .int .i64 (q : Int), .bool true] w fun e w' => e = .returned (.tuple #[]) ∧ (∃ W', CM w' g gb B W' (T.set q true)) ∧ Fr w w' (fun i => i = g) := by
  have hlim := m.lim
  have hlen := m.len
  obtain ⟨p1, p2, p3, p4⟩ := place_q q (by omega)
  have hW := m.wd.lim (q / 64)
  have cw := m.word (q / 64) p4
  have z0 := m.blk.frozen (1 + q / 64)
  have hp := Nat.pow_lt_pow_right (show 1 < 2 by decide) p3
  have e1 : IntKind.u64.wrap (2 ^ (q % 64)) = ((2 ^ (q % 64) : Nat) : Int) := by
    rw [IntKind.wrap_u64, show ((2 : Int) ^ (q % 64)) = ((2 ^ (q % 64) : Nat) : Int) by simp]
    generalize 2 ^ (q % 64) = y at *; omega
  have e3 : IntKind.i64.wrap ((q / 64 : Nat) : Int) = ((q / 64 : Nat) : Int) := IntWalk.i64_in _ (by omega)
  have f2 : ((q / 64 : Nat) : Int) < 64 := by omega
  have e2 : bits .or .u64 ((W.getD (q / 64) 0 : Nat) : Int) ((2 ^ (q % 64) : Nat) : Int) = ((W.getD (q / 64) 0 ||| 2 ^ (q % 64) : Nat) : Int) := bits_or_u64_nat _ _ hW (by omega)
  have hwd := m.wd.set (by decide) q p4 hq
  have HD := Lib.hid (m.setW (q / 64) _ hwd (by simp))
  have HM := Lib.hid m
  clear m hwd hW hp
  generalize q / 64 = p at *
  generalize q % 64 = s at *
  generalize W.getD p 0 ||| 2 ^ s = Y at *
  generalize ((2 ^ s : Nat) : Int) = Z at *
  generalize W.getD p 0 = X at *
  go_enter Try.func40, Try.ntmps40
  go_wp2
  refine wp_region_still_tail 10 (by kernel_rfl) (by kernel_rfl) ?_
  simp only [List.take_succ_cons, List.take_zero, List.drop_succ_cons, List.drop_zero]
  repeat still_step
  refine wpStill_nil ?_
  change wpList _ _ _ _ _ w.drew
  go_wp2
  refine bodyPost_end (v := .tuple #[]) (by simp [results, Try.results40, go_sem]) rfl ⟨rfl, ⟨_, HD.out.drew⟩, ((Fr.refl w (fun i => i = g)).setCell (.inr rfl) _).drew⟩
set_option maxHeartbeats 4000000 in
theorem cset_no {w : World} {g gb : Nat} {B : List Int} {W : List Nat} {T : List Bool} (m : CM w g gb B W T) (q : Nat) (hq : q < T.length) :
    Calls Try.prog 40 #[.pointer (some ⟨g, 1, none⟩), .int .i64 (q : Int), .bool false] w fun e w' => e = .returned (.tuple #[]) ∧ (∃ W', CM w' g gb B W' (T.set q false)) ∧ Fr w w' (fun i => i = g) := by
  have hlim := m.lim
  have hlen := m.len
  obtain ⟨p1, p2, p3, p4⟩ := place_q q (by omega)
  have hW := m.wd.lim (q / 64)
  have cw := m.word (q / 64) p4
  have z0 := m.blk.frozen (1 + q / 64)
  have hp := Nat.pow_lt_pow_right (show 1 < 2 by decide) p3
  have e1 : IntKind.u64.wrap (2 ^ (q % 64)) = ((2 ^ (q % 64) : Nat) : Int) := by
    rw [IntKind.wrap_u64, show ((2 : Int) ^ (q % 64)) = ((2 ^ (q % 64) : Nat) : Int) by simp]
    generalize 2 ^ (q % 64) = y at *; omega
  have e3 : IntKind.i64.wrap ((q / 64 : Nat) : Int) = ((q / 64 : Nat) : Int) := IntWalk.i64_in _ (by omega)
  have f2 : ((q / 64 : Nat) : Int) < 64 := by omega
  have e2 : bits .andNot .u64 ((W.getD (q / 64) 0 : Nat) : Int) ((2 ^ (q % 64) : Nat) : Int) = ((W.getD (q / 64) 0 &&& (2 ^ 64 - 1 - 2 ^ (q % 64)) : Nat) : Int) := u64_andNot_nat _ _ hW (by omega)
  have hwd := m.wd.clear (by decide) q p4 hq
  have HD := Lib.hid (m.setW (q / 64) _ hwd (by simp))
  have HM := Lib.hid m
  clear m hwd hW hp
  generalize q / 64 = p at *
  generalize q % 64 = s at *
  generalize W.getD p 0 &&& (2 ^ 64 - 1 - 2 ^ s) = Y at *
  generalize ((2 ^ s : Nat) : Int) = Z at *
  generalize W.getD p 0 = X at *
  go_enter Try.func40, Try.ntmps40
  go_wp2
  refine wp_region_still_tail 10 (by kernel_rfl) (by kernel_rfl) ?_
  simp only [List.take_succ_cons, List.take_zero, List.drop_succ_cons, List.drop_zero]
  repeat still_step
  refine wpStill_nil ?_
  change wpList _ _ _ _ _ w.drew
  go_wp2
  refine bodyPost_end (v := .tuple #[]) (by simp [results, Try.results40, go_sem]) rfl ⟨rfl, ⟨_, HD.out.drew⟩, ((Fr.refl w (fun i => i = g)).setCell (.inr rfl) _).drew⟩
theorem cset_w {w : World} {g gb : Nat} {B : List Int} {W : List Nat} {T : List Bool} (m : CM w g gb B W T) (q : Nat) (hq : q < T.length) (b : Bool) :
    Calls Try.prog 40 #[.pointer (some ⟨g, 1, none⟩), .int .i64 (q : Int), .bool b] w fun e w' => e = .returned (.tuple #[]) ∧ (∃ W', CM w' g gb B W' (T.set q b)) ∧ Fr w w' (fun i => i = g) := by
  cases b
  · exact cset_no m q hq
  · exact cset_yes m q hq
theorem cis_w {w : World} {g gb : Nat} {B : List Int} {W : List Nat} {T : List Bool} (m : CM w g gb B W T) (q : Nat) (hq : q < T.length) :
    Calls Try.prog 42 #[.pointer (some ⟨g, 1, none⟩), .int .i64 (q : Int)] w fun e w' => e = .returned (.bool (T.getD q false)) ∧ w = w' := by
  have hlim := m.lim
  have hlen := m.len
  obtain ⟨p1, p2, p3, p4⟩ := place_q q (by omega)
  have hW := m.wd.lim (q / 64)
  have cw := m.word (q / 64) p4
  have e3 : IntKind.i64.wrap ((q / 64 : Nat) : Int) = ((q / 64 : Nat) : Int) := IntWalk.i64_in _ (by omega)
  have f2 : ((q / 64 : Nat) : Int) < 64 := by omega
  have hb := m.wd.bit q
  unfold wB at hb
  have e4 : (bits BinOp.and IntKind.u64 (((W.getD (q / 64) 0 : Nat) : Int) / 2 ^ (q % 64)) 1 == 1) = T.getD q false := by
    rw [← hb, ← bit_shr1, show ((2 : Int) ^ (q % 64)) = ((2 ^ (q % 64) : Nat) : Int) by simp, Nat.shiftRight_eq_div_pow]
    have hy : W.getD (q / 64) 0 / 2 ^ (q % 64) < 18446744073709551616 := Nat.lt_of_le_of_lt (Nat.div_le_self _ _) hW
    rw [show (((W.getD (q / 64) 0 : Nat) : Int) / ((2 ^ (q % 64) : Nat) : Int)) = ((W.getD (q / 64) 0 / 2 ^ (q % 64) : Nat) : Int) from (Int.natCast_ediv _ _).symm]
    have h := bits_and_u64_nat (W.getD (q / 64) 0 / 2 ^ (q % 64)) 1 hy (by decide)
    simp only [Int.natCast_one] at h
    rw [h]
    generalize (W.getD (q / 64) 0 / 2 ^ (q % 64)) &&& 1 = z
    rw [Bool.eq_iff_iff]; simp; omega
  obtain ⟨tq, htq⟩ : ∃ t, T.getD q false = t := ⟨_, rfl⟩
  rw [htq] at e4 ⊢
  clear m hW hb htq
  generalize q / 64 = p at *
  generalize q % 64 = s at *
  generalize W.getD p 0 = X at *
  go_enter Try.func42, Try.ntmps42
  go_wp2
  go_ret
  exact ⟨rfl, rfl⟩
end Go.Proofs.Ytikibfpfieoabaa
