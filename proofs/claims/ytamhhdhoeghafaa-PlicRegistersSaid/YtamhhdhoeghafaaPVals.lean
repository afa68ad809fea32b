/-
  PlicRegisters of layer 12: what was written is read, cut to its bits; nothing else changes. No condition but what the calls lean on.
-/
import Derived.Test.YtamhhdhoeghafaaPRows
namespace Go.Proofs.Ytamhhdhoeghafaa
open Go.ChangeShapes Go.WideShapes Go.ChangeAt Go.RowKit
set_option linter.unusedVariables false
set_option linter.unusedSimpArgs false
/-- The registers that are gone through. -/
def kR : List Int := [4096, 8192, 8320, 2097152, 2101248] ++ (List.range 32).map fun (s : Nat) => 4 * (s : Int)
theorem kR_len : kR.length = 37 := by simp [kR]
theorem kR_take (k : Nat) (h : k < 32) : kR.take (5 + (k + 1)) = kR.take (5 + k) ++ [4 * (k : Int)] := by
  have e : kR[5 + k]? = some (4 * (k : Int)) := by
    unfold kR
    rw [List.getElem?_append_right (by simp), List.getElem?_map]
    simp [h]
  rw [show 5 + (k + 1) = (5 + k) + 1 by omega, List.take_add_one, e]; rfl
theorem kR_mem (r : Int) : r ∈ kR ↔ (isPr r = true ∨ r = 4096 ∨ r = 8192 ∨ r = 8320 ∨ r = 2097152 ∨ r = 2101248) := by
  unfold kR
  simp only [List.mem_append, List.mem_cons, List.not_mem_nil, or_false, List.mem_map, List.mem_range]
  constructor
  · rintro (h | ⟨s, hs, rfl⟩)
    · exact .inr h
    · left; rw [show 4 * (s : Int) = ((4 * s : Nat) : Int) by omega]; exact isPr_mk s hs
  · rintro (h | h)
    · obtain ⟨k, rfl, hk⟩ := isPr_nat h; exact .inr ⟨k, hk, by omega⟩
    · exact .inl h
theorem isRg_kR (off : Int) : isRg off = (decide (off ∈ kR) || (off == 2097156 || off == 2101252)) := by
  unfold isRg
  rw [Bool.eq_iff_iff]
  simp only [Bool.or_eq_true, beq_iff_eq, decide_eq_true_eq, kR_mem]
  constructor
  · rintro (((((((h | h) | h) | h) | h) | h) | h) | h) <;> simp [h]
  · rintro ((h | h | h | h | h | h) | (h | h)) <;> simp [h]
theorem kR_ld (S : PS) (r : Int) (h : r ∈ kR) : S.ldV r 4 = S.val r ∧ S.ldS r 4 = S := by
  have hr : rgO r 4 = true := by unfold rgO; rw [isRg_kR]; simp [h]
  refine ⟨by rw [PS.ldV, if_pos hr], ldS_oth S r 4 ?_ ?_⟩ <;> rintro rfl <;> rw [kR_mem] at h <;> revert h <;> decide
theorem prio_pr (S : PS) (k : Nat) (v : Int) (j : Nat) : (S.prio k v).pr j = if j = k ∧ k ≠ 0 then v % 8 else S.pr j := by
  unfold PS.prio
  split
  · rename_i h; rw [if_neg (fun x => x.2 h)]
  · rename_i h
    show (if j = k then v % 8 else S.pr j) = _
    by_cases e : j = k
    · rw [if_pos e, if_pos ⟨e, h⟩]
    · rw [if_neg e, if_neg (fun x => e x.1)]
theorem prio_oth (S : PS) (k : Nat) (v : Int) : (S.prio k v).pe = S.pe ∧ (S.prio k v).en = S.en ∧ (S.prio k v).th = S.th := by unfold PS.prio; split <;> exact ⟨rfl, rfl, rfl⟩
theorem comp_oth (S : PS) (c : Nat) (v : Int) : (S.comp c v).pe = S.pe ∧ (S.comp c v).en = S.en ∧ (S.comp c v).th = S.th ∧ (S.comp c v).pr = S.pr := by unfold PS.comp; split <;> exact ⟨rfl, rfl, rfl, rfl⟩
theorem and_mask (V i : Nat) (hi : i < 32) : (V % 4294967296 &&& 18446744073709551614).testBit i = (decide (0 < i) && V.testBit i) := by
  have e1 : (4294967296 : Nat) = 2 ^ 32 := by omega
  have e2 : (18446744073709551614 : Nat) = 2 ^ 64 - (2 ^ 0 + 1) := by omega
  rw [Nat.testBit_and, e1, Nat.testBit_mod_two_pow, e2, Nat.testBit_two_pow_sub_succ (by omega), Nat.testBit_two_pow]
  cases i with
  | zero => simp
  | succ n => simp [hi, show n + 1 < 64 by omega]
theorem bw_enab (v : Int) (v0 : 0 ≤ v) : ((bw (fun i => decide (0 < i) && bitI v i) : Nat) : Int) = bits .andNot .u64 (v % 4294967296) 1 := by
  obtain ⟨V, rfl⟩ := Int.eq_ofNat_of_zero_le v0
  have h := u64_andNot_nat (V % 4294967296) 1 (by omega) (by omega)
  have e3 : ((V % 4294967296 : Nat) : Int) = (V : Int) % 4294967296 := by omega
  rw [e3, show ((1 : Nat) : Int) = 1 from rfl, show 18446744073709551615 - 1 = 18446744073709551614 by omega] at h
  rw [h]
  refine congrArg (fun n : Nat => (n : Int)) ?_
  refine bw_of _ (Nat.lt_of_le_of_lt Nat.and_le_left (by omega)) _ fun i hi => ?_
  rw [and_mask V i hi, bitI_nat]
/-- What a register has behind a store. -/
def wantR (off v r was : Int) : Int := if r = off then (if off = 8192 ∨ off = 8320 then bits .andNot .u64 (v % 4294967296) 1 else if off ≠ 0 ∧ off ≠ 4096 then v % 8 else was) else was
theorem wantR_ne {off v r was : Int} (h : r ≠ off) : wantR off v r was = was := if_neg h
theorem wantR_en (off v was : Int) (h : off = 8192 ∨ off = 8320) : wantR off v off was = bits .andNot .u64 (v % 4294967296) 1 := by unfold wantR; rw [if_pos rfl, if_pos h]
theorem wantR_8 (off v was : Int) (h : ¬ (off = 8192 ∨ off = 8320)) (h2 : off ≠ 0 ∧ off ≠ 4096) : wantR off v off was = v % 8 := by unfold wantR; rw [if_pos rfl, if_neg h, if_pos h2]
theorem wantR_was (off v was : Int) (h : ¬ (off = 8192 ∨ off = 8320)) (h2 : ¬ (off ≠ 0 ∧ off ≠ 4096)) : wantR off v off was = was := by unfold wantR; rw [if_pos rfl, if_neg h, if_neg h2]
set_option maxHeartbeats 1000000 in
theorem val_put (S : PS) (off v r : Int) (v0 : 0 ≤ v) (hr : r ∈ kR) : (S.put off v).val r = wantR off v r (S.val r) := by
  have hk := (kR_mem r).1 hr
  rcases rg_ways off with h | h | h | h | h | h | h | h | h
  · obtain ⟨k, rfl, hk32⟩ := isPr_nat h
    rw [put_pr S k hk32]
    obtain ⟨p1, p2, p3⟩ := prio_oth S k v
    rcases hk with hk | hk | hk | hk | hk | hk
    · obtain ⟨j, rfl, hj⟩ := isPr_nat hk
      rw [val_pr _ j hj, val_pr _ j hj, prio_pr]
      by_cases e : j = k
      · subst e
        by_cases z : j = 0
        · rw [if_neg (fun x => x.2 z), wantR_was _ _ _ (by omega) (by omega)]
        · rw [if_pos ⟨rfl, z⟩, wantR_8 _ _ _ (by omega) (by omega)]
      · rw [if_neg (fun x => e x.1), wantR_ne (by omega)]
    · subst hk; rw [val_4096, val_4096, p1, wantR_ne (by omega)]
    · subst hk; rw [val_8192, val_8192, p2, wantR_ne (by omega)]
    · subst hk; rw [val_8320, val_8320, p2, wantR_ne (by omega)]
    · subst hk; rw [val_2097152, val_2097152, p3, wantR_ne (by omega)]
    · subst hk; rw [val_2101248, val_2101248, p3, wantR_ne (by omega)]
  · subst h
    rw [put_4096]
    by_cases e : r = 4096
    · subst e; rw [wantR_was _ _ _ (by decide) (by decide)]
    · rw [wantR_ne e]
  · subst h
    rw [put_8192]
    rcases hk with hk | hk | hk | hk | hk | hk
    · obtain ⟨j, rfl, hj⟩ := isPr_nat hk
      rw [val_pr _ j hj, val_pr _ j hj, wantR_ne (by omega)]; rfl
    · subst hk; rw [val_4096, val_4096, wantR_ne (by decide)]; rfl
    · subst hk; rw [val_8192, val_8192, wantR_en _ _ _ (by decide), ← bw_enab v v0]; rfl
    · subst hk; rw [val_8320, val_8320, wantR_ne (by decide)]; rfl
    · subst hk; rw [val_2097152, val_2097152, wantR_ne (by decide)]; rfl
    · subst hk; rw [val_2101248, val_2101248, wantR_ne (by decide)]; rfl
  · subst h
    rw [put_8320]
    rcases hk with hk | hk | hk | hk | hk | hk
    · obtain ⟨j, rfl, hj⟩ := isPr_nat hk
      rw [val_pr _ j hj, val_pr _ j hj, wantR_ne (by omega)]; rfl
    · subst hk; rw [val_4096, val_4096, wantR_ne (by decide)]; rfl
    · subst hk; rw [val_8192, val_8192, wantR_ne (by decide)]; rfl
    · subst hk; rw [val_8320, val_8320, wantR_en _ _ _ (by decide), ← bw_enab v v0]; rfl
    · subst hk; rw [val_2097152, val_2097152, wantR_ne (by decide)]; rfl
    · subst hk; rw [val_2101248, val_2101248, wantR_ne (by decide)]; rfl
  · subst h
    rw [put_2097152]
    rcases hk with hk | hk | hk | hk | hk | hk
    · obtain ⟨j, rfl, hj⟩ := isPr_nat hk
      rw [val_pr _ j hj, val_pr _ j hj, wantR_ne (by omega)]; rfl
    · subst hk; rw [val_4096, val_4096, wantR_ne (by decide)]; rfl
    · subst hk; rw [val_8192, val_8192, wantR_ne (by decide)]; rfl
    · subst hk; rw [val_8320, val_8320, wantR_ne (by decide)]; rfl
    · subst hk; rw [val_2097152, val_2097152, wantR_8 _ _ _ (by decide) (by decide)]; rfl
    · subst hk; rw [val_2101248, val_2101248, wantR_ne (by decide)]; rfl
  · subst h
    rw [put_2101248]
    rcases hk with hk | hk | hk | hk | hk | hk
    · obtain ⟨j, rfl, hj⟩ := isPr_nat hk
      rw [val_pr _ j hj, val_pr _ j hj, wantR_ne (by omega)]; rfl
    · subst hk; rw [val_4096, val_4096, wantR_ne (by decide)]; rfl
    · subst hk; rw [val_8192, val_8192, wantR_ne (by decide)]; rfl
    · subst hk; rw [val_8320, val_8320, wantR_ne (by decide)]; rfl
    · subst hk; rw [val_2097152, val_2097152, wantR_ne (by decide)]; rfl
    · subst hk; rw [val_2101248, val_2101248, wantR_8 _ _ _ (by decide) (by decide)]; rfl
  · subst h
    obtain ⟨p1, p2, p3, p4⟩ := comp_oth S 0 v
    rw [put_2097156]
    rcases hk with hk | hk | hk | hk | hk | hk
    · obtain ⟨j, rfl, hj⟩ := isPr_nat hk
      rw [val_pr _ j hj, val_pr _ j hj, p4, wantR_ne (by omega)]
    · subst hk; rw [val_4096, val_4096, p1, wantR_ne (by decide)]
    · subst hk; rw [val_8192, val_8192, p2, wantR_ne (by decide)]
    · subst hk; rw [val_8320, val_8320, p2, wantR_ne (by decide)]
    · subst hk; rw [val_2097152, val_2097152, p3, wantR_ne (by decide)]
    · subst hk; rw [val_2101248, val_2101248, p3, wantR_ne (by decide)]
  · subst h
    obtain ⟨p1, p2, p3, p4⟩ := comp_oth S 1 v
    rw [put_2101252]
    rcases hk with hk | hk | hk | hk | hk | hk
    · obtain ⟨j, rfl, hj⟩ := isPr_nat hk
      rw [val_pr _ j hj, val_pr _ j hj, p4, wantR_ne (by omega)]
    · subst hk; rw [val_4096, val_4096, p1, wantR_ne (by decide)]
    · subst hk; rw [val_8192, val_8192, p2, wantR_ne (by decide)]
    · subst hk; rw [val_8320, val_8320, p2, wantR_ne (by decide)]
    · subst hk; rw [val_2097152, val_2097152, p3, wantR_ne (by decide)]
    · subst hk; rw [val_2101248, val_2101248, p3, wantR_ne (by decide)]
  · rw [put_no S v h, wantR_ne]
    rintro rfl
    rcases hk with hk | hk | hk | hk | hk | hk
    · rw [h.1] at hk; cases hk
    all_goals (subst hk; revert h; decide)
end Go.Proofs.Ytamhhdhoeghafaa
