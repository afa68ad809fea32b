/-
  What twice says of an instruction for which two halves may stand; RvcApart. No condition but what the tables hold.
-/
import Derived.Test.YtagoeceaobikaaaDoorVLaw
import Derived.Test.YtagoeceaobikaaaDoorILaw
import Derived.Test.YtagoeceaobikaaaDoorCAt
namespace Go.Proofs.YtagoeceaobikaaaDoor
open Go.ChangeShapes Go.WideShapes Go.ChangeAt Go.RowKit
set_option linter.unusedVariables false
set_option linter.unusedSimpArgs false
theorem tw_cases (i : Ins) (h : twB i = true) : i.wo = false ∧ i.fn = 0 ∧ ((i.op = 9 ∧ i.rd = 0 ∧ i.r1 = 0) ∨ (i.op = 8 ∧ i.rd = 0 ∧ i.r1 = 0) ∨ (i.op = 8 ∧ i.rd = 2 ∧ i.r1 = 2 ∧ i.imm = -32) ∨ (i.op = 8 ∧ i.rd = 2 ∧ i.r1 = 2 ∧ i.imm = -16) ∨ (i.op = 8 ∧ i.rd = 2 ∧ i.r1 = 2 ∧ i.imm = 16)) := by
  unfold twB at h
  split at h
  · simp only [Bool.and_eq_true, beq_iff_eq, Bool.not_eq_true'] at h
    exact ⟨h.1.1.2, h.1.1.1, by omega⟩
  · simp only [Bool.and_eq_true, Bool.or_eq_true, beq_iff_eq, Bool.not_eq_true'] at h
    exact ⟨h.1.1.2, h.1.1.1.2, by omega⟩
set_option maxHeartbeats 4000000 in
theorem twice_w (v : Nat) (i : Ins) (v1 : v < 4294967296) (hi : spec v = some i) (ht : twB i = true) (w : World) :
    Calls Tryd.prog 13 #[.int .u32 (v : Int)] w fun e w' => e = .returned (.bool true) ∧ Kp w w' := by
  have hc := tw_cases i ht
  obtain ⟨op, fn, rd, r1, r2, imm, wid, wo, us⟩ := i
  dsimp only at hc
  clear ht
  obtain ⟨rfl, rfl, hc⟩ := hc
  rcases hc with ⟨rfl, rfl, rfl⟩ | ⟨rfl, rfl, rfl⟩ | ⟨rfl, rfl, rfl, rfl⟩ | ⟨rfl, rfl, rfl, rfl⟩ | ⟨rfl, rfl, rfl, rfl⟩
  all_goals
    have HI := Lib.hid hi
    clear hi
    go_enter Tryd.func13, Tryd.ntmps13
    go_wp2_with (go_at_call 12; (with_reducible refine (decode_at v (by omega) (by omega) _ HI.out _).mono ?_); rintro e' w1 ⟨rfl, qk⟩; have HK1 := Lib.hid qk; dsimp only [decV, Ins.v]; clear qk)
    go_ret
    exact ⟨rfl, HK1.out.allocs _ _⟩
set_option maxHeartbeats 2000000 in
theorem ap_n (g h : Nat) (hg : g < 65536) (hh : h < 65536) (eg : ex g = none) (eh : ex h = none) (w : World) (tb : Tb w) :
    Calls Tryd.prog 6 #[.int .u16 (g : Int), .int .u16 (h : Int)] w fun e w' => e = .returned (.bool true) ∧ Kp w w' := by
  have TB := Lib.hid tb
  clear tb
  have EG := Lib.hid eg
  have EH := Lib.hid eh
  clear eg eh
  go_enter Tryd.func6, Tryd.ntmps6
  go_wp2_with (first | (go_at_call 9; (with_reducible refine (expand_n g hg  EG.out _ TB.out).mono ?_); rintro e' w1 ⟨rfl, qk⟩; have HK1 := Lib.hid qk; have TB1 := Lib.hid (Tb.kp TB.out qk); clear qk) | (go_at_call 9; (with_reducible refine (expand_n h hh  EH.out _ TB1.out).mono ?_); rintro e' w2 ⟨rfl, qk⟩; have HK2 := Lib.hid qk; have TB2 := Lib.hid (Tb.kp TB1.out qk); clear qk) | (go_at_call 11; (with_reducible refine (works_w _ TB2.out).mono ?_); rintro e' w3 ⟨rfl, qk⟩; have HK3 := Lib.hid qk; clear qk))
  go_ret
  exact ⟨rfl, ((HK1.out.trans HK2.out).trans HK3.out)⟩
set_option maxHeartbeats 2000000 in
theorem ap_ns (g h : Nat) (hg : g < 65536) (hh : h < 65536) (u : Nat) (eg : ex g = none) (eh : ex h = some u) (w : World) (tb : Tb w) :
    Calls Tryd.prog 6 #[.int .u16 (g : Int), .int .u16 (h : Int)] w fun e w' => e = .returned (.bool true) ∧ Kp w w' := by
  have TB := Lib.hid tb
  clear tb
  have EG := Lib.hid eg
  have EH := Lib.hid eh
  clear eg eh
  go_enter Tryd.func6, Tryd.ntmps6
  go_wp2_with (first | (go_at_call 9; (with_reducible refine (expand_n g hg  EG.out _ TB.out).mono ?_); rintro e' w1 ⟨rfl, qk⟩; have HK1 := Lib.hid qk; have TB1 := Lib.hid (Tb.kp TB.out qk); clear qk) | (go_at_call 9; (with_reducible refine (expand_s h hh u EH.out _ TB1.out).mono ?_); rintro e' w2 ⟨rfl, qk⟩; have HK2 := Lib.hid qk; have TB2 := Lib.hid (Tb.kp TB1.out qk); clear qk) | (go_at_call 11; (with_reducible refine (works_w _ TB2.out).mono ?_); rintro e' w3 ⟨rfl, qk⟩; have HK3 := Lib.hid qk; clear qk))
  go_ret
  exact ⟨rfl, ((HK1.out.trans HK2.out).trans HK3.out)⟩
set_option maxHeartbeats 2000000 in
theorem ap_sn (g h : Nat) (hg : g < 65536) (hh : h < 65536) (v : Nat) (eg : ex g = some v) (eh : ex h = none) (w : World) (tb : Tb w) :
    Calls Tryd.prog 6 #[.int .u16 (g : Int), .int .u16 (h : Int)] w fun e w' => e = .returned (.bool true) ∧ Kp w w' := by
  have TB := Lib.hid tb
  clear tb
  have EG := Lib.hid eg
  have EH := Lib.hid eh
  clear eg eh
  go_enter Tryd.func6, Tryd.ntmps6
  go_wp2_with (first | (go_at_call 9; (with_reducible refine (expand_s g hg v EG.out _ TB.out).mono ?_); rintro e' w1 ⟨rfl, qk⟩; have HK1 := Lib.hid qk; have TB1 := Lib.hid (Tb.kp TB.out qk); clear qk) | (go_at_call 9; (with_reducible refine (expand_n h hh  EH.out _ TB1.out).mono ?_); rintro e' w2 ⟨rfl, qk⟩; have HK2 := Lib.hid qk; have TB2 := Lib.hid (Tb.kp TB1.out qk); clear qk) | (go_at_call 11; (with_reducible refine (works_w _ TB2.out).mono ?_); rintro e' w3 ⟨rfl, qk⟩; have HK3 := Lib.hid qk; clear qk))
  go_ret
  exact ⟨rfl, ((HK1.out.trans HK2.out).trans HK3.out)⟩
set_option maxHeartbeats 2000000 in
theorem ap_ne (g h : Nat) (hg : g < 65536) (hh : h < 65536) (v u : Nat) (eg : ex g = some v) (eh : ex h = some u) (ne : v ≠ u) (w : World) (tb : Tb w) :
    Calls Tryd.prog 6 #[.int .u16 (g : Int), .int .u16 (h : Int)] w fun e w' => e = .returned (.bool true) ∧ Kp w w' := by
  have TB := Lib.hid tb
  clear tb
  have EG := Lib.hid eg
  have EH := Lib.hid eh
  clear eg eh
  have t : ((v : Int) == (u : Int)) = false := by simp; omega
  clear ne
  go_enter Tryd.func6, Tryd.ntmps6
  go_wp2_with (first | (go_at_call 9; (with_reducible refine (expand_s g hg v EG.out _ TB.out).mono ?_); rintro e' w1 ⟨rfl, qk⟩; have HK1 := Lib.hid qk; have TB1 := Lib.hid (Tb.kp TB.out qk); clear qk) | (go_at_call 9; (with_reducible refine (expand_s h hh u EH.out _ TB1.out).mono ?_); rintro e' w2 ⟨rfl, qk⟩; have HK2 := Lib.hid qk; have TB2 := Lib.hid (Tb.kp TB1.out qk); clear qk) | (go_at_call 11; (with_reducible refine (works_w _ TB2.out).mono ?_); rintro e' w3 ⟨rfl, qk⟩; have HK3 := Lib.hid qk; clear qk))
  go_ret
  exact ⟨rfl, ((HK1.out.trans HK2.out).trans HK3.out)⟩
set_option maxHeartbeats 2000000 in
theorem ap_same (g h : Nat) (hg : g < 65536) (hh : h < 65536) (v : Nat) (i : Ins) (v1 : v < 4294967296) (eg : ex g = some v) (eh : ex h = some v) (hi : spec v = some i) (ht : twB i = true) (ne : g ≠ h) (w : World) (tb : Tb w) :
    Calls Tryd.prog 6 #[.int .u16 (g : Int), .int .u16 (h : Int)] w fun e w' => e = .returned (.bool true) ∧ Kp w w' := by
  have TB := Lib.hid tb
  clear tb
  have EG := Lib.hid eg
  have EH := Lib.hid eh
  clear eg eh
  have HI := Lib.hid hi
  have HT := Lib.hid ht
  have t : ((g : Int) != (h : Int)) = true := by simp; omega
  clear hi ht ne
  go_enter Tryd.func6, Tryd.ntmps6
  go_wp2_with (first | (go_at_call 9; (with_reducible refine (expand_s g hg v EG.out _ TB.out).mono ?_); rintro e' w1 ⟨rfl, qk⟩; have HK1 := Lib.hid qk; have TB1 := Lib.hid (Tb.kp TB.out qk); clear qk) | (go_at_call 9; (with_reducible refine (expand_s h hh v EH.out _ TB1.out).mono ?_); rintro e' w2 ⟨rfl, qk⟩; have HK2 := Lib.hid qk; have TB2 := Lib.hid (Tb.kp TB1.out qk); clear qk) | (go_at_call 13; (with_reducible refine (twice_w v i v1 HI.out HT.out _).mono ?_); rintro e' w3 ⟨rfl, qk⟩; have HK3 := Lib.hid qk; have TB3 := Lib.hid (Tb.kp TB2.out qk); clear qk) | (go_at_call 11; (with_reducible refine (works_w _ TB3.out).mono ?_); rintro e' w4 ⟨rfl, qk⟩; have HK4 := Lib.hid qk; clear qk))
  go_ret
  exact ⟨rfl, (((HK1.out.trans HK2.out).trans HK3.out).trans HK4.out)⟩
set_option maxHeartbeats 2000000 in
theorem ap_eq (g h : Nat) (hg : g < 65536) (hh : h < 65536) (v : Nat) (eg : ex g = some v) (eh : ex h = some v) (ne : g = h) (w : World) (tb : Tb w) :
    Calls Tryd.prog 6 #[.int .u16 (g : Int), .int .u16 (h : Int)] w fun e w' => e = .returned (.bool true) ∧ Kp w w' := by
  have TB := Lib.hid tb
  clear tb
  subst ne
  have EG := Lib.hid eg
  have EH := Lib.hid eh
  clear eg eh
  go_enter Tryd.func6, Tryd.ntmps6
  go_wp2_with (first | (go_at_call 9; (with_reducible refine (expand_s g hg v EG.out _ TB.out).mono ?_); rintro e' w1 ⟨rfl, qk⟩; have HK1 := Lib.hid qk; have TB1 := Lib.hid (Tb.kp TB.out qk); clear qk) | (go_at_call 9; (with_reducible refine (expand_s g hh v EH.out _ TB1.out).mono ?_); rintro e' w2 ⟨rfl, qk⟩; have HK2 := Lib.hid qk; have TB2 := Lib.hid (Tb.kp TB1.out qk); clear qk) | (go_at_call 11; (with_reducible refine (works_w _ TB2.out).mono ?_); rintro e' w3 ⟨rfl, qk⟩; have HK3 := Lib.hid qk; clear qk))
  go_ret
  exact ⟨rfl, ((HK1.out.trans HK2.out).trans HK3.out)⟩
theorem apart_w (g h : Nat) (hg : g < 65536) (hh : h < 65536) (w : World) (tb : Tb w) :
    Calls Tryd.prog 6 #[.int .u16 (g : Int), .int .u16 (h : Int)] w fun e w' => e = .returned (.bool true) ∧ Kp w w' := by
  rcases facts g hg with ⟨eg, -⟩ | ⟨v, i, eg, -, v0, v1, m1, m2, hi, hk, hr, ht⟩ <;> rcases facts h hh with ⟨eh, -⟩ | ⟨u, j, eh, -, u0, u1, n1, n2, hj, hl, hs, hu⟩
  · exact ap_n g h hg hh eg eh w tb
  · exact ap_ns g h hg hh u eg eh w tb
  · exact ap_sn g h hg hh v eg eh w tb
  · by_cases e : v = u
    · subst e
      by_cases e2 : g = h
      · exact ap_eq g h hg hh v eg eh e2 w tb
      · obtain rfl : i = j := by rw [hi] at hj; exact Option.some.inj hj
        rcases ht with ht | ht
        · exact ap_same g h hg hh v i v1 eg eh hi ht e2 w tb
        · rcases hu with hu | hu
          · exact ap_same g h hg hh v i v1 eg eh hi hu e2 w tb
          · exact absurd (ht.symm.trans hu) e2
    · exact ap_ne g h hg hh v u eg eh e w tb
end Go.Proofs.YtagoeceaobikaaaDoor
