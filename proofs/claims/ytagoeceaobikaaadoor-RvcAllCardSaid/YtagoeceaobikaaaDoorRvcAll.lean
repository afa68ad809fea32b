/-
  RvcAll of layer 8: of all halves it is as the document says. No condition but what the tables hold.
-/
import Derived.Test.YtagoeceaobikaaaDoorVLong
import Derived.Test.YtagoeceaobikaaaDoorVApart
import Derived.Test.YtagoeceaobikaaaDoorVReach
namespace Go.Proofs.YtagoeceaobikaaaDoor.rvcAll
open Go.ChangeShapes Go.WideShapes Go.ChangeAt Go.RowKit
set_option linter.unusedVariables false
set_option linter.unusedSimpArgs false
theorem own : ownKnob Tryd.prog.godebug = none := by kernel_rfl
def ev (x : Nat) : Nat := (ex x).getD 0
def es (x : Nat) : Bool := (ex x).isSome
theorem expand_e (x : Nat) (hx : x < 65536) (w : World) (tb : Tb w) :
    Calls Tryd.prog 9 #[.int .u16 (x : Int)] w fun e w' => e = .returned (.tuple #[.int .u32 ((ev x : Nat) : Int), .bool (es x)]) ∧ Kp w w' := by
  have c := expand_w x hx w tb
  unfold ev es
  generalize ex x = v at c
  cases v <;> exact c
theorem xor64 (a b : Nat) (ha : a < 2 ^ 62) (hb : b < 2 ^ 62) : bits .xor .i64 (a : Int) (b : Int) = ((a ^^^ b : Nat) : Int) := by
  have hx : a ^^^ b < 2 ^ 62 := Nat.xor_lt_two_pow ha hb
  have ha' : a % 2 ^ 64 = a := Nat.mod_eq_of_lt (by omega)
  have hb' : b % 2 ^ 64 = b := Nat.mod_eq_of_lt (by omega)
  show IntKind.i64.wrap ((BitVec.ofInt 64 (a : Int) ^^^ BitVec.ofInt 64 (b : Int)).toNat : Int) = _
  rw [BitVec.toNat_xor, BitVec.ofInt_natCast, BitVec.ofInt_natCast, BitVec.toNat_ofNat, BitVec.toNat_ofNat, ha', hb', IntKind.wrap_i64]
  omega
theorem gx (k : Nat) (hk : k < 65536) : ∃ g, g < 65536 ∧ g ≠ k ∧ IntKind.u16.wrap (bits .xor .i64 (k : Int) (wrap64 (2 ^ (k % 16)))) = (g : Int) := by
  have hp : 2 ^ (k % 16) < 2 ^ 16 := Nat.pow_lt_pow_right (by omega) (by omega)
  have e : wrap64 ((2 : Int) ^ (k % 16)) = ((2 ^ (k % 16) : Nat) : Int) := by
    have : ((2 : Int) ^ (k % 16)) = ((2 ^ (k % 16) : Nat) : Int) := by simp
    rw [this]
    generalize (2 ^ (k % 16) : Nat) = m at *
    unfold wrap64; omega
  have hx : k ^^^ 2 ^ (k % 16) < 2 ^ 16 := Nat.xor_lt_two_pow (by omega) hp
  refine ⟨k ^^^ 2 ^ (k % 16), by omega, ?_, ?_⟩
  · intro h
    have h2 : k ^^^ (k ^^^ 2 ^ (k % 16)) = k ^^^ k := by rw [h]
    rw [← Nat.xor_assoc, Nat.xor_self, Nat.zero_xor] at h2
    have := Nat.two_pow_pos (k % 16)
    omega
  · rw [e, xor64 _ _ (by omega) (by omega), IntKind.wrap_u16]
    omega
set_option maxHeartbeats 8000000 in
theorem walk (w : World) (hz : Tb w) :
    Calls Tryd.prog 7 #[] w fun e w' => e = .returned (.bool true) ∧ Grown w w' := by
  have TB := Lib.hid hz
  clear hz
  go_enter Tryd.func7, Tryd.ntmps7
  go_wp2
  go_loopw [1] (fun i wr => ∃ k : Nat, k ≤ 65536 ∧ i = .int .i64 k ∧ Kp w wr) (fun i _ => 65536 - (intOf i).toNat)
  case atStart => exact ⟨0, by omega, rfl, Kp.refl w⟩
  case round =>
    obtain ⟨k, hk, rfl, hkp⟩ := hrel
    have HKP := Lib.hid hkp
    have TBR := Lib.hid (TB.out.kp hkp)
    clear hkp
    by_cases hlt : k < 65536
    · have e0 : (decide ((k : Int) < 65536)) = true := by simp; omega
      obtain ⟨g, hg1, hgk, hg⟩ := gx k hlt
      obtain ⟨y, hy1, hy⟩ : ∃ y : Nat, y < 65536 ∧ IntKind.u16.wrap ((k : Int) * 5) = (y : Int) := ⟨k * 5 % 65536, by omega, by rw [IntKind.wrap_u16]; omega⟩
      have hw : (ev k = ev g → ev k ≠ 0 → ∃ i, ev k < 4294967296 ∧ spec (ev k) = some i ∧ twB i = true) := by
        intro he h0
        rcases facts k hlt with ⟨h, -⟩ | ⟨v, i, h, d, v0, v1, m1, m2, hi, hk, hr, ht⟩
        · exact absurd (by simp [ev, h]) h0
        · have hv : ev k = v := by simp [ev, h]
          rcases facts g hg1 with ⟨h', -⟩ | ⟨u, j, h', d', u0, u1, n1, n2, hj, hl, hs, hu⟩
          · exact absurd (show ev k = 0 by rw [he]; simp [ev, h']) h0
          · have hu' : ev g = u := by simp [ev, h']
            have e : v = u := by omega
            subst e
            obtain rfl : i = j := by rw [hi] at hj; exact Option.some.inj hj
            refine ⟨i, by omega, by rw [hv]; exact hi, ?_⟩
            rcases ht with ht | ht
            · exact ht
            · rcases hu with hu | hu
              · exact hu
              · exact absurd (hu.symm.trans ht) hgk
      have hm : (k : Int).tmod 17 = ((k % 17 : Nat) : Int) := by rw [Int.tmod_eq_emod_of_nonneg (by omega)]; omega
      generalize hp : ((ev k : Int) == (ev g : Int)) = p
      generalize hq : ((ev k : Int) != 0) = q
      generalize hr : ((k : Int) % 17 == 3) = r
      have hr2 : ((k : Int).tmod 17 == 3) = r := by rw [← hr, hm]; congr 1
      have hw2 : p = true → q = true → ∃ i, ev k < 4294967296 ∧ spec (ev k) = some i ∧ twB i = true := by
        intro h1 h2
        subst h1 h2
        exact hw (by simp only [beq_iff_eq] at hp; omega) (by simpa using hq)
      clear hw hm hgk
      cases p
      · clear hw2
        cases r
        · go_wp2_with (first | (go_at_call 9; (with_reducible refine (expand_e k hlt _ TBR.out).mono ?_); rintro e' w1 ⟨rfl, qk⟩; have HK1 := Lib.hid qk; have TB1 := Lib.hid (Tb.kp TBR.out qk); clear qk) | (go_at_call 9; (with_reducible refine (expand_e g hg1 _ TB1.out).mono ?_); rintro e' w2 ⟨rfl, qk⟩; have HK2 := Lib.hid qk; have TB2 := Lib.hid (Tb.kp TB1.out qk); clear qk) | (go_at_call 3; (with_reducible refine (expands_w k hlt _ TB2.out).mono ?_); rintro e' w4 ⟨rfl, qk⟩; have HK4 := Lib.hid qk; have TB4 := Lib.hid (Tb.kp TB2.out qk); clear qk))
          go_round
          case rel => exact ⟨k + 1, by omega, by go_num, (((HKP.out.trans HK1.out).trans HK2.out).trans HK4.out)⟩
          case measure => simp [intOf]; omega
        · go_wp2_with (first | (go_at_call 9; (with_reducible refine (expand_e k hlt _ TBR.out).mono ?_); rintro e' w1 ⟨rfl, qk⟩; have HK1 := Lib.hid qk; have TB1 := Lib.hid (Tb.kp TBR.out qk); clear qk) | (go_at_call 9; (with_reducible refine (expand_e g hg1 _ TB1.out).mono ?_); rintro e' w2 ⟨rfl, qk⟩; have HK2 := Lib.hid qk; have TB2 := Lib.hid (Tb.kp TB1.out qk); clear qk) | (go_at_call 3; (with_reducible refine (expands_w k hlt _ TB2.out).mono ?_); rintro e' w4 ⟨rfl, qk⟩; have HK4 := Lib.hid qk; have TB4 := Lib.hid (Tb.kp TB2.out qk); clear qk) | (go_at_call 4; (with_reducible refine (long_w k hlt _ TB4.out).mono ?_); rintro e' w5 ⟨rfl, qk⟩; have HK5 := Lib.hid qk; have TB5 := Lib.hid (Tb.kp TB4.out qk); clear qk) | (go_at_call 5; (with_reducible refine (reach_w k hlt _ TB5.out).mono ?_); rintro e' w6 ⟨rfl, qk⟩; have HK6 := Lib.hid qk; have TB6 := Lib.hid (Tb.kp TB5.out qk); clear qk) | (go_at_call 6; (with_reducible refine (apart_w k y hlt hy1 _ TB6.out).mono ?_); rintro e' w7 ⟨rfl, qk⟩; have HK7 := Lib.hid qk; have TB7 := Lib.hid (Tb.kp TB6.out qk); clear qk))
          go_round
          case rel => exact ⟨k + 1, by omega, by go_num, ((((((HKP.out.trans HK1.out).trans HK2.out).trans HK4.out).trans HK5.out).trans HK6.out).trans HK7.out)⟩
          case measure => simp [intOf]; omega
      · cases q
        · clear hw2
          cases r
          · go_wp2_with (first | (go_at_call 9; (with_reducible refine (expand_e k hlt _ TBR.out).mono ?_); rintro e' w1 ⟨rfl, qk⟩; have HK1 := Lib.hid qk; have TB1 := Lib.hid (Tb.kp TBR.out qk); clear qk) | (go_at_call 9; (with_reducible refine (expand_e g hg1 _ TB1.out).mono ?_); rintro e' w2 ⟨rfl, qk⟩; have HK2 := Lib.hid qk; have TB2 := Lib.hid (Tb.kp TB1.out qk); clear qk) | (go_at_call 3; (with_reducible refine (expands_w k hlt _ TB2.out).mono ?_); rintro e' w4 ⟨rfl, qk⟩; have HK4 := Lib.hid qk; have TB4 := Lib.hid (Tb.kp TB2.out qk); clear qk))
            go_round
            case rel => exact ⟨k + 1, by omega, by go_num, (((HKP.out.trans HK1.out).trans HK2.out).trans HK4.out)⟩
            case measure => simp [intOf]; omega
          · go_wp2_with (first | (go_at_call 9; (with_reducible refine (expand_e k hlt _ TBR.out).mono ?_); rintro e' w1 ⟨rfl, qk⟩; have HK1 := Lib.hid qk; have TB1 := Lib.hid (Tb.kp TBR.out qk); clear qk) | (go_at_call 9; (with_reducible refine (expand_e g hg1 _ TB1.out).mono ?_); rintro e' w2 ⟨rfl, qk⟩; have HK2 := Lib.hid qk; have TB2 := Lib.hid (Tb.kp TB1.out qk); clear qk) | (go_at_call 3; (with_reducible refine (expands_w k hlt _ TB2.out).mono ?_); rintro e' w4 ⟨rfl, qk⟩; have HK4 := Lib.hid qk; have TB4 := Lib.hid (Tb.kp TB2.out qk); clear qk) | (go_at_call 4; (with_reducible refine (long_w k hlt _ TB4.out).mono ?_); rintro e' w5 ⟨rfl, qk⟩; have HK5 := Lib.hid qk; have TB5 := Lib.hid (Tb.kp TB4.out qk); clear qk) | (go_at_call 5; (with_reducible refine (reach_w k hlt _ TB5.out).mono ?_); rintro e' w6 ⟨rfl, qk⟩; have HK6 := Lib.hid qk; have TB6 := Lib.hid (Tb.kp TB5.out qk); clear qk) | (go_at_call 6; (with_reducible refine (apart_w k y hlt hy1 _ TB6.out).mono ?_); rintro e' w7 ⟨rfl, qk⟩; have HK7 := Lib.hid qk; have TB7 := Lib.hid (Tb.kp TB6.out qk); clear qk))
            go_round
            case rel => exact ⟨k + 1, by omega, by go_num, ((((((HKP.out.trans HK1.out).trans HK2.out).trans HK4.out).trans HK5.out).trans HK6.out).trans HK7.out)⟩
            case measure => simp [intOf]; omega
        · obtain ⟨i, v1, hi, ht⟩ := hw2 rfl rfl
          have HI := Lib.hid hi
          have HT := Lib.hid ht
          clear hw2 hi ht
          cases r
          · go_wp2_with (first | (go_at_call 9; (with_reducible refine (expand_e k hlt _ TBR.out).mono ?_); rintro e' w1 ⟨rfl, qk⟩; have HK1 := Lib.hid qk; have TB1 := Lib.hid (Tb.kp TBR.out qk); clear qk) | (go_at_call 9; (with_reducible refine (expand_e g hg1 _ TB1.out).mono ?_); rintro e' w2 ⟨rfl, qk⟩; have HK2 := Lib.hid qk; have TB2 := Lib.hid (Tb.kp TB1.out qk); clear qk) | (go_at_call 13; (with_reducible refine (twice_w (ev k) i v1 HI.out HT.out _).mono ?_); rintro e' w3 ⟨rfl, qk⟩; have HK3 := Lib.hid qk; have TB3 := Lib.hid (Tb.kp TB2.out qk); clear qk) | (go_at_call 3; (with_reducible refine (expands_w k hlt _ TB3.out).mono ?_); rintro e' w4 ⟨rfl, qk⟩; have HK4 := Lib.hid qk; have TB4 := Lib.hid (Tb.kp TB3.out qk); clear qk))
            go_round
            case rel => exact ⟨k + 1, by omega, by go_num, ((((HKP.out.trans HK1.out).trans HK2.out).trans HK3.out).trans HK4.out)⟩
            case measure => simp [intOf]; omega
          · go_wp2_with (first | (go_at_call 9; (with_reducible refine (expand_e k hlt _ TBR.out).mono ?_); rintro e' w1 ⟨rfl, qk⟩; have HK1 := Lib.hid qk; have TB1 := Lib.hid (Tb.kp TBR.out qk); clear qk) | (go_at_call 9; (with_reducible refine (expand_e g hg1 _ TB1.out).mono ?_); rintro e' w2 ⟨rfl, qk⟩; have HK2 := Lib.hid qk; have TB2 := Lib.hid (Tb.kp TB1.out qk); clear qk) | (go_at_call 13; (with_reducible refine (twice_w (ev k) i v1 HI.out HT.out _).mono ?_); rintro e' w3 ⟨rfl, qk⟩; have HK3 := Lib.hid qk; have TB3 := Lib.hid (Tb.kp TB2.out qk); clear qk) | (go_at_call 3; (with_reducible refine (expands_w k hlt _ TB3.out).mono ?_); rintro e' w4 ⟨rfl, qk⟩; have HK4 := Lib.hid qk; have TB4 := Lib.hid (Tb.kp TB3.out qk); clear qk) | (go_at_call 4; (with_reducible refine (long_w k hlt _ TB4.out).mono ?_); rintro e' w5 ⟨rfl, qk⟩; have HK5 := Lib.hid qk; have TB5 := Lib.hid (Tb.kp TB4.out qk); clear qk) | (go_at_call 5; (with_reducible refine (reach_w k hlt _ TB5.out).mono ?_); rintro e' w6 ⟨rfl, qk⟩; have HK6 := Lib.hid qk; have TB6 := Lib.hid (Tb.kp TB5.out qk); clear qk) | (go_at_call 6; (with_reducible refine (apart_w k y hlt hy1 _ TB6.out).mono ?_); rintro e' w7 ⟨rfl, qk⟩; have HK7 := Lib.hid qk; have TB7 := Lib.hid (Tb.kp TB6.out qk); clear qk))
            go_round
            case rel => exact ⟨k + 1, by omega, by go_num, (((((((HKP.out.trans HK1.out).trans HK2.out).trans HK3.out).trans HK4.out).trans HK5.out).trans HK6.out).trans HK7.out)⟩
            case measure => simp [intOf]; omega
    · have e0 : (decide ((k : Int) < 65536)) = false := by simp; omega
      go_wp2_with (go_at_call 11; (with_reducible refine (works_w _ TBR.out).mono ?_); rintro e' w1 ⟨rfl, qk⟩; have HK1 := Lib.hid qk; have TB1 := Lib.hid (Tb.kp TBR.out qk); clear qk)
      go_ret
      exact ⟨rfl, (HKP.out.trans HK1.out).grown⟩
end Go.Proofs.YtagoeceaobikaaaDoor.rvcAll
