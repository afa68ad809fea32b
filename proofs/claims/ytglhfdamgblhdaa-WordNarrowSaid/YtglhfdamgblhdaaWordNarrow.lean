/-
  What is of 32 bits hangs on the lowest 32 bits alone, and is extended already, as WordNarrow asks of any numbers; no condition.
-/
import Derived.Test.YtglhfdamgblhdaaWLaw
namespace Go.Proofs.Ytglhfdamgblhdaa.wordNarrow
open Go.ChangeShapes Go.WideShapes Go.ChangeAt Go.RowKit
set_option linter.unusedVariables false
set_option linter.unusedSimpArgs false
theorem own : ownKnob Try.prog.godebug = none := by kernel_rfl

theorem narrow_eq (fn a b A B : Int) (ha : A % 4294967296 = a % 4294967296) (hb : B % 4294967296 = b % 4294967296) : aluV fn true A B = aluV fn true a b := by
  simp only [aluV, if_true, ha, hb]
theorem or_mod (a m : Int) (h0 : 0 ≤ a) (h1 : a < 18446744073709551616) (hm : 0 ≤ m) : bits .or .u64 (a % 4294967296) (IntKind.u64.wrap (m * 4294967296)) % 4294967296 = a % 4294967296 := by
  obtain ⟨n, rfl⟩ := Int.eq_ofNat_of_zero_le h0
  obtain ⟨k, rfl⟩ := Int.eq_ofNat_of_zero_le hm
  have e1 : ((n : Int) % 4294967296) = ((n % 4294967296 : Nat) : Int) := by omega
  have e2 : (IntKind.u64.wrap ((k : Int) * 4294967296)) = ((k * 4294967296 % 18446744073709551616 : Nat) : Int) := by rw [IntKind.wrap_u64]; omega
  rw [e1, e2, bits_or_u64_nat _ _ (by omega) (by omega)]
  have h := Nat.or_mod_two_pow (a := n % 4294967296) (b := k * 4294967296 % 18446744073709551616) (n := 32)
  have e3 : k * 4294967296 % 18446744073709551616 % 2 ^ 32 = 0 := by omega
  have e4 : n % 4294967296 % 2 ^ 32 = n % 4294967296 := by omega
  rw [e3, e4, Nat.or_zero] at h
  have h' : (n % 4294967296 ||| k * 4294967296 % 18446744073709551616) % 4294967296 = n % 4294967296 := h
  omega
theorem ext_ext (z : Int) : extV (extV z 2) 2 = extV z 2 := by
  simp only [extV, sx]; simp; split <;> (split <;> omega)
theorem ext_alu (fn a b : Int) : extV (aluV fn true a b) 2 = aluV fn true a b := by
  simp only [aluV, if_true, ext_ext]
theorem alu_none (fn a b : Int) (h : aluOk fn true = false) : aluV fn true a b = 0 := by
  have h' : turnOk fn = false := by simpa [aluOk] using h
  simp [turnOk] at h'
  simp [aluV, turnV, h', extV, sx]
theorem sum_cut (fn a b : Int) (h : fn = 0 ∨ fn = 8) : extV (aluV fn false a b) 2 = aluV fn true a b := by
  rcases h with rfl | rfl
  · simp [aluV, turnOk, turnV, extV, sx]
  · simp [aluV, turnOk, turnV, extV, sx]
theorem alu_w2 (fn a b A B : Int) (h0 : 0 ≤ a) (hb0 : 0 ≤ b) (h1 : a < 18446744073709551616) (hb1 : b < 18446744073709551616)
    (hA0 : 0 ≤ A) (hA1 : A < 18446744073709551616) (hB0 : 0 ≤ B) (hB1 : B < 18446744073709551616)
    (ha : A % 4294967296 = a % 4294967296) (hb : B % 4294967296 = b % 4294967296) (w : World) :
    Calls Try.prog 7 #[.int .i64 fn, .bool true, .int .u64 A, .int .u64 B] w fun e w' => e = .returned (.tuple #[.int .u64 (aluV fn true a b), .bool (aluOk fn true)]) ∧ w = w' := by
  rw [← narrow_eq fn a b A B ha hb]; exact alu_w fn true A B hA0 hA1 hB0 hB1 w

theorem walk (a0 : Int) (a1 : Int) (a2 : Int) (a3 : Int) (w0 : (Lit.int .i64 a0).wf = true) (w1 : (Lit.int .u64 a1).wf = true) (w2 : (Lit.int .u64 a2).wf = true) (w3 : (Lit.int .u64 a3).wf = true) (w : World) :
    Calls Try.prog 5 #[.int .i64 a0, .int .u64 a1, .int .u64 a2, .int .u64 a3] w fun e w' => e = .returned (.bool true) ∧ Grown w w' := by
  have hm0 : IntKind.u64.min = 0 := rfl
  have hm1 : IntKind.u64.max = 18446744073709551615 := rfl
  clear w0
  simp only [Lit.wf, Bool.and_eq_true, decide_eq_true_eq, hm0, hm1] at w1 w2 w3
  obtain ⟨p0, p1⟩ := w1
  obtain ⟨p2, p3⟩ := w2
  obtain ⟨p4, p5⟩ := w3
  clear hm0 hm1
  have H1 := Lib.hid (or_mod a1 a3 p0 (by omega) p4)
  have H2 := Lib.hid (or_mod a2 a3 p2 (by omega) p4)
  have b1 := bits_lo_u64 .or (a1 % 4294967296) (IntKind.u64.wrap (a3 * 4294967296))
  have b2 := bits_hi_u64 .or (a1 % 4294967296) (IntKind.u64.wrap (a3 * 4294967296))
  have b3 := bits_lo_u64 .or (a2 % 4294967296) (IntKind.u64.wrap (a3 * 4294967296))
  have b4 := bits_hi_u64 .or (a2 % 4294967296) (IntKind.u64.wrap (a3 * 4294967296))
  have B1 := aluV_bd a0 true a1 a2 p0 (by omega)
  have B2 := aluV_bd a0 false a1 a2 p0 (by omega)
  have HX := Lib.hid (ext_alu a0 a1 a2)
  have HO : (aluOk a0 true = true) ∨ (aluOk a0 true = false ∧ (aluV a0 true a1 a2 != 0) = false) := by
    by_cases h : aluOk a0 true = true
    · exact .inl h
    · have h' : aluOk a0 true = false := by simpa using h
      exact .inr ⟨h', by simp [alu_none a0 a1 a2 h']⟩
  have HS : (((a0 != 0) = true ∧ (a0 != 8) = true)) ∨ (a0 = 0 ∨ a0 = 8) := by
    by_cases h : a0 = 0
    · exact .inr (.inl h)
    · by_cases h8 : a0 = 8
      · exact .inr (.inr h8)
      · exact .inl ⟨by simpa using h, by simpa using h8⟩
  have HC : (a0 = 0 ∨ a0 = 8) → extV (aluV a0 false a1 a2) 2 = aluV a0 true a1 a2 := sum_cut a0 a1 a2
  rcases HO with o | ⟨o, o2⟩
  · rcases HS with ⟨s1, s2⟩ | s
    · clear HC
      go_enter Try.func5, Try.ntmps5
      go_wp2_with fail
      go_at_call 7; refine (alu_w _ _ _ _ (by omega) (by omega) (by omega) (by omega) _).mono ?_; rintro e w' ⟨rfl, rfl⟩
      go_wp2_with fail
      go_at_call 7; refine (alu_w2 _ a1 a2 _ _ (by omega) (by omega) (by omega) (by omega) (by omega) (by omega) (by omega) (by omega) H1.out H2.out _).mono ?_; rintro e w' ⟨rfl, rfl⟩
      have x := HX.out
      go_wp2_with (first | (go_at_call 11; refine (ext_w _ _ (by omega) (by omega) _).mono ?_; rintro e w' ⟨rfl, rfl⟩) | (go_at_call 9; refine (known_w _).mono ?_; rintro e w' ⟨rfl, rfl⟩))
      go_ret
      exact ⟨rfl, Grown.refl _⟩
    · have c := HC s
      have HCC := Lib.hid c
      clear HC c
      rcases s with rfl | rfl
      all_goals
        go_enter Try.func5, Try.ntmps5
        go_wp2_with fail
        go_at_call 7; refine (alu_w _ _ _ _ (by omega) (by omega) (by omega) (by omega) _).mono ?_; rintro e w' ⟨rfl, rfl⟩
        go_wp2_with fail
        go_at_call 7; refine (alu_w2 _ a1 a2 _ _ (by omega) (by omega) (by omega) (by omega) (by omega) (by omega) (by omega) (by omega) H1.out H2.out _).mono ?_; rintro e w' ⟨rfl, rfl⟩
        have x := HX.out
        have c := HCC.out
        go_wp2_with (first | (go_at_call 11; refine (ext_w _ _ (by omega) (by omega) _).mono ?_; rintro e w' ⟨rfl, rfl⟩) | (go_at_call 10; refine (lalu_w _ _ _ _ (by omega) (by omega) (by omega) (by omega) _).mono ?_; rintro e w' ⟨rfl, rfl⟩) | (go_at_call 9; refine (known_w _).mono ?_; rintro e w' ⟨rfl, rfl⟩))
        go_ret
        exact ⟨rfl, Grown.refl _⟩
  · rcases HS with ⟨s1, s2⟩ | s
    · clear HC
      go_enter Try.func5, Try.ntmps5
      go_wp2_with fail
      go_at_call 7; refine (alu_w _ _ _ _ (by omega) (by omega) (by omega) (by omega) _).mono ?_; rintro e w' ⟨rfl, rfl⟩
      go_wp2_with fail
      go_at_call 7; refine (alu_w2 _ a1 a2 _ _ (by omega) (by omega) (by omega) (by omega) (by omega) (by omega) (by omega) (by omega) H1.out H2.out _).mono ?_; rintro e w' ⟨rfl, rfl⟩
      have x := HX.out
      go_wp2_with (first | (go_at_call 11; refine (ext_w _ _ (by omega) (by omega) _).mono ?_; rintro e w' ⟨rfl, rfl⟩) | (go_at_call 9; refine (known_w _).mono ?_; rintro e w' ⟨rfl, rfl⟩))
      go_ret
      exact ⟨rfl, Grown.refl _⟩
    · exfalso
      rcases s with rfl | rfl <;> simp [aluOk, turnOk] at o
end Go.Proofs.Ytglhfdamgblhdaa.wordNarrow
