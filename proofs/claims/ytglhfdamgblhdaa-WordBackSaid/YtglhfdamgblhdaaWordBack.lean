/-
  What is added is taken away again; what is laid over by one of both bits, too; a sum is that of one or both bits, and both; a shift is one by one: as WordBack asks of any numbers; no condition.
-/
import Derived.Test.YtglhfdamgblhdaaWLaw
import Derived.Deep.QuietTactic
import Derived.BigQuiet
namespace Go.Proofs.Ytglhfdamgblhdaa.wordBack
open Go.ChangeShapes Go.WideShapes Go.ChangeAt Go.RowKit
set_option linter.unusedVariables false
set_option linter.unusedSimpArgs false
theorem own : ownKnob Try.prog.godebug = none := by kernel_rfl
theorem q_add {P : Program} {f : FuncId} {args : Array Value} {v : Value} (c : ∀ W : World, Calls P f args W fun e w' => e = .returned v ∧ W = w') (w : World) (a n : Nat) :
    Calls P f args (w.drewN (a + n)) fun e w'' => e = .returned v ∧ ∃ m, w'' = w.drewN (a + m) :=
  (c _).mono fun _ _ h => ⟨h.1, n, h.2.symm⟩

theorem grown_n {W w : World} (h : Grown W w) (n : Nat) : Grown W (w.drewN n) := h

theorem f1 (a b : Int) (h0 : 0 ≤ a) (h1 : a < 18446744073709551616) : aluV 8 false (aluV 0 false a b) b = a := by
  simp [aluV, turnOk, turnV]; omega
theorem f2 (a b : Int) (h0 : 0 ≤ a) (h1 : a < 18446744073709551616) (h2 : 0 ≤ b) (h3 : b < 18446744073709551616) : aluV 4 false (aluV 4 false a b) b = a := by
  obtain ⟨n, rfl⟩ := Int.eq_ofNat_of_zero_le h0
  obtain ⟨k, rfl⟩ := Int.eq_ofNat_of_zero_le h2
  have hx : n ^^^ k < 2 ^ 64 := Nat.xor_lt_two_pow (by omega) (by omega)
  have e : aluV 4 false (n : Int) (k : Int) = ((n ^^^ k : Nat) : Int) := by
    simp only [aluV, turnOk, cmV]; simp; exact bits_xor_u64_nat n k (by omega) (by omega)
  have e' : aluV 4 false ((n ^^^ k : Nat) : Int) (k : Int) = ((n ^^^ k ^^^ k : Nat) : Int) := by
    simp only [aluV, turnOk, cmV]; simp; exact bits_xor_u64_nat _ k (by omega) (by omega)
  rw [e, e', Nat.xor_assoc, Nat.xor_self, Nat.xor_zero]
theorem or_and (n : Nat) : ∀ k : Nat, (n ||| k) + (n &&& k) = n + k := by
  induction n using Nat.strongRecOn with
  | ind n ih =>
    intro k
    by_cases hn : n = 0
    · subst hn; simp
    · have h := ih (n / 2) (by omega) (k / 2)
      have o := Nat.div_add_mod (n ||| k) 2
      have p := Nat.div_add_mod (n &&& k) 2
      have q : (n ||| k) / 2 = n / 2 ||| k / 2 := Nat.or_div_two
      have r : (n &&& k) / 2 = n / 2 &&& k / 2 := Nat.and_div_two
      have s : (n ||| k) % 2 = n % 2 ||| k % 2 := by have := Nat.or_mod_two_pow (a := n) (b := k) (n := 1); simpa using this
      have t : (n &&& k) % 2 = n % 2 &&& k % 2 := by have := Nat.and_mod_two_pow (a := n) (b := k) (n := 1); simpa using this
      have u : (n % 2 ||| k % 2) + (n % 2 &&& k % 2) = n % 2 + k % 2 := by
        rcases Nat.mod_two_eq_zero_or_one n with x | x <;> rcases Nat.mod_two_eq_zero_or_one k with y | y <;> rw [x, y] <;> decide
      omega
theorem f3 (a b : Int) (h0 : 0 ≤ a) (h1 : a < 18446744073709551616) (h2 : 0 ≤ b) (h3 : b < 18446744073709551616) :
    aluV 0 false (aluV 6 false a b) (aluV 7 false a b) = aluV 0 false a b := by
  obtain ⟨n, rfl⟩ := Int.eq_ofNat_of_zero_le h0
  obtain ⟨k, rfl⟩ := Int.eq_ofNat_of_zero_le h2
  have e : aluV 6 false (n : Int) (k : Int) = ((n ||| k : Nat) : Int) := by
    simp only [aluV, turnOk, cmV]; simp; exact bits_or_u64_nat n k (by omega) (by omega)
  have e' : aluV 7 false (n : Int) (k : Int) = ((n &&& k : Nat) : Int) := by
    simp only [aluV, turnOk, cmV]; simp; exact bits_and_u64_nat n k (by omega) (by omega)
  have h := or_and n k
  rw [e, e']
  simp only [aluV, turnOk, turnV]; simp
  omega

theorem pow_one_more (k : Nat) : (2 : Int) ^ (k + 1) = 2 ^ k * 2 := Int.pow_succ 2 k
theorem div_more (a : Int) (k : Nat) : a / 2 ^ (k + 1) = a / 2 ^ k / 2 := by
  rw [pow_one_more, Int.ediv_ediv_of_nonneg (Int.le_of_lt (pow_pos' k))]
theorem sra_more (m a : Int) (k : Nat) (hm : 0 < m) (he : m % 2 = 0) (h0 : 0 ≤ a) (h1 : a < m) : sraV m a (k + 1) = sraV m (sraV m a k) 1 := by
  have d := div_bd (m - 1 - a) k (by omega)
  have d' := div_bd a k h0
  unfold sraV
  by_cases h : m / 2 ≤ a
  · rw [if_pos h, if_pos h]
    have hh : m / 2 ≤ m - 1 - (m - 1 - a) / 2 ^ k := by omega
    rw [if_pos hh, div_more]
    have : m - 1 - (m - 1 - (m - 1 - a) / 2 ^ k) = (m - 1 - a) / 2 ^ k := by omega
    rw [this]; rfl
  · rw [if_neg h, if_neg h]
    have hh : ¬ m / 2 ≤ a / 2 ^ k := by omega
    rw [if_neg hh, div_more]; rfl
theorem shl_more (m a : Int) (k : Nat) : (a * 2 ^ (k + 1)) % m = ((a * 2 ^ k) % m * 2 ^ 1) % m := by
  rw [pow_one_more, ← Int.mul_assoc, show (2 : Int) ^ 1 = 2 from rfl, Int.mul_emod ((a * 2 ^ k) % m), Int.emod_emod, ← Int.mul_emod]
theorem turn_more (m s fn a k : Int) (hm : 0 < m) (he : m % 2 = 0) (h0 : 0 ≤ a) (h1 : a < m) (hk : 0 ≤ k) (hs : k + 1 < s) (hf : fn = 1 ∨ fn = 5 ∨ fn = 9) :
    turnV m s fn a (k + 1) = turnV m s fn (turnV m s fn a k) 1 := by
  have e1 : ((k + 1) % s).toNat = k.toNat + 1 := by rw [Int.emod_eq_of_lt (by omega) (by omega)]; omega
  have e2 : (k % s).toNat = k.toNat := by rw [Int.emod_eq_of_lt (by omega) (by omega)]
  have e3 : ((1 : Int) % s).toNat = 1 := by rw [Int.emod_eq_of_lt (by omega) (by omega)]; rfl
  rcases hf with rfl | rfl | rfl
  · simp only [turnV, e1, e2, e3]; simp only [Int.reduceEq, if_false, if_true]; exact shl_more m a _
  · simp only [turnV, e1, e2, e3]; simp only [Int.reduceEq, if_false, if_true]; exact div_more a _
  · simp only [turnV, e1, e2, e3]; simp only [Int.reduceEq, if_false, if_true]; exact sra_more m a _ hm he h0 h1
theorem turn_round (m s fn a k : Int) (hf : fn = 1 ∨ fn = 5 ∨ fn = 9) : turnV m s fn a (k + s) = turnV m s fn a k := by
  have e : (k + s) % s = k % s := Int.add_emod_right k s
  rcases hf with rfl | rfl | rfl <;> simp only [turnV, e] <;> simp
theorem alu_long (fn a b : Int) (hf : fn = 1 ∨ fn = 5 ∨ fn = 9) : aluV fn false a b = turnV 18446744073709551616 64 fn a b := by
  rcases hf with rfl | rfl | rfl <;> simp [aluV, turnOk]
theorem alu_short (fn a b : Int) : aluV fn true a b = extV (turnV 4294967296 32 fn (a % 4294967296) (b % 4294967296)) 2 := by
  simp only [aluV, if_true]
theorem ext_low (z : Int) (h0 : 0 ≤ z) (h1 : z < 4294967296) : extV z 2 % 4294967296 = z := by
  simp only [extV, sx]; simp; split <;> omega
theorem g1 (fn a k : Int) (h0 : 0 ≤ a) (h1 : a < 18446744073709551616) (hk : 0 ≤ k) (hk2 : k < 63) (hf : fn = 1 ∨ fn = 5 ∨ fn = 9) : aluV fn false a (k + 1) = aluV fn false (aluV fn false a k) 1 := by
  simp only [alu_long fn _ _ hf]; exact turn_more _ _ fn a k (by omega) (by omega) h0 h1 hk (by omega) hf
theorem g2 (fn a k : Int) (hf : fn = 1 ∨ fn = 5 ∨ fn = 9) : aluV fn false a (k + 64) = aluV fn false a k := by
  simp only [alu_long fn _ _ hf]; exact turn_round _ _ fn a k hf
theorem g3 (fn a k : Int) (h0 : 0 ≤ a) (hk : 0 ≤ k) (hk2 : k < 31) (hf : fn = 1 ∨ fn = 5 ∨ fn = 9) : aluV fn true a (k + 1) = aluV fn true (aluV fn true a k) 1 := by
  have b := turnV_bd 4294967296 32 fn (a % 4294967296) (k % 4294967296) (by omega) (by omega) (by omega)
  simp only [alu_short, ext_low _ b.1 b.2]
  have e1 : (k + 1) % 4294967296 = k + 1 := by omega
  have e2 : k % 4294967296 = k := by omega
  have e3 : (1 : Int) % 4294967296 = 1 := rfl
  rw [e1, e2, e3, turn_more 4294967296 32 fn (a % 4294967296) k (by omega) (by omega) (by omega) (by omega) hk (by omega) hf]
theorem g4 (fn a k : Int) (hk : 0 ≤ k) (hk2 : k < 31) (hf : fn = 1 ∨ fn = 5 ∨ fn = 9) : aluV fn true a (k + 32) = aluV fn true a k := by
  simp only [alu_short]
  have e1 : (k + 32) % 4294967296 = k + 32 := by omega
  have e2 : k % 4294967296 = k := by omega
  rw [e1, e2, turn_round 4294967296 32 fn _ k hf]
theorem f4 (a b : Int) : aluV 8 true (aluV 0 true a b) b = extV a 2 := by
  have b0 := turnV_bd 4294967296 32 0 (a % 4294967296) (b % 4294967296) (by omega) (by omega) (by omega)
  simp only [alu_short, ext_low _ b0.1 b0.2]
  simp only [turnV, extV, sx]; simp

set_option maxRecDepth 100000 in
theorem walk (a0 : Int) (a1 : Int) (a2 : Int) (w0 : (Lit.int .u64 a0).wf = true) (w1 : (Lit.int .u64 a1).wf = true) (w2 : (Lit.int .i64 a2).wf = true) (w : World) :
    Calls Try.prog 4 #[.int .u64 a0, .int .u64 a1, .int .i64 a2] w fun e w' => e = .returned (.bool true) ∧ Grown w w' := by
  have hm0 : IntKind.u64.min = 0 := rfl
  have hm1 : IntKind.u64.max = 18446744073709551615 := rfl
  clear w2
  simp only [Lit.wf, Bool.and_eq_true, decide_eq_true_eq, hm0, hm1] at w0 w1
  obtain ⟨h10, h11'⟩ := w0
  obtain ⟨h20, h21'⟩ := w1
  clear hm0 hm1
  have h11 : a0 < 18446744073709551616 := by omega
  have h21 : a1 < 18446744073709551616 := by omega
  have hq : 0 ≤ IntKind.u64.wrap a2 := by rw [IntKind.wrap_u64]; omega
  have b0 := aluV_bd 0 false a0 a1 h10 h11
  have b4 := aluV_bd 4 false a0 a1 h10 h11
  have b6 := aluV_bd 6 false a0 a1 h10 h11
  have b7 := aluV_bd 7 false a0 a1 h10 h11
  have c0 := aluV_bd 0 true a0 a1 h10 h11
  have hk : 0 ≤ IntKind.u64.wrap a2 % 63 ∧ IntKind.u64.wrap a2 % 63 < 63 := by omega
  have hj : 0 ≤ IntKind.u64.wrap a2 % 31 ∧ IntKind.u64.wrap a2 % 31 < 31 := by omega
  have G1 := Lib.hid (fun fn => g1 fn a0 (IntKind.u64.wrap a2 % 63) h10 h11 hk.1 hk.2)
  have G2 := Lib.hid (fun fn => g2 fn a0 (IntKind.u64.wrap a2 % 63))
  have G3 := Lib.hid (fun fn => g3 fn a0 (IntKind.u64.wrap a2 % 31) h10 hj.1 hj.2)
  have G4 := Lib.hid (fun fn => g4 fn a0 (IntKind.u64.wrap a2 % 31) hj.1 hj.2)
  have F4 := Lib.hid (f4 a0 a1)
  have r1 := f1 a0 a1 h10 h11
  have r2 := f2 a0 a1 h10 h11 h20 h21
  have r3 := f3 a0 a1 h10 h11 h20 h21
  go_enter Try.func4, Try.ntmps4
  go_wp2_with (go_at_call 10; refine (lalu_w _ _ _ _ (by omega) (by omega) (by omega) (by omega) _).mono ?_; rintro e w' ⟨rfl, rfl⟩)
  clear r1 r2 r3
  go_loopw [8, 9] (fun i k wr => ∃ n : Nat, (i = .int .i64 0 ∨ i = .int .i64 1 ∨ i = .int .i64 2 ∨ i = .int .i64 3) ∧ wr = (w.alloc (.cells #[.int .i64 1, .int .i64 5, .int .i64 9] 3)).drewN n) (fun i _ _ => 3 - (intOf i).toNat)
  case atStart => exact ⟨0, .inl rfl, rfl⟩
  case round =>
    obtain ⟨n, hi, rfl⟩ := hrel
    rcases hi with rfl | rfl | rfl | rfl
    · have c1 := G1.out 1 (by omega)
      have c2 := G2.out 1 (by omega)
      have c3 := G3.out 1 (by omega)
      have c4 := G4.out 1 (by omega)
      have e1 := aluV_bd 1 false a0 (IntKind.u64.wrap a2 % 63) h10 h11
      have e2 := aluV_bd 1 true a0 (IntKind.u64.wrap a2 % 31) h10 h11
      go_wp2
      have s1 : IntKind.u64.wrap (IntKind.u64.wrap a2 % 63 + 1) = IntKind.u64.wrap a2 % 63 + 1 := by rw [IntKind.wrap_u64 (_ + _)]; omega
      have s2 : IntKind.u64.wrap (IntKind.u64.wrap a2 % 63 + 64) = IntKind.u64.wrap a2 % 63 + 64 := by rw [IntKind.wrap_u64 (_ + _)]; omega
      go_quiet ((go_at_call 10; exact q_add (fun W => lalu_w _ _ _ _ (by omega) (by omega) (by omega) (by omega) W) _ _ _))
      clear s1 s2
      go_wp2
      have s1 : IntKind.u64.wrap (IntKind.u64.wrap a2 % 31 + 1) = IntKind.u64.wrap a2 % 31 + 1 := by rw [IntKind.wrap_u64 (_ + _)]; omega
      have s2 : IntKind.u64.wrap (IntKind.u64.wrap a2 % 31 + 32) = IntKind.u64.wrap a2 % 31 + 32 := by rw [IntKind.wrap_u64 (_ + _)]; omega
      go_quiet ((go_at_call 10; exact q_add (fun W => lalu_w _ _ _ _ (by omega) (by omega) (by omega) (by omega) W) _ _ _))
      clear s1 s2
      go_wp2
      go_roundw
      case rel => exact ⟨_, .inr (.inl rfl), rfl⟩
      case measure => simp [intOf]
    · have c1 := G1.out 5 (by omega)
      have c2 := G2.out 5 (by omega)
      have c3 := G3.out 5 (by omega)
      have c4 := G4.out 5 (by omega)
      have e1 := aluV_bd 5 false a0 (IntKind.u64.wrap a2 % 63) h10 h11
      have e2 := aluV_bd 5 true a0 (IntKind.u64.wrap a2 % 31) h10 h11
      go_wp2
      have s1 : IntKind.u64.wrap (IntKind.u64.wrap a2 % 63 + 1) = IntKind.u64.wrap a2 % 63 + 1 := by rw [IntKind.wrap_u64 (_ + _)]; omega
      have s2 : IntKind.u64.wrap (IntKind.u64.wrap a2 % 63 + 64) = IntKind.u64.wrap a2 % 63 + 64 := by rw [IntKind.wrap_u64 (_ + _)]; omega
      go_quiet ((go_at_call 10; exact q_add (fun W => lalu_w _ _ _ _ (by omega) (by omega) (by omega) (by omega) W) _ _ _))
      clear s1 s2
      go_wp2
      have s1 : IntKind.u64.wrap (IntKind.u64.wrap a2 % 31 + 1) = IntKind.u64.wrap a2 % 31 + 1 := by rw [IntKind.wrap_u64 (_ + _)]; omega
      have s2 : IntKind.u64.wrap (IntKind.u64.wrap a2 % 31 + 32) = IntKind.u64.wrap a2 % 31 + 32 := by rw [IntKind.wrap_u64 (_ + _)]; omega
      go_quiet ((go_at_call 10; exact q_add (fun W => lalu_w _ _ _ _ (by omega) (by omega) (by omega) (by omega) W) _ _ _))
      clear s1 s2
      go_wp2
      go_roundw
      case rel => exact ⟨_, .inr (.inr (.inl rfl)), rfl⟩
      case measure => simp [intOf]
    · have c1 := G1.out 9 (by omega)
      have c2 := G2.out 9 (by omega)
      have c3 := G3.out 9 (by omega)
      have c4 := G4.out 9 (by omega)
      have e1 := aluV_bd 9 false a0 (IntKind.u64.wrap a2 % 63) h10 h11
      have e2 := aluV_bd 9 true a0 (IntKind.u64.wrap a2 % 31) h10 h11
      go_wp2
      have s1 : IntKind.u64.wrap (IntKind.u64.wrap a2 % 63 + 1) = IntKind.u64.wrap a2 % 63 + 1 := by rw [IntKind.wrap_u64 (_ + _)]; omega
      have s2 : IntKind.u64.wrap (IntKind.u64.wrap a2 % 63 + 64) = IntKind.u64.wrap a2 % 63 + 64 := by rw [IntKind.wrap_u64 (_ + _)]; omega
      go_quiet ((go_at_call 10; exact q_add (fun W => lalu_w _ _ _ _ (by omega) (by omega) (by omega) (by omega) W) _ _ _))
      clear s1 s2
      go_wp2
      have s1 : IntKind.u64.wrap (IntKind.u64.wrap a2 % 31 + 1) = IntKind.u64.wrap a2 % 31 + 1 := by rw [IntKind.wrap_u64 (_ + _)]; omega
      have s2 : IntKind.u64.wrap (IntKind.u64.wrap a2 % 31 + 32) = IntKind.u64.wrap a2 % 31 + 32 := by rw [IntKind.wrap_u64 (_ + _)]; omega
      go_quiet ((go_at_call 10; exact q_add (fun W => lalu_w _ _ _ _ (by omega) (by omega) (by omega) (by omega) W) _ _ _))
      clear s1 s2
      go_wp2
      go_roundw
      case rel => exact ⟨_, .inr (.inr (.inr rfl)), rfl⟩
      case measure => simp [intOf]
    · have c4 := F4.out
      go_wp2_with (first | (go_at_call 10; refine (lalu_w _ _ _ _ (by omega) (by omega) (by omega) (by omega) _).mono ?_; rintro e w' ⟨rfl, rfl⟩) | (go_at_call 11; refine (ext_w _ _ (by omega) (by omega) _).mono ?_; rintro e w' ⟨rfl, rfl⟩) | (go_at_call 9; refine (known_w _).mono ?_; rintro e w' ⟨rfl, rfl⟩))
      go_ret
      exact ⟨rfl, grown_n ((Grown.refl _).alloc _ _) _⟩
end Go.Proofs.Ytglhfdamgblhdaa.wordBack
