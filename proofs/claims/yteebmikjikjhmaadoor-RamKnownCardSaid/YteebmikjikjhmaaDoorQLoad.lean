/-
  The document's memory: numbers read and laid. No condition.
-/
import Derived.Test.YteebmikjikjhmaaDoorQRef
namespace Go.Proofs.YteebmikjikjhmaaDoor
open Go.ChangeShapes Go.WideShapes Go.ChangeAt Go.RowKit
set_option linter.unusedVariables false
set_option linter.unusedSimpArgs false
theorem pow256_7 (n : Nat) (h : n ≤ 7) : (256 : Int) ^ n ≤ 72057594037927936 := by
  rcases (show n = 0 ∨ n = 1 ∨ n = 2 ∨ n = 3 ∨ n = 4 ∨ n = 5 ∨ n = 6 ∨ n = 7 by omega) with h | h | h | h | h | h | h | h <;> subst h <;> decide
theorem szB_nat (size : Nat) (h : szB size = true) : size = 1 ∨ size = 2 ∨ size = 4 ∨ size = 8 := by
  simp only [szB, Bool.or_eq_true, beq_iff_eq] at h; omega
set_option maxHeartbeats 4000000 in
theorem rload_yes {w : World} {g gb gt : Nat} {B : List Int} {T : List Bool} (m : RM w g gb gt B T) (off size : Nat) (hs : szB size = true) (hn : off + size ≤ B.length) :
    Calls Tryd.prog 18 #[.pointer (some ⟨g, 0, none⟩), .int .i64 (off : Int), .int .i64 (size : Int)] w fun e w' => e = .returned (.tuple #[.int .u64 (numB B off size), .bool true]) ∧ w = w' := by
  have c0 := m.c0
  have hlim := m.lim
  have hsz := szB_nat size hs
  have HS := Lib.hid hs
  have hth : thB B.length off size = true := by simp [thB]; omega
  have HT := Lib.hid hth
  have HM := Lib.hid m
  clear m hs hth
  go_enter Tryd.func18, Tryd.ntmps18
  go_wp2_with (first | (go_at_call 30; (with_reducible refine (rsized_w size true HS.out _).mono ?_); rintro e' w1 ⟨rfl, rfl⟩) | (go_at_call 31; (with_reducible refine (rthere_w HM.out off size (by omega) (by omega) true HT.out).mono ?_); rintro e' w1 ⟨rfl, rfl⟩))
  go_loop [8, 9] (fun v i => ∃ k : Nat, k ≤ size ∧ i = .int .i64 ((k : Int) - 1) ∧ v = .int .u64 (numB B (off + k) (size - k))) (fun _ i => (intOf i + 1).toNat)
  case atStart => exact ⟨size, Nat.le_refl _, rfl, by rw [Nat.sub_self]; rfl⟩
  case round =>
    obtain ⟨k, hk, rfl, rfl⟩ := hrel
    rcases k with _ | j
    · rw [show ((0 : Nat) : Int) - 1 = -1 from rfl, Nat.add_zero, Nat.sub_zero]
      go_wp2
      go_ret2
      exact ⟨rfl, rfl⟩
    · rw [show ((j + 1 : Nat) : Int) - 1 = (j : Int) by omega]
      have hb := ByB.getD HM.out.byb (off + j)
      have hc := HM.out.byte (off + j) (by omega)
      have hV := numB_bd HM.out.byb (off + (j + 1)) (size - (j + 1))
      have hp := pow256_7 (size - (j + 1)) (by omega)
      have hst : numB B (off + j) (size - j) = numB B (off + (j + 1)) (size - (j + 1)) * 256 + B.getD (off + j) 0 := by
        rw [show size - j = (size - (j + 1)) + 1 by omega, numB, show off + j + 1 = off + (j + 1) by omega]; omega
      have HST := Lib.hid hst
      clear hst
      generalize numB B (off + (j + 1)) (size - (j + 1)) = V at *
      generalize B.getD (off + j) 0 = b at *
      generalize (256 : Int) ^ (size - (j + 1)) = p at *
      obtain ⟨hV0, hV1⟩ := hV
      obtain ⟨hb0, hb1⟩ := hb
      go_wp2
      go_round
      case rel => exact ⟨j, by omega, rfl, by rw [HST.out]⟩
      case measure => simp [intOf]
/-- Is there a number of that size? -/
def ldO (len : Nat) (off size : Int) : Bool := szB size && thB len off size
/-- The number that is told. -/
def ldN (B : List Int) (off size : Int) : Int := if ldO B.length off size = true then numB B off.toNat size.toNat else 0
theorem ldO_nat {len : Nat} {off size : Int} (h : ldO len off size = true) : ∃ o s : Nat, off = o ∧ size = s ∧ szB (s : Int) = true ∧ o + s ≤ len := by
  simp only [ldO, Bool.and_eq_true, thB, decide_eq_true_eq] at h
  obtain ⟨h1, h2, h3⟩ := h
  have hs := h1
  simp only [szB, Bool.or_eq_true, beq_iff_eq] at hs
  obtain ⟨o, rfl⟩ := Int.eq_ofNat_of_zero_le h2
  obtain ⟨s, rfl⟩ := Int.eq_ofNat_of_zero_le (show 0 ≤ size by omega)
  exact ⟨o, s, rfl, rfl, h1, by omega⟩
theorem ldO_mk (len o s : Nat) (hs : szB (s : Int) = true) (h : o + s ≤ len) : ldO len o s = true := by simp [ldO, hs, thB]; omega
theorem ldN_nat (B : List Int) (o s : Nat) (hs : szB (s : Int) = true) (h : o + s ≤ B.length) : ldN B o s = numB B o s := by
  rw [ldN, if_pos (ldO_mk _ o s hs h)]; rfl
theorem ldN_no {B : List Int} {off size : Int} (h : ldO B.length off size = false) : ldN B off size = 0 := by rw [ldN, if_neg (by rw [h]; simp)]
set_option maxHeartbeats 4000000 in
theorem rload_no {w : World} {g gb gt : Nat} {B : List Int} {T : List Bool} (m : RM w g gb gt B T) (off size : Int) (h : ldO B.length off size = false) :
    Calls Tryd.prog 18 #[.pointer (some ⟨g, 0, none⟩), .int .i64 off, .int .i64 size] w fun e w' => e = .returned (.tuple #[.int .u64 0, .bool false]) ∧ w = w' := by
  have HM := Lib.hid m
  clear m
  cases hs : szB size with
  | false =>
    have HS := Lib.hid hs
    clear hs h
    go_enter Tryd.func18, Tryd.ntmps18
    go_wp2_with (go_at_call 30; (with_reducible refine (rsized_w size false HS.out _).mono ?_); rintro e' w1 ⟨rfl, rfl⟩)
    go_ret2
    exact ⟨rfl, rfl⟩
  | true =>
    have ht : thB B.length off size = false := by rw [ldO, hs] at h; simpa using h
    have hz := hs
    simp only [szB, Bool.or_eq_true, beq_iff_eq] at hz
    have HS := Lib.hid hs
    have HT := Lib.hid ht
    clear hs h ht
    go_enter Tryd.func18, Tryd.ntmps18
    go_wp2_with (first | (go_at_call 30; (with_reducible refine (rsized_w size true HS.out _).mono ?_); rintro e' w1 ⟨rfl, rfl⟩) | (go_at_call 31; (with_reducible refine (rthere_w HM.out off size (by omega) (by omega) false HT.out).mono ?_); rintro e' w1 ⟨rfl, rfl⟩))
    go_ret2
    exact ⟨rfl, rfl⟩
/-- Load, of anything. -/
theorem rload_w {w : World} {g gb gt : Nat} {B : List Int} {T : List Bool} (m : RM w g gb gt B T) (off size : Int) :
    Calls Tryd.prog 18 #[.pointer (some ⟨g, 0, none⟩), .int .i64 off, .int .i64 size] w fun e w' => e = .returned (.tuple #[.int .u64 (ldN B off size), .bool (ldO B.length off size)]) ∧ w = w' := by
  cases h : ldO B.length off size with
  | false => rw [ldN_no h]; exact rload_no m off size h
  | true =>
    obtain ⟨o, s, rfl, rfl, hs, hn⟩ := ldO_nat h
    rw [ldN_nat B o s hs hn]
    exact rload_yes m o s hs hn
theorem pow2_8 (k : Nat) : (2 : Int) ^ (8 * k) = 256 ^ k := by rw [Int.pow_mul]; rfl
set_option maxHeartbeats 4000000 in
theorem rstore_yes {w : World} {g gb gt : Nat} {B : List Int} {T : List Bool} (m : RM w g gb gt B T) (off size : Nat) (hs : szB size = true) (hn : off + size ≤ B.length) (v : Int) (v0 : 0 ≤ v) (v1 : v < 18446744073709551616) :
    Calls Tryd.prog 23 #[.pointer (some ⟨g, 0, none⟩), .int .i64 (off : Int), .int .i64 (size : Int), .int .u64 v] w fun e w' => e = .returned (.bool true) ∧ RM w' g gb gt (layB B off v size) (unT T off size) ∧ Fr w w' (fun i => i = gb ∨ i = gt) := by
  have hlim := m.lim
  have hlen := m.len
  have hsz := szB_nat size hs
  have HS := Lib.hid hs
  have hth : thB B.length off size = true := by simp [thB]; omega
  have HT := Lib.hid hth
  have HM := Lib.hid m
  clear m hs hth
  go_enter Tryd.func23, Tryd.ntmps23
  go_wp2_with (first | (go_at_call 30; (with_reducible refine (rsized_w size true HS.out _).mono ?_); rintro e' w1 ⟨rfl, rfl⟩) | (go_at_call 31; (with_reducible refine (rthere_w HM.out off size (by omega) (by omega) true HT.out).mono ?_); rintro e' w1 ⟨rfl, rfl⟩))
  go_loopw [9] (fun i wr => ∃ k : Nat, k ≤ size ∧ i = .int .i64 (k : Int) ∧ RM wr g gb gt (layB B off v k) (unT T off k) ∧ Fr w wr (fun i => i = gb ∨ i = gt)) (fun i _ => size - (intOf i).toNat)
  case atStart => exact ⟨0, Nat.zero_le _, rfl, HM.out, Fr.refl _ _⟩
  case round =>
    obtain ⟨k, hk, rfl, hm, hf⟩ := hrel
    obtain ⟨n1, n2, n3⟩ := hm.ne
    have c0 := hm.c0
    have c1 := hm.c1
    rw [layB_len] at c0
    rw [unT_len] at c1
    have z0 := hm.bytes.frozen (off + k)
    have z1 := hm.tags.frozen ((off + k) / 16)
    have HM2 := Lib.hid hm
    have HF := Lib.hid hf
    have hq0 := hm.byte (off + k)
    have hq1 := hm.tag ((off + k) / 16)
    rw [layB_len] at hq0
    rw [unT_len] at hq1
    clear hm hf
    by_cases hlt : k < size
    · have h8 : (8 * (k : Int)) % 18446744073709551616 = 8 * (k : Int) := by omega
      have q0 := hq0 (by omega)
      have q1 := hq1 (by omega)
      clear hq0 hq1
      go_wp2
      go_roundw
      case rel =>
        have h := (HM2.out.setB (off + k) (v / 2 ^ (8 * k) % 256) ⟨Int.emod_nonneg _ (by decide), Int.emod_lt_of_pos _ (by decide)⟩).setT ((off + k) / 16) false
        refine ⟨k + 1, by omega, by go_num, ?_, (HF.out.setCell (.inr (.inl rfl)) _).setCell (.inr (.inr rfl)) _⟩
        rw [layB, unT, ← pow2_8 k]
        exact h
      case measure => simp [intOf]; omega
    · clear hq0 hq1
      obtain rfl : k = size := by omega
      go_wp2
      go_ret
      exact ⟨rfl, HM2.out, HF.out⟩
end Go.Proofs.YteebmikjikjhmaaDoor
