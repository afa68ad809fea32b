/-
  The document's memory: stores of anything, capabilities, tags, new memory. No condition.
-/
import Derived.Test.YteebmikjikjhmaaDoorQLoad
import Derived.Test.YteebmikjikjhmaaDoorQInts
namespace Go.Proofs.YteebmikjikjhmaaDoor
open Go.ChangeShapes Go.WideShapes Go.ChangeAt Go.RowKit
set_option linter.unusedVariables false
set_option linter.unusedSimpArgs false
/-- Bytes, and tags, behind a store. -/
def sB (B : List Int) (off size v : Int) : List Int := if ldO B.length off size = true then layB B off.toNat v size.toNat else B
def sT (len : Nat) (T : List Bool) (off size : Int) : List Bool := if ldO len off size = true then unT T off.toNat size.toNat else T
theorem sB_nat (B : List Int) (o s : Nat) (v : Int) (hs : szB (s : Int) = true) (h : o + s ≤ B.length) : sB B o s v = layB B o v s := by rw [sB, if_pos (ldO_mk _ o s hs h)]; rfl
theorem sT_nat (len : Nat) (T : List Bool) (o s : Nat) (hs : szB (s : Int) = true) (h : o + s ≤ len) : sT len T o s = unT T o s := by rw [sT, if_pos (ldO_mk _ o s hs h)]; rfl
theorem sB_no {B : List Int} {off size : Int} (v : Int) (h : ldO B.length off size = false) : sB B off size v = B := by rw [sB, if_neg (by rw [h]; simp)]
theorem sT_no {len : Nat} (T : List Bool) {off size : Int} (h : ldO len off size = false) : sT len T off size = T := by rw [sT, if_neg (by rw [h]; simp)]
theorem sB_len (B : List Int) (off size v : Int) : (sB B off size v).length = B.length := by
  unfold sB; split
  · exact layB_len _ _ _ _
  · rfl
theorem sT_len (len : Nat) (T : List Bool) (off size : Int) : (sT len T off size).length = T.length := by
  unfold sT; split
  · exact unT_len _ _ _
  · rfl
set_option maxHeartbeats 4000000 in
theorem rstore_no {w : World} {g gb gt : Nat} {B : List Int} {T : List Bool} (m : RM w g gb gt B T) (off size v : Int) (h : ldO B.length off size = false) :
    Calls Tryd.prog 23 #[.pointer (some ⟨g, 0, none⟩), .int .i64 off, .int .i64 size, .int .u64 v] w fun e w' => e = .returned (.bool false) ∧ w = w' := by
  have HM := Lib.hid m
  clear m
  cases hs : szB size with
  | false =>
    have HS := Lib.hid hs
    clear hs h
    go_enter Tryd.func23, Tryd.ntmps23
    go_wp2_with (go_at_call 30; (with_reducible refine (rsized_w size false HS.out _).mono ?_); rintro e' w1 ⟨rfl, rfl⟩)
    go_ret
    exact ⟨rfl, rfl⟩
  | true =>
    have ht : thB B.length off size = false := by rw [ldO, hs] at h; simpa using h
    have hz := hs
    simp only [szB, Bool.or_eq_true, beq_iff_eq] at hz
    have HS := Lib.hid hs
    have HT := Lib.hid ht
    clear hs h ht
    go_enter Tryd.func23, Tryd.ntmps23
    go_wp2_with (first | (go_at_call 30; (with_reducible refine (rsized_w size true HS.out _).mono ?_); rintro e' w1 ⟨rfl, rfl⟩) | (go_at_call 31; (with_reducible refine (rthere_w HM.out off size (by omega) (by omega) false HT.out).mono ?_); rintro e' w1 ⟨rfl, rfl⟩))
    go_ret
    exact ⟨rfl, rfl⟩
/-- Store, of anything. -/
theorem rstore_w {w : World} {g gb gt : Nat} {B : List Int} {T : List Bool} (m : RM w g gb gt B T) (off size v : Int) (v0 : 0 ≤ v) (v1 : v < 18446744073709551616) :
    Calls Tryd.prog 23 #[.pointer (some ⟨g, 0, none⟩), .int .i64 off, .int .i64 size, .int .u64 v] w fun e w' => e = .returned (.bool (ldO B.length off size)) ∧ RM w' g gb gt (sB B off size v) (sT B.length T off size) ∧ Fr w w' (fun i => i = gb ∨ i = gt) := by
  cases h : ldO B.length off size with
  | false =>
    rw [sB_no v h, sT_no T h]
    exact (rstore_no m off size v h).mono fun e w' x => by obtain ⟨rfl, rfl⟩ := x; exact ⟨rfl, m, Fr.refl _ _⟩
  | true =>
    obtain ⟨o, s, rfl, rfl, hs, hn⟩ := ldO_nat h
    rw [sB_nat B o s v hs hn, sT_nat _ T o s hs hn]
    exact rstore_yes m o s hs hn v v0 v1
/-- Is there a granule's place? -/
def cpO (len : Nat) (off : Int) : Bool := thB len off 16 && (off % 16 == 0)
theorem cpO_nat {len : Nat} {off : Int} (h : cpO len off = true) : ∃ q : Nat, off = ((16 * q : Nat) : Int) ∧ 16 * q + 16 ≤ len := by
  simp only [cpO, Bool.and_eq_true, thB, decide_eq_true_eq, beq_iff_eq] at h
  obtain ⟨⟨h1, h2⟩, h3⟩ := h
  obtain ⟨o, rfl⟩ := Int.eq_ofNat_of_zero_le h1
  exact ⟨o / 16, by omega, by omega⟩
theorem cpO_mk (len q : Nat) (h : 16 * q + 16 ≤ len) : cpO len ((16 * q : Nat) : Int) = true := by simp [cpO, thB]; omega
def cpT (T : List Bool) (len : Nat) (off : Int) : Bool := if cpO len off = true then T.getD (off.toNat / 16) false else false
def cpA (B : List Int) (off : Int) : Int := if cpO B.length off = true then numB B off.toNat 8 else 0
def cpM (B : List Int) (off : Int) : Int := if cpO B.length off = true then numB B (off.toNat + 8) 8 else 0
theorem rload_at {w : World} {g gb gt : Nat} {B : List Int} {T : List Bool} (m : RM w g gb gt B T) (o : Nat) (h : o + 8 ≤ B.length) (off : Int) (e : off = (o : Int)) :
    Calls Tryd.prog 18 #[.pointer (some ⟨g, 0, none⟩), .int .i64 off, .int .i64 8] w fun e w' => e = .returned (.tuple #[.int .u64 (numB B o 8), .bool true]) ∧ w = w' := by
  subst e; exact rload_yes m o 8 (by decide) h
set_option maxHeartbeats 4000000 in
theorem rloadcap_yes {w : World} {g gb gt : Nat} {B : List Int} {T : List Bool} (m : RM w g gb gt B T) (q : Nat) (h : 16 * q + 16 ≤ B.length) :
    Calls Tryd.prog 24 #[.pointer (some ⟨g, 0, none⟩), .int .i64 ((16 * q : Nat) : Int)] w fun e w' => e = .returned (.tuple #[.bool (T.getD q false), .int .u64 (numB B (16 * q) 8), .int .u64 (numB B (16 * q + 8) 8), .bool true]) ∧ w = w' := by
  have c1 := m.c1
  have hlim := m.lim
  have hlen := m.len
  have ct := m.tag q (by omega)
  have HT := Lib.hid (show thB B.length ((16 * q : Nat) : Int) 16 = true by simp [thB]; omega)
  have HM := Lib.hid m
  have e8 : (((16 * q : Nat) : Int) % 16 != 0) = false := by simp
  have e9 : (((16 * q : Nat) : Int).tmod 16 != 0) = false := by rw [Int.tmod_eq_emod_of_nonneg (by omega)]; exact e8
  have hoq : (16 * q) / 16 = q := by omega
  clear m
  generalize ho : 16 * q = o at *
  have HO := Lib.hid ho
  clear ho
  go_enter Tryd.func24, Tryd.ntmps24
  go_wp2_with (first | (go_at_call 31; (with_reducible refine (rthere_w HM.out o 16 (by omega) (by omega) true HT.out).mono ?_); rintro e' w1 ⟨rfl, rfl⟩) | (go_at_call 18; (with_reducible refine (rload_at HM.out o (by omega) _ (by rfl)).mono ?_); rintro e' w1 ⟨rfl, rfl⟩) | (go_at_call 18; (with_reducible refine (rload_at HM.out (o + 8) (by omega) _ (by omega)).mono ?_); rintro e' w1 ⟨rfl, rfl⟩))
  refine bodyPost_ret (v := .tuple #[.bool (T.getD q false), .int .u64 (numB B o 8), .int .u64 (numB B (o + 8) 8), .bool true]) ?_ rfl ⟨rfl, rfl⟩
  simp [results, Tryd.results24, go_sem]
set_option maxHeartbeats 4000000 in
theorem rloadcap_no {w : World} {g gb gt : Nat} {B : List Int} {T : List Bool} (m : RM w g gb gt B T) (off : Int) (h : cpO B.length off = false) :
    Calls Tryd.prog 24 #[.pointer (some ⟨g, 0, none⟩), .int .i64 off] w fun e w' => e = .returned (.tuple #[.bool false, .int .u64 0, .int .u64 0, .bool false]) ∧ w = w' := by
  have HM := Lib.hid m
  clear m
  cases ht : thB B.length off 16 with
  | false =>
    have HT := Lib.hid ht
    clear ht h
    go_enter Tryd.func24, Tryd.ntmps24
    go_wp2_with (go_at_call 31; (with_reducible refine (rthere_w HM.out off 16 (by omega) (by omega) false HT.out).mono ?_); rintro e' w1 ⟨rfl, rfl⟩)
    refine bodyPost_ret (v := .tuple #[.bool false, .int .u64 0, .int .u64 0, .bool false]) ?_ rfl ⟨rfl, rfl⟩
    simp [results, Tryd.results24, go_sem]
  | true =>
    have hq : (off % 16 == 0) = false := by rw [cpO, ht] at h; simpa using h
    have h0 : 0 ≤ off := by simp only [thB, Bool.and_eq_true, decide_eq_true_eq] at ht; exact ht.1
    have e8 : (off % 16 != 0) = true := by simp at hq ⊢; omega
    have e9 : (off.tmod 16 != 0) = true := by rw [Int.tmod_eq_emod_of_nonneg h0]; exact e8
    have HT := Lib.hid ht
    clear ht h hq
    go_enter Tryd.func24, Tryd.ntmps24
    go_wp2_with (go_at_call 31; (with_reducible refine (rthere_w HM.out off 16 (by omega) (by omega) true HT.out).mono ?_); rintro e' w1 ⟨rfl, rfl⟩)
    refine bodyPost_ret (v := .tuple #[.bool false, .int .u64 0, .int .u64 0, .bool false]) ?_ rfl ⟨rfl, rfl⟩
    simp [results, Tryd.results24, go_sem]
/-- LoadCap, of anything. -/
theorem rloadcap_w {w : World} {g gb gt : Nat} {B : List Int} {T : List Bool} (m : RM w g gb gt B T) (off : Int) :
    Calls Tryd.prog 24 #[.pointer (some ⟨g, 0, none⟩), .int .i64 off] w fun e w' => e = .returned (.tuple #[.bool (cpT T B.length off), .int .u64 (cpA B off), .int .u64 (cpM B off), .bool (cpO B.length off)]) ∧ w = w' := by
  unfold cpT cpA cpM
  cases h : cpO B.length off with
  | false => exact rloadcap_no m off h
  | true =>
    obtain ⟨q, rfl, hq⟩ := cpO_nat h
    simp only [if_true, Int.toNat_natCast, show 16 * q / 16 = q by omega]
    exact rloadcap_yes m q hq
theorem rstore_at {w : World} {g gb gt : Nat} {B : List Int} {T : List Bool} (m : RM w g gb gt B T) (o : Nat) (h : o + 8 ≤ B.length) (off : Int) (e : off = (o : Int)) (v : Int) (v0 : 0 ≤ v) (v1 : v < 18446744073709551616) :
    Calls Tryd.prog 23 #[.pointer (some ⟨g, 0, none⟩), .int .i64 off, .int .i64 8, .int .u64 v] w fun e w' => e = .returned (.bool true) ∧ RM w' g gb gt (layB B o v 8) (unT T o 8) ∧ Fr w w' (fun i => i = gb ∨ i = gt) := by
  subst e; exact rstore_yes m o 8 (by decide) h v v0 v1
/-- Bytes, and tags, behind a granule's store. -/
def cB (B : List Int) (off a m : Int) : List Int := if cpO B.length off = true then layB (layB B off.toNat a 8) (off.toNat + 8) m 8 else B
def cT (len : Nat) (T : List Bool) (off : Int) (b : Bool) : List Bool := if cpO len off = true then T.set (off.toNat / 16) b else T
theorem cB_len (B : List Int) (off a m : Int) : (cB B off a m).length = B.length := by
  unfold cB; split
  · rw [layB_len, layB_len]
  · rfl
theorem cT_len (len : Nat) (T : List Bool) (off : Int) (b : Bool) : (cT len T off b).length = T.length := by
  unfold cT; split
  · exact List.length_set
  · rfl
theorem unT_gran (T : List Bool) (q : Nat) (h : q < T.length) (b : Bool) : (unT (unT T (16 * q) 8) (16 * q + 8) 8).set q b = T.set q b := by
  apply list_ext _ _ false (by simp [unT_len])
  intro j hj
  rw [getD_set _ _ _ _ _ (by rw [unT_len, unT_len]; exact h), getD_set _ _ _ _ _ h]
  by_cases e : q = j
  · rw [if_pos e, if_pos e]
  · rw [if_neg e, if_neg e, unT_at _ _ _ (by rw [unT_len]; omega), unT_at _ _ _ (by omega)]
    have t1 : decide (0 < 8 ∧ (16 * q + 8) / 16 ≤ j ∧ j ≤ (16 * q + 8 + 8 - 1) / 16) = false := by simp; omega
    have t2 : decide (0 < 8 ∧ (16 * q) / 16 ≤ j ∧ j ≤ (16 * q + 8 - 1) / 16) = false := by simp; omega
    rw [t1, t2]; simp
set_option maxHeartbeats 4000000 in
theorem rstorecap_yes {w : World} {g gb gt : Nat} {B : List Int} {T : List Bool} (m : RM w g gb gt B T) (q : Nat) (h : 16 * q + 16 ≤ B.length) (b : Bool) (a d : Int) (a0 : 0 ≤ a) (a1 : a < 18446744073709551616) (d0 : 0 ≤ d) (d1 : d < 18446744073709551616) :
    Calls Tryd.prog 25 #[.pointer (some ⟨g, 0, none⟩), .int .i64 ((16 * q : Nat) : Int), .bool b, .int .u64 a, .int .u64 d] w fun e w' => e = .returned (.bool true) ∧ RM w' g gb gt (layB (layB B (16 * q) a 8) (16 * q + 8) d 8) (T.set q b) ∧ Fr w w' (fun i => i = gb ∨ i = gt) := by
  have hlim := m.lim
  have hlen := m.len
  have hTq : q < T.length := by omega
  have HT := Lib.hid (show thB B.length ((16 * q : Nat) : Int) 16 = true by simp [thB]; omega)
  have HG := Lib.hid (unT_gran T q hTq b)
  have HM := Lib.hid m
  have e8 : (((16 * q : Nat) : Int) % 16 != 0) = false := by simp
  have e9 : (((16 * q : Nat) : Int).tmod 16 != 0) = false := by rw [Int.tmod_eq_emod_of_nonneg (by omega)]; exact e8
  have hoq : (16 * q) / 16 = q := by omega
  clear m
  generalize ho : 16 * q = o at *
  have HO := Lib.hid ho
  clear ho
  go_enter Tryd.func25, Tryd.ntmps25
  go_wp2_with (first | (go_at_call 31; (with_reducible refine (rthere_w HM.out o 16 (by omega) (by omega) true HT.out).mono ?_); rintro e' w1 ⟨rfl, rfl⟩) | (go_at_call 23; (with_reducible refine (rstore_at HM.out o (by omega) _ (by rfl) a a0 a1).mono ?_); rintro e' w1 ⟨rfl, m1, f1⟩; have HM1 := Lib.hid m1; have HF1 := Lib.hid f1; clear m1 f1) | (go_at_call 23; (with_reducible refine (rstore_at HM1.out (o + 8) (by rw [layB_len]; omega) _ (by omega) d d0 d1).mono ?_); rintro e' w2 ⟨rfl, m2, f2⟩; have c1 := m2.c1; rw [unT_len, unT_len] at c1; have ct := m2.tag q (by rw [unT_len, unT_len]; exact hTq); have z1 := m2.tags.frozen q; have HM2 := Lib.hid m2; have HF2 := Lib.hid f2; clear m2 f2))
  go_ret
  refine ⟨rfl, ?_, (HF1.out.trans HF2.out (fun _ _ x => x)).setCell (.inr (.inr rfl)) _⟩
  have h := HM2.out.setT q b
  rw [HG.out] at h
  exact h
set_option maxHeartbeats 4000000 in
theorem rstorecap_no {w : World} {g gb gt : Nat} {B : List Int} {T : List Bool} (m : RM w g gb gt B T) (off : Int) (b : Bool) (a d : Int) (h : cpO B.length off = false) :
    Calls Tryd.prog 25 #[.pointer (some ⟨g, 0, none⟩), .int .i64 off, .bool b, .int .u64 a, .int .u64 d] w fun e w' => e = .returned (.bool false) ∧ w = w' := by
  have HM := Lib.hid m
  clear m
  cases ht : thB B.length off 16 with
  | false =>
    have HT := Lib.hid ht
    clear ht h
    go_enter Tryd.func25, Tryd.ntmps25
    go_wp2_with (go_at_call 31; (with_reducible refine (rthere_w HM.out off 16 (by omega) (by omega) false HT.out).mono ?_); rintro e' w1 ⟨rfl, rfl⟩)
    go_ret
    exact ⟨rfl, rfl⟩
  | true =>
    have hq : (off % 16 == 0) = false := by rw [cpO, ht] at h; simpa using h
    have h0 : 0 ≤ off := by simp only [thB, Bool.and_eq_true, decide_eq_true_eq] at ht; exact ht.1
    have e8 : (off % 16 != 0) = true := by simp at hq ⊢; omega
    have e9 : (off.tmod 16 != 0) = true := by rw [Int.tmod_eq_emod_of_nonneg h0]; exact e8
    have HT := Lib.hid ht
    clear ht h hq
    go_enter Tryd.func25, Tryd.ntmps25
    go_wp2_with (go_at_call 31; (with_reducible refine (rthere_w HM.out off 16 (by omega) (by omega) true HT.out).mono ?_); rintro e' w1 ⟨rfl, rfl⟩)
    go_ret
    exact ⟨rfl, rfl⟩
/-- StoreCap, of anything. -/
theorem rstorecap_w {w : World} {g gb gt : Nat} {B : List Int} {T : List Bool} (m : RM w g gb gt B T) (off : Int) (b : Bool) (a d : Int) (a0 : 0 ≤ a) (a1 : a < 18446744073709551616) (d0 : 0 ≤ d) (d1 : d < 18446744073709551616) :
    Calls Tryd.prog 25 #[.pointer (some ⟨g, 0, none⟩), .int .i64 off, .bool b, .int .u64 a, .int .u64 d] w fun e w' => e = .returned (.bool (cpO B.length off)) ∧ RM w' g gb gt (cB B off a d) (cT B.length T off b) ∧ Fr w w' (fun i => i = gb ∨ i = gt) := by
  unfold cB cT
  cases h : cpO B.length off with
  | false => exact (rstorecap_no m off b a d h).mono fun e w' x => by obtain ⟨rfl, rfl⟩ := x; exact ⟨rfl, m, Fr.refl _ _⟩
  | true =>
    obtain ⟨q, rfl, hq⟩ := cpO_nat h
    simp only [if_true, Int.toNat_natCast, show 16 * q / 16 = q by omega]
    exact rstorecap_yes m q hq b a d a0 a1 d0 d1
end Go.Proofs.YteebmikjikjhmaaDoor
