/-
  A memory's numbers, tags, capabilities: the plain part. No condition.
-/
import Derived.Test.YtikibfpfieoabaaQSpec
import Derived.Test.YtikibfpfieoabaaQFr
import Derived.Test.YtikibfpfieoabaaQInts
import Derived.LoopTactic
import Derived.Deep.RegionLaw
import Derived.Deep.OwnRows
import Derived.RegionTactic
namespace Go.Proofs.Ytikibfpfieoabaa
open Go.ChangeShapes Go.WideShapes Go.ChangeAt Go.RowKit
set_option linter.unusedVariables false
set_option linter.unusedSimpArgs false
theorem pow256_7 (n : Nat) (h : n ≤ 7) : (256 : Int) ^ n ≤ 72057594037927936 := by
  rcases (show n = 0 ∨ n = 1 ∨ n = 2 ∨ n = 3 ∨ n = 4 ∨ n = 5 ∨ n = 6 ∨ n = 7 by omega) with h | h | h | h | h | h | h | h <;> subst h <;> decide
theorem szB_nat (size : Nat) (h : szB size = true) : size = 1 ∨ size = 2 ∨ size = 4 ∨ size = 8 := by
  simp only [szB, Bool.or_eq_true, beq_iff_eq] at h; omega
/-- Is there a number of that size? -/
def ldO (len : Nat) (off size : Int) : Bool := szB size && thB len off size
/-- The number that is told. -/
def ldN (B : List Int) (off size : Int) : Int := if ldO B.length off size = true then numB B off.toNat size.toNat else 0
theorem ldO_nat {len : Nat} {off size : Int} (h : ldO len off size = true) : ∃ o s : Nat, off = o ∧ size = s ∧ szB (s : Int) = true ∧ o + s ≤ len := by
  simp only [ldO, Bool.and_eq_true, thB, decide_eq_true_eq] at h
  obtain ⟨h1, h2, h3⟩ := h
  have hs := h1
  simp only [szB, Bool.or_eq_true, beq_iff_eq] at hs
  obtain ⟨o, rfl⟩ := Int.eq_ofNat_of_zero_le h2
  obtain ⟨s, rfl⟩ := Int.eq_ofNat_of_zero_le (show 0 ≤ size by omega)
  exact ⟨o, s, rfl, rfl, h1, by omega⟩
theorem ldO_mk (len o s : Nat) (hs : szB (s : Int) = true) (h : o + s ≤ len) : ldO len o s = true := by simp [ldO, hs, thB]; omega
theorem ldN_nat (B : List Int) (o s : Nat) (hs : szB (s : Int) = true) (h : o + s ≤ B.length) : ldN B o s = numB B o s := by
  rw [ldN, if_pos (ldO_mk _ o s hs h)]; rfl
theorem ldN_no {B : List Int} {off size : Int} (h : ldO B.length off size = false) : ldN B off size = 0 := by rw [ldN, if_neg (by rw [h]; simp)]
theorem pow2_8 (k : Nat) : (2 : Int) ^ (8 * k) = 256 ^ k := by rw [Int.pow_mul]; rfl
/-- Bytes, and tags, behind a store. -/
def sB (B : List Int) (off size v : Int) : List Int := if ldO B.length off size = true then layB B off.toNat v size.toNat else B
def sT (len : Nat) (T : List Bool) (off size : Int) : List Bool := if ldO len off size = true then unT T off.toNat size.toNat else T
theorem sB_nat (B : List Int) (o s : Nat) (v : Int) (hs : szB (s : Int) = true) (h : o + s ≤ B.length) : sB B o s v = layB B o v s := by rw [sB, if_pos (ldO_mk _ o s hs h)]; rfl
theorem sT_nat (len : Nat) (T : List Bool) (o s : Nat) (hs : szB (s : Int) = true) (h : o + s ≤ len) : sT len T o s = unT T o s := by rw [sT, if_pos (ldO_mk _ o s hs h)]; rfl
theorem sB_no {B : List Int} {off size : Int} (v : Int) (h : ldO B.length off size = false) : sB B off size v = B := by rw [sB, if_neg (by rw [h]; simp)]
theorem sT_no {len : Nat} (T : List Bool) {off size : Int} (h : ldO len off size = false) : sT len T off size = T := by rw [sT, if_neg (by rw [h]; simp)]
theorem sB_len (B : List Int) (off size v : Int) : (sB B off size v).length = B.length := by
  unfold sB; split
  · exact layB_len _ _ _ _
  · rfl
theorem sT_len (len : Nat) (T : List Bool) (off size : Int) : (sT len T off size).length = T.length := by
  unfold sT; split
  · exact unT_len _ _ _
  · rfl
/-- Is there a granule's place? -/
def cpO (len : Nat) (off : Int) : Bool := thB len off 16 && (off % 16 == 0)
theorem cpO_nat {len : Nat} {off : Int} (h : cpO len off = true) : ∃ q : Nat, off = ((16 * q : Nat) : Int) ∧ 16 * q + 16 ≤ len := by
  simp only [cpO, Bool.and_eq_true, thB, decide_eq_true_eq, beq_iff_eq] at h
  obtain ⟨⟨h1, h2⟩, h3⟩ := h
  obtain ⟨o, rfl⟩ := Int.eq_ofNat_of_zero_le h1
  exact ⟨o / 16, by omega, by omega⟩
theorem cpO_mk (len q : Nat) (h : 16 * q + 16 ≤ len) : cpO len ((16 * q : Nat) : Int) = true := by simp [cpO, thB]; omega
def cpT (T : List Bool) (len : Nat) (off : Int) : Bool := if cpO len off = true then T.getD (off.toNat / 16) false else false
def cpA (B : List Int) (off : Int) : Int := if cpO B.length off = true then numB B off.toNat 8 else 0
def cpM (B : List Int) (off : Int) : Int := if cpO B.length off = true then numB B (off.toNat + 8) 8 else 0
/-- Bytes, and tags, behind a granule's store. -/
def cB (B : List Int) (off a m : Int) : List Int := if cpO B.length off = true then layB (layB B off.toNat a 8) (off.toNat + 8) m 8 else B
def cT (len : Nat) (T : List Bool) (off : Int) (b : Bool) : List Bool := if cpO len off = true then T.set (off.toNat / 16) b else T
theorem cB_len (B : List Int) (off a m : Int) : (cB B off a m).length = B.length := by
  unfold cB; split
  · rw [layB_len, layB_len]
  · rfl
theorem cT_len (len : Nat) (T : List Bool) (off : Int) (b : Bool) : (cT len T off b).length = T.length := by
  unfold cT; split
  · exact List.length_set
  · rfl
theorem unT_gran (T : List Bool) (q : Nat) (h : q < T.length) (b : Bool) : (unT (unT T (16 * q) 8) (16 * q + 8) 8).set q b = T.set q b := by
  apply list_ext _ _ false (by simp [unT_len])
  intro j hj
  rw [getD_set _ _ _ _ _ (by rw [unT_len, unT_len]; exact h), getD_set _ _ _ _ _ h]
  by_cases e : q = j
  · rw [if_pos e, if_pos e]
  · rw [if_neg e, if_neg e, unT_at _ _ _ (by rw [unT_len]; omega), unT_at _ _ _ (by omega)]
    have t1 : decide (0 < 8 ∧ (16 * q + 8) / 16 ≤ j ∧ j ≤ (16 * q + 8 + 8 - 1) / 16) = false := by simp; omega
    have t2 : decide (0 < 8 ∧ (16 * q) / 16 ≤ j ∧ j ≤ (16 * q + 8 - 1) / 16) = false := by simp; omega
    rw [t1, t2]; simp
/-- Is there memory of so many bytes? -/
def nwO (n : Int) : Bool := decide (4096 ≤ n) && decide (n ≤ 65536) && (n % 4096 == 0)
theorem u8_info : (Try.prog.info? 5).map (fun i => (i.zero, i.size, i.bytes)) = some (some (.int .u8 0), 1, 1) := by kernel_rfl
theorem bool_info : (Try.prog.info? 4).map (fun i => (i.zero, i.size, i.bytes)) = some (some (.bool false), 1, 1) := by kernel_rfl
theorem made_list (z : Value) (n : Nat) : (madeCells #[z] n) = (List.replicate n z).toArray := by
  rw [← toList_madeCells_one z n]
theorem three (w : World) (t1 t2 t3 : TypeId) (c1 c2 c3 : List Value) : Blk (((w.alloc (.cells c1.toArray t1)).alloc (.cells c2.toArray t2)).alloc (.cells c3.toArray t3)).drew w.heap.size t1 c1 ∧ Blk (((w.alloc (.cells c1.toArray t1)).alloc (.cells c2.toArray t2)).alloc (.cells c3.toArray t3)).drew (w.heap.size + 1) t2 c2 ∧ Blk (((w.alloc (.cells c1.toArray t1)).alloc (.cells c2.toArray t2)).alloc (.cells c3.toArray t3)).drew (w.heap.size + 1 + 1) t3 c3 := by
  have a := Blk.new w t1 c1
  have b := Blk.new (w.alloc (.cells c1.toArray t1)) t2 c2
  have c := Blk.new ((w.alloc (.cells c1.toArray t1)).alloc (.cells c2.toArray t2)) t3 c3
  simp only [World.size_alloc] at b c
  exact ⟨((a.alloc _).alloc _).drew, (b.alloc _).drew, c.drew⟩
end Go.Proofs.Ytikibfpfieoabaa
