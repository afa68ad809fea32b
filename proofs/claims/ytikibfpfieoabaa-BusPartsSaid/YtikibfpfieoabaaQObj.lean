/-
  The program's memory: bytes in a row, tags as bits of words; contracts of its inner calls. No condition.
-/
import Derived.Test.YtikibfpfieoabaaQCom
import Derived.Test.YtikibfpfieoabaaQBits
import Derived.Laws.BitsAllLaws
namespace Go.Proofs.Ytikibfpfieoabaa
open Go.ChangeShapes Go.WideShapes Go.ChangeAt Go.RowKit
set_option linter.unusedVariables false
set_option linter.unusedSimpArgs false
set_option maxRecDepth 4000
/-- The words' cells. -/
def wcs (W : List Nat) : List Value := W.map fun (x : Nat) => .int .u64 (x : Int)
/-- The program's memory: a slice and 64 words in a block, the bytes' row. -/
structure CM (w : World) (g gb : Nat) (B : List Int) (W : List Nat) (T : List Bool) : Prop where
  blk : Blk w g 83 (.slice (some ⟨gb, 0, none⟩) B.length B.length :: wcs W)
  bytes : Blk w gb 5 (B.map (.int .u8))
  wd : Words 64 64 W T
  byb : ByB B
  len : B.length = 16 * T.length
  lim : B.length ≤ 65536
theorem CM.ne {w : World} {g gb : Nat} {B : List Int} {W : List Nat} {T : List Bool} (m : CM w g gb B W T) : g ≠ gb := m.blk.ne_ m.bytes (by decide)
theorem CM.c0 {w : World} {g gb : Nat} {B : List Int} {W : List Nat} {T : List Bool} (m : CM w g gb B W T) : w.cell? ⟨g, 0, none⟩ = some (.slice (some ⟨gb, 0, none⟩) B.length B.length) := m.blk.at_ 0 _ rfl
theorem CM.word {w : World} {g gb : Nat} {B : List Int} {W : List Nat} {T : List Bool} (m : CM w g gb B W T) (i : Nat) (hi : i < 64) : w.cell? ⟨g, 1 + i, none⟩ = some (.int .u64 ((W.getD i 0 : Nat) : Int)) :=
  m.blk.at_ (1 + i) _ (by rw [Nat.add_comm, List.getElem?_cons_succ, wcs, List.getElem?_map, List.getD_eq_getElem?_getD, List.getElem?_eq_getElem (by rw [m.wd.len]; exact hi)]; rfl)
theorem CM.byte {w : World} {g gb : Nat} {B : List Int} {W : List Nat} {T : List Bool} (m : CM w g gb B W T) (i : Nat) (hi : i < B.length) : w.cell? ⟨gb, i, none⟩ = some (.int .u8 (B.getD i 0)) :=
  m.bytes.at_ i _ (by rw [List.getElem?_map, List.getD_eq_getElem?_getD, List.getElem?_eq_getElem hi]; rfl)
theorem CM.fr {w w' : World} {g gb : Nat} {B : List Int} {W : List Nat} {T : List Bool} {S : Nat → Prop} (m : CM w g gb B W T) (k : Fr w w' S) (h0 : ¬ S g) (h1 : ¬ S gb) : CM w' g gb B W T :=
  ⟨m.blk.fr k h0, m.bytes.fr k h1, m.wd, m.byb, m.len, m.lim⟩
theorem CM.drew {w : World} {g gb : Nat} {B : List Int} {W : List Nat} {T : List Bool} (m : CM w g gb B W T) : CM w.drew g gb B W T := ⟨m.blk, m.bytes, m.wd, m.byb, m.len, m.lim⟩
theorem CM.drewN {w : World} {g gb : Nat} {B : List Int} {W : List Nat} {T : List Bool} (m : CM w g gb B W T) (n : Nat) : CM (w.drewN n) g gb B W T := ⟨m.blk, m.bytes, m.wd, m.byb, m.len, m.lim⟩
theorem CM.below {w w' : World} {g gb : Nat} {B : List Int} {W : List Nat} {T : List Bool} (m : CM w g gb B W T) (k : Below w.heap.size w w') : CM w' g gb B W T := m.fr ((Fr.refl w (fun _ => False)).below k (fun _ hi _ => hi)) id id
/-- A byte laid. -/
theorem CM.setB {w : World} {g gb : Nat} {B : List Int} {W : List Nat} {T : List Bool} (m : CM w g gb B W T) (i : Nat) (v : Int) (hv : 0 ≤ v ∧ v < 256) : CM (w.setCell ⟨gb, i, none⟩ (.int .u8 v)) g gb (B.set i v) W T := by
  have n1 := m.ne
  refine ⟨?_, ?_, m.wd, m.byb.set i v hv, by simpa using m.len, by simpa using m.lim⟩
  · rw [List.length_set]; exact m.blk.far (by simpa using n1) _
  · rw [List.map_set]; exact m.bytes.set_ i _
/-- A word laid. -/
theorem CM.setW {w : World} {g gb : Nat} {B : List Int} {W : List Nat} {T : List Bool} (m : CM w g gb B W T) (i x : Nat) {T' : List Bool} (h : Words 64 64 (W.set i x) T') (hT : T'.length = T.length) : CM (w.setCell ⟨g, 1 + i, none⟩ (.int .u64 (x : Int))) g gb B (W.set i x) T' := by
  have n1 := m.ne
  refine ⟨?_, m.bytes.far (by simpa using n1.symm) _, h, m.byb, by rw [hT]; exact m.len, m.lim⟩
  have := m.blk.set_ (1 + i) (.int .u64 (x : Int))
  rw [Nat.add_comm, List.set_cons_succ] at this
  rw [wcs, List.map_set, Nat.add_comm]
  exact this
theorem csize_w (n : Int) (b : Bool) (hb : szB n = b) (w : World) :
    Calls Try.prog 78 #[.int .i64 n] w fun e w' => e = .returned (.bool b) ∧ w = w' := by
  rcases (show n = 1 ∨ n = 2 ∨ n = 4 ∨ n = 8 ∨ (¬ n = 1 ∧ ¬ n = 2 ∧ ¬ n = 4 ∧ ¬ n = 8) by omega) with h | h | h | h | ⟨h1, h2, h4, h8⟩
  · subst h; have e : b = true := by rw [← hb]; rfl
    subst e; clear hb
    go_enter Try.func78, Try.ntmps78
    go_wp2
    go_ret
    exact ⟨rfl, rfl⟩
  · subst h; have e : b = true := by rw [← hb]; rfl
    subst e; clear hb
    go_enter Try.func78, Try.ntmps78
    go_wp2
    go_ret
    exact ⟨rfl, rfl⟩
  · subst h; have e : b = true := by rw [← hb]; rfl
    subst e; clear hb
    go_enter Try.func78, Try.ntmps78
    go_wp2
    go_ret
    exact ⟨rfl, rfl⟩
  · subst h; have e : b = true := by rw [← hb]; rfl
    subst e; clear hb
    go_enter Try.func78, Try.ntmps78
    go_wp2
    go_ret
    exact ⟨rfl, rfl⟩
  · have t1 : (n == 1) = false := by simpa using h1
    have t2 : (n == 2) = false := by simpa using h2
    have t4 : (n == 4) = false := by simpa using h4
    have t8 : (n == 8) = false := by simpa using h8
    have e : b = false := by rw [← hb, szB, t1, t2, t4, t8]; rfl
    subst e; clear hb h1 h2 h4 h8
    go_enter Try.func78, Try.ntmps78
    go_wp2
    go_ret
    exact ⟨rfl, rfl⟩
theorem chas_w {w : World} {g gb : Nat} {B : List Int} {W : List Nat} {T : List Bool} (m : CM w g gb B W T) (off n : Int) (n0 : 0 ≤ n) (n1 : n ≤ 16) (b : Bool) (hb : thB B.length off n = b) :
    Calls Try.prog 53 #[.pointer (some ⟨g, 0, none⟩), .int .i64 off, .int .i64 n] w fun e w' => e = .returned (.bool b) ∧ w = w' := by
  have c0 := m.c0
  have hl := m.lim
  clear m
  by_cases h : 0 ≤ off
  · obtain ⟨c, hc⟩ : ∃ c, decide (off ≤ (B.length : Int) - n) = c := ⟨_, rfl⟩
    have t0 : decide (0 ≤ off) = true := by simpa using h
    have e : b = c := by rw [← hb, thB, t0, hc]; rfl
    subst e
    have HH := Lib.hid h
    clear hb h
    go_enter Try.func53, Try.ntmps53
    go_wp2
    go_ret
    exact ⟨rfl, rfl⟩
  · have t0 : decide (0 ≤ off) = false := by simpa using h
    have e : b = false := by rw [← hb, thB, t0]; rfl
    subst e
    clear hb h
    go_enter Try.func53, Try.ntmps53
    go_wp2
    go_ret
    exact ⟨rfl, rfl⟩
theorem tmod_zero (off : Int) (n : Int) (hn : 0 < n) : (off.tmod n == 0) = (off % n == 0) := by
  rw [Int.tmod_eq_emod]
  by_cases c : 0 ≤ off ∨ n ∣ off
  · rw [if_pos c]; simp
  · rw [if_neg c]
    have h0 := Int.emod_nonneg off (show n ≠ 0 by omega)
    have h1 := Int.emod_lt_of_pos off hn
    have h2 : off % n ≠ 0 := fun e => c (.inr (Int.dvd_of_emod_eq_zero e))
    have a : (off % n == 0) = false := by simpa using h2
    have b : (off % n - (n.natAbs : Int) == 0) = false := by simp; omega
    rw [a]; exact b
theorem cbegins_w {w : World} {g gb : Nat} {B : List Int} {W : List Nat} {T : List Bool} (m : CM w g gb B W T) (off : Int) (b : Bool) (hb : cpO B.length off = b) :
    Calls Try.prog 38 #[.pointer (some ⟨g, 0, none⟩), .int .i64 off] w fun e w' => e = .returned (.bool b) ∧ w = w' := by
  have HM := Lib.hid m
  clear m
  cases hq : (off % 16 == 0) with
  | false =>
    have e9 : (off.tmod 16 == 0) = false := by rw [tmod_zero _ _ (by decide)]; exact hq
    have e : b = false := by rw [← hb, cpO, hq]; simp
    subst e; clear hb
    go_enter Try.func38, Try.ntmps38
    go_wp2
    go_ret
    exact ⟨rfl, rfl⟩
  | true =>
    have e9 : (off.tmod 16 == 0) = true := by rw [tmod_zero _ _ (by decide)]; exact hq
    have e : thB B.length off 16 = b := by rw [← hb, cpO, hq]; simp
    have HT := Lib.hid e
    clear hb e
    go_enter Try.func38, Try.ntmps38
    go_wp2_with (go_at_call 53; (with_reducible refine (chas_w HM.out off 16 (by omega) (by omega) b HT.out).mono ?_); rintro e' w1 ⟨rfl, rfl⟩)
    go_ret
    exact ⟨rfl, rfl⟩
end Go.Proofs.Ytikibfpfieoabaa
