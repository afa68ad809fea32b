/-
  The document's memory: contracts of its calls. No condition.
-/
import Derived.Test.YteebmikjikjhmaaDoorQSpec
import Derived.Test.YteebmikjikjhmaaDoorQFr
namespace Go.Proofs.YteebmikjikjhmaaDoor
open Go.ChangeShapes Go.WideShapes Go.ChangeAt Go.RowKit
set_option linter.unusedVariables false
set_option linter.unusedSimpArgs false
/-- The document's memory: two slices in a block, their rows. -/
structure RM (w : World) (g gb gt : Nat) (B : List Int) (T : List Bool) : Prop where
  blk : Blk w g 59 [.slice (some ⟨gb, 0, none⟩) B.length B.length, .slice (some ⟨gt, 0, none⟩) T.length T.length]
  bytes : Blk w gb 5 (B.map (.int .u8))
  tags : Blk w gt 4 (T.map .bool)
  byb : ByB B
  len : B.length = 16 * T.length
  lim : B.length ≤ 65536
theorem RM.ne {w : World} {g gb gt : Nat} {B : List Int} {T : List Bool} (m : RM w g gb gt B T) : g ≠ gb ∧ g ≠ gt ∧ gb ≠ gt :=
  ⟨m.blk.ne_ m.bytes (by decide), m.blk.ne_ m.tags (by decide), m.bytes.ne_ m.tags (by decide)⟩
theorem RM.c0 {w : World} {g gb gt : Nat} {B : List Int} {T : List Bool} (m : RM w g gb gt B T) : w.cell? ⟨g, 0, none⟩ = some (.slice (some ⟨gb, 0, none⟩) B.length B.length) := m.blk.at_ 0 _ rfl
theorem RM.c1 {w : World} {g gb gt : Nat} {B : List Int} {T : List Bool} (m : RM w g gb gt B T) : w.cell? ⟨g, 1, none⟩ = some (.slice (some ⟨gt, 0, none⟩) T.length T.length) := m.blk.at_ 1 _ rfl
theorem RM.byte {w : World} {g gb gt : Nat} {B : List Int} {T : List Bool} (m : RM w g gb gt B T) (i : Nat) (hi : i < B.length) : w.cell? ⟨gb, i, none⟩ = some (.int .u8 (B.getD i 0)) :=
  m.bytes.at_ i _ (by rw [List.getElem?_map, List.getD_eq_getElem?_getD, List.getElem?_eq_getElem hi]; rfl)
theorem RM.tag {w : World} {g gb gt : Nat} {B : List Int} {T : List Bool} (m : RM w g gb gt B T) (i : Nat) (hi : i < T.length) : w.cell? ⟨gt, i, none⟩ = some (.bool (T.getD i false)) :=
  m.tags.at_ i _ (by rw [List.getElem?_map, List.getD_eq_getElem?_getD, List.getElem?_eq_getElem hi]; rfl)
theorem RM.fr {w w' : World} {g gb gt : Nat} {B : List Int} {T : List Bool} {S : Nat → Prop} (m : RM w g gb gt B T) (k : Fr w w' S) (h0 : ¬ S g) (h1 : ¬ S gb) (h2 : ¬ S gt) : RM w' g gb gt B T :=
  ⟨m.blk.fr k h0, m.bytes.fr k h1, m.tags.fr k h2, m.byb, m.len, m.lim⟩
theorem RM.kp {w w' : World} {g gb gt : Nat} {B : List Int} {T : List Bool} (m : RM w g gb gt B T) (k : Kp w w') : RM w' g gb gt B T := m.fr (Fr.of_kp k (fun _ => False)) id id id
theorem RM.below {w w' : World} {g gb gt : Nat} {B : List Int} {T : List Bool} (m : RM w g gb gt B T) (k : Below w.heap.size w w') : RM w' g gb gt B T := m.fr ((Fr.refl w (fun _ => False)).below k (fun _ hi _ => hi)) id id id
/-- A byte laid. -/
theorem RM.setB {w : World} {g gb gt : Nat} {B : List Int} {T : List Bool} (m : RM w g gb gt B T) (i : Nat) (v : Int) (hv : 0 ≤ v ∧ v < 256) : RM (w.setCell ⟨gb, i, none⟩ (.int .u8 v)) g gb gt (B.set i v) T := by
  obtain ⟨n1, n2, n3⟩ := m.ne
  refine ⟨?_, ?_, m.tags.far (by simpa using n3.symm) _, m.byb.set i v hv, by simpa using m.len, by simpa using m.lim⟩
  · rw [List.length_set]; exact m.blk.far (by simpa using n1) _
  · rw [List.map_set]; exact m.bytes.set_ i _
/-- A tag laid. -/
theorem RM.setT {w : World} {g gb gt : Nat} {B : List Int} {T : List Bool} (m : RM w g gb gt B T) (i : Nat) (v : Bool) : RM (w.setCell ⟨gt, i, none⟩ (.bool v)) g gb gt B (T.set i v) := by
  obtain ⟨n1, n2, n3⟩ := m.ne
  refine ⟨?_, m.bytes.far (by simpa using n3) _, ?_, m.byb, by simpa using m.len, m.lim⟩
  · rw [List.length_set]; exact m.blk.far (by simpa using n2) _
  · rw [List.map_set]; exact m.tags.set_ i _
theorem rlen_w {w : World} {g gb gt : Nat} {B : List Int} {T : List Bool} (m : RM w g gb gt B T) :
    Calls Tryd.prog 13 #[.pointer (some ⟨g, 0, none⟩)] w fun e w' => e = .returned (.int .i64 (B.length : Int)) ∧ w = w' := by
  have c0 := m.c0
  clear m
  go_enter Tryd.func13, Tryd.ntmps13
  go_wp2
  go_ret
  exact ⟨rfl, rfl⟩
theorem rsized_w (n : Int) (b : Bool) (hb : szB n = b) (w : World) :
    Calls Tryd.prog 30 #[.int .i64 n] w fun e w' => e = .returned (.bool b) ∧ w = w' := by
  rcases (show n = 1 ∨ n = 2 ∨ n = 4 ∨ n = 8 ∨ (¬ n = 1 ∧ ¬ n = 2 ∧ ¬ n = 4 ∧ ¬ n = 8) by omega) with h | h | h | h | ⟨h1, h2, h4, h8⟩
  · subst h; have e : b = true := by rw [← hb]; rfl
    subst e; clear hb
    go_enter Tryd.func30, Tryd.ntmps30
    go_wp2
    go_ret
    exact ⟨rfl, rfl⟩
  · subst h; have e : b = true := by rw [← hb]; rfl
    subst e; clear hb
    go_enter Tryd.func30, Tryd.ntmps30
    go_wp2
    go_ret
    exact ⟨rfl, rfl⟩
  · subst h; have e : b = true := by rw [← hb]; rfl
    subst e; clear hb
    go_enter Tryd.func30, Tryd.ntmps30
    go_wp2
    go_ret
    exact ⟨rfl, rfl⟩
  · subst h; have e : b = true := by rw [← hb]; rfl
    subst e; clear hb
    go_enter Tryd.func30, Tryd.ntmps30
    go_wp2
    go_ret
    exact ⟨rfl, rfl⟩
  · have t1 : (n == 1) = false := by simpa using h1
    have t2 : (n == 2) = false := by simpa using h2
    have t4 : (n == 4) = false := by simpa using h4
    have t8 : (n == 8) = false := by simpa using h8
    have e : b = false := by rw [← hb, szB, t1, t2, t4, t8]; rfl
    subst e; clear hb h1 h2 h4 h8
    go_enter Tryd.func30, Tryd.ntmps30
    go_wp2
    go_ret
    exact ⟨rfl, rfl⟩
theorem rthere_w {w : World} {g gb gt : Nat} {B : List Int} {T : List Bool} (m : RM w g gb gt B T) (off n : Int) (n0 : 0 ≤ n) (n1 : n ≤ 16) (b : Bool) (hb : thB B.length off n = b) :
    Calls Tryd.prog 31 #[.pointer (some ⟨g, 0, none⟩), .int .i64 off, .int .i64 n] w fun e w' => e = .returned (.bool b) ∧ w = w' := by
  have c0 := m.c0
  have hl := m.lim
  clear m
  by_cases h : 0 ≤ off
  · obtain ⟨c, hc⟩ : ∃ c, decide (off ≤ (B.length : Int) - n) = c := ⟨_, rfl⟩
    have t0 : decide (0 ≤ off) = true := by simpa using h
    have e : b = c := by rw [← hb, thB, t0, hc]; rfl
    subst e
    have HH := Lib.hid h
    clear hb h
    go_enter Tryd.func31, Tryd.ntmps31
    go_wp2
    go_ret
    exact ⟨rfl, rfl⟩
  · have t0 : decide (0 ≤ off) = false := by simpa using h
    have e : b = false := by rw [← hb, thB, t0]; rfl
    subst e
    clear hb h
    go_enter Tryd.func31, Tryd.ntmps31
    go_wp2
    go_ret
    exact ⟨rfl, rfl⟩
end Go.Proofs.YteebmikjikjhmaaDoor
