/-
  How a world may differ from an elder one of which nothing has turned: by what was made, drawn and written since. No condition.
-/
import Derived.Test.YtikibfpfieoabaaRet
import Derived.Deep.RegionHeld3
import Derived.Deep.DeepCutAuto
import Derived.Laws.Externs
import Derived.IntWalk
namespace Go.Proofs.Ytikibfpfieoabaa
open Go.ChangeShapes Go.WideShapes Go.ChangeAt Go.RowKit
set_option linter.unusedVariables false
set_option linter.unusedSimpArgs false

theorem Kp.allocs {a w : World} (h : Kp a w) (c : Array Value) (t : TypeId) : Kp a (w.alloc (.cells c t)) := h.trans (Kp.alloc w c t)
theorem Kp.setCell {a w : World} (h : Kp a w) {p : Addr} (hp : a.heap.size ≤ p.block) (u : Value) : Kp a (w.setCell p u) :=
  ⟨h.1.setCell hp u, fun x => by rw [World.frozen?_setCell]; exact h.2 x⟩
theorem Kp.drew {a w : World} (h : Kp a w) : Kp a w.drew := ⟨h.1.drew, h.2⟩
/-- A truth as a number. -/
def b01 (o : Bool) : Int := if o then 1 else 0
theorem b01_lo (o : Bool) : 0 ≤ b01 o := by cases o <;> decide
theorem b01_hi (o : Bool) : b01 o < 2 := by cases o <;> decide
/-- Behind the world W, of which nothing has turned; there are blocks below n. -/
structure Bh (W : World) (n : Nat) (w : World) : Prop where
  kp : Kp W w
  lo : W.heap.size ≤ n
  le : n ≤ w.heap.size
theorem Bh.drew {W : World} {n : Nat} {w : World} (h : Bh W n w) : Bh W n w.drew := ⟨h.kp.drew, h.lo, h.le⟩
theorem Bh.drewN {W : World} {n : Nat} {w : World} (h : Bh W n w) (k : Nat) : Bh W n (w.drewN k) := ⟨h.kp.drewN k, h.lo, h.le⟩
theorem Bh.step {W : World} {n : Nat} {w w' : World} (h : Bh W n w) (k : Kp w w') : Bh W n w' := ⟨h.kp.trans k, h.lo, Nat.le_trans h.le k.size⟩
theorem Bh.cell {W : World} {n : Nat} {w w' : World} (h : Bh W n w) (k : Kp w w') {p : Addr} (hp : p.block < n) {v : Option Value} (hv : w.cell? p = v) : w'.cell? p = v := by
  rw [k.cell (Nat.lt_of_lt_of_le hp h.le)]; exact hv
theorem Bh.alloc {W : World} {n : Nat} {w : World} (h : Bh W n w) (c : Array Value) (t : TypeId) : Bh W n (w.alloc (.cells c t)) := h.step (Kp.alloc w c t)
theorem Bh.cell_alloc {W : World} {n : Nat} {w : World} {o : Array Value} {t : TypeId} (h : Bh W n w) {p : Addr} (hp : p.block < n) {v : Option Value} (hv : w.cell? p = v) : (w.alloc (.cells o t)).cell? p = v :=
  h.cell (Kp.alloc w o t) hp hv

theorem Bh.set {W : World} {n : Nat} {w : World} {a : Addr} {u : Value} (h : Bh W n w) (ha : n ≤ a.block) : Bh W n (w.setCell a u) :=
  ⟨h.kp.setCell (Nat.le_trans h.lo ha) u, h.lo, by simpa [World.setCell] using h.le⟩
theorem Bh.cell_set {n : Nat} {w : World} {a : Addr} {u : Value} {p : Addr} (hp : p.block < n) (ha : n ≤ a.block) {v : Option Value} (hv : w.cell? p = v) : (w.setCell a u).cell? p = v := by
  rw [World.cell?_of_block (w := w) (Below.heap_setCell w a u p.block (by omega))]; exact hv
theorem Kp.cells {W w1 : World} (hb : Kp W w1) : (∀ b o, b < W.heap.size → w1.cell? ⟨b, o, none⟩ = W.cell? ⟨b, o, none⟩) ∧ (∀ b o, w1.frozen? ⟨b, o, none⟩ = W.frozen? ⟨b, o, none⟩) ∧ (∀ b, b < W.heap.size → b < w1.heap.size) :=
  ⟨fun b o h => hb.cell (p := ⟨b, o, none⟩) h, fun b o => hb.2 _, fun b h => Nat.lt_of_lt_of_le h hb.size⟩
theorem Kp.chain {X : Nat} {w2 cur w' : World} (hz : ∀ b, b < X → b < w2.heap.size) (qk : Kp cur w') (h : w2.heap.size ≤ cur.heap.size) : ∀ b, b < X → b < w'.heap.size :=
  fun b hb => Nat.lt_of_lt_of_le (Nat.lt_of_lt_of_le (hz b hb) h) qk.size
theorem Kp.up1 {X : Nat} {w2 : World} (hz : ∀ b, b < X → b < w2.heap.size) : (∀ b, b < X → b < w2.heap.size + 1) ∧ (∀ b, b < X → ¬ b = w2.heap.size) ∧ (∀ b, b < X → ¬ w2.heap.size = b) :=
  ⟨fun b hb => Nat.lt_succ_of_lt (hz b hb), fun b hb => Nat.ne_of_lt (hz b hb), fun b hb => Nat.ne_of_gt (hz b hb)⟩

/-- The first two cells of one block have turned, and blocks behind it may have; what was ahead of it has not. -/
structure Pt (B : Nat) (u v : Value) (w w' : World) : Prop where
  below : Below B w w'
  fz : ∀ a, w'.frozen? a = w.frozen? a
  c0 : w'.cell? ⟨B, 0, none⟩ = some u
  c1 : w'.cell? ⟨B, 1, none⟩ = some v
theorem Pt.cell {B : Nat} {u v : Value} {w w' : World} (h : Pt B u v w w') {p : Addr} (hp : p.block < B) : w'.cell? p = w.cell? p := h.below.cell hp
theorem Pt.size {B : Nat} {u v : Value} {w w' : World} (h : Pt B u v w w') : w.heap.size ≤ w'.heap.size := h.below.size
theorem Pt.kp {B : Nat} {u v : Value} {W w w' : World} (h : Pt B u v w w') (k : Kp W w) (hB : W.heap.size ≤ B) : Kp W w' :=
  ⟨k.1.trans (h.below.mono hB), fun x => (h.fz x).trans (k.2 x)⟩
end Go.Proofs.Ytikibfpfieoabaa
