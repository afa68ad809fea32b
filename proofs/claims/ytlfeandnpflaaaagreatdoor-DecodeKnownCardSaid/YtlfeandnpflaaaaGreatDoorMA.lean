/-
  Small equations of what a call returns, and the relation in which a call that changes nothing that was there leaves the world. No condition.
  How a world may differ from an elder one of which nothing has turned: by what was made, drawn and written since. No condition.
  Cells of a block, and room in a block, as a world changes: for regions that draw their order. No condition.
-/
import Derived.Test.YtlfeandnpflaaaaGreatDoorRows
import Derived.WalkKit
import Derived.ProofKit
import Derived.OpenShut
import Derived.Lib.Hide
import Derived.Below
import Derived.Deep.QuietTactic
import Derived.BigQuiet
import Derived.Deep.RegionHeld3
import Derived.Deep.DeepCutAuto
import Derived.Laws.Externs
import Derived.IntWalk
namespace Go.Proofs.YtlfeandnpflaaaaGreatDoor
open Go.RowKit
theorem ret_int {k : IntKind} {a b : Int} (h : a = b) : Ending.returned (.int k a) = .returned (.int k b) := by rw [h]
theorem ret_bool {a b : Bool} (h : a = b) : Ending.returned (.bool a) = .returned (.bool b) := by rw [h]
theorem ret_two {k : IntKind} {a b : Int} {c d : Bool} (h : a = b) (h2 : c = d) : Ending.returned (.tuple #[.int k a, .bool c]) = .returned (.tuple #[.int k b, .bool d]) := by rw [h, h2]
theorem ret_bb {a b : Bool} {c d : Bool} (h : a = b) (h2 : c = d) : Ending.returned (.tuple #[.bool a, .bool c]) = .returned (.tuple #[.bool b, .bool d]) := by rw [h, h2]
theorem ret_ii {k l : IntKind} {a b c d : Int} (h : a = b) (h2 : c = d) : Ending.returned (.tuple #[.int k a, .int l c]) = .returned (.tuple #[.int k b, .int l d]) := by rw [h, h2]

theorem u64_bd {a : Int} (h : (Lit.int .u64 a).wf = true) : 0 ≤ a ∧ a < 18446744073709551616 := by
  have hm0 : IntKind.u64.min = 0 := rfl
  have hm1 : IntKind.u64.max = 18446744073709551615 := rfl
  simp only [Lit.wf, Bool.and_eq_true, decide_eq_true_eq, hm0, hm1] at h
  omega
theorem i64_bd {a : Int} (h : (Lit.int .i64 a).wf = true) : -9223372036854775808 ≤ a ∧ a < 9223372036854775808 := by
  have hm0 : IntKind.i64.min = -9223372036854775808 := rfl
  have hm1 : IntKind.i64.max = 9223372036854775807 := rfl
  simp only [Lit.wf, Bool.and_eq_true, decide_eq_true_eq, hm0, hm1] at h
  omega
theorem wrap_bd (x : Int) : 0 ≤ IntKind.u64.wrap x ∧ IntKind.u64.wrap x < 18446744073709551616 := by rw [IntKind.wrap_u64]; omega

/-- Of what was there nothing has turned; nothing new is frozen. -/
def Kp (w w' : World) : Prop := Below w.heap.size w w' ∧ ∀ a, w'.frozen? a = w.frozen? a
theorem Kp.refl (w : World) : Kp w w := ⟨Below.refl _ _, fun _ => rfl⟩
theorem Kp.trans {a b c : World} (h : Kp a b) (k : Kp b c) : Kp a c :=
  ⟨h.1.trans (k.1.mono h.1.size), fun x => (k.2 x).trans (h.2 x)⟩
theorem Kp.grown {w w' : World} (h : Kp w w') : Grown w w' := ⟨h.1.frame _, h.2, h.1.size⟩
theorem Kp.alloc (w : World) (c : Array Value) (t : TypeId) : Kp w (w.alloc (.cells c t)) :=
  ⟨(Below.refl _ _).alloc (Nat.le_refl _) _, fun a => frozen?_alloc_cells w c t a⟩
theorem Kp.drewN {w w' : World} (h : Kp w w') (n : Nat) : Kp w (w'.drewN n) := ⟨⟨h.1.os, h.1.tape, h.1.output, h.1.size, h.1.block⟩, h.2⟩
theorem Kp.cell {w w' : World} (h : Kp w w') {p : Addr} (hp : p.block < w.heap.size) : w'.cell? p = w.cell? p := h.1.cell hp
theorem Kp.size {w w' : World} (h : Kp w w') : w.heap.size ≤ w'.heap.size := h.1.size
/-- Nothing but draws. -/
def Qt (w w' : World) : Prop := ∃ n, w' = w.drewN n
theorem Qt.refl (w : World) : Qt w w := ⟨0, rfl⟩
theorem Qt.trans {a b c : World} (h : Qt a b) (k : Qt b c) : Qt a c := by
  obtain ⟨n, rfl⟩ := h; obtain ⟨m, rfl⟩ := k; exact ⟨n + m, by rw [World.drewN_drewN]⟩
theorem Qt.drewN {a b : World} (h : Qt a b) (n : Nat) : Qt a (b.drewN n) := h.trans ⟨n, rfl⟩
theorem Qt.kp {a b : World} (h : Qt a b) : Kp a b := by obtain ⟨n, rfl⟩ := h; exact (Kp.refl a).drewN n
theorem Qt.grown {a b : World} (h : Qt a b) : Grown a b := h.kp.grown
/-- A quiet call within a region that draws its order. -/
theorem q_add {P : Program} {f : FuncId} {args : Array Value} {v : Value} (c : ∀ W : World, Calls P f args W fun e w' => e = .returned v ∧ W = w') (w : World) (a n : Nat) :
    Calls P f args (w.drewN (a + n)) fun e w'' => e = .returned v ∧ ∃ m, w'' = w.drewN (a + m) :=
  (c _).mono fun _ _ h => ⟨h.1, n, h.2.symm⟩
theorem q_one {P : Program} {f : FuncId} {args : Array Value} {v : Value} (c : ∀ W : World, Calls P f args W fun e w' => e = .returned v ∧ W = w') (w : World) (n : Nat) :
    Calls P f args (w.drewN n) fun e w'' => e = .returned v ∧ ∃ m, w'' = w.drewN m :=
  (c _).mono fun _ _ h => ⟨h.1, n, h.2.symm⟩
theorem qt_add {P : Program} {f : FuncId} {args : Array Value} {v : Value} (c : ∀ W : World, Calls P f args W fun e w' => e = .returned v ∧ Qt W w') (w : World) (a n : Nat) :
    Calls P f args (w.drewN (a + n)) fun e w'' => e = .returned v ∧ ∃ m, w'' = w.drewN (a + m) :=
  (c _).mono fun _ _ ⟨he, m, hm⟩ => ⟨he, n + m, by rw [hm, World.drewN_drewN, Nat.add_assoc]⟩
theorem qt_one {P : Program} {f : FuncId} {args : Array Value} {v : Value} (c : ∀ W : World, Calls P f args W fun e w' => e = .returned v ∧ Qt W w') (w : World) (n : Nat) :
    Calls P f args (w.drewN n) fun e w'' => e = .returned v ∧ ∃ m, w'' = w.drewN m :=
  (c _).mono fun _ _ ⟨he, m, hm⟩ => ⟨he, n + m, by rw [hm, World.drewN_drewN]⟩
/-- Values out of integers and truths, for lists of values. -/
instance zcI : Coe Int Value := ⟨.int .i64⟩
instance zcB : Coe Bool Value := ⟨.bool⟩
instance zcZ : Coe Unit Value := ⟨fun _ => .int .i64 0⟩
theorem zA {α : Type _} (l : List α) (i : Nat) (a : α) : l.toArray.setIfInBounds i a = (l.set i a).toArray := List.setIfInBounds_toArray l i a
theorem zB {α : Type _} {x : α} {xs : List α} {a : α} : (x :: xs).set 0 a = a :: xs := rfl
theorem zC {α : Type _} {x : α} {xs : List α} {i : Nat} {a : α} : (x :: xs).set (i + 1) a = x :: xs.set i a := rfl
theorem Kp.c {w w' : World} (k : Kp w w') {b o : Nat} {v : Option Value} (h : b < w.heap.size := by first | (simp; done) | (simp; omega) | omega) (hv : w.cell? ⟨b, o, none⟩ = v := by simp [go_sem, *]) : w'.cell? ⟨b, o, none⟩ = v := (k.cell (p := ⟨b, o, none⟩) h).trans hv
theorem Kp.z {w w' : World} (k : Kp w w') {p : Addr} {v : Bool} (hv : w.frozen? p = v := by simp [go_sem, *]) : w'.frozen? p = v := (k.2 p).trans hv
/-- Eleven cells of one block, and eleven marks, behind a call. -/
theorem Kp.c11 {w w' : World} (k : Kp w w') {b : Nat} (v0 v1 v2 v3 v4 v5 v6 v7 v8 v9 v10 : Value) (h : b < w.heap.size := by first | (simp; done) | (simp; omega) | omega) (hv : w.cell? ⟨b, 0, none⟩ = some v0 ∧ w.cell? ⟨b, 1, none⟩ = some v1 ∧ w.cell? ⟨b, 2, none⟩ = some v2 ∧ w.cell? ⟨b, 3, none⟩ = some v3 ∧ w.cell? ⟨b, 4, none⟩ = some v4 ∧ w.cell? ⟨b, 5, none⟩ = some v5 ∧ w.cell? ⟨b, 6, none⟩ = some v6 ∧ w.cell? ⟨b, 7, none⟩ = some v7 ∧ w.cell? ⟨b, 8, none⟩ = some v8 ∧ w.cell? ⟨b, 9, none⟩ = some v9 ∧ w.cell? ⟨b, 10, none⟩ = some v10 := by simp [go_sem, *]) : w'.cell? ⟨b, 0, none⟩ = some v0 ∧ w'.cell? ⟨b, 1, none⟩ = some v1 ∧ w'.cell? ⟨b, 2, none⟩ = some v2 ∧ w'.cell? ⟨b, 3, none⟩ = some v3 ∧ w'.cell? ⟨b, 4, none⟩ = some v4 ∧ w'.cell? ⟨b, 5, none⟩ = some v5 ∧ w'.cell? ⟨b, 6, none⟩ = some v6 ∧ w'.cell? ⟨b, 7, none⟩ = some v7 ∧ w'.cell? ⟨b, 8, none⟩ = some v8 ∧ w'.cell? ⟨b, 9, none⟩ = some v9 ∧ w'.cell? ⟨b, 10, none⟩ = some v10 := by
  obtain ⟨h0, h1, h2, h3, h4, h5, h6, h7, h8, h9, h10⟩ := hv
  exact ⟨(k.cell h).trans h0, (k.cell h).trans h1, (k.cell h).trans h2, (k.cell h).trans h3, (k.cell h).trans h4, (k.cell h).trans h5, (k.cell h).trans h6, (k.cell h).trans h7, (k.cell h).trans h8, (k.cell h).trans h9, (k.cell h).trans h10⟩
theorem Kp.z11 {w w' : World} (k : Kp w w') {b : Nat} (hv : w.frozen? ⟨b, 0, none⟩ = false ∧ w.frozen? ⟨b, 1, none⟩ = false ∧ w.frozen? ⟨b, 2, none⟩ = false ∧ w.frozen? ⟨b, 3, none⟩ = false ∧ w.frozen? ⟨b, 4, none⟩ = false ∧ w.frozen? ⟨b, 5, none⟩ = false ∧ w.frozen? ⟨b, 6, none⟩ = false ∧ w.frozen? ⟨b, 7, none⟩ = false ∧ w.frozen? ⟨b, 8, none⟩ = false ∧ w.frozen? ⟨b, 9, none⟩ = false ∧ w.frozen? ⟨b, 10, none⟩ = false := by simp [go_sem, *]) : w'.frozen? ⟨b, 0, none⟩ = false ∧ w'.frozen? ⟨b, 1, none⟩ = false ∧ w'.frozen? ⟨b, 2, none⟩ = false ∧ w'.frozen? ⟨b, 3, none⟩ = false ∧ w'.frozen? ⟨b, 4, none⟩ = false ∧ w'.frozen? ⟨b, 5, none⟩ = false ∧ w'.frozen? ⟨b, 6, none⟩ = false ∧ w'.frozen? ⟨b, 7, none⟩ = false ∧ w'.frozen? ⟨b, 8, none⟩ = false ∧ w'.frozen? ⟨b, 9, none⟩ = false ∧ w'.frozen? ⟨b, 10, none⟩ = false := by
  obtain ⟨h0, h1, h2, h3, h4, h5, h6, h7, h8, h9, h10⟩ := hv
  exact ⟨(k.2 _).trans h0, (k.2 _).trans h1, (k.2 _).trans h2, (k.2 _).trans h3, (k.2 _).trans h4, (k.2 _).trans h5, (k.2 _).trans h6, (k.2 _).trans h7, (k.2 _).trans h8, (k.2 _).trans h9, (k.2 _).trans h10⟩
section
variable {P : Program} {ops : Array Oper} {Q : Exit → Act → World → Prop} {md : Region.Mode} {S : World → Prop}
/-- The library's step of a region that draws, its side conditions reckoned. -/
theorem tk (i : Nat) {d op t p af g} (v : Value) {fuel : Nat} {listed : Array Bool} {a : Act} {w : World} (hi : ops[i]? = some (Oper.mk d op t p af g)) (hy : YieldsIf P ops S (Oper.mk d op t p af g) v a) (hS : S w)
    (h : wpAnyH P md ops Q S fuel (listed.setIfInBounds i true) (a.put d v) w)
    (hs : Region.noSelect ops = true := by kernel_rfl) (hf : Region.free md ops listed i = true := by kernel_rfl) (hr : (Region.ready md ops listed).contains i = true := by kernel_rfl)
    (hQ : ∀ (c : List PanicEntry) (a : Act) (w : World), Q (.panic c) (a.put d v) w → Q (.panic c) a w := by exact fun _ _ _ h => h) : wpAnyH P md ops Q S (fuel + 1) listed a w :=
  wpAnyH_take hi hs hf hr hQ hy hS h
theorem rdy (i : Nat) {d op t p af g} {fuel : Nat} {listed : Array Bool} {a : Act} {w : World} (ho : ops[i]? = some (Oper.mk d op t p af g))
    (h : ∀ K' : Act → World → Prop, Shut (∀ a w, S w → (S w → wpAnyH P md ops Q S fuel (listed.setIfInBounds i true) a w) → K' a w) → if Region.wanted (Oper.mk d op t p af g) (yielded ops a.tmps) = true then Oper.wp P (Oper.mk d op t p af g) a w K' Q else K' (a.put d undef) w)
    (hr : Region.ready md ops listed = [i] := by kernel_rfl) : wpAnyH P md ops Q S (fuel + 1) listed a w := wpAnyH_ready hr (by simp) (AllReadyH.cons ho h AllReadyH.nil)
end
end Go.Proofs.YtlfeandnpflaaaaGreatDoor
namespace Go.Proofs.YtlfeandnpflaaaaGreatDoor
open Go.ChangeShapes Go.WideShapes Go.ChangeAt Go.RowKit
set_option linter.unusedVariables false
set_option linter.unusedSimpArgs false

theorem Kp.allocs {a w : World} (h : Kp a w) (c : Array Value) (t : TypeId) : Kp a (w.alloc (.cells c t)) := h.trans (Kp.alloc w c t)
theorem Kp.setCell {a w : World} (h : Kp a w) {p : Addr} (hp : a.heap.size ≤ p.block) (u : Value) : Kp a (w.setCell p u) :=
  ⟨h.1.setCell hp u, fun x => by rw [World.frozen?_setCell]; exact h.2 x⟩
theorem Kp.drew {a w : World} (h : Kp a w) : Kp a w.drew := ⟨h.1.drew, h.2⟩
/-- A truth as a number. -/
def b01 (o : Bool) : Int := if o then 1 else 0
theorem b01_lo (o : Bool) : 0 ≤ b01 o := by cases o <;> decide
theorem b01_hi (o : Bool) : b01 o < 2 := by cases o <;> decide
/-- Behind the world W, of which nothing has turned; there are blocks below n. -/
structure Bh (W : World) (n : Nat) (w : World) : Prop where
  kp : Kp W w
  lo : W.heap.size ≤ n
  le : n ≤ w.heap.size
theorem Bh.drew {W : World} {n : Nat} {w : World} (h : Bh W n w) : Bh W n w.drew := ⟨h.kp.drew, h.lo, h.le⟩
theorem Bh.drewN {W : World} {n : Nat} {w : World} (h : Bh W n w) (k : Nat) : Bh W n (w.drewN k) := ⟨h.kp.drewN k, h.lo, h.le⟩
theorem Bh.step {W : World} {n : Nat} {w w' : World} (h : Bh W n w) (k : Kp w w') : Bh W n w' := ⟨h.kp.trans k, h.lo, Nat.le_trans h.le k.size⟩
theorem Bh.cell {W : World} {n : Nat} {w w' : World} (h : Bh W n w) (k : Kp w w') {p : Addr} (hp : p.block < n) {v : Option Value} (hv : w.cell? p = v) : w'.cell? p = v := by
  rw [k.cell (Nat.lt_of_lt_of_le hp h.le)]; exact hv
theorem Bh.alloc {W : World} {n : Nat} {w : World} (h : Bh W n w) (c : Array Value) (t : TypeId) : Bh W n (w.alloc (.cells c t)) := h.step (Kp.alloc w c t)
theorem Bh.cell_alloc {W : World} {n : Nat} {w : World} {o : Array Value} {t : TypeId} (h : Bh W n w) {p : Addr} (hp : p.block < n) {v : Option Value} (hv : w.cell? p = v) : (w.alloc (.cells o t)).cell? p = v :=
  h.cell (Kp.alloc w o t) hp hv

theorem Bh.set {W : World} {n : Nat} {w : World} {a : Addr} {u : Value} (h : Bh W n w) (ha : n ≤ a.block) : Bh W n (w.setCell a u) :=
  ⟨h.kp.setCell (Nat.le_trans h.lo ha) u, h.lo, by simpa [World.setCell] using h.le⟩
theorem Bh.cell_set {n : Nat} {w : World} {a : Addr} {u : Value} {p : Addr} (hp : p.block < n) (ha : n ≤ a.block) {v : Option Value} (hv : w.cell? p = v) : (w.setCell a u).cell? p = v := by
  rw [World.cell?_of_block (w := w) (Below.heap_setCell w a u p.block (by omega))]; exact hv
theorem Kp.cells {W w1 : World} (hb : Kp W w1) : (∀ b o, b < W.heap.size → w1.cell? ⟨b, o, none⟩ = W.cell? ⟨b, o, none⟩) ∧ (∀ b o, w1.frozen? ⟨b, o, none⟩ = W.frozen? ⟨b, o, none⟩) ∧ (∀ b, b < W.heap.size → b < w1.heap.size) :=
  ⟨fun b o h => hb.cell (p := ⟨b, o, none⟩) h, fun b o => hb.2 _, fun b h => Nat.lt_of_lt_of_le h hb.size⟩
theorem Kp.chain {X : Nat} {w2 cur w' : World} (hz : ∀ b, b < X → b < w2.heap.size) (qk : Kp cur w') (h : w2.heap.size ≤ cur.heap.size) : ∀ b, b < X → b < w'.heap.size :=
  fun b hb => Nat.lt_of_lt_of_le (Nat.lt_of_lt_of_le (hz b hb) h) qk.size
theorem Kp.up1 {X : Nat} {w2 : World} (hz : ∀ b, b < X → b < w2.heap.size) : (∀ b, b < X → b < w2.heap.size + 1) ∧ (∀ b, b < X → ¬ b = w2.heap.size) ∧ (∀ b, b < X → ¬ w2.heap.size = b) :=
  ⟨fun b hb => Nat.lt_succ_of_lt (hz b hb), fun b hb => Nat.ne_of_lt (hz b hb), fun b hb => Nat.ne_of_gt (hz b hb)⟩

/-- The first two cells of one block have turned, and blocks behind it may have; what was ahead of it has not. -/
structure Pt (B : Nat) (u v : Value) (w w' : World) : Prop where
  below : Below B w w'
  fz : ∀ a, w'.frozen? a = w.frozen? a
  c0 : w'.cell? ⟨B, 0, none⟩ = some u
  c1 : w'.cell? ⟨B, 1, none⟩ = some v
theorem Pt.cell {B : Nat} {u v : Value} {w w' : World} (h : Pt B u v w w') {p : Addr} (hp : p.block < B) : w'.cell? p = w.cell? p := h.below.cell hp
theorem Pt.size {B : Nat} {u v : Value} {w w' : World} (h : Pt B u v w w') : w.heap.size ≤ w'.heap.size := h.below.size
theorem Pt.kp {B : Nat} {u v : Value} {W w w' : World} (h : Pt B u v w w') (k : Kp W w) (hB : W.heap.size ≤ B) : Kp W w' :=
  ⟨k.1.trans (h.below.mono hB), fun x => (h.fz x).trans (k.2 x)⟩
end Go.Proofs.YtlfeandnpflaaaaGreatDoor
namespace Go.Proofs.YtlfeandnpflaaaaGreatDoor
open Go.ChangeShapes Go.WideShapes Go.ChangeAt Go.RowKit
set_option linter.unusedVariables false
set_option linter.unusedSimpArgs false

theorem take_if {b : Bool} {P Q : Prop} (h : b = true) (p : P) : if b = true then P else Q := by subst h; exact p
theorem skip_if {b : Bool} {P Q : Prop} (h : b = false) (q : Q) : if b = true then P else Q := by subst h; exact q
theorem Bh.set2 {W : World} {n : Nat} {w : World} {a : Addr} {u : Value} (h : Bh W n w) (ha : W.heap.size ≤ a.block) : Bh W n (w.setCell a u) :=
  ⟨h.kp.setCell ha u, h.lo, by simpa [World.setCell] using h.le⟩
/-- The cells of block B hold these values. -/
def At (B : Nat) (vs : List Value) (w : World) : Prop := ∀ (i : Nat) (v : Value), vs[i]? = some v → w.cell? ⟨B, i, none⟩ = some v
theorem At.kp {B : Nat} {vs : List Value} {w w' : World} (h : At B vs w) (k : Kp w w') (hB : B < w.heap.size) : At B vs w' :=
  fun i v hi => (k.cell (p := ⟨B, i, none⟩) hB).trans (h i v hi)
theorem At.drew {B : Nat} {vs : List Value} {w : World} (h : At B vs w) : At B vs w.drew := h
theorem At.alloc {B : Nat} {vs : List Value} {w : World} (h : At B vs w) (o : Obj) : At B vs (w.alloc o) := fun i v hi => by
  rw [World.cell?_alloc_some w _ o (by rw [h i v hi]; rfl)]; exact h i v hi
theorem At.set {B : Nat} {vs : List Value} {w : World} {p : Addr} (h : At B vs w) (hp : p.block ≠ B) (u : Value) : At B vs (w.setCell p u) := fun i v hi => by
  rw [World.cell?_of_block (w := w) (Below.heap_setCell w p u B (Ne.symm hp))]; exact h i v hi
theorem At.put {B : Nat} {vs : List Value} {w : World} (h : At B vs w) (i : Nat) (hi : i < vs.length) (u : Value) : At B (vs.set i u) (w.setCell ⟨B, i, none⟩ u) := fun j v hj => by
  by_cases e : i = j
  · subst e
    rw [List.getElem?_set_self hi] at hj
    cases hj
    simp [go_sem, h i _ (List.getElem?_eq_getElem hi)]
  · rw [List.getElem?_set_ne e] at hj
    rw [World.cell?_setCell_other w ⟨B, i, none⟩ ⟨B, j, none⟩ u (fun x => e (by cases x; rfl))]
    exact h j v hj
theorem At.new (w : World) (vs : List Value) (t : TypeId) : At w.heap.size vs (w.alloc (.cells vs.toArray t)) := fun i v hi => by
  have hh : (w.alloc (.cells vs.toArray t)).heap[w.heap.size]? = some (.cells vs.toArray t) := (MapKept.heap_alloc w _).1
  simp only [World.cell?, hh]; simpa using hi
theorem At.new' (w : World) (vs : List Value) (t : TypeId) {B : Nat} (hB : w.heap.size = B) : At B vs (w.alloc (.cells vs.toArray t)) := by subst hB; exact At.new w vs t
theorem At.out9 {B : Nat} {w : World} {v0 v1 v2 v3 v4 v5 v6 v7 v8 : Value} (h : At B [v0, v1, v2, v3, v4, v5, v6, v7, v8] w) : w.cell? ⟨B, 0, none⟩ = some v0 ∧ w.cell? ⟨B, 1, none⟩ = some v1 ∧ w.cell? ⟨B, 2, none⟩ = some v2 ∧ w.cell? ⟨B, 3, none⟩ = some v3 ∧ w.cell? ⟨B, 4, none⟩ = some v4 ∧ w.cell? ⟨B, 5, none⟩ = some v5 ∧ w.cell? ⟨B, 6, none⟩ = some v6 ∧ w.cell? ⟨B, 7, none⟩ = some v7 ∧ w.cell? ⟨B, 8, none⟩ = some v8 :=
  ⟨h 0 _ rfl, h 1 _ rfl, h 2 _ rfl, h 3 _ rfl, h 4 _ rfl, h 5 _ rfl, h 6 _ rfl, h 7 _ rfl, h 8 _ rfl⟩
theorem At.out3 {B : Nat} {w : World} {v0 v1 v2 : Value} (h : At B [v0, v1, v2] w) : w.cell? ⟨B, 0, none⟩ = some v0 ∧ w.cell? ⟨B, 1, none⟩ = some v1 ∧ w.cell? ⟨B, 2, none⟩ = some v2 := ⟨h 0 _ rfl, h 1 _ rfl, h 2 _ rfl⟩
theorem At.set9 {B C : Nat} {vs : List Value} {w : World} (h : At B vs w) (hB : C ≠ B) {v0 v1 v2 v3 v4 v5 v6 v7 v8 : Value} :
    At B vs (((((((((w.setCell ⟨C, 0, none⟩ v0).setCell ⟨C, 1, none⟩ v1).setCell ⟨C, 2, none⟩ v2).setCell ⟨C, 3, none⟩ v3).setCell ⟨C, 4, none⟩ v4).setCell ⟨C, 5, none⟩ v5).setCell ⟨C, 6, none⟩ v6).setCell ⟨C, 7, none⟩ v7).setCell ⟨C, 8, none⟩ v8) :=
  ((((((((h.set hB _).set hB _).set hB _).set hB _).set hB _).set hB _).set hB _).set hB _).set hB _
theorem Bh.set9 {W : World} {n C : Nat} {w : World} (h : Bh W n w) (hC : W.heap.size ≤ C) {v0 v1 v2 v3 v4 v5 v6 v7 v8 : Value} :
    Bh W n (((((((((w.setCell ⟨C, 0, none⟩ v0).setCell ⟨C, 1, none⟩ v1).setCell ⟨C, 2, none⟩ v2).setCell ⟨C, 3, none⟩ v3).setCell ⟨C, 4, none⟩ v4).setCell ⟨C, 5, none⟩ v5).setCell ⟨C, 6, none⟩ v6).setCell ⟨C, 7, none⟩ v7).setCell ⟨C, 8, none⟩ v8) :=
  ((((((((h.set2 hC).set2 hC).set2 hC).set2 hC).set2 hC).set2 hC).set2 hC).set2 hC).set2 hC
/-- Block B has room for k values. -/
def Rm (B k : Nat) (w : World) : Prop := ∀ i, i < k → (∃ v, w.cell? ⟨B, i, none⟩ = some v) ∧ w.frozen? ⟨B, i, none⟩ = false
theorem Rm.kp {B k : Nat} {w w' : World} (h : Rm B k w) (q : Kp w w') (hB : B < w.heap.size) : Rm B k w' := fun i hi => by
  obtain ⟨⟨v, c⟩, z⟩ := h i hi
  exact ⟨⟨v, (q.cell (p := ⟨B, i, none⟩) hB).trans c⟩, (q.2 _).trans z⟩
theorem Rm.drew {B k : Nat} {w : World} (h : Rm B k w) : Rm B k w.drew := h
theorem Rm.set {B k : Nat} {w : World} {p : Addr} (h : Rm B k w) (u : Value) : Rm B k (w.setCell p u) := fun i hi => by
  obtain ⟨⟨v, c⟩, z⟩ := h i hi
  refine ⟨?_, by rw [World.frozen?_setCell]; exact z⟩
  by_cases hp : (⟨B, i, none⟩ : Addr) = p
  · subst hp; exact ⟨u, by simp [go_sem, c]⟩
  · exact ⟨v, by rw [World.cell?_setCell_other w p _ u (fun e => hp e.symm)]; exact c⟩
theorem Rm.set9 {B k C : Nat} {w : World} (h : Rm B k w) {v0 v1 v2 v3 v4 v5 v6 v7 v8 : Value} :
    Rm B k (((((((((w.setCell ⟨C, 0, none⟩ v0).setCell ⟨C, 1, none⟩ v1).setCell ⟨C, 2, none⟩ v2).setCell ⟨C, 3, none⟩ v3).setCell ⟨C, 4, none⟩ v4).setCell ⟨C, 5, none⟩ v5).setCell ⟨C, 6, none⟩ v6).setCell ⟨C, 7, none⟩ v7).setCell ⟨C, 8, none⟩ v8) :=
  ((((((((h.set _).set _).set _).set _).set _).set _).set _).set _).set _
theorem Rm.of_at {B : Nat} {vs : List Value} {w : World} (k : Nat) (h : At B vs w) (hk : vs.length = k) (z : ∀ i, i < k → w.frozen? ⟨B, i, none⟩ = false) : Rm B k w := fun i hi =>
  ⟨⟨vs[i]'(by omega), h i _ (by simp [hk, hi])⟩, z i hi⟩
theorem Rm.out9 {B : Nat} {w : World} (h : Rm B 9 w) : (∃ v, w.cell? ⟨B, 0, none⟩ = some v) ∧ w.frozen? ⟨B, 0, none⟩ = false ∧ (∃ v, w.cell? ⟨B, 1, none⟩ = some v) ∧ w.frozen? ⟨B, 1, none⟩ = false ∧ (∃ v, w.cell? ⟨B, 2, none⟩ = some v) ∧ w.frozen? ⟨B, 2, none⟩ = false ∧ (∃ v, w.cell? ⟨B, 3, none⟩ = some v) ∧ w.frozen? ⟨B, 3, none⟩ = false ∧ (∃ v, w.cell? ⟨B, 4, none⟩ = some v) ∧ w.frozen? ⟨B, 4, none⟩ = false ∧ (∃ v, w.cell? ⟨B, 5, none⟩ = some v) ∧ w.frozen? ⟨B, 5, none⟩ = false ∧ (∃ v, w.cell? ⟨B, 6, none⟩ = some v) ∧ w.frozen? ⟨B, 6, none⟩ = false ∧ (∃ v, w.cell? ⟨B, 7, none⟩ = some v) ∧ w.frozen? ⟨B, 7, none⟩ = false ∧ (∃ v, w.cell? ⟨B, 8, none⟩ = some v) ∧ w.frozen? ⟨B, 8, none⟩ = false :=
  ⟨(h 0 (by omega)).1, (h 0 (by omega)).2, (h 1 (by omega)).1, (h 1 (by omega)).2, (h 2 (by omega)).1, (h 2 (by omega)).2, (h 3 (by omega)).1, (h 3 (by omega)).2, (h 4 (by omega)).1, (h 4 (by omega)).2, (h 5 (by omega)).1, (h 5 (by omega)).2, (h 6 (by omega)).1, (h 6 (by omega)).2, (h 7 (by omega)).1, (h 7 (by omega)).2, (h 8 (by omega)).1, (h 8 (by omega)).2⟩
theorem Rm.put {B k : Nat} {w : World} (h : Rm B k w) (i : Nat) (hi : i < k) (u : Value) : (w.setCell ⟨B, i, none⟩ u).cell? ⟨B, i, none⟩ = some u := by
  obtain ⟨⟨v, c⟩, z⟩ := h i hi
  simp [go_sem, c]
theorem cell_put {B i j : Nat} {w : World} {u v : Value} (h : w.cell? ⟨B, i, none⟩ = some v) (e : j ≠ i) : (w.setCell ⟨B, j, none⟩ u).cell? ⟨B, i, none⟩ = some v := by
  rw [World.cell?_setCell_other w ⟨B, j, none⟩ ⟨B, i, none⟩ u (fun x => e (by cases x; rfl))]; exact h
theorem At.put9 {B : Nat} {w : World} (h : Rm B 9 w) {v0 v1 v2 v3 v4 v5 v6 v7 v8 : Value} :
    At B [v0, v1, v2, v3, v4, v5, v6, v7, v8] (((((((((w.setCell ⟨B, 0, none⟩ v0).setCell ⟨B, 1, none⟩ v1).setCell ⟨B, 2, none⟩ v2).setCell ⟨B, 3, none⟩ v3).setCell ⟨B, 4, none⟩ v4).setCell ⟨B, 5, none⟩ v5).setCell ⟨B, 6, none⟩ v6).setCell ⟨B, 7, none⟩ v7).setCell ⟨B, 8, none⟩ v8) := fun i v hi => by
  have h1 := h.set (p := ⟨B, 0, none⟩) v0
  have h2 := h1.set (p := ⟨B, 1, none⟩) v1
  have h3 := h2.set (p := ⟨B, 2, none⟩) v2
  have h4 := h3.set (p := ⟨B, 3, none⟩) v3
  have h5 := h4.set (p := ⟨B, 4, none⟩) v4
  have h6 := h5.set (p := ⟨B, 5, none⟩) v5
  have h7 := h6.set (p := ⟨B, 6, none⟩) v6
  have h8 := h7.set (p := ⟨B, 7, none⟩) v7
  match i with
  | 0 => simp at hi; subst hi; exact cell_put (cell_put (cell_put (cell_put (cell_put (cell_put (cell_put (cell_put (h.put 0 (by omega) _) (by decide)) (by decide)) (by decide)) (by decide)) (by decide)) (by decide)) (by decide)) (by decide)
  | 1 => simp at hi; subst hi; exact cell_put (cell_put (cell_put (cell_put (cell_put (cell_put (cell_put (h1.put 1 (by omega) _) (by decide)) (by decide)) (by decide)) (by decide)) (by decide)) (by decide)) (by decide)
  | 2 => simp at hi; subst hi; exact cell_put (cell_put (cell_put (cell_put (cell_put (cell_put (h2.put 2 (by omega) _) (by decide)) (by decide)) (by decide)) (by decide)) (by decide)) (by decide)
  | 3 => simp at hi; subst hi; exact cell_put (cell_put (cell_put (cell_put (cell_put (h3.put 3 (by omega) _) (by decide)) (by decide)) (by decide)) (by decide)) (by decide)
  | 4 => simp at hi; subst hi; exact cell_put (cell_put (cell_put (cell_put (h4.put 4 (by omega) _) (by decide)) (by decide)) (by decide)) (by decide)
  | 5 => simp at hi; subst hi; exact cell_put (cell_put (cell_put (h5.put 5 (by omega) _) (by decide)) (by decide)) (by decide)
  | 6 => simp at hi; subst hi; exact cell_put (cell_put (h6.put 6 (by omega) _) (by decide)) (by decide)
  | 7 => simp at hi; subst hi; exact cell_put (h7.put 7 (by omega) _) (by decide)
  | 8 => simp at hi; subst hi; exact h8.put 8 (by omega) _
  | n + 9 => simp at hi
theorem Rm.new (w : World) (vs : List Value) (t : TypeId) (k : Nat) (hk : vs.length = k) : Rm w.heap.size k (w.alloc (.cells vs.toArray t)) :=
  Rm.of_at k (At.new w vs t) hk (fun i hi => by simp [go_sem])
theorem Rm.new' (w : World) (vs : List Value) (t : TypeId) (k : Nat) (hk : vs.length = k) {B : Nat} (hB : w.heap.size = B) : Rm B k (w.alloc (.cells vs.toArray t)) := by subst hB; exact Rm.new w vs t k hk
theorem Rm.alloc {B k : Nat} {w : World} (h : Rm B k w) (c : Array Value) (t : TypeId) : Rm B k (w.alloc (.cells c t)) := fun i hi => by
  obtain ⟨⟨v, e⟩, z⟩ := h i hi
  exact ⟨⟨v, by rw [World.cell?_alloc_some w _ _ (by rw [e]; rfl)]; exact e⟩, by rw [frozen?_alloc_cells]; exact z⟩
end Go.Proofs.YtlfeandnpflaaaaGreatDoor
