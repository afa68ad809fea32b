/-
  A map of capabilities as a set: made, asked, written. No condition but that capabilities' numbers are in their places.
-/
import Derived.Test.YtmehbildddlgaaaODef
import Derived.Test.YtmehbildddlgaaaAgg9
import Derived.Maps.OwnSet
import Derived.DeepKeys4
namespace Go.Proofs.Ytmehbildddlgaaa
open Go.ChangeShapes Go.WideShapes Go.ChangeAt Go.RowKit Go.Maps
set_option linter.unusedVariables false
set_option linter.unusedSimpArgs false

theorem capKeyed : Keyed Try.prog 25 :=
  Keyed.of_law (deep_law_laid (m := 3) (by kernel_rfl) (by omega) (of_decide_eq_true (by kernel_rfl)) (by kernel_rfl) (by rw [Try.underlying25]))
theorem capCells : Try.prog.cellsOf 25 = 9 := by kernel_rfl
/-- What a capability reads as. -/
def capD (c : Cp) : DataW Unit := .agg [.lit (.bool c.tg), .lit (.int .i64 c.pe), .lit (.int .i64 c.ty), .lit (.int .i64 c.mo), .lit (.int .i64 c.e), .lit (.int .i64 c.b), .lit (.int .i64 c.t), .lit (.bool c.g), .lit (.int .u64 c.a)]
def kl (c : Cp) : Lit := (capD c).asKey
theorem wf_i {x : Int} (h : -9223372036854775808 ≤ x) (h2 : x < 9223372036854775808) : (Lit.int .i64 x).wf = true := by
  have hm0 : IntKind.i64.min = -9223372036854775808 := rfl
  have hm1 : IntKind.i64.max = 9223372036854775807 := rfl
  simp only [Lit.wf, Bool.and_eq_true, decide_eq_true_eq, hm0, hm1]; omega
theorem wf_u {x : Int} (h : 0 ≤ x) (h2 : x < 18446744073709551616) : (Lit.int .u64 x).wf = true := by
  have hm0 : IntKind.u64.min = 0 := rfl
  have hm1 : IntKind.u64.max = 18446744073709551615 := rfl
  simp only [Lit.wf, Bool.and_eq_true, decide_eq_true_eq, hm0, hm1]; omega
theorem keyCap (w : World) (c : Cp) (h : RC c) : keyOf Try.prog 25 (.agg #[.bool c.tg, .int .i64 c.pe, .int .i64 c.ty, .int .i64 c.mo, .int .i64 c.e, .int .i64 c.b, .int .i64 c.t, .bool c.g, .int .u64 c.a]) = some (kl c) := by
  have f := h.f
  have w1 := wf_i (x := c.pe) (by have := h.p0; omega) (by have := h.p1; omega)
  have w2 := wf_i (x := c.ty) (by have := h.y0; omega) (by have := h.y1; omega)
  have w3 := wf_i (x := c.mo) (by have := h.o0; omega) (by have := h.o1; omega)
  have w4 := wf_i (x := c.e) (by have := f.e0; omega) (by have := f.e1; omega)
  have w5 := wf_i (x := c.b) (by have := f.b0; omega) (by have := f.b1; omega)
  have w6 := wf_i (x := c.t) (by have := f.t0; omega) (by have := f.t1; omega)
  have w8 := wf_u (x := c.a) f.a0 f.a1
  have hr : DataW.Trod (fun _ => ()) Try.prog w 0 (fun _ => true) true 25 (.agg #[.bool c.tg, .int .i64 c.pe, .int .i64 c.ty, .int .i64 c.mo, .int .i64 c.e, .int .i64 c.b, .int .i64 c.t, .bool c.g, .int .u64 c.a]) (capD c) [] := by
    exact shut_agg9 (y0 := (.lit (.bool c.tg), [])) (y1 := (.lit (.int .i64 c.pe), [])) (y2 := (.lit (.int .i64 c.ty), [])) (y3 := (.lit (.int .i64 c.mo), [])) (y4 := (.lit (.int .i64 c.e), [])) (y5 := (.lit (.int .i64 c.b), [])) (y6 := (.lit (.int .i64 c.t), [])) (y7 := (.lit (.bool c.g), [])) (y8 := (.lit (.int .u64 c.a), []))
      Try.underlying25 (by kernel_rfl) capCells ⟨1, by simp [DataW.trod, Try.underlying4]⟩ ⟨1, by simp [DataW.trod, Try.underlying3, w1]⟩ ⟨1, by simp [DataW.trod, Try.underlying3, w2]⟩ ⟨1, by simp [DataW.trod, Try.underlying3, w3]⟩ ⟨1, by simp [DataW.trod, Try.underlying3, w4]⟩ ⟨1, by simp [DataW.trod, Try.underlying3, w5]⟩ ⟨1, by simp [DataW.trod, Try.underlying3, w6]⟩ ⟨1, by simp [DataW.trod, Try.underlying4]⟩ ⟨1, by simp [DataW.trod, Try.underlying23, w8]⟩
  exact (keyOf_asKey (by kernel_rfl) (by rw [Try.underlying25]) (by simp [Value.formed, Try.underlying25, capCells]) hr).1
theorem kl_inj (w : World) (x y : Cp) (hx : RC x) (hy : RC y) (h : kl x = kl y) : x = y := by
  have e := capKeyed.inj (keyCap w x hx) (h ▸ keyCap w y hy)
  rw [Cp.ext_iff']
  simpa [and_assoc] using e
/-- The map in block mb holds just these capabilities. -/
def MS (w : World) (mb : Nat) (L : List Cp) : Prop := ∃ n D, w.ownsMap Try.prog 25 (unitElem (H := Unit)) mb n D ∧ n ≤ L.length ∧ ∀ x, RC x → Maps.has D (kl x) = decide (x ∈ L)
theorem MS.made (w : World) : MS (w.alloc (.map #[] 0)) w.heap.size [] := ⟨0, _, World.ownsMap_made w _ _ _, Nat.le_refl _, fun x _ => by simp [Maps.has]⟩
theorem MS.lt {w : World} {mb : Nat} {L : List Cp} (h : MS w mb L) : mb < w.heap.size := by obtain ⟨n, D, o, _⟩ := h; exact o.lt
theorem MS.block {w w' : World} {mb : Nat} {L : List Cp} (h : MS w mb L) (e : w'.heap[mb]? = w.heap[mb]?) : MS w' mb L := by
  obtain ⟨n, D, ⟨es, clock, hb, r⟩, k⟩ := h
  exact ⟨n, D, ⟨es, clock, e.trans hb, r⟩, k⟩
theorem MS.drew {w : World} {mb : Nat} {L : List Cp} (h : MS w mb L) : MS w.drew mb L := h
theorem MS.alloc {w : World} {mb : Nat} {L : List Cp} (h : MS w mb L) (o : Obj) : MS (w.alloc o) mb L := h.block (heap_alloc_old w o h.lt)
theorem MS.setCell {w : World} {mb : Nat} {L : List Cp} (h : MS w mb L) {p : Addr} (hp : mb ≠ p.block) (u : Value) : MS (w.setCell p u) mb L := h.block (Below.heap_setCell w p u mb hp)
/-- Whether it has one. -/
theorem MS.look {w : World} {mb : Nat} {L : List Cp} (h : MS w mb L) (x : Cp) (hx : RC x) (v : Bool) (hv : decide (x ∈ L) = v) :
    (Instr.lookup 50 (.map (some mb)) (.agg #[.bool x.tg, .int .i64 x.pe, .int .i64 x.ty, .int .i64 x.mo, .int .i64 x.e, .int .i64 x.b, .int .i64 x.t, .bool x.g, .int .u64 x.a]) true).run Try.prog w = .ok (.tuple #[.agg #[], .bool v]) w := by
  obtain ⟨n, D, o, _, hh⟩ := h
  obtain ⟨u, ps, hr, hu⟩ := o.look_ok capKeyed Try.underlying50 (z := .agg #[]) (by kernel_rfl) (unitElem_mk) (keyCap w x hx)
  obtain ⟨rfl, _⟩ := unitElem_inv hu
  rw [hr, hh x hx, hv]
/-- One more. -/
theorem MS.put {w : World} {mb : Nat} {L : List Cp} (h : MS w mb L) (x : Cp) (hx : RC x) (hl : L.length < 1000000) :
    ∃ w', (Instr.mapUpdate 50 (.map (some mb)) (.agg #[.bool x.tg, .int .i64 x.pe, .int .i64 x.ty, .int .i64 x.mo, .int .i64 x.e, .int .i64 x.b, .int .i64 x.t, .bool x.g, .int .u64 x.a]) (.agg #[])).run Try.prog w = .ok () w' ∧ MS w' mb (L ++ [x]) ∧ w.mapTurned w' mb := by
  obtain ⟨n, D, o, hn, hh⟩ := h
  obtain ⟨w', hr, o', ht⟩ := o.store capKeyed Try.underlying50 (by unfold maxLen; omega) (keyCap w x hx) (unitElem_mk)
  refine ⟨w', hr, ⟨n + 1, _, o', by simp; omega, fun y hy => ?_⟩, ht⟩
  by_cases e : y = x
  · subst e
    rw [has_put_same o.isMap (capKeyed.key (keyCap w y hy))]; simp
  · rw [has_put_other (fun h => e (kl_inj w _ _ hy hx h)), hh y hy]; simp [e]
end Go.Proofs.Ytmehbildddlgaaa
