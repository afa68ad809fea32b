/-
  Calls of the program's interrupt controller, by what they answer and leave; its blocks through other calls. No condition but what the calls lean on.
-/
import Derived.Test.YtamhhdhoeghafaaPCode
namespace Go.Proofs.Ytamhhdhoeghafaa
open Go.ChangeShapes Go.WideShapes Go.ChangeAt Go.RowKit
set_option linter.unusedVariables false
set_option linter.unusedSimpArgs false
theorem Pl.below {w w' : World} {lo hi g : Nat} {S : PS} (m : Pl w lo hi g S) (k : Below w.heap.size w w') : Pl w' lo hi g S := m.fr ((Fr.refl w (fun _ => False)).below k (fun _ hi _ => hi)) (fun _ _ _ h => h)
theorem At.below {b : Nat} {vs : List Value} {w w' : World} (h : At b vs w) (k : Below w.heap.size w w') (hb : b < w.heap.size) : At b vs w' := fun i v hi => (k.cell (p := ⟨b, i, none⟩) hb).trans (h i v hi)
theorem At.fram {b : Nat} {vs : List Value} {w w' : World} {S : Nat → Prop} (h : At b vs w) (k : Fr w w' S) (hb : b < w.heap.size) (hS : ¬ S b) : At b vs w' := fun i v hi => (World.cell?_of_block (w := w) (k.block b hb hS)).trans (h i v hi)
/-- What was there ahead of the object stays. -/
theorem Fr.lows {w w' : World} {lo hi n : Nat} (f : Fr w w' (Rg lo hi)) (h1 : n ≤ w.heap.size) (h2 : n ≤ lo) : Below n w w' := f.bl h1 (fun i h => Nat.le_trans h2 h.1)
theorem cplines_at {w : World} {lo hi g : Nat} {S : PS} (m : Pl w lo hi g S) (ok : S.Ok) (tb : PTb w) (l : Int) (S' : PS) (hS : S.lines l = S') (l0 : 0 ≤ l) (l1 : l < 4294967296) : Calls Try.prog 11 #[.pointer (some ⟨g, 0, none⟩), .int .u32 l] w fun e w' => e = .returned (.tuple #[]) ∧ Pl w' lo hi g S' ∧ Fr w w' (Rg lo hi) := by subst hS; exact cplines_w m ok tb l l0 l1
theorem cpload_at {w : World} {lo hi g : Nat} {S : PS} (m : Pl w lo hi g S) (ok : S.Ok) (tb : PTb w) (off size v : Int) (b : Bool) (S' : PS) (hv : S.ldV off size = v) (hb : rgO off size = b) (hS : S.ldS off size = S') (o0 : -9223372036854775808 ≤ off) (o1 : off < 9223372036854775808) (s0 : -9223372036854775808 ≤ size) (s1 : size < 9223372036854775808) : Calls Try.prog 13 #[.pointer (some ⟨g, 0, none⟩), .int .i64 off, .int .i64 size] w fun e w' => e = .returned (.tuple #[.int .u64 v, .bool b]) ∧ Pl w' lo hi g S' ∧ Fr w w' (Rg lo hi) := by subst hv hb hS; exact cpload_w m ok tb off size o0 o1 s0 s1
theorem cpstore_at {w : World} {lo hi g : Nat} {S : PS} (m : Pl w lo hi g S) (ok : S.Ok) (tb : PTb w) (off size v : Int) (b : Bool) (S' : PS) (hb : rgO off size = b) (hS : S.stS off size v = S') (o0 : -9223372036854775808 ≤ off) (o1 : off < 9223372036854775808) (s0 : -9223372036854775808 ≤ size) (s1 : size < 9223372036854775808) (v0 : 0 ≤ v) (v1 : v < 18446744073709551616) : Calls Try.prog 15 #[.pointer (some ⟨g, 0, none⟩), .int .i64 off, .int .i64 size, .int .u64 v] w fun e w' => e = .returned (.bool b) ∧ Pl w' lo hi g S' ∧ Fr w w' (Rg lo hi) := by subst hb hS; exact cpstore_w m ok tb off size v o0 o1 s0 s1 v0 v1
theorem cppend_at {w : World} {lo hi g : Nat} {S : PS} (m : Pl w lo hi g S) (ok : S.Ok) (tb : PTb w) (c : Int) (b : Bool) (hb : S.pend c = b) (c0 : -9223372036854775808 ≤ c) (c1 : c < 9223372036854775808) : Calls Try.prog 17 #[.pointer (some ⟨g, 0, none⟩), .int .i64 c] w fun e w' => e = .returned (.bool b) ∧ Pl w' lo hi g S ∧ Fr w w' (Rg lo hi) := by subst hb; exact cppend_w m ok tb c c0 c1
/-- The statements' of: what a register has. -/
theorem of_w {w : World} {lo hi g : Nat} {S : PS} (m : Pl w lo hi g S) (ok : S.Ok) (tb : PTb w) (off v : Int) (S' : PS) (hv : S.ldV off 4 = v) (hS : S.ldS off 4 = S') (o0 : -9223372036854775808 ≤ off) (o1 : off < 9223372036854775808) : Calls Try.prog 20 #[.pointer (some ⟨g, 0, none⟩), .int .i64 off] w fun e w' => e = .returned (.int .u64 v) ∧ Pl w' lo hi g S' ∧ Fr w w' (Rg lo hi) := by
  have HL := Lib.hid (cpload_at m ok tb off 4 v _ S' hv rfl hS o0 o1 (by decide) (by decide))
  clear m ok tb hv hS
  go_enter Try.func20, Try.ntmps20
  go_wp2_with (go_at_call 13; (with_reducible refine HL.out.mono ?_); rintro e' w1 ⟨rfl, m1, f1⟩; have HM1 := Lib.hid m1; have HF1 := Lib.hid f1; clear m1 f1)
  go_ret
  exact ⟨rfl, HM1.out, HF1.out⟩
end Go.Proofs.Ytamhhdhoeghafaa
