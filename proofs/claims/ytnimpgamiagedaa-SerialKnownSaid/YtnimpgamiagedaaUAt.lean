/-
  Calls of the program's UART and switch, by what they answer and leave. No condition but what the calls lean on.
-/
import Derived.Test.YtnimpgamiagedaaUCode
namespace Go.Proofs.Ytnimpgamiagedaa
open Go.ChangeShapes Go.WideShapes Go.ChangeAt Go.RowKit
set_option linter.unusedVariables false
set_option linter.unusedSimpArgs false
theorem Un.below {w w' : World} {lo hi g : Nat} {S : US} (m : Un w lo hi g S) (k : Below w.heap.size w w') : Un w' lo hi g S := m.fr ((Fr.refl w (fun _ => False)).below k (fun _ hi _ => hi)) (fun _ _ _ h => h)
theorem Pn.below {w w' : World} {lo hi g : Nat} {p : Bool} (m : Pn w lo hi g p) (k : Below w.heap.size w w') : Pn w' lo hi g p := m.fr ((Fr.refl w (fun _ => False)).below k (fun _ hi _ => hi)) (fun _ _ _ h => h)
theorem cuin_at {w : World} {lo hi g : Nat} {S : US} (m : Un w lo hi g S) (ok : S.Ok) (tb : UTb w) (b : Int) (r : Bool) (S' : US) (hr : S.inO = r) (hS : S.inp b = S') (b0 : 0 ≤ b) (b1 : b < 256) : Calls Try.prog 13 #[.pointer (some ⟨g, 0, none⟩), .int .u8 b] w fun e w' => e = .returned (.bool r) ∧ Un w' lo hi g S' ∧ Fr w w' (Rg lo hi) := by subst hr hS; exact cuin_w m ok tb b b0 b1
theorem cuout_at {w : World} {lo hi g : Nat} {S : US} (m : Un w lo hi g S) (ok : S.Ok) (tb : UTb w) (t : Int) (S' : US) (ht : S.told = t) (hS : S.out = S') : Calls Try.prog 15 #[.pointer (some ⟨g, 0, none⟩)] w fun e w' => e = .returned (.int .i64 t) ∧ Un w' lo hi g S' ∧ Fr w w' (Rg lo hi) := by subst ht hS; exact cuout_w m ok tb
theorem cuwaits_at {w : World} {lo hi g : Nat} {S : US} (m : Un w lo hi g S) (ok : S.Ok) (tb : UTb w) (n : Int) (hn : (S.l.length : Int) = n) : Calls Try.prog 25 #[.pointer (some ⟨g, 0, none⟩)] w fun e w' => e = .returned (.int .i64 n) ∧ Un w' lo hi g S ∧ Fr w w' (Rg lo hi) := by subst hn; exact cuwaits_w m ok tb
theorem cuload_at {w : World} {lo hi g : Nat} {S : US} (m : Un w lo hi g S) (ok : S.Ok) (tb : UTb w) (off size x : Int) (b : Bool) (S' : US) (hx : S.ldV off size = x) (hb : rgU off size = b) (hS : S.ldS off size = S') (o0 : -9223372036854775808 ≤ off) (o1 : off < 9223372036854775808) (s0 : -9223372036854775808 ≤ size) (s1 : size < 9223372036854775808) : Calls Try.prog 17 #[.pointer (some ⟨g, 0, none⟩), .int .i64 off, .int .i64 size] w fun e w' => e = .returned (.tuple #[.int .u64 x, .bool b]) ∧ Un w' lo hi g S' ∧ Fr w w' (Rg lo hi) := by subst hx hb hS; exact cuload_w m ok tb off size o0 o1 s0 s1
theorem custore_at {w : World} {lo hi g : Nat} {S : US} (m : Un w lo hi g S) (ok : S.Ok) (tb : UTb w) (off size v : Int) (b : Bool) (S' : US) (hb : rgU off size = b) (hS : S.stS off size v = S') (o0 : -9223372036854775808 ≤ off) (o1 : off < 9223372036854775808) (s0 : -9223372036854775808 ≤ size) (s1 : size < 9223372036854775808) (v0 : 0 ≤ v) (v1 : v < 18446744073709551616) : Calls Try.prog 19 #[.pointer (some ⟨g, 0, none⟩), .int .i64 off, .int .i64 size, .int .u64 v] w fun e w' => e = .returned (.bool b) ∧ Un w' lo hi g S' ∧ Fr w w' (Rg lo hi) := by subst hb hS; exact custore_w m ok tb off size v o0 o1 s0 s1 v0 v1
theorem cpwload_at {w : World} {lo hi g : Nat} {p : Bool} (m : Pn w lo hi g p) (tb : UTb w) (off size : Int) (b : Bool) (hb : pwO off size = b) (o0 : -9223372036854775808 ≤ off) (o1 : off < 9223372036854775808) (s0 : -9223372036854775808 ≤ size) (s1 : size < 9223372036854775808) : Calls Try.prog 21 #[.pointer (some ⟨g, 0, none⟩), .int .i64 off, .int .i64 size] w fun e w' => e = .returned (.tuple #[.int .u64 0, .bool b]) ∧ Pn w' lo hi g p ∧ Fr w w' (Rg lo hi) := by subst hb; exact cpwload_w m tb off size o0 o1 s0 s1
theorem cpwstore_at {w : World} {lo hi g : Nat} {p : Bool} (m : Pn w lo hi g p) (tb : UTb w) (off size v : Int) (b q : Bool) (hb : pwO off size = b) (hq : pwS p off size v = q) (o0 : -9223372036854775808 ≤ off) (o1 : off < 9223372036854775808) (s0 : -9223372036854775808 ≤ size) (s1 : size < 9223372036854775808) (v0 : 0 ≤ v) (v1 : v < 18446744073709551616) : Calls Try.prog 23 #[.pointer (some ⟨g, 0, none⟩), .int .i64 off, .int .i64 size, .int .u64 v] w fun e w' => e = .returned (.bool b) ∧ Pn w' lo hi g q ∧ Fr w w' (Rg lo hi) := by subst hb hq; exact cpwstore_w m tb off size v o0 o1 s0 s1 v0 v1
/-- The statements' of: what a register has. -/
theorem ofU_w {w : World} {lo hi g : Nat} {S : US} (m : Un w lo hi g S) (ok : S.Ok) (tb : UTb w) (off x : Int) (S' : US) (hx : S.ldV off 1 = x) (hS : S.ldS off 1 = S') (o0 : -9223372036854775808 ≤ off) (o1 : off < 9223372036854775808) : Calls Try.prog 30 #[.pointer (some ⟨g, 0, none⟩), .int .i64 off] w fun e w' => e = .returned (.int .u64 x) ∧ Un w' lo hi g S' ∧ Fr w w' (Rg lo hi) := by
  have HL := Lib.hid (cuload_at m ok tb off 1 x _ S' hx rfl hS o0 o1 (by decide) (by decide))
  clear m ok tb hx hS
  go_enter Try.func30, Try.ntmps30
  go_wp2_with (go_at_call 17; (with_reducible refine HL.out.mono ?_); rintro e' w1 ⟨rfl, m1, f1⟩; have HM1 := Lib.hid m1; have HF1 := Lib.hid f1; clear m1 f1)
  go_ret
  exact ⟨rfl, HM1.out, HF1.out⟩
/-- One UART of the program's in blocks of the call's own. -/
structure OneU (W w : World) (hi g : Nat) (S : US) : Prop where
  o : Un w W.heap.size hi g S
  b : Below W.heap.size W w
theorem OneU.code {W w w' : World} {hi g : Nat} {S S' : US} (h : OneU W w hi g S) (m : Un w' W.heap.size hi g S') (f : Fr w w' (Rg W.heap.size hi)) : OneU W w' hi g S' := ⟨m, h.b.trans (f.lows h.b.size (Nat.le_refl _))⟩
theorem OneU.alloc {W w : World} {hi g : Nat} {S : US} (h : OneU W w hi g S) (x : Obj) : OneU W (w.alloc x) hi g S := ⟨h.o.fr ((Fr.refl w (fun _ => False)).alloc x) (fun _ _ _ h => h), h.b.alloc h.b.size x⟩
theorem OneU.kp {W w w' : World} {hi g : Nat} {S : US} (h : OneU W w hi g S) (k : Kp w w') : OneU W w' hi g S := ⟨h.o.below k.1, h.b.trans (k.1.mono h.b.size)⟩
theorem OneU.bel {W w w' : World} {hi g : Nat} {S : US} (h : OneU W w hi g S) (k : Below w.heap.size w w') : OneU W w' hi g S := ⟨h.o.below k, h.b.trans (k.mono h.b.size)⟩
/-- A switch of the program's, and one UART. -/
structure OneP (W w : World) (lo hi g : Nat) (p : Bool) : Prop where
  o : Pn w lo hi g p
  b : Below W.heap.size W w
  h : W.heap.size ≤ lo
theorem OneP.code {W w w' : World} {lo hi g : Nat} {p q : Bool} (h : OneP W w lo hi g p) (m : Pn w' lo hi g q) (f : Fr w w' (Rg lo hi)) : OneP W w' lo hi g q := ⟨m, h.b.trans (f.lows h.b.size h.h), h.h⟩
theorem OneP.bel {W w w' : World} {lo hi g : Nat} {p : Bool} (h : OneP W w lo hi g p) (k : Below w.heap.size w w') : OneP W w' lo hi g p := ⟨h.o.below k, h.b.trans (k.mono h.b.size), h.h⟩
end Go.Proofs.Ytnimpgamiagedaa
