/-
  Calls of the program's clint, by what they answer and leave; its blocks through other calls. No condition but what the calls lean on.
-/
import Derived.Test.YtlpijioiopbmpaaTCode
import Derived.Test.YtlpijioiopbmpaaTRef
import Derived.Test.YtlpijioiopbmpaaFrAt
namespace Go.Proofs.Ytlpijioiopbmpaa
open Go.ChangeShapes Go.WideShapes Go.ChangeAt Go.RowKit
set_option linter.unusedVariables false
set_option linter.unusedSimpArgs false
theorem Cl.below {w w' : World} {lo hi g : Nat} {S : TS} (m : Cl w lo hi g S) (k : Below w.heap.size w w') : Cl w' lo hi g S := m.fr ((Fr.refl w (fun _ => False)).below k (fun _ hi _ => hi)) (fun _ _ _ h => h)
theorem cttick_at {w : World} {lo hi g : Nat} {S : TS} (m : Cl w lo hi g S) (ok : S.Ok) (tb : TTb w) (n : Int) (S' : TS) (hS : S.tick n = S') (n0 : -9223372036854775808 ≤ n) (n1 : n < 9223372036854775808) : Calls Try.prog 16 #[.pointer (some ⟨g, 0, none⟩), .int .i64 n] w fun e w' => e = .returned (.tuple #[]) ∧ Cl w' lo hi g S' ∧ Fr w w' (Rg lo hi) := by subst hS; exact cttick_w m ok tb n n0 n1
theorem cttime_at {w : World} {lo hi g : Nat} {S : TS} (m : Cl w lo hi g S) (ok : S.Ok) (tb : TTb w) (v : Int) (hv : S.now = v) : Calls Try.prog 20 #[.pointer (some ⟨g, 0, none⟩)] w fun e w' => e = .returned (.int .u64 v) ∧ Cl w' lo hi g S ∧ Fr w w' (Rg lo hi) := by subst hv; exact cttime_w m ok tb
theorem cttimer_at {w : World} {lo hi g : Nat} {S : TS} (m : Cl w lo hi g S) (ok : S.Ok) (tb : TTb w) (b : Bool) (hb : S.timer = b) : Calls Try.prog 21 #[.pointer (some ⟨g, 0, none⟩)] w fun e w' => e = .returned (.bool b) ∧ Cl w' lo hi g S ∧ Fr w w' (Rg lo hi) := by subst hb; exact cttimer_w m ok tb
theorem ctsoft_at {w : World} {lo hi g : Nat} {S : TS} (m : Cl w lo hi g S) (ok : S.Ok) (tb : TTb w) (b : Bool) (hb : S.be = b) : Calls Try.prog 19 #[.pointer (some ⟨g, 0, none⟩)] w fun e w' => e = .returned (.bool b) ∧ Cl w' lo hi g S ∧ Fr w w' (Rg lo hi) := by subst hb; exact ctsoft_w m ok tb
theorem ctload_at {w : World} {lo hi g : Nat} {S : TS} (m : Cl w lo hi g S) (ok : S.Ok) (tb : TTb w) (off size v : Int) (b : Bool) (hv : S.ldV off size = v) (hb : rgT off size = b) (o0 : -9223372036854775808 ≤ off) (o1 : off < 9223372036854775808) (s0 : -9223372036854775808 ≤ size) (s1 : size < 9223372036854775808) : Calls Try.prog 12 #[.pointer (some ⟨g, 0, none⟩), .int .i64 off, .int .i64 size] w fun e w' => e = .returned (.tuple #[.int .u64 v, .bool b]) ∧ Cl w' lo hi g S ∧ Fr w w' (Rg lo hi) := by subst hv hb; exact ctload_w m ok tb off size o0 o1 s0 s1
theorem ctstore_at {w : World} {lo hi g : Nat} {S : TS} (m : Cl w lo hi g S) (ok : S.Ok) (tb : TTb w) (off size v : Int) (b : Bool) (S' : TS) (hb : rgT off size = b) (hS : S.stS off size v = S') (o0 : -9223372036854775808 ≤ off) (o1 : off < 9223372036854775808) (s0 : -9223372036854775808 ≤ size) (s1 : size < 9223372036854775808) (v0 : 0 ≤ v) (v1 : v < 18446744073709551616) : Calls Try.prog 14 #[.pointer (some ⟨g, 0, none⟩), .int .i64 off, .int .i64 size, .int .u64 v] w fun e w' => e = .returned (.bool b) ∧ Cl w' lo hi g S' ∧ Fr w w' (Rg lo hi) := by subst hb hS; exact ctstore_w m ok tb off size v o0 o1 s0 s1 v0 v1
end Go.Proofs.Ytlpijioiopbmpaa
