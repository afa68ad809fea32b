/-
  Calls of the program's bus, by what they answer and leave; one bus in blocks of the call's own. No condition but what the calls lean on.
-/
import Derived.Test.YtikibfpfieoabaaJCode
namespace Go.Proofs.Ytikibfpfieoabaa
open Go.ChangeShapes Go.WideShapes Go.ChangeAt Go.RowKit
set_option linter.unusedVariables false
set_option linter.unusedSimpArgs false
theorem Bu.below {w w' : World} {lo hi g : Nat} {S : BS} (m : Bu w lo hi g S) (k : Below w.heap.size w w') : Bu w' lo hi g S := m.fr ((Fr.refl w (fun _ => False)).below k (fun _ hi _ => hi)) (fun _ _ _ h => h)
theorem cjload_at {w : World} {lo hi g : Nat} {S : BS} (m : Bu w lo hi g S) (ok : S.Ok) (tb : JTb w) (pa size x : Int) (o : Bool) (S' : BS) (hx : S.ldV pa size = x) (ho : S.ldO pa size = o) (hS : S.ldS pa size = S') (p0 : 0 ≤ pa) (p1 : pa < 18446744073709551616) (s0 : -9223372036854775808 ≤ size) (s1 : size < 9223372036854775808) : Calls Try.prog 10 #[.pointer (some ⟨g, 0, none⟩), .int .u64 pa, .int .i64 size] w fun e w' => e = .returned (.tuple #[.int .u64 x, .bool o]) ∧ Bu w' lo hi g S' ∧ Fr w w' (Rg lo hi) := by subst hx ho hS; exact cjload_w m ok tb pa size p0 p1 s0 s1
theorem cjstore_at {w : World} {lo hi g : Nat} {S : BS} (m : Bu w lo hi g S) (ok : S.Ok) (tb : JTb w) (pa size v : Int) (o : Bool) (S' : BS) (ho : S.ldO pa size = o) (hS : S.stS pa size v = S') (p0 : 0 ≤ pa) (p1 : pa < 18446744073709551616) (s0 : -9223372036854775808 ≤ size) (s1 : size < 9223372036854775808) (v0 : 0 ≤ v) (v1 : v < 18446744073709551616) : Calls Try.prog 11 #[.pointer (some ⟨g, 0, none⟩), .int .u64 pa, .int .i64 size, .int .u64 v] w fun e w' => e = .returned (.bool o) ∧ Bu w' lo hi g S' ∧ Fr w w' (Rg lo hi) := by subst ho hS; exact cjstore_w m ok tb pa size v p0 p1 s0 s1 v0 v1
theorem cjloadcap_at {w : World} {lo hi g : Nat} {S : BS} (m : Bu w lo hi g S) (ok : S.Ok) (tb : JTb w) (pa : Int) (v : Value) (o : Bool) (hv : S.lcV pa = v) (ho : S.lcO pa = o) (p0 : 0 ≤ pa) (p1 : pa < 18446744073709551616) : Calls Try.prog 9 #[.pointer (some ⟨g, 0, none⟩), .int .u64 pa] w fun e w' => e = .returned (.tuple #[v, .bool o]) ∧ Bu w' lo hi g S ∧ Fr w w' (Rg lo hi) := by subst hv ho; exact cjloadcap_w m ok tb pa p0 p1
theorem cjstorecap_at {w : World} {lo hi g : Nat} {S : BS} (m : Bu w lo hi g S) (ok : S.Ok) (tb : JTb w) (pa : Int) (o : Bool) (S' : BS) (tg : Bool) (pe ty mo ex b t : Int) (bg : Bool) (a : Int) (hR : RightP pe ty mo ex b t bg) (a0 : 0 ≤ a) (a1 : a < 18446744073709551616) (ho : S.lcO pa = o) (hS : S.scS pa tg a (xk (bitsV pe ty mo ex b t bg)) = S') (p0 : 0 ≤ pa) (p1 : pa < 18446744073709551616) : Calls Try.prog 8 #[.pointer (some ⟨g, 0, none⟩), .int .u64 pa, .agg #[.bool tg, .int .i64 pe, .int .i64 ty, .int .i64 mo, .int .i64 ex, .int .i64 b, .int .i64 t, .bool bg, .int .u64 a]] w fun e w' => e = .returned (.bool o) ∧ Bu w' lo hi g S' ∧ Fr w w' (Rg lo hi) := by subst ho hS; exact cjstorecap_w m ok tb pa p0 p1 tg pe ty mo ex b t bg a hR a0 a1
theorem cjlines_at {w : World} {lo hi g : Nat} {S : BS} (m : Bu w lo hi g S) (ok : S.Ok) (tb : JTb w) (l : Int) (hl : S.lines = l) : Calls Try.prog 13 #[.pointer (some ⟨g, 0, none⟩)] w fun e w' => e = .returned (.int .u64 l) ∧ Bu w' lo hi g S ∧ Fr w w' (Rg lo hi) := by subst hl; exact cjlines_w m ok tb
theorem cjinram_at {w : World} {lo hi g : Nat} {S : BS} (m : Bu w lo hi g S) (ok : S.Ok) (tb : JTb w) (pa n : Int) (o : Bool) (ho : inJ pa n 2147483648 S.B.length = o) (p0 : 0 ≤ pa) (p1 : pa < 18446744073709551616) (s0 : -9223372036854775808 ≤ n) (s1 : n < 9223372036854775808) : Calls Try.prog 14 #[.pointer (some ⟨g, 0, none⟩), .int .u64 pa, .int .i64 n] w fun e w' => e = .returned (.bool o) ∧ Bu w' lo hi g S ∧ Fr w w' (Rg lo hi) := by subst ho; exact cjinram_w m ok tb pa n p0 p1 s0 s1
structure OneJ (W w : World) (hi g : Nat) (S : BS) : Prop where
  o : Bu w W.heap.size hi g S
  b : Below W.heap.size W w
theorem OneJ.code {W w w' : World} {hi g : Nat} {S S' : BS} (h : OneJ W w hi g S) (m : Bu w' W.heap.size hi g S') (f : Fr w w' (Rg W.heap.size hi)) : OneJ W w' hi g S' := ⟨m, h.b.trans (f.lows h.b.size (Nat.le_refl _))⟩
theorem OneJ.bel {W w w' : World} {hi g : Nat} {S : BS} (h : OneJ W w hi g S) (k : Below w.heap.size w w') : OneJ W w' hi g S := ⟨h.o.below k, h.b.trans (k.mono h.b.size)⟩
theorem OneJ.kp {W w w' : World} {hi g : Nat} {S : BS} (h : OneJ W w hi g S) (k : Kp w w') : OneJ W w' hi g S := h.bel k.1
theorem OneJ.alloc {W w : World} {hi g : Nat} {S : BS} (h : OneJ W w hi g S) (x : Obj) : OneJ W (w.alloc x) hi g S := h.bel ((Below.refl _ w).alloc (Nat.le_refl _) x)
end Go.Proofs.Ytikibfpfieoabaa
