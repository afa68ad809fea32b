/-
  One clint of the program's in blocks of the call's own; halves of a register. No condition but what the calls lean on.
-/
import Derived.Test.YtlpijioiopbmpaaTWorks
namespace Go.Proofs.Ytlpijioiopbmpaa
open Go.ChangeShapes Go.WideShapes Go.ChangeAt Go.RowKit
set_option linter.unusedVariables false
set_option linter.unusedSimpArgs false
structure OneT (W w : World) (hi g : Nat) (S : TS) : Prop where
  o : Cl w W.heap.size hi g S
  b : Below W.heap.size W w
theorem OneT.code {W w w' : World} {hi g : Nat} {S S' : TS} (h : OneT W w hi g S) (m : Cl w' W.heap.size hi g S') (f : Fr w w' (Rg W.heap.size hi)) : OneT W w' hi g S' := ⟨m, h.b.trans (f.lows h.b.size (Nat.le_refl _))⟩
theorem OneT.alloc {W w : World} {hi g : Nat} {S : TS} (h : OneT W w hi g S) (x : Obj) : OneT W (w.alloc x) hi g S := ⟨h.o.fr ((Fr.refl w (fun _ => False)).alloc x) (fun _ _ _ h => h), h.b.alloc h.b.size x⟩
theorem OneT.kp {W w w' : World} {hi g : Nat} {S : TS} (h : OneT W w hi g S) (k : Kp w w') : OneT W w' hi g S := ⟨h.o.below k.1, h.b.trans (k.1.mono h.b.size)⟩
/-- A register of 8 bytes: the alarm, or the time. -/
def wh (S : TS) (t : Bool) : Int := if t = true then S.now else S.al
theorem wh_bd {S : TS} (ok : S.Ok) (t : Bool) : 0 ≤ wh S t ∧ wh S t < 18446744073709551616 := by unfold wh; split; exact ⟨ok.n0, ok.n1⟩; exact ⟨ok.a0, ok.a1⟩
def setwh (S : TS) (t : Bool) (x : Int) : TS := if t = true then { S with now := x } else { S with al := x }
theorem halves_sum {x : Int} (x0 : 0 ≤ x) (x1 : x < 18446744073709551616) : bits .or .u64 (x % 4294967296) (x / 4294967296 * 4294967296) = x := by
  have h := up_word x0 x1 (v := x / 4294967296) (by omega) (by omega)
  rw [show IntKind.u64.wrap (x / 4294967296 * 4294967296) = x / 4294967296 * 4294967296 by rw [IntKind.wrap_u64]; omega] at h
  rw [h]; unfold laidT; rw [if_neg (by decide), if_pos rfl]; omega
end Go.Proofs.Ytlpijioiopbmpaa
