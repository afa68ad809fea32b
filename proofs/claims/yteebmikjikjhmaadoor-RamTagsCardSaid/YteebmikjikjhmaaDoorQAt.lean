/-
  Contracts of the code's memory with their answers named. No condition.
-/
import Derived.Test.YteebmikjikjhmaaDoorQDoes
namespace Go.Proofs.YteebmikjikjhmaaDoor
open Go.ChangeShapes Go.WideShapes Go.ChangeAt Go.RowKit
set_option linter.unusedVariables false
set_option linter.unusedSimpArgs false
theorem clen_at {w : World} {lo hi g : Nat} {B : List Int} {T : List Bool} (m : Ob w lo hi g B T) (n : Int) (hn : (B.length : Int) = n) : Calls Tryd.prog 12 #[.pointer (some ⟨g, 0, none⟩)] w fun e w' => e = .returned (.int .i64 n) ∧ Below w.heap.size w w' := by subst hn; exact clen_w m
theorem cload_at {w : World} {lo hi g : Nat} {B : List Int} {T : List Bool} (m : Ob w lo hi g B T) (off size x : Int) (ok : Bool) (hx : ldN B off size = x) (ho : ldO B.length off size = ok) (o0 : -9223372036854775808 ≤ off) (o1 : off < 9223372036854775808) (s0 : -9223372036854775808 ≤ size) (s1 : size < 9223372036854775808) :
    Calls Tryd.prog 17 #[.pointer (some ⟨g, 0, none⟩), .int .i64 off, .int .i64 size] w fun e w' => e = .returned (.tuple #[.int .u64 x, .bool ok]) ∧ Below w.heap.size w w' := by subst hx ho; exact cload_w m off size o0 o1 s0 s1
theorem cstore_at {w : World} {lo hi g : Nat} {B : List Int} {T : List Bool} (m : Ob w lo hi g B T) (off size v : Int) (ok : Bool) (B' : List Int) (T' : List Bool) (hb : sB B off size v = B') (ht : sT B.length T off size = T') (ho : ldO B.length off size = ok) (o0 : -9223372036854775808 ≤ off) (o1 : off < 9223372036854775808) (s0 : -9223372036854775808 ≤ size) (s1 : size < 9223372036854775808) (v0 : 0 ≤ v) (v1 : v < 18446744073709551616) :
    Calls Tryd.prog 21 #[.pointer (some ⟨g, 0, none⟩), .int .i64 off, .int .i64 size, .int .u64 v] w fun e w' => e = .returned (.bool ok) ∧ Ob w' lo hi g B' T' ∧ Fr w w' (Rg lo hi) := by subst hb ht ho; exact cstore_w m off size v o0 o1 s0 s1 v0 v1
theorem cloadcap_at {w : World} {lo hi g : Nat} {B : List Int} {T : List Bool} (m : Ob w lo hi g B T) (off x y : Int) (t ok : Bool) (ht : cpT T B.length off = t) (hx : cpA B off = x) (hy : cpM B off = y) (ho : cpO B.length off = ok) (o0 : -9223372036854775808 ≤ off) (o1 : off < 9223372036854775808) :
    Calls Tryd.prog 22 #[.pointer (some ⟨g, 0, none⟩), .int .i64 off] w fun e w' => e = .returned (.tuple #[.bool t, .int .u64 x, .int .u64 y, .bool ok]) ∧ Below w.heap.size w w' := by subst ht hx hy ho; exact cloadcap_w m off o0 o1
theorem cstorecap_at {w : World} {lo hi g : Nat} {B : List Int} {T : List Bool} (m : Ob w lo hi g B T) (off : Int) (b : Bool) (a d : Int) (ok : Bool) (B' : List Int) (T' : List Bool) (hb : cB B off a d = B') (ht : cT B.length T off b = T') (ho : cpO B.length off = ok) (o0 : -9223372036854775808 ≤ off) (o1 : off < 9223372036854775808) (a0 : 0 ≤ a) (a1 : a < 18446744073709551616) (d0 : 0 ≤ d) (d1 : d < 18446744073709551616) :
    Calls Tryd.prog 20 #[.pointer (some ⟨g, 0, none⟩), .int .i64 off, .bool b, .int .u64 a, .int .u64 d] w fun e w' => e = .returned (.bool ok) ∧ Ob w' lo hi g B' T' ∧ Fr w w' (Rg lo hi) := by subst hb ht ho; exact cstorecap_w m off b a d o0 o1 a0 a1 d0 d1
theorem ctagged_at {w : World} {lo hi g : Nat} {B : List Int} {T : List Bool} (m : Ob w lo hi g B T) (L : List Int) (hL : tgs 0 T = L) (tb : Tb w) : Calls Tryd.prog 15 #[.pointer (some ⟨g, 0, none⟩)] w fun e w' => ∃ v, e = .returned v ∧ RdI w' v L ∧ Below w.heap.size w w' := by subst hL; exact ctagged_w m tb
theorem Fr.low {a b : World} {lo hi n : Nat} (h : Fr a b (Rg lo hi)) (hn : n ≤ a.heap.size) (hl : n ≤ lo) : Below n a b := h.bl hn (fun i x => Nat.le_trans hl x.1)
/-- A list that was just built. -/
theorem RdI.built (w : World) (t : TypeId) (L : List Int) : RdI (w.alloc (.cells (L.map (Value.int .i64)).toArray t)) (.slice (some ⟨w.heap.size, 0, none⟩) L.length L.length) L :=
  ⟨_, _, rfl, Nat.le_refl _, fun i x hx => ⟨_, rfl, by simp, (Blk.new w t (L.map (Value.int .i64))).at_ i _ (by rw [List.getElem?_map, hx]; rfl)⟩⟩
theorem RdI.one (w : World) (t : TypeId) (x : Int) : RdI (w.alloc (.cells #[.int .i64 x] t)) (.slice (some ⟨w.heap.size, 0, none⟩) 1 1) [x] := RdI.built w t [x]
theorem RdI.none (w : World) : RdI w (.slice none 0 0) [] := ⟨_, _, rfl, Nat.le_refl _, fun i x hx => by simp at hx⟩
end Go.Proofs.YteebmikjikjhmaaDoor
