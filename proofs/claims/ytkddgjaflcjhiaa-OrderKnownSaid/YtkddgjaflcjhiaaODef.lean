/-
  What order's functions answer, as truths of capabilities' fields. No condition.
-/
import Derived.Test.YtkddgjaflcjhiaaOCap
import Derived.Test.YtkddgjaflcjhiaaCSub
import Derived.Test.YtkddgjaflcjhiaaCPerm
namespace Go.Proofs.Ytkddgjaflcjhiaa
open Go.ChangeShapes Go.WideShapes Go.ChangeAt Go.RowKit
set_option linter.unusedVariables false
set_option linter.unusedSimpArgs false

/-- A right capability's fields, as far as they count here. -/
structure RC (c : Cp) : Prop where
  p0 : 0 ≤ c.pe
  p1 : c.pe < 65536
  y0 : 0 ≤ c.ty
  y1 : c.ty < 262144
  o0 : 0 ≤ c.mo
  o1 : c.mo < 2
  f : Fld c.e c.b c.t c.a
/-- Its unsealed form. -/
def uns (c : Cp) : Cp := { c with ty := 262143 }
theorem RC.uns {c : Cp} (h : RC c) : RC (uns c) := ⟨h.p0, h.p1, by show (0:Int) ≤ 262143; decide, by show (262143:Int) < 262144; decide, h.o0, h.o1, h.f⟩
def Cp.sealed (c : Cp) : Bool := sealedB c.ty
def lessB (x y : Cp) : Bool := x.tg && !x.sealed && !y.sealed && subB y.tg y.pe y.e y.b y.t y.g y.a x.tg x.pe x.e x.b x.t x.g x.a
def hasP (pe k : Int) : Bool := bits .and .i64 pe k == k
def namesB (b t : Int) (o : Bool) (k : Int) : Bool := decide (k ≤ 262135) && inB b t o k 1
def rngIn (c : Cp) (k : Int) : Bool := namesB (ofB c.e c.b c.a) (ofT c.e c.b c.t c.g c.a) (ofO c.e c.b c.t c.g c.a) k
def canD (c : Cp) (p k : Int) : Bool := !c.sealed && hasP c.pe p && rngIn c k
end Go.Proofs.Ytkddgjaflcjhiaa
