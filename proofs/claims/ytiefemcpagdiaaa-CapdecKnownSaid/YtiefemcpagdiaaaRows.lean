/-
  No cell of these rows narrows 'for every input' (looked for: loops, veiled, ifaces, maps, wideKeys, modest, calm, conditions, laid).
  DERIVED. THE GIVEN ROWS OF THIS SEAT. 4 by the template 'for every input the law returns true; each argument reads behind the call as it read before'; 0 by the template 'total and deterministic' (their statements: YtiefemcpagdiaaaTotals.lean).
  GIVEN WITH THE SEED: the statements are not yours to turn. If you find one false, say at which input.
  Laid BY PROGRAM, IN A SANDBOX (cutbox-rows.mjs): the forced cells as the released guide's own fill.sh prints them over the translation afa9f92cc56c1f25… (all of the seat's roots in one cut). By AI agents, Wed Nov 11 2026. No macro, syntax, notation, axiom, sorry.
-/
import Derived.Test.YtiefemcpagdiaaaChecked
import GoSem.Claim
import GoSem.ClaimJoined
import GoSem.ClaimMapViews
import Derived.JoinedTies
import Derived.KernelRfl
namespace Go.Proofs.Ytiefemcpagdiaaa
/- THE CELL 'sum', in the pinned program and in every row, IS THE sha256 OF THE DUMP (.gsa) THAT YtiefemcpagdiaaaProg.lean LOADS. Nothing in Lean hashes anything: it is a label: what it is worth is what the hold of that sum in a sandbox is worth. -/
noncomputable def Try.pinned : Pinned := { name := "ytiefemcpagdiaaa", sum := "afa9f92cc56c1f252bbdfe87ed19d17cf1d2a183242c5891c3b102a533c26678", checked := Try.checked }
namespace Rows
def none {H : Type} : Left H := { results := [], args := [] }

/-- 'ravelinlaw09.CapdecDecodes': WHATEVER THE INPUT: true; the input reads as it did. -/
def capdecDecodesSpec : ChangeSpec := { name := "capdecDecodes", fn := fun _ => fun
  | [d] => { results := [.lit (.bool true)], args := [d] }
  | _ => none }
def capdecDecodesRow : OpenClaim := { program := "ytiefemcpagdiaaa", sum := "afa9f92cc56c1f252bbdfe87ed19d17cf1d2a183242c5891c3b102a533c26678", func := "ravelin/ravelinlaw09.CapdecDecodes", spec := "capdecDecodes", apart := false }
def CapdecDecodesSaid : Prop := capdecDecodesRow.holds Try.pinned (OpenSpec.ofChange capdecDecodesSpec)

/-- ITS FALSE NEIGHBOUR: 'it returns false'. Refute it at one input. -/
def capdecDecodesWrong : ChangeSpec := { name := "capdecDecodes", fn := fun _ => fun
  | [d] => { results := [.lit (.bool false)], args := [d] }
  | _ => none }
def CapdecDecodesWrongFalsely : Prop := capdecDecodesRow.holds Try.pinned (OpenSpec.ofChange capdecDecodesWrong)

/-- 'ravelinlaw09.CapdecApart': WHATEVER THE INPUT: true; the input reads as it did. -/
def capdecApartSpec : ChangeSpec := { name := "capdecApart", fn := fun _ => fun
  | [d] => { results := [.lit (.bool true)], args := [d] }
  | _ => none }
def capdecApartRow : OpenClaim := { program := "ytiefemcpagdiaaa", sum := "afa9f92cc56c1f252bbdfe87ed19d17cf1d2a183242c5891c3b102a533c26678", func := "ravelin/ravelinlaw09.CapdecApart", spec := "capdecApart", unfollowed := true, recurses := true, apart := false }
def CapdecApartSaid : Prop := capdecApartRow.holds Try.pinned (OpenSpec.ofChange capdecApartSpec)

/-- ITS FALSE NEIGHBOUR: 'it returns false'. Refute it at one input. -/
def capdecApartWrong : ChangeSpec := { name := "capdecApart", fn := fun _ => fun
  | [d] => { results := [.lit (.bool false)], args := [d] }
  | _ => none }
def CapdecApartWrongFalsely : Prop := capdecApartRow.holds Try.pinned (OpenSpec.ofChange capdecApartWrong)

/-- 'ravelinlaw09.CapdecFields': WHATEVER THE INPUT: true; the input reads as it did. -/
def capdecFieldsSpec : ChangeSpec := { name := "capdecFields", fn := fun _ => fun
  | [d1, d2, d3, d4] => { results := [.lit (.bool true)], args := [d1, d2, d3, d4] }
  | _ => none }
def capdecFieldsRow : OpenClaim := { program := "ytiefemcpagdiaaa", sum := "afa9f92cc56c1f252bbdfe87ed19d17cf1d2a183242c5891c3b102a533c26678", func := "ravelin/ravelinlaw09.CapdecFields", spec := "capdecFields", apart := false }
def CapdecFieldsSaid : Prop := capdecFieldsRow.holds Try.pinned (OpenSpec.ofChange capdecFieldsSpec)

/-- ITS FALSE NEIGHBOUR: 'it returns false'. Refute it at one input. -/
def capdecFieldsWrong : ChangeSpec := { name := "capdecFields", fn := fun _ => fun
  | [d1, d2, d3, d4] => { results := [.lit (.bool false)], args := [d1, d2, d3, d4] }
  | _ => none }
def CapdecFieldsWrongFalsely : Prop := capdecFieldsRow.holds Try.pinned (OpenSpec.ofChange capdecFieldsWrong)

/-- 'ravelinlaw09.CapdecKnown': WHATEVER THE INPUT: true; the input reads as it did. -/
def capdecKnownSpec : ChangeSpec := { name := "capdecKnown", fn := fun _ => fun
  | [] => { results := [.lit (.bool true)], args := [] }
  | _ => none }
def capdecKnownRow : OpenClaim := { program := "ytiefemcpagdiaaa", sum := "afa9f92cc56c1f252bbdfe87ed19d17cf1d2a183242c5891c3b102a533c26678", func := "ravelin/ravelinlaw09.CapdecKnown", spec := "capdecKnown", apart := false }
def CapdecKnownSaid : Prop := capdecKnownRow.holds Try.pinned (OpenSpec.ofChange capdecKnownSpec)

/-- ITS FALSE NEIGHBOUR: 'it returns false'. Refute it at one input. -/
def capdecKnownWrong : ChangeSpec := { name := "capdecKnown", fn := fun _ => fun
  | [] => { results := [.lit (.bool false)], args := [] }
  | _ => none }
def CapdecKnownWrongFalsely : Prop := capdecKnownRow.holds Try.pinned (OpenSpec.ofChange capdecKnownWrong)

/- THE SECOND FORM. 'bulk': how many values and letters a reading holds, each counted each time it is reached (what is shared counts as often as it is met; a slice's spare places count too). A statement '..UptoSaid' is the law's where the arguments, and the package variables that the reading takes, are together of bulk at most 1048576: NARROWER than '..Said'. Prove '..Said' where nothing that the law and all that it calls make is longer than what came in: it says more and counts as full. Else prove '..UptoSaid'. A law counts once. -/
mutual
def uptoBulk {H : Type} : DataW H → Nat
  | .lit (.string bytes) => bytes.length + 1
  | .lit _ => 1
  | .nil => 1
  | .ptr d => uptoBulk d + 1
  | .slice elems spare => uptoBulkAll elems + uptoBulkAll spare + 1
  | .agg parts => uptoBulkAll parts + 1
  | .iface _ d => uptoBulk d + 1
  | .map entries => uptoBulkEntries entries + 1
  | .held _ => 1
def uptoBulkAll {H : Type} : List (DataW H) → Nat
  | [] => 0
  | d :: r => uptoBulk d + uptoBulkAll r
def uptoBulkEntries {H : Type} : List (Lit × DataW H) → Nat
  | [] => 0
  | x :: r => uptoBulkEntry x + uptoBulkEntries r
def uptoBulkEntry {H : Type} : Lit × DataW H → Nat
  | (.string bytes, d) => bytes.length + uptoBulk d + 1
  | (_, d) => uptoBulk d + 1
 end
def uptoSmall : (H : Type) → List (DataW H) → Bool := fun _ ds => decide (uptoBulkAll ds ≤ 1048576)
def OpenSpec.upto (s : _root_.Go.ChangeSpec) : _root_.Go.OpenSpec := { _root_.Go.OpenSpec.ofChange s with cond := some uptoSmall }

/-- 'ravelinlaw09.CapdecDecodes', WHERE WHAT IT READS IS OF BULK AT MOST 1048576: true; the input reads as it did. -/
def capdecDecodesUptoRow : OpenClaim := { program := "ytiefemcpagdiaaa", sum := "afa9f92cc56c1f252bbdfe87ed19d17cf1d2a183242c5891c3b102a533c26678", func := "ravelin/ravelinlaw09.CapdecDecodes", spec := "capdecDecodes", apart := false, narrowed := true }
def CapdecDecodesUptoSaid : Prop := capdecDecodesUptoRow.holds Try.pinned (OpenSpec.upto capdecDecodesSpec)

/-- 'ravelinlaw09.CapdecApart', WHERE WHAT IT READS IS OF BULK AT MOST 1048576: true; the input reads as it did. -/
def capdecApartUptoRow : OpenClaim := { program := "ytiefemcpagdiaaa", sum := "afa9f92cc56c1f252bbdfe87ed19d17cf1d2a183242c5891c3b102a533c26678", func := "ravelin/ravelinlaw09.CapdecApart", spec := "capdecApart", unfollowed := true, recurses := true, apart := false, narrowed := true }
def CapdecApartUptoSaid : Prop := capdecApartUptoRow.holds Try.pinned (OpenSpec.upto capdecApartSpec)

/-- 'ravelinlaw09.CapdecFields', WHERE WHAT IT READS IS OF BULK AT MOST 1048576: true; the input reads as it did. -/
def capdecFieldsUptoRow : OpenClaim := { program := "ytiefemcpagdiaaa", sum := "afa9f92cc56c1f252bbdfe87ed19d17cf1d2a183242c5891c3b102a533c26678", func := "ravelin/ravelinlaw09.CapdecFields", spec := "capdecFields", apart := false, narrowed := true }
def CapdecFieldsUptoSaid : Prop := capdecFieldsUptoRow.holds Try.pinned (OpenSpec.upto capdecFieldsSpec)

/-- 'ravelinlaw09.CapdecKnown', WHERE WHAT IT READS IS OF BULK AT MOST 1048576: true; the input reads as it did. -/
def capdecKnownUptoRow : OpenClaim := { program := "ytiefemcpagdiaaa", sum := "afa9f92cc56c1f252bbdfe87ed19d17cf1d2a183242c5891c3b102a533c26678", func := "ravelin/ravelinlaw09.CapdecKnown", spec := "capdecKnown", apart := false, narrowed := true }
def CapdecKnownUptoSaid : Prop := capdecKnownUptoRow.holds Try.pinned (OpenSpec.upto capdecKnownSpec)

end Rows
end Go.Proofs.Ytiefemcpagdiaaa
