/-
  No cell of these rows narrows 'for every input' (looked for: loops, veiled, ifaces, maps, wideKeys, modest, calm, conditions, laid).
  DERIVED. THE GIVEN ROWS OF THIS SEAT. 8 by the template 'for every input the law returns true; each argument reads behind the call as it read before'; 0 by the template 'total and deterministic' (their statements: YtddgmbfngbobgaaTotals.lean).
  GIVEN WITH THE SEED: the statements are not yours to turn. If you find one false, say at which input.
  Laid BY PROGRAM, IN A SANDBOX (cutbox-rows.mjs): the forced cells as the released guide's own fill.sh prints them over the translation ef1c9124f2de6365… (all of the seat's roots in one cut). By AI agents, Wed Nov 11 2026. No macro, syntax, notation, axiom, sorry.
-/
import Derived.Test.YtddgmbfngbobgaaChecked
import GoSem.Claim
import GoSem.ClaimJoined
import GoSem.ClaimMapViews
import Derived.JoinedTies
import Derived.KernelRfl
namespace Go.Proofs.Ytddgmbfngbobgaa
/- THE CELL 'sum', in the pinned program and in every row, IS THE sha256 OF THE DUMP (.gsa) THAT YtddgmbfngbobgaaProg.lean LOADS. Nothing in Lean hashes anything: it is a label: what it is worth is what the hold of that sum in a sandbox is worth. -/
noncomputable def Try.pinned : Pinned := { name := "ytddgmbfngbobgaa", sum := "ef1c9124f2de636550376b7473c1f5f55d973d71699fb1c4a1c66ce62799e9c1", checked := Try.checked }
namespace Rows
def none {H : Type} : Left H := { results := [], args := [] }

/-- 'ravelinlaw05.CapopsOne': WHATEVER THE INPUT: true; the input reads as it did. -/
def capopsOneSpec : ChangeSpec := { name := "capopsOne", fn := fun _ => fun
  | [d1, d2, d3, d4] => { results := [.lit (.bool true)], args := [d1, d2, d3, d4] }
  | _ => none }
def capopsOneRow : OpenClaim := { program := "ytddgmbfngbobgaa", sum := "ef1c9124f2de636550376b7473c1f5f55d973d71699fb1c4a1c66ce62799e9c1", func := "ravelin/ravelinlaw05.CapopsOne", spec := "capopsOne", inPlace := ["math/bits.Add64"], unfollowed := true, recurses := true, apart := false }
def CapopsOneSaid : Prop := capopsOneRow.holds Try.pinned (OpenSpec.ofChange capopsOneSpec)

/-- ITS FALSE NEIGHBOUR: 'it returns false'. Refute it at one input. -/
def capopsOneWrong : ChangeSpec := { name := "capopsOne", fn := fun _ => fun
  | [d1, d2, d3, d4] => { results := [.lit (.bool false)], args := [d1, d2, d3, d4] }
  | _ => none }
def CapopsOneWrongFalsely : Prop := capopsOneRow.holds Try.pinned (OpenSpec.ofChange capopsOneWrong)

/-- 'ravelinlaw05.CapopsTwo': WHATEVER THE INPUT: true; the input reads as it did. -/
def capopsTwoSpec : ChangeSpec := { name := "capopsTwo", fn := fun _ => fun
  | [d1, d2] => { results := [.lit (.bool true)], args := [d1, d2] }
  | _ => none }
def capopsTwoRow : OpenClaim := { program := "ytddgmbfngbobgaa", sum := "ef1c9124f2de636550376b7473c1f5f55d973d71699fb1c4a1c66ce62799e9c1", func := "ravelin/ravelinlaw05.CapopsTwo", spec := "capopsTwo", inPlace := ["math/bits.Add64"], unfollowed := true, recurses := true, apart := false }
def CapopsTwoSaid : Prop := capopsTwoRow.holds Try.pinned (OpenSpec.ofChange capopsTwoSpec)

/-- ITS FALSE NEIGHBOUR: 'it returns false'. Refute it at one input. -/
def capopsTwoWrong : ChangeSpec := { name := "capopsTwo", fn := fun _ => fun
  | [d1, d2] => { results := [.lit (.bool false)], args := [d1, d2] }
  | _ => none }
def CapopsTwoWrongFalsely : Prop := capopsTwoRow.holds Try.pinned (OpenSpec.ofChange capopsTwoWrong)

/-- 'ravelinlaw05.CapopsGets': WHATEVER THE INPUT: true; the input reads as it did. -/
def capopsGetsSpec : ChangeSpec := { name := "capopsGets", fn := fun _ => fun
  | [d1, d2] => { results := [.lit (.bool true)], args := [d1, d2] }
  | _ => none }
def capopsGetsRow : OpenClaim := { program := "ytddgmbfngbobgaa", sum := "ef1c9124f2de636550376b7473c1f5f55d973d71699fb1c4a1c66ce62799e9c1", func := "ravelin/ravelinlaw05.CapopsGets", spec := "capopsGets", inPlace := ["math/bits.Add64"], unfollowed := true, recurses := true, apart := false }
def CapopsGetsSaid : Prop := capopsGetsRow.holds Try.pinned (OpenSpec.ofChange capopsGetsSpec)

/-- ITS FALSE NEIGHBOUR: 'it returns false'. Refute it at one input. -/
def capopsGetsWrong : ChangeSpec := { name := "capopsGets", fn := fun _ => fun
  | [d1, d2] => { results := [.lit (.bool false)], args := [d1, d2] }
  | _ => none }
def CapopsGetsWrongFalsely : Prop := capopsGetsRow.holds Try.pinned (OpenSpec.ofChange capopsGetsWrong)

/-- 'ravelinlaw05.CapopsLess': WHATEVER THE INPUT: true; the input reads as it did. -/
def capopsLessSpec : ChangeSpec := { name := "capopsLess", fn := fun _ => fun
  | [d1, d2, d3, d4, d5] => { results := [.lit (.bool true)], args := [d1, d2, d3, d4, d5] }
  | _ => none }
def capopsLessRow : OpenClaim := { program := "ytddgmbfngbobgaa", sum := "ef1c9124f2de636550376b7473c1f5f55d973d71699fb1c4a1c66ce62799e9c1", func := "ravelin/ravelinlaw05.CapopsLess", spec := "capopsLess", inPlace := ["math/bits.Add64"], unfollowed := true, recurses := true, apart := false }
def CapopsLessSaid : Prop := capopsLessRow.holds Try.pinned (OpenSpec.ofChange capopsLessSpec)

/-- ITS FALSE NEIGHBOUR: 'it returns false'. Refute it at one input. -/
def capopsLessWrong : ChangeSpec := { name := "capopsLess", fn := fun _ => fun
  | [d1, d2, d3, d4, d5] => { results := [.lit (.bool false)], args := [d1, d2, d3, d4, d5] }
  | _ => none }
def CapopsLessWrongFalsely : Prop := capopsLessRow.holds Try.pinned (OpenSpec.ofChange capopsLessWrong)

/-- 'ravelinlaw05.CapopsSeals': WHATEVER THE INPUT: true; the input reads as it did. -/
def capopsSealsSpec : ChangeSpec := { name := "capopsSeals", fn := fun _ => fun
  | [d1, d2, d3] => { results := [.lit (.bool true)], args := [d1, d2, d3] }
  | _ => none }
def capopsSealsRow : OpenClaim := { program := "ytddgmbfngbobgaa", sum := "ef1c9124f2de636550376b7473c1f5f55d973d71699fb1c4a1c66ce62799e9c1", func := "ravelin/ravelinlaw05.CapopsSeals", spec := "capopsSeals", inPlace := ["math/bits.Add64"], unfollowed := true, recurses := true, apart := false }
def CapopsSealsSaid : Prop := capopsSealsRow.holds Try.pinned (OpenSpec.ofChange capopsSealsSpec)

/-- ITS FALSE NEIGHBOUR: 'it returns false'. Refute it at one input. -/
def capopsSealsWrong : ChangeSpec := { name := "capopsSeals", fn := fun _ => fun
  | [d1, d2, d3] => { results := [.lit (.bool false)], args := [d1, d2, d3] }
  | _ => none }
def CapopsSealsWrongFalsely : Prop := capopsSealsRow.holds Try.pinned (OpenSpec.ofChange capopsSealsWrong)

/-- 'ravelinlaw05.CapopsStays': WHATEVER THE INPUT: true; the input reads as it did. -/
def capopsStaysSpec : ChangeSpec := { name := "capopsStays", fn := fun _ => fun
  | [d1, d2, d3, d4] => { results := [.lit (.bool true)], args := [d1, d2, d3, d4] }
  | _ => none }
def capopsStaysRow : OpenClaim := { program := "ytddgmbfngbobgaa", sum := "ef1c9124f2de636550376b7473c1f5f55d973d71699fb1c4a1c66ce62799e9c1", func := "ravelin/ravelinlaw05.CapopsStays", spec := "capopsStays", inPlace := ["math/bits.Add64"], unfollowed := true, recurses := true, apart := false }
def CapopsStaysSaid : Prop := capopsStaysRow.holds Try.pinned (OpenSpec.ofChange capopsStaysSpec)

/-- ITS FALSE NEIGHBOUR: 'it returns false'. Refute it at one input. -/
def capopsStaysWrong : ChangeSpec := { name := "capopsStays", fn := fun _ => fun
  | [d1, d2, d3, d4] => { results := [.lit (.bool false)], args := [d1, d2, d3, d4] }
  | _ => none }
def CapopsStaysWrongFalsely : Prop := capopsStaysRow.holds Try.pinned (OpenSpec.ofChange capopsStaysWrong)

/-- 'ravelinlaw05.CapopsSubset': WHATEVER THE INPUT: true; the input reads as it did. -/
def capopsSubsetSpec : ChangeSpec := { name := "capopsSubset", fn := fun _ => fun
  | [d1, d2, d3, d4, d5] => { results := [.lit (.bool true)], args := [d1, d2, d3, d4, d5] }
  | _ => none }
def capopsSubsetRow : OpenClaim := { program := "ytddgmbfngbobgaa", sum := "ef1c9124f2de636550376b7473c1f5f55d973d71699fb1c4a1c66ce62799e9c1", func := "ravelin/ravelinlaw05.CapopsSubset", spec := "capopsSubset", inPlace := ["math/bits.Add64"], unfollowed := true, recurses := true, apart := false }
def CapopsSubsetSaid : Prop := capopsSubsetRow.holds Try.pinned (OpenSpec.ofChange capopsSubsetSpec)

/-- ITS FALSE NEIGHBOUR: 'it returns false'. Refute it at one input. -/
def capopsSubsetWrong : ChangeSpec := { name := "capopsSubset", fn := fun _ => fun
  | [d1, d2, d3, d4, d5] => { results := [.lit (.bool false)], args := [d1, d2, d3, d4, d5] }
  | _ => none }
def CapopsSubsetWrongFalsely : Prop := capopsSubsetRow.holds Try.pinned (OpenSpec.ofChange capopsSubsetWrong)

/-- 'ravelinlaw05.CapopsKnown': WHATEVER THE INPUT: true; the input reads as it did. -/
def capopsKnownSpec : ChangeSpec := { name := "capopsKnown", fn := fun _ => fun
  | [] => { results := [.lit (.bool true)], args := [] }
  | _ => none }
def capopsKnownRow : OpenClaim := { program := "ytddgmbfngbobgaa", sum := "ef1c9124f2de636550376b7473c1f5f55d973d71699fb1c4a1c66ce62799e9c1", func := "ravelin/ravelinlaw05.CapopsKnown", spec := "capopsKnown", inPlace := ["math/bits.Add64"], unfollowed := true, recurses := true, apart := false }
def CapopsKnownSaid : Prop := capopsKnownRow.holds Try.pinned (OpenSpec.ofChange capopsKnownSpec)

/-- ITS FALSE NEIGHBOUR: 'it returns false'. Refute it at one input. -/
def capopsKnownWrong : ChangeSpec := { name := "capopsKnown", fn := fun _ => fun
  | [] => { results := [.lit (.bool false)], args := [] }
  | _ => none }
def CapopsKnownWrongFalsely : Prop := capopsKnownRow.holds Try.pinned (OpenSpec.ofChange capopsKnownWrong)

/- THE SECOND FORM. 'bulk': how many values and letters a reading holds, each counted each time it is reached (what is shared counts as often as it is met; a slice's spare places count too). A statement '..UptoSaid' is the law's where the arguments, and the package variables that the reading takes, are together of bulk at most 1048576: NARROWER than '..Said'. Prove '..Said' where nothing that the law and all that it calls make is longer than what came in: it says more and counts as full. Else prove '..UptoSaid'. A law counts once. -/
mutual
def uptoBulk {H : Type} : DataW H → Nat
  | .lit (.string bytes) => bytes.length + 1
  | .lit _ => 1
  | .nil => 1
  | .ptr d => uptoBulk d + 1
  | .slice elems spare => uptoBulkAll elems + uptoBulkAll spare + 1
  | .agg parts => uptoBulkAll parts + 1
  | .iface _ d => uptoBulk d + 1
  | .map entries => uptoBulkEntries entries + 1
  | .held _ => 1
def uptoBulkAll {H : Type} : List (DataW H) → Nat
  | [] => 0
  | d :: r => uptoBulk d + uptoBulkAll r
def uptoBulkEntries {H : Type} : List (Lit × DataW H) → Nat
  | [] => 0
  | x :: r => uptoBulkEntry x + uptoBulkEntries r
def uptoBulkEntry {H : Type} : Lit × DataW H → Nat
  | (.string bytes, d) => bytes.length + uptoBulk d + 1
  | (_, d) => uptoBulk d + 1
 end
def uptoSmall : (H : Type) → List (DataW H) → Bool := fun _ ds => decide (uptoBulkAll ds ≤ 1048576)
def OpenSpec.upto (s : _root_.Go.ChangeSpec) : _root_.Go.OpenSpec := { _root_.Go.OpenSpec.ofChange s with cond := some uptoSmall }

/-- 'ravelinlaw05.CapopsOne', WHERE WHAT IT READS IS OF BULK AT MOST 1048576: true; the input reads as it did. -/
def capopsOneUptoRow : OpenClaim := { program := "ytddgmbfngbobgaa", sum := "ef1c9124f2de636550376b7473c1f5f55d973d71699fb1c4a1c66ce62799e9c1", func := "ravelin/ravelinlaw05.CapopsOne", spec := "capopsOne", inPlace := ["math/bits.Add64"], unfollowed := true, recurses := true, apart := false, narrowed := true }
def CapopsOneUptoSaid : Prop := capopsOneUptoRow.holds Try.pinned (OpenSpec.upto capopsOneSpec)

/-- 'ravelinlaw05.CapopsTwo', WHERE WHAT IT READS IS OF BULK AT MOST 1048576: true; the input reads as it did. -/
def capopsTwoUptoRow : OpenClaim := { program := "ytddgmbfngbobgaa", sum := "ef1c9124f2de636550376b7473c1f5f55d973d71699fb1c4a1c66ce62799e9c1", func := "ravelin/ravelinlaw05.CapopsTwo", spec := "capopsTwo", inPlace := ["math/bits.Add64"], unfollowed := true, recurses := true, apart := false, narrowed := true }
def CapopsTwoUptoSaid : Prop := capopsTwoUptoRow.holds Try.pinned (OpenSpec.upto capopsTwoSpec)

/-- 'ravelinlaw05.CapopsGets', WHERE WHAT IT READS IS OF BULK AT MOST 1048576: true; the input reads as it did. -/
def capopsGetsUptoRow : OpenClaim := { program := "ytddgmbfngbobgaa", sum := "ef1c9124f2de636550376b7473c1f5f55d973d71699fb1c4a1c66ce62799e9c1", func := "ravelin/ravelinlaw05.CapopsGets", spec := "capopsGets", inPlace := ["math/bits.Add64"], unfollowed := true, recurses := true, apart := false, narrowed := true }
def CapopsGetsUptoSaid : Prop := capopsGetsUptoRow.holds Try.pinned (OpenSpec.upto capopsGetsSpec)

/-- 'ravelinlaw05.CapopsLess', WHERE WHAT IT READS IS OF BULK AT MOST 1048576: true; the input reads as it did. -/
def capopsLessUptoRow : OpenClaim := { program := "ytddgmbfngbobgaa", sum := "ef1c9124f2de636550376b7473c1f5f55d973d71699fb1c4a1c66ce62799e9c1", func := "ravelin/ravelinlaw05.CapopsLess", spec := "capopsLess", inPlace := ["math/bits.Add64"], unfollowed := true, recurses := true, apart := false, narrowed := true }
def CapopsLessUptoSaid : Prop := capopsLessUptoRow.holds Try.pinned (OpenSpec.upto capopsLessSpec)

/-- 'ravelinlaw05.CapopsSeals', WHERE WHAT IT READS IS OF BULK AT MOST 1048576: true; the input reads as it did. -/
def capopsSealsUptoRow : OpenClaim := { program := "ytddgmbfngbobgaa", sum := "ef1c9124f2de636550376b7473c1f5f55d973d71699fb1c4a1c66ce62799e9c1", func := "ravelin/ravelinlaw05.CapopsSeals", spec := "capopsSeals", inPlace := ["math/bits.Add64"], unfollowed := true, recurses := true, apart := false, narrowed := true }
def CapopsSealsUptoSaid : Prop := capopsSealsUptoRow.holds Try.pinned (OpenSpec.upto capopsSealsSpec)

/-- 'ravelinlaw05.CapopsStays', WHERE WHAT IT READS IS OF BULK AT MOST 1048576: true; the input reads as it did. -/
def capopsStaysUptoRow : OpenClaim := { program := "ytddgmbfngbobgaa", sum := "ef1c9124f2de636550376b7473c1f5f55d973d71699fb1c4a1c66ce62799e9c1", func := "ravelin/ravelinlaw05.CapopsStays", spec := "capopsStays", inPlace := ["math/bits.Add64"], unfollowed := true, recurses := true, apart := false, narrowed := true }
def CapopsStaysUptoSaid : Prop := capopsStaysUptoRow.holds Try.pinned (OpenSpec.upto capopsStaysSpec)

/-- 'ravelinlaw05.CapopsSubset', WHERE WHAT IT READS IS OF BULK AT MOST 1048576: true; the input reads as it did. -/
def capopsSubsetUptoRow : OpenClaim := { program := "ytddgmbfngbobgaa", sum := "ef1c9124f2de636550376b7473c1f5f55d973d71699fb1c4a1c66ce62799e9c1", func := "ravelin/ravelinlaw05.CapopsSubset", spec := "capopsSubset", inPlace := ["math/bits.Add64"], unfollowed := true, recurses := true, apart := false, narrowed := true }
def CapopsSubsetUptoSaid : Prop := capopsSubsetUptoRow.holds Try.pinned (OpenSpec.upto capopsSubsetSpec)

/-- 'ravelinlaw05.CapopsKnown', WHERE WHAT IT READS IS OF BULK AT MOST 1048576: true; the input reads as it did. -/
def capopsKnownUptoRow : OpenClaim := { program := "ytddgmbfngbobgaa", sum := "ef1c9124f2de636550376b7473c1f5f55d973d71699fb1c4a1c66ce62799e9c1", func := "ravelin/ravelinlaw05.CapopsKnown", spec := "capopsKnown", inPlace := ["math/bits.Add64"], unfollowed := true, recurses := true, apart := false, narrowed := true }
def CapopsKnownUptoSaid : Prop := capopsKnownUptoRow.holds Try.pinned (OpenSpec.upto capopsKnownSpec)

end Rows
end Go.Proofs.Ytddgmbfngbobgaa
