/-
  No cell of these rows narrows 'for every input' (looked for: loops, veiled, ifaces, maps, wideKeys, modest, calm, conditions, laid).
  DERIVED. THE GIVEN ROWS OF THIS SEAT. 5 by the template 'for every input the law returns true; each argument reads behind the call as it read before'; 0 by the template 'total and deterministic' (their statements: YtlpijioiopbmpaaTotals.lean).
  GIVEN WITH THE SEED: the statements are not yours to turn. If you find one false, say at which input.
  Laid BY PROGRAM, IN A SANDBOX (cutbox-rows.mjs): the forced cells as the released guide's own fill.sh prints them over the translation b04f54cbcdab5bcb… (all of the seat's roots in one cut). By AI agents, Wed Nov 11 2026. No macro, syntax, notation, axiom, sorry.
-/
import Derived.Test.YtlpijioiopbmpaaChecked
import GoSem.Claim
import GoSem.ClaimJoined
import GoSem.ClaimMapViews
import Derived.JoinedTies
import Derived.KernelRfl
namespace Go.Proofs.Ytlpijioiopbmpaa
/- THE CELL 'sum', in the pinned program and in every row, IS THE sha256 OF THE DUMP (.gsa) THAT YtlpijioiopbmpaaProg.lean LOADS. Nothing in Lean hashes anything: it is a label: what it is worth is what the hold of that sum in a sandbox is worth. -/
noncomputable def Try.pinned : Pinned := { name := "ytlpijioiopbmpaa", sum := "b04f54cbcdab5bcbfc1d9440be0d0b6f0184d77441f881f4ee431003c2707d9b", checked := Try.checked }
namespace Rows
def none {H : Type} : Left H := { results := [], args := [] }

/-- 'ravelinlaw13.ClintPlays': WHATEVER THE INPUT: true; the input reads as it did. -/
def clintPlaysSpec : ChangeSpec := { name := "clintPlays", fn := fun _ => fun
  | [d] => { results := [.lit (.bool true)], args := [d] }
  | _ => none }
def clintPlaysRow : OpenClaim := { program := "ytlpijioiopbmpaa", sum := "b04f54cbcdab5bcbfc1d9440be0d0b6f0184d77441f881f4ee431003c2707d9b", func := "ravelin/ravelinlaw13.ClintPlays", spec := "clintPlays", inPlace := ["sync/atomic.LoadUint64", "sync/atomic.StoreUint64", "sync/atomic.AddUint64"], apart := false }
def ClintPlaysSaid : Prop := clintPlaysRow.holds Try.pinned (OpenSpec.ofChange clintPlaysSpec)

/-- ITS FALSE NEIGHBOUR: 'it returns false'. Refute it at one input. -/
def clintPlaysWrong : ChangeSpec := { name := "clintPlays", fn := fun _ => fun
  | [d] => { results := [.lit (.bool false)], args := [d] }
  | _ => none }
def ClintPlaysWrongFalsely : Prop := clintPlaysRow.holds Try.pinned (OpenSpec.ofChange clintPlaysWrong)

/-- 'ravelinlaw13.ClintHalves': WHATEVER THE INPUT: true; the input reads as it did. -/
def clintHalvesSpec : ChangeSpec := { name := "clintHalves", fn := fun _ => fun
  | [d1, d2, d3, d4] => { results := [.lit (.bool true)], args := [d1, d2, d3, d4] }
  | _ => none }
def clintHalvesRow : OpenClaim := { program := "ytlpijioiopbmpaa", sum := "b04f54cbcdab5bcbfc1d9440be0d0b6f0184d77441f881f4ee431003c2707d9b", func := "ravelin/ravelinlaw13.ClintHalves", spec := "clintHalves", inPlace := ["sync/atomic.LoadUint64", "sync/atomic.StoreUint64", "sync/atomic.AddUint64"], apart := false }
def ClintHalvesSaid : Prop := clintHalvesRow.holds Try.pinned (OpenSpec.ofChange clintHalvesSpec)

/-- ITS FALSE NEIGHBOUR: 'it returns false'. Refute it at one input. -/
def clintHalvesWrong : ChangeSpec := { name := "clintHalves", fn := fun _ => fun
  | [d1, d2, d3, d4] => { results := [.lit (.bool false)], args := [d1, d2, d3, d4] }
  | _ => none }
def ClintHalvesWrongFalsely : Prop := clintHalvesRow.holds Try.pinned (OpenSpec.ofChange clintHalvesWrong)

/-- 'ravelinlaw13.ClintTimes': WHATEVER THE INPUT: true; the input reads as it did. -/
def clintTimesSpec : ChangeSpec := { name := "clintTimes", fn := fun _ => fun
  | [d1, d2] => { results := [.lit (.bool true)], args := [d1, d2] }
  | _ => none }
def clintTimesRow : OpenClaim := { program := "ytlpijioiopbmpaa", sum := "b04f54cbcdab5bcbfc1d9440be0d0b6f0184d77441f881f4ee431003c2707d9b", func := "ravelin/ravelinlaw13.ClintTimes", spec := "clintTimes", inPlace := ["sync/atomic.LoadUint64", "sync/atomic.StoreUint64", "sync/atomic.AddUint64"], apart := false }
def ClintTimesSaid : Prop := clintTimesRow.holds Try.pinned (OpenSpec.ofChange clintTimesSpec)

/-- ITS FALSE NEIGHBOUR: 'it returns false'. Refute it at one input. -/
def clintTimesWrong : ChangeSpec := { name := "clintTimes", fn := fun _ => fun
  | [d1, d2] => { results := [.lit (.bool false)], args := [d1, d2] }
  | _ => none }
def ClintTimesWrongFalsely : Prop := clintTimesRow.holds Try.pinned (OpenSpec.ofChange clintTimesWrong)

/-- 'ravelinlaw13.ClintKnown': WHATEVER THE INPUT: true; the input reads as it did. -/
def clintKnownSpec : ChangeSpec := { name := "clintKnown", fn := fun _ => fun
  | [] => { results := [.lit (.bool true)], args := [] }
  | _ => none }
def clintKnownRow : OpenClaim := { program := "ytlpijioiopbmpaa", sum := "b04f54cbcdab5bcbfc1d9440be0d0b6f0184d77441f881f4ee431003c2707d9b", func := "ravelin/ravelinlaw13.ClintKnown", spec := "clintKnown", inPlace := ["sync/atomic.LoadUint64", "sync/atomic.StoreUint64", "sync/atomic.AddUint64"], apart := false }
def ClintKnownSaid : Prop := clintKnownRow.holds Try.pinned (OpenSpec.ofChange clintKnownSpec)

/-- ITS FALSE NEIGHBOUR: 'it returns false'. Refute it at one input. -/
def clintKnownWrong : ChangeSpec := { name := "clintKnown", fn := fun _ => fun
  | [] => { results := [.lit (.bool false)], args := [] }
  | _ => none }
def ClintKnownWrongFalsely : Prop := clintKnownRow.holds Try.pinned (OpenSpec.ofChange clintKnownWrong)

/-- 'ravelinlaw13.ClintTicks': WHATEVER THE INPUT: true; the input reads as it did. -/
def clintTicksSpec : ChangeSpec := { name := "clintTicks", fn := fun _ => fun
  | [d1, d2, d3, d4] => { results := [.lit (.bool true)], args := [d1, d2, d3, d4] }
  | _ => none }
def clintTicksRow : OpenClaim := { program := "ytlpijioiopbmpaa", sum := "b04f54cbcdab5bcbfc1d9440be0d0b6f0184d77441f881f4ee431003c2707d9b", func := "ravelin/ravelinlaw13.ClintTicks", spec := "clintTicks", inPlace := ["sync/atomic.LoadUint64", "sync/atomic.StoreUint64", "sync/atomic.AddUint64"], apart := false }
def ClintTicksSaid : Prop := clintTicksRow.holds Try.pinned (OpenSpec.ofChange clintTicksSpec)

/-- ITS FALSE NEIGHBOUR: 'it returns false'. Refute it at one input. -/
def clintTicksWrong : ChangeSpec := { name := "clintTicks", fn := fun _ => fun
  | [d1, d2, d3, d4] => { results := [.lit (.bool false)], args := [d1, d2, d3, d4] }
  | _ => none }
def ClintTicksWrongFalsely : Prop := clintTicksRow.holds Try.pinned (OpenSpec.ofChange clintTicksWrong)

/- THE SECOND FORM. 'bulk': how many values and letters a reading holds, each counted each time it is reached (what is shared counts as often as it is met; a slice's spare places count too). A statement '..UptoSaid' is the law's where the arguments, and the package variables that the reading takes, are together of bulk at most 1048576: NARROWER than '..Said'. Prove '..Said' where nothing that the law and all that it calls make is longer than what came in: it says more and counts as full. Else prove '..UptoSaid'. A law counts once. -/
mutual
def uptoBulk {H : Type} : DataW H → Nat
  | .lit (.string bytes) => bytes.length + 1
  | .lit _ => 1
  | .nil => 1
  | .ptr d => uptoBulk d + 1
  | .slice elems spare => uptoBulkAll elems + uptoBulkAll spare + 1
  | .agg parts => uptoBulkAll parts + 1
  | .iface _ d => uptoBulk d + 1
  | .map entries => uptoBulkEntries entries + 1
  | .held _ => 1
def uptoBulkAll {H : Type} : List (DataW H) → Nat
  | [] => 0
  | d :: r => uptoBulk d + uptoBulkAll r
def uptoBulkEntries {H : Type} : List (Lit × DataW H) → Nat
  | [] => 0
  | x :: r => uptoBulkEntry x + uptoBulkEntries r
def uptoBulkEntry {H : Type} : Lit × DataW H → Nat
  | (.string bytes, d) => bytes.length + uptoBulk d + 1
  | (_, d) => uptoBulk d + 1
 end
def uptoSmall : (H : Type) → List (DataW H) → Bool := fun _ ds => decide (uptoBulkAll ds ≤ 1048576)
def OpenSpec.upto (s : _root_.Go.ChangeSpec) : _root_.Go.OpenSpec := { _root_.Go.OpenSpec.ofChange s with cond := some uptoSmall }

/-- 'ravelinlaw13.ClintPlays', WHERE WHAT IT READS IS OF BULK AT MOST 1048576: true; the input reads as it did. -/
def clintPlaysUptoRow : OpenClaim := { program := "ytlpijioiopbmpaa", sum := "b04f54cbcdab5bcbfc1d9440be0d0b6f0184d77441f881f4ee431003c2707d9b", func := "ravelin/ravelinlaw13.ClintPlays", spec := "clintPlays", inPlace := ["sync/atomic.LoadUint64", "sync/atomic.StoreUint64", "sync/atomic.AddUint64"], apart := false, narrowed := true }
def ClintPlaysUptoSaid : Prop := clintPlaysUptoRow.holds Try.pinned (OpenSpec.upto clintPlaysSpec)

/-- 'ravelinlaw13.ClintHalves', WHERE WHAT IT READS IS OF BULK AT MOST 1048576: true; the input reads as it did. -/
def clintHalvesUptoRow : OpenClaim := { program := "ytlpijioiopbmpaa", sum := "b04f54cbcdab5bcbfc1d9440be0d0b6f0184d77441f881f4ee431003c2707d9b", func := "ravelin/ravelinlaw13.ClintHalves", spec := "clintHalves", inPlace := ["sync/atomic.LoadUint64", "sync/atomic.StoreUint64", "sync/atomic.AddUint64"], apart := false, narrowed := true }
def ClintHalvesUptoSaid : Prop := clintHalvesUptoRow.holds Try.pinned (OpenSpec.upto clintHalvesSpec)

/-- 'ravelinlaw13.ClintTimes', WHERE WHAT IT READS IS OF BULK AT MOST 1048576: true; the input reads as it did. -/
def clintTimesUptoRow : OpenClaim := { program := "ytlpijioiopbmpaa", sum := "b04f54cbcdab5bcbfc1d9440be0d0b6f0184d77441f881f4ee431003c2707d9b", func := "ravelin/ravelinlaw13.ClintTimes", spec := "clintTimes", inPlace := ["sync/atomic.LoadUint64", "sync/atomic.StoreUint64", "sync/atomic.AddUint64"], apart := false, narrowed := true }
def ClintTimesUptoSaid : Prop := clintTimesUptoRow.holds Try.pinned (OpenSpec.upto clintTimesSpec)

/-- 'ravelinlaw13.ClintKnown', WHERE WHAT IT READS IS OF BULK AT MOST 1048576: true; the input reads as it did. -/
def clintKnownUptoRow : OpenClaim := { program := "ytlpijioiopbmpaa", sum := "b04f54cbcdab5bcbfc1d9440be0d0b6f0184d77441f881f4ee431003c2707d9b", func := "ravelin/ravelinlaw13.ClintKnown", spec := "clintKnown", inPlace := ["sync/atomic.LoadUint64", "sync/atomic.StoreUint64", "sync/atomic.AddUint64"], apart := false, narrowed := true }
def ClintKnownUptoSaid : Prop := clintKnownUptoRow.holds Try.pinned (OpenSpec.upto clintKnownSpec)

/-- 'ravelinlaw13.ClintTicks', WHERE WHAT IT READS IS OF BULK AT MOST 1048576: true; the input reads as it did. -/
def clintTicksUptoRow : OpenClaim := { program := "ytlpijioiopbmpaa", sum := "b04f54cbcdab5bcbfc1d9440be0d0b6f0184d77441f881f4ee431003c2707d9b", func := "ravelin/ravelinlaw13.ClintTicks", spec := "clintTicks", inPlace := ["sync/atomic.LoadUint64", "sync/atomic.StoreUint64", "sync/atomic.AddUint64"], apart := false, narrowed := true }
def ClintTicksUptoSaid : Prop := clintTicksUptoRow.holds Try.pinned (OpenSpec.upto clintTicksSpec)

end Rows
end Go.Proofs.Ytlpijioiopbmpaa
