/-
  No cell of these rows narrows 'for every input' (looked for: loops, veiled, ifaces, maps, wideKeys, modest, calm, conditions, laid).
  DERIVED. THE GIVEN ROWS OF THIS SEAT. 5 by the template 'for every input the law returns true; each argument reads behind the call as it read before'; 0 by the template 'total and deterministic' (their statements: YtamhhdhoeghafaaTotals.lean).
  GIVEN WITH THE SEED: the statements are not yours to turn. If you find one false, say at which input.
  Laid BY PROGRAM, IN A SANDBOX (cutbox-rows.mjs): the forced cells as the released guide's own fill.sh prints them over the translation ea31ef03bed446a2… (all of the seat's roots in one cut). By AI agents, Wed Nov 11 2026. No macro, syntax, notation, axiom, sorry.
-/
import Derived.Test.YtamhhdhoeghafaaChecked
import GoSem.Claim
import GoSem.ClaimJoined
import GoSem.ClaimMapViews
import Derived.JoinedTies
import Derived.KernelRfl
namespace Go.Proofs.Ytamhhdhoeghafaa
/- THE CELL 'sum', in the pinned program and in every row, IS THE sha256 OF THE DUMP (.gsa) THAT YtamhhdhoeghafaaProg.lean LOADS. Nothing in Lean hashes anything: it is a label: what it is worth is what the hold of that sum in a sandbox is worth. -/
noncomputable def Try.pinned : Pinned := { name := "ytamhhdhoeghafaa", sum := "ea31ef03bed446a2d33b5984d171f502bceede52de079e4c6506f2122979d901", checked := Try.checked }
namespace Rows
def none {H : Type} : Left H := { results := [], args := [] }

/-- 'ravelinlaw12.PlicRuns': WHATEVER THE INPUT: true; the input reads as it did. -/
def plicRunsSpec : ChangeSpec := { name := "plicRuns", fn := fun _ => fun
  | [d] => { results := [.lit (.bool true)], args := [d] }
  | _ => none }
def plicRunsRow : OpenClaim := { program := "ytamhhdhoeghafaa", sum := "ea31ef03bed446a2d33b5984d171f502bceede52de079e4c6506f2122979d901", func := "ravelin/ravelinlaw12.PlicRuns", spec := "plicRuns", inPlace := ["sync/atomic.AndUint32", "sync/atomic.LoadUint32", "sync/atomic.StoreUint32", "sync/atomic.OrUint32"], apart := false }
def PlicRunsSaid : Prop := plicRunsRow.holds Try.pinned (OpenSpec.ofChange plicRunsSpec)

/-- ITS FALSE NEIGHBOUR: 'it returns false'. Refute it at one input. -/
def plicRunsWrong : ChangeSpec := { name := "plicRuns", fn := fun _ => fun
  | [d] => { results := [.lit (.bool false)], args := [d] }
  | _ => none }
def PlicRunsWrongFalsely : Prop := plicRunsRow.holds Try.pinned (OpenSpec.ofChange plicRunsWrong)

/-- 'ravelinlaw12.PlicClaims': WHATEVER THE INPUT: true; the input reads as it did. -/
def plicClaimsSpec : ChangeSpec := { name := "plicClaims", fn := fun _ => fun
  | [d1, d2] => { results := [.lit (.bool true)], args := [d1, d2] }
  | _ => none }
def plicClaimsRow : OpenClaim := { program := "ytamhhdhoeghafaa", sum := "ea31ef03bed446a2d33b5984d171f502bceede52de079e4c6506f2122979d901", func := "ravelin/ravelinlaw12.PlicClaims", spec := "plicClaims", inPlace := ["sync/atomic.AndUint32", "sync/atomic.LoadUint32", "sync/atomic.StoreUint32", "sync/atomic.OrUint32"], apart := false }
def PlicClaimsSaid : Prop := plicClaimsRow.holds Try.pinned (OpenSpec.ofChange plicClaimsSpec)

/-- ITS FALSE NEIGHBOUR: 'it returns false'. Refute it at one input. -/
def plicClaimsWrong : ChangeSpec := { name := "plicClaims", fn := fun _ => fun
  | [d1, d2] => { results := [.lit (.bool false)], args := [d1, d2] }
  | _ => none }
def PlicClaimsWrongFalsely : Prop := plicClaimsRow.holds Try.pinned (OpenSpec.ofChange plicClaimsWrong)

/-- 'ravelinlaw12.PlicOnce': WHATEVER THE INPUT: true; the input reads as it did. -/
def plicOnceSpec : ChangeSpec := { name := "plicOnce", fn := fun _ => fun
  | [d1, d2, d3] => { results := [.lit (.bool true)], args := [d1, d2, d3] }
  | _ => none }
def plicOnceRow : OpenClaim := { program := "ytamhhdhoeghafaa", sum := "ea31ef03bed446a2d33b5984d171f502bceede52de079e4c6506f2122979d901", func := "ravelin/ravelinlaw12.PlicOnce", spec := "plicOnce", inPlace := ["sync/atomic.AndUint32", "sync/atomic.LoadUint32", "sync/atomic.StoreUint32", "sync/atomic.OrUint32"], apart := false }
def PlicOnceSaid : Prop := plicOnceRow.holds Try.pinned (OpenSpec.ofChange plicOnceSpec)

/-- ITS FALSE NEIGHBOUR: 'it returns false'. Refute it at one input. -/
def plicOnceWrong : ChangeSpec := { name := "plicOnce", fn := fun _ => fun
  | [d1, d2, d3] => { results := [.lit (.bool false)], args := [d1, d2, d3] }
  | _ => none }
def PlicOnceWrongFalsely : Prop := plicOnceRow.holds Try.pinned (OpenSpec.ofChange plicOnceWrong)

/-- 'ravelinlaw12.PlicRegisters': WHATEVER THE INPUT: true; the input reads as it did. -/
def plicRegistersSpec : ChangeSpec := { name := "plicRegisters", fn := fun _ => fun
  | [d1, d2, d3, d4] => { results := [.lit (.bool true)], args := [d1, d2, d3, d4] }
  | _ => none }
def plicRegistersRow : OpenClaim := { program := "ytamhhdhoeghafaa", sum := "ea31ef03bed446a2d33b5984d171f502bceede52de079e4c6506f2122979d901", func := "ravelin/ravelinlaw12.PlicRegisters", spec := "plicRegisters", inPlace := ["sync/atomic.AndUint32", "sync/atomic.LoadUint32", "sync/atomic.StoreUint32", "sync/atomic.OrUint32"], apart := false }
def PlicRegistersSaid : Prop := plicRegistersRow.holds Try.pinned (OpenSpec.ofChange plicRegistersSpec)

/-- ITS FALSE NEIGHBOUR: 'it returns false'. Refute it at one input. -/
def plicRegistersWrong : ChangeSpec := { name := "plicRegisters", fn := fun _ => fun
  | [d1, d2, d3, d4] => { results := [.lit (.bool false)], args := [d1, d2, d3, d4] }
  | _ => none }
def PlicRegistersWrongFalsely : Prop := plicRegistersRow.holds Try.pinned (OpenSpec.ofChange plicRegistersWrong)

/-- 'ravelinlaw12.PlicKnown': WHATEVER THE INPUT: true; the input reads as it did. -/
def plicKnownSpec : ChangeSpec := { name := "plicKnown", fn := fun _ => fun
  | [] => { results := [.lit (.bool true)], args := [] }
  | _ => none }
def plicKnownRow : OpenClaim := { program := "ytamhhdhoeghafaa", sum := "ea31ef03bed446a2d33b5984d171f502bceede52de079e4c6506f2122979d901", func := "ravelin/ravelinlaw12.PlicKnown", spec := "plicKnown", inPlace := ["sync/atomic.AndUint32", "sync/atomic.LoadUint32", "sync/atomic.StoreUint32", "sync/atomic.OrUint32"], apart := false }
def PlicKnownSaid : Prop := plicKnownRow.holds Try.pinned (OpenSpec.ofChange plicKnownSpec)

/-- ITS FALSE NEIGHBOUR: 'it returns false'. Refute it at one input. -/
def plicKnownWrong : ChangeSpec := { name := "plicKnown", fn := fun _ => fun
  | [] => { results := [.lit (.bool false)], args := [] }
  | _ => none }
def PlicKnownWrongFalsely : Prop := plicKnownRow.holds Try.pinned (OpenSpec.ofChange plicKnownWrong)

/- THE SECOND FORM. 'bulk': how many values and letters a reading holds, each counted each time it is reached (what is shared counts as often as it is met; a slice's spare places count too). A statement '..UptoSaid' is the law's where the arguments, and the package variables that the reading takes, are together of bulk at most 1048576: NARROWER than '..Said'. Prove '..Said' where nothing that the law and all that it calls make is longer than what came in: it says more and counts as full. Else prove '..UptoSaid'. A law counts once. -/
mutual
def uptoBulk {H : Type} : DataW H → Nat
  | .lit (.string bytes) => bytes.length + 1
  | .lit _ => 1
  | .nil => 1
  | .ptr d => uptoBulk d + 1
  | .slice elems spare => uptoBulkAll elems + uptoBulkAll spare + 1
  | .agg parts => uptoBulkAll parts + 1
  | .iface _ d => uptoBulk d + 1
  | .map entries => uptoBulkEntries entries + 1
  | .held _ => 1
def uptoBulkAll {H : Type} : List (DataW H) → Nat
  | [] => 0
  | d :: r => uptoBulk d + uptoBulkAll r
def uptoBulkEntries {H : Type} : List (Lit × DataW H) → Nat
  | [] => 0
  | x :: r => uptoBulkEntry x + uptoBulkEntries r
def uptoBulkEntry {H : Type} : Lit × DataW H → Nat
  | (.string bytes, d) => bytes.length + uptoBulk d + 1
  | (_, d) => uptoBulk d + 1
 end
def uptoSmall : (H : Type) → List (DataW H) → Bool := fun _ ds => decide (uptoBulkAll ds ≤ 1048576)
def OpenSpec.upto (s : _root_.Go.ChangeSpec) : _root_.Go.OpenSpec := { _root_.Go.OpenSpec.ofChange s with cond := some uptoSmall }

/-- 'ravelinlaw12.PlicRuns', WHERE WHAT IT READS IS OF BULK AT MOST 1048576: true; the input reads as it did. -/
def plicRunsUptoRow : OpenClaim := { program := "ytamhhdhoeghafaa", sum := "ea31ef03bed446a2d33b5984d171f502bceede52de079e4c6506f2122979d901", func := "ravelin/ravelinlaw12.PlicRuns", spec := "plicRuns", inPlace := ["sync/atomic.AndUint32", "sync/atomic.LoadUint32", "sync/atomic.StoreUint32", "sync/atomic.OrUint32"], apart := false, narrowed := true }
def PlicRunsUptoSaid : Prop := plicRunsUptoRow.holds Try.pinned (OpenSpec.upto plicRunsSpec)

/-- 'ravelinlaw12.PlicClaims', WHERE WHAT IT READS IS OF BULK AT MOST 1048576: true; the input reads as it did. -/
def plicClaimsUptoRow : OpenClaim := { program := "ytamhhdhoeghafaa", sum := "ea31ef03bed446a2d33b5984d171f502bceede52de079e4c6506f2122979d901", func := "ravelin/ravelinlaw12.PlicClaims", spec := "plicClaims", inPlace := ["sync/atomic.AndUint32", "sync/atomic.LoadUint32", "sync/atomic.StoreUint32", "sync/atomic.OrUint32"], apart := false, narrowed := true }
def PlicClaimsUptoSaid : Prop := plicClaimsUptoRow.holds Try.pinned (OpenSpec.upto plicClaimsSpec)

/-- 'ravelinlaw12.PlicOnce', WHERE WHAT IT READS IS OF BULK AT MOST 1048576: true; the input reads as it did. -/
def plicOnceUptoRow : OpenClaim := { program := "ytamhhdhoeghafaa", sum := "ea31ef03bed446a2d33b5984d171f502bceede52de079e4c6506f2122979d901", func := "ravelin/ravelinlaw12.PlicOnce", spec := "plicOnce", inPlace := ["sync/atomic.AndUint32", "sync/atomic.LoadUint32", "sync/atomic.StoreUint32", "sync/atomic.OrUint32"], apart := false, narrowed := true }
def PlicOnceUptoSaid : Prop := plicOnceUptoRow.holds Try.pinned (OpenSpec.upto plicOnceSpec)

/-- 'ravelinlaw12.PlicRegisters', WHERE WHAT IT READS IS OF BULK AT MOST 1048576: true; the input reads as it did. -/
def plicRegistersUptoRow : OpenClaim := { program := "ytamhhdhoeghafaa", sum := "ea31ef03bed446a2d33b5984d171f502bceede52de079e4c6506f2122979d901", func := "ravelin/ravelinlaw12.PlicRegisters", spec := "plicRegisters", inPlace := ["sync/atomic.AndUint32", "sync/atomic.LoadUint32", "sync/atomic.StoreUint32", "sync/atomic.OrUint32"], apart := false, narrowed := true }
def PlicRegistersUptoSaid : Prop := plicRegistersUptoRow.holds Try.pinned (OpenSpec.upto plicRegistersSpec)

/-- 'ravelinlaw12.PlicKnown', WHERE WHAT IT READS IS OF BULK AT MOST 1048576: true; the input reads as it did. -/
def plicKnownUptoRow : OpenClaim := { program := "ytamhhdhoeghafaa", sum := "ea31ef03bed446a2d33b5984d171f502bceede52de079e4c6506f2122979d901", func := "ravelin/ravelinlaw12.PlicKnown", spec := "plicKnown", inPlace := ["sync/atomic.AndUint32", "sync/atomic.LoadUint32", "sync/atomic.StoreUint32", "sync/atomic.OrUint32"], apart := false, narrowed := true }
def PlicKnownUptoSaid : Prop := plicKnownUptoRow.holds Try.pinned (OpenSpec.upto plicKnownSpec)

end Rows
end Go.Proofs.Ytamhhdhoeghafaa
