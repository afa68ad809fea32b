/-
  No cell of these rows narrows 'for every input' (looked for: loops, veiled, ifaces, maps, wideKeys, modest, calm, conditions, laid).
  DERIVED. THE GIVEN ROWS OF THIS SEAT. 3 by the template 'for every input the law returns true; each argument reads behind the call as it read before'; 0 by the template 'total and deterministic' (their statements: YtikibfpfieoabaaTotals.lean).
  GIVEN WITH THE SEED: the statements are not yours to turn. If you find one false, say at which input.
  Laid BY PROGRAM, IN A SANDBOX (cutbox-rows.mjs): the forced cells as the released guide's own fill.sh prints them over the translation b6e5421687e1ddfb… (all of the seat's roots in one cut). By AI agents, Wed Nov 11 2026. No macro, syntax, notation, axiom, sorry.
-/
import Derived.Test.YtikibfpfieoabaaChecked
import GoSem.Claim
import GoSem.ClaimJoined
import GoSem.ClaimMapViews
import Derived.JoinedTies
import Derived.KernelRfl
namespace Go.Proofs.Ytikibfpfieoabaa
/- THE CELL 'sum', in the pinned program and in every row, IS THE sha256 OF THE DUMP (.gsa) THAT YtikibfpfieoabaaProg.lean LOADS. Nothing in Lean hashes anything: it is a label: what it is worth is what the hold of that sum in a sandbox is worth. -/
noncomputable def Try.pinned : Pinned := { name := "ytikibfpfieoabaa", sum := "b6e5421687e1ddfbb45eec6af47ed8f246a5a6c41341477718e41b3fd8161364", checked := Try.checked }
namespace Rows
def none {H : Type} : Left H := { results := [], args := [] }

/-- 'ravelinlaw15.BusCaps': WHATEVER THE INPUT: true; the input reads as it did. -/
def busCapsSpec : ChangeSpec := { name := "busCaps", fn := fun _ => fun
  | [d1, d2, d3, d4, d5] => { results := [.lit (.bool true)], args := [d1, d2, d3, d4, d5] }
  | _ => none }
def busCapsRow : OpenClaim := { program := "ytikibfpfieoabaa", sum := "b6e5421687e1ddfbb45eec6af47ed8f246a5a6c41341477718e41b3fd8161364", func := "ravelin/ravelinlaw15.BusCaps", spec := "busCaps", inPlace := ["sync/atomic.LoadUint64", "sync/atomic.LoadUint32"], unfollowed := true, recurses := true, apart := false }
def BusCapsSaid : Prop := busCapsRow.holds Try.pinned (OpenSpec.ofChange busCapsSpec)

/-- ITS FALSE NEIGHBOUR: 'it returns false'. Refute it at one input. -/
def busCapsWrong : ChangeSpec := { name := "busCaps", fn := fun _ => fun
  | [d1, d2, d3, d4, d5] => { results := [.lit (.bool false)], args := [d1, d2, d3, d4, d5] }
  | _ => none }
def BusCapsWrongFalsely : Prop := busCapsRow.holds Try.pinned (OpenSpec.ofChange busCapsWrong)

/-- 'ravelinlaw15.BusKnown': WHATEVER THE INPUT: true; the input reads as it did. -/
def busKnownSpec : ChangeSpec := { name := "busKnown", fn := fun _ => fun
  | [] => { results := [.lit (.bool true)], args := [] }
  | _ => none }
def busKnownRow : OpenClaim := { program := "ytikibfpfieoabaa", sum := "b6e5421687e1ddfbb45eec6af47ed8f246a5a6c41341477718e41b3fd8161364", func := "ravelin/ravelinlaw15.BusKnown", spec := "busKnown", inPlace := ["sync/atomic.LoadUint64", "sync/atomic.LoadUint32"], unfollowed := true, recurses := true, apart := false }
def BusKnownSaid : Prop := busKnownRow.holds Try.pinned (OpenSpec.ofChange busKnownSpec)

/-- ITS FALSE NEIGHBOUR: 'it returns false'. Refute it at one input. -/
def busKnownWrong : ChangeSpec := { name := "busKnown", fn := fun _ => fun
  | [] => { results := [.lit (.bool false)], args := [] }
  | _ => none }
def BusKnownWrongFalsely : Prop := busKnownRow.holds Try.pinned (OpenSpec.ofChange busKnownWrong)

/-- 'ravelinlaw15.BusParts': WHATEVER THE INPUT: true; the input reads as it did. -/
def busPartsSpec : ChangeSpec := { name := "busParts", fn := fun _ => fun
  | [d1, d2, d3] => { results := [.lit (.bool true)], args := [d1, d2, d3] }
  | _ => none }
def busPartsRow : OpenClaim := { program := "ytikibfpfieoabaa", sum := "b6e5421687e1ddfbb45eec6af47ed8f246a5a6c41341477718e41b3fd8161364", func := "ravelin/ravelinlaw15.BusParts", spec := "busParts", inPlace := ["sync/atomic.LoadUint64", "sync/atomic.LoadUint32"], unfollowed := true, recurses := true, apart := false }
def BusPartsSaid : Prop := busPartsRow.holds Try.pinned (OpenSpec.ofChange busPartsSpec)

/-- ITS FALSE NEIGHBOUR: 'it returns false'. Refute it at one input. -/
def busPartsWrong : ChangeSpec := { name := "busParts", fn := fun _ => fun
  | [d1, d2, d3] => { results := [.lit (.bool false)], args := [d1, d2, d3] }
  | _ => none }
def BusPartsWrongFalsely : Prop := busPartsRow.holds Try.pinned (OpenSpec.ofChange busPartsWrong)

/- THE SECOND FORM. 'bulk': how many values and letters a reading holds, each counted each time it is reached (what is shared counts as often as it is met; a slice's spare places count too). A statement '..UptoSaid' is the law's where the arguments, and the package variables that the reading takes, are together of bulk at most 1048576: NARROWER than '..Said'. Prove '..Said' where nothing that the law and all that it calls make is longer than what came in: it says more and counts as full. Else prove '..UptoSaid'. A law counts once. -/
mutual
def uptoBulk {H : Type} : DataW H → Nat
  | .lit (.string bytes) => bytes.length + 1
  | .lit _ => 1
  | .nil => 1
  | .ptr d => uptoBulk d + 1
  | .slice elems spare => uptoBulkAll elems + uptoBulkAll spare + 1
  | .agg parts => uptoBulkAll parts + 1
  | .iface _ d => uptoBulk d + 1
  | .map entries => uptoBulkEntries entries + 1
  | .held _ => 1
def uptoBulkAll {H : Type} : List (DataW H) → Nat
  | [] => 0
  | d :: r => uptoBulk d + uptoBulkAll r
def uptoBulkEntries {H : Type} : List (Lit × DataW H) → Nat
  | [] => 0
  | x :: r => uptoBulkEntry x + uptoBulkEntries r
def uptoBulkEntry {H : Type} : Lit × DataW H → Nat
  | (.string bytes, d) => bytes.length + uptoBulk d + 1
  | (_, d) => uptoBulk d + 1
 end
def uptoSmall : (H : Type) → List (DataW H) → Bool := fun _ ds => decide (uptoBulkAll ds ≤ 1048576)
def OpenSpec.upto (s : _root_.Go.ChangeSpec) : _root_.Go.OpenSpec := { _root_.Go.OpenSpec.ofChange s with cond := some uptoSmall }

/-- 'ravelinlaw15.BusCaps', WHERE WHAT IT READS IS OF BULK AT MOST 1048576: true; the input reads as it did. -/
def busCapsUptoRow : OpenClaim := { program := "ytikibfpfieoabaa", sum := "b6e5421687e1ddfbb45eec6af47ed8f246a5a6c41341477718e41b3fd8161364", func := "ravelin/ravelinlaw15.BusCaps", spec := "busCaps", inPlace := ["sync/atomic.LoadUint64", "sync/atomic.LoadUint32"], unfollowed := true, recurses := true, apart := false, narrowed := true }
def BusCapsUptoSaid : Prop := busCapsUptoRow.holds Try.pinned (OpenSpec.upto busCapsSpec)

/-- 'ravelinlaw15.BusKnown', WHERE WHAT IT READS IS OF BULK AT MOST 1048576: true; the input reads as it did. -/
def busKnownUptoRow : OpenClaim := { program := "ytikibfpfieoabaa", sum := "b6e5421687e1ddfbb45eec6af47ed8f246a5a6c41341477718e41b3fd8161364", func := "ravelin/ravelinlaw15.BusKnown", spec := "busKnown", inPlace := ["sync/atomic.LoadUint64", "sync/atomic.LoadUint32"], unfollowed := true, recurses := true, apart := false, narrowed := true }
def BusKnownUptoSaid : Prop := busKnownUptoRow.holds Try.pinned (OpenSpec.upto busKnownSpec)

/-- 'ravelinlaw15.BusParts', WHERE WHAT IT READS IS OF BULK AT MOST 1048576: true; the input reads as it did. -/
def busPartsUptoRow : OpenClaim := { program := "ytikibfpfieoabaa", sum := "b6e5421687e1ddfbb45eec6af47ed8f246a5a6c41341477718e41b3fd8161364", func := "ravelin/ravelinlaw15.BusParts", spec := "busParts", inPlace := ["sync/atomic.LoadUint64", "sync/atomic.LoadUint32"], unfollowed := true, recurses := true, apart := false, narrowed := true }
def BusPartsUptoSaid : Prop := busPartsUptoRow.holds Try.pinned (OpenSpec.upto busPartsSpec)

end Rows
end Go.Proofs.Ytikibfpfieoabaa
