/-
  No cell of these rows narrows 'for every input' (looked for: loops, veiled, ifaces, maps, wideKeys, modest, calm, conditions, laid).
  DERIVED. THE GIVEN ROWS OF THIS SEAT. 5 by the template 'for every input the law returns true; each argument reads behind the call as it read before'; 0 by the template 'total and deterministic' (their statements: YtnnllahihggkjaaTotals.lean).
  GIVEN WITH THE SEED: the statements are not yours to turn. If you find one false, say at which input.
  Laid BY PROGRAM, IN A SANDBOX (cutbox-rows.mjs): the forced cells as the released guide's own fill.sh prints them over the translation 9de16289fcd9d4d5… (all of the seat's roots in one cut). By AI agents, Wed Nov 11 2026. No macro, syntax, notation, axiom, sorry.
-/
import Derived.Test.YtnnllahihggkjaaChecked
import GoSem.Claim
import GoSem.ClaimJoined
import GoSem.ClaimMapViews
import Derived.JoinedTies
import Derived.KernelRfl
namespace Go.Proofs.Ytnnllahihggkjaa
/- THE CELL 'sum', in the pinned program and in every row, IS THE sha256 OF THE DUMP (.gsa) THAT YtnnllahihggkjaaProg.lean LOADS. Nothing in Lean hashes anything: it is a label: what it is worth is what the hold of that sum in a sandbox is worth. -/
noncomputable def Try.pinned : Pinned := { name := "ytnnllahihggkjaa", sum := "9de16289fcd9d4d5678097a0793f5970f53172ba5c7c96575702b12fd33cf95a", checked := Try.checked }
namespace Rows
def none {H : Type} : Left H := { results := [], args := [] }

/-- 'ravelinlaw07.BaseDecodes': WHATEVER THE INPUT: true; the input reads as it did. -/
def baseDecodesSpec : ChangeSpec := { name := "baseDecodes", fn := fun _ => fun
  | [d] => { results := [.lit (.bool true)], args := [d] }
  | _ => none }
def baseDecodesRow : OpenClaim := { program := "ytnnllahihggkjaa", sum := "9de16289fcd9d4d5678097a0793f5970f53172ba5c7c96575702b12fd33cf95a", func := "ravelin/ravelinlaw07.BaseDecodes", spec := "baseDecodes", unfollowed := true, recurses := true, apart := false }
def BaseDecodesSaid : Prop := baseDecodesRow.holds Try.pinned (OpenSpec.ofChange baseDecodesSpec)

/-- ITS FALSE NEIGHBOUR: 'it returns false'. Refute it at one input. -/
def baseDecodesWrong : ChangeSpec := { name := "baseDecodes", fn := fun _ => fun
  | [d] => { results := [.lit (.bool false)], args := [d] }
  | _ => none }
def BaseDecodesWrongFalsely : Prop := baseDecodesRow.holds Try.pinned (OpenSpec.ofChange baseDecodesWrong)

/-- 'ravelinlaw07.BaseFields': WHATEVER THE INPUT: true; the input reads as it did. -/
def baseFieldsSpec : ChangeSpec := { name := "baseFields", fn := fun _ => fun
  | [d] => { results := [.lit (.bool true)], args := [d] }
  | _ => none }
def baseFieldsRow : OpenClaim := { program := "ytnnllahihggkjaa", sum := "9de16289fcd9d4d5678097a0793f5970f53172ba5c7c96575702b12fd33cf95a", func := "ravelin/ravelinlaw07.BaseFields", spec := "baseFields", unfollowed := true, recurses := true, apart := false }
def BaseFieldsSaid : Prop := baseFieldsRow.holds Try.pinned (OpenSpec.ofChange baseFieldsSpec)

/-- ITS FALSE NEIGHBOUR: 'it returns false'. Refute it at one input. -/
def baseFieldsWrong : ChangeSpec := { name := "baseFields", fn := fun _ => fun
  | [d] => { results := [.lit (.bool false)], args := [d] }
  | _ => none }
def BaseFieldsWrongFalsely : Prop := baseFieldsRow.holds Try.pinned (OpenSpec.ofChange baseFieldsWrong)

/-- 'ravelinlaw07.BaseRegisters': WHATEVER THE INPUT: true; the input reads as it did. -/
def baseRegistersSpec : ChangeSpec := { name := "baseRegisters", fn := fun _ => fun
  | [d1, d2, d3, d4] => { results := [.lit (.bool true)], args := [d1, d2, d3, d4] }
  | _ => none }
def baseRegistersRow : OpenClaim := { program := "ytnnllahihggkjaa", sum := "9de16289fcd9d4d5678097a0793f5970f53172ba5c7c96575702b12fd33cf95a", func := "ravelin/ravelinlaw07.BaseRegisters", spec := "baseRegisters", unfollowed := true, recurses := true, apart := false }
def BaseRegistersSaid : Prop := baseRegistersRow.holds Try.pinned (OpenSpec.ofChange baseRegistersSpec)

/-- ITS FALSE NEIGHBOUR: 'it returns false'. Refute it at one input. -/
def baseRegistersWrong : ChangeSpec := { name := "baseRegisters", fn := fun _ => fun
  | [d1, d2, d3, d4] => { results := [.lit (.bool false)], args := [d1, d2, d3, d4] }
  | _ => none }
def BaseRegistersWrongFalsely : Prop := baseRegistersRow.holds Try.pinned (OpenSpec.ofChange baseRegistersWrong)

/-- 'ravelinlaw07.BaseNumbers': WHATEVER THE INPUT: true; the input reads as it did. -/
def baseNumbersSpec : ChangeSpec := { name := "baseNumbers", fn := fun _ => fun
  | [d1, d2, d3, d4] => { results := [.lit (.bool true)], args := [d1, d2, d3, d4] }
  | _ => none }
def baseNumbersRow : OpenClaim := { program := "ytnnllahihggkjaa", sum := "9de16289fcd9d4d5678097a0793f5970f53172ba5c7c96575702b12fd33cf95a", func := "ravelin/ravelinlaw07.BaseNumbers", spec := "baseNumbers", unfollowed := true, recurses := true, apart := false }
def BaseNumbersSaid : Prop := baseNumbersRow.holds Try.pinned (OpenSpec.ofChange baseNumbersSpec)

/-- ITS FALSE NEIGHBOUR: 'it returns false'. Refute it at one input. -/
def baseNumbersWrong : ChangeSpec := { name := "baseNumbers", fn := fun _ => fun
  | [d1, d2, d3, d4] => { results := [.lit (.bool false)], args := [d1, d2, d3, d4] }
  | _ => none }
def BaseNumbersWrongFalsely : Prop := baseNumbersRow.holds Try.pinned (OpenSpec.ofChange baseNumbersWrong)

/-- 'ravelinlaw07.BaseKnown': WHATEVER THE INPUT: true; the input reads as it did. -/
def baseKnownSpec : ChangeSpec := { name := "baseKnown", fn := fun _ => fun
  | [] => { results := [.lit (.bool true)], args := [] }
  | _ => none }
def baseKnownRow : OpenClaim := { program := "ytnnllahihggkjaa", sum := "9de16289fcd9d4d5678097a0793f5970f53172ba5c7c96575702b12fd33cf95a", func := "ravelin/ravelinlaw07.BaseKnown", spec := "baseKnown", unfollowed := true, recurses := true, apart := false }
def BaseKnownSaid : Prop := baseKnownRow.holds Try.pinned (OpenSpec.ofChange baseKnownSpec)

/-- ITS FALSE NEIGHBOUR: 'it returns false'. Refute it at one input. -/
def baseKnownWrong : ChangeSpec := { name := "baseKnown", fn := fun _ => fun
  | [] => { results := [.lit (.bool false)], args := [] }
  | _ => none }
def BaseKnownWrongFalsely : Prop := baseKnownRow.holds Try.pinned (OpenSpec.ofChange baseKnownWrong)

/- THE SECOND FORM. 'bulk': how many values and letters a reading holds, each counted each time it is reached (what is shared counts as often as it is met; a slice's spare places count too). A statement '..UptoSaid' is the law's where the arguments, and the package variables that the reading takes, are together of bulk at most 1048576: NARROWER than '..Said'. Prove '..Said' where nothing that the law and all that it calls make is longer than what came in: it says more and counts as full. Else prove '..UptoSaid'. A law counts once. -/
mutual
def uptoBulk {H : Type} : DataW H → Nat
  | .lit (.string bytes) => bytes.length + 1
  | .lit _ => 1
  | .nil => 1
  | .ptr d => uptoBulk d + 1
  | .slice elems spare => uptoBulkAll elems + uptoBulkAll spare + 1
  | .agg parts => uptoBulkAll parts + 1
  | .iface _ d => uptoBulk d + 1
  | .map entries => uptoBulkEntries entries + 1
  | .held _ => 1
def uptoBulkAll {H : Type} : List (DataW H) → Nat
  | [] => 0
  | d :: r => uptoBulk d + uptoBulkAll r
def uptoBulkEntries {H : Type} : List (Lit × DataW H) → Nat
  | [] => 0
  | x :: r => uptoBulkEntry x + uptoBulkEntries r
def uptoBulkEntry {H : Type} : Lit × DataW H → Nat
  | (.string bytes, d) => bytes.length + uptoBulk d + 1
  | (_, d) => uptoBulk d + 1
 end
def uptoSmall : (H : Type) → List (DataW H) → Bool := fun _ ds => decide (uptoBulkAll ds ≤ 1048576)
def OpenSpec.upto (s : _root_.Go.ChangeSpec) : _root_.Go.OpenSpec := { _root_.Go.OpenSpec.ofChange s with cond := some uptoSmall }

/-- 'ravelinlaw07.BaseDecodes', WHERE WHAT IT READS IS OF BULK AT MOST 1048576: true; the input reads as it did. -/
def baseDecodesUptoRow : OpenClaim := { program := "ytnnllahihggkjaa", sum := "9de16289fcd9d4d5678097a0793f5970f53172ba5c7c96575702b12fd33cf95a", func := "ravelin/ravelinlaw07.BaseDecodes", spec := "baseDecodes", unfollowed := true, recurses := true, apart := false, narrowed := true }
def BaseDecodesUptoSaid : Prop := baseDecodesUptoRow.holds Try.pinned (OpenSpec.upto baseDecodesSpec)

/-- 'ravelinlaw07.BaseFields', WHERE WHAT IT READS IS OF BULK AT MOST 1048576: true; the input reads as it did. -/
def baseFieldsUptoRow : OpenClaim := { program := "ytnnllahihggkjaa", sum := "9de16289fcd9d4d5678097a0793f5970f53172ba5c7c96575702b12fd33cf95a", func := "ravelin/ravelinlaw07.BaseFields", spec := "baseFields", unfollowed := true, recurses := true, apart := false, narrowed := true }
def BaseFieldsUptoSaid : Prop := baseFieldsUptoRow.holds Try.pinned (OpenSpec.upto baseFieldsSpec)

/-- 'ravelinlaw07.BaseRegisters', WHERE WHAT IT READS IS OF BULK AT MOST 1048576: true; the input reads as it did. -/
def baseRegistersUptoRow : OpenClaim := { program := "ytnnllahihggkjaa", sum := "9de16289fcd9d4d5678097a0793f5970f53172ba5c7c96575702b12fd33cf95a", func := "ravelin/ravelinlaw07.BaseRegisters", spec := "baseRegisters", unfollowed := true, recurses := true, apart := false, narrowed := true }
def BaseRegistersUptoSaid : Prop := baseRegistersUptoRow.holds Try.pinned (OpenSpec.upto baseRegistersSpec)

/-- 'ravelinlaw07.BaseNumbers', WHERE WHAT IT READS IS OF BULK AT MOST 1048576: true; the input reads as it did. -/
def baseNumbersUptoRow : OpenClaim := { program := "ytnnllahihggkjaa", sum := "9de16289fcd9d4d5678097a0793f5970f53172ba5c7c96575702b12fd33cf95a", func := "ravelin/ravelinlaw07.BaseNumbers", spec := "baseNumbers", unfollowed := true, recurses := true, apart := false, narrowed := true }
def BaseNumbersUptoSaid : Prop := baseNumbersUptoRow.holds Try.pinned (OpenSpec.upto baseNumbersSpec)

/-- 'ravelinlaw07.BaseKnown', WHERE WHAT IT READS IS OF BULK AT MOST 1048576: true; the input reads as it did. -/
def baseKnownUptoRow : OpenClaim := { program := "ytnnllahihggkjaa", sum := "9de16289fcd9d4d5678097a0793f5970f53172ba5c7c96575702b12fd33cf95a", func := "ravelin/ravelinlaw07.BaseKnown", spec := "baseKnown", unfollowed := true, recurses := true, apart := false, narrowed := true }
def BaseKnownUptoSaid : Prop := baseKnownUptoRow.holds Try.pinned (OpenSpec.upto baseKnownSpec)

end Rows
end Go.Proofs.Ytnnllahihggkjaa
