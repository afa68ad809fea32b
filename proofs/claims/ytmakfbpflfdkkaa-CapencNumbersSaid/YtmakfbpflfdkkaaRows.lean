/-
  No cell of these rows narrows 'for every input' (looked for: loops, veiled, ifaces, maps, wideKeys, modest, calm, conditions, laid).
  DERIVED. THE GIVEN ROWS OF THIS SEAT. 9 by the template 'for every input the law returns true; each argument reads behind the call as it read before'; 0 by the template 'total and deterministic' (their statements: YtmakfbpflfdkkaaTotals.lean).
  GIVEN WITH THE SEED: the statements are not yours to turn. If you find one false, say at which input.
  Laid BY PROGRAM, IN A SANDBOX (cutbox-rows.mjs): the forced cells as the released guide's own fill.sh prints them over the translation 6c0acf473d284d9b… (all of the seat's roots in one cut). By AI agents, Wed Nov 11 2026. No macro, syntax, notation, axiom, sorry.
-/
import Derived.Test.YtmakfbpflfdkkaaChecked
import GoSem.Claim
import GoSem.ClaimJoined
import GoSem.ClaimMapViews
import Derived.JoinedTies
import Derived.KernelRfl
namespace Go.Proofs.Ytmakfbpflfdkkaa
/- THE CELL 'sum', in the pinned program and in every row, IS THE sha256 OF THE DUMP (.gsa) THAT YtmakfbpflfdkkaaProg.lean LOADS. Nothing in Lean hashes anything: it is a label: what it is worth is what the hold of that sum in a sandbox is worth. -/
noncomputable def Try.pinned : Pinned := { name := "ytmakfbpflfdkkaa", sum := "6c0acf473d284d9bbe4ca595ae5324f16647289879583d51a03d0bc0cdbe81b5", checked := Try.checked }
namespace Rows
def none {H : Type} : Left H := { results := [], args := [] }

/-- 'ravelinlaw04.CapencPacks': WHATEVER THE INPUT: true; the input reads as it did. -/
def capencPacksSpec : ChangeSpec := { name := "capencPacks", fn := fun _ => fun
  | [d] => { results := [.lit (.bool true)], args := [d] }
  | _ => none }
def capencPacksRow : OpenClaim := { program := "ytmakfbpflfdkkaa", sum := "6c0acf473d284d9bbe4ca595ae5324f16647289879583d51a03d0bc0cdbe81b5", func := "ravelin/ravelinlaw04.CapencPacks", spec := "capencPacks", apart := false }
def CapencPacksSaid : Prop := capencPacksRow.holds Try.pinned (OpenSpec.ofChange capencPacksSpec)

/-- ITS FALSE NEIGHBOUR: 'it returns false'. Refute it at one input. -/
def capencPacksWrong : ChangeSpec := { name := "capencPacks", fn := fun _ => fun
  | [d] => { results := [.lit (.bool false)], args := [d] }
  | _ => none }
def CapencPacksWrongFalsely : Prop := capencPacksRow.holds Try.pinned (OpenSpec.ofChange capencPacksWrong)

/-- 'ravelinlaw04.CapencUnpacks': WHATEVER THE INPUT: true; the input reads as it did. -/
def capencUnpacksSpec : ChangeSpec := { name := "capencUnpacks", fn := fun _ => fun
  | [d1, d2, d3] => { results := [.lit (.bool true)], args := [d1, d2, d3] }
  | _ => none }
def capencUnpacksRow : OpenClaim := { program := "ytmakfbpflfdkkaa", sum := "6c0acf473d284d9bbe4ca595ae5324f16647289879583d51a03d0bc0cdbe81b5", func := "ravelin/ravelinlaw04.CapencUnpacks", spec := "capencUnpacks", apart := false }
def CapencUnpacksSaid : Prop := capencUnpacksRow.holds Try.pinned (OpenSpec.ofChange capencUnpacksSpec)

/-- ITS FALSE NEIGHBOUR: 'it returns false'. Refute it at one input. -/
def capencUnpacksWrong : ChangeSpec := { name := "capencUnpacks", fn := fun _ => fun
  | [d1, d2, d3] => { results := [.lit (.bool false)], args := [d1, d2, d3] }
  | _ => none }
def CapencUnpacksWrongFalsely : Prop := capencUnpacksRow.holds Try.pinned (OpenSpec.ofChange capencUnpacksWrong)

/-- 'ravelinlaw04.CapencMakes': WHATEVER THE INPUT: true; the input reads as it did. -/
def capencMakesSpec : ChangeSpec := { name := "capencMakes", fn := fun _ => fun
  | [d1, d2] => { results := [.lit (.bool true)], args := [d1, d2] }
  | _ => none }
def capencMakesRow : OpenClaim := { program := "ytmakfbpflfdkkaa", sum := "6c0acf473d284d9bbe4ca595ae5324f16647289879583d51a03d0bc0cdbe81b5", func := "ravelin/ravelinlaw04.CapencMakes", spec := "capencMakes", apart := false }
def CapencMakesSaid : Prop := capencMakesRow.holds Try.pinned (OpenSpec.ofChange capencMakesSpec)

/-- ITS FALSE NEIGHBOUR: 'it returns false'. Refute it at one input. -/
def capencMakesWrong : ChangeSpec := { name := "capencMakes", fn := fun _ => fun
  | [d1, d2] => { results := [.lit (.bool false)], args := [d1, d2] }
  | _ => none }
def CapencMakesWrongFalsely : Prop := capencMakesRow.holds Try.pinned (OpenSpec.ofChange capencMakesWrong)

/-- 'ravelinlaw04.CapencBack': WHATEVER THE INPUT: true; the input reads as it did. -/
def capencBackSpec : ChangeSpec := { name := "capencBack", fn := fun _ => fun
  | [d] => { results := [.lit (.bool true)], args := [d] }
  | _ => none }
def capencBackRow : OpenClaim := { program := "ytmakfbpflfdkkaa", sum := "6c0acf473d284d9bbe4ca595ae5324f16647289879583d51a03d0bc0cdbe81b5", func := "ravelin/ravelinlaw04.CapencBack", spec := "capencBack", apart := false }
def CapencBackSaid : Prop := capencBackRow.holds Try.pinned (OpenSpec.ofChange capencBackSpec)

/-- ITS FALSE NEIGHBOUR: 'it returns false'. Refute it at one input. -/
def capencBackWrong : ChangeSpec := { name := "capencBack", fn := fun _ => fun
  | [d] => { results := [.lit (.bool false)], args := [d] }
  | _ => none }
def CapencBackWrongFalsely : Prop := capencBackRow.holds Try.pinned (OpenSpec.ofChange capencBackWrong)

/-- 'ravelinlaw04.CapencForms': WHATEVER THE INPUT: true; the input reads as it did. -/
def capencFormsSpec : ChangeSpec := { name := "capencForms", fn := fun _ => fun
  | [d1, d2, d3] => { results := [.lit (.bool true)], args := [d1, d2, d3] }
  | _ => none }
def capencFormsRow : OpenClaim := { program := "ytmakfbpflfdkkaa", sum := "6c0acf473d284d9bbe4ca595ae5324f16647289879583d51a03d0bc0cdbe81b5", func := "ravelin/ravelinlaw04.CapencForms", spec := "capencForms", apart := false }
def CapencFormsSaid : Prop := capencFormsRow.holds Try.pinned (OpenSpec.ofChange capencFormsSpec)

/-- ITS FALSE NEIGHBOUR: 'it returns false'. Refute it at one input. -/
def capencFormsWrong : ChangeSpec := { name := "capencForms", fn := fun _ => fun
  | [d1, d2, d3] => { results := [.lit (.bool false)], args := [d1, d2, d3] }
  | _ => none }
def CapencFormsWrongFalsely : Prop := capencFormsRow.holds Try.pinned (OpenSpec.ofChange capencFormsWrong)

/-- 'ravelinlaw04.CapencApart': WHATEVER THE INPUT: true; the input reads as it did. -/
def capencApartSpec : ChangeSpec := { name := "capencApart", fn := fun _ => fun
  | [d1, d2] => { results := [.lit (.bool true)], args := [d1, d2] }
  | _ => none }
def capencApartRow : OpenClaim := { program := "ytmakfbpflfdkkaa", sum := "6c0acf473d284d9bbe4ca595ae5324f16647289879583d51a03d0bc0cdbe81b5", func := "ravelin/ravelinlaw04.CapencApart", spec := "capencApart", apart := false }
def CapencApartSaid : Prop := capencApartRow.holds Try.pinned (OpenSpec.ofChange capencApartSpec)

/-- ITS FALSE NEIGHBOUR: 'it returns false'. Refute it at one input. -/
def capencApartWrong : ChangeSpec := { name := "capencApart", fn := fun _ => fun
  | [d1, d2] => { results := [.lit (.bool false)], args := [d1, d2] }
  | _ => none }
def CapencApartWrongFalsely : Prop := capencApartRow.holds Try.pinned (OpenSpec.ofChange capencApartWrong)

/-- 'ravelinlaw04.CapencNumbers': WHATEVER THE INPUT: true; the input reads as it did. -/
def capencNumbersSpec : ChangeSpec := { name := "capencNumbers", fn := fun _ => fun
  | [d1, d2, d3] => { results := [.lit (.bool true)], args := [d1, d2, d3] }
  | _ => none }
def capencNumbersRow : OpenClaim := { program := "ytmakfbpflfdkkaa", sum := "6c0acf473d284d9bbe4ca595ae5324f16647289879583d51a03d0bc0cdbe81b5", func := "ravelin/ravelinlaw04.CapencNumbers", spec := "capencNumbers", apart := false }
def CapencNumbersSaid : Prop := capencNumbersRow.holds Try.pinned (OpenSpec.ofChange capencNumbersSpec)

/-- ITS FALSE NEIGHBOUR: 'it returns false'. Refute it at one input. -/
def capencNumbersWrong : ChangeSpec := { name := "capencNumbers", fn := fun _ => fun
  | [d1, d2, d3] => { results := [.lit (.bool false)], args := [d1, d2, d3] }
  | _ => none }
def CapencNumbersWrongFalsely : Prop := capencNumbersRow.holds Try.pinned (OpenSpec.ofChange capencNumbersWrong)

/-- 'ravelinlaw04.CapencFields': WHATEVER THE INPUT: true; the input reads as it did. -/
def capencFieldsSpec : ChangeSpec := { name := "capencFields", fn := fun _ => fun
  | [d1, d2, d3] => { results := [.lit (.bool true)], args := [d1, d2, d3] }
  | _ => none }
def capencFieldsRow : OpenClaim := { program := "ytmakfbpflfdkkaa", sum := "6c0acf473d284d9bbe4ca595ae5324f16647289879583d51a03d0bc0cdbe81b5", func := "ravelin/ravelinlaw04.CapencFields", spec := "capencFields", apart := false }
def CapencFieldsSaid : Prop := capencFieldsRow.holds Try.pinned (OpenSpec.ofChange capencFieldsSpec)

/-- ITS FALSE NEIGHBOUR: 'it returns false'. Refute it at one input. -/
def capencFieldsWrong : ChangeSpec := { name := "capencFields", fn := fun _ => fun
  | [d1, d2, d3] => { results := [.lit (.bool false)], args := [d1, d2, d3] }
  | _ => none }
def CapencFieldsWrongFalsely : Prop := capencFieldsRow.holds Try.pinned (OpenSpec.ofChange capencFieldsWrong)

/-- 'ravelinlaw04.CapencKnown': WHATEVER THE INPUT: true; the input reads as it did. -/
def capencKnownSpec : ChangeSpec := { name := "capencKnown", fn := fun _ => fun
  | [] => { results := [.lit (.bool true)], args := [] }
  | _ => none }
def capencKnownRow : OpenClaim := { program := "ytmakfbpflfdkkaa", sum := "6c0acf473d284d9bbe4ca595ae5324f16647289879583d51a03d0bc0cdbe81b5", func := "ravelin/ravelinlaw04.CapencKnown", spec := "capencKnown", apart := false }
def CapencKnownSaid : Prop := capencKnownRow.holds Try.pinned (OpenSpec.ofChange capencKnownSpec)

/-- ITS FALSE NEIGHBOUR: 'it returns false'. Refute it at one input. -/
def capencKnownWrong : ChangeSpec := { name := "capencKnown", fn := fun _ => fun
  | [] => { results := [.lit (.bool false)], args := [] }
  | _ => none }
def CapencKnownWrongFalsely : Prop := capencKnownRow.holds Try.pinned (OpenSpec.ofChange capencKnownWrong)

/- THE SECOND FORM. 'bulk': how many values and letters a reading holds, each counted each time it is reached (what is shared counts as often as it is met; a slice's spare places count too). A statement '..UptoSaid' is the law's where the arguments, and the package variables that the reading takes, are together of bulk at most 1048576: NARROWER than '..Said'. Prove '..Said' where nothing that the law and all that it calls make is longer than what came in: it says more and counts as full. Else prove '..UptoSaid'. A law counts once. -/
mutual
def uptoBulk {H : Type} : DataW H → Nat
  | .lit (.string bytes) => bytes.length + 1
  | .lit _ => 1
  | .nil => 1
  | .ptr d => uptoBulk d + 1
  | .slice elems spare => uptoBulkAll elems + uptoBulkAll spare + 1
  | .agg parts => uptoBulkAll parts + 1
  | .iface _ d => uptoBulk d + 1
  | .map entries => uptoBulkEntries entries + 1
  | .held _ => 1
def uptoBulkAll {H : Type} : List (DataW H) → Nat
  | [] => 0
  | d :: r => uptoBulk d + uptoBulkAll r
def uptoBulkEntries {H : Type} : List (Lit × DataW H) → Nat
  | [] => 0
  | x :: r => uptoBulkEntry x + uptoBulkEntries r
def uptoBulkEntry {H : Type} : Lit × DataW H → Nat
  | (.string bytes, d) => bytes.length + uptoBulk d + 1
  | (_, d) => uptoBulk d + 1
 end
def uptoSmall : (H : Type) → List (DataW H) → Bool := fun _ ds => decide (uptoBulkAll ds ≤ 1048576)
def OpenSpec.upto (s : _root_.Go.ChangeSpec) : _root_.Go.OpenSpec := { _root_.Go.OpenSpec.ofChange s with cond := some uptoSmall }

/-- 'ravelinlaw04.CapencPacks', WHERE WHAT IT READS IS OF BULK AT MOST 1048576: true; the input reads as it did. -/
def capencPacksUptoRow : OpenClaim := { program := "ytmakfbpflfdkkaa", sum := "6c0acf473d284d9bbe4ca595ae5324f16647289879583d51a03d0bc0cdbe81b5", func := "ravelin/ravelinlaw04.CapencPacks", spec := "capencPacks", apart := false, narrowed := true }
def CapencPacksUptoSaid : Prop := capencPacksUptoRow.holds Try.pinned (OpenSpec.upto capencPacksSpec)

/-- 'ravelinlaw04.CapencUnpacks', WHERE WHAT IT READS IS OF BULK AT MOST 1048576: true; the input reads as it did. -/
def capencUnpacksUptoRow : OpenClaim := { program := "ytmakfbpflfdkkaa", sum := "6c0acf473d284d9bbe4ca595ae5324f16647289879583d51a03d0bc0cdbe81b5", func := "ravelin/ravelinlaw04.CapencUnpacks", spec := "capencUnpacks", apart := false, narrowed := true }
def CapencUnpacksUptoSaid : Prop := capencUnpacksUptoRow.holds Try.pinned (OpenSpec.upto capencUnpacksSpec)

/-- 'ravelinlaw04.CapencMakes', WHERE WHAT IT READS IS OF BULK AT MOST 1048576: true; the input reads as it did. -/
def capencMakesUptoRow : OpenClaim := { program := "ytmakfbpflfdkkaa", sum := "6c0acf473d284d9bbe4ca595ae5324f16647289879583d51a03d0bc0cdbe81b5", func := "ravelin/ravelinlaw04.CapencMakes", spec := "capencMakes", apart := false, narrowed := true }
def CapencMakesUptoSaid : Prop := capencMakesUptoRow.holds Try.pinned (OpenSpec.upto capencMakesSpec)

/-- 'ravelinlaw04.CapencBack', WHERE WHAT IT READS IS OF BULK AT MOST 1048576: true; the input reads as it did. -/
def capencBackUptoRow : OpenClaim := { program := "ytmakfbpflfdkkaa", sum := "6c0acf473d284d9bbe4ca595ae5324f16647289879583d51a03d0bc0cdbe81b5", func := "ravelin/ravelinlaw04.CapencBack", spec := "capencBack", apart := false, narrowed := true }
def CapencBackUptoSaid : Prop := capencBackUptoRow.holds Try.pinned (OpenSpec.upto capencBackSpec)

/-- 'ravelinlaw04.CapencForms', WHERE WHAT IT READS IS OF BULK AT MOST 1048576: true; the input reads as it did. -/
def capencFormsUptoRow : OpenClaim := { program := "ytmakfbpflfdkkaa", sum := "6c0acf473d284d9bbe4ca595ae5324f16647289879583d51a03d0bc0cdbe81b5", func := "ravelin/ravelinlaw04.CapencForms", spec := "capencForms", apart := false, narrowed := true }
def CapencFormsUptoSaid : Prop := capencFormsUptoRow.holds Try.pinned (OpenSpec.upto capencFormsSpec)

/-- 'ravelinlaw04.CapencApart', WHERE WHAT IT READS IS OF BULK AT MOST 1048576: true; the input reads as it did. -/
def capencApartUptoRow : OpenClaim := { program := "ytmakfbpflfdkkaa", sum := "6c0acf473d284d9bbe4ca595ae5324f16647289879583d51a03d0bc0cdbe81b5", func := "ravelin/ravelinlaw04.CapencApart", spec := "capencApart", apart := false, narrowed := true }
def CapencApartUptoSaid : Prop := capencApartUptoRow.holds Try.pinned (OpenSpec.upto capencApartSpec)

/-- 'ravelinlaw04.CapencNumbers', WHERE WHAT IT READS IS OF BULK AT MOST 1048576: true; the input reads as it did. -/
def capencNumbersUptoRow : OpenClaim := { program := "ytmakfbpflfdkkaa", sum := "6c0acf473d284d9bbe4ca595ae5324f16647289879583d51a03d0bc0cdbe81b5", func := "ravelin/ravelinlaw04.CapencNumbers", spec := "capencNumbers", apart := false, narrowed := true }
def CapencNumbersUptoSaid : Prop := capencNumbersUptoRow.holds Try.pinned (OpenSpec.upto capencNumbersSpec)

/-- 'ravelinlaw04.CapencFields', WHERE WHAT IT READS IS OF BULK AT MOST 1048576: true; the input reads as it did. -/
def capencFieldsUptoRow : OpenClaim := { program := "ytmakfbpflfdkkaa", sum := "6c0acf473d284d9bbe4ca595ae5324f16647289879583d51a03d0bc0cdbe81b5", func := "ravelin/ravelinlaw04.CapencFields", spec := "capencFields", apart := false, narrowed := true }
def CapencFieldsUptoSaid : Prop := capencFieldsUptoRow.holds Try.pinned (OpenSpec.upto capencFieldsSpec)

/-- 'ravelinlaw04.CapencKnown', WHERE WHAT IT READS IS OF BULK AT MOST 1048576: true; the input reads as it did. -/
def capencKnownUptoRow : OpenClaim := { program := "ytmakfbpflfdkkaa", sum := "6c0acf473d284d9bbe4ca595ae5324f16647289879583d51a03d0bc0cdbe81b5", func := "ravelin/ravelinlaw04.CapencKnown", spec := "capencKnown", apart := false, narrowed := true }
def CapencKnownUptoSaid : Prop := capencKnownUptoRow.holds Try.pinned (OpenSpec.upto capencKnownSpec)

end Rows
end Go.Proofs.Ytmakfbpflfdkkaa
