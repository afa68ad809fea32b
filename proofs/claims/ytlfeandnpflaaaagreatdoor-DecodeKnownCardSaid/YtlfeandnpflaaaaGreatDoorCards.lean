/-
  DERIVED. GIVEN WITH THE SEED: THE CARDS: each row of YtlfeandnpflaaaaGreatDoorRows.lean that lists a variable, with what it lists TIED to the program's text (the seventh form; the later family's looks); each row that meets fmt, with fmt's text TOLD by the authors' own Lean function (tested against real Go, not proved from fmt's source: count such statements apart). THE CARD IS WHAT COUNTS. Prove the row's statement (the work); the ties are given (YtlfeandnpflaaaaGreatDoorTie.lean); close each card by the builder's one call (the guide's Derived/Test/ToyasCard.lean, 'card_holds'). Laid BY PROGRAM, IN A SANDBOX (cutbox-door.mjs). By AI agents, Wed Nov 11 2026. No macro, syntax, notation, axiom, sorry.
-/
import Derived.Test.YtlfeandnpflaaaaGreatDoorRows
import GoSem.ClaimSeven
namespace Go.Proofs.YtlfeandnpflaaaaGreatDoor
namespace Rows

/-- THE TIED CARD OF 'ravelinlaw10.DecodeTells'. -/
def decodeTellsCard : Claim7 := { stood := { row := decodeTellsRow, standIns := [], harness := (true, "096397d2b363b064a44135642339abb57f315b8b357641318c012062424ab3ba"), looks := false }, kinds := [], alts := [], laidByText := true, laidKinds := [.data, .data], laidTests := true, laidLooks := .later }
def DecodeTellsCardSaid : Prop := Claim7.holds Tryz.pinned (.plain (OpenSpec.ofChange decodeTellsSpec)) decodeTellsCard

/-- THE TIED CARD OF 'ravelinlaw10.DecodeKnown'. -/
def decodeKnownCard : Claim7 := { stood := { row := decodeKnownRow, standIns := [], harness := (true, "096397d2b363b064a44135642339abb57f315b8b357641318c012062424ab3ba"), looks := false }, kinds := [], alts := [], laidByText := true, laidKinds := [.data, .data], laidTests := true, laidLooks := .later }
def DecodeKnownCardSaid : Prop := Claim7.holds Tryz.pinned (.plain (OpenSpec.ofChange decodeKnownSpec)) decodeKnownCard

/-- THE SECOND FORM's CARD OF 'ravelinlaw10.DecodeTells'. -/
def decodeTellsUptoCard : Claim7 := { stood := { row := decodeTellsUptoRow, standIns := [], harness := (true, "096397d2b363b064a44135642339abb57f315b8b357641318c012062424ab3ba"), looks := false }, kinds := [], alts := [], laidByText := true, laidKinds := [.data, .data], laidTests := true, laidLooks := .later }
def DecodeTellsUptoCardSaid : Prop := Claim7.holds Tryz.pinned (.plain (OpenSpec.upto decodeTellsSpec)) decodeTellsUptoCard

/-- THE SECOND FORM's CARD OF 'ravelinlaw10.DecodeKnown'. -/
def decodeKnownUptoCard : Claim7 := { stood := { row := decodeKnownUptoRow, standIns := [], harness := (true, "096397d2b363b064a44135642339abb57f315b8b357641318c012062424ab3ba"), looks := false }, kinds := [], alts := [], laidByText := true, laidKinds := [.data, .data], laidTests := true, laidLooks := .later }
def DecodeKnownUptoCardSaid : Prop := Claim7.holds Tryz.pinned (.plain (OpenSpec.upto decodeKnownSpec)) decodeKnownUptoCard
end Rows
end Go.Proofs.YtlfeandnpflaaaaGreatDoor
