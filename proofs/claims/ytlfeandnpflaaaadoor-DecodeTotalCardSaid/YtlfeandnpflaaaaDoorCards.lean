/-
  DERIVED. GIVEN WITH THE SEED: THE CARDS: each row of YtlfeandnpflaaaaDoorRows.lean that lists a variable, with what it lists TIED to the program's text (the seventh form; the later family's looks); each row that meets fmt, with fmt's text TOLD by the authors' own Lean function (tested against real Go, not proved from fmt's source: count such statements apart). THE CARD IS WHAT COUNTS. Prove the row's statement (the work); the ties are given (YtlfeandnpflaaaaDoorTie.lean); close each card by the builder's one call (the guide's Derived/Test/ToyasCard.lean, 'card_holds'). Laid BY PROGRAM, IN A SANDBOX (cutbox-door.mjs). By AI agents, Wed Nov 11 2026. No macro, syntax, notation, axiom, sorry.
-/
import Derived.Test.YtlfeandnpflaaaaDoorRows
import GoSem.ClaimSeven
namespace Go.Proofs.YtlfeandnpflaaaaDoor
namespace Rows

/-- THE TIED CARD OF 'ravelinlaw10.DecodeTotal'. -/
def decodeTotalCard : Claim7 := { stood := { row := decodeTotalRow, standIns := [], harness := (true, "3fb9d536c3b028ae9c759207da8cd6e86c925ca417896c8cb477329e6ca55fd0"), looks := false }, kinds := [], alts := [], laidByText := true, laidKinds := [.data, .data], laidTests := true, laidLooks := .later }
def DecodeTotalCardSaid : Prop := Claim7.holds Tryd.pinned (.plain (OpenSpec.ofChange decodeTotalSpec)) decodeTotalCard

/-- THE TIED CARD OF 'ravelinlaw10.DecodeWho'. -/
def decodeWhoCard : Claim7 := { stood := { row := decodeWhoRow, standIns := [], harness := (true, "3fb9d536c3b028ae9c759207da8cd6e86c925ca417896c8cb477329e6ca55fd0"), looks := false }, kinds := [], alts := [], laidByText := true, laidKinds := [.data, .data], laidTests := true, laidLooks := .later }
def DecodeWhoCardSaid : Prop := Claim7.holds Tryd.pinned (.plain (OpenSpec.ofChange decodeWhoSpec)) decodeWhoCard

/-- THE SECOND FORM's CARD OF 'ravelinlaw10.DecodeTotal'. -/
def decodeTotalUptoCard : Claim7 := { stood := { row := decodeTotalUptoRow, standIns := [], harness := (true, "3fb9d536c3b028ae9c759207da8cd6e86c925ca417896c8cb477329e6ca55fd0"), looks := false }, kinds := [], alts := [], laidByText := true, laidKinds := [.data, .data], laidTests := true, laidLooks := .later }
def DecodeTotalUptoCardSaid : Prop := Claim7.holds Tryd.pinned (.plain (OpenSpec.upto decodeTotalSpec)) decodeTotalUptoCard

/-- THE SECOND FORM's CARD OF 'ravelinlaw10.DecodeWho'. -/
def decodeWhoUptoCard : Claim7 := { stood := { row := decodeWhoUptoRow, standIns := [], harness := (true, "3fb9d536c3b028ae9c759207da8cd6e86c925ca417896c8cb477329e6ca55fd0"), looks := false }, kinds := [], alts := [], laidByText := true, laidKinds := [.data, .data], laidTests := true, laidLooks := .later }
def DecodeWhoUptoCardSaid : Prop := Claim7.holds Tryd.pinned (.plain (OpenSpec.upto decodeWhoSpec)) decodeWhoUptoCard
end Rows
end Go.Proofs.YtlfeandnpflaaaaDoor
