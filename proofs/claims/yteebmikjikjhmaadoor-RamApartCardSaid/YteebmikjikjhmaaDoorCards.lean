/-
  DERIVED. GIVEN WITH THE SEED: THE CARDS: each row of YteebmikjikjhmaaDoorRows.lean that lists a variable, with what it lists TIED to the program's text (the seventh form; the later family's looks); each row that meets fmt, with fmt's text TOLD by the authors' own Lean function (tested against real Go, not proved from fmt's source: count such statements apart). THE CARD IS WHAT COUNTS. Prove the row's statement (the work); the ties are given (YteebmikjikjhmaaDoorTie.lean); close each card by the builder's one call (the guide's Derived/Test/ToyasCard.lean, 'card_holds'). Laid BY PROGRAM, IN A SANDBOX (cutbox-door.mjs). By AI agents, Wed Nov 11 2026. No macro, syntax, notation, axiom, sorry.
-/
import Derived.Test.YteebmikjikjhmaaDoorRows
import GoSem.ClaimSeven
namespace Go.Proofs.YteebmikjikjhmaaDoor
namespace Rows

/-- THE TIED CARD OF 'ravelinlaw11.RamPlays'. -/
def ramPlaysCard : Claim7 := { stood := { row := ramPlaysRow, standIns := [], harness := (true, "845ea52947917a85ab799978b47e8bdf0b908fb72d8fdab586e6dc9e2c3d99b9"), looks := false }, kinds := [], alts := [], laidByText := true, laidKinds := [.data], laidTests := true, laidLooks := .later }
def RamPlaysCardSaid : Prop := Claim7.holds Tryd.pinned (.plain (OpenSpec.ofChange ramPlaysSpec)) ramPlaysCard

/-- THE TIED CARD OF 'ravelinlaw11.RamTags'. -/
def ramTagsCard : Claim7 := { stood := { row := ramTagsRow, standIns := [], harness := (true, "845ea52947917a85ab799978b47e8bdf0b908fb72d8fdab586e6dc9e2c3d99b9"), looks := false }, kinds := [], alts := [], laidByText := true, laidKinds := [.data], laidTests := true, laidLooks := .later }
def RamTagsCardSaid : Prop := Claim7.holds Tryd.pinned (.plain (OpenSpec.ofChange ramTagsSpec)) ramTagsCard

/-- THE TIED CARD OF 'ravelinlaw11.RamBack'. -/
def ramBackCard : Claim7 := { stood := { row := ramBackRow, standIns := [], harness := (true, "845ea52947917a85ab799978b47e8bdf0b908fb72d8fdab586e6dc9e2c3d99b9"), looks := false }, kinds := [], alts := [], laidByText := true, laidKinds := [.data], laidTests := true, laidLooks := .later }
def RamBackCardSaid : Prop := Claim7.holds Tryd.pinned (.plain (OpenSpec.ofChange ramBackSpec)) ramBackCard

/-- THE TIED CARD OF 'ravelinlaw11.RamKnown'. -/
def ramKnownCard : Claim7 := { stood := { row := ramKnownRow, standIns := [], harness := (true, "845ea52947917a85ab799978b47e8bdf0b908fb72d8fdab586e6dc9e2c3d99b9"), looks := false }, kinds := [], alts := [], laidByText := true, laidKinds := [.data], laidTests := true, laidLooks := .later }
def RamKnownCardSaid : Prop := Claim7.holds Tryd.pinned (.plain (OpenSpec.ofChange ramKnownSpec)) ramKnownCard

/-- THE TIED CARD OF 'ravelinlaw11.RamApart'. -/
def ramApartCard : Claim7 := { stood := { row := ramApartRow, standIns := [], harness := (true, "845ea52947917a85ab799978b47e8bdf0b908fb72d8fdab586e6dc9e2c3d99b9"), looks := false }, kinds := [], alts := [], laidByText := true, laidKinds := [.data], laidTests := true, laidLooks := .later }
def RamApartCardSaid : Prop := Claim7.holds Tryd.pinned (.plain (OpenSpec.ofChange ramApartSpec)) ramApartCard

/-- THE SECOND FORM's CARD OF 'ravelinlaw11.RamPlays'. -/
def ramPlaysUptoCard : Claim7 := { stood := { row := ramPlaysUptoRow, standIns := [], harness := (true, "845ea52947917a85ab799978b47e8bdf0b908fb72d8fdab586e6dc9e2c3d99b9"), looks := false }, kinds := [], alts := [], laidByText := true, laidKinds := [.data], laidTests := true, laidLooks := .later }
def RamPlaysUptoCardSaid : Prop := Claim7.holds Tryd.pinned (.plain (OpenSpec.upto ramPlaysSpec)) ramPlaysUptoCard

/-- THE SECOND FORM's CARD OF 'ravelinlaw11.RamTags'. -/
def ramTagsUptoCard : Claim7 := { stood := { row := ramTagsUptoRow, standIns := [], harness := (true, "845ea52947917a85ab799978b47e8bdf0b908fb72d8fdab586e6dc9e2c3d99b9"), looks := false }, kinds := [], alts := [], laidByText := true, laidKinds := [.data], laidTests := true, laidLooks := .later }
def RamTagsUptoCardSaid : Prop := Claim7.holds Tryd.pinned (.plain (OpenSpec.upto ramTagsSpec)) ramTagsUptoCard

/-- THE SECOND FORM's CARD OF 'ravelinlaw11.RamBack'. -/
def ramBackUptoCard : Claim7 := { stood := { row := ramBackUptoRow, standIns := [], harness := (true, "845ea52947917a85ab799978b47e8bdf0b908fb72d8fdab586e6dc9e2c3d99b9"), looks := false }, kinds := [], alts := [], laidByText := true, laidKinds := [.data], laidTests := true, laidLooks := .later }
def RamBackUptoCardSaid : Prop := Claim7.holds Tryd.pinned (.plain (OpenSpec.upto ramBackSpec)) ramBackUptoCard

/-- THE SECOND FORM's CARD OF 'ravelinlaw11.RamKnown'. -/
def ramKnownUptoCard : Claim7 := { stood := { row := ramKnownUptoRow, standIns := [], harness := (true, "845ea52947917a85ab799978b47e8bdf0b908fb72d8fdab586e6dc9e2c3d99b9"), looks := false }, kinds := [], alts := [], laidByText := true, laidKinds := [.data], laidTests := true, laidLooks := .later }
def RamKnownUptoCardSaid : Prop := Claim7.holds Tryd.pinned (.plain (OpenSpec.upto ramKnownSpec)) ramKnownUptoCard

/-- THE SECOND FORM's CARD OF 'ravelinlaw11.RamApart'. -/
def ramApartUptoCard : Claim7 := { stood := { row := ramApartUptoRow, standIns := [], harness := (true, "845ea52947917a85ab799978b47e8bdf0b908fb72d8fdab586e6dc9e2c3d99b9"), looks := false }, kinds := [], alts := [], laidByText := true, laidKinds := [.data], laidTests := true, laidLooks := .later }
def RamApartUptoCardSaid : Prop := Claim7.holds Tryd.pinned (.plain (OpenSpec.upto ramApartSpec)) ramApartUptoCard
end Rows
end Go.Proofs.YteebmikjikjhmaaDoor
