/-
  DERIVED. GIVEN WITH THE SEED: THE CARDS: each row of YtagoeceaobikaaaDoorRows.lean that lists a variable, with what it lists TIED to the program's text (the seventh form; the later family's looks); each row that meets fmt, with fmt's text TOLD by the authors' own Lean function (tested against real Go, not proved from fmt's source: count such statements apart). THE CARD IS WHAT COUNTS. Prove the row's statement (the work); the ties are given (YtagoeceaobikaaaDoorTie.lean); close each card by the builder's one call (the guide's Derived/Test/ToyasCard.lean, 'card_holds'). Laid BY PROGRAM, IN A SANDBOX (cutbox-door.mjs). By AI agents, Wed Nov 11 2026. No macro, syntax, notation, axiom, sorry.
-/
import Derived.Test.YtagoeceaobikaaaDoorRows
import GoSem.ClaimSeven
namespace Go.Proofs.YtagoeceaobikaaaDoor
namespace Rows

/-- THE TIED CARD OF 'ravelinlaw08.RvcExpands'. -/
def rvcExpandsCard : Claim7 := { stood := { row := rvcExpandsRow, standIns := [], harness := (true, "6910c0223345c587b8be54a1f1d33024d61edcb3e9a574ef51d78e68c2a43e3b"), looks := false }, kinds := [], alts := [], laidByText := true, laidKinds := [.data, .data], laidTests := true, laidLooks := .later }
def RvcExpandsCardSaid : Prop := Claim7.holds Tryd.pinned (.plain (OpenSpec.ofChange rvcExpandsSpec)) rvcExpandsCard

/-- THE TIED CARD OF 'ravelinlaw08.RvcLong'. -/
def rvcLongCard : Claim7 := { stood := { row := rvcLongRow, standIns := [], harness := (true, "6910c0223345c587b8be54a1f1d33024d61edcb3e9a574ef51d78e68c2a43e3b"), looks := false }, kinds := [], alts := [], laidByText := true, laidKinds := [.data, .data], laidTests := true, laidLooks := .later }
def RvcLongCardSaid : Prop := Claim7.holds Tryd.pinned (.plain (OpenSpec.ofChange rvcLongSpec)) rvcLongCard

/-- THE TIED CARD OF 'ravelinlaw08.RvcReach'. -/
def rvcReachCard : Claim7 := { stood := { row := rvcReachRow, standIns := [], harness := (true, "6910c0223345c587b8be54a1f1d33024d61edcb3e9a574ef51d78e68c2a43e3b"), looks := false }, kinds := [], alts := [], laidByText := true, laidKinds := [.data, .data], laidTests := true, laidLooks := .later }
def RvcReachCardSaid : Prop := Claim7.holds Tryd.pinned (.plain (OpenSpec.ofChange rvcReachSpec)) rvcReachCard

/-- THE TIED CARD OF 'ravelinlaw08.RvcApart'. -/
def rvcApartCard : Claim7 := { stood := { row := rvcApartRow, standIns := [], harness := (true, "6910c0223345c587b8be54a1f1d33024d61edcb3e9a574ef51d78e68c2a43e3b"), looks := false }, kinds := [], alts := [], laidByText := true, laidKinds := [.data, .data], laidTests := true, laidLooks := .later }
def RvcApartCardSaid : Prop := Claim7.holds Tryd.pinned (.plain (OpenSpec.ofChange rvcApartSpec)) rvcApartCard

/-- THE TIED CARD OF 'ravelinlaw08.RvcAll'. -/
def rvcAllCard : Claim7 := { stood := { row := rvcAllRow, standIns := [], harness := (true, "6910c0223345c587b8be54a1f1d33024d61edcb3e9a574ef51d78e68c2a43e3b"), looks := false }, kinds := [], alts := [], laidByText := true, laidKinds := [.data, .data], laidTests := true, laidLooks := .later }
def RvcAllCardSaid : Prop := Claim7.holds Tryd.pinned (.plain (OpenSpec.ofChange rvcAllSpec)) rvcAllCard

/-- THE TIED CARD OF 'ravelinlaw08.RvcRows'. -/
def rvcRowsCard : Claim7 := { stood := { row := rvcRowsRow, standIns := [], harness := (true, "6910c0223345c587b8be54a1f1d33024d61edcb3e9a574ef51d78e68c2a43e3b"), looks := false }, kinds := [], alts := [], laidByText := true, laidKinds := [.data, .data], laidTests := true, laidLooks := .later }
def RvcRowsCardSaid : Prop := Claim7.holds Tryd.pinned (.plain (OpenSpec.ofChange rvcRowsSpec)) rvcRowsCard

/-- THE SECOND FORM's CARD OF 'ravelinlaw08.RvcExpands'. -/
def rvcExpandsUptoCard : Claim7 := { stood := { row := rvcExpandsUptoRow, standIns := [], harness := (true, "6910c0223345c587b8be54a1f1d33024d61edcb3e9a574ef51d78e68c2a43e3b"), looks := false }, kinds := [], alts := [], laidByText := true, laidKinds := [.data, .data], laidTests := true, laidLooks := .later }
def RvcExpandsUptoCardSaid : Prop := Claim7.holds Tryd.pinned (.plain (OpenSpec.upto rvcExpandsSpec)) rvcExpandsUptoCard

/-- THE SECOND FORM's CARD OF 'ravelinlaw08.RvcLong'. -/
def rvcLongUptoCard : Claim7 := { stood := { row := rvcLongUptoRow, standIns := [], harness := (true, "6910c0223345c587b8be54a1f1d33024d61edcb3e9a574ef51d78e68c2a43e3b"), looks := false }, kinds := [], alts := [], laidByText := true, laidKinds := [.data, .data], laidTests := true, laidLooks := .later }
def RvcLongUptoCardSaid : Prop := Claim7.holds Tryd.pinned (.plain (OpenSpec.upto rvcLongSpec)) rvcLongUptoCard

/-- THE SECOND FORM's CARD OF 'ravelinlaw08.RvcReach'. -/
def rvcReachUptoCard : Claim7 := { stood := { row := rvcReachUptoRow, standIns := [], harness := (true, "6910c0223345c587b8be54a1f1d33024d61edcb3e9a574ef51d78e68c2a43e3b"), looks := false }, kinds := [], alts := [], laidByText := true, laidKinds := [.data, .data], laidTests := true, laidLooks := .later }
def RvcReachUptoCardSaid : Prop := Claim7.holds Tryd.pinned (.plain (OpenSpec.upto rvcReachSpec)) rvcReachUptoCard

/-- THE SECOND FORM's CARD OF 'ravelinlaw08.RvcApart'. -/
def rvcApartUptoCard : Claim7 := { stood := { row := rvcApartUptoRow, standIns := [], harness := (true, "6910c0223345c587b8be54a1f1d33024d61edcb3e9a574ef51d78e68c2a43e3b"), looks := false }, kinds := [], alts := [], laidByText := true, laidKinds := [.data, .data], laidTests := true, laidLooks := .later }
def RvcApartUptoCardSaid : Prop := Claim7.holds Tryd.pinned (.plain (OpenSpec.upto rvcApartSpec)) rvcApartUptoCard

/-- THE SECOND FORM's CARD OF 'ravelinlaw08.RvcAll'. -/
def rvcAllUptoCard : Claim7 := { stood := { row := rvcAllUptoRow, standIns := [], harness := (true, "6910c0223345c587b8be54a1f1d33024d61edcb3e9a574ef51d78e68c2a43e3b"), looks := false }, kinds := [], alts := [], laidByText := true, laidKinds := [.data, .data], laidTests := true, laidLooks := .later }
def RvcAllUptoCardSaid : Prop := Claim7.holds Tryd.pinned (.plain (OpenSpec.upto rvcAllSpec)) rvcAllUptoCard

/-- THE SECOND FORM's CARD OF 'ravelinlaw08.RvcRows'. -/
def rvcRowsUptoCard : Claim7 := { stood := { row := rvcRowsUptoRow, standIns := [], harness := (true, "6910c0223345c587b8be54a1f1d33024d61edcb3e9a574ef51d78e68c2a43e3b"), looks := false }, kinds := [], alts := [], laidByText := true, laidKinds := [.data, .data], laidTests := true, laidLooks := .later }
def RvcRowsUptoCardSaid : Prop := Claim7.holds Tryd.pinned (.plain (OpenSpec.upto rvcRowsSpec)) rvcRowsUptoCard
end Rows
end Go.Proofs.YtagoeceaobikaaaDoor
