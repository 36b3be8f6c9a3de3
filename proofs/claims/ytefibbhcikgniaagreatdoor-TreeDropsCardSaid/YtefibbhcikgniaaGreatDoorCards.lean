/-
  DERIVED. GIVEN WITH THE SEED: THE CARDS: each row of YtefibbhcikgniaaGreatDoorRows.lean that lists a variable, with what it lists TIED to the program's text (the seventh form; the later family's looks); each row that meets fmt, with fmt's text TOLD by the authors' own Lean function (tested against real Go, not proved from fmt's source: count such statements apart). THE CARD IS WHAT COUNTS. Prove the row's statement (the work); the ties are given (YtefibbhcikgniaaGreatDoorTie.lean); close each card by the builder's one call (the guide's Derived/Test/ToyasCard.lean, 'card_holds'). Laid BY PROGRAM, IN A SANDBOX (cutbox-door.mjs). By AI agents, Wed Nov 11 2026. No macro, syntax, notation, axiom, sorry.
-/
import Derived.Test.YtefibbhcikgniaaGreatDoorRows
import GoSem.ClaimSeven
namespace Go.Proofs.YtefibbhcikgniaaGreatDoor
namespace Rows

/-- THE TIED CARD OF 'keyholdlaw.SlotsSay'. -/
def slotsSayCard : Claim7 := { stood := { row := slotsSayRow, standIns := [], harness := (true, "1ccf99fc276bef7208a15571cdc1ddc6a3c6467368fdbae8f35d08d42c54b3f2"), looks := true }, kinds := [], alts := [], laidByText := true, laidKinds := [.handle], laidTests := true, laidLooks := .later }
def SlotsSayCardSaid : Prop := Claim7.holds Tryz.pinned (.plain (OpenSpec.ofChange slotsSaySpec)) slotsSayCard

/-- THE TIED CARD OF 'keyholdlaw.TreeCopies'. -/
def treeCopiesCard : Claim7 := { stood := { row := treeCopiesRow, standIns := [], harness := (true, "1ccf99fc276bef7208a15571cdc1ddc6a3c6467368fdbae8f35d08d42c54b3f2"), looks := true }, kinds := [], alts := [], laidByText := true, laidKinds := [.handle], laidTests := true, laidLooks := .later }
def TreeCopiesCardSaid : Prop := Claim7.holds Tryz.pinned (.plain (OpenSpec.ofChange treeCopiesSpec)) treeCopiesCard

/-- THE TIED CARD OF 'keyholdlaw.TreeDrops'. -/
def treeDropsCard : Claim7 := { stood := { row := treeDropsRow, standIns := [], harness := (true, "1ccf99fc276bef7208a15571cdc1ddc6a3c6467368fdbae8f35d08d42c54b3f2"), looks := true }, kinds := [], alts := [], laidByText := true, laidKinds := [.handle], laidTests := true, laidLooks := .later }
def TreeDropsCardSaid : Prop := Claim7.holds Tryz.pinned (.plain (OpenSpec.ofChange treeDropsSpec)) treeDropsCard

/-- THE TIED CARD OF 'keyholdlaw.TreeRevokes'. -/
def treeRevokesCard : Claim7 := { stood := { row := treeRevokesRow, standIns := [], harness := (true, "1ccf99fc276bef7208a15571cdc1ddc6a3c6467368fdbae8f35d08d42c54b3f2"), looks := true }, kinds := [], alts := [], laidByText := true, laidKinds := [.handle], laidTests := true, laidLooks := .later }
def TreeRevokesCardSaid : Prop := Claim7.holds Tryz.pinned (.plain (OpenSpec.ofChange treeRevokesSpec)) treeRevokesCard

/-- THE TIED CARD OF 'keyholdlaw.ClayMakes'. -/
def clayMakesCard : Claim7 := { stood := { row := clayMakesRow, standIns := [], harness := (true, "1ccf99fc276bef7208a15571cdc1ddc6a3c6467368fdbae8f35d08d42c54b3f2"), looks := true }, kinds := [], alts := [], laidByText := true, laidKinds := [.handle], laidTests := true, laidLooks := .later }
def ClayMakesCardSaid : Prop := Claim7.holds Tryz.pinned (.plain (OpenSpec.ofChange clayMakesSpec)) clayMakesCard

/-- THE TIED CARD OF 'keyholdlaw.MailTakes'. -/
def mailTakesCard : Claim7 := { stood := { row := mailTakesRow, standIns := [], harness := (true, "1ccf99fc276bef7208a15571cdc1ddc6a3c6467368fdbae8f35d08d42c54b3f2"), looks := true }, kinds := [], alts := [], laidByText := true, laidKinds := [.handle], laidTests := true, laidLooks := .later }
def MailTakesCardSaid : Prop := Claim7.holds Tryz.pinned (.plain (OpenSpec.ofChange mailTakesSpec)) mailTakesCard

/-- THE SECOND FORM's CARD OF 'keyholdlaw.SlotsSay'. -/
def slotsSayUptoCard : Claim7 := { stood := { row := slotsSayUptoRow, standIns := [], harness := (true, "1ccf99fc276bef7208a15571cdc1ddc6a3c6467368fdbae8f35d08d42c54b3f2"), looks := true }, kinds := [], alts := [], laidByText := true, laidKinds := [.handle], laidTests := true, laidLooks := .later }
def SlotsSayUptoCardSaid : Prop := Claim7.holds Tryz.pinned (.plain (OpenSpec.upto slotsSaySpec)) slotsSayUptoCard

/-- THE SECOND FORM's CARD OF 'keyholdlaw.TreeCopies'. -/
def treeCopiesUptoCard : Claim7 := { stood := { row := treeCopiesUptoRow, standIns := [], harness := (true, "1ccf99fc276bef7208a15571cdc1ddc6a3c6467368fdbae8f35d08d42c54b3f2"), looks := true }, kinds := [], alts := [], laidByText := true, laidKinds := [.handle], laidTests := true, laidLooks := .later }
def TreeCopiesUptoCardSaid : Prop := Claim7.holds Tryz.pinned (.plain (OpenSpec.upto treeCopiesSpec)) treeCopiesUptoCard

/-- THE SECOND FORM's CARD OF 'keyholdlaw.TreeDrops'. -/
def treeDropsUptoCard : Claim7 := { stood := { row := treeDropsUptoRow, standIns := [], harness := (true, "1ccf99fc276bef7208a15571cdc1ddc6a3c6467368fdbae8f35d08d42c54b3f2"), looks := true }, kinds := [], alts := [], laidByText := true, laidKinds := [.handle], laidTests := true, laidLooks := .later }
def TreeDropsUptoCardSaid : Prop := Claim7.holds Tryz.pinned (.plain (OpenSpec.upto treeDropsSpec)) treeDropsUptoCard

/-- THE SECOND FORM's CARD OF 'keyholdlaw.TreeRevokes'. -/
def treeRevokesUptoCard : Claim7 := { stood := { row := treeRevokesUptoRow, standIns := [], harness := (true, "1ccf99fc276bef7208a15571cdc1ddc6a3c6467368fdbae8f35d08d42c54b3f2"), looks := true }, kinds := [], alts := [], laidByText := true, laidKinds := [.handle], laidTests := true, laidLooks := .later }
def TreeRevokesUptoCardSaid : Prop := Claim7.holds Tryz.pinned (.plain (OpenSpec.upto treeRevokesSpec)) treeRevokesUptoCard

/-- THE SECOND FORM's CARD OF 'keyholdlaw.ClayMakes'. -/
def clayMakesUptoCard : Claim7 := { stood := { row := clayMakesUptoRow, standIns := [], harness := (true, "1ccf99fc276bef7208a15571cdc1ddc6a3c6467368fdbae8f35d08d42c54b3f2"), looks := true }, kinds := [], alts := [], laidByText := true, laidKinds := [.handle], laidTests := true, laidLooks := .later }
def ClayMakesUptoCardSaid : Prop := Claim7.holds Tryz.pinned (.plain (OpenSpec.upto clayMakesSpec)) clayMakesUptoCard

/-- THE SECOND FORM's CARD OF 'keyholdlaw.MailTakes'. -/
def mailTakesUptoCard : Claim7 := { stood := { row := mailTakesUptoRow, standIns := [], harness := (true, "1ccf99fc276bef7208a15571cdc1ddc6a3c6467368fdbae8f35d08d42c54b3f2"), looks := true }, kinds := [], alts := [], laidByText := true, laidKinds := [.handle], laidTests := true, laidLooks := .later }
def MailTakesUptoCardSaid : Prop := Claim7.holds Tryz.pinned (.plain (OpenSpec.upto mailTakesSpec)) mailTakesUptoCard
end Rows
end Go.Proofs.YtefibbhcikgniaaGreatDoor
