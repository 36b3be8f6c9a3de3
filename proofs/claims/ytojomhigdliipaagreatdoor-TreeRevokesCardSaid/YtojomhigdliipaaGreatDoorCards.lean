/-
  DERIVED. GIVEN WITH THE SEED: THE CARDS: each row of YtojomhigdliipaaGreatDoorRows.lean that lists a variable, with what it lists TIED to the program's text (the seventh form; the later family's looks); each row that meets fmt, with fmt's text TOLD by the authors' own Lean function (tested against real Go, not proved from fmt's source: count such statements apart). THE CARD IS WHAT COUNTS. Prove the row's statement (the work); the ties are given (YtojomhigdliipaaGreatDoorTie.lean); close each card by the builder's one call (the guide's Derived/Test/ToyasCard.lean, 'card_holds'). Laid BY PROGRAM, IN A SANDBOX (cutbox-door.mjs). By AI agents, Wed Nov 11 2026. No macro, syntax, notation, axiom, sorry.
-/
import Derived.Test.YtojomhigdliipaaGreatDoorRows
import GoSem.ClaimSeven
namespace Go.Proofs.YtojomhigdliipaaGreatDoor
namespace Rows

/-- THE TIED CARD OF 'keyholdlaw.WorldSays'. -/
def worldSaysCard : Claim7 := { stood := { row := worldSaysRow, standIns := [], harness := (true, "a61e74ff78e62cf1d18de5150daa9d0e9b5a9187c3b571f85965089fa2cacbd2"), looks := true }, kinds := [], alts := [], laidByText := true, laidKinds := [.handle], laidTests := true, laidLooks := .later }
def WorldSaysCardSaid : Prop := Claim7.holds Tryz.pinned (.plain (OpenSpec.ofChange worldSaysSpec)) worldSaysCard

/-- THE TIED CARD OF 'keyholdlaw.SlotsSay'. -/
def slotsSayCard : Claim7 := { stood := { row := slotsSayRow, standIns := [], harness := (true, "a61e74ff78e62cf1d18de5150daa9d0e9b5a9187c3b571f85965089fa2cacbd2"), looks := true }, kinds := [], alts := [], laidByText := true, laidKinds := [.handle], laidTests := true, laidLooks := .later }
def SlotsSayCardSaid : Prop := Claim7.holds Tryz.pinned (.plain (OpenSpec.ofChange slotsSaySpec)) slotsSayCard

/-- THE TIED CARD OF 'keyholdlaw.TreeCopies'. -/
def treeCopiesCard : Claim7 := { stood := { row := treeCopiesRow, standIns := [], harness := (true, "a61e74ff78e62cf1d18de5150daa9d0e9b5a9187c3b571f85965089fa2cacbd2"), looks := true }, kinds := [], alts := [], laidByText := true, laidKinds := [.handle], laidTests := true, laidLooks := .later }
def TreeCopiesCardSaid : Prop := Claim7.holds Tryz.pinned (.plain (OpenSpec.ofChange treeCopiesSpec)) treeCopiesCard

/-- THE TIED CARD OF 'keyholdlaw.TreeMoves'. -/
def treeMovesCard : Claim7 := { stood := { row := treeMovesRow, standIns := [], harness := (true, "a61e74ff78e62cf1d18de5150daa9d0e9b5a9187c3b571f85965089fa2cacbd2"), looks := true }, kinds := [], alts := [], laidByText := true, laidKinds := [.handle], laidTests := true, laidLooks := .later }
def TreeMovesCardSaid : Prop := Claim7.holds Tryz.pinned (.plain (OpenSpec.ofChange treeMovesSpec)) treeMovesCard

/-- THE TIED CARD OF 'keyholdlaw.TreeDrops'. -/
def treeDropsCard : Claim7 := { stood := { row := treeDropsRow, standIns := [], harness := (true, "a61e74ff78e62cf1d18de5150daa9d0e9b5a9187c3b571f85965089fa2cacbd2"), looks := true }, kinds := [], alts := [], laidByText := true, laidKinds := [.handle], laidTests := true, laidLooks := .later }
def TreeDropsCardSaid : Prop := Claim7.holds Tryz.pinned (.plain (OpenSpec.ofChange treeDropsSpec)) treeDropsCard

/-- THE TIED CARD OF 'keyholdlaw.TreeRevokes'. -/
def treeRevokesCard : Claim7 := { stood := { row := treeRevokesRow, standIns := [], harness := (true, "a61e74ff78e62cf1d18de5150daa9d0e9b5a9187c3b571f85965089fa2cacbd2"), looks := true }, kinds := [], alts := [], laidByText := true, laidKinds := [.handle], laidTests := true, laidLooks := .later }
def TreeRevokesCardSaid : Prop := Claim7.holds Tryz.pinned (.plain (OpenSpec.ofChange treeRevokesSpec)) treeRevokesCard

/-- THE SECOND FORM's CARD OF 'keyholdlaw.WorldSays'. -/
def worldSaysUptoCard : Claim7 := { stood := { row := worldSaysUptoRow, standIns := [], harness := (true, "a61e74ff78e62cf1d18de5150daa9d0e9b5a9187c3b571f85965089fa2cacbd2"), looks := true }, kinds := [], alts := [], laidByText := true, laidKinds := [.handle], laidTests := true, laidLooks := .later }
def WorldSaysUptoCardSaid : Prop := Claim7.holds Tryz.pinned (.plain (OpenSpec.upto worldSaysSpec)) worldSaysUptoCard

/-- THE SECOND FORM's CARD OF 'keyholdlaw.SlotsSay'. -/
def slotsSayUptoCard : Claim7 := { stood := { row := slotsSayUptoRow, standIns := [], harness := (true, "a61e74ff78e62cf1d18de5150daa9d0e9b5a9187c3b571f85965089fa2cacbd2"), looks := true }, kinds := [], alts := [], laidByText := true, laidKinds := [.handle], laidTests := true, laidLooks := .later }
def SlotsSayUptoCardSaid : Prop := Claim7.holds Tryz.pinned (.plain (OpenSpec.upto slotsSaySpec)) slotsSayUptoCard

/-- THE SECOND FORM's CARD OF 'keyholdlaw.TreeCopies'. -/
def treeCopiesUptoCard : Claim7 := { stood := { row := treeCopiesUptoRow, standIns := [], harness := (true, "a61e74ff78e62cf1d18de5150daa9d0e9b5a9187c3b571f85965089fa2cacbd2"), looks := true }, kinds := [], alts := [], laidByText := true, laidKinds := [.handle], laidTests := true, laidLooks := .later }
def TreeCopiesUptoCardSaid : Prop := Claim7.holds Tryz.pinned (.plain (OpenSpec.upto treeCopiesSpec)) treeCopiesUptoCard

/-- THE SECOND FORM's CARD OF 'keyholdlaw.TreeMoves'. -/
def treeMovesUptoCard : Claim7 := { stood := { row := treeMovesUptoRow, standIns := [], harness := (true, "a61e74ff78e62cf1d18de5150daa9d0e9b5a9187c3b571f85965089fa2cacbd2"), looks := true }, kinds := [], alts := [], laidByText := true, laidKinds := [.handle], laidTests := true, laidLooks := .later }
def TreeMovesUptoCardSaid : Prop := Claim7.holds Tryz.pinned (.plain (OpenSpec.upto treeMovesSpec)) treeMovesUptoCard

/-- THE SECOND FORM's CARD OF 'keyholdlaw.TreeDrops'. -/
def treeDropsUptoCard : Claim7 := { stood := { row := treeDropsUptoRow, standIns := [], harness := (true, "a61e74ff78e62cf1d18de5150daa9d0e9b5a9187c3b571f85965089fa2cacbd2"), looks := true }, kinds := [], alts := [], laidByText := true, laidKinds := [.handle], laidTests := true, laidLooks := .later }
def TreeDropsUptoCardSaid : Prop := Claim7.holds Tryz.pinned (.plain (OpenSpec.upto treeDropsSpec)) treeDropsUptoCard

/-- THE SECOND FORM's CARD OF 'keyholdlaw.TreeRevokes'. -/
def treeRevokesUptoCard : Claim7 := { stood := { row := treeRevokesUptoRow, standIns := [], harness := (true, "a61e74ff78e62cf1d18de5150daa9d0e9b5a9187c3b571f85965089fa2cacbd2"), looks := true }, kinds := [], alts := [], laidByText := true, laidKinds := [.handle], laidTests := true, laidLooks := .later }
def TreeRevokesUptoCardSaid : Prop := Claim7.holds Tryz.pinned (.plain (OpenSpec.upto treeRevokesSpec)) treeRevokesUptoCard
end Rows
end Go.Proofs.YtojomhigdliipaaGreatDoor
