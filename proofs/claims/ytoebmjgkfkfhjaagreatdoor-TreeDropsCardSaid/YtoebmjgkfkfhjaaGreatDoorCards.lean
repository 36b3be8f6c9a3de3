/-
  DERIVED. GIVEN WITH THE SEED: THE CARDS: each row of YtoebmjgkfkfhjaaGreatDoorRows.lean that lists a variable, with what it lists TIED to the program's text (the seventh form; the later family's looks); each row that meets fmt, with fmt's text TOLD by the authors' own Lean function (tested against real Go, not proved from fmt's source: count such statements apart). THE CARD IS WHAT COUNTS. Prove the row's statement (the work); the ties are given (YtoebmjgkfkfhjaaGreatDoorTie.lean); close each card by the builder's one call (the guide's Derived/Test/ToyasCard.lean, 'card_holds'). Laid BY PROGRAM, IN A SANDBOX (cutbox-door.mjs). By AI agents, Wed Nov 11 2026. No macro, syntax, notation, axiom, sorry.
-/
import Derived.Test.YtoebmjgkfkfhjaaGreatDoorRows
import GoSem.ClaimSeven
namespace Go.Proofs.YtoebmjgkfkfhjaaGreatDoor
namespace Rows

/-- THE TIED CARD OF 'keyholdlaw.TreeCopies'. -/
def treeCopiesCard : Claim7 := { stood := { row := treeCopiesRow, standIns := [], harness := (true, "fa0b5992dc3e3dde0cb3e26fa84759cbe85db8fc7eb8b033456b2ffb4764a369"), looks := true }, kinds := [], alts := [], laidByText := true, laidKinds := [.handle], laidTests := true, laidLooks := .later }
def TreeCopiesCardSaid : Prop := Claim7.holds Tryz.pinned (.plain (OpenSpec.ofChange treeCopiesSpec)) treeCopiesCard

/-- THE TIED CARD OF 'keyholdlaw.TreeMoves'. -/
def treeMovesCard : Claim7 := { stood := { row := treeMovesRow, standIns := [], harness := (true, "fa0b5992dc3e3dde0cb3e26fa84759cbe85db8fc7eb8b033456b2ffb4764a369"), looks := true }, kinds := [], alts := [], laidByText := true, laidKinds := [.handle], laidTests := true, laidLooks := .later }
def TreeMovesCardSaid : Prop := Claim7.holds Tryz.pinned (.plain (OpenSpec.ofChange treeMovesSpec)) treeMovesCard

/-- THE TIED CARD OF 'keyholdlaw.TreeDrops'. -/
def treeDropsCard : Claim7 := { stood := { row := treeDropsRow, standIns := [], harness := (true, "fa0b5992dc3e3dde0cb3e26fa84759cbe85db8fc7eb8b033456b2ffb4764a369"), looks := true }, kinds := [], alts := [], laidByText := true, laidKinds := [.handle], laidTests := true, laidLooks := .later }
def TreeDropsCardSaid : Prop := Claim7.holds Tryz.pinned (.plain (OpenSpec.ofChange treeDropsSpec)) treeDropsCard

/-- THE TIED CARD OF 'keyholdlaw.TreeRevokes'. -/
def treeRevokesCard : Claim7 := { stood := { row := treeRevokesRow, standIns := [], harness := (true, "fa0b5992dc3e3dde0cb3e26fa84759cbe85db8fc7eb8b033456b2ffb4764a369"), looks := true }, kinds := [], alts := [], laidByText := true, laidKinds := [.handle], laidTests := true, laidLooks := .later }
def TreeRevokesCardSaid : Prop := Claim7.holds Tryz.pinned (.plain (OpenSpec.ofChange treeRevokesSpec)) treeRevokesCard

/-- THE SECOND FORM's CARD OF 'keyholdlaw.TreeCopies'. -/
def treeCopiesUptoCard : Claim7 := { stood := { row := treeCopiesUptoRow, standIns := [], harness := (true, "fa0b5992dc3e3dde0cb3e26fa84759cbe85db8fc7eb8b033456b2ffb4764a369"), looks := true }, kinds := [], alts := [], laidByText := true, laidKinds := [.handle], laidTests := true, laidLooks := .later }
def TreeCopiesUptoCardSaid : Prop := Claim7.holds Tryz.pinned (.plain (OpenSpec.upto treeCopiesSpec)) treeCopiesUptoCard

/-- THE SECOND FORM's CARD OF 'keyholdlaw.TreeMoves'. -/
def treeMovesUptoCard : Claim7 := { stood := { row := treeMovesUptoRow, standIns := [], harness := (true, "fa0b5992dc3e3dde0cb3e26fa84759cbe85db8fc7eb8b033456b2ffb4764a369"), looks := true }, kinds := [], alts := [], laidByText := true, laidKinds := [.handle], laidTests := true, laidLooks := .later }
def TreeMovesUptoCardSaid : Prop := Claim7.holds Tryz.pinned (.plain (OpenSpec.upto treeMovesSpec)) treeMovesUptoCard

/-- THE SECOND FORM's CARD OF 'keyholdlaw.TreeDrops'. -/
def treeDropsUptoCard : Claim7 := { stood := { row := treeDropsUptoRow, standIns := [], harness := (true, "fa0b5992dc3e3dde0cb3e26fa84759cbe85db8fc7eb8b033456b2ffb4764a369"), looks := true }, kinds := [], alts := [], laidByText := true, laidKinds := [.handle], laidTests := true, laidLooks := .later }
def TreeDropsUptoCardSaid : Prop := Claim7.holds Tryz.pinned (.plain (OpenSpec.upto treeDropsSpec)) treeDropsUptoCard

/-- THE SECOND FORM's CARD OF 'keyholdlaw.TreeRevokes'. -/
def treeRevokesUptoCard : Claim7 := { stood := { row := treeRevokesUptoRow, standIns := [], harness := (true, "fa0b5992dc3e3dde0cb3e26fa84759cbe85db8fc7eb8b033456b2ffb4764a369"), looks := true }, kinds := [], alts := [], laidByText := true, laidKinds := [.handle], laidTests := true, laidLooks := .later }
def TreeRevokesUptoCardSaid : Prop := Claim7.holds Tryz.pinned (.plain (OpenSpec.upto treeRevokesSpec)) treeRevokesUptoCard
end Rows
end Go.Proofs.YtoebmjgkfkfhjaaGreatDoor
