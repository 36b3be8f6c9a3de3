/-
  DERIVED. GIVEN WITH THE SEED: THE CARDS: each row of YtakmaeohhclngaaGreatDoorRows.lean that lists a variable, with what it lists TIED to the program's text (the seventh form; the later family's looks); each row that meets fmt, with fmt's text TOLD by the authors' own Lean function (tested against real Go, not proved from fmt's source: count such statements apart). THE CARD IS WHAT COUNTS. Prove the row's statement (the work); the ties are given (YtakmaeohhclngaaGreatDoorTie.lean); close each card by the builder's one call (the guide's Derived/Test/ToyasCard.lean, 'card_holds'). Laid BY PROGRAM, IN A SANDBOX (cutbox-door.mjs). By AI agents, Wed Nov 11 2026. No macro, syntax, notation, axiom, sorry.
-/
import Derived.Test.YtakmaeohhclngaaGreatDoorRows
import GoSem.ClaimSeven
namespace Go.Proofs.YtakmaeohhclngaaGreatDoor
namespace Rows

/-- THE TIED CARD OF 'keyholdtop.TopCall'. -/
def topCallCard : Claim7 := { stood := { row := topCallRow, standIns := [], harness := (true, "0617cf6d183d8c4e73d7ca70f526df2ed6b0ee2e623715a826d8e589d18b9584"), looks := true }, kinds := [], alts := [], laidByText := true, laidKinds := [.handle, .data, .data], laidTests := true, laidLooks := .later }
def TopCallCardSaid : Prop := Claim7.holds Tryz.pinned (.plain (OpenSpec.ofChange topCallSpec)) topCallCard

/-- THE TIED CARD OF 'keyholdtop.TopBell'. -/
def topBellCard : Claim7 := { stood := { row := topBellRow, standIns := [], harness := (true, "0617cf6d183d8c4e73d7ca70f526df2ed6b0ee2e623715a826d8e589d18b9584"), looks := true }, kinds := [], alts := [], laidByText := true, laidKinds := [.data, .data], laidTests := true, laidLooks := .later }
def TopBellCardSaid : Prop := Claim7.holds Tryz.pinned (.plain (OpenSpec.ofChange topBellSpec)) topBellCard

/-- THE SECOND FORM's CARD OF 'keyholdtop.TopCall'. -/
def topCallUptoCard : Claim7 := { stood := { row := topCallUptoRow, standIns := [], harness := (true, "0617cf6d183d8c4e73d7ca70f526df2ed6b0ee2e623715a826d8e589d18b9584"), looks := true }, kinds := [], alts := [], laidByText := true, laidKinds := [.handle, .data, .data], laidTests := true, laidLooks := .later }
def TopCallUptoCardSaid : Prop := Claim7.holds Tryz.pinned (.plain (OpenSpec.upto topCallSpec)) topCallUptoCard

/-- THE SECOND FORM's CARD OF 'keyholdtop.TopBell'. -/
def topBellUptoCard : Claim7 := { stood := { row := topBellUptoRow, standIns := [], harness := (true, "0617cf6d183d8c4e73d7ca70f526df2ed6b0ee2e623715a826d8e589d18b9584"), looks := true }, kinds := [], alts := [], laidByText := true, laidKinds := [.data, .data], laidTests := true, laidLooks := .later }
def TopBellUptoCardSaid : Prop := Claim7.holds Tryz.pinned (.plain (OpenSpec.upto topBellSpec)) topBellUptoCard
end Rows
end Go.Proofs.YtakmaeohhclngaaGreatDoor
