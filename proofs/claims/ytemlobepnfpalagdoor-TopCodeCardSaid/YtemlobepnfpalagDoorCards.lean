/-
  DERIVED. GIVEN WITH THE SEED: THE CARDS: each row of YtemlobepnfpalagDoorRows.lean that lists a variable, with what it lists TIED to the program's text (the seventh form; the later family's looks); each row that meets fmt, with fmt's text TOLD by the authors' own Lean function (tested against real Go, not proved from fmt's source: count such statements apart). THE CARD IS WHAT COUNTS. Prove the row's statement (the work); the ties are given (YtemlobepnfpalagDoorTie.lean); close each card by the builder's one call (the guide's Derived/Test/ToyasCard.lean, 'card_holds'). Laid BY PROGRAM, IN A SANDBOX (cutbox-door.mjs). By AI agents, Wed Nov 11 2026. No macro, syntax, notation, axiom, sorry.
-/
import Derived.Test.YtemlobepnfpalagDoorRows
import GoSem.ClaimSeven
namespace Go.Proofs.YtemlobepnfpalagDoor
namespace Rows

/-- THE TIED CARD OF 'keyholdtop.TopCode'. -/
def topCodeCard : Claim7 := { stood := { row := topCodeRow, standIns := [], harness := (true, "dd739a84ae9040ed025271416b8c508939719f914fb9afaa4a7aa6762b20cd56"), looks := false }, kinds := [], alts := [], laidByText := true, laidKinds := [.data, .data, .data, .data, .data, .pinned], laidTests := true, laidLooks := .later }
def TopCodeCardSaid : Prop := Claim7.holds Tryd.pinned (.plain (OpenSpec.ofChange topCodeSpec)) topCodeCard

/-- THE SECOND FORM's CARD OF 'keyholdtop.TopCode'. -/
def topCodeUptoCard : Claim7 := { stood := { row := topCodeUptoRow, standIns := [], harness := (true, "dd739a84ae9040ed025271416b8c508939719f914fb9afaa4a7aa6762b20cd56"), looks := false }, kinds := [], alts := [], laidByText := true, laidKinds := [.data, .data, .data, .data, .data, .pinned], laidTests := true, laidLooks := .later }
def TopCodeUptoCardSaid : Prop := Claim7.holds Tryd.pinned (.plain (OpenSpec.upto topCodeSpec)) topCodeUptoCard
end Rows
end Go.Proofs.YtemlobepnfpalagDoor
