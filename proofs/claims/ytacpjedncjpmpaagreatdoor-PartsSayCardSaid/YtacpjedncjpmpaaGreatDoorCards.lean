/-
  DERIVED. GIVEN WITH THE SEED: THE CARDS: each row of YtacpjedncjpmpaaGreatDoorRows.lean that lists a variable, with what it lists TIED to the program's text (the seventh form; the later family's looks); each row that meets fmt, with fmt's text TOLD by the authors' own Lean function (tested against real Go, not proved from fmt's source: count such statements apart). THE CARD IS WHAT COUNTS. Prove the row's statement (the work); the ties are given (YtacpjedncjpmpaaGreatDoorTie.lean); close each card by the builder's one call (the guide's Derived/Test/ToyasCard.lean, 'card_holds'). Laid BY PROGRAM, IN A SANDBOX (cutbox-door.mjs). By AI agents, Wed Nov 11 2026. No macro, syntax, notation, axiom, sorry.
-/
import Derived.Test.YtacpjedncjpmpaaGreatDoorRows
import GoSem.ClaimSeven
namespace Go.Proofs.YtacpjedncjpmpaaGreatDoor
namespace Rows

/-- THE TIED CARD OF 'keyholdlaw.PartsSay'. -/
def partsSayCard : Claim7 := { stood := { row := partsSayRow, standIns := [], harness := (true, "119622fc4a901b9082d009321cd3039387edb159bd1864b768fc16ade7e566b6"), looks := true }, kinds := [], alts := [], laidByText := true, laidKinds := [.handle], laidTests := true, laidLooks := .later }
def PartsSayCardSaid : Prop := Claim7.holds Tryz.pinned (.plain (OpenSpec.ofChange partsSaySpec)) partsSayCard

/-- THE TIED CARD OF 'keyholdlaw.PartsChange'. -/
def partsChangeCard : Claim7 := { stood := { row := partsChangeRow, standIns := [], harness := (true, "119622fc4a901b9082d009321cd3039387edb159bd1864b768fc16ade7e566b6"), looks := true }, kinds := [], alts := [], laidByText := true, laidKinds := [.handle], laidTests := true, laidLooks := .later }
def PartsChangeCardSaid : Prop := Claim7.holds Tryz.pinned (.plain (OpenSpec.ofChange partsChangeSpec)) partsChangeCard

/-- THE SECOND FORM's CARD OF 'keyholdlaw.PartsSay'. -/
def partsSayUptoCard : Claim7 := { stood := { row := partsSayUptoRow, standIns := [], harness := (true, "119622fc4a901b9082d009321cd3039387edb159bd1864b768fc16ade7e566b6"), looks := true }, kinds := [], alts := [], laidByText := true, laidKinds := [.handle], laidTests := true, laidLooks := .later }
def PartsSayUptoCardSaid : Prop := Claim7.holds Tryz.pinned (.plain (OpenSpec.upto partsSaySpec)) partsSayUptoCard

/-- THE SECOND FORM's CARD OF 'keyholdlaw.PartsChange'. -/
def partsChangeUptoCard : Claim7 := { stood := { row := partsChangeUptoRow, standIns := [], harness := (true, "119622fc4a901b9082d009321cd3039387edb159bd1864b768fc16ade7e566b6"), looks := true }, kinds := [], alts := [], laidByText := true, laidKinds := [.handle], laidTests := true, laidLooks := .later }
def PartsChangeUptoCardSaid : Prop := Claim7.holds Tryz.pinned (.plain (OpenSpec.upto partsChangeSpec)) partsChangeUptoCard
end Rows
end Go.Proofs.YtacpjedncjpmpaaGreatDoor
