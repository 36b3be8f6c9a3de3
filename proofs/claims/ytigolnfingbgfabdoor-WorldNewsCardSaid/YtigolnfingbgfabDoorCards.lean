/-
  DERIVED. GIVEN WITH THE SEED: THE CARDS: each row of YtigolnfingbgfabDoorRows.lean that lists a variable, with what it lists TIED to the program's text (the seventh form; the later family's looks); each row that meets fmt, with fmt's text TOLD by the authors' own Lean function (tested against real Go, not proved from fmt's source: count such statements apart). THE CARD IS WHAT COUNTS. Prove the row's statement (the work); the ties are given (YtigolnfingbgfabDoorTie.lean); close each card by the builder's one call (the guide's Derived/Test/ToyasCard.lean, 'card_holds'). Laid BY PROGRAM, IN A SANDBOX (cutbox-door.mjs). By AI agents, Wed Nov 11 2026. No macro, syntax, notation, axiom, sorry.
-/
import Derived.Test.YtigolnfingbgfabDoorRows
import GoSem.ClaimSeven
namespace Go.Proofs.YtigolnfingbgfabDoor
namespace Rows

/-- THE TIED CARD OF 'keyholdlaw.MmuSays'. -/
def mmuSaysCard : Claim7 := { stood := { row := mmuSaysRow, standIns := [], harness := (true, "8d9de815280332d50efe7cce458b081b96dedaa5ad0a0595dad228de66c36125"), looks := true }, kinds := [], alts := [], laidByText := true, laidKinds := [.handle], laidTests := true, laidLooks := .later }
def MmuSaysCardSaid : Prop := Claim7.holds Tryd.pinned (.plain (OpenSpec.ofChange mmuSaysSpec)) mmuSaysCard

/-- THE TIED CARD OF 'keyholdlaw.MmuMade'. -/
def mmuMadeCard : Claim7 := { stood := { row := mmuMadeRow, standIns := [], harness := (true, "8d9de815280332d50efe7cce458b081b96dedaa5ad0a0595dad228de66c36125"), looks := true }, kinds := [], alts := [], laidByText := true, laidKinds := [.handle], laidTests := true, laidLooks := .later }
def MmuMadeCardSaid : Prop := Claim7.holds Tryd.pinned (.plain (OpenSpec.ofChange mmuMadeSpec)) mmuMadeCard

/-- THE TIED CARD OF 'keyholdlaw.WorldNews'. -/
def worldNewsCard : Claim7 := { stood := { row := worldNewsRow, standIns := [], harness := (true, "8d9de815280332d50efe7cce458b081b96dedaa5ad0a0595dad228de66c36125"), looks := true }, kinds := [], alts := [], laidByText := true, laidKinds := [.handle], laidTests := true, laidLooks := .later }
def WorldNewsCardSaid : Prop := Claim7.holds Tryd.pinned (.plain (OpenSpec.ofChange worldNewsSpec)) worldNewsCard

/-- THE SECOND FORM's CARD OF 'keyholdlaw.MmuSays'. -/
def mmuSaysUptoCard : Claim7 := { stood := { row := mmuSaysUptoRow, standIns := [], harness := (true, "8d9de815280332d50efe7cce458b081b96dedaa5ad0a0595dad228de66c36125"), looks := true }, kinds := [], alts := [], laidByText := true, laidKinds := [.handle], laidTests := true, laidLooks := .later }
def MmuSaysUptoCardSaid : Prop := Claim7.holds Tryd.pinned (.plain (OpenSpec.upto mmuSaysSpec)) mmuSaysUptoCard

/-- THE SECOND FORM's CARD OF 'keyholdlaw.MmuMade'. -/
def mmuMadeUptoCard : Claim7 := { stood := { row := mmuMadeUptoRow, standIns := [], harness := (true, "8d9de815280332d50efe7cce458b081b96dedaa5ad0a0595dad228de66c36125"), looks := true }, kinds := [], alts := [], laidByText := true, laidKinds := [.handle], laidTests := true, laidLooks := .later }
def MmuMadeUptoCardSaid : Prop := Claim7.holds Tryd.pinned (.plain (OpenSpec.upto mmuMadeSpec)) mmuMadeUptoCard

/-- THE SECOND FORM's CARD OF 'keyholdlaw.WorldNews'. -/
def worldNewsUptoCard : Claim7 := { stood := { row := worldNewsUptoRow, standIns := [], harness := (true, "8d9de815280332d50efe7cce458b081b96dedaa5ad0a0595dad228de66c36125"), looks := true }, kinds := [], alts := [], laidByText := true, laidKinds := [.handle], laidTests := true, laidLooks := .later }
def WorldNewsUptoCardSaid : Prop := Claim7.holds Tryd.pinned (.plain (OpenSpec.upto worldNewsSpec)) worldNewsUptoCard
end Rows
end Go.Proofs.YtigolnfingbgfabDoor
