/-
  DERIVED. GIVEN WITH THE SEED: THE CARDS: each row of YtkocmkaeaagbaaaGreatDoorRows.lean that lists a variable, with what it lists TIED to the program's text (the seventh form; the later family's looks); each row that meets fmt, with fmt's text TOLD by the authors' own Lean function (tested against real Go, not proved from fmt's source: count such statements apart). THE CARD IS WHAT COUNTS. Prove the row's statement (the work); the ties are given (YtkocmkaeaagbaaaGreatDoorTie.lean); close each card by the builder's one call (the guide's Derived/Test/ToyasCard.lean, 'card_holds'). Laid BY PROGRAM, IN A SANDBOX (cutbox-door.mjs). By AI agents, Wed Nov 11 2026. No macro, syntax, notation, axiom, sorry.
-/
import Derived.Test.YtkocmkaeaagbaaaGreatDoorRows
import GoSem.ClaimSeven
namespace Go.Proofs.YtkocmkaeaagbaaaGreatDoor
namespace Rows

/-- THE TIED CARD OF 'keyholdlaw.BootReads'. -/
def bootReadsCard : Claim7 := { stood := { row := bootReadsRow, standIns := [], harness := (true, "d86e8be102e2aabcd10aaaa754c9c8b4a57b103a52d12e1ba116f008493f688d"), looks := true }, kinds := [], alts := [], laidByText := true, laidKinds := [.data, .handle, .data, .data, .data, .pinned], laidTests := true, laidLooks := .later }
def BootReadsCardSaid : Prop := Claim7.holds Tryz.pinned (.plain (OpenSpec.ofChange bootReadsSpec)) bootReadsCard

/-- THE TIED CARD OF 'keyholdtop.TopBoot'. -/
def topBootCard : Claim7 := { stood := { row := topBootRow, standIns := [], harness := (true, "d86e8be102e2aabcd10aaaa754c9c8b4a57b103a52d12e1ba116f008493f688d"), looks := true }, kinds := [], alts := [], laidByText := true, laidKinds := [.data, .handle, .data, .pinned], laidTests := true, laidLooks := .later }
def TopBootCardSaid : Prop := Claim7.holds Tryz.pinned (.plain (OpenSpec.ofChange topBootSpec)) topBootCard

/-- THE SECOND FORM's CARD OF 'keyholdlaw.BootReads'. -/
def bootReadsUptoCard : Claim7 := { stood := { row := bootReadsUptoRow, standIns := [], harness := (true, "d86e8be102e2aabcd10aaaa754c9c8b4a57b103a52d12e1ba116f008493f688d"), looks := true }, kinds := [], alts := [], laidByText := true, laidKinds := [.data, .handle, .data, .data, .data, .pinned], laidTests := true, laidLooks := .later }
def BootReadsUptoCardSaid : Prop := Claim7.holds Tryz.pinned (.plain (OpenSpec.upto bootReadsSpec)) bootReadsUptoCard

/-- THE SECOND FORM's CARD OF 'keyholdtop.TopBoot'. -/
def topBootUptoCard : Claim7 := { stood := { row := topBootUptoRow, standIns := [], harness := (true, "d86e8be102e2aabcd10aaaa754c9c8b4a57b103a52d12e1ba116f008493f688d"), looks := true }, kinds := [], alts := [], laidByText := true, laidKinds := [.data, .handle, .data, .pinned], laidTests := true, laidLooks := .later }
def TopBootUptoCardSaid : Prop := Claim7.holds Tryz.pinned (.plain (OpenSpec.upto topBootSpec)) topBootUptoCard
end Rows
end Go.Proofs.YtkocmkaeaagbaaaGreatDoor
