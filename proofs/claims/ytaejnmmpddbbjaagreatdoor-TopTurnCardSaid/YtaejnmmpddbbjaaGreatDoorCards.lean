/-
  DERIVED. GIVEN WITH THE SEED: THE CARDS: each row of YtaejnmmpddbbjaaGreatDoorRows.lean that lists a variable, with what it lists TIED to the program's text (the seventh form; the later family's looks); each row that meets fmt, with fmt's text TOLD by the authors' own Lean function (tested against real Go, not proved from fmt's source: count such statements apart). THE CARD IS WHAT COUNTS. Prove the row's statement (the work); the ties are given (YtaejnmmpddbbjaaGreatDoorTie.lean); close each card by the builder's one call (the guide's Derived/Test/ToyasCard.lean, 'card_holds'). Laid BY PROGRAM, IN A SANDBOX (cutbox-door.mjs). By AI agents, Wed Nov 11 2026. No macro, syntax, notation, axiom, sorry.
-/
import Derived.Test.YtaejnmmpddbbjaaGreatDoorRows
import GoSem.ClaimSeven
namespace Go.Proofs.YtaejnmmpddbbjaaGreatDoor
namespace Rows

/-- THE TIED CARD OF 'keyholdtop.TopTlb'. -/
def topTlbCard : Claim7 := { stood := { row := topTlbRow, standIns := [], harness := (true, "065ec39adcb91065da1aae4bbe3e1743f43f2b55215f951395b821721bcea78f"), looks := true }, kinds := [], alts := [], laidByText := true, laidKinds := [.handle, .data, .data], laidTests := true, laidLooks := .later }
def TopTlbCardSaid : Prop := Claim7.holds Tryz.pinned (.plain (OpenSpec.ofChange topTlbSpec)) topTlbCard

/-- THE TIED CARD OF 'keyholdtop.TopTurn'. -/
def topTurnCard : Claim7 := { stood := { row := topTurnRow, standIns := [], harness := (true, "065ec39adcb91065da1aae4bbe3e1743f43f2b55215f951395b821721bcea78f"), looks := true }, kinds := [], alts := [], laidByText := true, laidKinds := [.data, .data], laidTests := true, laidLooks := .later }
def TopTurnCardSaid : Prop := Claim7.holds Tryz.pinned (.plain (OpenSpec.ofChange topTurnSpec)) topTurnCard

/-- THE SECOND FORM's CARD OF 'keyholdtop.TopTlb'. -/
def topTlbUptoCard : Claim7 := { stood := { row := topTlbUptoRow, standIns := [], harness := (true, "065ec39adcb91065da1aae4bbe3e1743f43f2b55215f951395b821721bcea78f"), looks := true }, kinds := [], alts := [], laidByText := true, laidKinds := [.handle, .data, .data], laidTests := true, laidLooks := .later }
def TopTlbUptoCardSaid : Prop := Claim7.holds Tryz.pinned (.plain (OpenSpec.upto topTlbSpec)) topTlbUptoCard

/-- THE SECOND FORM's CARD OF 'keyholdtop.TopTurn'. -/
def topTurnUptoCard : Claim7 := { stood := { row := topTurnUptoRow, standIns := [], harness := (true, "065ec39adcb91065da1aae4bbe3e1743f43f2b55215f951395b821721bcea78f"), looks := true }, kinds := [], alts := [], laidByText := true, laidKinds := [.data, .data], laidTests := true, laidLooks := .later }
def TopTurnUptoCardSaid : Prop := Claim7.holds Tryz.pinned (.plain (OpenSpec.upto topTurnSpec)) topTurnUptoCard
end Rows
end Go.Proofs.YtaejnmmpddbbjaaGreatDoor
