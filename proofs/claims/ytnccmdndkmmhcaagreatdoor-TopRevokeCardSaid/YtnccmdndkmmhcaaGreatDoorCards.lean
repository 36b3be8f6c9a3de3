/-
  DERIVED. GIVEN WITH THE SEED: THE CARDS: each row of YtnccmdndkmmhcaaGreatDoorRows.lean that lists a variable, with what it lists TIED to the program's text (the seventh form; the later family's looks); each row that meets fmt, with fmt's text TOLD by the authors' own Lean function (tested against real Go, not proved from fmt's source: count such statements apart). THE CARD IS WHAT COUNTS. Prove the row's statement (the work); the ties are given (YtnccmdndkmmhcaaGreatDoorTie.lean); close each card by the builder's one call (the guide's Derived/Test/ToyasCard.lean, 'card_holds'). Laid BY PROGRAM, IN A SANDBOX (cutbox-door.mjs). By AI agents, Wed Nov 11 2026. No macro, syntax, notation, axiom, sorry.
-/
import Derived.Test.YtnccmdndkmmhcaaGreatDoorRows
import GoSem.ClaimSeven
namespace Go.Proofs.YtnccmdndkmmhcaaGreatDoor
namespace Rows

/-- THE TIED CARD OF 'keyholdlaw.WorldTorn'. -/
def worldTornCard : Claim7 := { stood := { row := worldTornRow, standIns := [], harness := (true, "f3ead6f240a5bedaaced7cec8633b5a023b7145dd9c9a3f2a18474ebca1f4ced"), looks := true }, kinds := [], alts := [], laidByText := true, laidKinds := [.handle, .data, .data], laidTests := true, laidLooks := .later }
def WorldTornCardSaid : Prop := Claim7.holds Tryz.pinned (.plain (OpenSpec.ofChange worldTornSpec)) worldTornCard

/-- THE TIED CARD OF 'keyholdtop.TopSoundKeys'. -/
def topSoundKeysCard : Claim7 := { stood := { row := topSoundKeysRow, standIns := [], harness := (true, "f3ead6f240a5bedaaced7cec8633b5a023b7145dd9c9a3f2a18474ebca1f4ced"), looks := true }, kinds := [], alts := [], laidByText := true, laidKinds := [.data, .data], laidTests := true, laidLooks := .later }
def TopSoundKeysCardSaid : Prop := Claim7.holds Tryz.pinned (.plain (OpenSpec.ofChange topSoundKeysSpec)) topSoundKeysCard

/-- THE TIED CARD OF 'keyholdtop.TopSoundTurns'. -/
def topSoundTurnsCard : Claim7 := { stood := { row := topSoundTurnsRow, standIns := [], harness := (true, "f3ead6f240a5bedaaced7cec8633b5a023b7145dd9c9a3f2a18474ebca1f4ced"), looks := true }, kinds := [], alts := [], laidByText := true, laidKinds := [.data, .data], laidTests := true, laidLooks := .later }
def TopSoundTurnsCardSaid : Prop := Claim7.holds Tryz.pinned (.plain (OpenSpec.ofChange topSoundTurnsSpec)) topSoundTurnsCard

/-- THE TIED CARD OF 'keyholdtop.TopRevoke'. -/
def topRevokeCard : Claim7 := { stood := { row := topRevokeRow, standIns := [], harness := (true, "f3ead6f240a5bedaaced7cec8633b5a023b7145dd9c9a3f2a18474ebca1f4ced"), looks := true }, kinds := [], alts := [], laidByText := true, laidKinds := [.data, .data], laidTests := true, laidLooks := .later }
def TopRevokeCardSaid : Prop := Claim7.holds Tryz.pinned (.plain (OpenSpec.ofChange topRevokeSpec)) topRevokeCard

/-- THE TIED CARD OF 'keyholdtop.TopDead'. -/
def topDeadCard : Claim7 := { stood := { row := topDeadRow, standIns := [], harness := (true, "f3ead6f240a5bedaaced7cec8633b5a023b7145dd9c9a3f2a18474ebca1f4ced"), looks := true }, kinds := [], alts := [], laidByText := true, laidKinds := [.data, .data], laidTests := true, laidLooks := .later }
def TopDeadCardSaid : Prop := Claim7.holds Tryz.pinned (.plain (OpenSpec.ofChange topDeadSpec)) topDeadCard

/-- THE TIED CARD OF 'keyholdtop.TopClay'. -/
def topClayCard : Claim7 := { stood := { row := topClayRow, standIns := [], harness := (true, "f3ead6f240a5bedaaced7cec8633b5a023b7145dd9c9a3f2a18474ebca1f4ced"), looks := true }, kinds := [], alts := [], laidByText := true, laidKinds := [.data, .data], laidTests := true, laidLooks := .later }
def TopClayCardSaid : Prop := Claim7.holds Tryz.pinned (.plain (OpenSpec.ofChange topClaySpec)) topClayCard

/-- THE SECOND FORM's CARD OF 'keyholdlaw.WorldTorn'. -/
def worldTornUptoCard : Claim7 := { stood := { row := worldTornUptoRow, standIns := [], harness := (true, "f3ead6f240a5bedaaced7cec8633b5a023b7145dd9c9a3f2a18474ebca1f4ced"), looks := true }, kinds := [], alts := [], laidByText := true, laidKinds := [.handle, .data, .data], laidTests := true, laidLooks := .later }
def WorldTornUptoCardSaid : Prop := Claim7.holds Tryz.pinned (.plain (OpenSpec.upto worldTornSpec)) worldTornUptoCard

/-- THE SECOND FORM's CARD OF 'keyholdtop.TopSoundKeys'. -/
def topSoundKeysUptoCard : Claim7 := { stood := { row := topSoundKeysUptoRow, standIns := [], harness := (true, "f3ead6f240a5bedaaced7cec8633b5a023b7145dd9c9a3f2a18474ebca1f4ced"), looks := true }, kinds := [], alts := [], laidByText := true, laidKinds := [.data, .data], laidTests := true, laidLooks := .later }
def TopSoundKeysUptoCardSaid : Prop := Claim7.holds Tryz.pinned (.plain (OpenSpec.upto topSoundKeysSpec)) topSoundKeysUptoCard

/-- THE SECOND FORM's CARD OF 'keyholdtop.TopSoundTurns'. -/
def topSoundTurnsUptoCard : Claim7 := { stood := { row := topSoundTurnsUptoRow, standIns := [], harness := (true, "f3ead6f240a5bedaaced7cec8633b5a023b7145dd9c9a3f2a18474ebca1f4ced"), looks := true }, kinds := [], alts := [], laidByText := true, laidKinds := [.data, .data], laidTests := true, laidLooks := .later }
def TopSoundTurnsUptoCardSaid : Prop := Claim7.holds Tryz.pinned (.plain (OpenSpec.upto topSoundTurnsSpec)) topSoundTurnsUptoCard

/-- THE SECOND FORM's CARD OF 'keyholdtop.TopRevoke'. -/
def topRevokeUptoCard : Claim7 := { stood := { row := topRevokeUptoRow, standIns := [], harness := (true, "f3ead6f240a5bedaaced7cec8633b5a023b7145dd9c9a3f2a18474ebca1f4ced"), looks := true }, kinds := [], alts := [], laidByText := true, laidKinds := [.data, .data], laidTests := true, laidLooks := .later }
def TopRevokeUptoCardSaid : Prop := Claim7.holds Tryz.pinned (.plain (OpenSpec.upto topRevokeSpec)) topRevokeUptoCard

/-- THE SECOND FORM's CARD OF 'keyholdtop.TopDead'. -/
def topDeadUptoCard : Claim7 := { stood := { row := topDeadUptoRow, standIns := [], harness := (true, "f3ead6f240a5bedaaced7cec8633b5a023b7145dd9c9a3f2a18474ebca1f4ced"), looks := true }, kinds := [], alts := [], laidByText := true, laidKinds := [.data, .data], laidTests := true, laidLooks := .later }
def TopDeadUptoCardSaid : Prop := Claim7.holds Tryz.pinned (.plain (OpenSpec.upto topDeadSpec)) topDeadUptoCard

/-- THE SECOND FORM's CARD OF 'keyholdtop.TopClay'. -/
def topClayUptoCard : Claim7 := { stood := { row := topClayUptoRow, standIns := [], harness := (true, "f3ead6f240a5bedaaced7cec8633b5a023b7145dd9c9a3f2a18474ebca1f4ced"), looks := true }, kinds := [], alts := [], laidByText := true, laidKinds := [.data, .data], laidTests := true, laidLooks := .later }
def TopClayUptoCardSaid : Prop := Claim7.holds Tryz.pinned (.plain (OpenSpec.upto topClaySpec)) topClayUptoCard
end Rows
end Go.Proofs.YtnccmdndkmmhcaaGreatDoor
