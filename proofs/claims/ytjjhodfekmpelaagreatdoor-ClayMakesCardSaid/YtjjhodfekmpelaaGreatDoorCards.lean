/-
  DERIVED. GIVEN WITH THE SEED: THE CARDS: each row of YtjjhodfekmpelaaGreatDoorRows.lean that lists a variable, with what it lists TIED to the program's text (the seventh form; the later family's looks); each row that meets fmt, with fmt's text TOLD by the authors' own Lean function (tested against real Go, not proved from fmt's source: count such statements apart). THE CARD IS WHAT COUNTS. Prove the row's statement (the work); the ties are given (YtjjhodfekmpelaaGreatDoorTie.lean); close each card by the builder's one call (the guide's Derived/Test/ToyasCard.lean, 'card_holds'). Laid BY PROGRAM, IN A SANDBOX (cutbox-door.mjs). By AI agents, Wed Nov 11 2026. No macro, syntax, notation, axiom, sorry.
-/
import Derived.Test.YtjjhodfekmpelaaGreatDoorRows
import GoSem.ClaimSeven
namespace Go.Proofs.YtjjhodfekmpelaaGreatDoor
namespace Rows

/-- THE TIED CARD OF 'keyholdlaw.ClayMakes'. -/
def clayMakesCard : Claim7 := { stood := { row := clayMakesRow, standIns := [], harness := (true, "72317f2398f01138b593b3559f5d8cb5980eb68c349fe3f9d6a6c3c33126feac"), looks := true }, kinds := [], alts := [], laidByText := true, laidKinds := [.handle], laidTests := true, laidLooks := .later }
def ClayMakesCardSaid : Prop := Claim7.holds Tryz.pinned (.plain (OpenSpec.ofChange clayMakesSpec)) clayMakesCard

/-- THE TIED CARD OF 'keyholdlaw.SchedPicks'. -/
def schedPicksCard : Claim7 := { stood := { row := schedPicksRow, standIns := [], harness := (true, "72317f2398f01138b593b3559f5d8cb5980eb68c349fe3f9d6a6c3c33126feac"), looks := true }, kinds := [], alts := [], laidByText := true, laidKinds := [.handle], laidTests := true, laidLooks := .later }
def SchedPicksCardSaid : Prop := Claim7.holds Tryz.pinned (.plain (OpenSpec.ofChange schedPicksSpec)) schedPicksCard

/-- THE TIED CARD OF 'keyholdlaw.SchedTurns'. -/
def schedTurnsCard : Claim7 := { stood := { row := schedTurnsRow, standIns := [], harness := (true, "72317f2398f01138b593b3559f5d8cb5980eb68c349fe3f9d6a6c3c33126feac"), looks := true }, kinds := [], alts := [], laidByText := true, laidKinds := [.handle], laidTests := true, laidLooks := .later }
def SchedTurnsCardSaid : Prop := Claim7.holds Tryz.pinned (.plain (OpenSpec.ofChange schedTurnsSpec)) schedTurnsCard

/-- THE TIED CARD OF 'keyholdlaw.MailSends'. -/
def mailSendsCard : Claim7 := { stood := { row := mailSendsRow, standIns := [], harness := (true, "72317f2398f01138b593b3559f5d8cb5980eb68c349fe3f9d6a6c3c33126feac"), looks := true }, kinds := [], alts := [], laidByText := true, laidKinds := [.handle], laidTests := true, laidLooks := .later }
def MailSendsCardSaid : Prop := Claim7.holds Tryz.pinned (.plain (OpenSpec.ofChange mailSendsSpec)) mailSendsCard

/-- THE TIED CARD OF 'keyholdlaw.MailTakes'. -/
def mailTakesCard : Claim7 := { stood := { row := mailTakesRow, standIns := [], harness := (true, "72317f2398f01138b593b3559f5d8cb5980eb68c349fe3f9d6a6c3c33126feac"), looks := true }, kinds := [], alts := [], laidByText := true, laidKinds := [.handle], laidTests := true, laidLooks := .later }
def MailTakesCardSaid : Prop := Claim7.holds Tryz.pinned (.plain (OpenSpec.ofChange mailTakesSpec)) mailTakesCard

/-- THE TIED CARD OF 'keyholdlaw.MailRings'. -/
def mailRingsCard : Claim7 := { stood := { row := mailRingsRow, standIns := [], harness := (true, "72317f2398f01138b593b3559f5d8cb5980eb68c349fe3f9d6a6c3c33126feac"), looks := true }, kinds := [], alts := [], laidByText := true, laidKinds := [.handle], laidTests := true, laidLooks := .later }
def MailRingsCardSaid : Prop := Claim7.holds Tryz.pinned (.plain (OpenSpec.ofChange mailRingsSpec)) mailRingsCard

/-- THE SECOND FORM's CARD OF 'keyholdlaw.ClayMakes'. -/
def clayMakesUptoCard : Claim7 := { stood := { row := clayMakesUptoRow, standIns := [], harness := (true, "72317f2398f01138b593b3559f5d8cb5980eb68c349fe3f9d6a6c3c33126feac"), looks := true }, kinds := [], alts := [], laidByText := true, laidKinds := [.handle], laidTests := true, laidLooks := .later }
def ClayMakesUptoCardSaid : Prop := Claim7.holds Tryz.pinned (.plain (OpenSpec.upto clayMakesSpec)) clayMakesUptoCard

/-- THE SECOND FORM's CARD OF 'keyholdlaw.SchedPicks'. -/
def schedPicksUptoCard : Claim7 := { stood := { row := schedPicksUptoRow, standIns := [], harness := (true, "72317f2398f01138b593b3559f5d8cb5980eb68c349fe3f9d6a6c3c33126feac"), looks := true }, kinds := [], alts := [], laidByText := true, laidKinds := [.handle], laidTests := true, laidLooks := .later }
def SchedPicksUptoCardSaid : Prop := Claim7.holds Tryz.pinned (.plain (OpenSpec.upto schedPicksSpec)) schedPicksUptoCard

/-- THE SECOND FORM's CARD OF 'keyholdlaw.SchedTurns'. -/
def schedTurnsUptoCard : Claim7 := { stood := { row := schedTurnsUptoRow, standIns := [], harness := (true, "72317f2398f01138b593b3559f5d8cb5980eb68c349fe3f9d6a6c3c33126feac"), looks := true }, kinds := [], alts := [], laidByText := true, laidKinds := [.handle], laidTests := true, laidLooks := .later }
def SchedTurnsUptoCardSaid : Prop := Claim7.holds Tryz.pinned (.plain (OpenSpec.upto schedTurnsSpec)) schedTurnsUptoCard

/-- THE SECOND FORM's CARD OF 'keyholdlaw.MailSends'. -/
def mailSendsUptoCard : Claim7 := { stood := { row := mailSendsUptoRow, standIns := [], harness := (true, "72317f2398f01138b593b3559f5d8cb5980eb68c349fe3f9d6a6c3c33126feac"), looks := true }, kinds := [], alts := [], laidByText := true, laidKinds := [.handle], laidTests := true, laidLooks := .later }
def MailSendsUptoCardSaid : Prop := Claim7.holds Tryz.pinned (.plain (OpenSpec.upto mailSendsSpec)) mailSendsUptoCard

/-- THE SECOND FORM's CARD OF 'keyholdlaw.MailTakes'. -/
def mailTakesUptoCard : Claim7 := { stood := { row := mailTakesUptoRow, standIns := [], harness := (true, "72317f2398f01138b593b3559f5d8cb5980eb68c349fe3f9d6a6c3c33126feac"), looks := true }, kinds := [], alts := [], laidByText := true, laidKinds := [.handle], laidTests := true, laidLooks := .later }
def MailTakesUptoCardSaid : Prop := Claim7.holds Tryz.pinned (.plain (OpenSpec.upto mailTakesSpec)) mailTakesUptoCard

/-- THE SECOND FORM's CARD OF 'keyholdlaw.MailRings'. -/
def mailRingsUptoCard : Claim7 := { stood := { row := mailRingsUptoRow, standIns := [], harness := (true, "72317f2398f01138b593b3559f5d8cb5980eb68c349fe3f9d6a6c3c33126feac"), looks := true }, kinds := [], alts := [], laidByText := true, laidKinds := [.handle], laidTests := true, laidLooks := .later }
def MailRingsUptoCardSaid : Prop := Claim7.holds Tryz.pinned (.plain (OpenSpec.upto mailRingsSpec)) mailRingsUptoCard
end Rows
end Go.Proofs.YtjjhodfekmpelaaGreatDoor
