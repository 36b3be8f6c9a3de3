/-
  DERIVED. GIVEN WITH THE SEED: THE CARDS: each row of YtfpkbfhaipgibaaDoorRows.lean that lists a variable, with what it lists TIED to the program's text (the seventh form; the later family's looks); each row that meets fmt, with fmt's text TOLD by the authors' own Lean function (tested against real Go, not proved from fmt's source: count such statements apart). THE CARD IS WHAT COUNTS. Prove the row's statement (the work); the ties are given (YtfpkbfhaipgibaaDoorTie.lean); close each card by the builder's one call (the guide's Derived/Test/ToyasCard.lean, 'card_holds'). Laid BY PROGRAM, IN A SANDBOX (cutbox-door.mjs). By AI agents, Wed Nov 11 2026. No macro, syntax, notation, axiom, sorry.
-/
import Derived.Test.YtfpkbfhaipgibaaDoorRows
import GoSem.ClaimSeven
namespace Go.Proofs.YtfpkbfhaipgibaaDoor
namespace Rows

/-- THE TIED CARD OF 'keyholdlaw.IsaParses'. -/
def isaParsesCard : Claim7 := { stood := { row := isaParsesRow, standIns := [], harness := (true, "d68c069dc8b0c2203d831250ff5638b2371cc20a68a92a34b68ef282895f5b27"), looks := true }, kinds := [], alts := [], laidByText := true, laidKinds := [.data, .handle, .data, .data, .pinned], laidTests := true, laidLooks := .later }
def IsaParsesCardSaid : Prop := Claim7.holds Tryd.pinned (.plain (OpenSpec.ofChange isaParsesSpec)) isaParsesCard

/-- THE TIED CARD OF 'keyholdlaw.MmuSays'. -/
def mmuSaysCard : Claim7 := { stood := { row := mmuSaysRow, standIns := [], harness := (true, "d68c069dc8b0c2203d831250ff5638b2371cc20a68a92a34b68ef282895f5b27"), looks := true }, kinds := [], alts := [], laidByText := true, laidKinds := [.handle], laidTests := true, laidLooks := .later }
def MmuSaysCardSaid : Prop := Claim7.holds Tryd.pinned (.plain (OpenSpec.ofChange mmuSaysSpec)) mmuSaysCard

/-- THE TIED CARD OF 'keyholdlaw.MmuMade'. -/
def mmuMadeCard : Claim7 := { stood := { row := mmuMadeRow, standIns := [], harness := (true, "d68c069dc8b0c2203d831250ff5638b2371cc20a68a92a34b68ef282895f5b27"), looks := true }, kinds := [], alts := [], laidByText := true, laidKinds := [.handle], laidTests := true, laidLooks := .later }
def MmuMadeCardSaid : Prop := Claim7.holds Tryd.pinned (.plain (OpenSpec.ofChange mmuMadeSpec)) mmuMadeCard

/-- THE TIED CARD OF 'keyholdlaw.WorldNews'. -/
def worldNewsCard : Claim7 := { stood := { row := worldNewsRow, standIns := [], harness := (true, "d68c069dc8b0c2203d831250ff5638b2371cc20a68a92a34b68ef282895f5b27"), looks := true }, kinds := [], alts := [], laidByText := true, laidKinds := [.handle], laidTests := true, laidLooks := .later }
def WorldNewsCardSaid : Prop := Claim7.holds Tryd.pinned (.plain (OpenSpec.ofChange worldNewsSpec)) worldNewsCard

/-- THE TIED CARD OF 'keyholdtop.TopCode'. -/
def topCodeCard : Claim7 := { stood := { row := topCodeRow, standIns := [], harness := (true, "d68c069dc8b0c2203d831250ff5638b2371cc20a68a92a34b68ef282895f5b27"), looks := true }, kinds := [], alts := [], laidByText := true, laidKinds := [.data, .data, .data, .data, .data, .pinned], laidTests := true, laidLooks := .later }
def TopCodeCardSaid : Prop := Claim7.holds Tryd.pinned (.plain (OpenSpec.ofChange topCodeSpec)) topCodeCard

/-- THE SECOND FORM's CARD OF 'keyholdlaw.IsaParses'. -/
def isaParsesUptoCard : Claim7 := { stood := { row := isaParsesUptoRow, standIns := [], harness := (true, "d68c069dc8b0c2203d831250ff5638b2371cc20a68a92a34b68ef282895f5b27"), looks := true }, kinds := [], alts := [], laidByText := true, laidKinds := [.data, .handle, .data, .data, .pinned], laidTests := true, laidLooks := .later }
def IsaParsesUptoCardSaid : Prop := Claim7.holds Tryd.pinned (.plain (OpenSpec.upto isaParsesSpec)) isaParsesUptoCard

/-- THE SECOND FORM's CARD OF 'keyholdlaw.MmuSays'. -/
def mmuSaysUptoCard : Claim7 := { stood := { row := mmuSaysUptoRow, standIns := [], harness := (true, "d68c069dc8b0c2203d831250ff5638b2371cc20a68a92a34b68ef282895f5b27"), looks := true }, kinds := [], alts := [], laidByText := true, laidKinds := [.handle], laidTests := true, laidLooks := .later }
def MmuSaysUptoCardSaid : Prop := Claim7.holds Tryd.pinned (.plain (OpenSpec.upto mmuSaysSpec)) mmuSaysUptoCard

/-- THE SECOND FORM's CARD OF 'keyholdlaw.MmuMade'. -/
def mmuMadeUptoCard : Claim7 := { stood := { row := mmuMadeUptoRow, standIns := [], harness := (true, "d68c069dc8b0c2203d831250ff5638b2371cc20a68a92a34b68ef282895f5b27"), looks := true }, kinds := [], alts := [], laidByText := true, laidKinds := [.handle], laidTests := true, laidLooks := .later }
def MmuMadeUptoCardSaid : Prop := Claim7.holds Tryd.pinned (.plain (OpenSpec.upto mmuMadeSpec)) mmuMadeUptoCard

/-- THE SECOND FORM's CARD OF 'keyholdlaw.WorldNews'. -/
def worldNewsUptoCard : Claim7 := { stood := { row := worldNewsUptoRow, standIns := [], harness := (true, "d68c069dc8b0c2203d831250ff5638b2371cc20a68a92a34b68ef282895f5b27"), looks := true }, kinds := [], alts := [], laidByText := true, laidKinds := [.handle], laidTests := true, laidLooks := .later }
def WorldNewsUptoCardSaid : Prop := Claim7.holds Tryd.pinned (.plain (OpenSpec.upto worldNewsSpec)) worldNewsUptoCard

/-- THE SECOND FORM's CARD OF 'keyholdtop.TopCode'. -/
def topCodeUptoCard : Claim7 := { stood := { row := topCodeUptoRow, standIns := [], harness := (true, "d68c069dc8b0c2203d831250ff5638b2371cc20a68a92a34b68ef282895f5b27"), looks := true }, kinds := [], alts := [], laidByText := true, laidKinds := [.data, .data, .data, .data, .data, .pinned], laidTests := true, laidLooks := .later }
def TopCodeUptoCardSaid : Prop := Claim7.holds Tryd.pinned (.plain (OpenSpec.upto topCodeSpec)) topCodeUptoCard
end Rows
end Go.Proofs.YtfpkbfhaipgibaaDoor
