/- From the row's condition on errors.errorType to its cell; a world that meets the condition. -/
import Derived.Test.YtemlobepnfpalagDoorRows
import Derived.Test.YtemlobepnfpalagDoorTell
import Derived.ChangeSame
import Derived.ChangeVars
import Derived.JoinedOf
import Derived.RowKit
import Derived.RowKitTokens
import Derived.LaidLaws
import Derived.LaidHandle
import Derived.Stop.Joined
import Derived.ProofKit
namespace Go.Proofs.YtemlobepnfpalagDoor
open Go.ChangeShapes Go.WideShapes Go.RowKit

theorem own : ownKnob Tryd.prog.godebug = none := by kernel_rfl
theorem laidOut : laidOutB Tryd.prog = true := by kernel_rfl
theorem oneRow : ((List.range 131).filter fun t => Tryd.prog.rowNamed t [101, 114, 114, 111, 114]) = [27] := by kernel_rfl
theorem tSize : Tryd.prog.types.size = 131 := by kernel_rfl

end Go.Proofs.YtemlobepnfpalagDoor
