/- keyholdref.isLabel, keyholdref.digits, walked. -/
import Derived.Test.YtemlobepnfpalagDoorPrsSmall
namespace Go.Proofs.YtemlobepnfpalagDoor.Prs
open Go.RowKit Go.Proofs.YtemlobepnfpalagDoor.Mem Go.Proofs.YtemlobepnfpalagDoor.Hex

end Go.Proofs.YtemlobepnfpalagDoor.Prs
