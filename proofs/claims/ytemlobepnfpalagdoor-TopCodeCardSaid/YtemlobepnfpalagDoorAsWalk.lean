/- errors.As at the two targets of api.Tell, walked: an error by its number, and a fault. -/
import Derived.Test.YtemlobepnfpalagDoorAs
namespace Go.Proofs.YtemlobepnfpalagDoor
open Go.RowKit Go.Extern.Stop Go.Stop Go.Extern

end Go.Proofs.YtemlobepnfpalagDoor
