/- The document's answers on instructions (keyholdref.Has, InsMay, CodeOf, InsOf), walked. -/
import Derived.Test.YtemlobepnfpalagDoorIsaPlain
import Derived.Test.YtemlobepnfpalagDoorMem
import Derived.Test.YtemlobepnfpalagDoorChecked
import Derived.Deep.RegionWith
namespace Go.Proofs.YtemlobepnfpalagDoor.Isa
open Go.RowKit Go.Proofs.YtemlobepnfpalagDoor.Mem

end Go.Proofs.YtemlobepnfpalagDoor.Isa
