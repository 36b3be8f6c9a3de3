/- The document's answers on instructions (keyholdref.Has, InsMay, CodeOf, InsOf), walked. -/
import Derived.Test.YtlkplpdnleaihagIsaPlain
import Derived.Test.YtlkplpdnleaihagMem
import Derived.Test.YtlkplpdnleaihagChecked
import Derived.Deep.RegionWith
namespace Go.Proofs.Ytlkplpdnleaihag.Isa
open Go.RowKit Go.Proofs.Ytlkplpdnleaihag.Mem

end Go.Proofs.Ytlkplpdnleaihag.Isa
