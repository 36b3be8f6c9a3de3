/- keyholdref.CodeOf and keyholdref.InsOf, walked. -/
import Derived.Test.YtfpkbfhaipgibaaDoorRefIsa
import Derived.Deep.RegionWith
namespace Go.Proofs.YtfpkbfhaipgibaaDoor.Isa
open Go.RowKit Go.Proofs.YtfpkbfhaipgibaaDoor.Mem

theorem cells_drew {W : World} {C : Nat} {arr : Array Value} (h : ∀ o, W.cell? ⟨C, o, none⟩ = arr[o]?) : ∀ o, W.drew.cell? ⟨C, o, none⟩ = arr[o]? := h
end Go.Proofs.YtfpkbfhaipgibaaDoor.Isa
