/- keyholdref.HexOf, walked. -/
import Derived.Test.YtfpkbfhaipgibaaDoorHexPlain
import Derived.Test.YtfpkbfhaipgibaaDoorChecked
import Derived.Test.YtfpkbfhaipgibaaDoorMem
import Derived.Laws.IdiomStrings
namespace Go.Proofs.YtfpkbfhaipgibaaDoor.Hex
open Go.RowKit Go.Proofs.YtfpkbfhaipgibaaDoor.Mem

/-- Numbers in memory. -/
def IntsAt (w : World) (b off : Nat) (zs : List Int) : Prop := ∀ j (h : j < zs.length), w.cell? ⟨b, off + j, none⟩ = some (.int .i64 zs[j])
theorem IntsAt.below {w w' : World} {b off : Nat} {zs : List Int} (h : IntsAt w b off zs) (hb : Below w.heap.size w w') : IntsAt w' b off zs :=
  fun j hj => (hb.cell (World.block_lt_of_cell? _ _ (h j hj))).trans (h j hj)
theorem digB (k : Int) (h0 : 0 ≤ k) (h1 : k < 16) : (hexes.extract k.toNat (k + 1).toNat).data.toList = [dig k] := by
  obtain ⟨n, rfl⟩ := Int.eq_ofNat_of_zero_le h0
  have e : ((n : Int) + 1).toNat = n + 1 := by omega
  rw [e]
  exact hexes_cut n (by omega)
end Go.Proofs.YtfpkbfhaipgibaaDoor.Hex
