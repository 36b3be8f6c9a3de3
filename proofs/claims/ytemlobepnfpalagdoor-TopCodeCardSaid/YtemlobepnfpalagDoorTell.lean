/- api.Tell and keyholdref.Is, walked. -/
import Derived.Test.YtemlobepnfpalagDoorAsWalk
namespace Go.Proofs.YtemlobepnfpalagDoor
open Go.RowKit Go.Extern.Stop Go.Stop Go.Extern

/-- What an error tells in a world: its number, and its place. -/
def Tells (w : World) (v : Value) (n at_ : Int) : Prop :=
  (v = .nilIface ∧ n = 0 ∧ at_ = -1) ∨ (v = .iface 41 (.int .i64 n) ∧ at_ = -1) ∨
  ∃ b o, v = .iface 47 (.pointer (some ⟨b, o, none⟩)) ∧ w.cell? ⟨b, o, none⟩ = some (.int .i64 at_) ∧ w.cell? ⟨b, o + 1, none⟩ = some (.iface 41 (.int .i64 n))
theorem Tells.below {w w' : World} {v : Value} {n at_ : Int} (h : Tells w v n at_) (hb : Below w.heap.size w w') : Tells w' v n at_ := by
  rcases h with h | h | ⟨b, o, h1, h2, h3⟩
  · exact .inl h
  · exact .inr (.inl h)
  · exact .inr (.inr ⟨b, o, h1, (hb.cell (p := ⟨b, o, none⟩) (World.block_lt_of_cell? _ _ h2)).trans h2, (hb.cell (p := ⟨b, o + 1, none⟩) (World.block_lt_of_cell? _ _ h3)).trans h3⟩)
theorem bal {w w' : World} (h : Below w.heap.size w w') (o : Obj) : Below w.heap.size w (w'.alloc o) := h.alloc h.size o
theorem btr {w w1 w2 : World} (h : Below w.heap.size w w1) (h2 : Below w1.heap.size w1 w2) : Below w.heap.size w w2 := h.trans (h2.mono h.size)
theorem Hid.mk' {p : Prop} (h : p) : Hid p := h
theorem cell_al {w : World} {a : Addr} {v : Value} (h : w.cell? a = some v) (o : Obj) : (w.alloc o).cell? a = some v := (World.cell?_alloc_lt _ _ a (World.block_lt_of_cell? _ _ h)).trans h
theorem cell_size {w : World} {a : Addr} {v : Value} (h : w.cell? a = some v) : a.block < w.heap.size := World.block_lt_of_cell? _ _ h
end Go.Proofs.YtemlobepnfpalagDoor
