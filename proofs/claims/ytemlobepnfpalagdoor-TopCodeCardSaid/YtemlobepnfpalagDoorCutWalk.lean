/- keyholdref.Cut, walked; keyholdref.Same, walked. -/
import Derived.Test.YtemlobepnfpalagDoorHexPlain
import Derived.Test.YtemlobepnfpalagDoorHexOfWalk
import Derived.Test.YtemlobepnfpalagDoorBld
import Derived.Laws.OwnMore
import Derived.OwnWalk
import Derived.Deep.QuietTactic
import Derived.BigQuiet
namespace Go.Proofs.YtemlobepnfpalagDoor.Hex
open Go.RowKit Go.Proofs.YtemlobepnfpalagDoor.Mem

/-- Texts in memory. -/
def StrsAt (w : World) (b off : Nat) (zs : List ByteArray) : Prop := ∀ j (h : j < zs.length), w.cell? ⟨b, off + j, none⟩ = some (.string zs[j])
theorem StrsAt.below {w w' : World} {b off : Nat} {zs : List ByteArray} (h : StrsAt w b off zs) (hb : Below w.heap.size w w') : StrsAt w' b off zs :=
  fun j hj => (hb.cell (World.block_lt_of_cell? _ _ (h j hj))).trans (h j hj)
theorem infoStr : (Tryd.prog.info? 9).map (fun i => (i.zero, i.size, i.bytes)) = some (some (.string ByteArray.empty), 1, 16) := by kernel_rfl
theorem one_new (W : World) (u : Value) (e : TypeId) : ∀ (j : Nat) (x : Value), [u][j]? = some x → (W.alloc (.cells #[u] e)).cell? ((⟨W.heap.size, 0, none⟩ : Addr).add j) = some x := by
  intro j x hj
  match j, hj with
  | 0, hj => simp at hj; subst hj; simp [Addr.add]
theorem one_cell (u : Value) (h : u.oneCell' = true) : ∀ x ∈ [u], x.oneCell' = true := by
  intro x hx
  simp at hx
  subst hx
  exact h
def strs (l : List (List UInt8)) : List Value := l.map fun p => .string ⟨p.toArray⟩
theorem str_list (s : ByteArray) : s = ⟨s.data.toList.toArray⟩ := by cases s; simp
theorem piece_next (s : ByteArray) (a k : Nat) (h1 : a ≤ k) (h2 : k < s.size) : (s.extract a (k + 1)).data.toList = (s.extract a k).data.toList ++ [s[k]] := by
  rw [Lib.extract_data, Lib.extract_data]
  have e : k + 1 - a = k - a + 1 := by omega
  rw [e, List.take_add_one, List.getElem?_drop, show a + (k - a) = k by omega]
  rw [List.getElem?_eq_getElem (by simpa using h2)]
  rfl
theorem piece_none (s : ByteArray) (a : Nat) : (s.extract a a).data.toList = [] := by
  rw [Lib.extract_data]
  simp
theorem own_strs {w : World} {B : Nat} {v : Value} {l : List (List UInt8)} (h : w.ownsRow B 9 1 v l.length (strs l)) (h0 : l ≠ []) :
    ∃ b cap, v = .slice (some ⟨b, 0, none⟩) l.length cap ∧ StrsAt w b 0 (l.map fun p => ⟨p.toArray⟩) ∧ l.length ≤ cap := by
  rcases h.2 with ⟨_, h1⟩ | ⟨g, cap, cur, rfl, _, _, hlc, _⟩
  · exact absurd (List.length_eq_zero_iff.1 h1) h0
  · refine ⟨g, cap, rfl, fun j hj => ?_, hlc⟩
    have hj2 : j < l.length := by simpa using hj
    rw [Nat.zero_add, h.cellAt j (by omega)]
    simp [strs, List.getElem?_eq_getElem hj2]
end Go.Proofs.YtemlobepnfpalagDoor.Hex
