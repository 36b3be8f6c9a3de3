/- slices.Clone over entries, walked. -/
import Derived.Test.YtacpjedncjpmpaaGreatDoorGMmu
import Derived.Lib.SliceRun
namespace Go.Proofs.YtacpjedncjpmpaaGreatDoor.Mmu
open Go.RowKit Go.Proofs.YtacpjedncjpmpaaGreatDoor.Mem Go.Proofs.YtacpjedncjpmpaaGreatDoor.Bw Go.Proofs.YtacpjedncjpmpaaGreatDoor.Nums
theorem add_none (b off j : Nat) : (⟨b, off, none⟩ : Addr).add j = ⟨b, off + j, none⟩ := by
 unfold Addr.add
 split <;> simp_all
theorem ents_cells {w : World} {b off : Nat} {l : List Ent} (h : EntsAt w b off l) : ∀ (j : Nat) (u : Value), (cellsE l)[j]? = some u → w.cell? ((⟨b, off, none⟩ : Addr).add j) = some u := by
 intro j u hj
 have hlt : j < (cellsE l).length := (List.getElem?_eq_some_iff.1 hj).1
 rw [cellsE_len] at hlt
 rw [add_none]
 have hk : j / 4 < l.length := by omega
 obtain ⟨a0, a1, a2, a3⟩ := h _ hk
 obtain ⟨e0, e1, e2, e3⟩ := cellsE_at l _ hk
 have hm : j = j / 4 * 4 ∨ j = j / 4 * 4 + 1 ∨ j = j / 4 * 4 + 2 ∨ j = j / 4 * 4 + 3 := by omega
 rcases hm with hm | hm | hm | hm
 ·rw [hm] at hj ⊢; rw [← hj, e0]; exact a0
 ·rw [hm] at hj ⊢; rw [← hj, e1, ← a1]; rfl
 ·rw [hm] at hj ⊢; rw [← hj, e2, ← a2]; rfl
 ·rw [hm] at hj ⊢; rw [← hj, e3, ← a3]; rfl
theorem cellsE_one (l : List Ent) : ∀ u ∈ cellsE l, u.oneCell' = true := by
 intro u hu
 obtain ⟨q, _, hq⟩ := List.mem_flatMap.1 hu
 exact fourE_cell _ _ _ _ u hq
end Go.Proofs.YtacpjedncjpmpaaGreatDoor.Mmu
