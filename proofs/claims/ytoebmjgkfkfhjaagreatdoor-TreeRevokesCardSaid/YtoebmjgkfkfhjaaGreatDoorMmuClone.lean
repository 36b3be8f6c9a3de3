/- slices.Clone over entries, walked. -/
import Derived.Test.YtoebmjgkfkfhjaaGreatDoorGMmu
import Derived.Lib.SliceRun
namespace Go.Proofs.YtoebmjgkfkfhjaaGreatDoor.Mmu
open Go.RowKit Go.Proofs.YtoebmjgkfkfhjaaGreatDoor.Mem Go.Proofs.YtoebmjgkfkfhjaaGreatDoor.Bw Go.Proofs.YtoebmjgkfkfhjaaGreatDoor.Nums
theorem add_none (b off j : Nat) : (⟨b, off, none⟩ : Addr).add j = ⟨b, off + j, none⟩ := by
 unfold Addr.add
 split <;> simp_all
theorem ents_cells {w : World} {b off : Nat} {l : List Ent} (h : EntsAt w b off l) : ∀ (j : Nat) (u : Value), (cellsE l)[j]? = some u → w.cell? ((⟨b, off, none⟩ : Addr).add j) = some u := by
 intro j u hj
 have hlt : j < (cellsE l).length := (List.getElem?_eq_some_iff.1 hj).1
 rw [cellsE_len] at hlt
 rw [add_none]
 have hk : j / 4 < l.length := by omega
 obtain ⟨a0, a1, a2, a3⟩ := h _ hk
 obtain ⟨e0, e1, e2, e3⟩ := cellsE_at l _ hk
 have hm : j = j / 4 * 4 ∨ j = j / 4 * 4 + 1 ∨ j = j / 4 * 4 + 2 ∨ j = j / 4 * 4 + 3 := by omega
 rcases hm with hm | hm | hm | hm
 ·rw [hm] at hj ⊢; rw [← hj, e0]; exact a0
 ·rw [hm] at hj ⊢; rw [← hj, e1, ← a1]; rfl
 ·rw [hm] at hj ⊢; rw [← hj, e2, ← a2]; rfl
 ·rw [hm] at hj ⊢; rw [← hj, e3, ← a3]; rfl
theorem cellsE_one (l : List Ent) : ∀ u ∈ cellsE l, u.oneCell' = true := by
 intro u hu
 obtain ⟨q, _, hq⟩ := List.mem_flatMap.1 hu
 exact fourE_cell _ _ _ _ u hq
set_option maxHeartbeats 4000000 in
theorem clone_any (v : Value) (l : List Ent) (w : World) (hv : TlbIn w v l) :
  Calls Tryz.prog 135 #[v] w fun r w' => ∃ u, r = .returned u ∧ w'.ownsRow w.heap.size 115 4 u l.length (cellsE l) ∧ Below w.heap.size w w' := by
 obtain ⟨i0, hi, hz0, hz1, hz2⟩ := info_get infoEnt
 have qn : ∀ (w : World) (a : Option Addr) (n c n' c' : Nat), (binOp .eql 56 (.slice a n c) (.slice none n' c')).run Tryz.prog w = .ok (.bool a.isNone) w := fun w a n c n' c' => Lib.run_eql_slice_nil w _ _ a n c n' c' Tryz.underlying56
 obtain ⟨q, b, off, cap, rfl, hq, hz, hl⟩ := hv
 have HQ := hid hq
 have HZ := hid hz
 clear hq hz
 cases q with
 | none =>
  have h0 : l = [] := by
   cases l with
   | nil => rfl
   | cons x l => have := HQ.out (by simp); cases this
  subst h0
  go_enter Tryz.func135, Tryz.ntmps135
  go_wp2_with fail
  go_ret
  exact ⟨_, rfl, World.ownsRow_nil _ _ _ _, Below.refl _ _⟩
 | some ad =>
  have HN := hid (show ∀ (W : World), Below w.heap.size w W → ∀ (j : Nat) (u : Value), (cellsE l)[j]? = some u → W.cell? (ad.add j) = some u from fun W hb => by
   by_cases h0 : 0 < l.length
   ·have := HQ.out h0
    cases this
    exact ents_cells (HZ.out.below hb)
   ·intro j u hj
    have : l = [] := by
     cases l with
     | nil => rfl
     | cons x l => simp at h0
    rw [this] at hj
    simp [cellsE] at hj)
  have HL := hid (cellsE_len l)
  have HC := hid (cellsE_one l)
  have hl2 : l.length ≤ maxLen := by unfold maxLen; omega
  have B0 := hid (bal (Below.refl w.heap.size w) (.cells #[] 115))
  have O0 := hid (World.ownsRow_made (base := w.heap.size) (e := 115) (size := 4) w #[] 0 (Nat.le_refl _) (Nat.zero_le _) (by simp))
  generalize cellsE l = cs at *
  go_enter Tryz.func135, Tryz.ntmps135
  go_wp2_with (at_builtin; refine wpList_append_own _ rfl _ _ 56 rfl w.heap.size 115 i0 (.agg #[.int .i64 0, .int .i64 0, .int .i64 0, .bool false]) 4 32 Tryz.underlying56 hi hz0 hz1 hz2 rfl (by decide) _ _ _ rfl O0.out ad l.length cap cs rfl HL.out (HN.out _ B0.out) HC.out (by omega) (by omega) (by simp) ?_; intro v' w5 hown' hgrow _; have B5 := hid (B0.out.grown hgrow (by simp) (fun k hk => (O0.out.lt k hk).1)); have O5 := hid hown'; clear hown' hgrow)
  go_ret
  refine ⟨_, rfl, ?_, B5.out⟩
  have := O5.out
  rw [Nat.zero_add, List.nil_append] at this
  exact this
end Go.Proofs.YtoebmjgkfkfhjaaGreatDoor.Mmu
