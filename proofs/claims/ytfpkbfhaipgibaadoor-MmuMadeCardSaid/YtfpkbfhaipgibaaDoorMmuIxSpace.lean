/- slices.IndexFunc over entries with ofSpace's closure, walked. -/
import Derived.Test.YtfpkbfhaipgibaaDoorMmuDropped
namespace Go.Proofs.YtfpkbfhaipgibaaDoor.Mmu
open Go.RowKit Go.Proofs.YtfpkbfhaipgibaaDoor.Mem Go.Proofs.YtfpkbfhaipgibaaDoor.Bw Go.Proofs.YtfpkbfhaipgibaaDoor.Nums

set_option maxHeartbeats 2000000 in
theorem index_space (v : Value) (l : List Ent) (h : Nat) (s : Int) (w : World) (hv : TlbIn w v l) (hc : w.cell? ⟨h, 0, none⟩ = some (.int .i64 s)) :
    Calls Tryd.prog 50 #[v, .func (.func 86) #[] #[.pointer (some ⟨h, 0, none⟩)]] w fun r w' => r = .returned (.int .i64 (ixV (sp s) l)) ∧ Below w.heap.size w w' := by
  obtain ⟨q, b, off, cap, rfl, hq, hz, hl⟩ := hv
  have HQ := hid hq
  have HZ := hid hz
  have HC := hid hc
  clear hq hz hc
  have hl2 : (l.length : Int) ≤ 100 := by omega
  go_enter Tryd.func50, Tryd.ntmps50
  go_wp2_with fail
  go_loopw [8] (fun i wr => ∃ k : Nat, k ≤ l.length ∧ i = .int .i64 k ∧ Hid ((∀ j (hj : j < l.length), j < k → sp s l[j] = false) ∧ Below w.heap.size w wr)) (fun i _ => l.length - (intOf i).toNat)
  case atStart => exact ⟨0, by omega, rfl, fun j _ h => by omega, Below.refl _ _⟩
  case round =>
    obtain ⟨k, hk, rfl, hE⟩ := hrel
    by_cases hlt : k < l.length
    · have hlt2 : (k : Int) < (l.length : Int) := by omega
      have hqe := HQ.out (by omega)
      subst hqe
      obtain ⟨c0, c1, c2, c3⟩ := (HZ.out.below hE.out.2) k hlt
      have HP := hid (fun W (hb : Below w.heap.size w W) => isSpace l[k] h s W ((hb.cell (World.block_lt_of_cell? _ _ HC.out)).trans HC.out))
      have HI := hid (show sp s l[k] = true → ixV (sp s) l = k from fun ht => by
        have : l.findIdx (sp s) = k := (List.findIdx_eq hlt).2 ⟨ht, fun j hj => hE.out.1 j (by omega) hj⟩
        unfold ixV
        rw [this, if_pos hlt])
      have HS := hid (show sp s l[k] = false → ∀ j (hj : j < l.length), j < k + 1 → sp s l[j] = false from fun hf j hj hjk => by
        by_cases e : j = k
        · subst e; exact hf
        · exact hE.out.1 j hj (by omega))
      generalize l[k] = e at c0 c1 c2 c3 HP HI HS
      go_wp2_with fail
      refine (HP.out _ hE.out.2).mono ?_
      rintro r w1 ⟨rfl, hb⟩
      have B1 := hid (btr hE.out.2 hb)
      clear hb
      cases hpe : sp s e with
      | true =>
        have HV := hid (HI.out hpe)
        go_wp2_with fail
        go_ret
        exact ⟨by rw [HV.out]; rfl, B1.out⟩
      | false =>
        have HN := hid (HS.out hpe)
        go_wp2_with fail
        exact ⟨⟨k + 1, by omega, by go_num, HN.out, B1.out⟩, by simp [intOf]; omega⟩
    · obtain rfl : k = l.length := by omega
      have hge : ¬ ((l.length : Int) < (l.length : Int)) := by omega
      have HV := hid (show ixV (sp s) l = -1 by
        unfold ixV
        rw [if_neg]
        intro hlt2
        have := List.findIdx_getElem (w := hlt2)
        rw [hE.out.1 _ hlt2 hlt2] at this
        cases this)
      go_wp2_with fail
      go_ret
      exact ⟨by rw [HV.out]; rfl, hE.out.2⟩
end Go.Proofs.YtfpkbfhaipgibaaDoor.Mmu
