/- keyholdref.SameTlb walked, where both are the same list. -/
import Derived.Test.YtfpkbfhaipgibaaDoorMmuDropped
import Derived.Laws.StructEq
namespace Go.Proofs.YtfpkbfhaipgibaaDoor.Mmu
open Go.RowKit Go.Proofs.YtfpkbfhaipgibaaDoor.Mem Go.Proofs.YtfpkbfhaipgibaaDoor.Bw Go.Proofs.YtfpkbfhaipgibaaDoor.Nums

set_option maxHeartbeats 4000000 in
theorem sameTlb_yes (v v2 : Value) (l : List Ent) (w : World) (hv : TlbIn w v l) (hv2 : TlbIn w v2 l) :
    Calls Tryd.prog 18 #[v, v2] w fun r w' => r = .returned (.bool true) ∧ Below w.heap.size w w' := by
  obtain ⟨q, b, off, cap, rfl, hq, hz, hl⟩ := hv
  obtain ⟨q2, b2, off2, cap2, rfl, hq2, hz2, _⟩ := hv2
  have HQ := hid hq
  have HQ2 := hid hq2
  have HZ := hid hz
  have HZ2 := hid hz2
  clear hq hq2 hz hz2
  have hl2 : (l.length : Int) ≤ 100 := by omega
  go_enter Tryd.func18, Tryd.ntmps18
  go_wp2_with fail
  go_loopw [5] (fun i wr => ∃ k : Nat, k ≤ l.length ∧ i = .int .i64 k ∧ Below w.heap.size w wr) (fun i _ => l.length - (intOf i).toNat)
  case atStart => exact ⟨0, by omega, rfl, Below.refl _ _⟩
  case round =>
    obtain ⟨k, hk, rfl, hB⟩ := hrel
    have HB := hid hB
    clear hB
    by_cases hlt : k < l.length
    · have hlt2 : (k : Int) < (l.length : Int) := by omega
      have hqe := HQ.out (by omega)
      have hqe2 := HQ2.out (by omega)
      subst hqe hqe2
      obtain ⟨c0, c1, c2, c3⟩ := (HZ.out.below HB.out) k hlt
      obtain ⟨d0, d1, d2, d3⟩ := (HZ2.out.below HB.out) k hlt
      generalize l[k] = e at c0 c1 c2 c3 d0 d1 d2 d3
      obtain ⟨x, y, z, u⟩ := e
      simp only at c0 c1 c2 c3 d0 d1 d2 d3
      go_wp2_with fail
      go_quiet (fail)
      go_wp2_with fail
      exact ⟨⟨k + 1, by omega, by go_num, below_drewN HB.out nq⟩, by simp [intOf]; omega⟩
    · obtain rfl : k = l.length := by omega
      have hge : ¬ ((l.length : Int) < (l.length : Int)) := by omega
      go_wp2_with fail
      go_ret
      exact ⟨rfl, HB.out⟩
end Go.Proofs.YtfpkbfhaipgibaaDoor.Mmu
