/- keyholdref.Raw, walked. -/
import Derived.Test.YtfpkbfhaipgibaaDoorWords
namespace Go.Proofs.YtfpkbfhaipgibaaDoor.Nums
open Go.RowKit Go.Proofs.YtfpkbfhaipgibaaDoor.Mem

set_option maxHeartbeats 1000000 in
theorem raw_num (v : Value) (zs : List Int) (i : Nat) (w : World) (hv : RawIn w v zs) (hl : zs.length ≤ 256) (hi : i ≤ 200) :
    Calls Tryd.prog 27 #[v, .int .i64 i] w fun e w' => ∃ r : Int, e = .returned (.int .i64 r) ∧ 0 ≤ r ∧ r < 3000000 ∧ Below w.heap.size w w' := by
  obtain ⟨q, b, off, cap, rfl, hq, hz, hb⟩ := hv
  cases zs with
  | nil =>
    go_enter Tryd.func27, Tryd.ntmps27
    go_wp2_with fail
    go_ret
    exact ⟨(i : Int) * 31, rfl, by omega, by omega, Below.refl _ _⟩
  | cons z0 zr =>
    have hL : 0 < (z0 :: zr).length := by simp
    generalize z0 :: zr = zs at *
    have hqe := hq hL
    subst hqe
    have hm : i % zs.length < zs.length := Nat.mod_lt _ hL
    have hc := hz (i % zs.length) hm
    have hzb := hb zs[i % zs.length] (List.getElem_mem hm)
    generalize zs[i % zs.length] = z at hc hzb
    obtain ⟨h0, h1⟩ := hzb
    have hLi : (0 : Int) < (zs.length : Int) := by omega
    have hLn : ((zs.length : Int) == 0) = false := beq_eq_false_iff_ne.2 (by omega)
    have hmi : ((i : Int).tmod (zs.length : Int)) = ((i % zs.length : Nat) : Int) := by rw [Int.tmod_eq_emod_of_nonneg (by omega)]; simp
    have hdi : ((i : Int).tdiv (zs.length : Int)) = ((i / zs.length : Nat) : Int) := by rw [Int.tdiv_eq_ediv_of_nonneg (by omega)]; simp
    have hdb : i / zs.length ≤ 200 := Nat.le_trans (Nat.div_le_self _ _) hi
    obtain ⟨hp0, hp1⟩ := pickV_bound z 1000003 (by decide)
    have hm2 : ((i % zs.length : Nat) : Int) < (zs.length : Int) := Int.ofNat_lt.2 hm
    generalize i % zs.length = j at *
    generalize i / zs.length = d at *
    clear hq hz hb
    go_enter Tryd.func27, Tryd.ntmps27
    go_wp2_with fail
    go_quiet (first | (go_at_call 28; refine Calls.quiet_of_same ((pick_eq _ _ _ h0 h1 (by decide)).mono fun _ _ h => ⟨h.1, h.2.symm⟩)))
    go_wp2_with fail
    go_ret
    exact ⟨pickV z 1000003 + (d : Int) * 7919, by first | rfl | (simp; done), by omega, by omega, below_drew _ _⟩
end Go.Proofs.YtfpkbfhaipgibaaDoor.Nums
