/- keyholdref.Pick, keyholdref.Raw, walked. -/
import Derived.Test.YtfpkbfhaipgibaaDoorHexOfWalk
import Derived.Deep.QuietTactic
import Derived.BigQuiet
namespace Go.Proofs.YtfpkbfhaipgibaaDoor.Made
open Go.RowKit Go.Proofs.YtfpkbfhaipgibaaDoor.Mem Go.Proofs.YtfpkbfhaipgibaaDoor.Hex

def pickV (c n : Int) : Int := if c < 0 then (-(c + 1)).tmod n else c.tmod n
theorem pickV_bound (c n : Int) (hn : 0 < n) : 0 ≤ pickV c n ∧ pickV c n < n := by
  unfold pickV
  split
  · have : 0 ≤ -(c + 1) := by omega
    rw [Int.tmod_eq_emod_of_nonneg this]
    exact ⟨Int.emod_nonneg _ (by omega), Int.emod_lt_of_pos _ hn⟩
  · have : 0 ≤ c := by omega
    rw [Int.tmod_eq_emod_of_nonneg this]
    exact ⟨Int.emod_nonneg _ (by omega), Int.emod_lt_of_pos _ hn⟩
theorem pick_any (c n : Int) (w : World) (h0 : -9223372036854775808 ≤ c) (h1 : c ≤ 9223372036854775807) (hn : 0 < n) :
    Calls Tryd.prog 28 #[.int .i64 c, .int .i64 n] w fun e w' => e = .returned (.int .i64 (pickV c n)) ∧ w' = w := by
  have hn0 : n ≠ 0 := by omega
  by_cases hc : c < 0
  · go_enter Tryd.func28, Tryd.ntmps28
    go_wp2_with fail
    go_ret
    refine ⟨ret_int ?_, rfl⟩
    unfold pickV
    rw [if_pos hc, Int.neg_tmod]
  · go_enter Tryd.func28, Tryd.ntmps28
    go_wp2_with fail
    go_ret
    refine ⟨ret_int ?_, rfl⟩
    unfold pickV
    rw [if_neg (by omega), Int.tmod_eq_emod_of_nonneg (by omega)]
/-- A slice of numbers: nil, or a row of numbers that fit. -/
def RawAt (w : World) (v : Value) : Prop := v = .slice none 0 0 ∨ ∃ b off cap zs, v = .slice (some ⟨b, off, none⟩) zs.length cap ∧ zs.length ≤ 256 ∧ IntsAt w b off zs ∧ ∀ z ∈ zs, -9223372036854775808 ≤ z ∧ z ≤ 9223372036854775807
theorem RawAt.below {w w' : World} {v : Value} (h : RawAt w v) (hb : Below w.heap.size w w') : RawAt w' v := by
  rcases h with h | ⟨b, off, cap, zs, h1, h2, h3, h4⟩
  · exact .inl h
  · exact .inr ⟨b, off, cap, zs, h1, h2, h3.below hb, h4⟩
theorem below_drew (w : World) (n : Nat) : Below w.heap.size w (w.drewN n) := ⟨rfl, rfl, rfl, Nat.le_refl _, fun _ _ => rfl⟩
set_option maxHeartbeats 1000000 in
theorem raw_any (v : Value) (i : Nat) (w : World) (hv : RawAt w v) (hi : i ≤ 200) :
    Calls Tryd.prog 27 #[v, .int .i64 i] w fun e w' => ∃ r : Int, e = .returned (.int .i64 r) ∧ 0 ≤ r ∧ r < 3000000 ∧ Below w.heap.size w w' := by
  rcases hv with rfl | ⟨b, off, cap, zs, rfl, hl, hz, hb⟩
  · go_enter Tryd.func27, Tryd.ntmps27
    go_wp2_with fail
    go_ret
    exact ⟨(i : Int) * 31, rfl, by omega, by omega, Below.refl _ _⟩
  · cases zs with
    | nil =>
      go_enter Tryd.func27, Tryd.ntmps27
      go_wp2_with fail
      go_ret
      exact ⟨(i : Int) * 31, rfl, by omega, by omega, Below.refl _ _⟩
    | cons z0 zr =>
      have hL : 0 < (z0 :: zr).length := by simp
      generalize z0 :: zr = zs at *
      have hm : i % zs.length < zs.length := Nat.mod_lt _ hL
      have hc := hz (i % zs.length) hm
      have hzb := hb zs[i % zs.length] (List.getElem_mem hm)
      generalize zs[i % zs.length] = z at hc hzb
      obtain ⟨h0, h1⟩ := hzb
      have hLi : (0 : Int) < (zs.length : Int) := by omega
      have hLn : ((zs.length : Int) == 0) = false := beq_eq_false_iff_ne.2 (by omega)
      have hmi : ((i : Int).tmod (zs.length : Int)) = ((i % zs.length : Nat) : Int) := by rw [Int.tmod_eq_emod_of_nonneg (by omega)]; simp
      have hdi : ((i : Int).tdiv (zs.length : Int)) = ((i / zs.length : Nat) : Int) := by rw [Int.tdiv_eq_ediv_of_nonneg (by omega)]; simp
      have hdb : i / zs.length ≤ 200 := Nat.le_trans (Nat.div_le_self _ _) hi
      obtain ⟨hp0, hp1⟩ := pickV_bound z 1000003 (by decide)
      have hm2 : ((i % zs.length : Nat) : Int) < (zs.length : Int) := Int.ofNat_lt.2 hm
      generalize i % zs.length = j at *
      generalize i / zs.length = d at *
      go_enter Tryd.func27, Tryd.ntmps27
      go_wp2_with fail
      go_quiet (first | (go_at_call 28; refine Calls.quiet_of_same (pick_any _ _ _ h0 h1 (by decide))))
      go_wp2_with fail
      go_ret
      exact ⟨pickV z 1000003 + (d : Int) * 7919, by first | rfl | (simp; done), by omega, by omega, below_drew _ _⟩
end Go.Proofs.YtfpkbfhaipgibaaDoor.Made
