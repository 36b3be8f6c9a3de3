/- keyholdref.HexOf, walked. -/
import Derived.Test.YtemlobepnfpalaaDoorHexPlain
import Derived.Test.YtemlobepnfpalaaDoorChecked
import Derived.Test.YtemlobepnfpalaaDoorMem
import Derived.Laws.IdiomStrings
namespace Go.Proofs.YtemlobepnfpalaaDoor.Hex
open Go.RowKit Go.Proofs.YtemlobepnfpalaaDoor.Mem

/-- Numbers in memory. -/
def IntsAt (w : World) (b off : Nat) (zs : List Int) : Prop := ∀ j (h : j < zs.length), w.cell? ⟨b, off + j, none⟩ = some (.int .i64 zs[j])
theorem IntsAt.below {w w' : World} {b off : Nat} {zs : List Int} (h : IntsAt w b off zs) (hb : Below w.heap.size w w') : IntsAt w' b off zs :=
  fun j hj => (hb.cell (World.block_lt_of_cell? _ _ (h j hj))).trans (h j hj)
theorem digB (k : Int) (h0 : 0 ≤ k) (h1 : k < 16) : (hexes.extract k.toNat (k + 1).toNat).data.toList = [dig k] := by
  obtain ⟨n, rfl⟩ := Int.eq_ofNat_of_zero_le h0
  have e : ((n : Int) + 1).toNat = n + 1 := by omega
  rw [e]
  exact hexes_cut n (by omega)
set_option maxHeartbeats 2000000 in
theorem hexOf_some (zs : List Int) (b off cap : Nat) (w : World) (hz : IntsAt w b off zs) (hlen : zs.length ≤ 500) (hv : ∀ j (h : j < zs.length), 0 ≤ zs[j] ∧ zs[j] ≤ 65535) :
    Calls Tryd.prog 20 #[.slice (some ⟨b, off, none⟩) zs.length cap] w fun e w' => e = .returned (.string ⟨(hexL zs).toArray⟩) ∧ w' = w := by
  have HV := hid hv
  clear hv
  go_enter Tryd.func20, Tryd.ntmps20
  go_wp2_with fail
  go_loopw [3, 4] (fun s i wr => ∃ (k : Nat) (t : ByteArray), k ≤ zs.length ∧ i = .int .i64 k ∧ s = .string t ∧ t.data.toList = hexL (zs.take k) ∧ wr = w) (fun _ i _ => zs.length - (intOf i).toNat)
  case atStart => exact ⟨0, ⟨#[]⟩, by omega, rfl, rfl, rfl, rfl⟩
  case round =>
    obtain ⟨k, t, hk, rfl, rfl, ht, rfl⟩ := hrel
    have HT := hid ht
    have hts : t.size ≤ 2500 := by
      have := hexL_len (zs.take k)
      rw [← ht, List.length_take] at this
      rw [size_list]
      omega
    clear ht
    by_cases hlt : k < zs.length
    · have hc := hz k hlt
      obtain ⟨v0, v1⟩ := HV.out k hlt
      have HQ := hid (hexL_snoc zs k hlt)
      generalize zs[k] = v at hc v0 v1 HQ
      have hlt2 : (k : Int) < (zs.length : Int) := by omega
      by_cases h0 : 0 < k
      · have h02 : (0 : Int) < (k : Int) := by omega
        go_wp2_with fail
        refine wp_loop_rounds 5 ?_
        rw [rounds_succ]
        go_wp2_with fail
        rw [rounds_succ]
        go_wp2_with fail
        rw [rounds_succ]
        go_wp2_with fail
        rw [rounds_succ]
        go_wp2_with fail
        rw [rounds_succ]
        go_wp2_with fail
        refine ⟨⟨k + 1, _, by omega, by go_num, rfl, ?_, trivial⟩, by simp [intOf]; omega⟩
        rw [HQ.out, ← HT.out]
        have eg : gap k = [32] := by unfold gap; rw [if_neg (by omega)]
        simp only [app_list, eg]
        have e1 := digB (v / 4096 % 16) (by omega) (by omega)
        have e2 := digB (v / 256 % 16) (by omega) (by omega)
        have e3 := digB (v / 16 % 16) (by omega) (by omega)
        have e4 := digB (v % 16) (by omega) (by omega)
        unfold hexes at e1 e2 e3 e4
        rw [e1, e2, e3, e4]
        simp [wordL]
      · have h02 : ¬ ((0 : Int) < (k : Int)) := by omega
        go_wp2_with fail
        refine wp_loop_rounds 5 ?_
        rw [rounds_succ]
        go_wp2_with fail
        rw [rounds_succ]
        go_wp2_with fail
        rw [rounds_succ]
        go_wp2_with fail
        rw [rounds_succ]
        go_wp2_with fail
        rw [rounds_succ]
        go_wp2_with fail
        refine ⟨⟨k + 1, _, by omega, by go_num, rfl, ?_, trivial⟩, by simp [intOf]; omega⟩
        rw [HQ.out, ← HT.out]
        have eg : gap k = [] := by unfold gap; rw [if_pos (by omega)]
        simp only [app_list, eg]
        have e1 := digB (v / 4096 % 16) (by omega) (by omega)
        have e2 := digB (v / 256 % 16) (by omega) (by omega)
        have e3 := digB (v / 16 % 16) (by omega) (by omega)
        have e4 := digB (v % 16) (by omega) (by omega)
        unfold hexes at e1 e2 e3 e4
        rw [e1, e2, e3, e4]
        simp [wordL]
    · obtain rfl : k = zs.length := by omega
      have hge : ¬ ((zs.length : Int) < (zs.length : Int)) := by omega
      go_wp2_with fail
      go_ret
      refine ⟨?_, rfl⟩
      have e := HT.out
      rw [List.take_length] at e
      rw [bytes_ext (a := t) (b := ⟨(hexL zs).toArray⟩) (by simpa using e)]
      rfl
theorem hexOf_nil (w : World) :
    Calls Tryd.prog 20 #[.slice none 0 0] w fun e w' => e = .returned (.string ⟨#[]⟩) ∧ w' = w := by
  go_enter Tryd.func20, Tryd.ntmps20
  go_wp2_with fail
  refine wp_loop_rounds 1 ?_
  rw [rounds_succ]
  go_wp2_with fail
  go_ret
  exact ⟨rfl, rfl⟩
end Go.Proofs.YtemlobepnfpalaaDoor.Hex
