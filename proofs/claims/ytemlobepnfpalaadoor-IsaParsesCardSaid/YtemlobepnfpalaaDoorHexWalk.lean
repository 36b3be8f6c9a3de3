/- word.Hex, walked. -/
import Derived.Test.YtemlobepnfpalaaDoorHexOfWalk
import Derived.Test.YtemlobepnfpalaaDoorBld
import Derived.Test.YtemlobepnfpalaaDoorShelf
import Derived.Test.YtemlobepnfpalaaDoorTell
import Derived.Laws.BitsLemmas
namespace Go.Proofs.YtemlobepnfpalaaDoor.Hex
open Go.RowKit Go.Proofs.YtemlobepnfpalaaDoor.Mem

theorem and15 (n : Int) : bits .and .i64 n 15 = n % 16 := by
  have hm : (BitVec.ofInt 64 15).toNat = 2 ^ 4 - 1 := by decide
  have key : (BitVec.ofInt 64 n &&& BitVec.ofInt 64 15).toNat = (n % ((2 ^ 64 : Nat) : Int)).toNat % 2 ^ 4 := by
    rw [BitVec.toNat_and, BitVec.toNat_ofInt, hm, Nat.and_two_pow_sub_one_eq_mod]
  show IntKind.i64.wrap ((BitVec.ofInt 64 n &&& BitVec.ofInt 64 15).toNat : Nat) = n % 16
  rw [key, IntKind.wrap_i64]
  omega
theorem dig_at (x : Int) (h : x.toNat < hexes.size) : hexes[x.toNat]'h = dig x := by
  unfold dig
  rw [List.getD_eq_getElem?_getD, Array.getElem?_toList, Array.getElem?_eq_getElem (show x.toNat < hexes.data.size from h)]
  rfl
def okW (v : Int) : Prop := 0 ≤ v ∧ v ≤ 65535
set_option maxHeartbeats 4000000 in
theorem hex_some (zs : List Int) (b off cap m : Nat) (w : World) (hz : IntsAt w b off zs) (hlen : zs.length ≤ 384) (hm : m ≤ zs.length) (hv : ∀ j (h : j < zs.length), j < m → okW zs[j]) (hx : ∀ h : m < zs.length, ¬ okW zs[m]) :
    Calls Tryd.prog 21 #[.slice (some ⟨b, off, none⟩) zs.length cap] w fun e w' => ∃ s ev, e = .returned (.tuple #[.string s, ev]) ∧ Below w.heap.size w w' ∧
      ((m = zs.length ∧ s = ⟨(hexL zs).toArray⟩ ∧ ev = .nilIface) ∨ (m < zs.length ∧ s = ⟨#[]⟩ ∧ Tells w' ev 1 m)) := by
  have HZ := hid hz
  have HV := hid hv
  have HX := hid hx
  clear hz hv hx
  have hlen2 : (zs.length : Int) ≤ 384 := by omega
  go_enter Tryd.func21, Tryd.ntmps21
  go_wp2_with fail
  go_loopw [14] (fun i wr => ∃ k : Nat, k ≤ m ∧ i = .int .i64 k ∧ Lib.IsBuilder 97 5 w.heap.size w.heap.size (Lib.byteCells (hexL (zs.take k))) wr ∧ Below w.heap.size w wr ∧ w.heap.size < wr.heap.size) (fun i _ => zs.length - (intOf i).toNat)
  case atStart => exact ⟨0, by omega, rfl, Lib.fresh_isBuilder _ _ _, bal (Below.refl _ _) _, by simp⟩
  case round =>
    obtain ⟨k, hk, rfl, hI, hB, hs⟩ := hrel
    have HI := hid hI
    have HB := hid hB
    have ZR := hid (HZ.out.below hB)
    clear hI hB
    by_cases hlt : k < zs.length
    · have hc := ZR.out k hlt
      have hlt2 : (k : Int) < (zs.length : Int) := by omega
      by_cases hkm : k < m
      · obtain ⟨v0, v1⟩ := HV.out k hlt hkm
        have HQ := hid (hexL_snoc zs k hlt)
        generalize zs[k] = v at hc v0 v1 HQ
        have A1 := and15 (v / 4096)
        have A2 := and15 (v / 256)
        have A3 := and15 (v / 16)
        have A4 := and15 v
        have D1 := hid (dig_at (v / 4096 % 16) (by simp [hexes, ByteArray.size]; omega))
        have D2 := hid (dig_at (v / 256 % 16) (by simp [hexes, ByteArray.size]; omega))
        have D3 := hid (dig_at (v / 16 % 16) (by simp [hexes, ByteArray.size]; omega))
        have D4 := hid (dig_at (v % 16) (by simp [hexes, ByteArray.size]; omega))
        have hl1 := hexL_len (zs.take k)
        rw [List.length_take] at hl1
        by_cases h0 : 0 < k
        · have h02 : (0 : Int) < (k : Int) := by omega
          go_wp2_with fail
          refine (Bld.writeByte w.heap.size w.heap.size _ _ _ HI.out (by rw [Lib.byteCells_length]; omega) (by omega)).mono ?_
          rintro e w1 ⟨rfl, hI1, hB1⟩
          have I1 := hid hI1
          have B1 := hid (HB.out.trans hB1)
          have y1 : w.heap.size < w1.heap.size := by have := hB1.size; omega
          clear hI1 hB1
          go_wp2_with fail
          refine wp_loop_rounds 5 ?_
          rw [rounds_succ]
          go_wp2_with fail
          refine (Bld.writeByte w.heap.size w.heap.size _ _ _ I1.out (by simp only [List.length_append, Lib.byteCells_length, List.length_cons, List.length_nil]; omega) (by omega)).mono ?_
          rintro e w2 ⟨rfl, hI2, hB2⟩
          have I2 := hid hI2
          have B2 := hid (B1.out.trans hB2)
          have y2 : w.heap.size < w2.heap.size := by have := hB2.size; omega
          clear hI2 hB2
          go_wp2_with fail
          rw [rounds_succ]
          go_wp2_with fail
          refine (Bld.writeByte w.heap.size w.heap.size _ _ _ I2.out (by simp only [List.length_append, Lib.byteCells_length, List.length_cons, List.length_nil]; omega) (by omega)).mono ?_
          rintro e w3 ⟨rfl, hI3, hB3⟩
          have I3 := hid hI3
          have B3 := hid (B2.out.trans hB3)
          have y3 : w.heap.size < w3.heap.size := by have := hB3.size; omega
          clear hI3 hB3
          go_wp2_with fail
          rw [rounds_succ]
          go_wp2_with fail
          refine (Bld.writeByte w.heap.size w.heap.size _ _ _ I3.out (by simp only [List.length_append, Lib.byteCells_length, List.length_cons, List.length_nil]; omega) (by omega)).mono ?_
          rintro e w4 ⟨rfl, hI4, hB4⟩
          have I4 := hid hI4
          have B4 := hid (B3.out.trans hB4)
          have y4 : w.heap.size < w4.heap.size := by have := hB4.size; omega
          clear hI4 hB4
          go_wp2_with fail
          rw [rounds_succ]
          go_wp2_with fail
          refine (Bld.writeByte w.heap.size w.heap.size _ _ _ I4.out (by simp only [List.length_append, Lib.byteCells_length, List.length_cons, List.length_nil]; omega) (by omega)).mono ?_
          rintro e w5 ⟨rfl, hI5, hB5⟩
          have I5 := hid hI5
          have B5 := hid (B4.out.trans hB5)
          have y5 : w.heap.size < w5.heap.size := by have := hB5.size; omega
          clear hI5 hB5
          go_wp2_with fail
          rw [rounds_succ]
          go_wp2_with fail
          refine ⟨⟨k + 1, by omega, by go_num, ?_, B5.out, y5⟩, by simp [intOf]; omega⟩
          rw [HQ.out]
          have e2 := I5.out
          have d1 := D1.out
          have d2 := D2.out
          have d3 := D3.out
          have d4 := D4.out
          unfold hexes at d1 d2 d3 d4
          rw [d1, d2, d3, d4] at e2
          have e3 : gap k = [32] := by unfold gap; rw [if_neg (by omega)]
          rw [e3]
          simpa [Lib.byteCells, wordL] using e2
        · have h02 : ¬ ((0 : Int) < (k : Int)) := by omega
          go_wp2_with fail
          refine wp_loop_rounds 5 ?_
          rw [rounds_succ]
          go_wp2_with fail
          refine (Bld.writeByte w.heap.size w.heap.size _ _ _ HI.out (by rw [Lib.byteCells_length]; omega) (by omega)).mono ?_
          rintro e w1 ⟨rfl, hI1, hB1⟩
          have I1 := hid hI1
          have B1 := hid (HB.out.trans hB1)
          have y1 : w.heap.size < w1.heap.size := by have := hB1.size; omega
          clear hI1 hB1
          go_wp2_with fail
          rw [rounds_succ]
          go_wp2_with fail
          refine (Bld.writeByte w.heap.size w.heap.size _ _ _ I1.out (by simp only [List.length_append, Lib.byteCells_length, List.length_cons, List.length_nil]; omega) (by omega)).mono ?_
          rintro e w2 ⟨rfl, hI2, hB2⟩
          have I2 := hid hI2
          have B2 := hid (B1.out.trans hB2)
          have y2 : w.heap.size < w2.heap.size := by have := hB2.size; omega
          clear hI2 hB2
          go_wp2_with fail
          rw [rounds_succ]
          go_wp2_with fail
          refine (Bld.writeByte w.heap.size w.heap.size _ _ _ I2.out (by simp only [List.length_append, Lib.byteCells_length, List.length_cons, List.length_nil]; omega) (by omega)).mono ?_
          rintro e w3 ⟨rfl, hI3, hB3⟩
          have I3 := hid hI3
          have B3 := hid (B2.out.trans hB3)
          have y3 : w.heap.size < w3.heap.size := by have := hB3.size; omega
          clear hI3 hB3
          go_wp2_with fail
          rw [rounds_succ]
          go_wp2_with fail
          refine (Bld.writeByte w.heap.size w.heap.size _ _ _ I3.out (by simp only [List.length_append, Lib.byteCells_length, List.length_cons, List.length_nil]; omega) (by omega)).mono ?_
          rintro e w4 ⟨rfl, hI4, hB4⟩
          have I4 := hid hI4
          have B4 := hid (B3.out.trans hB4)
          have y4 : w.heap.size < w4.heap.size := by have := hB4.size; omega
          clear hI4 hB4
          go_wp2_with fail
          rw [rounds_succ]
          go_wp2_with fail
          refine ⟨⟨k + 1, by omega, by go_num, ?_, B4.out, y4⟩, by simp [intOf]; omega⟩
          rw [HQ.out]
          have e2 := I4.out
          have d1 := D1.out
          have d2 := D2.out
          have d3 := D3.out
          have d4 := D4.out
          unfold hexes at d1 d2 d3 d4
          rw [d1, d2, d3, d4] at e2
          have e3 : gap k = [] := by unfold gap; rw [if_pos (by omega)]
          rw [e3]
          simpa [Lib.byteCells, wordL] using e2
      · obtain rfl : k = m := by omega
        have hx := HX.out hlt
        generalize zs[k] = v at hc hx
        by_cases hneg : v < 0
        · go_wp2_with fail
          go_ret2
          refine ⟨_, _, rfl, bal HB.out _, .inr ⟨hlt, rfl, .inr (.inr ⟨wr.heap.size, 0, rfl, World.cell?_alloc_at _ _ _ _ rfl, ?_⟩)⟩⟩
          rw [World.cell?_alloc_at _ _ _ _ rfl]
          rfl
        · have hbig : 65535 < v := by unfold okW at hx; omega
          go_wp2_with fail
          go_ret2
          refine ⟨_, _, rfl, bal HB.out _, .inr ⟨rfl, .inr (.inr ⟨wr.heap.size, 0, rfl, World.cell?_alloc_at _ _ _ _ rfl, ?_⟩)⟩⟩
          rw [World.cell?_alloc_at _ _ _ _ rfl]
          rfl
    · obtain rfl : k = zs.length := by omega
      have hge : ¬ ((zs.length : Int) < (zs.length : Int)) := by omega
      go_wp2_with fail
      have e0 := HI.out
      rw [List.take_length] at e0
      refine (Tryd.Builder_String_any w.heap.size w.heap.size _ _ e0 (by omega)).mono ?_
      rintro e w1 ⟨rfl, hb1⟩
      go_wp2_with fail
      go_ret2
      exact ⟨_, _, rfl, HB.out.trans hb1, .inl ⟨by omega, rfl, rfl⟩⟩
theorem hex_long (n b off cap : Nat) (w : World) (h : 384 < n) :
    Calls Tryd.prog 21 #[.slice (some ⟨b, off, none⟩) n cap] w fun e w' => e = .returned (.tuple #[.string ⟨#[]⟩, .iface 22 (.int .i64 2)]) ∧ Below w.heap.size w w' := by
  go_enter Tryd.func21, Tryd.ntmps21
  go_wp2_with fail
  go_ret2
  exact ⟨rfl, Below.refl _ _⟩
theorem hex_nil (w : World) :
    Calls Tryd.prog 21 #[.slice none 0 0] w fun e w' => e = .returned (.tuple #[.string ⟨#[]⟩, .nilIface]) ∧ Below w.heap.size w w' := by
  go_enter Tryd.func21, Tryd.ntmps21
  go_wp2_with fail
  refine wp_loop_rounds 1 ?_
  rw [rounds_succ]
  go_wp2_with fail
  refine (Tryd.Builder_String_any w.heap.size w.heap.size [] _ (Lib.fresh_isBuilder _ _ _) (by simp)).mono ?_
  rintro e w1 ⟨rfl, hb1⟩
  go_wp2_with fail
  go_ret2
  exact ⟨rfl, (bal (Below.refl _ _) _).trans hb1⟩
end Go.Proofs.YtemlobepnfpalaaDoor.Hex
