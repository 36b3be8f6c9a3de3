/- keyholdref.CodeText, walked. -/
import Derived.Test.YtemlobepnfpalaaDoorTextWalk
import Derived.Deep.QuietTactic
import Derived.BigQuiet
namespace Go.Proofs.YtemlobepnfpalaaDoor.Txt
open Go.RowKit Go.Proofs.YtemlobepnfpalaaDoor.Mem Go.Proofs.YtemlobepnfpalaaDoor.Isa

def textB (zs : List (Int × Int × Int × Int)) : ByteArray := ⟨(textL zs).toArray⟩
theorem textB_size (zs : List (Int × Int × Int × Int)) : (textB zs).size = (textL zs).length := by
  unfold textB
  rfl
theorem decB (n : Int) (w : World) (h0 : -1000000 ≤ n) (h1 : n ≤ 1000000) :
    Calls Tryd.prog 47 #[.int .i64 n] w fun e w' => e = .returned (.string (iB n)) ∧ Below w.heap.size w w' := dec_any n w h0 h1
theorem ba_ext {a b : ByteArray} (h : a.data.toList = b.data.toList) : a = b := by
  apply ByteArray.ext
  exact Array.toList_inj.1 h
theorem app_list (a b : ByteArray) : (a ++ b).data.toList = a.data.toList ++ b.data.toList := by
  rw [ByteArray.data_append, Array.toList_append]
theorem textB_list (zs : List (Int × Int × Int × Int)) : (textB zs).data.toList = textL zs := rfl
theorem textB_snoc (zs : List (Int × Int × Int × Int)) (k : Nat) (h : k < zs.length) (o a c i : Int) (hq : zs[k] = (o, a, c, i)) :
    textB (zs.take (k + 1)) = textB (zs.take k) ++ lineB o a c i ++ ⟨#[10]⟩ := by
  apply ba_ext
  rw [app_list, app_list, textB_list, textB_list, textL_snoc zs k h, hq, List.append_assoc]
  rfl
theorem assoc3 (a b c : ByteArray) : a ++ (b ++ c) = a ++ b ++ c := by
  apply ba_ext
  simp only [app_list, List.append_assoc]
set_option maxHeartbeats 1000000 in
theorem codeText_some (zs : List (Int × Int × Int × Int)) (b off cap : Nat) (w : World) (ht : TW w) (hz : InsAt w b off zs) (hlen : zs.length ≤ 40) (hv : ∀ j (h : j < zs.length), mayQ zs[j] = 0) :
    Calls Tryd.prog 31 #[.slice (some ⟨b, off, none⟩) zs.length cap] w fun e w' => e = .returned (.string (textB zs)) ∧ Below w.heap.size w w' := by
  have HT := hid ht
  have HZ := hid hz
  have HV := hid hv
  clear ht hz hv
  go_enter Tryd.func31, Tryd.ntmps31
  go_wp2_with fail
  go_loopw [3, 4] (fun s i wr => ∃ k : Nat, k ≤ zs.length ∧ i = .int .i64 k ∧ s = .string (textB (zs.take k)) ∧ Below w.heap.size w wr) (fun _ i _ => zs.length - (intOf i).toNat)
  case atStart => exact ⟨0, by omega, rfl, rfl, Below.refl _ _⟩
  case round =>
    obtain ⟨k, hk, rfl, rfl, hB⟩ := hrel
    have HB := hid hB
    have TR := hid (HT.out.below hB)
    have ZR := hid (HZ.out.below hB)
    clear hB
    have hl1 : (textB (zs.take k)).size ≤ 120002040 := by
      rw [textB_size]
      have := textL_len zs zs.length (fun j h _ => HV.out j h) k (by omega) (by omega)
      omega
    by_cases hlt : k < zs.length
    · obtain ⟨c0, c1, c2, c3⟩ := ZR.out k hlt
      rcases hq : zs[k] with ⟨o, a, c, i⟩
      rw [hq] at c0 c1 c2 c3
      have hm : IP.may o a c i = 0 := by have := HV.out k hlt; rw [hq] at this; exact this
      have HQ := hid hq
      have HM := hid hm
      clear hq
      obtain ⟨o0, o1, a0, a1, b0, b1, i0, i1⟩ := IP.may_zero hm
      clear hm
      have hlt2 : (k : Int) < (zs.length : Int) := by omega
      obtain ⟨rb, ro, rc, n0, n1⟩ := TR.out.rn
      have n2 : wr.cell? ⟨rb, ro + o.toNat, none⟩ = some (.string (nameB o)) := n1 o.toNat (by omega)
      clear n1
      have o2 : o < 15 := by omega
      have zn := nameB_size o
      have za := iB_size (n := a) (by omega) (by omega)
      have zb := iB_size (n := c) (by omega) (by omega)
      have zi := iB_size (n := i) (by omega) (by omega)
      have hbl : b < wr.heap.size := World.block_lt_of_cell? _ _ c0
      cases hA : IP.hA o with
      | true =>
        cases hB : IP.hB o with
        | true =>
          cases hC : IP.hC o with
          | true =>
            have hl := hid (show textB (zs.take (k + 1)) = textB (zs.take k) ++ nameB o ++ ⟨#[32, 114]⟩ ++ iB a ++ ⟨#[32, 114]⟩ ++ iB c ++ ⟨#[32]⟩ ++ iB i ++ ⟨#[10]⟩ from by
              rw [textB_snoc zs k hlt o a c i HQ.out, show lineB o a c i = nameB o ++ (⟨#[32, 114]⟩ ++ iB a) ++ (⟨#[32, 114]⟩ ++ iB c) ++ (⟨#[32]⟩ ++ iB i) from by unfold lineB; simp [hA, hB, hC]]
              first | done | simp only [assoc3])
            go_wp2_with fail
            go_quiet (fail)
            have B0 := hid (below_drewN HB.out nq)
            have R1 := hid (below_drewN (Below.refl wr.heap.size wr) nq)
            go_wp2_with fail
            refine (has_any _ _).mono ?_
            rintro e w1 ⟨rfl, rfl⟩
            go_wp2_with fail
            refine (decB a _ (by omega) (by omega)).mono ?_
            rintro e w2 ⟨rfl, hb2⟩
            have R2 := hid (btr R1.out hb2)
            have g1 := cellB c1 R2.out
            have g2 := cellB c2 R2.out
            have g3 := cellB c3 R2.out
            have B1 := hid (btr B0.out hb2)
            go_wp2_with fail
            refine (decB c _ (by omega) (by omega)).mono ?_
            rintro e w3 ⟨rfl, hb3⟩
            have R3 := hid (btr R2.out hb3)
            have g1 := cellB c1 R3.out
            have g2 := cellB c2 R3.out
            have g3 := cellB c3 R3.out
            have B2 := hid (btr B1.out hb3)
            go_wp2_with fail
            refine (decB i _ (by omega) (by omega)).mono ?_
            rintro e w4 ⟨rfl, hb4⟩
            have R4 := hid (btr R3.out hb4)
            have g1 := cellB c1 R4.out
            have g2 := cellB c2 R4.out
            have g3 := cellB c3 R4.out
            have B3 := hid (btr B2.out hb4)
            go_wp2_with fail
            exact ⟨⟨k + 1, by omega, by go_num, by rw [hl.out], B3.out⟩, by simp [intOf]; omega⟩
          | false =>
            have hl := hid (show textB (zs.take (k + 1)) = textB (zs.take k) ++ nameB o ++ ⟨#[32, 114]⟩ ++ iB a ++ ⟨#[32, 114]⟩ ++ iB c ++ ⟨#[10]⟩ from by
              rw [textB_snoc zs k hlt o a c i HQ.out, show lineB o a c i = nameB o ++ (⟨#[32, 114]⟩ ++ iB a) ++ (⟨#[32, 114]⟩ ++ iB c) from by unfold lineB; simp [hA, hB, hC]]
              first | done | simp only [assoc3])
            go_wp2_with fail
            go_quiet (fail)
            have B0 := hid (below_drewN HB.out nq)
            have R1 := hid (below_drewN (Below.refl wr.heap.size wr) nq)
            go_wp2_with fail
            refine (has_any _ _).mono ?_
            rintro e w1 ⟨rfl, rfl⟩
            go_wp2_with fail
            refine (decB a _ (by omega) (by omega)).mono ?_
            rintro e w2 ⟨rfl, hb2⟩
            have R2 := hid (btr R1.out hb2)
            have g1 := cellB c1 R2.out
            have g2 := cellB c2 R2.out
            have g3 := cellB c3 R2.out
            have B1 := hid (btr B0.out hb2)
            go_wp2_with fail
            refine (decB c _ (by omega) (by omega)).mono ?_
            rintro e w3 ⟨rfl, hb3⟩
            have R3 := hid (btr R2.out hb3)
            have g1 := cellB c1 R3.out
            have g2 := cellB c2 R3.out
            have g3 := cellB c3 R3.out
            have B2 := hid (btr B1.out hb3)
            go_wp2_with fail
            exact ⟨⟨k + 1, by omega, by go_num, by rw [hl.out], B2.out⟩, by simp [intOf]; omega⟩
        | false =>
          cases hC : IP.hC o with
          | true =>
            have hl := hid (show textB (zs.take (k + 1)) = textB (zs.take k) ++ nameB o ++ ⟨#[32, 114]⟩ ++ iB a ++ ⟨#[32]⟩ ++ iB i ++ ⟨#[10]⟩ from by
              rw [textB_snoc zs k hlt o a c i HQ.out, show lineB o a c i = nameB o ++ (⟨#[32, 114]⟩ ++ iB a) ++ (⟨#[32]⟩ ++ iB i) from by unfold lineB; simp [hA, hB, hC]]
              first | done | simp only [assoc3])
            go_wp2_with fail
            go_quiet (fail)
            have B0 := hid (below_drewN HB.out nq)
            have R1 := hid (below_drewN (Below.refl wr.heap.size wr) nq)
            go_wp2_with fail
            refine (has_any _ _).mono ?_
            rintro e w1 ⟨rfl, rfl⟩
            go_wp2_with fail
            refine (decB a _ (by omega) (by omega)).mono ?_
            rintro e w2 ⟨rfl, hb2⟩
            have R2 := hid (btr R1.out hb2)
            have g1 := cellB c1 R2.out
            have g2 := cellB c2 R2.out
            have g3 := cellB c3 R2.out
            have B1 := hid (btr B0.out hb2)
            go_wp2_with fail
            refine (decB i _ (by omega) (by omega)).mono ?_
            rintro e w3 ⟨rfl, hb3⟩
            have R3 := hid (btr R2.out hb3)
            have g1 := cellB c1 R3.out
            have g2 := cellB c2 R3.out
            have g3 := cellB c3 R3.out
            have B2 := hid (btr B1.out hb3)
            go_wp2_with fail
            exact ⟨⟨k + 1, by omega, by go_num, by rw [hl.out], B2.out⟩, by simp [intOf]; omega⟩
          | false =>
            have hl := hid (show textB (zs.take (k + 1)) = textB (zs.take k) ++ nameB o ++ ⟨#[32, 114]⟩ ++ iB a ++ ⟨#[10]⟩ from by
              rw [textB_snoc zs k hlt o a c i HQ.out, show lineB o a c i = nameB o ++ (⟨#[32, 114]⟩ ++ iB a) from by unfold lineB; simp [hA, hB, hC]]
              first | done | simp only [assoc3])
            go_wp2_with fail
            go_quiet (fail)
            have B0 := hid (below_drewN HB.out nq)
            have R1 := hid (below_drewN (Below.refl wr.heap.size wr) nq)
            go_wp2_with fail
            refine (has_any _ _).mono ?_
            rintro e w1 ⟨rfl, rfl⟩
            go_wp2_with fail
            refine (decB a _ (by omega) (by omega)).mono ?_
            rintro e w2 ⟨rfl, hb2⟩
            have R2 := hid (btr R1.out hb2)
            have g1 := cellB c1 R2.out
            have g2 := cellB c2 R2.out
            have g3 := cellB c3 R2.out
            have B1 := hid (btr B0.out hb2)
            go_wp2_with fail
            exact ⟨⟨k + 1, by omega, by go_num, by rw [hl.out], B1.out⟩, by simp [intOf]; omega⟩
      | false =>
        cases hB : IP.hB o with
        | true =>
          cases hC : IP.hC o with
          | true =>
            have hl := hid (show textB (zs.take (k + 1)) = textB (zs.take k) ++ nameB o ++ ⟨#[32, 114]⟩ ++ iB c ++ ⟨#[32]⟩ ++ iB i ++ ⟨#[10]⟩ from by
              rw [textB_snoc zs k hlt o a c i HQ.out, show lineB o a c i = nameB o ++ (⟨#[32, 114]⟩ ++ iB c) ++ (⟨#[32]⟩ ++ iB i) from by unfold lineB; simp [hA, hB, hC]]
              first | done | simp only [assoc3])
            go_wp2_with fail
            go_quiet (fail)
            have B0 := hid (below_drewN HB.out nq)
            have R1 := hid (below_drewN (Below.refl wr.heap.size wr) nq)
            go_wp2_with fail
            refine (has_any _ _).mono ?_
            rintro e w1 ⟨rfl, rfl⟩
            go_wp2_with fail
            refine (decB c _ (by omega) (by omega)).mono ?_
            rintro e w2 ⟨rfl, hb2⟩
            have R2 := hid (btr R1.out hb2)
            have g1 := cellB c1 R2.out
            have g2 := cellB c2 R2.out
            have g3 := cellB c3 R2.out
            have B1 := hid (btr B0.out hb2)
            go_wp2_with fail
            refine (decB i _ (by omega) (by omega)).mono ?_
            rintro e w3 ⟨rfl, hb3⟩
            have R3 := hid (btr R2.out hb3)
            have g1 := cellB c1 R3.out
            have g2 := cellB c2 R3.out
            have g3 := cellB c3 R3.out
            have B2 := hid (btr B1.out hb3)
            go_wp2_with fail
            exact ⟨⟨k + 1, by omega, by go_num, by rw [hl.out], B2.out⟩, by simp [intOf]; omega⟩
          | false =>
            have hl := hid (show textB (zs.take (k + 1)) = textB (zs.take k) ++ nameB o ++ ⟨#[32, 114]⟩ ++ iB c ++ ⟨#[10]⟩ from by
              rw [textB_snoc zs k hlt o a c i HQ.out, show lineB o a c i = nameB o ++ (⟨#[32, 114]⟩ ++ iB c) from by unfold lineB; simp [hA, hB, hC]]
              first | done | simp only [assoc3])
            go_wp2_with fail
            go_quiet (fail)
            have B0 := hid (below_drewN HB.out nq)
            have R1 := hid (below_drewN (Below.refl wr.heap.size wr) nq)
            go_wp2_with fail
            refine (has_any _ _).mono ?_
            rintro e w1 ⟨rfl, rfl⟩
            go_wp2_with fail
            refine (decB c _ (by omega) (by omega)).mono ?_
            rintro e w2 ⟨rfl, hb2⟩
            have R2 := hid (btr R1.out hb2)
            have g1 := cellB c1 R2.out
            have g2 := cellB c2 R2.out
            have g3 := cellB c3 R2.out
            have B1 := hid (btr B0.out hb2)
            go_wp2_with fail
            exact ⟨⟨k + 1, by omega, by go_num, by rw [hl.out], B1.out⟩, by simp [intOf]; omega⟩
        | false =>
          cases hC : IP.hC o with
          | true =>
            have hl := hid (show textB (zs.take (k + 1)) = textB (zs.take k) ++ nameB o ++ ⟨#[32]⟩ ++ iB i ++ ⟨#[10]⟩ from by
              rw [textB_snoc zs k hlt o a c i HQ.out, show lineB o a c i = nameB o ++ (⟨#[32]⟩ ++ iB i) from by unfold lineB; simp [hA, hB, hC]]
              first | done | simp only [assoc3])
            go_wp2_with fail
            go_quiet (fail)
            have B0 := hid (below_drewN HB.out nq)
            have R1 := hid (below_drewN (Below.refl wr.heap.size wr) nq)
            go_wp2_with fail
            refine (has_any _ _).mono ?_
            rintro e w1 ⟨rfl, rfl⟩
            go_wp2_with fail
            refine (decB i _ (by omega) (by omega)).mono ?_
            rintro e w2 ⟨rfl, hb2⟩
            have R2 := hid (btr R1.out hb2)
            have g1 := cellB c1 R2.out
            have g2 := cellB c2 R2.out
            have g3 := cellB c3 R2.out
            have B1 := hid (btr B0.out hb2)
            go_wp2_with fail
            exact ⟨⟨k + 1, by omega, by go_num, by rw [hl.out], B1.out⟩, by simp [intOf]; omega⟩
          | false =>
            have hl := hid (show textB (zs.take (k + 1)) = textB (zs.take k) ++ nameB o ++ ⟨#[10]⟩ from by
              rw [textB_snoc zs k hlt o a c i HQ.out, show lineB o a c i = nameB o from by unfold lineB; simp [hA, hB, hC]]
              first | done | simp only [assoc3])
            go_wp2_with fail
            go_quiet (fail)
            have B0 := hid (below_drewN HB.out nq)
            have R1 := hid (below_drewN (Below.refl wr.heap.size wr) nq)
            go_wp2_with fail
            refine (has_any _ _).mono ?_
            rintro e w1 ⟨rfl, rfl⟩
            go_wp2_with fail
            exact ⟨⟨k + 1, by omega, by go_num, by rw [hl.out], B0.out⟩, by simp [intOf]; omega⟩
    · obtain rfl : k = zs.length := by omega
      have hge : ¬ ((zs.length : Int) < (zs.length : Int)) := by omega
      go_wp2_with fail
      go_ret
      exact ⟨by simp, HB.out⟩
end Go.Proofs.YtemlobepnfpalaaDoor.Txt
