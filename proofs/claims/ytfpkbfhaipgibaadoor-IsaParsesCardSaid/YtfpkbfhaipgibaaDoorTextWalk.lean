/- isa.Text, walked. -/
import Derived.Test.YtfpkbfhaipgibaaDoorTextOf
import Derived.Test.YtfpkbfhaipgibaaDoorBld
namespace Go.Proofs.YtfpkbfhaipgibaaDoor.Txt
open Go.RowKit Go.Proofs.YtfpkbfhaipgibaaDoor.Mem Go.Proofs.YtfpkbfhaipgibaaDoor.Isa

/-- Instructions in memory, four words each. -/
def InsAt (w : World) (b off : Nat) (zs : List (Int × Int × Int × Int)) : Prop :=
  ∀ j (h : j < zs.length), w.cell? ⟨b, off + j * 4, none⟩ = some (.int .i64 zs[j].1) ∧ w.cell? ⟨b, off + j * 4 + 1, none⟩ = some (.int .i64 zs[j].2.1) ∧ w.cell? ⟨b, off + j * 4 + 2, none⟩ = some (.int .i64 zs[j].2.2.1) ∧ w.cell? ⟨b, off + j * 4 + 3, none⟩ = some (.int .i64 zs[j].2.2.2)
theorem InsAt.below {w w' : World} {b off : Nat} {zs : List (Int × Int × Int × Int)} (h : InsAt w b off zs) (hb : Below w.heap.size w w') : InsAt w' b off zs :=
  fun j hj => ⟨cellB (h j hj).1 hb, cellB (h j hj).2.1 hb, cellB (h j hj).2.2.1 hb, cellB (h j hj).2.2.2 hb⟩
def mayQ (q : Int × Int × Int × Int) : Int := IP.may q.1 q.2.1 q.2.2.1 q.2.2.2
def lineQ (q : Int × Int × Int × Int) : List UInt8 := (lineB q.1 q.2.1 q.2.2.1 q.2.2.2).data.toList ++ [10]
def textL (zs : List (Int × Int × Int × Int)) : List UInt8 := zs.flatMap lineQ
theorem textL_snoc (zs : List (Int × Int × Int × Int)) (k : Nat) (h : k < zs.length) : textL (zs.take (k + 1)) = textL (zs.take k) ++ lineQ zs[k] := by
  unfold textL
  rw [List.take_succ_eq_append_getElem h, List.flatMap_append]
  simp
theorem lineB_size (o a b i : Int) (h : IP.may o a b i = 0) : (lineB o a b i).size ≤ 3000050 := by
  obtain ⟨o0, o1, a0, a1, b0, b1, i0, i1⟩ := IP.may_zero h
  have zn := nameB_size o
  have za := iB_size (n := a) (by omega) (by omega)
  have zb := iB_size (n := b) (by omega) (by omega)
  have zi := iB_size (n := i) (by omega) (by omega)
  have e2 : (⟨#[32, 114]⟩ : ByteArray).size = 2 := rfl
  have e1 : (⟨#[32]⟩ : ByteArray).size = 1 := rfl
  unfold lineB
  cases IP.hA o <;> cases IP.hB o <;> cases IP.hC o <;> simp [ByteArray.size_append, e1, e2] <;> omega
theorem lineQ_len (q : Int × Int × Int × Int) (h : mayQ q = 0) : (lineQ q).length ≤ 3000051 := by
  have := lineB_size q.1 q.2.1 q.2.2.1 q.2.2.2 h
  have e : (lineQ q).length = (lineB q.1 q.2.1 q.2.2.1 q.2.2.2).size + 1 := by
    unfold lineQ
    rw [List.length_append, Array.length_toList]
    rfl
  rw [e]
  exact Nat.succ_le_succ this
theorem textL_len (zs : List (Int × Int × Int × Int)) (m : Nat) (hv : ∀ j (h : j < zs.length), j < m → mayQ zs[j] = 0) : ∀ k, k ≤ m → k ≤ zs.length → (textL (zs.take k)).length ≤ k * 3000051 := by
  intro k
  induction k with
  | zero => intro _ _; simp [textL]
  | succ k ih =>
    intro h1 h2
    rw [textL_snoc zs k (by omega), List.length_append]
    have := ih (by omega) (by omega)
    have := lineQ_len zs[k] (hv k (by omega) (by omega))
    omega
theorem byteCells_append (a b : List UInt8) : Lib.byteCells a ++ Lib.byteCells b = Lib.byteCells (a ++ b) := by simp [Lib.byteCells]
set_option maxHeartbeats 1000000 in
theorem text_some (zs : List (Int × Int × Int × Int)) (b off cap m : Nat) (w : World) (ht : CW w) (hz : InsAt w b off zs) (hlen : zs.length ≤ 40) (hm : m ≤ zs.length) (hv : ∀ j (h : j < zs.length), j < m → mayQ zs[j] = 0) (hx : ∀ h : m < zs.length, mayQ zs[m] ≠ 0) :
    Calls Tryd.prog 33 #[.slice (some ⟨b, off, none⟩) zs.length cap] w fun e w' => ∃ s ev, e = .returned (.tuple #[.string s, ev]) ∧ Below w.heap.size w w' ∧
      ((m = zs.length ∧ s = ⟨(textL zs).toArray⟩ ∧ ev = .nilIface) ∨ ∃ h : m < zs.length, s = ⟨#[]⟩ ∧ Tells w' ev (mayQ zs[m]) m) := by
  have HT := hid ht
  have HZ := hid hz
  have HV := hid hv
  have HX := hid hx
  clear ht hz hv hx
  go_enter Tryd.func33, Tryd.ntmps33
  go_wp2_with fail
  go_loopw [14] (fun i wr => ∃ k : Nat, k ≤ m ∧ i = .int .i64 k ∧ Lib.IsBuilder 131 5 w.heap.size w.heap.size (Lib.byteCells (textL (zs.take k))) wr ∧ Below w.heap.size w wr ∧ w.heap.size < wr.heap.size) (fun i _ => zs.length - (intOf i).toNat)
  case atStart => exact ⟨0, by omega, rfl, Lib.fresh_isBuilder _ _ _, bal (Below.refl _ _) _, by simp⟩
  case round =>
    obtain ⟨k, hk, rfl, hI, hB, hs⟩ := hrel
    have HI := hid hI
    have HB := hid hB
    have TR := hid (HT.out.below hB)
    have ZR := hid (HZ.out.below hB)
    clear hI hB
    by_cases hlt : k < zs.length
    · obtain ⟨c0, c1, c2, c3⟩ := ZR.out k hlt
      rcases hq : zs[k] with ⟨o, a, c, i⟩
      rw [hq] at c0 c1 c2 c3
      have HQ := hid hq
      clear hq
      have hlt2 : (k : Int) < (zs.length : Int) := by omega
      by_cases hkm : k < m
      · have hv : IP.may o a c i = 0 := by have := HV.out k hlt hkm; rw [HQ.out] at this; exact this
        have HM := hid hv
        clear hv
        go_wp2_with fail
        refine (check_ok _ _ _ _ _ HM).mono ?_
        rintro e w1 ⟨rfl, hb1⟩
        obtain ⟨hc1, hz1⟩ := bcell hb1
        have B1 := hid (btr (bal HB.out _) hb1)
        have I1 := hid (Bld.is_below (Bld.is_below HI.out (bal (Below.refl _ _) _)) hb1)
        have T1 := hid (HT.out.below B1.out)
        have y1 : wr.heap.size < w1.heap.size := by have := hb1.size; simp at this; omega
        go_wp2_with fail
        refine (textOf_any _ _ _ _ _ HM.out T1.out).mono ?_
        rintro e w2 ⟨rfl, hb2⟩
        have B2 := hid (btr B1.out hb2)
        have I2 := hid (Bld.is_below I1.out hb2)
        have y2 : w.heap.size < w2.heap.size := by have := hb2.size; omega
        clear hb1 hb2
        go_wp2_with fail
        have hl1 := textL_len zs m HV.out k (by omega) (by omega)
        have hl2 := lineB_size o a c i HM.out
        refine (Bld.writeString w.heap.size w.heap.size _ _ _ I2.out (by rw [Lib.byteCells_length]; omega) (by omega)).mono ?_
        rintro e w3 ⟨rfl, hI3, hB3⟩
        have I3 := hid hI3
        have B3 := hid (B2.out.trans hB3)
        have y3 : w.heap.size < w3.heap.size := by have := hB3.size; omega
        clear hI3 hB3
        go_wp2_with fail
        refine (Bld.writeByte w.heap.size w.heap.size _ _ _ I3.out (by rw [List.length_append, Lib.byteCells_length, Lib.strCells_length]; omega) (by omega)).mono ?_
        rintro e w4 ⟨rfl, hI4, hB4⟩
        have I4 := hid hI4
        have B4 := hid (B3.out.trans hB4)
        have y4 : w.heap.size < w4.heap.size := by have := hB4.size; omega
        clear hI4 hB4
        go_wp2_with fail
        refine ⟨⟨k + 1, by omega, by go_num, ?_, B4.out, y4⟩, by simp [intOf]; omega⟩
        have e1 : Lib.byteCells (textL (zs.take (k + 1))) = Lib.byteCells (textL (zs.take k)) ++ Lib.strCells (lineB o a c i) ++ [.int .u8 10] := by
          rw [textL_snoc zs k hlt, HQ.out, List.append_assoc]
          simp [lineQ, Lib.byteCells, Lib.strCells]
        rw [e1]
        exact I4.out
      · obtain rfl : k = m := by omega
        have hx : IP.may o a c i ≠ 0 := by have := HX.out hlt; rw [HQ.out] at this; exact this
        have HM := hid hx
        clear hx
        go_wp2_with fail
        refine (check_no _ _ _ _ _ HM).mono ?_
        rintro e w1 ⟨rfl, hb1⟩
        have B1 := hid (btr (bal HB.out _) hb1)
        go_wp2_with fail
        go_ret2
        refine ⟨_, _, rfl, bal B1.out _, .inr ⟨hlt, rfl, .inr (.inr ⟨w1.heap.size, 0, rfl, World.cell?_alloc_at _ _ _ _ rfl, ?_⟩)⟩⟩
        rw [World.cell?_alloc_at _ _ _ _ rfl, HQ.out]
        rfl
    · obtain rfl : k = zs.length := by omega
      have hge : ¬ ((zs.length : Int) < (zs.length : Int)) := by omega
      go_wp2_with fail
      refine (Tryd.Builder_String_any w.heap.size w.heap.size _ _ HI.out (by omega)).mono ?_
      rintro e w1 ⟨rfl, hb1⟩
      go_wp2_with fail
      go_ret2
      exact ⟨_, _, rfl, HB.out.trans hb1, .inl ⟨by omega, rfl, rfl⟩⟩
end Go.Proofs.YtfpkbfhaipgibaaDoor.Txt
