/- isa.textOf, walked: an instruction's line. -/
import Derived.Test.YtfpkbfhaipgibaaDoorDecTxt
import Derived.Test.YtfpkbfhaipgibaaDoorIsaWalk
import Derived.Test.YtfpkbfhaipgibaaDoorRefIsa
import Derived.Test.YtfpkbfhaipgibaaDoorTell
import Derived.Test.YtfpkbfhaipgibaaDoorShelf
import Derived.WalkSmall
namespace Go.Proofs.YtfpkbfhaipgibaaDoor.Txt
open Go.RowKit Go.Proofs.YtfpkbfhaipgibaaDoor.Mem Go.Proofs.YtfpkbfhaipgibaaDoor.Isa

/-- The names of instructions, by number. -/
def nameL : Nat → List UInt8
  | 0 => [104, 97, 108, 116]
  | 1 => [115, 101, 116]
  | 2 => [109, 111, 118]
  | 3 => [97, 100, 100]
  | 4 => [115, 117, 98]
  | 5 => [109, 117, 108]
  | 6 => [97, 110, 100]
  | 7 => [111, 114]
  | 8 => [120, 111, 114]
  | 9 => [108, 101, 115, 115]
  | 10 => [108, 111, 97, 100]
  | 11 => [115, 116, 111, 114, 101]
  | 12 => [106, 117, 109, 112]
  | 13 => [122, 101, 114, 111]
  | _ => [115, 121, 115]
def nameB (o : Int) : ByteArray := ⟨(nameL o.toNat).toArray⟩
theorem nameB_size (o : Int) : (nameB o).size ≤ 5 := by
  have e : (nameB o).size = (nameL o.toNat).length := by simp [nameB, ByteArray.size]
  rw [e]
  unfold nameL
  split <;> simp
/-- What the program's own tables hold. -/
structure CW (w : World) : Prop where
  nm : ∀ k, k < 15 → w.cell? ⟨1, k, none⟩ = some (.string ⟨(nameL k).toArray⟩)
  tb : Lib.TabIs Tryd.prog w "internal/strconv.uint64pow10" .u64 Lib.pow10Tab
  gl : 1 < w.heap.size ∧ 4 < w.heap.size
theorem p10G : Tryd.prog.globalNamed "internal/strconv.uint64pow10" = some 4 := by kernel_rfl
theorem cellB {w w' : World} {a : Addr} {v : Value} (h : w.cell? a = some v) (hb : Below w.heap.size w w') : w'.cell? a = some v := (hb.cell (World.block_lt_of_cell? _ _ h)).trans h
theorem CW.below {w w' : World} (h : CW w) (hb : Below w.heap.size w w') : CW w' :=
  ⟨fun k hk => cellB (h.nm k hk) hb, var?_below hb p10G h.gl.2 h.tb, Nat.lt_of_lt_of_le h.gl.1 hb.size, Nat.lt_of_lt_of_le h.gl.2 hb.size⟩
theorem CW.al {w : World} (h : CW w) (o : Obj) : CW (w.alloc o) := h.below (bal (Below.refl _ _) o)
/-- .. and the reference's, and the library's. -/
structure TW (w : World) : Prop extends CW w where
  et : ETok w
  rn : ∃ b o c, w.cell? ⟨0, 0, none⟩ = some (.slice (some ⟨b, o, none⟩) 15 c) ∧ ∀ k, k < 15 → w.cell? ⟨b, o + k, none⟩ = some (.string ⟨(nameL k).toArray⟩)
theorem TW.below {w w' : World} (h : TW w) (hb : Below w.heap.size w w') : TW w' := by
  refine ⟨h.toCW.below hb, h.et.below hb, ?_⟩
  obtain ⟨b, o, c, h1, h2⟩ := h.rn
  exact ⟨b, o, c, cellB h1 hb, fun k hk => cellB (h2 k hk) hb⟩
theorem itoa_any (n : Int) (w : World) (h0 : -1000000 ≤ n) (h1 : n ≤ 1000000) (ht : CW w) :
    Calls Tryd.prog 92 #[.int .i64 n] w fun e w' => e = .returned (.string ⟨(Lib.itoa n).toArray⟩) ∧ Below w.heap.size w w' := by
  refine (Tryd.strconv_Itoa n (by omega) (by omega) w ht.tb).mono ?_
  rintro e w' ⟨he, k, os, hw⟩
  refine ⟨he, ?_⟩
  rw [hw]
  refine ⟨rfl, rfl, rfl, by simp [Go.Sort.grow], fun i hi => ?_⟩
  simp [Go.Sort.grow, Array.getElem?_append, hi]
def iB (n : Int) : ByteArray := ⟨(Lib.itoa n).toArray⟩
theorem iB_size {n : Int} (h0 : -1000000 ≤ n) (h1 : n ≤ 1000000) : (iB n).size ≤ 1000002 := itoa_size h0 h1
theorem itoaB (n : Int) (w : World) (h0 : -1000000 ≤ n) (h1 : n ≤ 1000000) (ht : CW w) :
    Calls Tryd.prog 92 #[.int .i64 n] w fun e w' => e = .returned (.string (iB n)) ∧ Below w.heap.size w w' := itoa_any n w h0 h1 ht
/-- An instruction's line, without its end. -/
def lineB (o a b i : Int) : ByteArray :=
  let s0 := nameB o
  let s1 := if IP.hA o = true then s0 ++ (⟨#[32, 114]⟩ ++ iB a) else s0
  let s2 := if IP.hB o = true then s1 ++ (⟨#[32, 114]⟩ ++ iB b) else s1
  if IP.hC o = true then s2 ++ (⟨#[32]⟩ ++ iB i) else s2
set_option maxHeartbeats 1000000 in
theorem textOf_any (o a b i : Int) (w : World) (hm : IP.may o a b i = 0) (ht : CW w) :
    Calls Tryd.prog 70 #[.agg #[.int .i64 o, .int .i64 a, .int .i64 b, .int .i64 i]] w fun e w' => e = .returned (.string (lineB o a b i)) ∧ Below w.heap.size w w' := by
  obtain ⟨o0, o1, a0, a1, b0, b1, i0, i1⟩ := IP.may_zero hm
  clear hm
  have hn : w.cell? ⟨1, o.toNat, none⟩ = some (.string (nameB o)) := ht.nm o.toNat (by omega)
  have hg : 1 < w.heap.size := ht.gl.1
  have hg0 : 0 < w.heap.size := by omega
  have HT := hid ht
  clear ht
  have zn := nameB_size o
  have za := iB_size (n := a) (by omega) (by omega)
  have zb := iB_size (n := b) (by omega) (by omega)
  have zi := iB_size (n := i) (by omega) (by omega)
  cases hA : IP.hA o with
  | true =>
    cases hB : IP.hB o with
    | true =>
      cases hC : IP.hC o with
      | true =>
        have hl := hid (show lineB o a b i = nameB o ++ (⟨#[32, 114]⟩ ++ iB a) ++ (⟨#[32, 114]⟩ ++ iB b) ++ (⟨#[32]⟩ ++ iB i) from by unfold lineB; simp [hA, hB, hC])
        go_enter Tryd.func70, Tryd.ntmps70
        go_wp2_with fail
        refine (shape_any _ _).mono ?_
        rintro e w1 ⟨rfl, hb⟩
        obtain ⟨hc, hz⟩ := bcell hb
        have z0 : w.heap.size < w1.heap.size := by have := hb.size; simp at this; omega
        have zg : 1 < w1.heap.size := by omega
        have zg0 : 0 < w1.heap.size := by omega
        have B1 := hid (btr (bal (Below.refl _ _) _) hb)
        have T1 := hid (HT.out.below B1.out)
        go_wp2_with fail
        refine (itoaB a _ (by omega) (by omega) (T1.out.al _)).mono ?_
        rintro e w2 ⟨rfl, hb2⟩
        obtain ⟨hc2, hz2⟩ := bcell hb2
        have y0 : w.heap.size < w2.heap.size := by have := hb2.size; simp at this; omega
        have y1 : w1.heap.size < w2.heap.size := by have := hb2.size; simp at this; omega
        have B2 := hid (btr (bal B1.out _) hb2)
        have T2 := hid ((T1.out.al _).below hb2)
        go_wp2_with fail
        refine (itoaB b _ (by omega) (by omega) T2.out).mono ?_
        rintro e w3 ⟨rfl, hb3⟩
        obtain ⟨hc3, hz3⟩ := bcell hb3
        have y03 : w.heap.size < w3.heap.size := by have := hb3.size; omega
        have y13 : w1.heap.size < w3.heap.size := by have := hb3.size; omega
        have B3 := hid (btr B2.out hb3)
        have T3 := hid (T2.out.below hb3)
        go_wp2_with fail
        refine (itoaB i _ (by omega) (by omega) T3.out).mono ?_
        rintro e w4 ⟨rfl, hb4⟩
        obtain ⟨hc4, hz4⟩ := bcell hb4
        have y04 : w.heap.size < w4.heap.size := by have := hb4.size; omega
        have y14 : w1.heap.size < w4.heap.size := by have := hb4.size; omega
        have B4 := hid (btr B3.out hb4)
        have T4 := hid (T3.out.below hb4)
        go_wp2_with fail
        go_ret
        exact ⟨by rw [hl.out]; rfl, B4.out⟩
      | false =>
        have hl := hid (show lineB o a b i = nameB o ++ (⟨#[32, 114]⟩ ++ iB a) ++ (⟨#[32, 114]⟩ ++ iB b) from by unfold lineB; simp [hA, hB, hC])
        go_enter Tryd.func70, Tryd.ntmps70
        go_wp2_with fail
        refine (shape_any _ _).mono ?_
        rintro e w1 ⟨rfl, hb⟩
        obtain ⟨hc, hz⟩ := bcell hb
        have z0 : w.heap.size < w1.heap.size := by have := hb.size; simp at this; omega
        have zg : 1 < w1.heap.size := by omega
        have zg0 : 0 < w1.heap.size := by omega
        have B1 := hid (btr (bal (Below.refl _ _) _) hb)
        have T1 := hid (HT.out.below B1.out)
        go_wp2_with fail
        refine (itoaB a _ (by omega) (by omega) (T1.out.al _)).mono ?_
        rintro e w2 ⟨rfl, hb2⟩
        obtain ⟨hc2, hz2⟩ := bcell hb2
        have y0 : w.heap.size < w2.heap.size := by have := hb2.size; simp at this; omega
        have y1 : w1.heap.size < w2.heap.size := by have := hb2.size; simp at this; omega
        have B2 := hid (btr (bal B1.out _) hb2)
        have T2 := hid ((T1.out.al _).below hb2)
        go_wp2_with fail
        refine (itoaB b _ (by omega) (by omega) T2.out).mono ?_
        rintro e w3 ⟨rfl, hb3⟩
        obtain ⟨hc3, hz3⟩ := bcell hb3
        have y03 : w.heap.size < w3.heap.size := by have := hb3.size; omega
        have y13 : w1.heap.size < w3.heap.size := by have := hb3.size; omega
        have B3 := hid (btr B2.out hb3)
        have T3 := hid (T2.out.below hb3)
        go_wp2_with fail
        go_ret
        exact ⟨by rw [hl.out]; rfl, B3.out⟩
    | false =>
      cases hC : IP.hC o with
      | true =>
        have hl := hid (show lineB o a b i = nameB o ++ (⟨#[32, 114]⟩ ++ iB a) ++ (⟨#[32]⟩ ++ iB i) from by unfold lineB; simp [hA, hB, hC])
        go_enter Tryd.func70, Tryd.ntmps70
        go_wp2_with fail
        refine (shape_any _ _).mono ?_
        rintro e w1 ⟨rfl, hb⟩
        obtain ⟨hc, hz⟩ := bcell hb
        have z0 : w.heap.size < w1.heap.size := by have := hb.size; simp at this; omega
        have zg : 1 < w1.heap.size := by omega
        have zg0 : 0 < w1.heap.size := by omega
        have B1 := hid (btr (bal (Below.refl _ _) _) hb)
        have T1 := hid (HT.out.below B1.out)
        go_wp2_with fail
        refine (itoaB a _ (by omega) (by omega) (T1.out.al _)).mono ?_
        rintro e w2 ⟨rfl, hb2⟩
        obtain ⟨hc2, hz2⟩ := bcell hb2
        have y0 : w.heap.size < w2.heap.size := by have := hb2.size; simp at this; omega
        have y1 : w1.heap.size < w2.heap.size := by have := hb2.size; simp at this; omega
        have B2 := hid (btr (bal B1.out _) hb2)
        have T2 := hid ((T1.out.al _).below hb2)
        go_wp2_with fail
        refine (itoaB i _ (by omega) (by omega) T2.out).mono ?_
        rintro e w3 ⟨rfl, hb3⟩
        obtain ⟨hc3, hz3⟩ := bcell hb3
        have y03 : w.heap.size < w3.heap.size := by have := hb3.size; omega
        have y13 : w1.heap.size < w3.heap.size := by have := hb3.size; omega
        have B3 := hid (btr B2.out hb3)
        have T3 := hid (T2.out.below hb3)
        go_wp2_with fail
        go_ret
        exact ⟨by rw [hl.out]; rfl, B3.out⟩
      | false =>
        have hl := hid (show lineB o a b i = nameB o ++ (⟨#[32, 114]⟩ ++ iB a) from by unfold lineB; simp [hA, hB, hC])
        go_enter Tryd.func70, Tryd.ntmps70
        go_wp2_with fail
        refine (shape_any _ _).mono ?_
        rintro e w1 ⟨rfl, hb⟩
        obtain ⟨hc, hz⟩ := bcell hb
        have z0 : w.heap.size < w1.heap.size := by have := hb.size; simp at this; omega
        have zg : 1 < w1.heap.size := by omega
        have zg0 : 0 < w1.heap.size := by omega
        have B1 := hid (btr (bal (Below.refl _ _) _) hb)
        have T1 := hid (HT.out.below B1.out)
        go_wp2_with fail
        refine (itoaB a _ (by omega) (by omega) (T1.out.al _)).mono ?_
        rintro e w2 ⟨rfl, hb2⟩
        obtain ⟨hc2, hz2⟩ := bcell hb2
        have y0 : w.heap.size < w2.heap.size := by have := hb2.size; simp at this; omega
        have y1 : w1.heap.size < w2.heap.size := by have := hb2.size; simp at this; omega
        have B2 := hid (btr (bal B1.out _) hb2)
        have T2 := hid ((T1.out.al _).below hb2)
        go_wp2_with fail
        go_ret
        exact ⟨by rw [hl.out]; rfl, B2.out⟩
  | false =>
    cases hB : IP.hB o with
    | true =>
      cases hC : IP.hC o with
      | true =>
        have hl := hid (show lineB o a b i = nameB o ++ (⟨#[32, 114]⟩ ++ iB b) ++ (⟨#[32]⟩ ++ iB i) from by unfold lineB; simp [hA, hB, hC])
        go_enter Tryd.func70, Tryd.ntmps70
        go_wp2_with fail
        refine (shape_any _ _).mono ?_
        rintro e w1 ⟨rfl, hb⟩
        obtain ⟨hc, hz⟩ := bcell hb
        have z0 : w.heap.size < w1.heap.size := by have := hb.size; simp at this; omega
        have zg : 1 < w1.heap.size := by omega
        have zg0 : 0 < w1.heap.size := by omega
        have B1 := hid (btr (bal (Below.refl _ _) _) hb)
        have T1 := hid (HT.out.below B1.out)
        go_wp2_with fail
        refine (itoaB b _ (by omega) (by omega) (T1.out.al _)).mono ?_
        rintro e w2 ⟨rfl, hb2⟩
        obtain ⟨hc2, hz2⟩ := bcell hb2
        have y0 : w.heap.size < w2.heap.size := by have := hb2.size; simp at this; omega
        have y1 : w1.heap.size < w2.heap.size := by have := hb2.size; simp at this; omega
        have B2 := hid (btr (bal B1.out _) hb2)
        have T2 := hid ((T1.out.al _).below hb2)
        go_wp2_with fail
        refine (itoaB i _ (by omega) (by omega) T2.out).mono ?_
        rintro e w3 ⟨rfl, hb3⟩
        obtain ⟨hc3, hz3⟩ := bcell hb3
        have y03 : w.heap.size < w3.heap.size := by have := hb3.size; omega
        have y13 : w1.heap.size < w3.heap.size := by have := hb3.size; omega
        have B3 := hid (btr B2.out hb3)
        have T3 := hid (T2.out.below hb3)
        go_wp2_with fail
        go_ret
        exact ⟨by rw [hl.out]; rfl, B3.out⟩
      | false =>
        have hl := hid (show lineB o a b i = nameB o ++ (⟨#[32, 114]⟩ ++ iB b) from by unfold lineB; simp [hA, hB, hC])
        go_enter Tryd.func70, Tryd.ntmps70
        go_wp2_with fail
        refine (shape_any _ _).mono ?_
        rintro e w1 ⟨rfl, hb⟩
        obtain ⟨hc, hz⟩ := bcell hb
        have z0 : w.heap.size < w1.heap.size := by have := hb.size; simp at this; omega
        have zg : 1 < w1.heap.size := by omega
        have zg0 : 0 < w1.heap.size := by omega
        have B1 := hid (btr (bal (Below.refl _ _) _) hb)
        have T1 := hid (HT.out.below B1.out)
        go_wp2_with fail
        refine (itoaB b _ (by omega) (by omega) (T1.out.al _)).mono ?_
        rintro e w2 ⟨rfl, hb2⟩
        obtain ⟨hc2, hz2⟩ := bcell hb2
        have y0 : w.heap.size < w2.heap.size := by have := hb2.size; simp at this; omega
        have y1 : w1.heap.size < w2.heap.size := by have := hb2.size; simp at this; omega
        have B2 := hid (btr (bal B1.out _) hb2)
        have T2 := hid ((T1.out.al _).below hb2)
        go_wp2_with fail
        go_ret
        exact ⟨by rw [hl.out]; rfl, B2.out⟩
    | false =>
      cases hC : IP.hC o with
      | true =>
        have hl := hid (show lineB o a b i = nameB o ++ (⟨#[32]⟩ ++ iB i) from by unfold lineB; simp [hA, hB, hC])
        go_enter Tryd.func70, Tryd.ntmps70
        go_wp2_with fail
        refine (shape_any _ _).mono ?_
        rintro e w1 ⟨rfl, hb⟩
        obtain ⟨hc, hz⟩ := bcell hb
        have z0 : w.heap.size < w1.heap.size := by have := hb.size; simp at this; omega
        have zg : 1 < w1.heap.size := by omega
        have zg0 : 0 < w1.heap.size := by omega
        have B1 := hid (btr (bal (Below.refl _ _) _) hb)
        have T1 := hid (HT.out.below B1.out)
        go_wp2_with fail
        refine (itoaB i _ (by omega) (by omega) (T1.out.al _)).mono ?_
        rintro e w2 ⟨rfl, hb2⟩
        obtain ⟨hc2, hz2⟩ := bcell hb2
        have y0 : w.heap.size < w2.heap.size := by have := hb2.size; simp at this; omega
        have y1 : w1.heap.size < w2.heap.size := by have := hb2.size; simp at this; omega
        have B2 := hid (btr (bal B1.out _) hb2)
        have T2 := hid ((T1.out.al _).below hb2)
        go_wp2_with fail
        go_ret
        exact ⟨by rw [hl.out]; rfl, B2.out⟩
      | false =>
        have hl := hid (show lineB o a b i = nameB o from by unfold lineB; simp [hA, hB, hC])
        go_enter Tryd.func70, Tryd.ntmps70
        go_wp2_with fail
        refine (shape_any _ _).mono ?_
        rintro e w1 ⟨rfl, hb⟩
        obtain ⟨hc, hz⟩ := bcell hb
        have z0 : w.heap.size < w1.heap.size := by have := hb.size; simp at this; omega
        have zg : 1 < w1.heap.size := by omega
        have zg0 : 0 < w1.heap.size := by omega
        have B1 := hid (btr (bal (Below.refl _ _) _) hb)
        have T1 := hid (HT.out.below B1.out)
        go_wp2_with fail
        go_ret
        exact ⟨by rw [hl.out]; rfl, bal B1.out _⟩
end Go.Proofs.YtfpkbfhaipgibaaDoor.Txt
