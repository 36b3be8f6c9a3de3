/- The walks of word.parts and word.Pack. -/
import Derived.Test.YtemlobepnfpalaaDoorKeyWalk
import Derived.Laws.EntriesVeiled
import Derived.Laws.BitsLemmas
import Derived.Laws.Bits64
namespace Go.Proofs.YtemlobepnfpalaaDoor
open Go.RowKit

def partsObj : Obj := .cells #[.int .u64 16, .func (.func 61) #[] #[], .func (.func 62) #[] #[], .int .u64 3, .func (.func 63) #[] #[], .func (.func 64) #[] #[], .int .u64 5, .func (.func 65) #[] #[], .func (.func 66) #[] #[], .int .u64 5, .func (.func 67) #[] #[], .func (.func 68) #[] #[], .int .u64 5, .func (.func 69) #[] #[], .func (.func 70) #[] #[], .int .u64 4, .func (.func 71) #[] #[], .func (.func 72) #[] #[]] 91
set_option maxHeartbeats 400000 in
theorem parts_any (w : World) :
    Calls Tryd.prog 36 #[] w
      fun e w' => e = .returned (.slice (some ⟨w.heap.size, 0, none⟩) 6 6) ∧ w' = w.alloc partsObj := by
  go_enter Tryd.func36, Tryd.ntmps36
  go_wp2
  go_ret
  exact ⟨rfl, rfl⟩
theorem get0_any (k b l m r g : Int) (w : World) :
    Calls Tryd.prog 61 #[.agg #[.int .i64 k, .int .i64 b, .int .i64 l, .int .i64 m, .int .i64 r, .int .i64 g]] w
      fun e w' => e = .returned (.int .i64 g) ∧ Below w.heap.size w w' := by
  go_enter Tryd.func61, Tryd.ntmps61
  go_wp2
  go_ret
  exact ⟨rfl, (Below.refl _ _).alloc (Nat.le_refl _) _⟩
theorem get1_any (k b l m r g : Int) (w : World) :
    Calls Tryd.prog 63 #[.agg #[.int .i64 k, .int .i64 b, .int .i64 l, .int .i64 m, .int .i64 r, .int .i64 g]] w
      fun e w' => e = .returned (.int .i64 r) ∧ Below w.heap.size w w' := by
  go_enter Tryd.func63, Tryd.ntmps63
  go_wp2
  go_ret
  exact ⟨rfl, (Below.refl _ _).alloc (Nat.le_refl _) _⟩
theorem get2_any (k b l m r g : Int) (w : World) :
    Calls Tryd.prog 65 #[.agg #[.int .i64 k, .int .i64 b, .int .i64 l, .int .i64 m, .int .i64 r, .int .i64 g]] w
      fun e w' => e = .returned (.int .i64 m) ∧ Below w.heap.size w w' := by
  go_enter Tryd.func65, Tryd.ntmps65
  go_wp2
  go_ret
  exact ⟨rfl, (Below.refl _ _).alloc (Nat.le_refl _) _⟩
theorem get3_any (k b l m r g : Int) (w : World) :
    Calls Tryd.prog 67 #[.agg #[.int .i64 k, .int .i64 b, .int .i64 l, .int .i64 m, .int .i64 r, .int .i64 g]] w
      fun e w' => e = .returned (.int .i64 l) ∧ Below w.heap.size w w' := by
  go_enter Tryd.func67, Tryd.ntmps67
  go_wp2
  go_ret
  exact ⟨rfl, (Below.refl _ _).alloc (Nat.le_refl _) _⟩
theorem get4_any (k b l m r g : Int) (w : World) :
    Calls Tryd.prog 69 #[.agg #[.int .i64 k, .int .i64 b, .int .i64 l, .int .i64 m, .int .i64 r, .int .i64 g]] w
      fun e w' => e = .returned (.int .i64 b) ∧ Below w.heap.size w w' := by
  go_enter Tryd.func69, Tryd.ntmps69
  go_wp2
  go_ret
  exact ⟨rfl, (Below.refl _ _).alloc (Nat.le_refl _) _⟩
theorem get5_any (k b l m r g : Int) (w : World) :
    Calls Tryd.prog 71 #[.agg #[.int .i64 k, .int .i64 b, .int .i64 l, .int .i64 m, .int .i64 r, .int .i64 g]] w
      fun e w' => e = .returned (.int .i64 k) ∧ Below w.heap.size w w' := by
  go_enter Tryd.func71, Tryd.ntmps71
  go_wp2
  go_ret
  exact ⟨rfl, (Below.refl _ _).alloc (Nat.le_refl _) _⟩

theorem wraps_u64 (n : Int) (h₀ : 0 ≤ n) (h₁ : n < 2 ^ 64) : IntKind.u64.wrap n = n := by rw [IntKind.wrap_u64]; omega
theorem or_low (a y : Int) (i : Nat) (ha : 0 ≤ a) (ha1 : a < 2 ^ i) (ha2 : a < 2 ^ 64) (hy : 0 ≤ y) (hy0 : y % 2 ^ i = 0) (hy1 : y < 2 ^ 64) : bits .or .u64 a y = a + y := by
  rw [show bits .or .u64 a y = bits .or .u64 y a from by simp only [bits, BitVec.or_comm], bits_join .u64 64 (by decide) wraps_u64 i y a hy hy0 hy1 ha ha1 ha2, Int.add_comm]
theorem val_eq {k : IntKind} {a b : Int} (h : a = b) : Value.int k a = Value.int k b := by rw [h]
/-- The lowest n parts of a key, as a number. -/
def accOf (k b l m r g : Int) : Nat → Int
  | 0 => 0
  | 1 => g
  | 2 => g + 65536 * r
  | 3 => g + 65536 * r + 524288 * m
  | 4 => g + 65536 * r + 524288 * m + 16777216 * l
  | 5 => g + 65536 * r + 524288 * m + 16777216 * l + 536870912 * b
  | _ => KP.num k b l m r g
def atOf : Nat → Int
  | 0 => 0
  | 1 => 16
  | 2 => 19
  | 3 => 24
  | 4 => 29
  | 5 => 34
  | _ => 38
theorem partsCell (w w1 : World) (hb : Below (w.heap.size + 1) (w.alloc partsObj) w1) (j : Nat) :
    w1.cell? ⟨w.heap.size, j, none⟩ = (#[.int .u64 16, .func (.func 61) #[] #[], .func (.func 62) #[] #[], .int .u64 3, .func (.func 63) #[] #[], .func (.func 64) #[] #[], .int .u64 5, .func (.func 65) #[] #[], .func (.func 66) #[] #[], .int .u64 5, .func (.func 67) #[] #[], .func (.func 68) #[] #[], .int .u64 5, .func (.func 69) #[] #[], .func (.func 70) #[] #[], .int .u64 4, .func (.func 71) #[] #[], .func (.func 72) #[] #[]] : Array Value)[j]? := by
  rw [hb.cell (p := ⟨w.heap.size, j, none⟩) (by simp)]
  have : partsObj = .cells #[.int .u64 16, .func (.func 61) #[] #[], .func (.func 62) #[] #[], .int .u64 3, .func (.func 63) #[] #[], .func (.func 64) #[] #[], .int .u64 5, .func (.func 65) #[] #[], .func (.func 66) #[] #[], .int .u64 5, .func (.func 67) #[] #[], .func (.func 68) #[] #[], .int .u64 5, .func (.func 69) #[] #[], .func (.func 70) #[] #[], .int .u64 4, .func (.func 71) #[] #[], .func (.func 72) #[] #[]] 91 := rfl
  rw [this, World.cell?_alloc_at _ _ _ _ rfl]
theorem check_ok (k b l m r g : Int) (w : World) (hk : Hid (KP.chk k b l m r g = 0)) :
    Calls Tryd.prog 14 #[.agg #[.int .i64 k, .int .i64 b, .int .i64 l, .int .i64 m, .int .i64 r, .int .i64 g]] w
      fun e w' => e = .returned .nilIface ∧ Below w.heap.size w w' := by
  have h := check_any k b l m r g w
  rw [hk.out, errV_zero] at h
  exact h
theorem check_no (k b l m r g : Int) (w : World) (hk : Hid (KP.chk k b l m r g ≠ 0)) :
    Calls Tryd.prog 14 #[.agg #[.int .i64 k, .int .i64 b, .int .i64 l, .int .i64 m, .int .i64 r, .int .i64 g]] w
      fun e w' => e = .returned (.iface 22 (.int .i64 (KP.chk k b l m r g))) ∧ Below w.heap.size w w' := by
  have h := check_any k b l m r g w
  have e : errV (KP.chk k b l m r g) = .iface 22 (.int .i64 (KP.chk k b l m r g)) := by unfold errV; rw [if_neg hk.out]
  rw [e] at h
  exact h
set_option maxHeartbeats 1000000 in
theorem pack_ok (k b l m r g : Int) (w : World) (hk : KP.chk k b l m r g = 0) :
    Calls Tryd.prog 12 #[.agg #[.int .i64 k, .int .i64 b, .int .i64 l, .int .i64 m, .int .i64 r, .int .i64 g]] w
      fun e w' => e = .returned (.tuple #[.int .u64 (KP.num k b l m r g), .nilIface]) ∧ Below w.heap.size w w' := by
  have bd := KP.chk_zero hk
  obtain ⟨bk0, bk1, bb0, bb1, bl0, bl1, bm0, bm1, br0, br1, bg0, bg1⟩ := bd
  have HC : Hid (KP.chk k b l m r g = 0) := hk
  clear hk
  go_enter Tryd.func12, Tryd.ntmps12
  go_wp2_with (first | (go_at_call 14; refine (check_ok _ _ _ _ _ _ _ HC).mono ?_; rintro e w1 ⟨rfl, hb⟩; obtain ⟨hc, hz⟩ := bcell hb) | (go_at_call 36; refine (parts_any _).mono ?_; rintro e w2 ⟨rfl, rfl⟩))
  have hcK : ∀ o, w1.cell? ⟨w.heap.size, o, none⟩ = (#[.int .i64 k, .int .i64 b, .int .i64 l, .int .i64 m, .int .i64 r, .int .i64 g] : Array Value)[o]? := by
    intro o; rw [hc _ _ (by simp), World.cell?_alloc_at _ _ _ _ rfl]
  have hs1 : w.heap.size < w1.heap.size := by have := hb.size; simp at this; omega
  clear hc hz
  have HB : Hid (Below w.heap.size w w1) := ((Below.refl _ _).alloc (Nat.le_refl _) _).trans (hb.mono (by simp))
  clear hb
  go_loopw [5, 6, 16] (fun acc at_ i wr => ∃ n : Nat, n ≤ 6 ∧ i = .int .i64 n ∧ at_ = .int .u64 (atOf n) ∧ acc = .int .u64 (accOf k b l m r g n) ∧ Below (w1.heap.size + 1) (w1.alloc partsObj) wr) (fun _ _ i _ => 6 - (intOf i).toNat)
  case atStart => exact ⟨0, by omega, rfl, rfl, rfl, Below.refl _ _⟩
  case round =>
    obtain ⟨n, hn, rfl, rfl, rfl, hbr⟩ := hrel
    have hcP := partsCell w1 wr hbr
    have hcR : ∀ o, wr.cell? ⟨w.heap.size, o, none⟩ = (#[.int .i64 k, .int .i64 b, .int .i64 l, .int .i64 m, .int .i64 r, .int .i64 g] : Array Value)[o]? := by
      intro o; rw [hbr.cell (p := ⟨w.heap.size, o, none⟩) (by simp; omega), World.cell?_alloc_lt _ _ ⟨w.heap.size, o, none⟩ (by simp; omega), hcK]
    have hs2 : w1.heap.size < wr.heap.size := by have := hbr.size; simp at this; omega
    have hs3 : w.heap.size < wr.heap.size := by omega
    have HBR : Hid (Below (w1.heap.size + 1) (w1.alloc partsObj) wr) := hbr
    clear hbr hcK
    have hcase : n = 0 ∨ n = 1 ∨ n = 2 ∨ n = 3 ∨ n = 4 ∨ n = 5 ∨ n = 6 := by omega
    rcases hcase with rfl | rfl | rfl | rfl | rfl | rfl | rfl
    · have e1 : accOf k b l m r g 0 = 0 := rfl
      have e2 : atOf 0 = 0 := rfl
      rw [e1, e2]
      clear e1 e2
      go_wp2_with (go_at_call 61; refine (get0_any _ _ _ _ _ _ _).mono ?_; rintro e w3 ⟨rfl, hb3⟩; obtain ⟨hc3, hz3⟩ := bcell hb3)
      refine ⟨⟨1, by omega, rfl, rfl, val_eq ?_, ?_⟩, by simp [intOf]⟩
      · rw [or_low _ _ 0 (by omega) (by omega) (by omega) (by omega) (by omega) (by omega)]; simp only [accOf]; omega
      · exact (HBR.out.alloc (by omega) _).trans (hb3.mono (by simp; omega))
    · have e1 : accOf k b l m r g 1 = g := rfl
      have e2 : atOf 1 = 16 := rfl
      rw [e1, e2]
      clear e1 e2
      go_wp2_with (go_at_call 63; refine (get1_any _ _ _ _ _ _ _).mono ?_; rintro e w3 ⟨rfl, hb3⟩; obtain ⟨hc3, hz3⟩ := bcell hb3)
      refine ⟨⟨2, by omega, rfl, rfl, val_eq ?_, ?_⟩, by simp [intOf]⟩
      · rw [or_low _ _ 16 (by omega) (by omega) (by omega) (by omega) (by omega) (by omega)]; simp only [accOf]; omega
      · exact (HBR.out.alloc (by omega) _).trans (hb3.mono (by simp; omega))
    · have e1 : accOf k b l m r g 2 = g + 65536 * r := rfl
      have e2 : atOf 2 = 19 := rfl
      rw [e1, e2]
      clear e1 e2
      go_wp2_with (go_at_call 65; refine (get2_any _ _ _ _ _ _ _).mono ?_; rintro e w3 ⟨rfl, hb3⟩; obtain ⟨hc3, hz3⟩ := bcell hb3)
      refine ⟨⟨3, by omega, rfl, rfl, val_eq ?_, ?_⟩, by simp [intOf]⟩
      · rw [or_low _ _ 19 (by omega) (by omega) (by omega) (by omega) (by omega) (by omega)]; simp only [accOf]; omega
      · exact (HBR.out.alloc (by omega) _).trans (hb3.mono (by simp; omega))
    · have e1 : accOf k b l m r g 3 = g + 65536 * r + 524288 * m := rfl
      have e2 : atOf 3 = 24 := rfl
      rw [e1, e2]
      clear e1 e2
      go_wp2_with (go_at_call 67; refine (get3_any _ _ _ _ _ _ _).mono ?_; rintro e w3 ⟨rfl, hb3⟩; obtain ⟨hc3, hz3⟩ := bcell hb3)
      refine ⟨⟨4, by omega, rfl, rfl, val_eq ?_, ?_⟩, by simp [intOf]⟩
      · rw [or_low _ _ 24 (by omega) (by omega) (by omega) (by omega) (by omega) (by omega)]; simp only [accOf]; omega
      · exact (HBR.out.alloc (by omega) _).trans (hb3.mono (by simp; omega))
    · have e1 : accOf k b l m r g 4 = g + 65536 * r + 524288 * m + 16777216 * l := rfl
      have e2 : atOf 4 = 29 := rfl
      rw [e1, e2]
      clear e1 e2
      go_wp2_with (go_at_call 69; refine (get4_any _ _ _ _ _ _ _).mono ?_; rintro e w3 ⟨rfl, hb3⟩; obtain ⟨hc3, hz3⟩ := bcell hb3)
      refine ⟨⟨5, by omega, rfl, rfl, val_eq ?_, ?_⟩, by simp [intOf]⟩
      · rw [or_low _ _ 29 (by omega) (by omega) (by omega) (by omega) (by omega) (by omega)]; simp only [accOf]; omega
      · exact (HBR.out.alloc (by omega) _).trans (hb3.mono (by simp; omega))
    · have e1 : accOf k b l m r g 5 = g + 65536 * r + 524288 * m + 16777216 * l + 536870912 * b := rfl
      have e2 : atOf 5 = 34 := rfl
      rw [e1, e2]
      clear e1 e2
      go_wp2_with (go_at_call 71; refine (get5_any _ _ _ _ _ _ _).mono ?_; rintro e w3 ⟨rfl, hb3⟩; obtain ⟨hc3, hz3⟩ := bcell hb3)
      refine ⟨⟨6, by omega, rfl, rfl, val_eq ?_, ?_⟩, by simp [intOf]⟩
      · rw [or_low _ _ 34 (by omega) (by omega) (by omega) (by omega) (by omega) (by omega)]; simp only [accOf, KP.num]; omega
      · exact (HBR.out.alloc (by omega) _).trans (hb3.mono (by simp; omega))
    · go_wp2
      go_ret2
      exact ⟨rfl, HB.out.trans (((Below.refl _ _).alloc (by omega) _).trans (HBR.out.mono (by omega)))⟩
set_option maxHeartbeats 400000 in
theorem pack_err (k b l m r g : Int) (w : World) (hk : KP.chk k b l m r g ≠ 0) :
    Calls Tryd.prog 12 #[.agg #[.int .i64 k, .int .i64 b, .int .i64 l, .int .i64 m, .int .i64 r, .int .i64 g]] w
      fun e w' => e = .returned (.tuple #[.int .u64 0, .iface 22 (.int .i64 (KP.chk k b l m r g))]) ∧ Below w.heap.size w w' := by
  have HK : Hid (KP.chk k b l m r g ≠ 0) := hk
  clear hk
  go_enter Tryd.func12, Tryd.ntmps12
  go_wp2_with (go_at_call 14; refine (check_no _ _ _ _ _ _ _ HK).mono ?_; rintro e w1 ⟨rfl, hb⟩)
  go_ret2
  exact ⟨rfl, ((Below.refl _ _).alloc (Nat.le_refl _) _).trans (hb.mono (by simp))⟩
end Go.Proofs.YtemlobepnfpalaaDoor
