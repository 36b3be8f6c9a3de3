/- The walks of word.parts and word.Pack. -/
import Derived.Test.YtemlobepnfpalagKeyWalk
import Derived.Laws.EntriesVeiled
import Derived.Laws.BitsLemmas
import Derived.Laws.Bits64
namespace Go.Proofs.Ytemlobepnfpalag
open Go.RowKit

def partsObj : Obj := .cells #[.int .u64 16, .func (.func 10) #[] #[], .func (.func 11) #[] #[], .int .u64 3, .func (.func 12) #[] #[], .func (.func 13) #[] #[], .int .u64 5, .func (.func 14) #[] #[], .func (.func 15) #[] #[], .int .u64 5, .func (.func 16) #[] #[], .func (.func 17) #[] #[], .int .u64 5, .func (.func 18) #[] #[], .func (.func 19) #[] #[], .int .u64 4, .func (.func 20) #[] #[], .func (.func 21) #[] #[]] 39
set_option maxHeartbeats 400000 in
theorem parts_any (w : World) :
    Calls Try.prog 7 #[] w
      fun e w' => e = .returned (.slice (some ⟨w.heap.size, 0, none⟩) 6 6) ∧ w' = w.alloc partsObj := by
  go_enter Try.func7, Try.ntmps7
  go_wp2
  go_ret
  exact ⟨rfl, rfl⟩
theorem get0_any (k b l m r g : Int) (w : World) :
    Calls Try.prog 10 #[.agg #[.int .i64 k, .int .i64 b, .int .i64 l, .int .i64 m, .int .i64 r, .int .i64 g]] w
      fun e w' => e = .returned (.int .i64 g) ∧ Below w.heap.size w w' := by
  go_enter Try.func10, Try.ntmps10
  go_wp2
  go_ret
  exact ⟨rfl, (Below.refl _ _).alloc (Nat.le_refl _) _⟩
theorem get1_any (k b l m r g : Int) (w : World) :
    Calls Try.prog 12 #[.agg #[.int .i64 k, .int .i64 b, .int .i64 l, .int .i64 m, .int .i64 r, .int .i64 g]] w
      fun e w' => e = .returned (.int .i64 r) ∧ Below w.heap.size w w' := by
  go_enter Try.func12, Try.ntmps12
  go_wp2
  go_ret
  exact ⟨rfl, (Below.refl _ _).alloc (Nat.le_refl _) _⟩
theorem get2_any (k b l m r g : Int) (w : World) :
    Calls Try.prog 14 #[.agg #[.int .i64 k, .int .i64 b, .int .i64 l, .int .i64 m, .int .i64 r, .int .i64 g]] w
      fun e w' => e = .returned (.int .i64 m) ∧ Below w.heap.size w w' := by
  go_enter Try.func14, Try.ntmps14
  go_wp2
  go_ret
  exact ⟨rfl, (Below.refl _ _).alloc (Nat.le_refl _) _⟩
theorem get3_any (k b l m r g : Int) (w : World) :
    Calls Try.prog 16 #[.agg #[.int .i64 k, .int .i64 b, .int .i64 l, .int .i64 m, .int .i64 r, .int .i64 g]] w
      fun e w' => e = .returned (.int .i64 l) ∧ Below w.heap.size w w' := by
  go_enter Try.func16, Try.ntmps16
  go_wp2
  go_ret
  exact ⟨rfl, (Below.refl _ _).alloc (Nat.le_refl _) _⟩
theorem get4_any (k b l m r g : Int) (w : World) :
    Calls Try.prog 18 #[.agg #[.int .i64 k, .int .i64 b, .int .i64 l, .int .i64 m, .int .i64 r, .int .i64 g]] w
      fun e w' => e = .returned (.int .i64 b) ∧ Below w.heap.size w w' := by
  go_enter Try.func18, Try.ntmps18
  go_wp2
  go_ret
  exact ⟨rfl, (Below.refl _ _).alloc (Nat.le_refl _) _⟩
theorem get5_any (k b l m r g : Int) (w : World) :
    Calls Try.prog 20 #[.agg #[.int .i64 k, .int .i64 b, .int .i64 l, .int .i64 m, .int .i64 r, .int .i64 g]] w
      fun e w' => e = .returned (.int .i64 k) ∧ Below w.heap.size w w' := by
  go_enter Try.func20, Try.ntmps20
  go_wp2
  go_ret
  exact ⟨rfl, (Below.refl _ _).alloc (Nat.le_refl _) _⟩

theorem wraps_u64 (n : Int) (h₀ : 0 ≤ n) (h₁ : n < 2 ^ 64) : IntKind.u64.wrap n = n := by rw [IntKind.wrap_u64]; omega
theorem or_low (a y : Int) (i : Nat) (ha : 0 ≤ a) (ha1 : a < 2 ^ i) (ha2 : a < 2 ^ 64) (hy : 0 ≤ y) (hy0 : y % 2 ^ i = 0) (hy1 : y < 2 ^ 64) : bits .or .u64 a y = a + y := by
  rw [show bits .or .u64 a y = bits .or .u64 y a from by simp only [bits, BitVec.or_comm], bits_join .u64 64 (by decide) wraps_u64 i y a hy hy0 hy1 ha ha1 ha2, Int.add_comm]
theorem val_eq {k : IntKind} {a b : Int} (h : a = b) : Value.int k a = Value.int k b := by rw [h]
/-- The lowest n parts of a key, as a number. -/
def accOf (k b l m r g : Int) : Nat → Int
  | 0 => 0
  | 1 => g
  | 2 => g + 65536 * r
  | 3 => g + 65536 * r + 524288 * m
  | 4 => g + 65536 * r + 524288 * m + 16777216 * l
  | 5 => g + 65536 * r + 524288 * m + 16777216 * l + 536870912 * b
  | _ => KP.num k b l m r g
def atOf : Nat → Int
  | 0 => 0
  | 1 => 16
  | 2 => 19
  | 3 => 24
  | 4 => 29
  | 5 => 34
  | _ => 38
theorem partsCell (w w1 : World) (hb : Below (w.heap.size + 1) (w.alloc partsObj) w1) (j : Nat) :
    w1.cell? ⟨w.heap.size, j, none⟩ = (#[.int .u64 16, .func (.func 10) #[] #[], .func (.func 11) #[] #[], .int .u64 3, .func (.func 12) #[] #[], .func (.func 13) #[] #[], .int .u64 5, .func (.func 14) #[] #[], .func (.func 15) #[] #[], .int .u64 5, .func (.func 16) #[] #[], .func (.func 17) #[] #[], .int .u64 5, .func (.func 18) #[] #[], .func (.func 19) #[] #[], .int .u64 4, .func (.func 20) #[] #[], .func (.func 21) #[] #[]] : Array Value)[j]? := by
  rw [hb.cell (p := ⟨w.heap.size, j, none⟩) (by simp)]
  have : partsObj = .cells #[.int .u64 16, .func (.func 10) #[] #[], .func (.func 11) #[] #[], .int .u64 3, .func (.func 12) #[] #[], .func (.func 13) #[] #[], .int .u64 5, .func (.func 14) #[] #[], .func (.func 15) #[] #[], .int .u64 5, .func (.func 16) #[] #[], .func (.func 17) #[] #[], .int .u64 5, .func (.func 18) #[] #[], .func (.func 19) #[] #[], .int .u64 4, .func (.func 20) #[] #[], .func (.func 21) #[] #[]] 39 := rfl
  rw [this, World.cell?_alloc_at _ _ _ _ rfl]
theorem check_ok (k b l m r g : Int) (w : World) (hk : Hid (KP.chk k b l m r g = 0)) :
    Calls Try.prog 6 #[.agg #[.int .i64 k, .int .i64 b, .int .i64 l, .int .i64 m, .int .i64 r, .int .i64 g]] w
      fun e w' => e = .returned .nilIface ∧ Below w.heap.size w w' := by
  have h := check_any k b l m r g w
  rw [hk.out, errV_zero] at h
  exact h
theorem check_no (k b l m r g : Int) (w : World) (hk : Hid (KP.chk k b l m r g ≠ 0)) :
    Calls Try.prog 6 #[.agg #[.int .i64 k, .int .i64 b, .int .i64 l, .int .i64 m, .int .i64 r, .int .i64 g]] w
      fun e w' => e = .returned (.iface 41 (.int .i64 (KP.chk k b l m r g))) ∧ Below w.heap.size w w' := by
  have h := check_any k b l m r g w
  have e : errV (KP.chk k b l m r g) = .iface 41 (.int .i64 (KP.chk k b l m r g)) := by unfold errV; rw [if_neg hk.out]
  rw [e] at h
  exact h
set_option maxHeartbeats 1000000 in
theorem pack_ok (k b l m r g : Int) (w : World) (hk : KP.chk k b l m r g = 0) :
    Calls Try.prog 4 #[.agg #[.int .i64 k, .int .i64 b, .int .i64 l, .int .i64 m, .int .i64 r, .int .i64 g]] w
      fun e w' => e = .returned (.tuple #[.int .u64 (KP.num k b l m r g), .nilIface]) ∧ Below w.heap.size w w' := by
  have bd := KP.chk_zero hk
  obtain ⟨bk0, bk1, bb0, bb1, bl0, bl1, bm0, bm1, br0, br1, bg0, bg1⟩ := bd
  have HC : Hid (KP.chk k b l m r g = 0) := hk
  clear hk
  go_enter Try.func4, Try.ntmps4
  go_wp2_with (first | (go_at_call 6; refine (check_ok _ _ _ _ _ _ _ HC).mono ?_; rintro e w1 ⟨rfl, hb⟩; obtain ⟨hc, hz⟩ := bcell hb) | (go_at_call 7; refine (parts_any _).mono ?_; rintro e w2 ⟨rfl, rfl⟩))
  have hcK : ∀ o, w1.cell? ⟨w.heap.size, o, none⟩ = (#[.int .i64 k, .int .i64 b, .int .i64 l, .int .i64 m, .int .i64 r, .int .i64 g] : Array Value)[o]? := by
    intro o; rw [hc _ _ (by simp), World.cell?_alloc_at _ _ _ _ rfl]
  have hs1 : w.heap.size < w1.heap.size := by have := hb.size; simp at this; omega
  clear hc hz
  have HB : Hid (Below w.heap.size w w1) := ((Below.refl _ _).alloc (Nat.le_refl _) _).trans (hb.mono (by simp))
  clear hb
  go_loopw [5, 6, 16] (fun acc at_ i wr => ∃ n : Nat, n ≤ 6 ∧ i = .int .i64 n ∧ at_ = .int .u64 (atOf n) ∧ acc = .int .u64 (accOf k b l m r g n) ∧ Below (w1.heap.size + 1) (w1.alloc partsObj) wr) (fun _ _ i _ => 6 - (intOf i).toNat)
  case atStart => exact ⟨0, by omega, rfl, rfl, rfl, Below.refl _ _⟩
  case round =>
    obtain ⟨n, hn, rfl, rfl, rfl, hbr⟩ := hrel
    have hcP := partsCell w1 wr hbr
    have hcR : ∀ o, wr.cell? ⟨w.heap.size, o, none⟩ = (#[.int .i64 k, .int .i64 b, .int .i64 l, .int .i64 m, .int .i64 r, .int .i64 g] : Array Value)[o]? := by
      intro o; rw [hbr.cell (p := ⟨w.heap.size, o, none⟩) (by simp; omega), World.cell?_alloc_lt _ _ ⟨w.heap.size, o, none⟩ (by simp; omega), hcK]
    have hs2 : w1.heap.size < wr.heap.size := by have := hbr.size; simp at this; omega
    have hs3 : w.heap.size < wr.heap.size := by omega
    have HBR : Hid (Below (w1.heap.size + 1) (w1.alloc partsObj) wr) := hbr
    clear hbr hcK
    have hcase : n = 0 ∨ n = 1 ∨ n = 2 ∨ n = 3 ∨ n = 4 ∨ n = 5 ∨ n = 6 := by omega
    rcases hcase with rfl | rfl | rfl | rfl | rfl | rfl | rfl
    · have e1 : accOf k b l m r g 0 = 0 := rfl
      have e2 : atOf 0 = 0 := rfl
      rw [e1, e2]
      clear e1 e2
      go_wp2_with (go_at_call 10; refine (get0_any _ _ _ _ _ _ _).mono ?_; rintro e w3 ⟨rfl, hb3⟩; obtain ⟨hc3, hz3⟩ := bcell hb3)
      refine ⟨⟨1, by omega, rfl, rfl, val_eq ?_, ?_⟩, by simp [intOf]⟩
      · rw [or_low _ _ 0 (by omega) (by omega) (by omega) (by omega) (by omega) (by omega)]; simp only [accOf]; omega
      · exact (HBR.out.alloc (by omega) _).trans (hb3.mono (by simp; omega))
    · have e1 : accOf k b l m r g 1 = g := rfl
      have e2 : atOf 1 = 16 := rfl
      rw [e1, e2]
      clear e1 e2
      go_wp2_with (go_at_call 12; refine (get1_any _ _ _ _ _ _ _).mono ?_; rintro e w3 ⟨rfl, hb3⟩; obtain ⟨hc3, hz3⟩ := bcell hb3)
      refine ⟨⟨2, by omega, rfl, rfl, val_eq ?_, ?_⟩, by simp [intOf]⟩
      · rw [or_low _ _ 16 (by omega) (by omega) (by omega) (by omega) (by omega) (by omega)]; simp only [accOf]; omega
      · exact (HBR.out.alloc (by omega) _).trans (hb3.mono (by simp; omega))
    · have e1 : accOf k b l m r g 2 = g + 65536 * r := rfl
      have e2 : atOf 2 = 19 := rfl
      rw [e1, e2]
      clear e1 e2
      go_wp2_with (go_at_call 14; refine (get2_any _ _ _ _ _ _ _).mono ?_; rintro e w3 ⟨rfl, hb3⟩; obtain ⟨hc3, hz3⟩ := bcell hb3)
      refine ⟨⟨3, by omega, rfl, rfl, val_eq ?_, ?_⟩, by simp [intOf]⟩
      · rw [or_low _ _ 19 (by omega) (by omega) (by omega) (by omega) (by omega) (by omega)]; simp only [accOf]; omega
      · exact (HBR.out.alloc (by omega) _).trans (hb3.mono (by simp; omega))
    · have e1 : accOf k b l m r g 3 = g + 65536 * r + 524288 * m := rfl
      have e2 : atOf 3 = 24 := rfl
      rw [e1, e2]
      clear e1 e2
      go_wp2_with (go_at_call 16; refine (get3_any _ _ _ _ _ _ _).mono ?_; rintro e w3 ⟨rfl, hb3⟩; obtain ⟨hc3, hz3⟩ := bcell hb3)
      refine ⟨⟨4, by omega, rfl, rfl, val_eq ?_, ?_⟩, by simp [intOf]⟩
      · rw [or_low _ _ 24 (by omega) (by omega) (by omega) (by omega) (by omega) (by omega)]; simp only [accOf]; omega
      · exact (HBR.out.alloc (by omega) _).trans (hb3.mono (by simp; omega))
    · have e1 : accOf k b l m r g 4 = g + 65536 * r + 524288 * m + 16777216 * l := rfl
      have e2 : atOf 4 = 29 := rfl
      rw [e1, e2]
      clear e1 e2
      go_wp2_with (go_at_call 18; refine (get4_any _ _ _ _ _ _ _).mono ?_; rintro e w3 ⟨rfl, hb3⟩; obtain ⟨hc3, hz3⟩ := bcell hb3)
      refine ⟨⟨5, by omega, rfl, rfl, val_eq ?_, ?_⟩, by simp [intOf]⟩
      · rw [or_low _ _ 29 (by omega) (by omega) (by omega) (by omega) (by omega) (by omega)]; simp only [accOf]; omega
      · exact (HBR.out.alloc (by omega) _).trans (hb3.mono (by simp; omega))
    · have e1 : accOf k b l m r g 5 = g + 65536 * r + 524288 * m + 16777216 * l + 536870912 * b := rfl
      have e2 : atOf 5 = 34 := rfl
      rw [e1, e2]
      clear e1 e2
      go_wp2_with (go_at_call 20; refine (get5_any _ _ _ _ _ _ _).mono ?_; rintro e w3 ⟨rfl, hb3⟩; obtain ⟨hc3, hz3⟩ := bcell hb3)
      refine ⟨⟨6, by omega, rfl, rfl, val_eq ?_, ?_⟩, by simp [intOf]⟩
      · rw [or_low _ _ 34 (by omega) (by omega) (by omega) (by omega) (by omega) (by omega)]; simp only [accOf, KP.num]; omega
      · exact (HBR.out.alloc (by omega) _).trans (hb3.mono (by simp; omega))
    · go_wp2
      go_ret2
      exact ⟨rfl, HB.out.trans (((Below.refl _ _).alloc (by omega) _).trans (HBR.out.mono (by omega)))⟩
set_option maxHeartbeats 400000 in
theorem pack_err (k b l m r g : Int) (w : World) (hk : KP.chk k b l m r g ≠ 0) :
    Calls Try.prog 4 #[.agg #[.int .i64 k, .int .i64 b, .int .i64 l, .int .i64 m, .int .i64 r, .int .i64 g]] w
      fun e w' => e = .returned (.tuple #[.int .u64 0, .iface 41 (.int .i64 (KP.chk k b l m r g))]) ∧ Below w.heap.size w w' := by
  have HK : Hid (KP.chk k b l m r g ≠ 0) := hk
  clear hk
  go_enter Try.func4, Try.ntmps4
  go_wp2_with (go_at_call 6; refine (check_no _ _ _ _ _ _ _ HK).mono ?_; rintro e w1 ⟨rfl, hb⟩)
  go_ret2
  exact ⟨rfl, ((Below.refl _ _).alloc (Nat.le_refl _) _).trans (hb.mono (by simp))⟩
end Go.Proofs.Ytemlobepnfpalag
