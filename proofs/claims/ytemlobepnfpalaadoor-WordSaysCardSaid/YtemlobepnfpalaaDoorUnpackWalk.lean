/- The walk of word.Unpack. -/
import Derived.Test.YtemlobepnfpalaaDoorPackWalk
namespace Go.Proofs.YtemlobepnfpalaaDoor
open Go.RowKit

theorem Hid.mk_ {p : Prop} (h : p) : Hid p := h
theorem cells_set {W : World} {B : Nat} {arr : Array Value} (h : ∀ o, W.cell? ⟨B, o, none⟩ = arr[o]?) (i : Nat) (hi : i < arr.size) (v : Value) :
    ∀ o, (W.setCell ⟨B, i, none⟩ v).cell? ⟨B, o, none⟩ = (arr.setIfInBounds i v)[o]? := by
  intro o
  by_cases ho : i = o
  · subst ho
    rw [World.cell?_setCell_same W _ _ ((h i).trans (Array.getElem?_eq_getElem hi))]
    simp [hi]
  · rw [World.cell?_setCell_other W _ _ _ (by intro e; cases e; exact ho rfl), h o]
    simp [ho]
theorem six_set {W : World} {B : Nat} {v0 v1 v2 v3 v4 v5 x0 x1 x2 x3 x4 x5 : Value} (h : ∀ o, W.cell? ⟨B, o, none⟩ = (#[x0, x1, x2, x3, x4, x5] : Array Value)[o]?) :
    ∀ o, ((((((W.setCell ⟨B, 0, none⟩ v0).setCell ⟨B, 1, none⟩ v1).setCell ⟨B, 2, none⟩ v2).setCell ⟨B, 3, none⟩ v3).setCell ⟨B, 4, none⟩ v4).setCell ⟨B, 5, none⟩ v5).cell? ⟨B, o, none⟩ = (#[v0, v1, v2, v3, v4, v5] : Array Value)[o]? :=
  cells_set (cells_set (cells_set (cells_set (cells_set (cells_set h 0 (by simp) v0) 1 (by simp) v1) 2 (by simp) v2) 3 (by simp) v3) 4 (by simp) v4) 5 (by simp) v5
theorem cells_far {W : World} {B C i : Nat} {arr : Array Value} (h : ∀ o, W.cell? ⟨C, o, none⟩ = arr[o]?) (hne : B ≠ C) (v : Value) :
    ∀ o, (W.setCell ⟨B, i, none⟩ v).cell? ⟨C, o, none⟩ = arr[o]? := by
  intro o
  rw [World.cell?_setCell_other W _ _ _ (by intro e; cases e; exact hne rfl), h o]
theorem cells_alloc {W : World} {C : Nat} {arr : Array Value} (h : ∀ o, W.cell? ⟨C, o, none⟩ = arr[o]?) (hlt : C < W.heap.size) (ob : Obj) :
    ∀ o, (W.alloc ob).cell? ⟨C, o, none⟩ = arr[o]? := by
  intro o
  rw [World.cell?_alloc_lt _ _ ⟨C, o, none⟩ hlt, h o]
theorem froz_alloc {W : World} {C : Nat} (h : ∀ o, W.frozen? ⟨C, o, none⟩ = false) (hlt : C < W.heap.size) (ob : Obj) :
    ∀ o, (W.alloc ob).frozen? ⟨C, o, none⟩ = false := by
  intro o
  rw [World.frozen?_alloc_old _ _ ⟨C, o, none⟩ (Nat.ne_of_lt hlt), h o]
theorem set0_any (B : Nat) (v : Int) (w : World) (old : Value) (hc : w.cell? ⟨B, 5, none⟩ = some old) (hf : w.frozen? ⟨B, 5, none⟩ = false) :
    Calls Tryd.prog 62 #[.pointer (some ⟨B, 0, none⟩), .int .i64 v] w
      fun e w' => e = .returned (.tuple #[]) ∧ w' = w.setCell ⟨B, 5, none⟩ (.int .i64 v) := by
  go_enter Tryd.func62, Tryd.ntmps62
  go_wp2
  go_end0
  exact ⟨rfl, rfl⟩
theorem set1_any (B : Nat) (v : Int) (w : World) (old : Value) (hc : w.cell? ⟨B, 4, none⟩ = some old) (hf : w.frozen? ⟨B, 4, none⟩ = false) :
    Calls Tryd.prog 64 #[.pointer (some ⟨B, 0, none⟩), .int .i64 v] w
      fun e w' => e = .returned (.tuple #[]) ∧ w' = w.setCell ⟨B, 4, none⟩ (.int .i64 v) := by
  go_enter Tryd.func64, Tryd.ntmps64
  go_wp2
  go_end0
  exact ⟨rfl, rfl⟩
theorem set2_any (B : Nat) (v : Int) (w : World) (old : Value) (hc : w.cell? ⟨B, 3, none⟩ = some old) (hf : w.frozen? ⟨B, 3, none⟩ = false) :
    Calls Tryd.prog 66 #[.pointer (some ⟨B, 0, none⟩), .int .i64 v] w
      fun e w' => e = .returned (.tuple #[]) ∧ w' = w.setCell ⟨B, 3, none⟩ (.int .i64 v) := by
  go_enter Tryd.func66, Tryd.ntmps66
  go_wp2
  go_end0
  exact ⟨rfl, rfl⟩
theorem set3_any (B : Nat) (v : Int) (w : World) (old : Value) (hc : w.cell? ⟨B, 2, none⟩ = some old) (hf : w.frozen? ⟨B, 2, none⟩ = false) :
    Calls Tryd.prog 68 #[.pointer (some ⟨B, 0, none⟩), .int .i64 v] w
      fun e w' => e = .returned (.tuple #[]) ∧ w' = w.setCell ⟨B, 2, none⟩ (.int .i64 v) := by
  go_enter Tryd.func68, Tryd.ntmps68
  go_wp2
  go_end0
  exact ⟨rfl, rfl⟩
theorem set4_any (B : Nat) (v : Int) (w : World) (old : Value) (hc : w.cell? ⟨B, 1, none⟩ = some old) (hf : w.frozen? ⟨B, 1, none⟩ = false) :
    Calls Tryd.prog 70 #[.pointer (some ⟨B, 0, none⟩), .int .i64 v] w
      fun e w' => e = .returned (.tuple #[]) ∧ w' = w.setCell ⟨B, 1, none⟩ (.int .i64 v) := by
  go_enter Tryd.func70, Tryd.ntmps70
  go_wp2
  go_end0
  exact ⟨rfl, rfl⟩
theorem set5_any (B : Nat) (v : Int) (w : World) (old : Value) (hc : w.cell? ⟨B, 0, none⟩ = some old) (hf : w.frozen? ⟨B, 0, none⟩ = false) :
    Calls Tryd.prog 72 #[.pointer (some ⟨B, 0, none⟩), .int .i64 v] w
      fun e w' => e = .returned (.tuple #[]) ∧ w' = w.setCell ⟨B, 0, none⟩ (.int .i64 v) := by
  go_enter Tryd.func72, Tryd.ntmps72
  go_wp2
  go_end0
  exact ⟨rfl, rfl⟩

def kArr (n : Int) : Nat → Array Value
  | 0 => #[.int .i64 0, .int .i64 0, .int .i64 0, .int .i64 0, .int .i64 0, .int .i64 0]
  | 1 => #[.int .i64 0, .int .i64 0, .int .i64 0, .int .i64 0, .int .i64 0, .int .i64 (n % 65536)]
  | 2 => #[.int .i64 0, .int .i64 0, .int .i64 0, .int .i64 0, .int .i64 (n / 65536 % 8), .int .i64 (n % 65536)]
  | 3 => #[.int .i64 0, .int .i64 0, .int .i64 0, .int .i64 (n / 524288 % 32), .int .i64 (n / 65536 % 8), .int .i64 (n % 65536)]
  | 4 => #[.int .i64 0, .int .i64 0, .int .i64 (n / 16777216 % 32), .int .i64 (n / 524288 % 32), .int .i64 (n / 65536 % 8), .int .i64 (n % 65536)]
  | 5 => #[.int .i64 0, .int .i64 (n / 536870912 % 32), .int .i64 (n / 16777216 % 32), .int .i64 (n / 524288 % 32), .int .i64 (n / 65536 % 8), .int .i64 (n % 65536)]
  | _ => #[.int .i64 (n / 17179869184 % 16), .int .i64 (n / 536870912 % 32), .int .i64 (n / 16777216 % 32), .int .i64 (n / 524288 % 32), .int .i64 (n / 65536 % 8), .int .i64 (n % 65536)]
def restOf (n : Int) : Nat → Int
  | 0 => n
  | 1 => n / 65536
  | 2 => n / 524288
  | 3 => n / 16777216
  | 4 => n / 536870912
  | 5 => n / 17179869184
  | _ => n / 274877906944
def partsArr : Array Value := #[.int .u64 16, .func (.func 61) #[] #[], .func (.func 62) #[] #[], .int .u64 3, .func (.func 63) #[] #[], .func (.func 64) #[] #[], .int .u64 5, .func (.func 65) #[] #[], .func (.func 66) #[] #[], .int .u64 5, .func (.func 67) #[] #[], .func (.func 68) #[] #[], .int .u64 5, .func (.func 69) #[] #[], .func (.func 70) #[] #[], .int .u64 4, .func (.func 71) #[] #[], .func (.func 72) #[] #[]]
def zeroArr : Array Value := #[.int .i64 0, .int .i64 0, .int .i64 0, .int .i64 0, .int .i64 0, .int .i64 0]
theorem and_low (x : Int) (i : Nat) (hi : i ≤ 64) (h0 : 0 ≤ x) (h1 : x < 2 ^ 64) : bits .and .u64 x (2 ^ i - 1) = x % 2 ^ i :=
  bits_mask .u64 64 (by decide) wraps_u64 i hi x h0 h1
def UP (n : Int) (w : World) (j : Nat) (wr : World) : Prop :=
  Below w.heap.size w wr ∧ w.heap.size + 3 ≤ wr.heap.size ∧ (∀ o, wr.cell? ⟨w.heap.size + 1, o, none⟩ = (kArr n j)[o]?) ∧ (∀ o, wr.frozen? ⟨w.heap.size + 1, o, none⟩ = false) ∧ (∀ o, wr.cell? ⟨w.heap.size + 2, o, none⟩ = partsArr[o]?) ∧ (∀ o, wr.cell? ⟨w.heap.size, o, none⟩ = zeroArr[o]?) ∧ (∀ o, wr.frozen? ⟨w.heap.size, o, none⟩ = false)
theorem UP.step {n : Int} {w : World} {j : Nat} {wr : World} (h : UP n w j wr) (ob : Obj) (i : Nat) (v : Value) (hi : i < (kArr n j).size) (e : (kArr n j).setIfInBounds i v = kArr n (j + 1)) :
    UP n w (j + 1) ((wr.setCell ⟨w.heap.size + 1, i, none⟩ v).alloc ob) := by
  obtain ⟨a1, a2, a3, a4, a5, a6, a7⟩ := h
  have hs : (wr.setCell ⟨w.heap.size + 1, i, none⟩ v).heap.size = wr.heap.size := by simp [World.setCell]
  refine ⟨(a1.setCell (by simp) _).alloc (by omega) _, by simp [hs]; omega, ?_, ?_, ?_, ?_, ?_⟩
  · rw [← e]; exact cells_alloc (cells_set a3 i hi v) (by omega) ob
  · exact froz_alloc (fun o => by rw [World.frozen?_setCell]; exact a4 o) (by omega) ob
  · exact cells_alloc (cells_far a5 (by omega) v) (by omega) ob
  · exact cells_alloc (cells_far a6 (by omega) v) (by omega) ob
  · exact froz_alloc (fun o => by rw [World.frozen?_setCell]; exact a7 o) (by omega) ob
theorem wrap_small (x : Int) (h0 : 0 ≤ x) (h1 : x < 65536) : wrap64 x = x := by
  rw [wrap64]; omega
theorem and_16 (x : Int) (h0 : 0 ≤ x) (h1 : x < 2 ^ 64) : wrap64 (bits .and .u64 x 65535) = x % 65536 := by
  have h : bits .and .u64 x 65535 = x % 65536 := and_low x 16 (by decide) h0 h1
  rw [h]; exact wrap_small _ (by omega) (by omega)
theorem and_3 (x : Int) (h0 : 0 ≤ x) (h1 : x < 2 ^ 64) : wrap64 (bits .and .u64 x 7) = x % 8 := by
  have h : bits .and .u64 x 7 = x % 8 := and_low x 3 (by decide) h0 h1
  rw [h]; exact wrap_small _ (by omega) (by omega)
theorem and_5 (x : Int) (h0 : 0 ≤ x) (h1 : x < 2 ^ 64) : wrap64 (bits .and .u64 x 31) = x % 32 := by
  have h : bits .and .u64 x 31 = x % 32 := and_low x 5 (by decide) h0 h1
  rw [h]; exact wrap_small _ (by omega) (by omega)
theorem and_4 (x : Int) (h0 : 0 ≤ x) (h1 : x < 2 ^ 64) : wrap64 (bits .and .u64 x 15) = x % 16 := by
  have h : bits .and .u64 x 15 = x % 16 := and_low x 4 (by decide) h0 h1
  rw [h]; exact wrap_small _ (by omega) (by omega)
def uK (n : Int) : Int := n / 17179869184 % 16
def uB (n : Int) : Int := n / 536870912 % 32
def uL (n : Int) : Int := n / 16777216 % 32
def uM (n : Int) : Int := n / 524288 % 32
def uR (n : Int) : Int := n / 65536 % 8
def uG (n : Int) : Int := n % 65536
theorem up_zero (n : Int) (w : World) : UP n w 0 (((w.alloc (.cells #[.int .i64 0, .int .i64 0, .int .i64 0, .int .i64 0, .int .i64 0, .int .i64 0] 32)).alloc (.cells #[.int .i64 0, .int .i64 0, .int .i64 0, .int .i64 0, .int .i64 0, .int .i64 0] 32)).alloc partsObj) := by
  have hp : partsObj = .cells partsArr 91 := rfl
  refine ⟨(((Below.refl _ _).alloc (Nat.le_refl _) _).alloc (by simp) _).alloc (by simp; omega) _, by simp, ?_, ?_, ?_, ?_, ?_⟩
  · refine cells_alloc (fun o => ?_) (by simp) _
    rw [World.cell?_alloc_at _ _ _ _ (by simp)]; rfl
  · refine froz_alloc (fun o => ?_) (by simp) _
    rw [World.frozen?_alloc_at _ _ _ _ (by simp)]
  · intro o
    rw [hp, World.cell?_alloc_at _ _ _ _ (by simp)]
  · refine cells_alloc (cells_alloc (fun o => ?_) (by simp) _) (by simp; omega) _
    rw [World.cell?_alloc_at _ _ _ _ rfl]; rfl
  · refine froz_alloc (froz_alloc (fun o => ?_) (by simp) _) (by simp; omega) _
    rw [World.frozen?_alloc_at _ _ _ _ rfl]
def unpV (n : Int) : Value :=
  if n < 274877906944 ∧ KP.chk (uK n) (uB n) (uL n) (uM n) (uR n) (uG n) = 0 then .tuple #[.agg #[.int .i64 (uK n), .int .i64 (uB n), .int .i64 (uL n), .int .i64 (uM n), .int .i64 (uR n), .int .i64 (uG n)], .nilIface]
  else .tuple #[.agg #[.int .i64 0, .int .i64 0, .int .i64 0, .int .i64 0, .int .i64 0, .int .i64 0], .iface 22 (.int .i64 1)]
set_option maxHeartbeats 1000000 in
theorem unpack_any (n : Int) (w : World) (h0 : 0 ≤ n) (h1 : n < 2 ^ 64) :
    Calls Tryd.prog 17 #[.int .u64 n] w
      fun e w' => e = .returned (unpV n) ∧ Below w.heap.size w w' := by
  go_enter Tryd.func17, Tryd.ntmps17
  go_wp2_with (go_at_call 36; refine (parts_any _).mono ?_; rintro e w2 ⟨rfl, rfl⟩)
  go_loopw [0, 9] (fun v i wr => ∃ j : Nat, j ≤ 6 ∧ i = .int .i64 j ∧ v = .int .u64 (restOf n j) ∧ UP n w j wr) (fun _ i _ => 6 - (intOf i).toNat)
  case atStart => exact ⟨0, by omega, rfl, rfl, up_zero n w⟩
  case round =>
    obtain ⟨j, hj, rfl, rfl, hu⟩ := hrel
    have HU : Hid (UP n w j wr) := hu
    obtain ⟨a1, a2, a3, a4, a5, a6, a7⟩ := hu
    have s0 : w.heap.size < wr.heap.size := by omega
    have s1 : w.heap.size + 1 < wr.heap.size := by omega
    have s2 : w.heap.size + 2 < wr.heap.size := by omega
    clear a1 a2
    have hcase : j = 0 ∨ j = 1 ∨ j = 2 ∨ j = 3 ∨ j = 4 ∨ j = 5 ∨ j = 6 := by omega
    rcases hcase with rfl | rfl | rfl | rfl | rfl | rfl | rfl
    · have e0 : restOf n 0 = n := rfl
      rw [e0]
      clear e0
      simp only [kArr] at a3
      simp only [partsArr] at a5
      have r0 : 0 ≤ n := by omega
      have r1 : n < 2 ^ 64 := by omega
      have an := and_16 (n) r0 r1
      go_wp2_with (go_at_call 62; refine (set0_any _ _ _ (.int .i64 0) (by rw [cells_alloc a3 (by omega)]; rfl) (froz_alloc a4 (by omega) _ _)).mono ?_; rintro e w3 ⟨rfl, rfl⟩)
      exact ⟨⟨1, by omega, rfl, val_eq (by simp only [restOf]), UP.step HU _ 5 _ (by simp [kArr]) rfl⟩, by simp [intOf]⟩
    · have e0 : restOf n 1 = n / 65536 := rfl
      rw [e0]
      clear e0
      simp only [kArr] at a3
      simp only [partsArr] at a5
      have r0 : 0 ≤ n / 65536 := by omega
      have r1 : n / 65536 < 2 ^ 64 := by omega
      have an := and_3 (n / 65536) r0 r1
      go_wp2_with (go_at_call 64; refine (set1_any _ _ _ (.int .i64 0) (by rw [cells_alloc a3 (by omega)]; rfl) (froz_alloc a4 (by omega) _ _)).mono ?_; rintro e w3 ⟨rfl, rfl⟩)
      exact ⟨⟨2, by omega, rfl, val_eq (by simp only [restOf]; omega), UP.step HU _ 4 _ (by simp [kArr]) rfl⟩, by simp [intOf]⟩
    · have e0 : restOf n 2 = n / 524288 := rfl
      rw [e0]
      clear e0
      simp only [kArr] at a3
      simp only [partsArr] at a5
      have r0 : 0 ≤ n / 524288 := by omega
      have r1 : n / 524288 < 2 ^ 64 := by omega
      have an := and_5 (n / 524288) r0 r1
      go_wp2_with (go_at_call 66; refine (set2_any _ _ _ (.int .i64 0) (by rw [cells_alloc a3 (by omega)]; rfl) (froz_alloc a4 (by omega) _ _)).mono ?_; rintro e w3 ⟨rfl, rfl⟩)
      exact ⟨⟨3, by omega, rfl, val_eq (by simp only [restOf]; omega), UP.step HU _ 3 _ (by simp [kArr]) rfl⟩, by simp [intOf]⟩
    · have e0 : restOf n 3 = n / 16777216 := rfl
      rw [e0]
      clear e0
      simp only [kArr] at a3
      simp only [partsArr] at a5
      have r0 : 0 ≤ n / 16777216 := by omega
      have r1 : n / 16777216 < 2 ^ 64 := by omega
      have an := and_5 (n / 16777216) r0 r1
      go_wp2_with (go_at_call 68; refine (set3_any _ _ _ (.int .i64 0) (by rw [cells_alloc a3 (by omega)]; rfl) (froz_alloc a4 (by omega) _ _)).mono ?_; rintro e w3 ⟨rfl, rfl⟩)
      exact ⟨⟨4, by omega, rfl, val_eq (by simp only [restOf]; omega), UP.step HU _ 2 _ (by simp [kArr]) rfl⟩, by simp [intOf]⟩
    · have e0 : restOf n 4 = n / 536870912 := rfl
      rw [e0]
      clear e0
      simp only [kArr] at a3
      simp only [partsArr] at a5
      have r0 : 0 ≤ n / 536870912 := by omega
      have r1 : n / 536870912 < 2 ^ 64 := by omega
      have an := and_5 (n / 536870912) r0 r1
      go_wp2_with (go_at_call 70; refine (set4_any _ _ _ (.int .i64 0) (by rw [cells_alloc a3 (by omega)]; rfl) (froz_alloc a4 (by omega) _ _)).mono ?_; rintro e w3 ⟨rfl, rfl⟩)
      exact ⟨⟨5, by omega, rfl, val_eq (by simp only [restOf]; omega), UP.step HU _ 1 _ (by simp [kArr]) rfl⟩, by simp [intOf]⟩
    · have e0 : restOf n 5 = n / 17179869184 := rfl
      rw [e0]
      clear e0
      simp only [kArr] at a3
      simp only [partsArr] at a5
      have r0 : 0 ≤ n / 17179869184 := by omega
      have r1 : n / 17179869184 < 2 ^ 64 := by omega
      have an := and_4 (n / 17179869184) r0 r1
      go_wp2_with (go_at_call 72; refine (set5_any _ _ _ (.int .i64 0) (by rw [cells_alloc a3 (by omega)]; rfl) (froz_alloc a4 (by omega) _ _)).mono ?_; rintro e w3 ⟨rfl, rfl⟩)
      exact ⟨⟨6, by omega, rfl, val_eq (by simp only [restOf]; omega), UP.step HU _ 0 _ (by simp [kArr]) rfl⟩, by simp [intOf]⟩
    · have e0 : restOf n 6 = n / 274877906944 := rfl
      rw [e0]
      clear e0
      simp only [kArr] at a3
      simp only [zeroArr] at a6
      clear a5 a4
      have b1 := HU.out.1
      by_cases hn : n < 274877906944
      · have rz : (n / 274877906944 != 0) = false := by simp; omega
        by_cases hk : KP.chk (uK n) (uB n) (uL n) (uM n) (uR n) (uG n) = 0
        · have hv : unpV n = .tuple #[.agg #[.int .i64 (uK n), .int .i64 (uB n), .int .i64 (uL n), .int .i64 (uM n), .int .i64 (uR n), .int .i64 (uG n)], .nilIface] := by unfold unpV; rw [if_pos ⟨hn, hk⟩]
          have HV := Hid.mk_ hv
          have HK := Hid.mk_ hk
          clear hv hk
          go_wp2_with (go_at_call 14; refine (check_ok _ _ _ _ _ _ _ HK).mono ?_; rintro e w3 ⟨rfl, hb3⟩; obtain ⟨hc3, hz3⟩ := bcell hb3)
          have six := six_set (W := w3) (B := w.heap.size) (v0 := .int .i64 (n / 17179869184 % 16)) (v1 := .int .i64 (n / 536870912 % 32)) (v2 := .int .i64 (n / 16777216 % 32)) (v3 := .int .i64 (n / 524288 % 32)) (v4 := .int .i64 (n / 65536 % 8)) (v5 := .int .i64 (n % 65536)) (fun o => (hc3 _ o s0).trans (a6 o))
          refine bodyPost_ret (v := .tuple #[.agg #[.int .i64 (n / 17179869184 % 16), .int .i64 (n / 536870912 % 32), .int .i64 (n / 16777216 % 32), .int .i64 (n / 524288 % 32), .int .i64 (n / 65536 % 8), .int .i64 (n % 65536)], .nilIface]) (by simp [results, Tryd.results17, go_sem, six]) rfl ⟨by rw [HV.out]; rfl, ?_⟩
          exact ((((((b1.trans (hb3.mono (by omega))).setCell (Nat.le_refl _) _).setCell (Nat.le_refl _) _).setCell (Nat.le_refl _) _).setCell (Nat.le_refl _) _).setCell (Nat.le_refl _) _).setCell (Nat.le_refl _) _
        · have hv : unpV n = .tuple #[.agg #[.int .i64 0, .int .i64 0, .int .i64 0, .int .i64 0, .int .i64 0, .int .i64 0], .iface 22 (.int .i64 1)] := by unfold unpV; rw [if_neg (fun h => hk h.2)]
          have HV := Hid.mk_ hv
          have HK : Hid (KP.chk (uK n) (uB n) (uL n) (uM n) (uR n) (uG n) ≠ 0) := hk
          clear hv hk
          go_wp2_with (go_at_call 14; refine (check_no _ _ _ _ _ _ _ HK).mono ?_; rintro e w3 ⟨rfl, hb3⟩; obtain ⟨hc3, hz3⟩ := bcell hb3)
          have six := six_set (W := w3) (B := w.heap.size) (v0 := .int .i64 0) (v1 := .int .i64 0) (v2 := .int .i64 0) (v3 := .int .i64 0) (v4 := .int .i64 0) (v5 := .int .i64 0) (fun o => (hc3 _ o s0).trans (a6 o))
          refine bodyPost_ret (v := .tuple #[.agg #[.int .i64 0, .int .i64 0, .int .i64 0, .int .i64 0, .int .i64 0, .int .i64 0], .iface 22 (.int .i64 1)]) (by simp [results, Tryd.results17, go_sem, six]) rfl ⟨by rw [HV.out], ?_⟩
          exact ((((((b1.trans (hb3.mono (by omega))).setCell (Nat.le_refl _) _).setCell (Nat.le_refl _) _).setCell (Nat.le_refl _) _).setCell (Nat.le_refl _) _).setCell (Nat.le_refl _) _).setCell (Nat.le_refl _) _
      · have rz : (n / 274877906944 != 0) = true := by simp; omega
        have hv : unpV n = .tuple #[.agg #[.int .i64 0, .int .i64 0, .int .i64 0, .int .i64 0, .int .i64 0, .int .i64 0], .iface 22 (.int .i64 1)] := by unfold unpV; rw [if_neg (fun h => hn h.1)]
        have HV := Hid.mk_ hv
        clear hv hn
        go_wp2_with fail
        have six := six_set (W := wr) (B := w.heap.size) (v0 := .int .i64 0) (v1 := .int .i64 0) (v2 := .int .i64 0) (v3 := .int .i64 0) (v4 := .int .i64 0) (v5 := .int .i64 0) a6
        refine bodyPost_ret (v := .tuple #[.agg #[.int .i64 0, .int .i64 0, .int .i64 0, .int .i64 0, .int .i64 0, .int .i64 0], .iface 22 (.int .i64 1)]) (by simp [results, Tryd.results17, go_sem, six]) rfl ⟨by rw [HV.out], ?_⟩
        exact (((((b1.setCell (Nat.le_refl _) _).setCell (Nat.le_refl _) _).setCell (Nat.le_refl _) _).setCell (Nat.le_refl _) _).setCell (Nat.le_refl _) _).setCell (Nat.le_refl _) _
end Go.Proofs.YtemlobepnfpalaaDoor
