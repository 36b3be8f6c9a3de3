/- mmu.Entry, mmu.Walk and the document's answer on walking tables, walked. -/
import Derived.Test.YtoebmjgkfkfhjaaGreatDoorBitsPlain
import Derived.Test.YtoebmjgkfkfhjaaGreatDoorGBase
namespace Go.Proofs.YtoebmjgkfkfhjaaGreatDoor.Mmu
open Go.RowKit Go.Proofs.YtoebmjgkfkfhjaaGreatDoor.Mem Go.Proofs.YtoebmjgkfkfhjaaGreatDoor.Bw Go.Proofs.YtoebmjgkfkfhjaaGreatDoor.Nums
/-- A memory of words. -/
structure RamAt (w : World) (v : Value) (zs : List Int) : Prop where
 row : ∃ q b cap, v = .slice q zs.length cap ∧ (0 < zs.length → q = some ⟨b, 0, none⟩) ∧ IntsAt w b 0 zs
 word : ∀ z ∈ zs, 0 ≤ z ∧ z < 65536
 len : zs.length ≤ 600
theorem RamAt.below {w w' : World} {v : Value} {zs : List Int} (h : RamAt w v zs) (hb : Below w.heap.size w w') : RamAt w' v zs :=
 ⟨by obtain ⟨q, b, cap, h1, h2, h3⟩ := h.row; exact ⟨q, b, cap, h1, h2, h3.below hb⟩, h.word, h.len⟩
/-- Is the address one of a space of that memory? -/
abbrev inb (n s a : Int) : Prop := n % 16 = 0 ∧ n ≤ 384 ∧ 0 ≤ s ∧ s < n / 16 ∧ 0 ≤ a ∧ a < 4096
/-- Which frame an entry tells, if it is one. -/
abbrev isE (x n : Int) : Prop := x / 32768 % 2 = 1 ∧ x % 1024 < n
theorem entry_yes (x n : Int) (w : World) (x0 : 0 ≤ x) (x1 : x < 65536) (h : isE x n) :
  Calls Tryz.prog 147 #[.int .i64 x, .int .i64 n] w fun e w' => e = .returned (.int .i64 (x % 1024)) ∧ w = w' := by
 unfold isE at h
 have g1 : (x / 32768 % 2 == 0) = false := beq_eq_false_iff_ne.2 (by omega)
 have g2 : ¬ (n ≤ x % 1024) := by omega
 clear h
 go_enter Tryz.func147, Tryz.ntmps147
 go_wp2_with fail
 go_ret
 exact ⟨rfl, rfl⟩
theorem entry_no (x n : Int) (w : World) (x0 : 0 ≤ x) (x1 : x < 65536) (h : ¬ isE x n) :
  Calls Tryz.prog 147 #[.int .i64 x, .int .i64 n] w fun e w' => e = .returned (.int .i64 (-1)) ∧ w = w' := by
 unfold isE at h
 by_cases g : x / 32768 % 2 = 0
 ·have g1 : (x / 32768 % 2 == 0) = true := beq_iff_eq.2 g
  clear h g
  go_enter Tryz.func147, Tryz.ntmps147
  go_wp2_with fail
  go_ret
  exact ⟨rfl, rfl⟩
 ·have g1 : (x / 32768 % 2 == 0) = false := beq_eq_false_iff_ne.2 g
  have g2 : n ≤ x % 1024 := by omega
  clear h g
  go_enter Tryz.func147, Tryz.ntmps147
  go_wp2_with fail
  go_ret
  exact ⟨rfl, rfl⟩
theorem and15 (x : Int) (x0 : 0 ≤ x) (x1 : x < 65536) : bits .and .i64 x 32768 = x / 32768 % 2 * 32768 := by
 obtain ⟨y, rfl⟩ := Int.eq_ofNat_of_zero_le x0
 rw [bit15 y (by omega)]
 omega
theorem and14 (x : Int) (x0 : 0 ≤ x) (x1 : x < 65536) : bits .and .i64 x 16384 = x / 16384 % 2 * 16384 := by
 obtain ⟨y, rfl⟩ := Int.eq_ofNat_of_zero_le x0
 rw [bit14 y (by omega)]
 omega
theorem leads_yes (x : Int) (w : World) (g1 : (bits .and .i64 x 32768 == 0) = false) :
  Calls Tryz.prog 166 #[.int .i64 x] w fun e w' => e = .returned (.tuple #[.int .i64 (x % 1024), .bool (bits .and .i64 x 16384 != 0), .bool true]) ∧ w = w' := by
 have e10 := mask10 x
 go_enter Tryz.func166, Tryz.ntmps166
 go_wp2_with fail
 go_ret3
 exact ⟨rfl, rfl⟩
theorem leads_no (x : Int) (w : World) (g1 : (bits .and .i64 x 32768 == 0) = true) :
  Calls Tryz.prog 166 #[.int .i64 x] w fun e w' => e = .returned (.tuple #[.int .i64 0, .bool false, .bool false]) ∧ w = w' := by
 go_enter Tryz.func166, Tryz.ntmps166
 go_wp2_with fail
 go_ret3
 exact ⟨rfl, rfl⟩
end Go.Proofs.YtoebmjgkfkfhjaaGreatDoor.Mmu
