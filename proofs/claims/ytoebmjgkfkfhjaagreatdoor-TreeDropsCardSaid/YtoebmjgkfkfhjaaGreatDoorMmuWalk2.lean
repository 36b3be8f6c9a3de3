/- mmu.Walk and keyholdref.Walked: one answer; mmu.Entry, walked. -/
import Derived.Test.YtoebmjgkfkfhjaaGreatDoorMmuWalk
import Derived.Test.YtoebmjgkfkfhjaaGreatDoorGIsa
namespace Go.Proofs.YtoebmjgkfkfhjaaGreatDoor.Mmu
open Go.RowKit Go.Proofs.YtoebmjgkfkfhjaaGreatDoor.Mem Go.Proofs.YtoebmjgkfkfhjaaGreatDoor.Bw Go.Proofs.YtoebmjgkfkfhjaaGreatDoor.Nums
def n16 (zs : List Int) : Int := (zs.length : Int) / 16
def e1 (zs : List Int) (s a : Int) : Int := zs.getD (s * 16 + a / 256).toNat 0
def e2 (zs : List Int) (t a : Int) : Int := zs.getD (t * 16 + a / 16 % 16).toNat 0
/-- D1: where an address leads, whether that may be written, and the error. -/
def walkR (zs : List Int) (s a : Int) : Int × Bool × Int :=
 if ¬ inb zs.length s a then (0, false, 2)
 else if ¬ isE (e1 zs s a) (n16 zs) then (0, false, 9)
 else if ¬ isE (e2 zs (e1 zs s a % 1024) a) (n16 zs) then (0, false, 9)
 else (e2 zs (e1 zs s a % 1024) a % 1024, decide (e2 zs (e1 zs s a % 1024) a / 16384 % 2 = 1), 0)
def errV (k : Int) : Value := if k = 0 then .nilIface else .iface 35 (.int .i64 k)
theorem getD_some {zs : List Int} {j : Nat} (h : j < zs.length) : zs[j]? = some (zs.getD j 0) := by
 rw [List.getElem?_eq_getElem h, List.getD_eq_getElem?_getD, List.getElem?_eq_getElem h]
 rfl
theorem walkR_range {zs : List Int} {s a : Int} (h : ¬ inb zs.length s a) : walkR zs s a = (0, false, 2) := by unfold walkR; rw [if_pos h]
theorem walkR_no1 {zs : List Int} {s a : Int} (h : inb zs.length s a) (h1 : ¬ isE (e1 zs s a) (n16 zs)) : walkR zs s a = (0, false, 9) := by unfold walkR; rw [if_neg (fun k => k h), if_pos h1]
theorem walkR_no2 {zs : List Int} {s a : Int} (h : inb zs.length s a) (h1 : isE (e1 zs s a) (n16 zs)) (h2 : ¬ isE (e2 zs (e1 zs s a % 1024) a) (n16 zs)) : walkR zs s a = (0, false, 9) := by
 unfold walkR; rw [if_neg (fun k => k h), if_neg (fun k => k h1), if_pos h2]
theorem walkR_yes {zs : List Int} {s a : Int} (h : inb zs.length s a) (h1 : isE (e1 zs s a) (n16 zs)) (h2 : isE (e2 zs (e1 zs s a % 1024) a) (n16 zs)) : walkR zs s a = (e2 zs (e1 zs s a % 1024) a % 1024, decide (e2 zs (e1 zs s a % 1024) a / 16384 % 2 = 1), 0) := by
 unfold walkR; rw [if_neg (fun k => k h), if_neg (fun k => k h1), if_neg (fun k => k h2)]
/-- The numbers that the walks reckon. -/
theorem idx1 {zs : List Int} {s a : Int} (h : inb zs.length s a) : 0 ≤ s ∧ 0 ≤ a / 256 ∧ s * 16 + a / 256 < zs.length := by
 unfold inb at h
 omega
theorem idx2 {zs : List Int} {s a : Int} (h : inb zs.length s a) (h1 : isE (e1 zs s a) (n16 zs)) : 0 ≤ e1 zs s a % 1024 ∧ 0 ≤ a / 16 % 16 ∧ e1 zs s a % 1024 * 16 + a / 16 % 16 < zs.length := by
 unfold inb at h
 unfold isE n16 at h1
 omega
end Go.Proofs.YtoebmjgkfkfhjaaGreatDoor.Mmu
