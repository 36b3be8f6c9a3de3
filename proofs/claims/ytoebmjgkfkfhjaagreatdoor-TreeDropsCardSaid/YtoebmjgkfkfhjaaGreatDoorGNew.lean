/- A region that draws its order, whose first operations only make new memory: whatever order they come in, each leaves a value of which its own condition holds, in a world that has grown. · Rows that make() makes; a copy of numbers; new worlds, plain. -/
import Derived.Test.YtoebmjgkfkfhjaaGreatDoorGBase
import Derived.Deep.RegionHeld3
import Derived.Test.YtoebmjgkfkfhjaaGreatDoorWdNew0
namespace Go.Proofs.YtoebmjgkfkfhjaaGreatDoor.Mem
open Go.RowKit
/-- How many of the first n are not listed. -/
def left (listed : Array Bool) : Nat → Nat
 | 0 => 0
 | n + 1 => left listed n + (if listed.getD n false = true then 0 else 1)
section
variable {P : Program} {md : Region.Mode} {ops : Array Oper} {Q : Exit → Act → World → Prop} {n1 N : Nat} {R : Nat → Value → World → Prop} {w0 : World} {a0 : Act}
theorem mem_ready {listed : Array Bool} {i : Nat} {o : Oper} (ho : ops[i]? = some o) (hl : listed.getD i true = false) (hd : ∀ e ∈ o.after, listed.getD e.on false = true) : i ∈ Region.ready md ops listed := by
 unfold Region.ready
 refine List.mem_filter.2 ⟨List.mem_range.2 (Array.getElem?_eq_some_iff.1 ho).1, ?_⟩
 rw [ho, hl]
 simp only [Bool.not_false, Bool.true_and, Option.map_some, Option.getD_some, Array.all_eq_true']
 intro e he
 simp [hd e he]
end
end Go.Proofs.YtoebmjgkfkfhjaaGreatDoor.Mem
namespace Go.Proofs.YtoebmjgkfkfhjaaGreatDoor.Wd
open Go.RowKit Go.Proofs.YtoebmjgkfkfhjaaGreatDoor.Mem Go.Proofs.YtoebmjgkfkfhjaaGreatDoor.Bw Go.Proofs.YtoebmjgkfkfhjaaGreatDoor.Nums Go.Proofs.YtoebmjgkfkfhjaaGreatDoor.Mmu
theorem made_one (z : Value) (n k : Nat) (hz : z.cells = #[z]) (h : k < n) : (madeCells z.cells (n * 1))[k]? = some z := by
 unfold madeCells
 rw [hz]
 simp [h, Nat.mod_one]
theorem infoL : (Tryz.prog.info? 22).map (fun i => (i.zero, i.size, i.bytes)) = some (some (.slice none 0 0), 1, 24) := by kernel_rfl
theorem infoB : (Tryz.prog.info? 56).map (fun i => (i.zero, i.size, i.bytes)) = some (some (.slice none 0 0), 1, 24) := by kernel_rfl
theorem ints_nil (w : World) : IntsIn w (.slice none 0 0) [] := ⟨none, 0, 0, 0, rfl, fun e => by simp at e, fun j hj => by simp at hj⟩
theorem own_ints {w : World} {B : Nat} {v : Value} {zs : List Int} (h : w.ownsRow B 3 1 v zs.length (ints zs)) : IntsIn w v zs := by
 rcases h.2 with ⟨rfl, h1⟩ | ⟨g, cap, cur, rfl, h1, _⟩
 ·rw [List.length_eq_zero_iff.1 h1]
  exact ints_nil w
 ·refine ⟨some ⟨g, 0, none⟩, g, 0, cap, rfl, fun _ => rfl, fun j hj => ?_⟩
  rw [Nat.zero_add, h.cellAt j (by omega)]
  unfold ints
  rw [List.getElem?_map, List.getElem?_eq_getElem hj]
  rfl
theorem ints_len (zs : List Int) : (ints zs).length = zs.length * 1 := by simp [ints]
theorem ints_one (zs : List Int) : ∀ u ∈ ints zs, u.oneCell' = true := by
 intro u hu
 obtain ⟨z, _, rfl⟩ := List.mem_map.1 hu
 rfl
theorem ints_at {w : World} {b off : Nat} {zs : List Int} (h : IntsAt w b off zs) : ∀ (j : Nat) (u : Value), (ints zs)[j]? = some u → w.cell? ((⟨b, off, none⟩ : Addr).add j) = some u := by
 intro j u hj
 have hlt : j < zs.length := by have := (List.getElem?_eq_some_iff.1 hj).1; simpa [ints] using this
 rw [Addr.add_mid, h j hlt, ← hj]
 simp [ints, hlt]
set_option maxHeartbeats 2000000 in
theorem clone_ints (v : Value) (zs : List Int) (w : World) (hv : IntsIn w v zs) (hl : zs.length ≤ 1000) :
  Calls Tryz.prog 89 #[v] w fun r w' => ∃ u, r = .returned u ∧ w'.ownsRow w.heap.size 3 1 u zs.length (ints zs) ∧ Below w.heap.size w w' := by
 obtain ⟨i0, hi, hz0, hz1, hz2⟩ := info_get infoI
 have qn : ∀ (w : World) (a : Option Addr) (n c n' c' : Nat), (binOp .eql 22 (.slice a n c) (.slice none n' c')).run Tryz.prog w = .ok (.bool a.isNone) w := fun w a n c n' c' => Lib.run_eql_slice_nil w _ _ a n c n' c' Tryz.underlying22
 obtain ⟨q, b, off, cap, rfl, hq, hz⟩ := hv
 have HQ := hid hq
 have HZ := hid hz
 clear hq hz
 cases q with
 | none =>
  have h0 : zs = [] := by
   cases zs with
   | nil => rfl
   | cons x l => have := HQ.out (by simp); cases this
  subst h0
  go_enter Tryz.func89, Tryz.ntmps89
  go_wp2_with fail
  go_ret
  exact ⟨_, rfl, World.ownsRow_nil _ _ _ _, Below.refl _ _⟩
 | some ad =>
  have HN := hid (show ∀ (W : World), Below w.heap.size w W → ∀ (j : Nat) (u : Value), (ints zs)[j]? = some u → W.cell? (ad.add j) = some u from fun W hb => by
   by_cases h0 : 0 < zs.length
   ·have := HQ.out h0
    cases this
    exact ints_at (HZ.out.below hb)
   ·intro j u hj
    have : zs = [] := by
     cases zs with
     | nil => rfl
     | cons x l => simp at h0
    rw [this] at hj
    simp [ints] at hj)
  have HL := hid (ints_len zs)
  have HC := hid (ints_one zs)
  have hl2 : zs.length ≤ maxLen := by unfold maxLen; omega
  have B0 := hid (bal (Below.refl w.heap.size w) (.cells #[] 3))
  have O0 := hid (World.ownsRow_made (base := w.heap.size) (e := 3) (size := 1) w #[] 0 (Nat.le_refl _) (Nat.zero_le _) (by simp))
  generalize ints zs = cs at *
  go_enter Tryz.func89, Tryz.ntmps89
  go_wp2_with (at_builtin; refine wpList_append_own _ rfl _ _ 22 rfl w.heap.size 3 i0 (.int .i64 0) 1 8 Tryz.underlying22 hi hz0 hz1 hz2 rfl (by decide) _ _ _ rfl O0.out ad zs.length cap cs rfl HL.out (HN.out _ B0.out) HC.out (by omega) (by omega) (by simp) ?_; intro v' w5 hown' hgrow _; have B5 := hid (B0.out.grown hgrow (by simp) (fun k hk => (O0.out.lt k hk).1)); have O5 := hid hown'; clear hown' hgrow)
  go_ret
  refine ⟨_, rfl, ?_, B5.out⟩
  have := O5.out
  rw [Nat.zero_add, List.nil_append] at this
  exact this
/-- No world. -/
def noP : PW := { ram := [], kinds := [], slots := [], tasks := [], lines := [], bits := [], cores := [], ready := [], tlbs := [], doms := [], time := 0 }
def zeroV (k : Nat) : Value := if k = 10 then .int .i64 0 else .slice none 0 0
theorem zero_world (w : World) : WorldV w zeroV noP :=
 ⟨ints_nil w, ints_nil w, ⟨none, 0, 0, 0, rfl, fun e => by simp [noP] at e, fun j hj => by simp [noP] at hj⟩, ⟨none, 0, 0, 0, rfl, fun e => by simp [noP] at e, fun j hj => by simp [noP] at hj⟩, ⟨none, 0, 0, 0, rfl, fun e => by simp [noP] at e, fun j hj => by simp [noP] at hj⟩, ints_nil w, ints_nil w, ⟨none, 0, 0, 0, rfl, fun e => by simp [noP] at e, fun j hj => by simp [noP] at hj⟩, ⟨none, 0, 0, 0, rfl, fun e => by simp [noP] at e, fun j hj => by simp [noP] at hj⟩, ints_nil w, rfl⟩
end Go.Proofs.YtoebmjgkfkfhjaaGreatDoor.Wd
