/- slices.Clone over entries, walked. · Plain facts on instructions: which may be, and their two words. · The document's answers on instructions (keyholdref.Has, InsMay, CodeOf, InsOf), walked. · Small parts of new worlds: a task that is none, ranges, the first domain that is none, copies of numbers. -/
import Derived.Lib.SliceRun
import Derived.Test.YtkocmkaeaagbaaaGreatDoorChecked
import Derived.Deep.RegionWith
import Derived.Test.YtkocmkaeaagbaaaGreatDoorQaa
import Derived.Test.YtkocmkaeaagbaaaGreatDoorQab
namespace Go.Proofs.YtkocmkaeaagbaaaGreatDoor.Mmu
open Go.RowKit Go.Proofs.YtkocmkaeaagbaaaGreatDoor.Mem Go.Proofs.YtkocmkaeaagbaaaGreatDoor.Bw Go.Proofs.YtkocmkaeaagbaaaGreatDoor.Nums
theorem add_none (b off j : Nat) : (⟨b, off, none⟩ : Addr).add j = ⟨b, off + j, none⟩ := by
 unfold Addr.add
 split <;> simp_all
theorem ents_cells {w : World} {b off : Nat} {l : List Ent} (h : EntsAt w b off l) : ∀ (j : Nat) (u : Value), (cellsE l)[j]? = some u → w.cell? ((⟨b, off, none⟩ : Addr).add j) = some u := by
 intro j u hj
 have hlt : j < (cellsE l).length := (List.getElem?_eq_some_iff.1 hj).1
 rw [cellsE_len] at hlt
 rw [add_none]
 have hk : j / 4 < l.length := by omega
 obtain ⟨a0, a1, a2, a3⟩ := h _ hk
 obtain ⟨e0, e1, e2, e3⟩ := cellsE_at l _ hk
 have hm : j = j / 4 * 4 ∨ j = j / 4 * 4 + 1 ∨ j = j / 4 * 4 + 2 ∨ j = j / 4 * 4 + 3 := by omega
 rcases hm with hm | hm | hm | hm
 ·rw [hm] at hj ⊢; rw [← hj, e0]; exact a0
 ·rw [hm] at hj ⊢; rw [← hj, e1, ← a1]; rfl
 ·rw [hm] at hj ⊢; rw [← hj, e2, ← a2]; rfl
 ·rw [hm] at hj ⊢; rw [← hj, e3, ← a3]; rfl
theorem cellsE_one (l : List Ent) : ∀ u ∈ cellsE l, u.oneCell' = true := by
 intro u hu
 obtain ⟨q, _, hq⟩ := List.mem_flatMap.1 hu
 exact fourE_cell _ _ _ _ u hq
set_option maxHeartbeats 4000000 in
theorem clone_any (v : Value) (l : List Ent) (w : World) (hv : TlbIn w v l) :
  Calls Tryz.prog 227 #[v] w fun r w' => ∃ u, r = .returned u ∧ w'.ownsRow w.heap.size 103 4 u l.length (cellsE l) ∧ Below w.heap.size w w' := by
 obtain ⟨i0, hi, hz0, hz1, hz2⟩ := info_get infoEnt
 have qn : ∀ (w : World) (a : Option Addr) (n c n' c' : Nat), (binOp .eql 70 (.slice a n c) (.slice none n' c')).run Tryz.prog w = .ok (.bool a.isNone) w := fun w a n c n' c' => Lib.run_eql_slice_nil w _ _ a n c n' c' Tryz.underlying70
 obtain ⟨q, b, off, cap, rfl, hq, hz, hl⟩ := hv
 have HQ := hid hq
 have HZ := hid hz
 clear hq hz
 cases q with
 | none =>
  have h0 : l = [] := by
   cases l with
   | nil => rfl
   | cons x l => have := HQ.out (by simp); cases this
  subst h0
  go_enter Tryz.func227, Tryz.ntmps227
  go_wp2_with fail
  go_ret
  exact ⟨_, rfl, World.ownsRow_nil _ _ _ _, Below.refl _ _⟩
 | some ad =>
  have HN := hid (show ∀ (W : World), Below w.heap.size w W → ∀ (j : Nat) (u : Value), (cellsE l)[j]? = some u → W.cell? (ad.add j) = some u from fun W hb => by
   by_cases h0 : 0 < l.length
   ·have := HQ.out h0
    cases this
    exact ents_cells (HZ.out.below hb)
   ·intro j u hj
    have : l = [] := by
     cases l with
     | nil => rfl
     | cons x l => simp at h0
    rw [this] at hj
    simp [cellsE] at hj)
  have HL := hid (cellsE_len l)
  have HC := hid (cellsE_one l)
  have hl2 : l.length ≤ maxLen := by unfold maxLen; omega
  have B0 := hid (bal (Below.refl w.heap.size w) (.cells #[] 103))
  have O0 := hid (World.ownsRow_made (base := w.heap.size) (e := 103) (size := 4) w #[] 0 (Nat.le_refl _) (Nat.zero_le _) (by simp))
  generalize cellsE l = cs at *
  go_enter Tryz.func227, Tryz.ntmps227
  go_wp2_with (at_builtin; refine wpList_append_own _ rfl _ _ 70 rfl w.heap.size 103 i0 (.agg #[.int .i64 0, .int .i64 0, .int .i64 0, .bool false]) 4 32 Tryz.underlying70 hi hz0 hz1 hz2 rfl (by decide) _ _ _ rfl O0.out ad l.length cap cs rfl HL.out (HN.out _ B0.out) HC.out (by omega) (by omega) (by simp) ?_; intro v' w5 hown' hgrow _; have B5 := hid (B0.out.grown hgrow (by simp) (fun k hk => (O0.out.lt k hk).1)); have O5 := hid hown'; clear hown' hgrow)
  go_ret
  refine ⟨_, rfl, ?_, B5.out⟩
  have := O5.out
  rw [Nat.zero_add, List.nil_append] at this
  exact this
end Go.Proofs.YtkocmkaeaagbaaaGreatDoor.Mmu
namespace Go.Proofs.YtkocmkaeaagbaaaGreatDoor
namespace IP
def hA (o : Int) : Bool := !decide (o = 0 ∨ o = 12 ∨ o = 14)
def hB (o : Int) : Bool := !decide (o = 0 ∨ o = 1 ∨ o = 13 ∨ o = 12 ∨ o = 14)
def hC (o : Int) : Bool := decide (o = 1 ∨ o = 13 ∨ o = 10 ∨ o = 11 ∨ o = 12 ∨ o = 14)
def fitB (v : Int) (has : Bool) (lo hi : Int) : Bool := if has = true then decide (lo ≤ v ∧ v ≤ hi) else decide (v = 0)
def may (o a b i : Int) : Int :=
 if o < 0 ∨ 14 < o then 1
 else if fitB a (hA o) 0 7 = true ∧ fitB b (hB o) 0 7 = true ∧ fitB i (hC o) (-32768) 32767 = true then 0 else 2
def c0 (o a b : Int) : Int := o * 256 + a * 16 + b
def c1 (i : Int) : Int := if i < 0 then i + 65536 else i
def word (x y : Int) : Prop := 0 ≤ x ∧ x ≤ 65535 ∧ 0 ≤ y ∧ y ≤ 65535
end IP
end Go.Proofs.YtkocmkaeaagbaaaGreatDoor
namespace Go.Proofs.YtkocmkaeaagbaaaGreatDoor.Isa
open Go.RowKit Go.Proofs.YtkocmkaeaagbaaaGreatDoor.Mem
end Go.Proofs.YtkocmkaeaagbaaaGreatDoor.Isa
namespace Go.Proofs.YtkocmkaeaagbaaaGreatDoor.Wd
open Go.RowKit Go.Proofs.YtkocmkaeaagbaaaGreatDoor.Mem Go.Proofs.YtkocmkaeaagbaaaGreatDoor.Bw Go.Proofs.YtkocmkaeaagbaaaGreatDoor.Nums Go.Proofs.YtkocmkaeaagbaaaGreatDoor.Mmu
/-- A task that is none. -/
def bl (k : Nat) : Int := [0, 0, 0, 0, 0, 0, 0, 0, 0, 0, 0, -1, -1, -1, -1, 0, 0, -1, 0, 0].getD k 0
theorem blank_own (w : World) : Calls Tryz.prog 95 #[] w fun e w' => e = .returned (.agg (cf 20 bl).toArray) ∧ Below w.heap.size w w' := by
 have R0 := hid (there_new w #[.int .i64 0, .int .i64 0, .int .i64 0, .int .i64 0, .int .i64 0, .int .i64 0, .int .i64 0, .int .i64 0, .int .i64 0, .int .i64 0, .int .i64 0, .int .i64 0, .int .i64 0, .int .i64 0, .int .i64 0, .int .i64 0, .int .i64 0, .int .i64 0, .int .i64 0, .int .i64 0] 68 w.heap.size 20 rfl (by decide))
 go_enter Tryz.func95, Tryz.ntmps95
 go_wp2_with (first
  | ((with_reducible (show wpList _ _ _ (⟨_, Op.store 68 _ _, _, _, _, _⟩ :: _) _ _)); refine wp_st rfl _ _ rfl _ rfl (cf 20 bl) rfl (cf_len _ _) (cf_one _ _) R0.out ?_; have E := hid (World.rangeAt_setCells_same _ w.heap.size 0 (cf 20 bl) (by rw [cf_len]; exact R0.out)); have K9 := hid (below_setCells (bal (Below.refl w.heap.size w) (.cells #[.int .i64 0, .int .i64 0, .int .i64 0, .int .i64 0, .int .i64 0, .int .i64 0, .int .i64 0, .int .i64 0, .int .i64 0, .int .i64 0, .int .i64 0, .int .i64 0, .int .i64 0, .int .i64 0, .int .i64 0, .int .i64 0, .int .i64 0, .int .i64 0, .int .i64 0, .int .i64 0] 68)) (Nat.le_refl _) (cf 20 bl) 0)))
 refine bodyPost_ret (v := .agg (cf 20 bl).toArray) (results_c1 rfl rfl (run_ld _ _ (cf 20 bl) E.out (cf_len _ _))) rfl ⟨rfl, K9.out⟩
theorem within_any (v a b : Int) (w : World) :
  Calls Tryz.prog 43 #[.int .i64 v, .int .i64 a, .int .i64 b] w fun e w' => e = .returned (.bool (decide (a ≤ v ∧ v ≤ b))) ∧ w = w' := by
 go_enter Tryz.func43, Tryz.ntmps43
 go_wp2
 all_goals
  go_ret
  exact ⟨ret_bool (by first | rfl | (simp; done) | (rw [Bool.eq_iff_iff]; simp; omega)), rfl⟩
/-- Is it no domain? -/
def nd (z : Int) : Bool := !decide (0 ≤ z ∧ z ≤ 3)
theorem noDom_any (n v : Int) (w : World) :
  Calls Tryz.prog 47 #[.int .i64 n, .int .i64 v] w fun e w' => e = .returned (.bool (nd v)) ∧ w = w' := by
 go_enter Tryz.func47, Tryz.ntmps47
 go_wp2_with fail
 refine (within_any v 0 3 w).mono ?_
 rintro e w1 ⟨rfl, rfl⟩
 have HN := hid (show nd v = !decide (0 ≤ v ∧ v ≤ 3) from rfl)
 generalize decide (0 ≤ v ∧ v ≤ 3) = bb at HN ⊢
 go_wp2_with fail
 go_ret
 exact ⟨by rw [HN.out]; rfl, rfl⟩
set_option maxHeartbeats 1000000 in
theorem countsFit_any (f c d : Int) (w : World) :
  Calls Tryz.prog 90 #[.int .i64 f, .int .i64 c, .int .i64 d] w fun e w' => e = .returned (.bool (decide ((1 ≤ f ∧ f ≤ 24) ∧ (1 ≤ c ∧ c ≤ 4) ∧ (1 ≤ d ∧ d ≤ 8)))) ∧ w = w' := by
 by_cases h1 : 1 ≤ f ∧ f ≤ 24
 ·by_cases h2 : 1 ≤ c ∧ c ≤ 4
  ·go_enter Tryz.func90, Tryz.ntmps90
   go_wp2_with fail
   refine (within_any f 1 24 w).mono ?_
   rintro e w1 ⟨rfl, rfl⟩
   rw [decide_eq_true h1]
   go_wp2_with fail
   refine (within_any c 1 4 w).mono ?_
   rintro e w1 ⟨rfl, rfl⟩
   rw [decide_eq_true h2]
   go_wp2_with fail
   refine (within_any d 1 8 w).mono ?_
   rintro e w1 ⟨rfl, rfl⟩
   go_wp2_with fail
   go_ret
   exact ⟨ret_bool (by rw [Bool.eq_iff_iff]; simp; omega), rfl⟩
  ·have H2 := hid h2
   clear h2
   go_enter Tryz.func90, Tryz.ntmps90
   go_wp2_with fail
   refine (within_any f 1 24 w).mono ?_
   rintro e w1 ⟨rfl, rfl⟩
   rw [decide_eq_true h1]
   go_wp2_with fail
   refine (within_any c 1 4 w).mono ?_
   rintro e w1 ⟨rfl, rfl⟩
   rw [decide_eq_false H2.out]
   go_wp2_with fail
   go_ret
   exact ⟨ret_bool (decide_eq_false (fun h => H2.out h.2.1)).symm, rfl⟩
 ·have H1 := hid h1
  clear h1
  go_enter Tryz.func90, Tryz.ntmps90
  go_wp2_with fail
  refine (within_any f 1 24 w).mono ?_
  rintro e w1 ⟨rfl, rfl⟩
  rw [decide_eq_false H1.out]
  go_wp2_with fail
  go_ret
  exact ⟨ret_bool (decide_eq_false (fun h => H1.out h.1)).symm, rfl⟩
end Go.Proofs.YtkocmkaeaagbaaaGreatDoor.Wd
