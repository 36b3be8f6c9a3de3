/- What was made from one slot is now made from another one: tree.hand, keyholdref.turn; an empty slot: plain.Empty; walked. · Clay, plain; clay.find, free, left, shape and keyholdref.anyFrom, walked; making things out of clay, plain. (Written by mk_clay1.py, mk_clay2.py.) -/
import Derived.Lib.SliceRun
import Derived.Deep.RegionHeld3
import Derived.BigQuiet
import Derived.Test.YtkocmkaeaagbaaaGreatDoorQao
import Derived.Test.YtkocmkaeaagbaaaGreatDoorQap
import Derived.Test.YtkocmkaeaagbaaaGreatDoorQal
namespace Go.Proofs.YtkocmkaeaagbaaaGreatDoor.Wd
open Go.RowKit Go.Proofs.YtkocmkaeaagbaaaGreatDoor.Mem Go.Proofs.YtkocmkaeaagbaaaGreatDoor.Bw Go.Proofs.YtkocmkaeaagbaaaGreatDoor.Nums Go.Proofs.YtkocmkaeaagbaaaGreatDoor.Mmu
def hnd1 (a b : Int) (f : Nat → Int) : Nat → Int := if f 6 = a then upd f 6 b else f
def hnd (a b : Int) (fs : List (Nat → Int)) : List (Nat → Int) := fs.map (hnd1 a b)
/-- An empty slot. -/
def eS : Nat → Int := fun k => if k = 6 then -1 else 0
theorem info7s : (Tryz.prog.info? 45).map (·.size) = some 7 := by kernel_rfl
theorem wp_ldS {ops : Array Oper} {rest : List Oper} {op : Oper} {a : Act} {w : World} {Q : Exit → Act → World → Prop} (hgd : op.guard = none) (x : Operand) (ho : op.op = .load 45 x)
  (b o : Nat) (hx : a.eval x = .pointer (some ⟨b, o, none⟩)) (cs : List Value) (hl : cs.length = 7) (hc : w.rangeAt b o cs)
  (h : wpList Tryz.prog ops Q rest (a.put op.dst (.agg cs.toArray)) w) : wpList Tryz.prog ops Q (op :: rest) a w :=
 wpList_load_mid hgd 45 x ho b o hx cs _ hc Tryz.underlying45 rfl (by rw [info7s, hl]) h
end Go.Proofs.YtkocmkaeaagbaaaGreatDoor.Wd
namespace Go.Proofs.YtkocmkaeaagbaaaGreatDoor.Wd
open Go.RowKit Go.Proofs.YtkocmkaeaagbaaaGreatDoor.Mem Go.Proofs.YtkocmkaeaagbaaaGreatDoor.Bw Go.Proofs.YtkocmkaeaagbaaaGreatDoor.Nums Go.Proofs.YtkocmkaeaagbaaaGreatDoor.Mmu
/-- Was something made from a slot's key? -/
def frm (p : PW) (n : Int) : Bool := p.slots.any (fun f => f 6 == n)
def clE (p : PW) (n : Int) : Int := if hasE p n = 0 then (if (p.slots.getD n.toNat nkey) 0 = 1 then 0 else 3) else hasE p n
def usV (p : PW) (n : Int) : Int := if frm p n = true then (p.slots.getD n.toNat nkey) 3 else 0
def fdK (p : PW) (n : Int) : Nat → Int := if clE p n = 0 then upd (p.slots.getD n.toNat nkey) 3 (usV p n) else nkey
theorem cf7 (f : Nat → Int) : (cf 7 f).toArray = #[.int .i64 (f 0), .int .i64 (f 1), .int .i64 (f 2), .int .i64 (f 3), .int .i64 (f 4), .int .i64 (f 5), .int .i64 (f 6)] := rfl
set_option maxRecDepth 100000 in
theorem isFrom (c : Nat) (n : Int) (f : Nat → Int) (w : World) (h1 : w.cell? ⟨c, 0, none⟩ = some (.int .i64 n)) :
  Calls Tryz.prog 196 #[.agg (cf 7 f).toArray, .pointer (some ⟨c, 0, none⟩)] w fun r w' => r = .returned (.bool (f 6 == n)) ∧ Below w.heap.size w w' := by
 rw [cf7]
 have B0 := hid (bal (Below.refl w.heap.size w) (.cells #[.int .i64 (f 0), .int .i64 (f 1), .int .i64 (f 2), .int .i64 (f 3), .int .i64 (f 4), .int .i64 (f 5), .int .i64 (f 6)] 45))
 have k6 := cells_new w #[.int .i64 (f 0), .int .i64 (f 1), .int .i64 (f 2), .int .i64 (f 3), .int .i64 (f 4), .int .i64 (f 5), .int .i64 (f 6)] 45 6
 have h2 := (B0.out.cell (World.block_lt_of_cell? _ _ h1)).trans h1
 go_enter Tryz.func196, Tryz.ntmps196
 go_wp2_with fail
 go_ret
 exact ⟨rfl, B0.out⟩
set_option maxRecDepth 100000 in
theorem isSome0 (f : Nat → Int) (w : World) :
  Calls Tryz.prog 197 #[.agg (cf 7 f).toArray] w fun r w' => r = .returned (.bool (f 0 != 0)) ∧ Below w.heap.size w w' := by
 rw [cf7]
 have B0 := hid (bal (Below.refl w.heap.size w) (.cells #[.int .i64 (f 0), .int .i64 (f 1), .int .i64 (f 2), .int .i64 (f 3), .int .i64 (f 4), .int .i64 (f 5), .int .i64 (f 6)] 45))
 have k6 := cells_new w #[.int .i64 (f 0), .int .i64 (f 1), .int .i64 (f 2), .int .i64 (f 3), .int .i64 (f 4), .int .i64 (f 5), .int .i64 (f 6)] 45 0
 go_enter Tryz.func197, Tryz.ntmps197
 go_wp2_with fail
 go_ret
 exact ⟨rfl, B0.out⟩
set_option maxRecDepth 100000 in
set_option maxHeartbeats 4000000 in
theorem anyFrom_any_ix (c : Nat) (n : Int) (v : Value) (fs : List (Nat → Int)) (w : World) (hv : RowsIn 7 w v fs) (hl : fs.length ≤ 1000) (h1 : w.cell? ⟨c, 0, none⟩ = some (.int .i64 n)) :
  Calls Tryz.prog 193 #[v, .func (.func 196) #[] #[.pointer (some ⟨c, 0, none⟩)]] w fun r w' => (∃ i : Int, r = .returned (.int .i64 i) ∧ decide (0 ≤ i) = fs.any (fun f => f 6 == n)) ∧ Below w.heap.size w w' := by
 have HV := hid hv
 obtain ⟨q, b, off, cap, rfl, hq, -⟩ := hv
 have hl2 : (fs.length : Int) ≤ 1000 := by omega
 have HQ := hid hq
 have HT := hid (fun X (h : Below w.heap.size w X) (f : Nat → Int) => isFrom c n f X ((h.cell (World.block_lt_of_cell? _ _ h1)).trans h1))
 clear hq h1
 go_enter Tryz.func193, Tryz.ntmps193
 go_wp2_with fail
 go_loopw [8] (fun i wr => ∃ (k : Nat), k ≤ fs.length ∧ i = .int .i64 k ∧ Hid (Below w.heap.size w wr ∧ ∀ j (hj : j < fs.length), j < k → (fs[j] 6 == n) = false)) (fun i _ => fs.length - (intOf i).toNat)
 case atStart => exact ⟨0, by omega, rfl, hid ⟨Below.refl _ _, fun j _ h => by omega⟩⟩
 case round =>
  obtain ⟨k, hk, rfl, HH⟩ := hrel
  have BB := hid HH.out.1
  have HN := hid HH.out.2
  clear HH
  by_cases hlt : k < fs.length
  ·have hlt2 : (k : Int) < (fs.length : Int) := by omega
   have hqe := HQ.out (by omega)
   subst hqe
   obtain ⟨q2, b2, off2, cap2, e2, hq2, hz2⟩ := HV.out.below BB.out
   have ck := hid (hz2 k hlt)
   have e3 := hq2 (by omega)
   subst e3
   cases e2
   obtain ⟨f, hf⟩ : ∃ f, fs[k] = f := ⟨_, rfl⟩
   rw [hf] at ck
   have HY := hid hf
   clear hf hz2 hq2
   go_wp2_with (first | ((with_reducible (show wpList _ _ _ (⟨_, Op.load 45 _, _, _, _, _⟩ :: _) _ _)); refine wp_ldS rfl _ rfl b (off + k * 7) rfl (cf 7 f) (cf_len _ _) ck.out ?_))
   refine (HT.out _ BB.out f).mono ?_
   rintro r w1 ⟨rfl, hb⟩
   have B2 := hid (btr BB.out hb)
   clear hb
   cases hyt : (f 6 == n) with
   | true =>
    have HX := hid (show decide (0 ≤ (k : Int)) = fs.any (fun f => f 6 == n) by
     rw [decide_eq_true (by omega)]
     exact (List.any_eq_true.2 ⟨f, by rw [← HY.out]; exact List.getElem_mem hlt, hyt⟩).symm)
    go_wp2_with fail
    go_ret
    exact ⟨⟨_, rfl, HX.out⟩, B2.out⟩
   | false =>
    have HN2 := hid (show Below w.heap.size w w1 ∧ ∀ j (hj : j < fs.length), j < k + 1 → (fs[j] 6 == n) = false from ⟨B2.out, fun j hj h => by
     by_cases e : j = k
     ·subst e
      rw [HY.out]
      exact hyt
     ·exact HN.out j hj (by omega)⟩)
    go_wp2_with fail
    exact ⟨⟨k + 1, by omega, by go_num, HN2⟩, by simp [intOf]; omega⟩
  ·obtain rfl : k = fs.length := by omega
   have hge : ¬ ((fs.length : Int) < (fs.length : Int)) := by omega
   have HX := hid (show decide (0 ≤ (-1 : Int)) = fs.any (fun f => f 6 == n) by
    rw [decide_eq_false (by omega)]
    symm
    rw [List.any_eq_false]
    intro x hx
    obtain ⟨j, hj, rfl⟩ := List.getElem_of_mem hx
    rw [HN.out j hj hj]
    decide)
   go_wp2_with fail
   go_ret
   exact ⟨⟨_, rfl, HX.out⟩, BB.out⟩
set_option maxRecDepth 100000 in
set_option maxHeartbeats 4000000 in
theorem anyFrom_any (c : Nat) (n : Int) (v : Value) (fs : List (Nat → Int)) (w : World) (hv : RowsIn 7 w v fs) (hl : fs.length ≤ 1000) (h1 : w.cell? ⟨c, 0, none⟩ = some (.int .i64 n)) :
  Calls Tryz.prog 156 #[v, .func (.func 196) #[] #[.pointer (some ⟨c, 0, none⟩)]] w fun r w' => r = .returned (.bool (fs.any (fun f => f 6 == n))) ∧ Below w.heap.size w w' := by
 have HI := hid (anyFrom_any_ix c n v fs w hv hl h1)
 clear hv hl h1
 go_enter Tryz.func156, Tryz.ntmps156
 go_wp2_with fail
 refine HI.out.mono ?_
 rintro r w1 ⟨⟨i, rfl, hi⟩, hb⟩
 have BB := hid hb
 have HX := hid hi
 clear hb HI hi
 by_cases h0 : 0 ≤ i
 ·have HH := hid (decide_eq_true h0)
  go_wp2_with fail
  go_ret
  exact ⟨by rw [← HX.out, HH.out]; rfl, BB.out⟩
 ·have HH := hid (decide_eq_false h0)
  go_wp2_with fail
  go_ret
  exact ⟨by rw [← HX.out, HH.out]; rfl, BB.out⟩
set_option maxRecDepth 100000 in
set_option maxHeartbeats 4000000 in
theorem anySome_any_ix (v : Value) (fs : List (Nat → Int)) (w : World) (hv : RowsIn 7 w v fs) (hl : fs.length ≤ 1000) :
  Calls Tryz.prog 193 #[v, .func (.func 197) #[] #[]] w fun r w' => (∃ i : Int, r = .returned (.int .i64 i) ∧ decide (0 ≤ i) = fs.any (fun f => f 0 != 0)) ∧ Below w.heap.size w w' := by
 have HV := hid hv
 obtain ⟨q, b, off, cap, rfl, hq, -⟩ := hv
 have hl2 : (fs.length : Int) ≤ 1000 := by omega
 have HQ := hid hq
 have HT := hid (fun X (_ : Below w.heap.size w X) (f : Nat → Int) => isSome0 f X)
 clear hq
 go_enter Tryz.func193, Tryz.ntmps193
 go_wp2_with fail
 go_loopw [8] (fun i wr => ∃ (k : Nat), k ≤ fs.length ∧ i = .int .i64 k ∧ Hid (Below w.heap.size w wr ∧ ∀ j (hj : j < fs.length), j < k → (fs[j] 0 != 0) = false)) (fun i _ => fs.length - (intOf i).toNat)
 case atStart => exact ⟨0, by omega, rfl, hid ⟨Below.refl _ _, fun j _ h => by omega⟩⟩
 case round =>
  obtain ⟨k, hk, rfl, HH⟩ := hrel
  have BB := hid HH.out.1
  have HN := hid HH.out.2
  clear HH
  by_cases hlt : k < fs.length
  ·have hlt2 : (k : Int) < (fs.length : Int) := by omega
   have hqe := HQ.out (by omega)
   subst hqe
   obtain ⟨q2, b2, off2, cap2, e2, hq2, hz2⟩ := HV.out.below BB.out
   have ck := hid (hz2 k hlt)
   have e3 := hq2 (by omega)
   subst e3
   cases e2
   obtain ⟨f, hf⟩ : ∃ f, fs[k] = f := ⟨_, rfl⟩
   rw [hf] at ck
   have HY := hid hf
   clear hf hz2 hq2
   go_wp2_with (first | ((with_reducible (show wpList _ _ _ (⟨_, Op.load 45 _, _, _, _, _⟩ :: _) _ _)); refine wp_ldS rfl _ rfl b (off + k * 7) rfl (cf 7 f) (cf_len _ _) ck.out ?_))
   refine (HT.out _ BB.out f).mono ?_
   rintro r w1 ⟨rfl, hb⟩
   have B2 := hid (btr BB.out hb)
   clear hb
   cases hyt : (f 0 != 0) with
   | true =>
    have HX := hid (show decide (0 ≤ (k : Int)) = fs.any (fun f => f 0 != 0) by
     rw [decide_eq_true (by omega)]
     exact (List.any_eq_true.2 ⟨f, by rw [← HY.out]; exact List.getElem_mem hlt, hyt⟩).symm)
    go_wp2_with fail
    go_ret
    exact ⟨⟨_, rfl, HX.out⟩, B2.out⟩
   | false =>
    have HN2 := hid (show Below w.heap.size w w1 ∧ ∀ j (hj : j < fs.length), j < k + 1 → (fs[j] 0 != 0) = false from ⟨B2.out, fun j hj h => by
     by_cases e : j = k
     ·subst e
      rw [HY.out]
      exact hyt
     ·exact HN.out j hj (by omega)⟩)
    go_wp2_with fail
    exact ⟨⟨k + 1, by omega, by go_num, HN2⟩, by simp [intOf]; omega⟩
  ·obtain rfl : k = fs.length := by omega
   have hge : ¬ ((fs.length : Int) < (fs.length : Int)) := by omega
   have HX := hid (show decide (0 ≤ (-1 : Int)) = fs.any (fun f => f 0 != 0) by
    rw [decide_eq_false (by omega)]
    symm
    rw [List.any_eq_false]
    intro x hx
    obtain ⟨j, hj, rfl⟩ := List.getElem_of_mem hx
    rw [HN.out j hj hj]
    decide)
   go_wp2_with fail
   go_ret
   exact ⟨⟨_, rfl, HX.out⟩, BB.out⟩
set_option maxRecDepth 100000 in
set_option maxHeartbeats 4000000 in
theorem anySome_any (v : Value) (fs : List (Nat → Int)) (w : World) (hv : RowsIn 7 w v fs) (hl : fs.length ≤ 1000) :
  Calls Tryz.prog 156 #[v, .func (.func 197) #[] #[]] w fun r w' => r = .returned (.bool (fs.any (fun f => f 0 != 0))) ∧ Below w.heap.size w w' := by
 have HI := hid (anySome_any_ix v fs w hv hl)
 clear hv hl
 go_enter Tryz.func156, Tryz.ntmps156
 go_wp2_with fail
 refine HI.out.mono ?_
 rintro r w1 ⟨⟨i, rfl, hi⟩, hb⟩
 have BB := hid hb
 have HX := hid hi
 clear hb HI hi
 by_cases h0 : 0 ≤ i
 ·have HH := hid (decide_eq_true h0)
  go_wp2_with fail
  go_ret
  exact ⟨by rw [← HX.out, HH.out]; rfl, BB.out⟩
 ·have HH := hid (decide_eq_false h0)
  go_wp2_with fail
  go_ret
  exact ⟨by rw [← HX.out, HH.out]; rfl, BB.out⟩
theorem info6k : (Tryz.prog.info? 43).map (·.size) = some 6 := by kernel_rfl
theorem bset6k {w W : World} {B : Nat} (hB : w.heap.size ≤ B) {v0 v1 v2 v3 v4 v5 : Value} (h : Below w.heap.size w W) : Below w.heap.size w ((((((W.setCell ⟨B, 0, none⟩ v0).setCell ⟨B, 1, none⟩ v1).setCell ⟨B, 2, none⟩ v2).setCell ⟨B, 3, none⟩ v3).setCell ⟨B, 4, none⟩ v4).setCell ⟨B, 5, none⟩ v5) :=
 bset (bset (bset (bset (bset (bset h hB _) hB _) hB _) hB _) hB _) hB _
theorem has_in {p : PW} {n : Int} (h : hasE p n = 0) : ∃ j : Nat, n = j ∧ j < p.slots.length := by
 unfold hasE at h
 cases hs : slotB p n with
 | false => rw [hs] at h; cases h
 | true => exact slotB_in hs
set_option maxRecDepth 100000 in
set_option maxHeartbeats 4000000 in
theorem findC_any (vb : Nat) (V : Nat → Value) (p : PW) (n : Int) (w : World) (hv : ViewAt w vb V p) :
  Calls Tryz.prog 162 #[.pointer (some ⟨vb, 0, none⟩), .int .i64 n] w fun r w' => r = .returned (.tuple #[.agg (kv (fdK p n)), eV (clE p n)]) ∧ Below w.heap.size w w' := by
 have B1 := hid (bal (bal (Below.refl w.heap.size w) (.cells #[.int .i64 n] 3)) (.cells #[.int .i64 0, .int .i64 0, .int .i64 0, .int .i64 0, .int .i64 0, .int .i64 0] 43))
 have CB := hid ((cells_alloc (cells_new w #[.int .i64 n] 3) (by simp) (.cells #[.int .i64 0, .int .i64 0, .int .i64 0, .int .i64 0, .int .i64 0, .int .i64 0] 43)) 0)
 have CZ := hid (cells_at (w.alloc (.cells #[.int .i64 n] 3)) #[.int .i64 0, .int .i64 0, .int .i64 0, .int .i64 0, .int .i64 0, .int .i64 0] 43 (w.heap.size + 1) (by simp))
 have FZ := hid (show ∀ o, ((w.alloc (.cells #[.int .i64 n] 3)).alloc (.cells #[.int .i64 0, .int .i64 0, .int .i64 0, .int .i64 0, .int .i64 0, .int .i64 0] 43)).frozen? ⟨w.heap.size + 1, o, none⟩ = false from fun o => World.frozen?_alloc_at _ _ _ _ (by simp))
 have SZ := hid (show ((w.alloc (.cells #[.int .i64 n] 3)).alloc (.cells #[.int .i64 0, .int .i64 0, .int .i64 0, .int .i64 0, .int .i64 0, .int .i64 0] 43)).heap.size = w.heap.size + 2 by simp)
 have HF := hid (full_any vb V p n ((w.alloc (.cells #[.int .i64 n] 3)).alloc (.cells #[.int .i64 0, .int .i64 0, .int .i64 0, .int .i64 0, .int .i64 0, .int .i64 0] 43)) (hv.below B1.out))
 have HV := hid hv
 by_cases h0 : hasE p n = 0
 rotate_left
 ·have HE := hid (show clE p n = hasE p n from if_neg h0)
  have HK := hid (show fdK p n = nkey from if_neg (by rw [HE.out]; exact h0))
  rw [eV_n h0] at HF
  have HN := hid (eV_n h0)
  rw [HK.out, HE.out, HN.out]
  generalize hasE p n = x at HF
  clear h0 hv HV HE HK HN
  go_enter Tryz.func162, Tryz.ntmps162
  go_upto_region 1 with fail
  generalize World.alloc _ _ = W1 at *
  have cb := CB.out
  go_wp2_with fail
  refine HF.out.mono ?_
  rintro q w1 ⟨rfl, rfl⟩
  have cz := CZ.out
  have fz := FZ.out
  go_wp2_with fail
  have q := six_set (B := w.heap.size + 1) (v0 := .int .i64 0) (v1 := .int .i64 0) (v2 := .int .i64 0) (v3 := .int .i64 0) (v4 := .int .i64 0) (v5 := .int .i64 0) cz
  exact bodyPost_ret (v := .tuple #[.agg #[.int .i64 0, .int .i64 0, .int .i64 0, .int .i64 0, .int .i64 0, .int .i64 0], .iface 29 (.int .i64 x)]) (by simp [results, Tryz.results162, go_sem, q 0, q 1, q 2, q 3, q 4, q 5]) rfl ⟨rfl, bset6s B1.out⟩
 rw [h0, eV_0] at HF
 obtain ⟨j, rfl, hj⟩ := has_in h0
 obtain ⟨q2, g2, off2, cap2, e2, hq2, hz2⟩ := hv.v.slots
 obtain rfl := hq2 (by omega)
 obtain ⟨s, hs⟩ : ∃ s, p.slots[j] = s := ⟨_, rfl⟩
 have hgd : p.slots.getD j nkey = s := by rw [List.getD_eq_getElem?_getD, List.getElem?_eq_getElem hj]; exact hs
 have hCE : clE p j = if s 0 = 1 then 0 else 3 := by unfold clE; rw [if_pos h0, Int.toNat_natCast, hgd]
 have hl2 : (p.slots.length : Int) ≤ 1000 := by have := hv.f.slots; omega
 have hj2 : (j : Int) < (p.slots.length : Int) := by omega
 have HRS := hid (show RowsIn 7 w (V 2) p.slots from hv.v.slots)
 have RW := hid (show w.rangeAt g2 (off2 + j * 7) [.int .i64 (s 0), .int .i64 (s 1), .int .i64 (s 2), .int .i64 (s 3), .int .i64 (s 4), .int .i64 (s 5)] from fun k x hx => by
  have h1 := hz2 j hj
  rw [hs] at h1
  exact h1 k x (by
   rcases k with _ | _ | _ | _ | _ | _ | k
   all_goals first | exact hx | (exfalso; simp at hx)))
 have KS := hid (fun X (h : Below ((w.alloc (.cells #[.int .i64 j] 3)).alloc (.cells #[.int .i64 0, .int .i64 0, .int .i64 0, .int .i64 0, .int .i64 0, .int .i64 0] 43)).heap.size ((w.alloc (.cells #[.int .i64 j] 3)).alloc (.cells #[.int .i64 0, .int .i64 0, .int .i64 0, .int .i64 0, .int .i64 0, .int .i64 0] 43)) X) => show X.cell? ⟨vb, 2, none⟩ = some (.slice (some ⟨g2, off2, none⟩) p.slots.length cap2) ∧ X.cell? ⟨w.heap.size, 0, none⟩ = some (.int .i64 j) ∧ X.rangeAt g2 (off2 + j * 7) [.int .i64 (s 0), .int .i64 (s 1), .int .i64 (s 2), .int .i64 (s 3), .int .i64 (s 4), .int .i64 (s 5)] from ⟨by rw [range_cell (hv.below (btr B1.out h)).r (k := 2) rfl, e2], (h.cell (by rw [SZ.out]; show w.heap.size < _; omega)).trans CB.out, range_belowO RW.out (btr B1.out h)⟩)
 have HLN := hid hv.f.slots
 have HCD := hid (fun X (h : Below ((w.alloc (.cells #[.int .i64 j] 3)).alloc (.cells #[.int .i64 0, .int .i64 0, .int .i64 0, .int .i64 0, .int .i64 0, .int .i64 0] 43)).heap.size ((w.alloc (.cells #[.int .i64 j] 3)).alloc (.cells #[.int .i64 0, .int .i64 0, .int .i64 0, .int .i64 0, .int .i64 0, .int .i64 0] 43)) X) => anyFrom_any w.heap.size j (.slice (some ⟨g2, off2, none⟩) p.slots.length cap2) p.slots X (by rw [← e2]; exact hv.v.slots.below (btr B1.out h)) hv.f.slots ((h.cell (by rw [SZ.out]; show w.heap.size < _; omega)).trans CB.out))
 have HFR := hid (show p.slots.any (fun f => f 6 == (j : Int)) = frm p j from rfl)
 rw [HFR.out] at HCD
 have HUS : Hid (usV p j = if frm p j = true then s 3 else 0) := hid (by unfold usV; rw [Int.toNat_natCast, hgd])
 have HFD : Hid (clE p j = 0 → fdK p j = upd s 3 (usV p j)) := hid (fun h => by unfold fdK; rw [if_pos h, Int.toNat_natCast, hgd])
 have HFN : Hid (¬ clE p j = 0 → fdK p j = nkey) := hid (fun h => if_neg h)
 clear hs hgd hz2 hq2 hv h0 HV HRS RW e2
 go_enter Tryz.func162, Tryz.ntmps162
 go_upto_region 1 with fail
 generalize World.alloc _ _ = W1 at *
 have cb := CB.out
 go_wp2_with fail
 refine HF.out.mono ?_
 rintro q w1 ⟨rfl, rfl⟩
 clear cb HF
 go_upto_region 4 with fail
 have BD : Hid (Below W1.heap.size W1 W1.drew) := hid (below_drew W1 1)
 refine wp_region_held_drew (S := fun X => X.cell? ⟨vb, 2, none⟩ = some (.slice (some ⟨g2, off2, none⟩) p.slots.length cap2) ∧ X.cell? ⟨w.heap.size, 0, none⟩ = some (.int .i64 j) ∧ X.rangeAt g2 (off2 + j * 7) [.int .i64 (s 0), .int .i64 (s 1), .int .i64 (s 2), .int .i64 (s 3), .int .i64 (s 4), .int .i64 (s 5)]) (by kernel_rfl) (KS.out _ BD.out) (fun hH0 => ?_)
 have hH := hid hH0
 clear hH0
 refine tk 0 (.pointer (some ⟨vb, 0, none⟩)) rfl hH.out ?_
 simp only [jj]
 refine tk 1 (.pointer (some ⟨vb, 0, none⟩)) rfl hH.out ?_
 simp only [jj]
 refine tk 2 (.pointer (some ⟨vb, 2, none⟩)) rfl hH.out ?_
 simp only [jj]
 refine tg 3 (.slice (some ⟨g2, off2, none⟩) p.slots.length cap2) rfl (Or.inl ⟨by rfl, fun W h => by have h3 := h.1; clear h; go_simp⟩) hH.out ?_
 simp only [jj]
 refine tg 4 (.int .i64 j) rfl (Or.inl ⟨by rfl, fun W h => by have h3 := h.2.1; clear h; go_simp⟩) hH.out ?_
 simp only [jj]
 refine tk 5 (.pointer (some ⟨g2, off2 + j * 7, none⟩)) rfl hH.out ?_
 simp only [jj]
 refine tk 6 (.pointer (some ⟨g2, off2 + j * 7, none⟩)) rfl hH.out ?_
 simp only [jj]
 refine tg 7 (.agg #[.int .i64 (s 0), .int .i64 (s 1), .int .i64 (s 2), .int .i64 (s 3), .int .i64 (s 4), .int .i64 (s 5)]) rfl (yieldsIf_load_mid (by rfl) _ _ rfl _ _ rfl ([.int .i64 (s 0), .int .i64 (s 1), .int .i64 (s 2), .int .i64 (s 3), .int .i64 (s 4), .int .i64 (s 5)]) _ (fun _ h => h.2.2) Tryz.underlying43 rfl info6k) hH.out ?_
 simp only [jj]
 have A3 := hid (show Below W1.heap.size W1 (W1.alloc (.cells #[.int .i64 0, .int .i64 0, .int .i64 0, .int .i64 0, .int .i64 0, .int .i64 0] 43)).drew from bal BD.out (.cells #[.int .i64 0, .int .i64 0, .int .i64 0, .int .i64 0, .int .i64 0, .int .i64 0] 43))
 have ck : ∀ o, (W1.alloc (.cells #[.int .i64 0, .int .i64 0, .int .i64 0, .int .i64 0, .int .i64 0, .int .i64 0] 43)).drew.cell? ⟨W1.heap.size, o, none⟩ = (#[.int .i64 0, .int .i64 0, .int .i64 0, .int .i64 0, .int .i64 0, .int .i64 0] : Array Value)[o]? := cells_new W1.drew #[.int .i64 0, .int .i64 0, .int .i64 0, .int .i64 0, .int .i64 0, .int .i64 0] 43
 have fk : ∀ o, (W1.alloc (.cells #[.int .i64 0, .int .i64 0, .int .i64 0, .int .i64 0, .int .i64 0, .int .i64 0] 43)).drew.frozen? ⟨W1.heap.size, o, none⟩ = false := fun o => (World.frozen?_alloc_at _ _ _ _ rfl : (W1.drew.alloc (.cells #[.int .i64 0, .int .i64 0, .int .i64 0, .int .i64 0, .int .i64 0, .int .i64 0] 43)).frozen? ⟨W1.heap.size, o, none⟩ = false)
 refine wpAnyH_ready (rs := [8]) (by kernel_rfl) (by simp) (AllReadyH.cons rfl (fun K hK => ?_) AllReadyH.nil)
 go_simp
 refine hK.out _ _ (KS.out _ A3.out) (fun hH0 => ?_)
 have hH3 := hid hH0
 clear hK K hH0
 try simp only [Act.put, jD, jE, jF]
 generalize World.drew (World.alloc _ _) = W3 at A3 ck fk hH3 ⊢
 obtain ⟨kb, hkb⟩ : ∃ kb, W1.heap.size = kb := ⟨_, rfl⟩
 have HKB := hid hkb
 rw [hkb] at ck fk ⊢
 clear hkb
 have q6 := hid (six_set (B := kb) (v0 := .int .i64 (s 0)) (v1 := .int .i64 (s 1)) (v2 := .int .i64 (s 2)) (v3 := .int .i64 (s 3)) (v4 := .int .i64 (s 4)) (v5 := .int .i64 (s 5)) ck)
 have A4 := hid (bset6k (B := kb) (v0 := .int .i64 (s 0)) (v1 := .int .i64 (s 1)) (v2 := .int .i64 (s 2)) (v3 := .int .i64 (s 3)) (v4 := .int .i64 (s 4)) (v5 := .int .i64 (s 5)) (by rw [HKB.out]; exact Nat.le_refl _) A3.out)
 have F4 := hid (show ∀ o, ((((((W3.setCell ⟨kb, 0, none⟩ (.int .i64 (s 0))).setCell ⟨kb, 1, none⟩ (.int .i64 (s 1))).setCell ⟨kb, 2, none⟩ (.int .i64 (s 2))).setCell ⟨kb, 3, none⟩ (.int .i64 (s 3))).setCell ⟨kb, 4, none⟩ (.int .i64 (s 4))).setCell ⟨kb, 5, none⟩ (.int .i64 (s 5))).frozen? ⟨kb, o, none⟩ = false from fun o => by simp [fk])
 refine wpAnyH_ready (rs := [9]) (by kernel_rfl) (by simp) (AllReadyH.cons rfl (fun K hK => ?_) AllReadyH.nil)
 go_simp
 refine hK.out _ _ (KS.out _ A4.out) (fun hH0 => ?_)
 have hH4 := hid hH0
 clear hK K hH0
 try simp only [Act.put]
 refine wpAnyH_done (by kernel_rfl) ?_ _
 clear hH hH3 hH4 ck fk A3 BD
 generalize World.setCell _ _ _ = W4 at *
 have cz4 := hid (cells_next CZ.out (show w.heap.size + 1 < W1.heap.size by rw [SZ.out]; omega) A4.out)
 have fz4 := hid (fun o => (A4.out.frozen (p := ⟨w.heap.size + 1, o, none⟩) (show w.heap.size + 1 < W1.heap.size by rw [SZ.out]; omega)).trans (FZ.out o))
 have A5 := hid (btr B1.out A4.out)
 have LT4 := hid (show kb < W4.heap.size from World.block_lt_of_cell? _ ⟨kb, 0, none⟩ (q6.out 0))
 have LTZ := hid (show w.heap.size + 1 < W4.heap.size from World.block_lt_of_cell? _ ⟨w.heap.size + 1, 0, none⟩ (cz4.out 0))
 have c0 := q6.out 0
 by_cases h1 : s 0 = 1
 rotate_left
 ·have h1b : (s 0 != 1) = true := by simpa using h1
  rw [if_neg h1] at hCE
  have HK := hid (HFN.out (by rw [hCE]; decide))
  have HC3 := hid hCE
  clear h1 hCE HCD HFD HFN KS HUS
  have cz := cz4.out
  have fz := fz4.out
  go_wp2_with fail
  have q := six_set (B := w.heap.size + 1) (v0 := .int .i64 0) (v1 := .int .i64 0) (v2 := .int .i64 0) (v3 := .int .i64 0) (v4 := .int .i64 0) (v5 := .int .i64 0) cz
  exact bodyPost_ret (v := .tuple #[.agg #[.int .i64 0, .int .i64 0, .int .i64 0, .int .i64 0, .int .i64 0, .int .i64 0], .iface 29 (.int .i64 3)]) (by simp [results, Tryz.results162, go_sem, q 0, q 1, q 2, q 3, q 4, q 5]) rfl ⟨by rw [HK.out, HC3.out]; rfl, bset6s A5.out⟩
 have HCE := hid (show clE p j = 0 by rw [hCE, if_pos h1])
 have HK := hid (HFD.out HCE.out)
 rw [h1] at c0
 have h11 : ((1 : Int) != 1) = false := rfl
 have HS1 := hid h1
 have c2 := (KS.out _ A4.out).1
 clear h1 hCE HFN HFD KS h11
 go_wp2_with fail
 refine (HCD.out _ A4.out).mono ?_
 rintro q w5 ⟨rfl, hb⟩
 have q5 := hid (cells_next q6.out LT4.out hb)
 have F5 := hid (fun o => (hb.frozen (p := ⟨kb, o, none⟩) LT4.out).trans (F4.out o))
 have cz := cells_next cz4.out LTZ.out hb
 have fz := fun o => (hb.frozen (p := ⟨w.heap.size + 1, o, none⟩) LTZ.out).trans (fz4.out o)
 have A6 := hid (btr A5.out hb)
 have hne := hid (show kb ≠ w.heap.size + 1 by rw [← HKB.out, SZ.out]; omega)
 clear hb c0 c2 HCD q6 F4 cz4 fz4 A5
 cases hfr : frm p j with
 | true =>
  rw [hfr, if_pos rfl] at HUS
  have d0 := q5.out 0
  have d1 := q5.out 1
  have d2 := q5.out 2
  have d3 := q5.out 3
  have d4 := q5.out 4
  have d5 := q5.out 5
  go_wp2_with fail
  have q := six_set (B := w.heap.size + 1) (v0 := .int .i64 (s 0)) (v1 := .int .i64 (s 1)) (v2 := .int .i64 (s 2)) (v3 := .int .i64 (s 3)) (v4 := .int .i64 (s 4)) (v5 := .int .i64 (s 5)) cz
  exact bodyPost_ret (v := .tuple #[.agg #[.int .i64 (s 0), .int .i64 (s 1), .int .i64 (s 2), .int .i64 (s 3), .int .i64 (s 4), .int .i64 (s 5)], .nilIface]) (by simp [results, Tryz.results162, go_sem, q 0, q 1, q 2, q 3, q 4, q 5]) rfl ⟨by rw [HK.out, HCE.out, HUS.out]; rfl, bset6s A6.out⟩
 | false =>
  rw [hfr, if_neg (by decide)] at HUS
  have e := hid (cells_set q5.out 3 (by simp) (.int .i64 0))
  have d0 : (w5.setCell ⟨kb, 3, none⟩ (.int .i64 0)).cell? ⟨kb, 0, none⟩ = some (.int .i64 (s 0)) := e.out 0
  have d1 : (w5.setCell ⟨kb, 3, none⟩ (.int .i64 0)).cell? ⟨kb, 1, none⟩ = some (.int .i64 (s 1)) := e.out 1
  have d2 : (w5.setCell ⟨kb, 3, none⟩ (.int .i64 0)).cell? ⟨kb, 2, none⟩ = some (.int .i64 (s 2)) := e.out 2
  have d3 : (w5.setCell ⟨kb, 3, none⟩ (.int .i64 0)).cell? ⟨kb, 3, none⟩ = some (.int .i64 0) := e.out 3
  have d4 : (w5.setCell ⟨kb, 3, none⟩ (.int .i64 0)).cell? ⟨kb, 4, none⟩ = some (.int .i64 (s 4)) := e.out 4
  have d5 : (w5.setCell ⟨kb, 3, none⟩ (.int .i64 0)).cell? ⟨kb, 5, none⟩ = some (.int .i64 (s 5)) := e.out 5
  have p3 := q5.out 3
  have r3 := F5.out 3
  have cz2 := cells_far cz (B := kb) (i := 3) hne.out (.int .i64 0)
  have fz2 : ∀ o, (w5.setCell ⟨kb, 3, none⟩ (.int .i64 0)).frozen? ⟨w.heap.size + 1, o, none⟩ = false := fun o => by simp [fz]
  have A7 := hid (bset A6.out (b := kb) (o := 3) (by rw [← HKB.out, SZ.out]; omega) (.int .i64 0))
  go_upto_region 9 with fail
  generalize World.setCell _ _ _ = W6 at *
  go_wp2_with fail
  have q := six_set (B := w.heap.size + 1) (v0 := .int .i64 (s 0)) (v1 := .int .i64 (s 1)) (v2 := .int .i64 (s 2)) (v3 := .int .i64 0) (v4 := .int .i64 (s 4)) (v5 := .int .i64 (s 5)) cz2
  exact bodyPost_ret (v := .tuple #[.agg #[.int .i64 (s 0), .int .i64 (s 1), .int .i64 (s 2), .int .i64 0, .int .i64 (s 4), .int .i64 (s 5)], .nilIface]) (by simp [results, Tryz.results162, go_sem, q 0, q 1, q 2, q 3, q 4, q 5]) rfl ⟨by rw [HK.out, HCE.out, HUS.out]; rfl, bset6s A7.out⟩
set_option maxRecDepth 100000 in
theorem left_any (s : Nat → Int) (w : World) (h2 : 0 ≤ s 2 ∧ s 2 ≤ 1000) (h3 : 0 ≤ s 3 ∧ s 3 ≤ 1000) :
  Calls Tryz.prog 164 #[.agg (kv s)] w fun r w' => r = .returned (.int .i64 (s 2 - s 3)) ∧ Below w.heap.size w w' := by
 have B0 := hid (bal (Below.refl w.heap.size w) (.cells #[.int .i64 (s 0), .int .i64 (s 1), .int .i64 (s 2), .int .i64 (s 3), .int .i64 (s 4), .int .i64 (s 5)] 43))
 have k2 := cells_new w #[.int .i64 (s 0), .int .i64 (s 1), .int .i64 (s 2), .int .i64 (s 3), .int .i64 (s 4), .int .i64 (s 5)] 43 2
 have k3 := cells_new w #[.int .i64 (s 0), .int .i64 (s 1), .int .i64 (s 2), .int .i64 (s 3), .int .i64 (s 4), .int .i64 (s 5)] 43 3
 obtain ⟨a2, b2⟩ := h2
 obtain ⟨a3, b3⟩ := h3
 unfold kv
 go_enter Tryz.func164, Tryz.ntmps164
 go_wp2_with fail
 go_ret
 exact ⟨rfl, B0.out⟩
/-- What is wrong with slots to which something shall go. -/
def usd (p : PW) (t m : Nat) : Bool := ((p.slots.drop t).take m).any (fun f => f 0 != 0)
def fcE (p : PW) (t : Nat) (m : Int) : Int := if p.kinds.getD (t / 16) 0 = 5 then (if within 1 (16 - (t : Int) % 16) m = true then (if usd p t m.toNat = true then 12 else 0) else 2) else 3
theorem rows_cut {w : World} {b off cap t m : Nat} {fs : List (Nat → Int)} (h : RowsIn 7 w (.slice (some ⟨b, off, none⟩) fs.length cap) fs) (hm : t + m ≤ fs.length) (c2 : Nat) : RowsIn 7 w (.slice (some ⟨b, off + t * 7, none⟩) m c2) ((fs.drop t).take m) := by
 obtain ⟨q, b2, o2, cap2, e, hq, hz⟩ := h
 have hl : ((fs.drop t).take m).length = m := by rw [List.length_take, List.length_drop]; omega
 rw [show (Value.slice (some ⟨b, off + t * 7, none⟩) m c2) = .slice (some ⟨b, off + t * 7, none⟩) ((fs.drop t).take m).length c2 by rw [hl]]
 refine ⟨_, b, off + t * 7, c2, rfl, fun _ => rfl, fun j hj => ?_⟩
 rw [hl] at hj
 have h1 := hq (by omega)
 cases e
 cases h1
 have h2 := hz (t + j) (by omega)
 rw [List.getElem_take, List.getElem_drop]
 rw [show off + t * 7 + j * 7 = off + (t + j) * 7 by omega]
 exact h2
set_option maxRecDepth 100000 in
set_option maxHeartbeats 4000000 in
theorem freeC_any (vb : Nat) (V : Nat → Value) (p : PW) (t : Nat) (m : Int) (w : World) (hv : ViewAt w vb V p) (hk : p.slots.length = p.kinds.length * 16) (hcp : ∀ q n c, V 2 = .slice q n c → n ≤ c) (ht : t < p.slots.length) :
  Calls Tryz.prog 163 #[.pointer (some ⟨vb, 0, none⟩), .int .i64 t, .int .i64 m] w fun r w' => r = .returned (eV (fcE p t m)) ∧ Below w.heap.size w w' := by
 have c2 : w.cell? ⟨vb, 2, none⟩ = some (V 2) := range_cell hv.r rfl
 have c1 : w.cell? ⟨vb, 1, none⟩ = some (V 1) := range_cell hv.r rfl
 have hsl := hv.v.slots
 obtain ⟨q2, b2, off2, cap2, e2, hq2, hz2⟩ := hv.v.slots
 obtain ⟨q1, b1, off1, cap1, e1, hq1, hz1⟩ := hv.v.kinds
 have hl2 : (p.slots.length : Int) ≤ 1000 := by have := hv.f.slots; omega
 have hl1 : (p.kinds.length : Int) ≤ 1000 := by have := hv.f.kinds; omega
 have ht2 : (t : Int) < (p.slots.length : Int) := by omega
 obtain rfl := hq2 (by omega)
 have hk2 : t / 16 < p.kinds.length := by omega
 have hk3 : ((t : Int) / 16) = ((t / 16 : Nat) : Int) := by omega
 have hk4 : ((t / 16 : Nat) : Int) < (p.kinds.length : Int) := by omega
 obtain rfl := hq1 (by omega)
 have z0 := hz1 (t / 16) hk2
 have HA := hid (show fcE p t m = if p.kinds[t / 16] = 5 then (if within 1 (16 - (t : Int) % 16) m = true then (if usd p t m.toNat = true then 12 else 0) else 2) else 3 by unfold fcE; rw [getD_at hk2])
 generalize p.kinds[t / 16] = kd at z0 HA
 have HMX := hid (show t % 16 < 16 ∧ t + (16 - t % 16) ≤ p.slots.length by omega)
 obtain ⟨tm, htm⟩ : ∃ tm : Int, (t : Int) % 16 = tm := ⟨_, rfl⟩
 have htm0 : 0 ≤ tm ∧ tm < 16 := by omega
 obtain ⟨htm1, htm2⟩ := htm0
 have HCP := hid (hcp _ _ _ e2)
 rw [e2] at c2 hsl
 rw [e1] at c1
 have HS := hid hsl
 have HT := hid htm
 rw [htm] at HA
 generalize t / 16 = i at *
 clear hz2 hq2 hz1 hq1 hk hk2 hsl hv e1 e2 hcp
 by_cases h5 : kd = 5
 rotate_left
 ·have HN := hid (show fcE p t m = 3 by rw [HA.out, if_neg h5])
  have h5b : (kd != 5) = true := by simpa using h5
  clear h5
  go_enter Tryz.func163, Tryz.ntmps163
  go_wp2_with fail
  go_ret
  exact ⟨by rw [HN.out]; rfl, Below.refl _ _⟩
 subst h5
 rw [if_pos rfl] at HA
 cases hw : within 1 (16 - tm) m with
 | false =>
  have HN := hid (show fcE p t m = 2 by rw [HA.out, hw, if_neg (by decide)])
  have HW := hid (fun X => withinB m 1 (16 - tm) X)
  rw [hw] at HW
  clear hw
  go_enter Tryz.func163, Tryz.ntmps163
  go_wp2_with fail
  refine (HW.out _).mono ?_
  rintro r w1 ⟨rfl, rfl⟩
  go_wp2_with fail
  go_ret
  exact ⟨by rw [HN.out]; rfl, Below.refl _ _⟩
 | true =>
 rw [hw, if_pos rfl] at HA
 have HW := hid (fun X => withinB m 1 (16 - tm) X)
 rw [hw] at HW
 unfold within at hw
 have hw2 := of_decide_eq_true hw
 obtain ⟨mn, rfl⟩ : ∃ mn : Nat, m = mn := ⟨m.toNat, by omega⟩
 rw [Int.toNat_natCast] at HA
 have hmx : t + mn ≤ p.slots.length := by have := HMX.out; have := HT.out; omega
 have hmx2 : (t : Int) + (mn : Int) ≤ (cap2 : Int) := by have := HCP.out; omega
 have hmx3 : ¬ (cap2 = t) := by have := HCP.out; omega
 have hmx4 : (t : Int) + (mn : Int) - (t : Int) = mn := by omega
 have hmx5 : t + mn - t = mn := by omega
 have HCF := hid (fun c2 => anySome_any (.slice (some ⟨b2, off2 + t * 7, none⟩) mn c2) ((p.slots.drop t).take mn) w (rows_cut HS.out hmx c2) (by rw [List.length_take, List.length_drop]; omega))
 have HU := hid (show ((p.slots.drop t).take mn).any (fun f => f 0 != 0) = usd p t mn from rfl)
 rw [HU.out] at HCF
 clear hw hw2 HU
 cases hu : usd p t mn with
 | true =>
  have HN := hid (show fcE p t mn = 12 by rw [HA.out, hu, if_pos rfl])
  rw [hu] at HCF
  go_enter Tryz.func163, Tryz.ntmps163
  go_wp2_with fail
  refine (HW.out _).mono ?_
  rintro r w1 ⟨rfl, rfl⟩
  go_wp2_with fail
  refine (HCF.out _).mono ?_
  rintro r w1 ⟨rfl, hb⟩
  have BB := hid hb
  clear hb
  go_wp2_with fail
  go_ret
  exact ⟨by rw [HN.out]; rfl, BB.out⟩
 | false =>
  have HN := hid (show fcE p t mn = 0 by rw [HA.out, hu, if_neg (by decide)])
  rw [hu] at HCF
  go_enter Tryz.func163, Tryz.ntmps163
  go_wp2_with fail
  refine (HW.out _).mono ?_
  rintro r w1 ⟨rfl, rfl⟩
  go_wp2_with fail
  refine (HCF.out _).mono ?_
  rintro r w1 ⟨rfl, hb⟩
  have BB := hid hb
  clear hb
  go_wp2_with fail
  go_ret
  exact ⟨by rw [HN.out]; rfl, BB.out⟩
/-- So many noughts from one on. -/
def zr (n : Nat) (l : List Int) (a : Nat) : List Int := if h : n = 0 then l else zr (n - 1) (l.set a 0) (a + 1)
theorem zr_zero (l : List Int) (a : Nat) : zr 0 l a = l := by rw [zr, dif_pos rfl]
theorem zr_step (n : Nat) (l : List Int) (a : Nat) : zr (n + 1) l a = zr n (l.set a 0) (a + 1) := by rw [zr, dif_neg (Nat.succ_ne_zero n), Nat.add_sub_cancel]
theorem zr_len : ∀ (n : Nat) (l : List Int) (a : Nat), (zr n l a).length = l.length
 | 0, l, a => by rw [zr_zero]
 | n + 1, l, a => by rw [zr_step, zr_len n, List.length_set]
def shP (p : PW) (f : Nat) (k : Int) : PW := { p with kinds := p.kinds.set f k, ram := zr 16 p.ram (f * 16) }
theorem ram_zero {wb : Nat} {tag : Nat → Nat} {V : Nat → Value} {g cap : Nat} : ∀ (n : Nat) (p : PW) (a : Nat) (W : World), BoxT W wb tag V p → V 0 = .slice (some ⟨g, 0, none⟩) p.ram.length cap → BoxT (W.setCells g a (List.replicate n (.int .i64 0))) wb tag V { p with ram := zr n p.ram a } ∧ Kt tag tag W (W.setCells g a (List.replicate n (.int .i64 0)))
 | 0, p, a, W, h, _ => by
  rw [zr_zero]
  exact ⟨h, Kt.refl _ _⟩
 | n + 1, p, a, W, h, e => by
  rw [List.replicate_succ, World.setCells, zr_step]
  obtain ⟨h1, k1⟩ := h.ramCell e a 0
  obtain ⟨h2, k2⟩ := ram_zero n { p with ram := p.ram.set a 0 } (a + 1) _ h1 (by show V 0 = .slice (some ⟨g, 0, none⟩) (p.ram.set a 0).length cap; rw [List.length_set]; exact e)
  exact ⟨h2, k1.trans k2⟩
theorem InT.capLe {w : World} {tag : Nat → Nat} {t I s n g cap : Nat} {xs : List Value} (h : InT w tag t I s (.slice (some ⟨g, 0, none⟩) n cap) (n, xs)) : n ≤ cap := by
 rcases h.1.2 with ⟨h1, _⟩ | ⟨g2, cap2, cur, h1, _, _, h2, _⟩
 ·cases h1
 ·cases h1
  exact h2
theorem BoxT.ramCap {W : World} {wb : Nat} {tag : Nat → Nat} {V : Nat → Value} {p : PW} (h : BoxT W wb tag V p) {g cap : Nat} (e : V 0 = .slice (some ⟨g, 0, none⟩) p.ram.length cap) : p.ram.length ≤ cap := by
 have h2 := h.o.ram
 rw [e] at h2
 exact h2.capLe
theorem BoxT.kindsThere {W : World} {wb : Nat} {tag : Nat → Nat} {V : Nat → Value} {p : PW} (h : BoxT W wb tag V p) {g cap : Nat} (e : V 1 = .slice (some ⟨g, 0, none⟩) p.kinds.length cap) (o m : Nat) (hm : o + m ≤ p.kinds.length) : W.there g o m := by
 have h2 := h.o.kinds
 rw [e] at h2
 exact h2.there o m (by omega)
theorem BoxT.ramThere {W : World} {wb : Nat} {tag : Nat → Nat} {V : Nat → Value} {p : PW} (h : BoxT W wb tag V p) {g cap : Nat} (e : V 0 = .slice (some ⟨g, 0, none⟩) p.ram.length cap) (o m : Nat) (hm : o + m ≤ p.ram.length) : W.there g o m := by
 have h2 := h.o.ram
 rw [e] at h2
 exact h2.there o m (by omega)
theorem zero_int (w : World) : (zeroValue 3).run Tryz.prog w = .ok (.int .i64 0) w := by kernel_rfl
set_option maxRecDepth 100000 in
set_option maxHeartbeats 4000000 in
theorem shape_any (wb : Nat) (tag : Nat → Nat) (V : Nat → Value) (p : PW) (f : Nat) (k : Int) (W : World) (bt : BoxT W wb tag V p) (hp : p.Fits) (hf : f < p.kinds.length) (hr : p.ram.length = p.kinds.length * 16) :
  Calls Tryz.prog 165 #[.pointer (some ⟨wb, 0, none⟩), .int .i64 f, .int .i64 k] W fun r W' => r = .returned (.tuple #[]) ∧ BoxT W' wb tag V (shP p f k) ∧ Kt tag tag W W' := by
 have hl1 : (p.kinds.length : Int) ≤ 1000 := by have := hp.kinds; omega
 have hl0 : (p.ram.length : Int) ≤ 1000 := by have := hp.ram; omega
 have hf2 : (f : Int) < (p.kinds.length : Int) := by omega
 obtain ⟨g1, cap1, e1⟩ := bt.o.kinds.form (by omega)
 obtain ⟨g0, cap0, e0⟩ := bt.o.ram.form (by omega)
 have HE0 := hid e0
 have c1 : W.cell? ⟨wb, 1, none⟩ = some (.slice (some ⟨g1, 0, none⟩) p.kinds.length cap1) := by rw [range_cell bt.r (k := 1) rfl, e1]
 have x1f := (bt.kindsThere e1 f 1 (by omega) 0 (by omega)).2
 rw [Nat.add_zero] at x1f
 obtain ⟨y1, x1a⟩ : ∃ y, W.cell? ⟨g1, f, none⟩ = some y := by
  have h1 := (bt.kindsThere e1 f 1 (by omega) 0 (by omega)).1
  rw [Nat.add_zero] at h1
  exact Option.isSome_iff_exists.1 h1
 have hcp := bt.ramCap e0
 have hc1 : ((f : Int) + 1) * 16 ≤ (cap0 : Int) := by omega
 have hc2 : ¬ (cap0 = f * 16) := by omega
 have hc3 : ((f : Int) + 1) * 16 - (f : Int) * 16 = 16 := by omega
 have hc4 : (f + 1) * 16 - f * 16 = 16 := by omega
 obtain ⟨b1, k1⟩ := bt.kindsCell e1 f k
 have B1 := hid b1
 have K1 := hid k1
 have hr1 : ((f + 1 : Nat) : Int) * 16 ≤ (p.ram.length : Int) := by omega
 have HR0 := hid (show f * 16 + 16 ≤ p.ram.length by omega)
 clear bt hp hf hr e1 e0 b1 k1 hcp
 go_enter Tryz.func165, Tryz.ntmps165
 go_upto_region 1 with fail
 generalize World.setCell _ _ _ = W1 at *
 clear c1 x1a x1f
 have c0 : W1.cell? ⟨wb, 0, none⟩ = some (.slice (some ⟨g0, 0, none⟩) p.ram.length cap0) := by rw [range_cell B1.out.r (k := 0) rfl, HE0.out]
 have HTH := hid (B1.out.ramThere HE0.out (f * 16) 16 HR0.out)
 obtain ⟨b2, k2⟩ := ram_zero 16 { p with kinds := p.kinds.set f k } (f * 16) W1 B1.out HE0.out
 have B2 := hid b2
 have K2 := hid (K1.out.trans k2)
 clear b2 k2
 have hcl : ∀ ty c, (Builtin.clear_ #[22] ty #[.slice (some ⟨g0, f * 16, none⟩) 16 c]).run Tryz.prog W1 = .ok (.tuple #[]) (W1.setCells g0 (f * 16) (List.replicate 16 (.int .i64 0))) := fun ty c => Lib.run_clear_slice W1 22 3 ty (.int .i64 0) Tryz.underlying22 zero_int rfl rfl g0 (f * 16) 16 c (by decide) (fun j hj => (HTH.out j hj).1) (fun j hj => (HTH.out j hj).2)
 go_wp2_with (simp only [hcl])
 exact bodyPost_end (results_none rfl _ _ _) rfl ⟨rfl, B2.out, K2.out⟩
def tagC (tag : Nat → Nat) (c k : Nat) : Nat := if k < c then tag k else 0
theorem tagC_lt {tag : Nat → Nat} {c k : Nat} (h : k < c) : tagC tag c k = tag k := if_pos h
theorem retagC {W : World} {wb : Nat} {tag : Nat → Nat} {V : Nat → Value} {p : PW} (h : BoxT W wb tag V p) : BoxT W wb (tagC tag W.heap.size) V p ∧ Kt tag (tagC tag W.heap.size) W W :=
 ⟨h.kp (T := fun _ => False) (Kp.refl _ _) (fun _ _ e => e.elim) (fun _ hk => tagC_lt hk), Kt.of (T := fun _ => False) (Kp.refl _ _) (fun _ e => e.elim) (fun _ hk => tagC_lt hk)⟩
theorem Kt.setOut {tag tag' : Nat → Nat} {W X : World} (h : Kt tag tag' W X) {b o : Nat} (hb : W.heap.size ≤ b) (v : Value) : Kt tag tag' W (X.setCell ⟨b, o, none⟩ v) := by
 have h2 := (Below.refl 0 X).setCell (p := ⟨b, o, none⟩) (Nat.zero_le _) v
 exact ⟨⟨h2.os.trans h.k.os, h2.tape.trans h.k.tape, h2.output.trans h.k.output, Nat.le_trans h.k.size h2.size, fun i hi hn => (Below.heap_setCell X ⟨b, o, none⟩ v i (show i ≠ b by omega)).trans (h.k.block i hi hn)⟩, h.t⟩
theorem Kt.there {tag tag' : Nat → Nat} {W X : World} (h : Kt tag tag' W X) {b n : Nat} (ht : W.there b 0 n) (h0 : tag b = 0) : X.there b 0 n := there_kp ht h.k (fun e => e h0)
theorem range_upd {W : World} {b : Nat} {f : Nat → Int} (h : W.rangeAt b 0 (cf 6 f)) (x : Int) : (W.setCell ⟨b, 3, none⟩ (.int .i64 x)).rangeAt b 0 (cf 6 (upd f 3 x)) := fun o v hv => by
 have ho : o < 6 := by
  have := (List.getElem?_eq_some_iff.1 hv).1
  rwa [cf_len] at this
 rw [cf_at 6 _ o ho] at hv
 have h1 := h o _ (cf_at 6 f o ho)
 have h3 := h 3 _ (cf_at 6 f 3 (by omega))
 rw [Nat.zero_add] at h1 h3 ⊢
 by_cases e : o = 3
 ·subst e
  rw [← hv]
  exact World.cell?_setCell_same _ _ _ h3
 ·rw [← hv, World.cell?_setCell_other _ _ _ _ (by intro e2; cases e2; exact e rfl), h1]
  unfold upd
  rw [if_neg e]
theorem wp_stK {ops : Array Oper} {rest : List Oper} {op : Oper} {a : Act} {w : World} {Q : Exit → Act → World → Prop} (hgd : op.guard = none) (x y : Operand) (ho : op.op = .store 43 x y)
  (b o : Nat) (hx : a.eval x = .pointer (some ⟨b, o, none⟩)) (cs : List Value) (hy : a.eval y = .agg cs.toArray) (hl : cs.length = 6) (h1 : ∀ v ∈ cs, v.oneCell' = true) (ht : w.there b o 6)
  (h : wpList Tryz.prog ops Q rest (a.put op.dst undef) (w.setCells b o cs)) : wpList Tryz.prog ops Q (op :: rest) a w :=
 wpList_store_mid hgd 43 x y ho b o cs.toArray hx hy (by simpa [hl] using ht) (by rw [info6k]; simp [hl]) (all_oneCell_toArray h1) (by simpa using h)
/-- A key's cells of a slot, written. -/
theorem BoxT.slotsSome {wb : Nat} {tag : Nat → Nat} {V : Nat → Value} {g cap i : Nat} (f : Nat → Int) : ∀ (n a : Nat) (p : PW) (W : World), a + n ≤ 7 → BoxT W wb tag V p → V 2 = .slice (some ⟨g, 0, none⟩) p.slots.length cap → (hi : i < p.slots.length) → BoxT (W.setCells g (i * 7 + a) ((List.range' a n).map fun k => .int .i64 (f k))) wb tag V { p with slots := p.slots.set i (fun k => if a ≤ k ∧ k < a + n then f k else p.slots[i] k) } ∧ Kt tag tag W (W.setCells g (i * 7 + a) ((List.range' a n).map fun k => .int .i64 (f k)))
 | 0, a, p, W, _, h, _, hi => by
  refine ⟨?_, Kt.refl _ _⟩
  have e : (fun k => if a ≤ k ∧ k < a + 0 then f k else p.slots[i] k) = p.slots[i] := by
   funext k
   rw [if_neg (by omega)]
  rw [e, List.set_getElem_self]
  exact h
 | n + 1, a, p, W, hn, h, e, hi => by
  rw [List.range'_succ, List.map_cons, World.setCells]
  obtain ⟨h1, k1⟩ := h.slotsCell e hi (show a < 7 by omega) (f a)
  have hi2 : i < (p.slots.set i (upd p.slots[i] a (f a))).length := by rw [List.length_set]; exact hi
  obtain ⟨h2, k2⟩ := BoxT.slotsSome f n (a + 1) { p with slots := p.slots.set i (upd p.slots[i] a (f a)) } _ (by omega) h1 (by rw [List.length_set]; exact e) hi2
  refine ⟨?_, k1.trans k2⟩
  have e2 : (p.slots.set i (upd p.slots[i] a (f a))).set i (fun k => if a + 1 ≤ k ∧ k < a + 1 + n then f k else (p.slots.set i (upd p.slots[i] a (f a)))[i] k) = p.slots.set i (fun k => if a ≤ k ∧ k < a + (n + 1) then f k else p.slots[i] k) := by
   rw [List.set_set]
   congr 1
   funext k
   rw [List.getElem_set_self]
   unfold upd
   by_cases h3 : a ≤ k ∧ k < a + (n + 1)
   ·rw [if_pos h3]
    by_cases h4 : k = a
    ·rw [if_neg (by omega), if_pos h4, h4]
    ·rw [if_pos (by omega)]
   ·rw [if_neg h3, if_neg (by omega), if_neg (by omega)]
  rw [← e2]
  exact h2
theorem BoxT.slotsKey {W : World} {wb : Nat} {tag : Nat → Nat} {V : Nat → Value} {p : PW} (h : BoxT W wb tag V p) {g cap : Nat} (e : V 2 = .slice (some ⟨g, 0, none⟩) p.slots.length cap) {i : Nat} (hi : i < p.slots.length) (f : Nat → Int) (h6 : f 6 = p.slots[i] 6) (h7 : ∀ k, 7 ≤ k → f k = p.slots[i] k) :
  BoxT (W.setCells g (i * 7) (cf 6 f)) wb tag V { p with slots := p.slots.set i f } ∧ Kt tag tag W (W.setCells g (i * 7) (cf 6 f)) := by
 have h1 := BoxT.slotsSome (i := i) f 6 0 p W (by omega) h e hi
 have e1 : ((List.range' 0 6).map fun k => Value.int .i64 (f k)) = cf 6 f := rfl
 have e2 : (fun k => if 0 ≤ k ∧ k < 0 + 6 then f k else p.slots[i] k) = f := by
  funext k
  by_cases h2 : k < 6
  ·rw [if_pos (by omega)]
  ·rw [if_neg (by omega)]
   by_cases h3 : k = 6
   ·rw [h3, h6]
   ·rw [h7 k (by omega)]
 rw [e1, e2, Nat.add_zero] at h1
 exact h1
theorem BoxT.slotsThere {W : World} {wb : Nat} {tag : Nat → Nat} {V : Nat → Value} {p : PW} (h : BoxT W wb tag V p) {g cap : Nat} (e : V 2 = .slice (some ⟨g, 0, none⟩) p.slots.length cap) (o m : Nat) (hm : o + m ≤ p.slots.length * 7) : W.there g o m := by
 have h2 := h.o.slots
 rw [e] at h2
 exact h2.there o m hm
theorem BoxT.slotsCap {W : World} {wb : Nat} {tag : Nat → Nat} {V : Nat → Value} {p : PW} (h : BoxT W wb tag V p) {g cap : Nat} (e : V 2 = .slice (some ⟨g, 0, none⟩) p.slots.length cap) : p.slots.length ≤ cap := by
 have h2 := h.o.slots
 rw [e] at h2
 exact h2.capLe
/-- A new slot. -/
def nsl (k f n : Int) : Nat → Int := fun i => if i = 0 then k else if i = 1 then f else if i = 2 then 1 else if i = 4 then 7 else if i = 6 then n else 0
def mk1 (q : PW) (n k : Int) (b t i : Nat) : PW := { shP q (b + i) k with slots := q.slots.set (t + i) (nsl k ((b + i : Nat) : Int) n) }
def mkI (p : PW) (n k : Int) (b t : Nat) : Nat → PW
 | 0 => p
 | i + 1 => mk1 (mkI p n k b t i) n k b t i
theorem mkI_succ (p : PW) (n k : Int) (b t i : Nat) : mkI p n k b t (i + 1) = mk1 (mkI p n k b t i) n k b t i := rfl
theorem mk1_kinds (q : PW) (n k : Int) (b t i : Nat) : (mk1 q n k b t i).kinds = q.kinds.set (b + i) k := rfl
theorem mk1_ram (q : PW) (n k : Int) (b t i : Nat) : (mk1 q n k b t i).ram = zr 16 q.ram ((b + i) * 16) := rfl
theorem mk1_slots (q : PW) (n k : Int) (b t i : Nat) : (mk1 q n k b t i).slots = q.slots.set (t + i) (nsl k ((b + i : Nat) : Int) n) := rfl
theorem mk1_rest (q : PW) (n k : Int) (b t i : Nat) : (mk1 q n k b t i).tasks = q.tasks ∧ (mk1 q n k b t i).lines = q.lines ∧ (mk1 q n k b t i).bits = q.bits ∧ (mk1 q n k b t i).cores = q.cores ∧ (mk1 q n k b t i).ready = q.ready ∧ (mk1 q n k b t i).tlbs = q.tlbs ∧ (mk1 q n k b t i).doms = q.doms := ⟨rfl, rfl, rfl, rfl, rfl, rfl, rfl⟩
theorem mkI_len (p : PW) (n k : Int) (b t : Nat) : ∀ i, (mkI p n k b t i).kinds.length = p.kinds.length ∧ (mkI p n k b t i).ram.length = p.ram.length ∧ (mkI p n k b t i).slots.length = p.slots.length
 | 0 => ⟨rfl, rfl, rfl⟩
 | i + 1 => by
  have h := mkI_len p n k b t i
  rw [mkI_succ, mk1_kinds, mk1_ram, mk1_slots, List.length_set, zr_len, List.length_set]
  exact h
theorem mkI_rest (p : PW) (n k : Int) (b t : Nat) : ∀ i, (mkI p n k b t i).tasks = p.tasks ∧ (mkI p n k b t i).lines = p.lines ∧ (mkI p n k b t i).bits = p.bits ∧ (mkI p n k b t i).cores = p.cores ∧ (mkI p n k b t i).ready = p.ready ∧ (mkI p n k b t i).tlbs = p.tlbs ∧ (mkI p n k b t i).doms = p.doms
 | 0 => ⟨rfl, rfl, rfl, rfl, rfl, rfl, rfl⟩
 | i + 1 => by
  have h := mkI_rest p n k b t i
  obtain ⟨r1, r2, r3, r4, r5, r6, r7⟩ := mk1_rest (mkI p n k b t i) n k b t i
  rw [mkI_succ, r1, r2, r3, r4, r5, r6, r7]
  exact h
theorem mkI_fits {p : PW} (h : p.Fits) (n k : Int) (b t i : Nat) : (mkI p n k b t i).Fits := by
 obtain ⟨h1, h2, h3⟩ := mkI_len p n k b t i
 obtain ⟨r1, r2, r3, r4, r5, r6, r7⟩ := mkI_rest p n k b t i
 exact ⟨by rw [h2]; exact h.ram, by rw [h1]; exact h.kinds, by rw [h3]; exact h.slots, by rw [r1]; exact h.tasks, by rw [r2]; exact h.lines, by rw [r2]; exact h.line, by rw [r3]; exact h.bits, by rw [r4]; exact h.cores, by rw [r5]; exact h.ready, by rw [r5]; exact h.next, by rw [r6]; exact h.tlbs, by rw [r7]; exact h.doms⟩
theorem mkI_at (p : PW) (n k : Int) (b t j : Nat) : ∀ i, (j < t ∨ t + i ≤ j) → (mkI p n k b t i).slots[j]? = p.slots[j]?
 | 0, _ => rfl
 | i + 1, h => by
  rw [mkI_succ, mk1_slots, List.getElem?_set_ne (by omega)]
  exact mkI_at p n k b t j i (by omega)
def mkB (p : PW) (n : Int) : Nat := ((p.slots.getD n.toNat nkey) 1 + usV p n).toNat
/-- Making. -/
def mkP (p : PW) (n k m t : Int) : PW := { mkI p n k (mkB p n) t.toNat m.toNat with slots := (mkI p n k (mkB p n) t.toNat m.toNat).slots.set n.toNat (upd (p.slots.getD n.toNat nkey) 3 (usV p n + m)) }
def mkE (p : PW) (n k m t : Int) : Int := if slotB p t = true then (if clE p n = 0 then (if within 2 8 k = true then (if fcE p t.toNat m = 0 then (if (p.slots.getD n.toNat nkey) 2 - usV p n < m then 5 else 0) else fcE p t.toNat m) else 3) else clE p n) else 2
theorem mk_tlbs (p : PW) (n k m t : Int) : (mkP p n k m t).tlbs = p.tlbs := (mkI_rest p n k (mkB p n) t.toNat m.toNat).2.2.2.2.2.1
/-- What a sound world says of clay. -/
theorem clay_in {p : PW} (h : Snd p) {n : Int} (hc : clE p n = 0) : ∃ (j : Nat) (hj : j < p.slots.length), n = j ∧ p.slots[j] 0 = 1 ∧ p.slots.getD j nkey = p.slots[j] ∧ (0 ≤ p.slots[j] 1 ∧ p.slots[j] 1 + p.slots[j] 2 ≤ (p.kinds.length : Int)) ∧ (0 ≤ p.slots[j] 2 ∧ p.slots[j] 2 ≤ 100) ∧ (0 ≤ p.slots[j] 3 ∧ p.slots[j] 3 ≤ 100) ∧ (0 ≤ usV p n ∧ usV p n ≤ 100) := by
 unfold clE at hc
 by_cases h0 : hasE p n = 0
 ·rw [if_pos h0] at hc
  obtain ⟨j, rfl, hj⟩ := has_in h0
  rw [Int.toNat_natCast] at hc
  have hg : p.slots.getD j nkey = p.slots[j] := by rw [List.getD_eq_getElem?_getD, List.getElem?_eq_getElem hj]; rfl
  rw [hg] at hc
  by_cases h1 : p.slots[j] 0 = 1
  ·have kb := snd_kb h p.slots[j] (List.getElem_mem hj)
   obtain ⟨k1, k2, k3, _⟩ := snd_key h hj (by omega)
   refine ⟨j, hj, rfl, h1, hg, ⟨k1, k3⟩, ⟨by omega, kb.l1⟩, ⟨kb.m0, kb.m1⟩, ?_⟩
   unfold usV
   rw [Int.toNat_natCast, hg]
   have := kb.m0
   have := kb.m1
   split <;> omega
  ·rw [if_neg h1] at hc
   cases hc
 ·rw [if_neg h0] at hc
  exact absurd hc h0
theorem fc_in {p : PW} {t : Nat} {m : Int} (h : fcE p t m = 0) : ∃ mn : Nat, m = mn ∧ 1 ≤ mn ∧ mn + t % 16 ≤ 16 ∧ usd p t mn = false ∧ p.kinds.getD (t / 16) 0 = 5 := by
 unfold fcE at h
 by_cases h5 : p.kinds.getD (t / 16) 0 = 5
 ·rw [if_pos h5] at h
  cases hw : within 1 (16 - (t : Int) % 16) m with
  | false => rw [hw] at h; cases h
  | true =>
   rw [hw, if_pos rfl] at h
   unfold within at hw
   have hw2 := of_decide_eq_true hw
   obtain ⟨mn, rfl⟩ : ∃ mn : Nat, m = mn := ⟨m.toNat, by omega⟩
   rw [Int.toNat_natCast] at h
   cases hu : usd p t mn with
   | true => rw [hu] at h; cases h
   | false => exact ⟨mn, rfl, by omega, by omega, hu, h5⟩
 ·rw [if_neg h5] at h
  cases h
theorem usd_not {p : PW} {t m j : Nat} (h : usd p t m = false) (hj : j < p.slots.length) (h0 : p.slots[j] 0 ≠ 0) : j < t ∨ t + m ≤ j := by
 apply Classical.byContradiction
 intro hn
 have h1 : t ≤ j ∧ j < t + m := by omega
 unfold usd at h
 rw [List.any_eq_false] at h
 refine h p.slots[j] ?_ (by simpa using h0)
 refine List.mem_iff_getElem?.2 ⟨j - t, ?_⟩
 rw [List.getElem?_take, if_pos (by omega), List.getElem?_drop, show t + (j - t) = j by omega, List.getElem?_eq_getElem hj]
end Go.Proofs.YtkocmkaeaagbaaaGreatDoor.Wd
