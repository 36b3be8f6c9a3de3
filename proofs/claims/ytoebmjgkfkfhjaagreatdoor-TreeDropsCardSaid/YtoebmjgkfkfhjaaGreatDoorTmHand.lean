/- What was made from one slot is now made from another one: tree.hand, keyholdref.turn; an empty slot: plain.Empty; walked. -/
import Derived.Test.YtoebmjgkfkfhjaaGreatDoorGBx
import Derived.Test.YtoebmjgkfkfhjaaGreatDoorGBxMore
namespace Go.Proofs.YtoebmjgkfkfhjaaGreatDoor.Wd
open Go.RowKit Go.Proofs.YtoebmjgkfkfhjaaGreatDoor.Mem Go.Proofs.YtoebmjgkfkfhjaaGreatDoor.Bw Go.Proofs.YtoebmjgkfkfhjaaGreatDoor.Nums Go.Proofs.YtoebmjgkfkfhjaaGreatDoor.Mmu
def hnd1 (a b : Int) (f : Nat → Int) : Nat → Int := if f 6 = a then upd f 6 b else f
def hnd (a b : Int) (fs : List (Nat → Int)) : List (Nat → Int) := fs.map (hnd1 a b)
/-- The first k are done. -/
def hndK (a b : Int) (k : Nat) (fs : List (Nat → Int)) : List (Nat → Int) := (fs.take k).map (hnd1 a b) ++ fs.drop k
theorem hndK_len (a b : Int) (k : Nat) (fs : List (Nat → Int)) : (hndK a b k fs).length = fs.length := by
 unfold hndK
 simp
 omega
theorem hndK_zero (a b : Int) (fs : List (Nat → Int)) : hndK a b 0 fs = fs := by simp [hndK]
theorem hndK_all (a b : Int) (fs : List (Nat → Int)) : hndK a b fs.length fs = hnd a b fs := by simp [hndK, hnd]
theorem hndK_at (a b : Int) (k : Nat) (fs : List (Nat → Int)) (hk : k < fs.length) (h : k < (hndK a b k fs).length) : (hndK a b k fs)[k] = fs[k] := by
 have e : (hndK a b k fs)[k]? = fs[k]? := by
  unfold hndK
  rw [List.getElem?_append_right (by simp; omega), List.getElem?_drop]
  congr 1
  simp
  omega
 rw [List.getElem?_eq_getElem h, List.getElem?_eq_getElem hk] at e
 exact Option.some.inj e
theorem hndK_succ (a b : Int) (k : Nat) (fs : List (Nat → Int)) (hk : k < fs.length) : hndK a b (k + 1) fs = (hndK a b k fs).set k (hnd1 a b fs[k]) := by
 unfold hndK
 have e : k - (List.map (hnd1 a b) (List.take k fs)).length = 0 := by simp; omega
 rw [List.take_add_one, List.getElem?_eq_getElem hk, List.map_append, List.set_append, if_neg (by simp; omega), e]
 simp only [Option.toList_some, List.map_cons, List.map_nil, List.append_assoc, List.cons_append, List.nil_append]
 rw [List.drop_eq_getElem_cons hk]
 rfl
/-- The slots with one number turned. -/
theorem hndK_set {a b : Int} {k : Nat} {fs : List (Nat → Int)} (hk : k < fs.length) (h : k < (hndK a b k fs).length) (h6 : fs[k] 6 = a) : (hndK a b k fs).set k (upd (hndK a b k fs)[k] 6 b) = hndK a b (k + 1) fs := by
 rw [hndK_succ a b k fs hk, hndK_at a b k fs hk h]
 unfold hnd1
 rw [if_pos h6]
theorem hndK_same {a b : Int} {k : Nat} {fs : List (Nat → Int)} (hk : k < fs.length) (h6 : ¬ fs[k] 6 = a) : hndK a b k fs = hndK a b (k + 1) fs := by
 have h : k < (hndK a b k fs).length := by rw [hndK_len]; exact hk
 rw [hndK_succ a b k fs hk]
 unfold hnd1
 rw [if_neg h6, ← hndK_at a b k fs hk h, List.set_getElem_self]
set_option maxRecDepth 100000 in
set_option maxHeartbeats 2000000 in
theorem hand_any (wb : Nat) (tag : Nat → Nat) (V : Nat → Value) (p : PW) (a b : Int) (W : World) (bt : BoxT W wb tag V p) (hl : p.slots.length ≤ 1000) :
  Calls Tryz.prog 40 #[.pointer (some ⟨wb, 0, none⟩), .int .i64 a, .int .i64 b] W fun r W' => r = .returned (.tuple #[]) ∧ BoxT W' wb tag V { p with slots := hnd a b p.slots } ∧ Kt tag tag W W' := by
 obtain ⟨q2, g, cap, e2, hq⟩ := bt.o.slots.shape
 have c2 : W.cell? ⟨wb, 2, none⟩ = some (.slice q2 p.slots.length cap) := by rw [range_cell bt.r (k := 2) rfl, e2]
 have HB := hid bt
 have HQ := hid hq
 have HE := hid e2
 have hl2 : (p.slots.length : Int) ≤ 1000 := by omega
 clear bt hq e2
 go_enter Tryz.func40, Tryz.ntmps40
 go_wp2_with fail
 clear c2
 go_loopw [13] (fun i wr => ∃ (k : Nat), k ≤ p.slots.length ∧ i = .int .i64 k ∧ Hid (BoxT wr wb tag V { p with slots := hndK a b k p.slots }) ∧ Hid (Kt tag tag W wr)) (fun i _ => p.slots.length - (intOf i).toNat)
 case atStart => exact ⟨0, by omega, rfl, hid (by rw [hndK_zero]; exact HB.out), hid (Kt.refl _ _)⟩
 case round =>
  obtain ⟨k, hk, rfl, HT, HK⟩ := hrel
  by_cases hlt : k < p.slots.length
  ·have hlt2 : (k : Int) < (p.slots.length : Int) := by omega
   have hqe := HQ.out (by omega)
   subst hqe
   have hkl : k < (hndK a b k p.slots).length := by rw [hndK_len]; exact hlt
   have he : V 2 = .slice (some ⟨g, 0, none⟩) (hndK a b k p.slots).length cap := by rw [hndK_len]; exact HE.out
   have c2 : wr.cell? ⟨wb, 2, none⟩ = some (.slice (some ⟨g, 0, none⟩) p.slots.length cap) := by rw [range_cell HT.out.r (k := 2) rfl, HE.out]
   have x6 := HT.out.slotsAt he hkl (show 6 < 7 by omega)
   have f6 := HT.out.slotsFr he (k * 7 + 6)
   simp only [hndK_at a b k p.slots hlt] at x6
   by_cases h6 : p.slots[k] 6 = a
   ·obtain ⟨hn, hkt⟩ := HT.out.slotsCell he hkl (show 6 < 7 by omega) b
    have HN := hid (show BoxT (wr.setCell ⟨g, k * 7 + 6, none⟩ (.int .i64 b)) wb tag V { p with slots := hndK a b (k + 1) p.slots } by rw [← hndK_set hlt hkl h6]; exact hn)
    have HKK := hid (HK.out.trans hkt)
    rw [h6] at x6
    clear hn hkt he h6 hkl HT
    go_wp2_with fail
    exact ⟨⟨k + 1, by omega, by go_num, HN, HKK⟩, by simp [intOf]; omega⟩
   ·have HN := hid (show BoxT wr wb tag V { p with slots := hndK a b (k + 1) p.slots } by rw [← hndK_same hlt h6]; exact HT.out)
    have h6b : (p.slots[k] 6 == a) = false := by simpa using h6
    generalize p.slots[k] 6 = y at x6 h6b
    clear he h6 hkl HT
    go_wp2_with fail
    exact ⟨⟨k + 1, by omega, by go_num, HN, HK⟩, by simp [intOf]; omega⟩
  ·obtain rfl : k = p.slots.length := by omega
   have hge : ¬ ((p.slots.length : Int) < (p.slots.length : Int)) := by omega
   have HN := hid (show BoxT wr wb tag V { p with slots := hnd a b p.slots } by rw [← hndK_all]; exact HT.out)
   clear HT
   go_wp2_with fail
   exact bodyPost_end (results_none rfl _ _ _) rfl ⟨rfl, HN.out, HK.out⟩
set_option maxRecDepth 100000 in
set_option maxHeartbeats 2000000 in
theorem turn_ref (wb : Nat) (tag : Nat → Nat) (V : Nat → Value) (p : PW) (a b : Int) (W : World) (bt : BoxT W wb tag V p) (hl : p.slots.length ≤ 1000) :
  Calls Tryz.prog 41 #[.pointer (some ⟨wb, 0, none⟩), .int .i64 a, .int .i64 b] W fun r W' => r = .returned (.tuple #[]) ∧ BoxT W' wb tag V { p with slots := hnd a b p.slots } ∧ Kt tag tag W W' := by
 obtain ⟨q2, g, cap, e2, hq⟩ := bt.o.slots.shape
 have HB := hid bt
 have HQ := hid hq
 have HE := hid e2
 have hl2 : (p.slots.length : Int) ≤ 1000 := by omega
 clear bt hq e2
 go_enter Tryz.func41, Tryz.ntmps41
 go_wp2_with fail
 go_loopw [6] (fun i wr => ∃ (k : Nat), k ≤ p.slots.length ∧ i = .int .i64 k ∧ Hid (BoxT wr wb tag V { p with slots := hndK a b k p.slots }) ∧ Hid (Kt tag tag W wr)) (fun i _ => p.slots.length - (intOf i).toNat)
 case atStart => exact ⟨0, by omega, rfl, hid (by rw [hndK_zero]; exact HB.out), hid (Kt.refl _ _)⟩
 case round =>
  obtain ⟨k, hk, rfl, HT, HK⟩ := hrel
  by_cases hlt : k < p.slots.length
  ·have hlt2 : (k : Int) < (p.slots.length : Int) := by omega
   have hqe := HQ.out (by omega)
   subst hqe
   have hkl : k < (hndK a b k p.slots).length := by rw [hndK_len]; exact hlt
   have he : V 2 = .slice (some ⟨g, 0, none⟩) (hndK a b k p.slots).length cap := by rw [hndK_len]; exact HE.out
   have c2 : wr.cell? ⟨wb, 2, none⟩ = some (.slice (some ⟨g, 0, none⟩) p.slots.length cap) := by rw [range_cell HT.out.r (k := 2) rfl, HE.out]
   have x6 := HT.out.slotsAt he hkl (show 6 < 7 by omega)
   have f6 := HT.out.slotsFr he (k * 7 + 6)
   simp only [hndK_at a b k p.slots hlt] at x6
   by_cases h6 : p.slots[k] 6 = a
   ·obtain ⟨hn, hkt⟩ := HT.out.slotsCell he hkl (show 6 < 7 by omega) b
    have HN := hid (show BoxT (wr.setCell ⟨g, k * 7 + 6, none⟩ (.int .i64 b)) wb tag V { p with slots := hndK a b (k + 1) p.slots } by rw [← hndK_set hlt hkl h6]; exact hn)
    have HKK := hid (HK.out.trans hkt)
    rw [h6] at x6
    clear hn hkt he h6 hkl HT
    go_wp2_with fail
    exact ⟨⟨k + 1, by omega, by go_num, HN, HKK⟩, by simp [intOf]; omega⟩
   ·have HN := hid (show BoxT wr wb tag V { p with slots := hndK a b (k + 1) p.slots } by rw [← hndK_same hlt h6]; exact HT.out)
    have h6b : (p.slots[k] 6 == a) = false := by simpa using h6
    generalize p.slots[k] 6 = y at x6 h6b
    clear he h6 hkl HT
    go_wp2_with fail
    exact ⟨⟨k + 1, by omega, by go_num, HN, HK⟩, by simp [intOf]; omega⟩
  ·obtain rfl : k = p.slots.length := by omega
   have c2 : wr.cell? ⟨wb, 2, none⟩ = some (.slice q2 p.slots.length cap) := by rw [range_cell HT.out.r (k := 2) rfl, HE.out]
   have hge : ¬ ((p.slots.length : Int) < (p.slots.length : Int)) := by omega
   have HN := hid (show BoxT wr wb tag V { p with slots := hnd a b p.slots } by rw [← hndK_all]; exact HT.out)
   clear HT
   go_wp2_with fail
   exact bodyPost_end (results_none rfl _ _ _) rfl ⟨rfl, HN.out, HK.out⟩
/-- An empty slot. -/
def eS : Nat → Int := fun k => if k = 6 then -1 else 0
theorem info7s : (Tryz.prog.info? 64).map (·.size) = some 7 := by kernel_rfl
theorem wp_stS {ops : Array Oper} {rest : List Oper} {op : Oper} {a : Act} {w : World} {Q : Exit → Act → World → Prop} (hgd : op.guard = none) (x y : Operand) (ho : op.op = .store 64 x y)
  (b o : Nat) (hx : a.eval x = .pointer (some ⟨b, o, none⟩)) (cs : List Value) (hy : a.eval y = .agg cs.toArray) (hl : cs.length = 7) (h1 : ∀ v ∈ cs, v.oneCell' = true) (ht : w.there b o 7)
  (h : wpList Tryz.prog ops Q rest (a.put op.dst undef) (w.setCells b o cs)) : wpList Tryz.prog ops Q (op :: rest) a w :=
 wpList_store_mid hgd 64 x y ho b o cs.toArray hx hy (by simpa [hl] using ht) (by rw [info7s]; simp [hl]) (all_oneCell_toArray h1) (by simpa using h)
theorem wp_ldS {ops : Array Oper} {rest : List Oper} {op : Oper} {a : Act} {w : World} {Q : Exit → Act → World → Prop} (hgd : op.guard = none) (x : Operand) (ho : op.op = .load 64 x)
  (b o : Nat) (hx : a.eval x = .pointer (some ⟨b, o, none⟩)) (cs : List Value) (hl : cs.length = 7) (hc : w.rangeAt b o cs)
  (h : wpList Tryz.prog ops Q rest (a.put op.dst (.agg cs.toArray)) w) : wpList Tryz.prog ops Q (op :: rest) a w :=
 wpList_load_mid hgd 64 x ho b o hx cs _ hc Tryz.underlying64 rfl (by rw [info7s, hl]) h
theorem run_ldS (w : World) (b o : Nat) (cs : List Value) (hc : w.rangeAt b o cs) (hl : cs.length = 7) : (loadVar 64 ⟨b, o, none⟩).run Tryz.prog w = .ok (.agg cs.toArray) w :=
 run_loadVar_mid w b o 64 cs _ hc Tryz.underlying64 rfl (by rw [info7s, hl])
set_option maxRecDepth 100000 in
theorem empty_any (w : World) : Calls Tryz.prog 39 #[] w fun r w' => r = .returned (.agg (cf 7 eS).toArray) ∧ Below w.heap.size w w' := by
 have R0 := hid (there_new w #[.int .i64 0, .int .i64 0, .int .i64 0, .int .i64 0, .int .i64 0, .int .i64 0, .int .i64 0] 64 w.heap.size 7 rfl (by decide))
 have E := hid (World.rangeAt_setCells_same (w.alloc (.cells #[.int .i64 0, .int .i64 0, .int .i64 0, .int .i64 0, .int .i64 0, .int .i64 0, .int .i64 0] 64)) w.heap.size 0 (cf 7 eS) (by rw [cf_len]; exact R0.out))
 have K9 := hid (below_setCells (bal (Below.refl w.heap.size w) (.cells #[.int .i64 0, .int .i64 0, .int .i64 0, .int .i64 0, .int .i64 0, .int .i64 0, .int .i64 0] 64)) (Nat.le_refl _) (cf 7 eS) 0)
 go_enter Tryz.func39, Tryz.ntmps39
 go_wp2_with (first | ((with_reducible (show wpList _ _ _ (⟨_, Op.store 64 _ _, _, _, _, _⟩ :: _) _ _)); refine wp_stS rfl _ _ rfl w.heap.size 0 rfl (cf 7 eS) rfl (cf_len _ _) (cf_one _ _) R0.out ?_))
 exact bodyPost_ret (v := .agg (cf 7 eS).toArray) (results_c1 rfl rfl (run_ldS _ _ _ (cf 7 eS) E.out (cf_len _ _))) rfl ⟨rfl, K9.out⟩
end Go.Proofs.YtoebmjgkfkfhjaaGreatDoor.Wd
