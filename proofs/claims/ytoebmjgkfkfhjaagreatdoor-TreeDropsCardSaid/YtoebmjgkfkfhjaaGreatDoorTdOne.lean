/- Keys that are dropped: the pieces of tree.drop, walked (TdA TdB TdP TdW, joined). -/
import Derived.Test.YtoebmjgkfkfhjaaGreatDoorGRfMore
import Derived.Test.YtoebmjgkfkfhjaaGreatDoorGBxMore
import Derived.Test.YtoebmjgkfkfhjaaGreatDoorTmHand
import Derived.Test.YtoebmjgkfkfhjaaGreatDoorMmuWalk2
import Derived.Deep.RegionHeld3
import Derived.BigQuiet
namespace Go.Proofs.YtoebmjgkfkfhjaaGreatDoor.Mmu
open Go.RowKit Go.Proofs.YtoebmjgkfkfhjaaGreatDoor.Mem Go.Proofs.YtoebmjgkfkfhjaaGreatDoor.Bw Go.Proofs.YtoebmjgkfkfhjaaGreatDoor.Nums
theorem entry_word (t : Int) (wr : Bool) (w : World) :
  Calls Tryz.prog 144 #[.int .i64 t, .bool wr] w fun e w' => e = .returned (.tuple #[.int .i64 (if 0 ≤ t ∧ t ≤ 23 then 32768 + t + (if wr = true then 16384 else 0) else 0), errV (if 0 ≤ t ∧ t ≤ 23 then 0 else 2)]) ∧ w = w' := by
 by_cases h : 0 ≤ t ∧ t ≤ 23
 ·obtain ⟨h0, h1⟩ := h
  have o15 := or15 t h0 (by omega)
  have o14 := or14 t h0 (by omega)
  cases wr with
  | true =>
   go_enter Tryz.func144, Tryz.ntmps144
   go_wp2_with fail
   go_ret2
   refine ⟨?_, rfl⟩
   show Ending.returned (.tuple #[.int .i64 (49152 + t), .nilIface]) = .returned (.tuple #[.int .i64 (32768 + t + 16384), .nilIface])
   rw [show (49152 : Int) + t = 32768 + t + 16384 by omega]
  | false =>
   go_enter Tryz.func144, Tryz.ntmps144
   go_wp2_with fail
   go_ret2
   refine ⟨?_, rfl⟩
   rfl
 ·simp only [if_neg h]
  by_cases h0 : t < 0
  ·clear h
   go_enter Tryz.func144, Tryz.ntmps144
   go_wp2_with fail
   go_ret2
   exact ⟨rfl, rfl⟩
  ·have h1 : 24 ≤ t := by omega
   clear h
   go_enter Tryz.func144, Tryz.ntmps144
   go_wp2_with fail
   go_ret2
   exact ⟨rfl, rfl⟩
end Go.Proofs.YtoebmjgkfkfhjaaGreatDoor.Mmu
namespace Go.Proofs.YtoebmjgkfkfhjaaGreatDoor.Wd
open Go.RowKit Go.Proofs.YtoebmjgkfkfhjaaGreatDoor.Mem Go.Proofs.YtoebmjgkfkfhjaaGreatDoor.Bw Go.Proofs.YtoebmjgkfkfhjaaGreatDoor.Nums Go.Proofs.YtoebmjgkfkfhjaaGreatDoor.Mmu
theorem cf7d (f : Nat → Int) : (cf 7 f).toArray = #[.int .i64 (f 0), .int .i64 (f 1), .int .i64 (f 2), .int .i64 (f 3), .int .i64 (f 4), .int .i64 (f 5), .int .i64 (f 6)] := rfl
set_option maxRecDepth 100000 in
theorem isKey (c1 c2 : Nat) (k g : Int) (f : Nat → Int) (w : World) (h1 : w.cell? ⟨c1, 0, none⟩ = some (.int .i64 k)) (h2 : w.cell? ⟨c2, 0, none⟩ = some (.int .i64 g)) :
  Calls Tryz.prog 106 #[.agg (cf 7 f).toArray, .pointer (some ⟨c1, 0, none⟩), .pointer (some ⟨c2, 0, none⟩)] w fun r w' => r = .returned (.bool (f 0 == k && f 1 == g)) ∧ Below w.heap.size w w' := by
 rw [cf7d]
 have B0 := hid (bal (Below.refl w.heap.size w) (.cells #[.int .i64 (f 0), .int .i64 (f 1), .int .i64 (f 2), .int .i64 (f 3), .int .i64 (f 4), .int .i64 (f 5), .int .i64 (f 6)] 64))
 have k0 := cells_new w #[.int .i64 (f 0), .int .i64 (f 1), .int .i64 (f 2), .int .i64 (f 3), .int .i64 (f 4), .int .i64 (f 5), .int .i64 (f 6)] 64 0
 have k1 := cells_new w #[.int .i64 (f 0), .int .i64 (f 1), .int .i64 (f 2), .int .i64 (f 3), .int .i64 (f 4), .int .i64 (f 5), .int .i64 (f 6)] 64 1
 have h3 := (B0.out.cell (World.block_lt_of_cell? _ _ h1)).trans h1
 have h4 := (B0.out.cell (World.block_lt_of_cell? _ _ h2)).trans h2
 clear h1 h2
 by_cases h : f 0 = k
 ·have hb : (f 0 == k) = true := by simpa using h
  have HQ := hid (show (f 0 == k && f 1 == g) = (f 1 == g) by rw [hb]; rfl)
  by_cases h' : f 1 = g
  ·have hb' : (f 1 == g) = true := by simpa using h'
   have HQ2 := hid hb'
   clear h h'
   generalize f 0 = y0 at *
   generalize f 1 = y1 at *
   go_enter Tryz.func106, Tryz.ntmps106
   go_wp2_with fail
   go_ret
   exact ⟨by rw [HQ.out, HQ2.out]; rfl, B0.out⟩
  ·have hb' : (f 1 == g) = false := by simpa using h'
   have HQ2 := hid hb'
   clear h h'
   generalize f 0 = y0 at *
   generalize f 1 = y1 at *
   go_enter Tryz.func106, Tryz.ntmps106
   go_wp2_with fail
   go_ret
   exact ⟨by rw [HQ.out, HQ2.out]; rfl, B0.out⟩
 ·have hb : (f 0 == k) = false := by simpa using h
  have HQ := hid (show (f 0 == k && f 1 == g) = false by rw [hb]; rfl)
  generalize f 0 = y0 at *
  go_enter Tryz.func106, Tryz.ntmps106
  go_wp2_with fail
  go_ret
  exact ⟨by rw [HQ.out]; rfl, B0.out⟩
set_option maxRecDepth 100000 in
set_option maxHeartbeats 4000000 in
theorem opened_any_ix (c1 c2 : Nat) (k g : Int) (v : Value) (fs : List (Nat → Int)) (w : World) (hv : RowsIn 7 w v fs) (hl : fs.length ≤ 1000) (h1 : w.cell? ⟨c1, 0, none⟩ = some (.int .i64 k) ∧ w.cell? ⟨c2, 0, none⟩ = some (.int .i64 g)) :
  Calls Tryz.prog 143 #[v, .func (.func 106) #[] #[.pointer (some ⟨c1, 0, none⟩), .pointer (some ⟨c2, 0, none⟩)]] w fun r w' => (∃ i : Int, r = .returned (.int .i64 i) ∧ decide (0 ≤ i) = fs.any (fun f => f 0 == k && f 1 == g)) ∧ Below w.heap.size w w' := by
 have HV := hid hv
 obtain ⟨q, b, off, cap, rfl, hq, -⟩ := hv
 have hl2 : (fs.length : Int) ≤ 1000 := by omega
 have HQ := hid hq
 have HT := hid (fun X (h : Below w.heap.size w X) (f : Nat → Int) => isKey c1 c2 k g f X ((h.cell (World.block_lt_of_cell? _ _ h1.1)).trans h1.1) ((h.cell (World.block_lt_of_cell? _ _ h1.2)).trans h1.2))
 clear hq h1
 go_enter Tryz.func143, Tryz.ntmps143
 go_wp2_with fail
 go_loopw [8] (fun i wr => ∃ (kk : Nat), kk ≤ fs.length ∧ i = .int .i64 kk ∧ Hid (Below w.heap.size w wr ∧ ∀ j (hj : j < fs.length), j < kk → (fs[j] 0 == k && fs[j] 1 == g) = false)) (fun i _ => fs.length - (intOf i).toNat)
 case atStart => exact ⟨0, by omega, rfl, hid ⟨Below.refl _ _, fun j _ h => by omega⟩⟩
 case round =>
  obtain ⟨kk, hk, rfl, HH⟩ := hrel
  have BB := hid HH.out.1
  have HN := hid HH.out.2
  clear HH
  by_cases hlt : kk < fs.length
  ·have hlt2 : (kk : Int) < (fs.length : Int) := by omega
   have hqe := HQ.out (by omega)
   subst hqe
   obtain ⟨q2, b2, off2, cap2, e2, hq2, hz2⟩ := HV.out.below BB.out
   have ck := hid (hz2 kk hlt)
   have e3 := hq2 (by omega)
   subst e3
   cases e2
   obtain ⟨f, hf⟩ : ∃ f, fs[kk] = f := ⟨_, rfl⟩
   rw [hf] at ck
   have HY := hid hf
   clear hf hz2 hq2
   go_wp2_with (first | ((with_reducible (show wpList _ _ _ (⟨_, Op.load 64 _, _, _, _, _⟩ :: _) _ _)); refine wp_ldS rfl _ rfl b (off + kk * 7) rfl (cf 7 f) (cf_len _ _) ck.out ?_))
   refine (HT.out _ BB.out f).mono ?_
   rintro r w1 ⟨rfl, hb⟩
   have B2 := hid (btr BB.out hb)
   clear hb
   cases hyt : (f 0 == k && f 1 == g) with
   | true =>
    have HX := hid (show decide (0 ≤ (kk : Int)) = fs.any (fun f => f 0 == k && f 1 == g) by
     rw [decide_eq_true (by omega)]
     exact (List.any_eq_true.2 ⟨f, by rw [← HY.out]; exact List.getElem_mem hlt, hyt⟩).symm)
    go_wp2_with fail
    go_ret
    exact ⟨⟨_, rfl, HX.out⟩, B2.out⟩
   | false =>
    have HN2 := hid (show Below w.heap.size w w1 ∧ ∀ j (hj : j < fs.length), j < kk + 1 → (fs[j] 0 == k && fs[j] 1 == g) = false from ⟨B2.out, fun j hj h => by
     by_cases e : j = kk
     ·subst e
      rw [HY.out]
      exact hyt
     ·exact HN.out j hj (by omega)⟩)
    go_wp2_with fail
    exact ⟨⟨kk + 1, by omega, by go_num, HN2⟩, by simp [intOf]; omega⟩
  ·obtain rfl : kk = fs.length := by omega
   have hge : ¬ ((fs.length : Int) < (fs.length : Int)) := by omega
   have HX := hid (show decide (0 ≤ (-1 : Int)) = fs.any (fun f => f 0 == k && f 1 == g) by
    rw [decide_eq_false (by omega)]
    symm
    rw [List.any_eq_false]
    intro x hx
    obtain ⟨j, hj, rfl⟩ := List.getElem_of_mem hx
    rw [HN.out j hj hj]
    decide)
   go_wp2_with fail
   go_ret
   exact ⟨⟨_, rfl, HX.out⟩, BB.out⟩
set_option maxRecDepth 100000 in
set_option maxHeartbeats 4000000 in
theorem opened_any (c1 c2 : Nat) (k g : Int) (v : Value) (fs : List (Nat → Int)) (w : World) (hv : RowsIn 7 w v fs) (hl : fs.length ≤ 1000) (h1 : w.cell? ⟨c1, 0, none⟩ = some (.int .i64 k) ∧ w.cell? ⟨c2, 0, none⟩ = some (.int .i64 g)) :
  Calls Tryz.prog 105 #[v, .func (.func 106) #[] #[.pointer (some ⟨c1, 0, none⟩), .pointer (some ⟨c2, 0, none⟩)]] w fun r w' => r = .returned (.bool (fs.any (fun f => f 0 == k && f 1 == g))) ∧ Below w.heap.size w w' := by
 have HI := hid (opened_any_ix c1 c2 k g v fs w hv hl h1)
 clear hv hl h1
 go_enter Tryz.func105, Tryz.ntmps105
 go_wp2_with fail
 refine HI.out.mono ?_
 rintro r w1 ⟨⟨i, rfl, hi⟩, hb⟩
 have BB := hid hb
 have HX := hid hi
 clear hb HI hi
 by_cases h0 : 0 ≤ i
 ·have HH := hid (decide_eq_true h0)
  go_wp2_with fail
  go_ret
  exact ⟨by rw [← HX.out, HH.out]; rfl, BB.out⟩
 ·have HH := hid (decide_eq_false h0)
  go_wp2_with fail
  go_ret
  exact ⟨by rw [← HX.out, HH.out]; rfl, BB.out⟩
def opnd (p : PW) (k g : Int) : Bool := p.slots.any (fun f => f 0 == k && f 1 == g)
set_option maxRecDepth 100000 in
set_option maxHeartbeats 4000000 in
theorem isOpened_any (vb : Nat) (V : Nat → Value) (p : PW) (k g : Int) (w : World) (hr : w.rangeAt vb 0 (arr11 V).toList) (hv : RowsIn 7 w (V 2) p.slots) (hl : p.slots.length ≤ 1000) :
  Calls Tryz.prog 65 #[.pointer (some ⟨vb, 0, none⟩), .int .i64 k, .int .i64 g] w fun r w' => r = .returned (.bool (opnd p k g)) ∧ Below w.heap.size w w' := by
 have B0 := hid (bal (bal (Below.refl w.heap.size w) (.cells #[.int .i64 k] 3)) (.cells #[.int .i64 g] 3))
 have y1 := (cells_alloc (cells_new w #[.int .i64 k] 3) (by simp) (.cells #[.int .i64 g] 3)) 0
 have y2 := cells_at (w.alloc (.cells #[.int .i64 k] 3)) #[.int .i64 g] 3 (w.heap.size + 1) (by simp) 0
 have c2 : ((w.alloc (.cells #[.int .i64 k] 3)).alloc (.cells #[.int .i64 g] 3)).cell? ⟨vb, 2, none⟩ = some (V 2) := range_cell (range_belowO hr B0.out) (k := 2) rfl
 have HC := hid (opened_any w.heap.size (w.heap.size + 1) k g (V 2) p.slots _ (hv.below B0.out) hl ⟨y1, y2⟩)
 have HU := hid (show p.slots.any (fun f => f 0 == k && f 1 == g) = opnd p k g from rfl)
 rw [HU.out] at HC
 clear hv hr hl y1 y2
 go_enter Tryz.func65, Tryz.ntmps65
 go_wp2_with fail
 refine HC.out.mono ?_
 rintro r w1 ⟨rfl, hb⟩
 have BB := hid (btr B0.out hb)
 clear hb
 go_wp2_with fail
 go_ret
 exact ⟨rfl, BB.out⟩
/-- A task has a frame no more. -/
def fg1 (c : Nat) (f : Int) (g : Nat → Int) : Nat → Int := if g c = f then upd g c (-1) else g
def fgP (c : Nat) (p : PW) (f : Int) : PW := { p with tasks := p.tasks.map (fg1 c f) }
theorem fld_space (g o : Nat) (w : World) : Calls Tryz.prog 109 #[.pointer (some ⟨g, o, none⟩)] w fun r w' => r = .returned (.pointer (some ⟨g, o + 12, none⟩)) ∧ w = w' := by
 go_enter Tryz.func109, Tryz.ntmps109
 go_wp2_with fail
 go_ret
 exact ⟨rfl, rfl⟩
set_option maxRecDepth 100000 in
set_option maxHeartbeats 4000000 in
theorem forgo_space (wb : Nat) (tag : Nat → Nat) (V : Nat → Value) (p : PW) (f : Int) (W : World) (bt : BoxT W wb tag V p) (hl : p.tasks.length ≤ 1000) :
  Calls Tryz.prog 108 #[.pointer (some ⟨wb, 0, none⟩), .int .i64 f, .func (.func 109) #[] #[]] W fun r W' => r = .returned (.tuple #[]) ∧ BoxT W' wb tag V (fgP 12 p f) ∧ Kt tag tag W W' := by
 obtain ⟨q3, g, cap, e3, hq⟩ := bt.o.tasks.shape
 have c3 : W.cell? ⟨wb, 3, none⟩ = some (.slice q3 p.tasks.length cap) := by rw [range_cell bt.r (k := 3) rfl, e3]
 have HB := hid bt
 have HQ := hid hq
 have HE := hid e3
 have hl2 : (p.tasks.length : Int) ≤ 1000 := by omega
 clear bt hq e3
 go_enter Tryz.func108, Tryz.ntmps108
 go_wp2_with fail
 clear c3
 go_loopw [13] (fun i wr => ∃ (k : Nat), k ≤ p.tasks.length ∧ i = .int .i64 k ∧ Hid (BoxT wr wb tag V { p with tasks := mapK (fg1 12 f) k p.tasks }) ∧ Hid (Kt tag tag W wr)) (fun i _ => p.tasks.length - (intOf i).toNat)
 case atStart => exact ⟨0, by omega, rfl, hid (by rw [mapK_zero]; exact HB.out), hid (Kt.refl _ _)⟩
 case round =>
  obtain ⟨k, hk, rfl, HT, HK⟩ := hrel
  by_cases hlt : k < p.tasks.length
  ·have hlt2 : (k : Int) < (p.tasks.length : Int) := by omega
   have hqe := HQ.out (by omega)
   subst hqe
   have hkl : k < (mapK (fg1 12 f) k p.tasks).length := by rw [mapK_len]; exact hlt
   have he : V 3 = .slice (some ⟨g, 0, none⟩) (mapK (fg1 12 f) k p.tasks).length cap := by rw [mapK_len]; exact HE.out
   have c3 : wr.cell? ⟨wb, 3, none⟩ = some (.slice (some ⟨g, 0, none⟩) p.tasks.length cap) := by rw [range_cell HT.out.r (k := 3) rfl, HE.out]
   have xc := HT.out.tasksAt he hkl (show 12 < 20 by omega)
   have fc := HT.out.tasksFr he (k * 20 + 12)
   simp only [mapK_at (fg1 12 f) k p.tasks hlt hkl] at xc
   by_cases h6 : p.tasks[k] 12 = f
   ·obtain ⟨hn, hkt⟩ := HT.out.tasksCell he hkl (show 12 < 20 by omega) (-1)
    have HN := hid (show BoxT (wr.setCell ⟨g, k * 20 + 12, none⟩ (.int .i64 (-1))) wb tag V { p with tasks := mapK (fg1 12 f) (k + 1) p.tasks } by
     rw [mapK_succ (fg1 12 f) k p.tasks hlt, show fg1 12 f p.tasks[k] = upd p.tasks[k] 12 (-1) from if_pos h6, ← mapK_at (fg1 12 f) k p.tasks hlt hkl]
     exact hn)
    have HKK := hid (HK.out.trans hkt)
    rw [h6] at xc
    clear hn hkt he h6 hkl HT
    go_wp2_with fail
    refine (fld_space g (k * 20) wr).mono ?_
    rintro r w1 ⟨rfl, rfl⟩
    go_wp2_with fail
    exact ⟨⟨k + 1, by omega, by go_num, HN, HKK⟩, by simp [intOf]; omega⟩
   ·have HN := hid (show BoxT wr wb tag V { p with tasks := mapK (fg1 12 f) (k + 1) p.tasks } by
     rw [mapK_succ (fg1 12 f) k p.tasks hlt, show fg1 12 f p.tasks[k] = p.tasks[k] from if_neg h6, ← mapK_at (fg1 12 f) k p.tasks hlt hkl, List.set_getElem_self]
     exact HT.out)
    have h6b : (p.tasks[k] 12 == f) = false := by simpa using h6
    generalize p.tasks[k] 12 = y at xc h6b
    clear he h6 hkl HT fc
    go_wp2_with fail
    refine (fld_space g (k * 20) wr).mono ?_
    rintro r w1 ⟨rfl, rfl⟩
    go_wp2_with fail
    exact ⟨⟨k + 1, by omega, by go_num, HN, HK⟩, by simp [intOf]; omega⟩
  ·obtain rfl : k = p.tasks.length := by omega
   have hge : ¬ ((p.tasks.length : Int) < (p.tasks.length : Int)) := by omega
   have HN := hid (show BoxT wr wb tag V (fgP 12 p f) by unfold fgP; rw [← mapK_all]; exact HT.out)
   clear HT
   go_wp2_with fail
   exact bodyPost_end (results_none rfl _ _ _) rfl ⟨rfl, HN.out, HK.out⟩
theorem fld_node (g o : Nat) (w : World) : Calls Tryz.prog 110 #[.pointer (some ⟨g, o, none⟩)] w fun r w' => r = .returned (.pointer (some ⟨g, o + 11, none⟩)) ∧ w = w' := by
 go_enter Tryz.func110, Tryz.ntmps110
 go_wp2_with fail
 go_ret
 exact ⟨rfl, rfl⟩
set_option maxRecDepth 100000 in
set_option maxHeartbeats 4000000 in
theorem forgo_node (wb : Nat) (tag : Nat → Nat) (V : Nat → Value) (p : PW) (f : Int) (W : World) (bt : BoxT W wb tag V p) (hl : p.tasks.length ≤ 1000) :
  Calls Tryz.prog 108 #[.pointer (some ⟨wb, 0, none⟩), .int .i64 f, .func (.func 110) #[] #[]] W fun r W' => r = .returned (.tuple #[]) ∧ BoxT W' wb tag V (fgP 11 p f) ∧ Kt tag tag W W' := by
 obtain ⟨q3, g, cap, e3, hq⟩ := bt.o.tasks.shape
 have c3 : W.cell? ⟨wb, 3, none⟩ = some (.slice q3 p.tasks.length cap) := by rw [range_cell bt.r (k := 3) rfl, e3]
 have HB := hid bt
 have HQ := hid hq
 have HE := hid e3
 have hl2 : (p.tasks.length : Int) ≤ 1000 := by omega
 clear bt hq e3
 go_enter Tryz.func108, Tryz.ntmps108
 go_wp2_with fail
 clear c3
 go_loopw [13] (fun i wr => ∃ (k : Nat), k ≤ p.tasks.length ∧ i = .int .i64 k ∧ Hid (BoxT wr wb tag V { p with tasks := mapK (fg1 11 f) k p.tasks }) ∧ Hid (Kt tag tag W wr)) (fun i _ => p.tasks.length - (intOf i).toNat)
 case atStart => exact ⟨0, by omega, rfl, hid (by rw [mapK_zero]; exact HB.out), hid (Kt.refl _ _)⟩
 case round =>
  obtain ⟨k, hk, rfl, HT, HK⟩ := hrel
  by_cases hlt : k < p.tasks.length
  ·have hlt2 : (k : Int) < (p.tasks.length : Int) := by omega
   have hqe := HQ.out (by omega)
   subst hqe
   have hkl : k < (mapK (fg1 11 f) k p.tasks).length := by rw [mapK_len]; exact hlt
   have he : V 3 = .slice (some ⟨g, 0, none⟩) (mapK (fg1 11 f) k p.tasks).length cap := by rw [mapK_len]; exact HE.out
   have c3 : wr.cell? ⟨wb, 3, none⟩ = some (.slice (some ⟨g, 0, none⟩) p.tasks.length cap) := by rw [range_cell HT.out.r (k := 3) rfl, HE.out]
   have xc := HT.out.tasksAt he hkl (show 11 < 20 by omega)
   have fc := HT.out.tasksFr he (k * 20 + 11)
   simp only [mapK_at (fg1 11 f) k p.tasks hlt hkl] at xc
   by_cases h6 : p.tasks[k] 11 = f
   ·obtain ⟨hn, hkt⟩ := HT.out.tasksCell he hkl (show 11 < 20 by omega) (-1)
    have HN := hid (show BoxT (wr.setCell ⟨g, k * 20 + 11, none⟩ (.int .i64 (-1))) wb tag V { p with tasks := mapK (fg1 11 f) (k + 1) p.tasks } by
     rw [mapK_succ (fg1 11 f) k p.tasks hlt, show fg1 11 f p.tasks[k] = upd p.tasks[k] 11 (-1) from if_pos h6, ← mapK_at (fg1 11 f) k p.tasks hlt hkl]
     exact hn)
    have HKK := hid (HK.out.trans hkt)
    rw [h6] at xc
    clear hn hkt he h6 hkl HT
    go_wp2_with fail
    refine (fld_node g (k * 20) wr).mono ?_
    rintro r w1 ⟨rfl, rfl⟩
    go_wp2_with fail
    exact ⟨⟨k + 1, by omega, by go_num, HN, HKK⟩, by simp [intOf]; omega⟩
   ·have HN := hid (show BoxT wr wb tag V { p with tasks := mapK (fg1 11 f) (k + 1) p.tasks } by
     rw [mapK_succ (fg1 11 f) k p.tasks hlt, show fg1 11 f p.tasks[k] = p.tasks[k] from if_neg h6, ← mapK_at (fg1 11 f) k p.tasks hlt hkl, List.set_getElem_self]
     exact HT.out)
    have h6b : (p.tasks[k] 11 == f) = false := by simpa using h6
    generalize p.tasks[k] 11 = y at xc h6b
    clear he h6 hkl HT fc
    go_wp2_with fail
    refine (fld_node g (k * 20) wr).mono ?_
    rintro r w1 ⟨rfl, rfl⟩
    go_wp2_with fail
    exact ⟨⟨k + 1, by omega, by go_num, HN, HK⟩, by simp [intOf]; omega⟩
  ·obtain rfl : k = p.tasks.length := by omega
   have hge : ¬ ((p.tasks.length : Int) < (p.tasks.length : Int)) := by omega
   have HN := hid (show BoxT wr wb tag V (fgP 11 p f) by unfold fgP; rw [← mapK_all]; exact HT.out)
   clear HT
   go_wp2_with fail
   exact bodyPost_end (results_none rfl _ _ _) rfl ⟨rfl, HN.out, HK.out⟩
theorem fld_help (g o : Nat) (w : World) : Calls Tryz.prog 114 #[.pointer (some ⟨g, o, none⟩)] w fun r w' => r = .returned (.pointer (some ⟨g, o + 13, none⟩)) ∧ w = w' := by
 go_enter Tryz.func114, Tryz.ntmps114
 go_wp2_with fail
 go_ret
 exact ⟨rfl, rfl⟩
set_option maxRecDepth 100000 in
set_option maxHeartbeats 4000000 in
theorem forgo_help (wb : Nat) (tag : Nat → Nat) (V : Nat → Value) (p : PW) (f : Int) (W : World) (bt : BoxT W wb tag V p) (hl : p.tasks.length ≤ 1000) :
  Calls Tryz.prog 108 #[.pointer (some ⟨wb, 0, none⟩), .int .i64 f, .func (.func 114) #[] #[]] W fun r W' => r = .returned (.tuple #[]) ∧ BoxT W' wb tag V (fgP 13 p f) ∧ Kt tag tag W W' := by
 obtain ⟨q3, g, cap, e3, hq⟩ := bt.o.tasks.shape
 have c3 : W.cell? ⟨wb, 3, none⟩ = some (.slice q3 p.tasks.length cap) := by rw [range_cell bt.r (k := 3) rfl, e3]
 have HB := hid bt
 have HQ := hid hq
 have HE := hid e3
 have hl2 : (p.tasks.length : Int) ≤ 1000 := by omega
 clear bt hq e3
 go_enter Tryz.func108, Tryz.ntmps108
 go_wp2_with fail
 clear c3
 go_loopw [13] (fun i wr => ∃ (k : Nat), k ≤ p.tasks.length ∧ i = .int .i64 k ∧ Hid (BoxT wr wb tag V { p with tasks := mapK (fg1 13 f) k p.tasks }) ∧ Hid (Kt tag tag W wr)) (fun i _ => p.tasks.length - (intOf i).toNat)
 case atStart => exact ⟨0, by omega, rfl, hid (by rw [mapK_zero]; exact HB.out), hid (Kt.refl _ _)⟩
 case round =>
  obtain ⟨k, hk, rfl, HT, HK⟩ := hrel
  by_cases hlt : k < p.tasks.length
  ·have hlt2 : (k : Int) < (p.tasks.length : Int) := by omega
   have hqe := HQ.out (by omega)
   subst hqe
   have hkl : k < (mapK (fg1 13 f) k p.tasks).length := by rw [mapK_len]; exact hlt
   have he : V 3 = .slice (some ⟨g, 0, none⟩) (mapK (fg1 13 f) k p.tasks).length cap := by rw [mapK_len]; exact HE.out
   have c3 : wr.cell? ⟨wb, 3, none⟩ = some (.slice (some ⟨g, 0, none⟩) p.tasks.length cap) := by rw [range_cell HT.out.r (k := 3) rfl, HE.out]
   have xc := HT.out.tasksAt he hkl (show 13 < 20 by omega)
   have fc := HT.out.tasksFr he (k * 20 + 13)
   simp only [mapK_at (fg1 13 f) k p.tasks hlt hkl] at xc
   by_cases h6 : p.tasks[k] 13 = f
   ·obtain ⟨hn, hkt⟩ := HT.out.tasksCell he hkl (show 13 < 20 by omega) (-1)
    have HN := hid (show BoxT (wr.setCell ⟨g, k * 20 + 13, none⟩ (.int .i64 (-1))) wb tag V { p with tasks := mapK (fg1 13 f) (k + 1) p.tasks } by
     rw [mapK_succ (fg1 13 f) k p.tasks hlt, show fg1 13 f p.tasks[k] = upd p.tasks[k] 13 (-1) from if_pos h6, ← mapK_at (fg1 13 f) k p.tasks hlt hkl]
     exact hn)
    have HKK := hid (HK.out.trans hkt)
    rw [h6] at xc
    clear hn hkt he h6 hkl HT
    go_wp2_with fail
    refine (fld_help g (k * 20) wr).mono ?_
    rintro r w1 ⟨rfl, rfl⟩
    go_wp2_with fail
    exact ⟨⟨k + 1, by omega, by go_num, HN, HKK⟩, by simp [intOf]; omega⟩
   ·have HN := hid (show BoxT wr wb tag V { p with tasks := mapK (fg1 13 f) (k + 1) p.tasks } by
     rw [mapK_succ (fg1 13 f) k p.tasks hlt, show fg1 13 f p.tasks[k] = p.tasks[k] from if_neg h6, ← mapK_at (fg1 13 f) k p.tasks hlt hkl, List.set_getElem_self]
     exact HT.out)
    have h6b : (p.tasks[k] 13 == f) = false := by simpa using h6
    generalize p.tasks[k] 13 = y at xc h6b
    clear he h6 hkl HT fc
    go_wp2_with fail
    refine (fld_help g (k * 20) wr).mono ?_
    rintro r w1 ⟨rfl, rfl⟩
    go_wp2_with fail
    exact ⟨⟨k + 1, by omega, by go_num, HN, HK⟩, by simp [intOf]; omega⟩
  ·obtain rfl : k = p.tasks.length := by omega
   have hge : ¬ ((p.tasks.length : Int) < (p.tasks.length : Int)) := by omega
   have HN := hid (show BoxT wr wb tag V (fgP 13 p f) by unfold fgP; rw [← mapK_all]; exact HT.out)
   clear HT
   go_wp2_with fail
   exact bodyPost_end (results_none rfl _ _ _) rfl ⟨rfl, HN.out, HK.out⟩
/-- So many of a list, each by its number, are turned. -/
def idK (F : Nat → Int → Int) (k : Nat) (l : List Int) : List Int := (l.mapIdx F).take k ++ l.drop k
theorem idK_len (F : Nat → Int → Int) (k : Nat) (l : List Int) : (idK F k l).length = l.length := by
 unfold idK
 rw [List.length_append, List.length_take, List.length_drop, List.length_mapIdx]
 omega
theorem idK_zero (F : Nat → Int → Int) (l : List Int) : idK F 0 l = l := by simp [idK]
theorem idK_all (F : Nat → Int → Int) (l : List Int) : idK F l.length l = l.mapIdx F := by
 unfold idK
 rw [List.drop_length, List.append_nil, List.take_of_length_le (by rw [List.length_mapIdx]; exact Nat.le_refl _)]
theorem idK_get (F : Nat → Int → Int) (k : Nat) (l : List Int) (i : Nat) : (idK F k l)[i]? = if i < k then (l[i]?).map (F i) else l[i]? := by
 unfold idK
 by_cases hi : i < k
 ·rw [if_pos hi]
  by_cases hl : i < l.length
  ·rw [List.getElem?_append_left (by rw [List.length_take, List.length_mapIdx]; omega), List.getElem?_take, if_pos hi, List.getElem?_mapIdx]
  ·rw [List.getElem?_append_right (by rw [List.length_take, List.length_mapIdx]; omega), List.length_take, List.length_mapIdx, List.getElem?_drop, List.getElem?_eq_none (by omega), List.getElem?_eq_none (by omega)]
   rfl
 ·rw [if_neg hi, List.getElem?_append_right (by rw [List.length_take, List.length_mapIdx]; omega), List.length_take, List.length_mapIdx, List.getElem?_drop]
  by_cases hl : k ≤ l.length
  ·rw [show k + (i - min k l.length) = i by omega]
  ·rw [List.getElem?_eq_none (by omega), List.getElem?_eq_none (by omega)]
theorem idK_at {F : Nat → Int → Int} {k : Nat} {l : List Int} (hk : k < l.length) (h : k < (idK F k l).length) : (idK F k l)[k] = l[k] := by
 have h1 := idK_get F k l k
 rw [if_neg (by omega), List.getElem?_eq_getElem hk, List.getElem?_eq_getElem h] at h1
 exact Option.some.inj h1
theorem idK_succ {F : Nat → Int → Int} {k : Nat} {l : List Int} (hk : k < l.length) : idK F (k + 1) l = (idK F k l).set k (F k l[k]) := by
 apply List.ext_getElem?
 intro i
 rw [idK_get, List.getElem?_set, idK_get]
 by_cases h : k = i
 ·subst h
  rw [if_pos (by omega), if_pos rfl, if_pos (by rw [idK_len]; exact hk), List.getElem?_eq_getElem hk]
  rfl
 ·rw [if_neg h]
  by_cases h2 : i < k
  ·rw [if_pos (by omega), if_pos h2]
  ·rw [if_neg (by omega), if_neg h2]
theorem idK_same {F : Nat → Int → Int} {k : Nat} {l : List Int} (hk : k < l.length) (hF : F k l[k] = l[k]) : idK F (k + 1) l = idK F k l := by
 have hl : k < (idK F k l).length := by rw [idK_len]; exact hk
 rw [idK_succ hk, hF, ← idK_at (F := F) hk hl, List.set_getElem_self]
/-- The entries that tell a frame become 0. -/
def ut1 (ks : List Int) (f : Int) (i : Nat) (x : Int) : Int := if (ks.getD (i / 16) 0 = 3 ∨ ks.getD (i / 16) 0 = 4) ∧ (x = 32768 + f ∨ x = 49152 + f) then 0 else x
def utP (p : PW) (f : Int) : PW := { p with ram := p.ram.mapIdx (ut1 p.kinds f) }
theorem BoxT.ramAt {W : World} {wb : Nat} {tag : Nat → Nat} {V : Nat → Value} {p : PW} (h : BoxT W wb tag V p) {g cap : Nat} (e : V 0 = .slice (some ⟨g, 0, none⟩) p.ram.length cap) {i : Nat} (hi : i < p.ram.length) : W.cell? ⟨g, i, none⟩ = some (.int .i64 p.ram[i]) := by
 have h2 := h.o.ram
 rw [e] at h2
 exact h2.int hi
theorem BoxT.ramFr {W : World} {wb : Nat} {tag : Nat → Nat} {V : Nat → Value} {p : PW} (h : BoxT W wb tag V p) {g cap : Nat} (e : V 0 = .slice (some ⟨g, 0, none⟩) p.ram.length cap) (o : Nat) : W.frozen? ⟨g, o, none⟩ = false := by
 have h2 := h.o.ram
 rw [e] at h2
 exact h2.frozen o
theorem BoxT.kindsAt {W : World} {wb : Nat} {tag : Nat → Nat} {V : Nat → Value} {p : PW} (h : BoxT W wb tag V p) {g cap : Nat} (e : V 1 = .slice (some ⟨g, 0, none⟩) p.kinds.length cap) {i : Nat} (hi : i < p.kinds.length) : W.cell? ⟨g, i, none⟩ = some (.int .i64 p.kinds[i]) := by
 have h2 := h.o.kinds
 rw [e] at h2
 exact h2.int hi
theorem BoxT.kindsFr {W : World} {wb : Nat} {tag : Nat → Nat} {V : Nat → Value} {p : PW} (h : BoxT W wb tag V p) {g cap : Nat} (e : V 1 = .slice (some ⟨g, 0, none⟩) p.kinds.length cap) (o : Nat) : W.frozen? ⟨g, o, none⟩ = false := by
 have h2 := h.o.kinds
 rw [e] at h2
 exact h2.frozen o
set_option maxRecDepth 100000 in
set_option maxHeartbeats 4000000 in
theorem untell_any (wb : Nat) (tag : Nat → Nat) (V : Nat → Value) (p : PW) (f : Nat) (W : World) (bt : BoxT W wb tag V p) (hf : f ≤ 23) (hk : p.kinds.length ≤ 24) (hr : p.ram.length = p.kinds.length * 16) :
  Calls Tryz.prog 107 #[.pointer (some ⟨wb, 0, none⟩), .int .i64 f] W fun r W' => r = .returned (.tuple #[]) ∧ BoxT W' wb tag V (utP p f) ∧ Kt tag tag W W' := by
 obtain ⟨q0, g, cap, e0, hq⟩ := bt.o.ram.shape
 have c0 : W.cell? ⟨wb, 0, none⟩ = some (.slice q0 p.ram.length cap) := by rw [range_cell bt.r (k := 0) rfl, e0]
 have HB := hid bt
 have HQ := hid hq
 have HE := hid e0
 have hl0 : (p.ram.length : Int) ≤ 1000 := by omega
 have hl1 : (p.kinds.length : Int) ≤ 1000 := by omega
 have HR := hid hr
 have HW1 := hid (Mmu.entry_word f false W)
 have HW2 := hid (Mmu.entry_word f true W)
 rw [if_pos (show 0 ≤ (f : Int) ∧ (f : Int) ≤ 23 by omega)] at HW1 HW2
 obtain ⟨e1, he1⟩ : ∃ e1 : Int, 32768 + (f : Int) + (if false = true then 16384 else 0) = e1 := ⟨_, rfl⟩
 obtain ⟨e2, he2⟩ : ∃ e2 : Int, 32768 + (f : Int) + (if true = true then 16384 else 0) = e2 := ⟨_, rfl⟩
 rw [he1] at HW1
 rw [he2] at HW2
 have HE1 := hid (show e1 = 32768 + (f : Int) by rw [← he1, if_neg (by decide)]; omega)
 have HE2 := hid (show e2 = 49152 + (f : Int) by rw [← he2, if_pos rfl]; omega)
 generalize Mmu.errV _ = v1 at HW1
 generalize Mmu.errV _ = v2 at HW2
 have HKF := hid (fun (h : 0 < p.kinds.length) => bt.o.kinds.form h)
 clear bt hq e0 hf hk hr he1 he2
 go_enter Tryz.func107, Tryz.ntmps107
 go_wp2_with fail
 refine HW1.out.mono ?_
 rintro r w1 ⟨rfl, rfl⟩
 go_wp2_with fail
 refine HW2.out.mono ?_
 rintro r w1 ⟨rfl, rfl⟩
 go_wp2_with fail
 clear c0
 go_loopw [26] (fun i wr => ∃ (k : Nat), k ≤ p.ram.length ∧ i = .int .i64 k ∧ Hid (BoxT wr wb tag V { p with ram := idK (ut1 p.kinds f) k p.ram }) ∧ Hid (Kt tag tag W wr)) (fun i _ => p.ram.length - (intOf i).toNat)
 case atStart => exact ⟨0, by omega, rfl, hid (by rw [idK_zero]; exact HB.out), hid (Kt.refl _ _)⟩
 case round =>
  obtain ⟨k, hk, rfl, HT, HK⟩ := hrel
  by_cases hlt : k < p.ram.length
  ·have hlt2 : (k : Int) < (p.ram.length : Int) := by omega
   have hqe := HQ.out (by omega)
   subst hqe
   have hkl : k < (idK (ut1 p.kinds f) k p.ram).length := by rw [idK_len]; exact hlt
   have he : V 0 = .slice (some ⟨g, 0, none⟩) (idK (ut1 p.kinds f) k p.ram).length cap := by rw [idK_len]; exact HE.out
   have c0 : wr.cell? ⟨wb, 0, none⟩ = some (.slice (some ⟨g, 0, none⟩) p.ram.length cap) := by rw [range_cell HT.out.r (k := 0) rfl, HE.out]
   have xr := HT.out.ramAt he hkl
   have fr := HT.out.ramFr he k
   simp only [idK_at hlt hkl] at xr
   have hkd : k / 16 < p.kinds.length := by have := HR.out; omega
   have hkd2 : ((k : Int) / 16) = ((k / 16 : Nat) : Int) := by omega
   have hkd3 : ((k / 16 : Nat) : Int) < (p.kinds.length : Int) := by omega
   obtain ⟨g1, cap1, ek⟩ := HKF.out (by omega)
   have c1 : wr.cell? ⟨wb, 1, none⟩ = some (.slice (some ⟨g1, 0, none⟩) p.kinds.length cap1) := by rw [range_cell HT.out.r (k := 1) rfl, ek]
   have xk := HT.out.kindsAt ek hkd
   have hgk0 : p.kinds.getD (k / 16) 0 = p.kinds[k / 16] := by rw [List.getD_eq_getElem?_getD, List.getElem?_eq_getElem hkd]; rfl
   obtain ⟨kd, hkd0⟩ : ∃ kd, p.kinds[k / 16] = kd := ⟨_, rfl⟩
   obtain ⟨y, hy0⟩ : ∃ y, p.ram[k] = y := ⟨_, rfl⟩
   have HX := hid (hgk0.trans hkd0)
   have HY := hid hy0
   rw [hy0] at xr
   have xk2 : wr.cell? ⟨g1, k / 16, none⟩ = some (.int .i64 kd) := by rw [← hkd0]; exact xk
   generalize k / 16 = kq at hkd2 hkd3 xk2 ⊢
   clear xk hgk0 hkd0 hy0 ek hkd
   by_cases hgk : kd = 3
   ·have hg3 : (kd == 3) = true := by simpa using hgk
    by_cases hx1 : y = e1
    ·have hx1b : (y == e1) = true := by simpa using hx1
     obtain ⟨hn, hkt⟩ := HT.out.ramCell he k 0
     have HN := hid (show BoxT (wr.setCell ⟨g, k, none⟩ (.int .i64 0)) wb tag V { p with ram := idK (ut1 p.kinds f) (k + 1) p.ram } by
      rw [idK_succ hlt, show ut1 p.kinds f k p.ram[k] = 0 by unfold ut1; rw [if_pos (by rw [HX.out, HY.out]; exact ⟨.inl hgk, .inl (hx1.trans HE1.out)⟩)]]
      exact hn)
     have HKK := hid (HK.out.trans hkt)
     clear hn hkt he hkl HT hgk
     go_wp2_with fail
     exact ⟨⟨k + 1, by omega, by go_num, HN, HKK⟩, by simp [intOf]; omega⟩
    ·have hx1b : (y == e1) = false := by simpa using hx1
     by_cases hx2 : y = e2
     ·have hx2b : (y == e2) = true := by simpa using hx2
      obtain ⟨hn, hkt⟩ := HT.out.ramCell he k 0
      have HN := hid (show BoxT (wr.setCell ⟨g, k, none⟩ (.int .i64 0)) wb tag V { p with ram := idK (ut1 p.kinds f) (k + 1) p.ram } by
       rw [idK_succ hlt, show ut1 p.kinds f k p.ram[k] = 0 by unfold ut1; rw [if_pos (by rw [HX.out, HY.out]; exact ⟨.inl hgk, .inr (hx2.trans HE2.out)⟩)]]
       exact hn)
      have HKK := hid (HK.out.trans hkt)
      clear hn hkt he hkl HT hgk
      go_wp2_with fail
      exact ⟨⟨k + 1, by omega, by go_num, HN, HKK⟩, by simp [intOf]; omega⟩
     ·have hx2b : (y == e2) = false := by simpa using hx2
      have HN := hid (show BoxT wr wb tag V { p with ram := idK (ut1 p.kinds f) (k + 1) p.ram } by
       rw [idK_same hlt (by unfold ut1; rw [if_neg (by rw [HX.out, HY.out, ← HE1.out, ← HE2.out]; rintro ⟨-, h | h⟩; exact hx1 h; exact hx2 h)])]
       exact HT.out)
      clear he hkl HT hgk
      go_wp2_with fail
      exact ⟨⟨k + 1, by omega, by go_num, HN, HK⟩, by simp [intOf]; omega⟩
   ·have hg3 : (kd == 3) = false := by simpa using hgk
    have hgk3 := hid hgk
    clear hgk
    by_cases hgk : kd = 4
    ·have hg4 : (kd == 4) = true := by simpa using hgk
     by_cases hx1 : y = e1
     ·have hx1b : (y == e1) = true := by simpa using hx1
      obtain ⟨hn, hkt⟩ := HT.out.ramCell he k 0
      have HN := hid (show BoxT (wr.setCell ⟨g, k, none⟩ (.int .i64 0)) wb tag V { p with ram := idK (ut1 p.kinds f) (k + 1) p.ram } by
       rw [idK_succ hlt, show ut1 p.kinds f k p.ram[k] = 0 by unfold ut1; rw [if_pos (by rw [HX.out, HY.out]; exact ⟨.inr hgk, .inl (hx1.trans HE1.out)⟩)]]
       exact hn)
      have HKK := hid (HK.out.trans hkt)
      clear hn hkt he hkl HT hgk
      go_wp2_with fail
      exact ⟨⟨k + 1, by omega, by go_num, HN, HKK⟩, by simp [intOf]; omega⟩
     ·have hx1b : (y == e1) = false := by simpa using hx1
      by_cases hx2 : y = e2
      ·have hx2b : (y == e2) = true := by simpa using hx2
       obtain ⟨hn, hkt⟩ := HT.out.ramCell he k 0
       have HN := hid (show BoxT (wr.setCell ⟨g, k, none⟩ (.int .i64 0)) wb tag V { p with ram := idK (ut1 p.kinds f) (k + 1) p.ram } by
        rw [idK_succ hlt, show ut1 p.kinds f k p.ram[k] = 0 by unfold ut1; rw [if_pos (by rw [HX.out, HY.out]; exact ⟨.inr hgk, .inr (hx2.trans HE2.out)⟩)]]
        exact hn)
       have HKK := hid (HK.out.trans hkt)
       clear hn hkt he hkl HT hgk
       go_wp2_with fail
       exact ⟨⟨k + 1, by omega, by go_num, HN, HKK⟩, by simp [intOf]; omega⟩
      ·have hx2b : (y == e2) = false := by simpa using hx2
       have HN := hid (show BoxT wr wb tag V { p with ram := idK (ut1 p.kinds f) (k + 1) p.ram } by
        rw [idK_same hlt (by unfold ut1; rw [if_neg (by rw [HX.out, HY.out, ← HE1.out, ← HE2.out]; rintro ⟨-, h | h⟩; exact hx1 h; exact hx2 h)])]
        exact HT.out)
       clear he hkl HT hgk
       go_wp2_with fail
       exact ⟨⟨k + 1, by omega, by go_num, HN, HK⟩, by simp [intOf]; omega⟩
    ·have hg4 : (kd == 4) = false := by simpa using hgk
     have HN := hid (show BoxT wr wb tag V { p with ram := idK (ut1 p.kinds f) (k + 1) p.ram } by
      rw [idK_same hlt (by unfold ut1; rw [if_neg (by rw [HX.out]; rintro ⟨h | h, -⟩; exact hgk3.out h; exact hgk h)])]
      exact HT.out)
     clear he hkl HT hgk
     go_wp2_with fail
     exact ⟨⟨k + 1, by omega, by go_num, HN, HK⟩, by simp [intOf]; omega⟩
  ·obtain rfl : k = p.ram.length := by omega
   have hge : ¬ ((p.ram.length : Int) < (p.ram.length : Int)) := by omega
   have HN := hid (show BoxT wr wb tag V (utP p f) by unfold utP; rw [← idK_all]; exact HT.out)
   clear HT
   go_wp2_with fail
   exact bodyPost_end (results_none rfl _ _ _) rfl ⟨rfl, HN.out, HK.out⟩
theorem info20 : (Tryz.prog.info? 85).map (·.size) = some 20 := by kernel_rfl
/-- A task ends. -/
def etP (p : PW) (t : Nat) : PW := { (if p.tasks.getD t bl 17 = -1 then stP p t else (stP p t).task (p.tasks.getD t bl 17).toNat 9 0) with tasks := (if p.tasks.getD t bl 17 = -1 then stP p t else (stP p t).task (p.tasks.getD t bl 17).toNat 9 0).tasks.set t bl }
theorem st_len (p : PW) (t : Nat) : (stP p t).tasks.length = p.tasks.length := by
 show ((PW.task (PW.task _ t 9 0) t 14 (-1))).tasks.length = _
 rw [PW.task_len, PW.task_len]
 exact List.length_map _
theorem BoxT.tasksThere {W : World} {wb : Nat} {tag : Nat → Nat} {V : Nat → Value} {p : PW} (h : BoxT W wb tag V p) {g cap : Nat} (e : V 3 = .slice (some ⟨g, 0, none⟩) p.tasks.length cap) (o m : Nat) (hm : o + m ≤ p.tasks.length * 20) : W.there g o m := by
 have h2 := h.o.tasks
 rw [e] at h2
 exact h2.there o m hm
set_option maxRecDepth 100000 in
set_option maxHeartbeats 4000000 in
theorem endTask_any (wb : Nat) (tag : Nat → Nat) (V : Nat → Value) (p : PW) (t : Nat) (W : World) (bt : BoxT W wb tag V p) (hp : p.Fits) (ht : t < p.tasks.length) (ho : p.tasks.getD t bl 17 = -1 ∨ ∃ u : Nat, u < p.tasks.length ∧ p.tasks.getD t bl 17 = u) :
  Calls Tryz.prog 112 #[.pointer (some ⟨wb, 0, none⟩), .int .i64 t] W fun r W' => r = .returned (.tuple #[]) ∧ BoxT W' wb tag V (etP p t) ∧ Kt tag tag W W' := by
 have HST := hid (stop_any wb tag V p t W bt hp ht)
 have hl3 : (p.tasks.length : Int) ≤ 1000 := by have := hp.tasks; omega
 have ht2 : (t : Int) < (p.tasks.length : Int) := by omega
 obtain ⟨g3, cap3, e3⟩ := bt.o.tasks.form (by omega)
 have E3 := hid e3
 have HTT := hid ht
 have c3 : W.cell? ⟨wb, 3, none⟩ = some (.slice (some ⟨g3, 0, none⟩) p.tasks.length cap3) := by rw [range_cell bt.r (k := 3) rfl, e3]
 have x17 := bt.taskAt e3 ht (show 17 < 20 by omega)
 have LS := hid (st_len p t)
 rcases ho with ho | ⟨u, hu, ho⟩
 ·rw [ho] at x17
  have HR := hid (show etP p t = { stP p t with tasks := (stP p t).tasks.set t bl } by unfold etP; rw [if_pos ho])
  clear bt hp ht e3 ho
  go_enter Tryz.func112, Tryz.ntmps112
  go_wp2_with fail
  refine HST.out.mono ?_
  rintro r w9 ⟨rfl, h1, h2⟩
  have B9 := hid h1
  have K9 := hid h2
  clear h1 h2 HST c3 x17
  have LQ := LS
  generalize stP p t = qq at *
  go_upto_region 4 with fail
  have he : V 3 = .slice (some ⟨g3, 0, none⟩) qq.tasks.length cap3 := by rw [LQ.out]; exact E3.out
  have BD : Hid (Below w9.heap.size w9 w9.drew) := hid (below_drew w9 1)
  have KS := hid (fun X (h : Below w9.heap.size w9 X) => show X.cell? ⟨wb, 3, none⟩ = some (.slice (some ⟨g3, 0, none⟩) p.tasks.length cap3) from by rw [range_cell (B9.out.below h).r (k := 3) rfl, E3.out])
  have ROW := hid (fun X (h : Below w9.heap.size w9 X) => (B9.out.below h).tasksRow he (i := t) (by rw [LQ.out]; exact HTT.out) bl)
  have THR := hid (fun X (h : Below w9.heap.size w9 X) => (B9.out.below h).tasksThere he (t * 20) 20 (by have := HTT.out; rw [LQ.out]; omega))
  clear he
  refine wp_region_held_drew (S := fun X => X.cell? ⟨wb, 3, none⟩ = some (.slice (some ⟨g3, 0, none⟩) p.tasks.length cap3)) (by kernel_rfl) (KS.out _ BD.out) (fun hH0 => ?_)
  have hH := hid hH0
  clear hH0
  refine tk 0 (.pointer (some ⟨wb, 0, none⟩)) rfl hH.out ?_
  simp only [jj]
  refine tk 1 (.pointer (some ⟨wb, 0, none⟩)) rfl hH.out ?_
  simp only [jj]
  refine tk 2 (.pointer (some ⟨wb, 3, none⟩)) rfl hH.out ?_
  simp only [jj]
  refine Mem.tg 3 (.slice (some ⟨g3, 0, none⟩) p.tasks.length cap3) rfl (Or.inl ⟨by rfl, fun W h => by have h3 := h; clear h; go_simp⟩) hH.out ?_
  simp only [jj]
  refine tk 4 (.int .i64 t) rfl hH.out ?_
  simp only [jj]
  refine wpAnyH_ready (rs := [5]) (by kernel_rfl) (by simp) (AllReadyH.cons rfl (fun K hK => ?_) AllReadyH.nil)
  go_simp
  refine (blank_own _).mono ?_
  rintro q x1 ⟨rfl, hb⟩
  have A1 := hid (btr BD.out hb)
  clear hb
  go_wp2_with fail
  refine hK.out _ _ (KS.out _ A1.out) (fun hH0 => ?_)
  have hH2 := hid hH0
  clear hK K hH0
  try simp only [Act.put, jD, jE, jF]
  refine tk 6 (.pointer (some ⟨g3, t * 20, none⟩)) rfl hH2.out ?_
  simp only [jj]
  obtain ⟨b1, k1⟩ := ROW.out _ A1.out
  have BX := hid b1
  have KX := hid (K9.out.trans ((Kt.below A1.out : Kt tag tag w9 x1).trans k1))
  have SX := hid (show (x1.setCells g3 (t * 20) (cf 20 bl)).cell? ⟨wb, 3, none⟩ = some (.slice (some ⟨g3, 0, none⟩) p.tasks.length cap3) from by rw [range_cell BX.out.r (k := 3) rfl, E3.out])
  clear b1 k1
  refine wpAnyH_ready (rs := [7]) (by kernel_rfl) (by simp) (AllReadyH.cons rfl (fun K hK => ?_) AllReadyH.nil)
  refine wp_store_mid 85 _ _ rfl g3 (t * 20) (cf 20 bl).toArray rfl rfl (by rw [List.size_toArray, cf_len]; exact THR.out _ A1.out) (by rw [info20]; rfl) (all_oneCell_toArray (cf_one 20 _)) ?_
  refine hK.out _ _ SX.out (fun _ => ?_)
  clear hK K hH hH2
  try simp only [Act.put]
  refine wpAnyH_done (by kernel_rfl) ?_ _
  clear KS ROW THR SX BD A1
  generalize World.setCells _ _ _ _ = WX at *
  go_wp2_with fail
  exact bodyPost_end (results_none rfl _ _ _) rfl ⟨rfl, by rw [HR.out]; exact BX.out, KX.out⟩
 ·rw [ho] at x17
  have HU := hid hu
  have hu2 : (u : Int) < (p.tasks.length : Int) := by omega
  have hub : ((u : Int) == -1) = false := by simp
  have HR := hid (show etP p t = { (stP p t).task u 9 0 with tasks := ((stP p t).task u 9 0).tasks.set t bl } by unfold etP; rw [if_neg (by rw [ho]; omega), ho, Int.toNat_natCast])
  clear bt hp ht e3 ho hu
  go_enter Tryz.func112, Tryz.ntmps112
  go_wp2_with fail
  refine HST.out.mono ?_
  rintro r w8 ⟨rfl, h1, h2⟩
  have B8 := hid h1
  have K8 := hid h2
  clear h1 h2 HST c3 x17
  have he : V 3 = .slice (some ⟨g3, 0, none⟩) (stP p t).tasks.length cap3 := by rw [LS.out]; exact E3.out
  have c3 : w8.cell? ⟨wb, 3, none⟩ = some (.slice (some ⟨g3, 0, none⟩) p.tasks.length cap3) := by rw [range_cell B8.out.r (k := 3) rfl, E3.out]
  have xa := B8.out.taskAt he (i := u) (by rw [LS.out]; exact HU.out) (show 9 < 20 by omega)
  have fa := B8.out.tasksFr he (u * 20 + 9)
  obtain ⟨h1, h2⟩ := B8.out.task he (i := u) (by rw [LS.out]; exact HU.out) (show 9 < 20 by omega) 0
  have B9 := hid h1
  have K9 := hid (K8.out.trans h2)
  clear h1 h2 he
  go_upto_region 4 with fail
  generalize World.setCell _ _ _ = w9 at *
  clear c3 xa fa B8 K8
  have LQ := hid (show ((stP p t).task u 9 0).tasks.length = p.tasks.length by rw [PW.task_len]; exact LS.out)
  generalize (stP p t).task u 9 0 = qq at *
  have he : V 3 = .slice (some ⟨g3, 0, none⟩) qq.tasks.length cap3 := by rw [LQ.out]; exact E3.out
  have BD : Hid (Below w9.heap.size w9 w9.drew) := hid (below_drew w9 1)
  have KS := hid (fun X (h : Below w9.heap.size w9 X) => show X.cell? ⟨wb, 3, none⟩ = some (.slice (some ⟨g3, 0, none⟩) p.tasks.length cap3) from by rw [range_cell (B9.out.below h).r (k := 3) rfl, E3.out])
  have ROW := hid (fun X (h : Below w9.heap.size w9 X) => (B9.out.below h).tasksRow he (i := t) (by rw [LQ.out]; exact HTT.out) bl)
  have THR := hid (fun X (h : Below w9.heap.size w9 X) => (B9.out.below h).tasksThere he (t * 20) 20 (by have := HTT.out; rw [LQ.out]; omega))
  clear he
  refine wp_region_held_drew (S := fun X => X.cell? ⟨wb, 3, none⟩ = some (.slice (some ⟨g3, 0, none⟩) p.tasks.length cap3)) (by kernel_rfl) (KS.out _ BD.out) (fun hH0 => ?_)
  have hH := hid hH0
  clear hH0
  refine tk 0 (.pointer (some ⟨wb, 0, none⟩)) rfl hH.out ?_
  simp only [jj]
  refine tk 1 (.pointer (some ⟨wb, 0, none⟩)) rfl hH.out ?_
  simp only [jj]
  refine tk 2 (.pointer (some ⟨wb, 3, none⟩)) rfl hH.out ?_
  simp only [jj]
  refine Mem.tg 3 (.slice (some ⟨g3, 0, none⟩) p.tasks.length cap3) rfl (Or.inl ⟨by rfl, fun W h => by have h3 := h; clear h; go_simp⟩) hH.out ?_
  simp only [jj]
  refine tk 4 (.int .i64 t) rfl hH.out ?_
  simp only [jj]
  refine wpAnyH_ready (rs := [5]) (by kernel_rfl) (by simp) (AllReadyH.cons rfl (fun K hK => ?_) AllReadyH.nil)
  go_simp
  refine (blank_own _).mono ?_
  rintro q x1 ⟨rfl, hb⟩
  have A1 := hid (btr BD.out hb)
  clear hb
  go_wp2_with fail
  refine hK.out _ _ (KS.out _ A1.out) (fun hH0 => ?_)
  have hH2 := hid hH0
  clear hK K hH0
  try simp only [Act.put, jD, jE, jF]
  refine tk 6 (.pointer (some ⟨g3, t * 20, none⟩)) rfl hH2.out ?_
  simp only [jj]
  obtain ⟨b1, k1⟩ := ROW.out _ A1.out
  have BX := hid b1
  have KX := hid (K9.out.trans ((Kt.below A1.out : Kt tag tag w9 x1).trans k1))
  have SX := hid (show (x1.setCells g3 (t * 20) (cf 20 bl)).cell? ⟨wb, 3, none⟩ = some (.slice (some ⟨g3, 0, none⟩) p.tasks.length cap3) from by rw [range_cell BX.out.r (k := 3) rfl, E3.out])
  clear b1 k1
  refine wpAnyH_ready (rs := [7]) (by kernel_rfl) (by simp) (AllReadyH.cons rfl (fun K hK => ?_) AllReadyH.nil)
  refine wp_store_mid 85 _ _ rfl g3 (t * 20) (cf 20 bl).toArray rfl rfl (by rw [List.size_toArray, cf_len]; exact THR.out _ A1.out) (by rw [info20]; rfl) (all_oneCell_toArray (cf_one 20 _)) ?_
  refine hK.out _ _ SX.out (fun _ => ?_)
  clear hK K hH hH2
  try simp only [Act.put]
  refine wpAnyH_done (by kernel_rfl) ?_ _
  clear KS ROW THR SX BD A1
  generalize World.setCells _ _ _ _ = WX at *
  go_wp2_with fail
  exact bodyPost_end (results_none rfl _ _ _) rfl ⟨rfl, by rw [HR.out]; exact BX.out, KX.out⟩
/-- Who stood in a line stands there no more. -/
def ds1 (p : PW) (z : Int) : PW := (p.task z.toNat 9 0).task z.toNat 14 (-1)
def dsP (p : PW) (f : Nat) : PW := { (p.lines.getD f []).foldl ds1 p with lines := p.lines.set f [], bits := p.bits.set f 0 }
theorem ds1_len (p : PW) (z : Int) : (ds1 p z).tasks.length = p.tasks.length := by unfold ds1; rw [PW.task_len, PW.task_len]
theorem ds_len : ∀ (l : List Int) (p : PW), (l.foldl ds1 p).tasks.length = p.tasks.length
 | [], _ => rfl
 | z :: l, p => by rw [List.foldl_cons, ds_len l, ds1_len]
theorem ds_rest : ∀ (l : List Int) (p : PW), l.foldl ds1 p = { p with tasks := (l.foldl ds1 p).tasks }
 | [], _ => rfl
 | z :: l, p => by
  rw [List.foldl_cons, ds_rest l (ds1 p z)]
  rfl
theorem ds_snoc (l : List Int) (k : Nat) (hk : k < l.length) (p : PW) : (l.take (k + 1)).foldl ds1 p = ds1 ((l.take k).foldl ds1 p) l[k] := by
 rw [List.take_succ_eq_append_getElem hk, List.foldl_append]
 rfl
theorem BoxT.lineNil {W : World} {wb : Nat} {tag : Nat → Nat} {V : Nat → Value} {p : PW} (h : BoxT W wb tag V p) {g : Nat} (e : V 4 = .slice (some ⟨g, 0, none⟩) p.lines.length p.lines.length) {j : Nat} (hj : j < p.lines.length) :
  BoxT (W.setCell ⟨g, j, none⟩ (.slice none 0 0)) wb tag V { p with lines := p.lines.set j [] } ∧ Kt tag tag W (W.setCell ⟨g, j, none⟩ (.slice none 0 0)) := by
 have h2 := h.o.lines
 rw [e] at h2
 obtain ⟨h3, h4⟩ := h2.put hj (by intro i; omega) (Kp.refl _ W) (fun _ _ => rfl) (u := .slice none 0 0) (c := (0, [])) ⟨⟨rfl, .inl ⟨rfl, rfl⟩⟩, fun k hk => by cases hk⟩
 refine ⟨h.lines h4 (fun _ _ => rfl) ?_, .of h4 (fun k e => by rcases e with e | ⟨i, e⟩ <;> omega) (fun _ _ => rfl)⟩
 rw [List.length_set, e, ci_set p.lines j hj []]
 exact h3
theorem BoxT.bitsFr {W : World} {wb : Nat} {tag : Nat → Nat} {V : Nat → Value} {p : PW} (h : BoxT W wb tag V p) {g cap : Nat} (e : V 5 = .slice (some ⟨g, 0, none⟩) p.bits.length cap) (o : Nat) : W.frozen? ⟨g, o, none⟩ = false := by
 have h2 := h.o.bits
 rw [e] at h2
 exact h2.frozen o
theorem BoxT.bitsInt {W : World} {wb : Nat} {tag : Nat → Nat} {V : Nat → Value} {p : PW} (h : BoxT W wb tag V p) {g cap : Nat} (e : V 5 = .slice (some ⟨g, 0, none⟩) p.bits.length cap) {i : Nat} (hi : i < p.bits.length) : W.cell? ⟨g, i, none⟩ = some (.int .i64 p.bits[i]) := by
 have h2 := h.o.bits
 rw [e] at h2
 exact h2.int hi
set_option maxRecDepth 100000 in
set_option maxHeartbeats 4000000 in
theorem disperse_any (wb : Nat) (tag : Nat → Nat) (V : Nat → Value) (p : PW) (f : Nat) (W : World) (bt : BoxT W wb tag V p) (hp : p.Fits) (hf : f < p.lines.length) (hb : f < p.bits.length) (hz : ∀ z ∈ p.lines.getD f [], ∃ u : Nat, z = u ∧ u < p.tasks.length) :
  Calls Tryz.prog 113 #[.pointer (some ⟨wb, 0, none⟩), .int .i64 f] W fun r W' => r = .returned (.tuple #[]) ∧ BoxT W' wb tag V (dsP p f) ∧ Kt tag tag W W' := by
 have hl4 : (p.lines.length : Int) ≤ 1000 := by have := hp.lines; omega
 have hl3 : (p.tasks.length : Int) ≤ 1000 := by have := hp.tasks; omega
 have hl5 : (p.bits.length : Int) ≤ 1000 := by have := hp.bits; omega
 have hf2 : (f : Int) < (p.lines.length : Int) := by omega
 have hb2 : (f : Int) < (p.bits.length : Int) := by omega
 obtain ⟨gL, eL⟩ := bt.o.lines.form
 have EL := hid eL
 have HF := hid hf
 have HBI := hid hb
 obtain ⟨l, hl⟩ : ∃ l, p.lines.getD f [] = l := ⟨_, rfl⟩
 rw [hl] at hz
 have hll : l.length ≤ 1000 := by
  have h1 := hp.line _ (List.getElem_mem hf)
  rw [List.getD_eq_getElem?_getD, List.getElem?_eq_getElem hf, Option.getD_some] at hl
  rw [hl] at h1
  exact h1
 have hll2 : (l.length : Int) ≤ 1000 := by omega
 have HLN := hid (fun X q (h : BoxT X wb tag V q) (e : q.lines = p.lines) => show ∃ u, X.cell? ⟨gL, f, none⟩ = some u ∧ InT X tag (12 + 3 * f) 3 1 u (l.length, ints l) from by
  have h2 := h.o.lines
  rw [e, eL] at h2
  obtain ⟨u, cu, hu⟩ := h2.at hf
  unfold ci at hu
  rw [hl] at hu
  exact ⟨u, cu, hu⟩)
 obtain ⟨u, cu, hu⟩ := HLN.out W p bt rfl
 obtain ⟨q, gu, capu, rfl, hq⟩ := hu.shape
 have c4 : W.cell? ⟨wb, 4, none⟩ = some (.slice (some ⟨gL, 0, none⟩) p.lines.length p.lines.length) := by rw [range_cell bt.r (k := 4) rfl, eL]
 have HB := hid bt
 have HZ := hid hz
 have HQ := hid hq
 have HL := hid hl
 have HUC := hid cu
 have HT3 := hid (fun (h : 0 < p.tasks.length) => bt.o.tasks.form h)
 have HT5 := hid (bt.o.bits.form (by omega))
 clear bt hp hf hb hl hz hq hu
 go_enter Tryz.func113, Tryz.ntmps113
 go_wp2_with fail
 clear c4 cu
 go_loopw [14] (fun i wr => ∃ (k : Nat), k ≤ l.length ∧ i = .int .i64 k ∧ Hid (BoxT wr wb tag V ((l.take k).foldl ds1 p)) ∧ Hid (Kt tag tag W wr) ∧ Hid (wr.cell? ⟨gL, f, none⟩ = some (.slice q l.length capu))) (fun i _ => l.length - (intOf i).toNat)
 case atStart => exact ⟨0, by omega, rfl, HB, hid (Kt.refl _ _), HUC⟩
 case round =>
  obtain ⟨k, hk, rfl, HT, HK, HC⟩ := hrel
  have RST := hid (ds_rest (l.take k) p)
  have LT := hid (ds_len (l.take k) p)
  by_cases hlt : k < l.length
  ·have hlt2 : (k : Int) < (l.length : Int) := by omega
   have hqe := HQ.out (by omega)
   subst hqe
   obtain ⟨z, hz, hzl⟩ := HZ.out l[k] (List.getElem_mem hlt)
   have HZZ := hid hz
   have hz2 : (z : Int) < (p.tasks.length : Int) := by omega
   obtain ⟨u2, cu2, hu2⟩ := HLN.out wr _ HT.out (by rw [RST.out])
   have e2 := Option.some.inj (cu2.symm.trans HC.out)
   rw [e2] at hu2
   have xl := hu2.int hlt
   rw [hz] at xl
   obtain ⟨g3, cap3, e3⟩ := HT3.out (by omega)
   have E3 := hid e3
   have KS := hid (fun X q (h : BoxT X wb tag V q) => show X.cell? ⟨wb, 3, none⟩ = some (.slice (some ⟨g3, 0, none⟩) p.tasks.length cap3) from by rw [range_cell h.r (k := 3) rfl, E3.out])
   have he : V 3 = .slice (some ⟨g3, 0, none⟩) ((l.take k).foldl ds1 p).tasks.length cap3 := by rw [LT.out]; exact e3
   have BD : Hid (BoxT wr.drew wb tag V ((l.take k).foldl ds1 p)) := hid (HT.out.below (below_drew wr 1))
   have KD : Hid (Kt tag tag W wr.drew) := hid (HK.out.trans (.below (below_drew wr 1)))
   have xa := BD.out.taskAt he (i := z) (by rw [LT.out]; exact hzl) (show 9 < 20 by omega)
   have fa := BD.out.tasksFr he (z * 20 + 9)
   obtain ⟨b1, q1⟩ := BD.out.task he (i := z) (by rw [LT.out]; exact hzl) (show 9 < 20 by omega) 0
   have B1 := hid (show BoxT (wr.setCell ⟨g3, z * 20 + 9, none⟩ (.int .i64 0)).drew wb tag V (((l.take k).foldl ds1 p).task z 9 0) from b1)
   have K1 := hid (show Kt tag tag W (wr.setCell ⟨g3, z * 20 + 9, none⟩ (.int .i64 0)).drew from KD.out.trans q1)
   have he2 : V 3 = .slice (some ⟨g3, 0, none⟩) (((l.take k).foldl ds1 p).task z 9 0).tasks.length cap3 := by rw [PW.task_len]; exact he
   have xb := B1.out.taskAt he2 (i := z) (by rw [PW.task_len, LT.out]; exact hzl) (show 14 < 20 by omega)
   have fb := B1.out.tasksFr he2 (z * 20 + 14)
   obtain ⟨b2, q2⟩ := B1.out.task he2 (i := z) (by rw [PW.task_len, LT.out]; exact hzl) (show 14 < 20 by omega) (-1)
   have B2 := hid (show BoxT ((wr.setCell ⟨g3, z * 20 + 9, none⟩ (.int .i64 0)).drew.setCell ⟨g3, z * 20 + 14, none⟩ (.int .i64 (-1))) wb tag V ((l.take (k + 1)).foldl ds1 p) by
    rw [ds_snoc l k hlt, HZZ.out]
    unfold ds1
    rw [Int.toNat_natCast]
    exact b2)
   have K2 := hid (K1.out.trans q2)
   have hgl : tag gL = 6 := (show ListT wr tag 6 12 22 3 1 ((l.take k).foldl ds1 p).lines.length (.slice (some ⟨gL, 0, none⟩) ((l.take k).foldl ds1 p).lines.length ((l.take k).foldl ds1 p).lines.length) (ci ((l.take k).foldl ds1 p).lines) from by have h5 := HT.out.o.lines; rw [RST.out] at h5 ⊢; rw [EL.out] at h5; exact h5).tag0.1
   have CL := hid (show ((wr.setCell ⟨g3, z * 20 + 9, none⟩ (.int .i64 0)).drew.setCell ⟨g3, z * 20 + 14, none⟩ (.int .i64 (-1))).cell? ⟨gL, f, none⟩ = some (.slice (some ⟨gu, 0, none⟩) l.length capu) from by
    have hne : gL ≠ g3 := by
     intro e
     have h3 := HT.out.o.tasks
     rw [e3] at h3
     have h4 := h3.2 g3 rfl
     rw [← e, hgl] at h4
     cases h4
    rw [World.cell?_setCell_other _ _ _ _ (by intro e; cases e; exact hne rfl)]
    show (wr.setCell ⟨g3, z * 20 + 9, none⟩ (.int .i64 0)).cell? ⟨gL, f, none⟩ = _
    rw [World.cell?_setCell_other _ _ _ _ (by intro e; cases e; exact hne rfl)]
    exact HC.out)
   have S1 := hid (KS.out _ _ B1.out)
   have S2 := hid (KS.out _ _ B2.out)
   have S0 := hid (KS.out _ _ BD.out)
   clear b1 q1 b2 q2 he he2 hgl hu2 cu2 e2 hz e3 hzl
   go_upto_region 3 with fail
   refine wp_region_held_drew (S := fun X => X.cell? ⟨wb, 3, none⟩ = some (.slice (some ⟨g3, 0, none⟩) p.tasks.length cap3)) (by kernel_rfl) S0.out (fun hH0 => ?_)
   have hH := hid hH0
   clear hH0 xl
   refine tk 0 (.pointer (some ⟨wb, 0, none⟩)) rfl hH.out ?_
   simp only [jj]
   refine tk 1 (.pointer (some ⟨wb, 0, none⟩)) rfl hH.out ?_
   simp only [jj]
   refine tk 2 (.pointer (some ⟨wb, 3, none⟩)) rfl hH.out ?_
   simp only [jj]
   refine Mem.tg 3 (.slice (some ⟨g3, 0, none⟩) p.tasks.length cap3) rfl (Or.inl ⟨by rfl, fun W h => by have h3 := h; clear h; go_simp⟩) hH.out ?_
   simp only [jj]
   refine tk 4 (.int .i64 z) rfl hH.out ?_
   simp only [jj]
   refine tk 5 (.pointer (some ⟨wb, 0, none⟩)) rfl hH.out ?_
   simp only [jj]
   refine tk 6 (.pointer (some ⟨wb, 0, none⟩)) rfl hH.out ?_
   simp only [jj]
   refine tk 7 (.pointer (some ⟨wb, 3, none⟩)) rfl hH.out ?_
   simp only [jj]
   refine Mem.tg 8 (.slice (some ⟨g3, 0, none⟩) p.tasks.length cap3) rfl (Or.inl ⟨by rfl, fun W h => by have h3 := h; clear h; go_simp⟩) hH.out ?_
   simp only [jj]
   refine tk 9 (.int .i64 z) rfl hH.out ?_
   simp only [jj]
   refine tk 10 (.pointer (some ⟨g3, z * 20, none⟩)) rfl hH.out ?_
   simp only [jj]
   refine tk 11 (.pointer (some ⟨g3, z * 20 + 9, none⟩)) rfl hH.out ?_
   simp only [jj]
   refine wpAnyH_ready (rs := [12]) (by kernel_rfl) (by simp) (AllReadyH.cons rfl (fun K hK => ?_) AllReadyH.nil)
   go_simp
   refine hK.out _ _ S1.out (fun _ => ?_)
   clear hK K hH xa fa
   try simp only [Act.put]
   generalize World.drew (World.setCell _ _ _) = W1 at *
   refine tk 13 (.pointer (some ⟨g3, z * 20, none⟩)) rfl S1.out ?_
   simp only [jj]
   refine tk 14 (.pointer (some ⟨g3, z * 20 + 14, none⟩)) rfl S1.out ?_
   simp only [jj]
   refine wpAnyH_ready (rs := [15]) (by kernel_rfl) (by simp) (AllReadyH.cons rfl (fun K hK => ?_) AllReadyH.nil)
   go_simp
   refine hK.out _ _ S2.out (fun _ => ?_)
   clear hK K xb fb
   try simp only [Act.put]
   refine wpAnyH_done (by kernel_rfl) ?_ _
   generalize World.setCell _ _ _ = W2 at *
   clear S0 S1 S2 B1 K1 BD KD KS
   go_wp2_with fail
   exact ⟨⟨k + 1, by omega, by go_num, B2, K2, CL⟩, by simp [intOf]; omega⟩
  ·obtain rfl : k = l.length := by omega
   have hge : ¬ ((l.length : Int) < (l.length : Int)) := by omega
   have HT2 := hid (show BoxT wr wb tag V (l.foldl ds1 p) by have h := HT.out; rw [List.take_length] at h; exact h)
   have RS2 := hid (ds_rest l p)
   obtain ⟨g5, cap5, e5⟩ := HT5.out
   have E5 := hid e5
   generalize hqd : l.foldl ds1 p = qd at *
   have HQD := hid hqd
   have LQL := hid (show qd.lines = p.lines by rw [RS2.out])
   have LQB := hid (show qd.bits = p.bits by rw [RS2.out])
   clear HT RST LT hqd
   have BD : Hid (BoxT wr.drew wb tag V qd) := hid (HT2.out.below (below_drew wr 1))
   have KD : Hid (Kt tag tag W wr.drew) := hid (HK.out.trans (.below (below_drew wr 1)))
   have eL2 : V 4 = .slice (some ⟨gL, 0, none⟩) qd.lines.length qd.lines.length := by rw [LQL.out]; exact EL.out
   have fl : wr.drew.frozen? ⟨gL, f, none⟩ = false := by
    have h5 := BD.out.o.lines
    rw [eL2] at h5
    exact h5.fr f
   obtain ⟨yl, xl⟩ : ∃ y, wr.drew.cell? ⟨gL, f, none⟩ = some y := ⟨_, HC.out⟩
   obtain ⟨b1, q1⟩ := BD.out.lineNil eL2 (j := f) (by rw [LQL.out]; exact HF.out)
   have B1 := hid (show BoxT (wr.setCell ⟨gL, f, none⟩ (.slice none 0 0)).drew wb tag V { qd with lines := qd.lines.set f [] } from b1)
   have K1 := hid (show Kt tag tag W (wr.setCell ⟨gL, f, none⟩ (.slice none 0 0)).drew from KD.out.trans q1)
   have e52 : V 5 = .slice (some ⟨g5, 0, none⟩) ({ qd with lines := qd.lines.set f [] } : PW).bits.length cap5 := by show V 5 = .slice (some ⟨g5, 0, none⟩) qd.bits.length cap5; rw [LQB.out]; exact e5
   obtain ⟨yb, xb⟩ : ∃ y, (wr.setCell ⟨gL, f, none⟩ (.slice none 0 0)).drew.cell? ⟨g5, f, none⟩ = some y := ⟨_, B1.out.bitsInt e52 (i := f) (by show f < qd.bits.length; rw [LQB.out]; exact HBI.out)⟩
   have fb := B1.out.bitsFr e52 f
   obtain ⟨b2, q2⟩ := B1.out.bitsCell e52 f 0
   have B2 := hid (show BoxT ((wr.setCell ⟨gL, f, none⟩ (.slice none 0 0)).drew.setCell ⟨g5, f, none⟩ (.int .i64 0)) wb tag V (dsP p f) by
    unfold dsP
    rw [HL.out, HQD.out, ← LQL.out, ← LQB.out]
    exact b2)
   have K2 := hid (K1.out.trans q2)
   have KS := hid (fun X q (h : BoxT X wb tag V q) => show X.cell? ⟨wb, 4, none⟩ = some (.slice (some ⟨gL, 0, none⟩) p.lines.length p.lines.length) ∧ X.cell? ⟨wb, 5, none⟩ = some (.slice (some ⟨g5, 0, none⟩) p.bits.length cap5) from ⟨by rw [range_cell h.r (k := 4) rfl, EL.out], by rw [range_cell h.r (k := 5) rfl, E5.out]⟩)
   have S0 := hid (KS.out _ _ BD.out)
   have S1 := hid (KS.out _ _ B1.out)
   have S2 := hid (KS.out _ _ B2.out)
   clear b1 q1 b2 q2 e52 eL2 e5 HC
   go_upto_region 5 with fail
   refine wp_region_held_drew (S := fun X => X.cell? ⟨wb, 4, none⟩ = some (.slice (some ⟨gL, 0, none⟩) p.lines.length p.lines.length) ∧ X.cell? ⟨wb, 5, none⟩ = some (.slice (some ⟨g5, 0, none⟩) p.bits.length cap5)) (by kernel_rfl) S0.out (fun hH0 => ?_)
   have hH := hid hH0
   clear hH0
   refine tk 0 (.pointer (some ⟨wb, 0, none⟩)) rfl hH.out ?_
   simp only [jj]
   refine tk 1 (.pointer (some ⟨wb, 0, none⟩)) rfl hH.out ?_
   simp only [jj]
   refine tk 2 (.pointer (some ⟨wb, 4, none⟩)) rfl hH.out ?_
   simp only [jj]
   refine Mem.tg 3 (.slice (some ⟨gL, 0, none⟩) p.lines.length p.lines.length) rfl (Or.inl ⟨by rfl, fun W h => by have h3 := h.1; clear h; go_simp⟩) hH.out ?_
   simp only [jj]
   refine tk 4 (.int .i64 f) rfl hH.out ?_
   simp only [jj]
   refine tk 5 (.pointer (some ⟨wb, 0, none⟩)) rfl hH.out ?_
   simp only [jj]
   refine tk 6 (.pointer (some ⟨wb, 0, none⟩)) rfl hH.out ?_
   simp only [jj]
   refine tk 7 (.pointer (some ⟨wb, 5, none⟩)) rfl hH.out ?_
   simp only [jj]
   refine Mem.tg 8 (.slice (some ⟨g5, 0, none⟩) p.bits.length cap5) rfl (Or.inl ⟨by rfl, fun W h => by have h3 := h.2; clear h; go_simp⟩) hH.out ?_
   simp only [jj]
   refine tk 9 (.int .i64 f) rfl hH.out ?_
   simp only [jj]
   refine tk 10 (.pointer (some ⟨gL, f, none⟩)) rfl hH.out ?_
   simp only [jj]
   refine wpAnyH_ready (rs := [11]) (by kernel_rfl) (by simp) (AllReadyH.cons rfl (fun K hK => ?_) AllReadyH.nil)
   go_simp
   refine hK.out _ _ S1.out (fun _ => ?_)
   clear hK K hH xl fl
   try simp only [Act.put]
   generalize World.drew (World.setCell _ _ _) = W1 at *
   refine tk 12 (.pointer (some ⟨g5, f, none⟩)) rfl S1.out ?_
   simp only [jj]
   refine wpAnyH_ready (rs := [13]) (by kernel_rfl) (by simp) (AllReadyH.cons rfl (fun K hK => ?_) AllReadyH.nil)
   go_simp
   refine hK.out _ _ S2.out (fun _ => ?_)
   clear hK K xb fb
   try simp only [Act.put]
   refine wpAnyH_done (by kernel_rfl) ?_ _
   generalize World.setCell _ _ _ = W2 at *
   clear S0 S1 S2 B1 K1 BD KD KS
   go_wp2_with fail
   exact bodyPost_end (results_none rfl _ _ _) rfl ⟨rfl, B2.out, K2.out⟩
/-- A slot is emptied; what was made from it is made from what it was made from. -/
def drA (p : PW) (s : Nat) : PW := { p with slots := hnd s ((p.slots.getD s eS) 6) (p.slots.set s eS) }
def daF (dr : PW → Nat → PW) (f : Nat) (a : Nat) (p : PW) : PW := if h : a = 0 then p else daF dr f (a - 1) (if (p.slots.getD (f * 16 + (a - 1)) eS) 0 = 0 then p else dr p (f * 16 + (a - 1)))
theorem da_zero (dr : PW → Nat → PW) (f : Nat) (p : PW) : daF dr f 0 p = p := by rw [daF, dif_pos rfl]
theorem da_succ (dr : PW → Nat → PW) (f a : Nat) (p : PW) : daF dr f (a + 1) p = daF dr f a (if (p.slots.getD (f * 16 + a) eS) 0 = 0 then p else dr p (f * 16 + a)) := by rw [daF, dif_neg (Nat.succ_ne_zero a), Nat.add_sub_cancel]
/-- A frame is nothing. -/
def nkP (p : PW) (f : Nat) : PW := { p with kinds := p.kinds.set f 0 }
def lsF (dr : PW → Nat → PW) (p : PW) (k : Int) (f : Nat) : PW :=
 if k = 2 ∨ k = 3 then utP (nkP p f) f else if k = 4 then fgP 12 (nkP p f) f else if k = 5 then daF dr f 16 (fgP 11 (nkP p f) f) else if k = 6 then etP (nkP p f) f else fgP 13 (dsP (nkP p f) f) f
/-- A key is dropped (m: more than the nodes that there are). -/
def drF : Nat → PW → Nat → PW
 | 0, p, _ => p
 | m + 1, p, s => if (p.slots.getD s eS) 0 = 1 ∨ opnd (drA p s) ((p.slots.getD s eS) 0) ((p.slots.getD s eS) 1) = true then drA p s else lsF (drF m) (drA p s) ((p.slots.getD s eS) 0) ((p.slots.getD s eS) 1).toNat
def nds (p : PW) : Nat := p.kinds.count 5
/-- What stays true while keys are dropped. -/
structure Inv (p : PW) : Prop where
 fits : p.Fits
 k24 : p.kinds.length ≤ 24
 ram : p.ram.length = p.kinds.length * 16
 slots : p.slots.length = p.kinds.length * 16
 tasks : p.tasks.length = p.kinds.length
 lines : p.lines.length = p.kinds.length
 bits : p.bits.length = p.kinds.length
 key : ∀ f ∈ p.slots, f 0 = 0 ∨ f 0 = 1 ∨ (2 ≤ f 0 ∧ f 0 ≤ 8 ∧ ∃ b : Nat, f 1 = b ∧ p.kinds[b]? = some (f 0))
 line : ∀ l ∈ p.lines, ∀ z ∈ l, ∃ u : Nat, z = u ∧ u < p.tasks.length
 owes : ∀ f ∈ p.tasks, f 17 = -1 ∨ ∃ u : Nat, f 17 = u ∧ u < p.tasks.length
 ent : ∀ (i : Nat) (x k : Int), p.ram[i]? = some x → p.kinds[i / 16]? = some k → (k = 3 ∨ k = 4) → x = 0 ∨ ∃ f : Nat, f < 1024 ∧ (x = 32768 + f ∨ x = 49152 + f)
 help : ∀ f ∈ p.tasks, f 13 = -1 ∨ ∃ u : Nat, f 13 = u ∧ p.kinds[u]? = some 7
theorem hnd_mem {a b : Int} {fs : List (Nat → Int)} {g : Nat → Int} (h : g ∈ hnd a b fs) : ∃ f ∈ fs, g 0 = f 0 ∧ g 1 = f 1 := by
 unfold hnd at h
 obtain ⟨f, hf, rfl⟩ := List.mem_map.1 h
 refine ⟨f, hf, ?_⟩
 unfold hnd1
 by_cases h6 : f 6 = a
 ·rw [if_pos h6]; exact ⟨rfl, rfl⟩
 ·rw [if_neg h6]; exact ⟨rfl, rfl⟩
theorem hnd_len (a b : Int) (fs : List (Nat → Int)) : (hnd a b fs).length = fs.length := List.length_map _
theorem drA_inv {p : PW} (h : Inv p) (s : Nat) : Inv (drA p s) := by
 have hl : (drA p s).slots.length = p.slots.length := by
  show (hnd _ _ (p.slots.set s eS)).length = _
  rw [hnd_len, List.length_set]
 exact ⟨⟨h.fits.ram, h.fits.kinds, by rw [hl]; exact h.fits.slots, h.fits.tasks, h.fits.lines, h.fits.line, h.fits.bits, h.fits.cores, h.fits.ready, h.fits.next, h.fits.tlbs, h.fits.doms⟩, h.k24, h.ram, hl.trans h.slots, h.tasks, h.lines, h.bits, fun g hg => by
  obtain ⟨f, hf, h0, h1⟩ := hnd_mem hg
  rw [h0, h1]
  rcases List.mem_or_eq_of_mem_set hf with hf | rfl
  ·exact h.key f hf
  ·exact .inl rfl, h.line, h.owes, h.ent, h.help⟩
theorem opnd_none {p : PW} {k g : Int} (h : opnd p k g = false) : ∀ f ∈ p.slots, ¬ (f 0 = k ∧ f 1 = g) := fun f hf e => by
 unfold opnd at h
 rw [List.any_eq_false] at h
 exact h f hf (by simp [e.1, e.2])
/-- The same without what tells of helpers. -/
structure InvH (p : PW) (n : Int) : Prop where
 fits : p.Fits
 k24 : p.kinds.length ≤ 24
 ram : p.ram.length = p.kinds.length * 16
 slots : p.slots.length = p.kinds.length * 16
 tasks : p.tasks.length = p.kinds.length
 lines : p.lines.length = p.kinds.length
 bits : p.bits.length = p.kinds.length
 key : ∀ f ∈ p.slots, f 0 = 0 ∨ f 0 = 1 ∨ (2 ≤ f 0 ∧ f 0 ≤ 8 ∧ ∃ b : Nat, f 1 = b ∧ p.kinds[b]? = some (f 0))
 line : ∀ l ∈ p.lines, ∀ z ∈ l, ∃ u : Nat, z = u ∧ u < p.tasks.length
 owes : ∀ f ∈ p.tasks, f 17 = -1 ∨ ∃ u : Nat, f 17 = u ∧ u < p.tasks.length
 ent : ∀ (i : Nat) (x k : Int), p.ram[i]? = some x → p.kinds[i / 16]? = some k → (k = 3 ∨ k = 4) → x = 0 ∨ ∃ f : Nat, f < 1024 ∧ (x = 32768 + f ∨ x = 49152 + f)
 help : ∀ f ∈ p.tasks, f 13 = -1 ∨ f 13 = n ∨ ∃ u : Nat, f 13 = u ∧ p.kinds[u]? = some 7
theorem nk_get {p : PW} {f b : Nat} {k : Int} (h : (nkP p f).kinds[b]? = some k) (hk : k ≠ 0) : p.kinds[b]? = some k ∧ b ≠ f := by
 have h1 : (p.kinds.set f 0)[b]? = some k := h
 rw [List.getElem?_set] at h1
 by_cases e : f = b
 ·rw [if_pos e] at h1
  by_cases hl : b < p.kinds.length
  ·rw [if_pos (by omega)] at h1; exact absurd (Option.some.inj h1).symm hk
  ·rw [if_neg (by omega)] at h1; cases h1
 ·rw [if_neg e] at h1
  exact ⟨h1, fun e2 => e e2.symm⟩
theorem nk_keep {p : PW} {f b : Nat} {k : Int} (h : p.kinds[b]? = some k) (hb : b ≠ f) : (nkP p f).kinds[b]? = some k := by
 show (p.kinds.set f 0)[b]? = some k
 rw [List.getElem?_set_ne (fun e => hb e.symm)]
 exact h
theorem nk_inv {p : PW} (h : Inv p) {f : Nat} {k : Int} (hk : p.kinds[f]? = some k) (ho : opnd p k f = false) : InvH (nkP p f) f := by
 have hl : (nkP p f).kinds.length = p.kinds.length := List.length_set ..
 refine ⟨⟨h.fits.ram, by rw [hl]; exact h.fits.kinds, h.fits.slots, h.fits.tasks, h.fits.lines, h.fits.line, h.fits.bits, h.fits.cores, h.fits.ready, h.fits.next, h.fits.tlbs, h.fits.doms⟩, by rw [hl]; exact h.k24, by rw [hl]; exact h.ram, by rw [hl]; exact h.slots, by rw [hl]; exact h.tasks, by rw [hl]; exact h.lines, by rw [hl]; exact h.bits, fun g hg => ?_, h.line, h.owes, fun i x k2 hx hk2 h34 => ?_, fun g hg => ?_⟩
 ·rcases h.key g hg with h0 | h1 | ⟨h2, h8, b, hb, hkb⟩
  ·exact .inl h0
  ·exact .inr (.inl h1)
  ·refine .inr (.inr ⟨h2, h8, b, hb, nk_keep hkb ?_⟩)
   rintro rfl
   rw [hk] at hkb
   exact opnd_none ho g hg ⟨(Option.some.inj hkb).symm, hb⟩
 ·exact h.ent i x k2 hx (nk_get hk2 (by omega)).1 h34
 ·rcases h.help g hg with h1 | ⟨u, hu, hku⟩
  ·exact .inl h1
  ·by_cases e : u = f
   ·exact .inr (.inl (by rw [hu, e]))
   ·exact .inr (.inr ⟨u, hu, nk_keep hku e⟩)
theorem InvH.full {p : PW} {n : Int} (h : InvH p n) (hh : ∀ f ∈ p.tasks, f 13 = n → f 13 = -1) : Inv p := ⟨h.fits, h.k24, h.ram, h.slots, h.tasks, h.lines, h.bits, h.key, h.line, h.owes, h.ent, fun f hf => by
 rcases h.help f hf with h1 | h1 | h1
 ·exact .inl h1
 ·exact .inl (hh f hf h1)
 ·exact .inr h1⟩
/-- Only a door is a helper. -/
theorem nk_inv7 {p : PW} (h : Inv p) {f : Nat} {k : Int} (hk : p.kinds[f]? = some k) (ho : opnd p k f = false) (h7 : k ≠ 7) : Inv (nkP p f) :=
 (nk_inv h hk ho).full fun g hg e => by
  rcases h.help g hg with h1 | ⟨u, hu, hku⟩
  ·exact h1
  ·have : u = f := by omega
   subst this
   rw [hk] at hku
   exact absurd (Option.some.inj hku) h7
theorem ut_inv {p : PW} (h : Inv p) (f : Int) : Inv (utP p f) := by
 have hl : (utP p f).ram.length = p.ram.length := List.length_mapIdx
 refine ⟨⟨by rw [hl]; exact h.fits.ram, h.fits.kinds, h.fits.slots, h.fits.tasks, h.fits.lines, h.fits.line, h.fits.bits, h.fits.cores, h.fits.ready, h.fits.next, h.fits.tlbs, h.fits.doms⟩, h.k24, hl.trans h.ram, h.slots, h.tasks, h.lines, h.bits, h.key, h.line, h.owes, fun i x k hx hk h34 => ?_, h.help⟩
 have h1 : (p.ram.mapIdx (ut1 p.kinds f))[i]? = some x := hx
 rw [List.getElem?_mapIdx] at h1
 cases e : p.ram[i]? with
 | none => rw [e] at h1; cases h1
 | some y =>
  rw [e] at h1
  have h2 : ut1 p.kinds f i y = x := Option.some.inj h1
  unfold ut1 at h2
  split at h2
  ·exact .inl h2.symm
  ·rw [← h2]; exact h.ent i y k e hk h34
theorem fg_inv {p : PW} {n : Int} (h : InvH p n) (c : Nat) (hc : c ≠ 17) (f : Int) : InvH (fgP c p f) n := by
 have hl : (fgP c p f).tasks.length = p.tasks.length := List.length_map _
 have hm : ∀ g ∈ (fgP c p f).tasks, ∃ g0 ∈ p.tasks, g 17 = g0 17 ∧ (g 13 = g0 13 ∨ g 13 = -1) := fun g hg => by
  obtain ⟨g0, h0, rfl⟩ := List.mem_map.1 (show g ∈ p.tasks.map (fg1 c f) from hg)
  refine ⟨g0, h0, ?_⟩
  unfold fg1
  by_cases e : g0 c = f
  ·rw [if_pos e]
   unfold upd
   refine ⟨if_neg (fun e => hc e.symm), ?_⟩
   by_cases e2 : 13 = c
   ·rw [if_pos e2]; exact .inr rfl
   ·rw [if_neg e2]; exact .inl rfl
  ·rw [if_neg e]; exact ⟨rfl, .inl rfl⟩
 refine ⟨⟨h.fits.ram, h.fits.kinds, h.fits.slots, by rw [hl]; exact h.fits.tasks, h.fits.lines, h.fits.line, h.fits.bits, h.fits.cores, h.fits.ready, h.fits.next, h.fits.tlbs, h.fits.doms⟩, h.k24, h.ram, h.slots, hl.trans h.tasks, h.lines, h.bits, h.key, fun l hl2 z hz => by rw [hl]; exact h.line l hl2 z hz, fun g hg => ?_, h.ent, fun g hg => ?_⟩
 ·obtain ⟨g0, h0, e, -⟩ := hm g hg
  rw [e, hl]
  exact h.owes g0 h0
 ·obtain ⟨g0, h0, -, e | e⟩ := hm g hg
  ·rw [e]; exact h.help g0 h0
  ·exact .inl e
theorem Inv.h {p : PW} (h : Inv p) (n : Int) : InvH p n := ⟨h.fits, h.k24, h.ram, h.slots, h.tasks, h.lines, h.bits, h.key, h.line, h.owes, h.ent, fun f hf => by
 rcases h.help f hf with h1 | h1
 ·exact .inl h1
 ·exact .inr (.inr h1)⟩
theorem fg_full {p : PW} (h : Inv p) (c : Nat) (hc : c ≠ 17) (f : Int) : Inv (fgP c p f) := (fg_inv (h.h (-1)) c hc f).full fun _ _ e => e
theorem fg_help {p : PW} {n : Int} (h : InvH p n) : Inv (fgP 13 p n) := (fg_inv h 13 (by decide) n).full fun g hg e => by
 obtain ⟨g0, h0, rfl⟩ := List.mem_map.1 (show g ∈ p.tasks.map (fg1 13 n) from hg)
 unfold fg1 at e ⊢
 by_cases e2 : g0 13 = n
 ·rw [if_pos e2]; exact if_pos rfl
 ·rw [if_neg e2] at e; exact absurd e e2
/-- A task's cells but what it owes and who helps it. -/
theorem task_inv {p : PW} {n : Int} (h : InvH p n) (t c : Nat) (x : Int) (h17 : c ≠ 17) (h13 : c ≠ 13) : InvH (p.task t c x) n := by
 have hl := PW.task_len p t c x
 have hm : ∀ g ∈ (p.task t c x).tasks, ∃ g0, (g0 ∈ p.tasks ∨ g0 = bl) ∧ g 17 = g0 17 ∧ g 13 = g0 13 := fun g hg => by
  rcases List.mem_or_eq_of_mem_set (show g ∈ p.tasks.set t (upd (p.tasks.getD t bl) c x) from hg) with h1 | h1
  ·exact ⟨g, .inl h1, rfl, rfl⟩
  ·refine ⟨p.tasks.getD t bl, ?_, ?_, ?_⟩
   ·rw [List.getD_eq_getElem?_getD]
    cases e : p.tasks[t]? with
    | none => exact .inr rfl
    | some y => exact .inl (List.mem_of_getElem? e)
   ·rw [h1]; exact if_neg (fun e => h17 e.symm)
   ·rw [h1]; exact if_neg (fun e => h13 e.symm)
 refine ⟨⟨h.fits.ram, h.fits.kinds, h.fits.slots, by rw [hl]; exact h.fits.tasks, h.fits.lines, h.fits.line, h.fits.bits, h.fits.cores, h.fits.ready, h.fits.next, h.fits.tlbs, h.fits.doms⟩, h.k24, h.ram, h.slots, hl.trans h.tasks, h.lines, h.bits, h.key, fun l hl2 z hz => by rw [hl]; exact h.line l hl2 z hz, fun g hg => ?_, h.ent, fun g hg => ?_⟩
 ·obtain ⟨g0, h0, e, -⟩ := hm g hg
  rw [e, hl]
  rcases h0 with h0 | rfl
  ·exact h.owes g0 h0
  ·exact .inl rfl
 ·obtain ⟨g0, h0, -, e⟩ := hm g hg
  rw [e]
  rcases h0 with h0 | rfl
  ·exact h.help g0 h0
  ·exact .inl rfl
theorem ds_inv {n : Int} : ∀ (l : List Int) (p : PW), InvH p n → InvH (l.foldl ds1 p) n
 | [], _, h => h
 | z :: l, p, h => by
  rw [List.foldl_cons]
  exact ds_inv l (ds1 p z) (task_inv (task_inv h z.toNat 9 0 (by decide) (by decide)) z.toNat 14 (-1) (by decide) (by decide))
theorem dsP_inv {p : PW} {n : Int} (h : InvH p n) (f : Nat) : InvH (dsP p f) n := by
 have h1 := ds_inv (p.lines.getD f []) p h
 have e := ds_rest (p.lines.getD f []) p
 unfold dsP
 generalize (p.lines.getD f []).foldl ds1 p = q at h1 e
 have hk : q.kinds = p.kinds := by rw [e]
 refine ⟨⟨h1.fits.ram, h1.fits.kinds, h1.fits.slots, h1.fits.tasks, by show (p.lines.set f []).length ≤ 1000; rw [List.length_set]; exact h.fits.lines, fun l hl => ?_, by show (p.bits.set f 0).length ≤ 1000; rw [List.length_set]; exact h.fits.bits, h1.fits.cores, h1.fits.ready, h1.fits.next, h1.fits.tlbs, h1.fits.doms⟩, h1.k24, h1.ram, h1.slots, h1.tasks, by show (p.lines.set f []).length = q.kinds.length; rw [List.length_set, hk]; exact h.lines, by show (p.bits.set f 0).length = q.kinds.length; rw [List.length_set, hk]; exact h.bits, h1.key, fun l hl z hz => ?_, h1.owes, h1.ent, h1.help⟩
 ·rcases List.mem_or_eq_of_mem_set (show l ∈ p.lines.set f [] from hl) with h2 | rfl
  ·exact h.fits.line l h2
  ·exact Nat.zero_le _
 ·rcases List.mem_or_eq_of_mem_set (show l ∈ p.lines.set f [] from hl) with h2 | rfl
  ·obtain ⟨u, hu, hlt⟩ := h.line l h2 z hz
   exact ⟨u, hu, by show u < q.tasks.length; rw [h1.tasks, hk, ← h.tasks]; exact hlt⟩
  ·cases hz
theorem lvs_sub {t : Int} {ls : List (List Int)} {l : List Int} (h : l ∈ lvs t ls) : ∃ l0 ∈ ls, (∀ z ∈ l, z ∈ l0) ∧ l.length ≤ l0.length := by
 unfold lvs at h
 obtain ⟨l0, h0, rfl⟩ := List.mem_map.1 h
 unfold goneP
 exact ⟨l0, h0, fun z hz => (List.mem_filter.1 hz).1, List.length_filter_le _ _⟩
theorem st_inv {p : PW} {n : Int} (h : InvH p n) (t : Nat) : InvH (stP p t) n := by
 have hl : (p.tasks.map (nOw t)).length = p.tasks.length := List.length_map _
 have hb : InvH ({ p with lines := lvs t p.lines, ready := lvs t p.ready, cores := p.cores.map (noT t), tasks := p.tasks.map (nOw t) } : PW) n := by
  refine ⟨⟨h.fits.ram, h.fits.kinds, h.fits.slots, by show (p.tasks.map (nOw t)).length ≤ 1000; rw [hl]; exact h.fits.tasks, by show (lvs t p.lines).length ≤ 1000; rw [lvs_len]; exact h.fits.lines, fun l hl2 => ?_, h.fits.bits, by show (p.cores.map (noT t)).length ≤ 1000; rw [List.length_map]; exact h.fits.cores, by show (lvs t p.ready).length ≤ 1000; rw [lvs_len]; exact h.fits.ready, fun l hl2 => ?_, h.fits.tlbs, h.fits.doms⟩, h.k24, h.ram, h.slots, by show (p.tasks.map (nOw t)).length = _; rw [hl]; exact h.tasks, by show (lvs t p.lines).length = _; rw [lvs_len]; exact h.lines, h.bits, h.key, fun l hl2 z hz => ?_, fun g hg => ?_, h.ent, fun g hg => ?_⟩
  ·obtain ⟨l0, h0, -, h1⟩ := lvs_sub hl2
   exact Nat.le_trans h1 (h.fits.line l0 h0)
  ·obtain ⟨l0, h0, -, h1⟩ := lvs_sub hl2
   exact Nat.le_trans h1 (h.fits.next l0 h0)
  ·obtain ⟨l0, h0, h1, -⟩ := lvs_sub hl2
   obtain ⟨u, hu, hlt⟩ := h.line l0 h0 z (h1 z hz)
   exact ⟨u, hu, by show u < (p.tasks.map (nOw t)).length; rw [hl]; exact hlt⟩
  ·obtain ⟨g0, h0, rfl⟩ := List.mem_map.1 (show g ∈ p.tasks.map (nOw t) from hg)
   show nOw t g0 17 = -1 ∨ ∃ u : Nat, nOw t g0 17 = u ∧ u < (p.tasks.map (nOw t)).length
   rw [hl]
   unfold nOw
   by_cases e : g0 17 = t
   ·rw [if_pos e]; exact .inl (if_pos rfl)
   ·rw [if_neg e]; exact h.owes g0 h0
  ·obtain ⟨g0, h0, rfl⟩ := List.mem_map.1 (show g ∈ p.tasks.map (nOw t) from hg)
   have e13 : nOw t g0 13 = g0 13 := by
    unfold nOw
    by_cases e : g0 17 = t
    ·rw [if_pos e]; exact if_neg (by decide)
    ·rw [if_neg e]
   rw [e13]
   exact h.help g0 h0
 exact task_inv (task_inv hb t 9 0 (by decide) (by decide)) t 14 (-1) (by decide) (by decide)
theorem set_inv {p : PW} {n : Int} (h : InvH p n) (t : Nat) : InvH ({ p with tasks := p.tasks.set t bl } : PW) n := by
 have hl : (p.tasks.set t bl).length = p.tasks.length := List.length_set ..
 refine ⟨⟨h.fits.ram, h.fits.kinds, h.fits.slots, by show (p.tasks.set t bl).length ≤ 1000; rw [hl]; exact h.fits.tasks, h.fits.lines, h.fits.line, h.fits.bits, h.fits.cores, h.fits.ready, h.fits.next, h.fits.tlbs, h.fits.doms⟩, h.k24, h.ram, h.slots, hl.trans h.tasks, h.lines, h.bits, h.key, fun l hl2 z hz => by
  obtain ⟨u, hu, hlt⟩ := h.line l hl2 z hz
  exact ⟨u, hu, by show u < (p.tasks.set t bl).length; rw [hl]; exact hlt⟩, fun g hg => ?_, h.ent, fun g hg => ?_⟩
 ·show g 17 = -1 ∨ ∃ u : Nat, g 17 = u ∧ u < (p.tasks.set t bl).length
  rw [hl]
  rcases List.mem_or_eq_of_mem_set (show g ∈ p.tasks.set t bl from hg) with h1 | rfl
  ·exact h.owes g h1
  ·exact .inl rfl
 ·rcases List.mem_or_eq_of_mem_set (show g ∈ p.tasks.set t bl from hg) with h1 | rfl
  ·exact h.help g h1
  ·exact .inl rfl
theorem et_inv {p : PW} (h : Inv p) (t : Nat) : Inv (etP p t) := by
 have h1 : InvH (if p.tasks.getD t bl 17 = -1 then stP p t else (stP p t).task (p.tasks.getD t bl 17).toNat 9 0) (-1) := by
  split
  ·exact st_inv (h.h (-1)) t
  ·exact task_inv (st_inv (h.h (-1)) t) _ 9 0 (by decide) (by decide)
 exact (set_inv h1 t).full fun _ _ e => e
theorem et_kinds (p : PW) (t : Nat) : (etP p t).kinds = p.kinds := by
 unfold etP
 split <;> rfl
theorem ds_kinds (p : PW) (f : Nat) : (dsP p f).kinds = p.kinds := by
 have e := ds_rest (p.lines.getD f []) p
 show ((p.lines.getD f []).foldl ds1 p).kinds = p.kinds
 rw [e]
theorem cnt_set : ∀ (l : List Int) (f : Nat), (l.set f 0).count 5 ≤ l.count 5 ∧ (l[f]? = some 5 → (l.set f 0).count 5 + 1 = l.count 5)
 | [], f => ⟨Nat.le_refl _, fun h => by simp at h⟩
 | x :: l, 0 => by
  rw [List.set_cons_zero, List.count_cons, List.count_cons]
  refine ⟨by simp, fun h => ?_⟩
  have : x = 5 := by simpa using h
  rw [this]
  simp
 | x :: l, f + 1 => by
  obtain ⟨h1, h2⟩ := cnt_set l f
  rw [List.set_cons_succ, List.count_cons, List.count_cons]
  refine ⟨by omega, fun h => ?_⟩
  have := h2 (by simpa using h)
  omega
theorem da_inv {m : Nat} {dr : PW → Nat → PW} {f : Nat} (hd : ∀ p s, nds p < m → Inv p → s < p.slots.length → (p.slots.getD s eS) 0 ≠ 0 → Inv (dr p s) ∧ nds (dr p s) ≤ nds p ∧ (dr p s).kinds.length = p.kinds.length) : ∀ (a : Nat) (p : PW), nds p < m → Inv p → f * 16 + a ≤ p.slots.length → Inv (daF dr f a p) ∧ nds (daF dr f a p) ≤ nds p ∧ (daF dr f a p).kinds.length = p.kinds.length
 | 0, p, _, h, _ => by
  rw [da_zero]
  exact ⟨h, Nat.le_refl _, rfl⟩
 | a + 1, p, hn, h, hl => by
  rw [da_succ]
  by_cases h0 : (p.slots.getD (f * 16 + a) eS) 0 = 0
  ·rw [if_pos h0]
   exact da_inv hd a p hn h (by omega)
  ·rw [if_neg h0]
   obtain ⟨h1, h2, h3⟩ := hd p (f * 16 + a) hn h (by omega) h0
   have h7 : (dr p (f * 16 + a)).slots.length = p.slots.length := by rw [h1.slots, h3, h.slots]
   obtain ⟨h4, h5, h6⟩ := da_inv (m := m) (f := f) hd a (dr p (f * 16 + a)) (by omega) h1 (by omega)
   exact ⟨h4, by omega, by omega⟩
theorem slot_mem {p : PW} {s : Nat} (hs : s < p.slots.length) : p.slots.getD s eS ∈ p.slots := by
 rw [List.getD_eq_getElem?_getD, List.getElem?_eq_getElem hs]
 exact List.getElem_mem hs
/-- What is known where a thing goes. -/
theorem ls_in {p : PW} (h : Inv p) {s : Nat} (hs : s < p.slots.length) (h0 : (p.slots.getD s eS) 0 ≠ 0) (h1 : ¬ (p.slots.getD s eS) 0 = 1) : ∃ b : Nat, (p.slots.getD s eS) 1 = b ∧ p.kinds[b]? = some ((p.slots.getD s eS) 0) ∧ 2 ≤ (p.slots.getD s eS) 0 ∧ (p.slots.getD s eS) 0 ≤ 8 := by
 rcases h.key _ (slot_mem hs) with e | e | ⟨h2, h8, b, hb, hk⟩
 ·exact absurd e h0
 ·exact absurd e h1
 ·exact ⟨b, hb, hk, h2, h8⟩
theorem ls_inv {m : Nat} {dr : PW → Nat → PW} (hd : ∀ p s, nds p < m → Inv p → s < p.slots.length → (p.slots.getD s eS) 0 ≠ 0 → Inv (dr p s) ∧ nds (dr p s) ≤ nds p ∧ (dr p s).kinds.length = p.kinds.length) {p : PW} (h : Inv p) (hn : nds p < m + 1) {k : Int} {f : Nat} (hk : p.kinds[f]? = some k) (ho : opnd p k f = false) : Inv (lsF dr p k f) ∧ nds (lsF dr p k f) ≤ nds p ∧ (lsF dr p k f).kinds.length = p.kinds.length := by
 have hl : (nkP p f).kinds.length = p.kinds.length := List.length_set ..
 have hc := cnt_set p.kinds f
 have hc1 : nds (nkP p f) ≤ nds p := hc.1
 unfold lsF
 by_cases e23 : k = 2 ∨ k = 3
 ·rw [if_pos e23]
  exact ⟨ut_inv (nk_inv7 h hk ho (by omega)) f, hc1, hl⟩
 rw [if_neg e23]
 by_cases e4 : k = 4
 ·rw [if_pos e4]
  exact ⟨fg_full (nk_inv7 h hk ho (by omega)) 12 (by decide) f, hc1, hl⟩
 rw [if_neg e4]
 by_cases e5 : k = 5
 ·rw [if_pos e5]
  have hi := fg_full (nk_inv7 h hk ho (by omega)) 11 (by decide) (f : Int)
  have hc2 : nds (nkP p f) + 1 = nds p := hc.2 (by rw [hk, e5])
  have hfl : f < p.kinds.length := (List.getElem?_eq_some_iff.1 hk).1
  obtain ⟨a1, a2, a3⟩ := da_inv (m := m) (f := f) hd 16 (fgP 11 (nkP p f) f) (by show nds (nkP p f) < m; omega) hi (by show f * 16 + 16 ≤ p.slots.length; have := h.slots; omega)
  exact ⟨a1, Nat.le_trans a2 hc1, a3.trans hl⟩
 rw [if_neg e5]
 by_cases e6 : k = 6
 ·rw [if_pos e6]
  refine ⟨et_inv (nk_inv7 h hk ho (by omega)) f, ?_, ?_⟩
  ·show (etP (nkP p f) f).kinds.count 5 ≤ _; rw [et_kinds]; exact hc1
  ·rw [et_kinds]; exact hl
 rw [if_neg e6]
 refine ⟨fg_help (dsP_inv (nk_inv h hk ho) f), ?_, ?_⟩
 ·show (dsP (nkP p f) f).kinds.count 5 ≤ _; rw [ds_kinds]; exact hc1
 ·show (dsP (nkP p f) f).kinds.length = _; rw [ds_kinds]; exact hl
theorem dr_inv : ∀ (m : Nat) (p : PW) (s : Nat), nds p < m → Inv p → s < p.slots.length → (p.slots.getD s eS) 0 ≠ 0 → Inv (drF m p s) ∧ nds (drF m p s) ≤ nds p ∧ (drF m p s).kinds.length = p.kinds.length
 | 0, p, _, hn, _, _, _ => absurd hn (Nat.not_lt_zero _)
 | m + 1, p, s, hn, h, hs, h0 => by
  unfold drF
  by_cases hc : (p.slots.getD s eS) 0 = 1 ∨ opnd (drA p s) ((p.slots.getD s eS) 0) ((p.slots.getD s eS) 1) = true
  ·rw [if_pos hc]
   exact ⟨drA_inv h s, Nat.le_refl _, rfl⟩
  ·rw [if_neg hc]
   obtain ⟨b, hb, hk, -, -⟩ := ls_in h hs h0 (fun e => hc (.inl e))
   rw [hb, Int.toNat_natCast]
   have ho : opnd (drA p s) ((p.slots.getD s eS) 0) b = false := by
    cases e : opnd (drA p s) ((p.slots.getD s eS) 0) b with
    | false => rfl
    | true => exact absurd (.inr (by rw [hb]; exact e)) hc
   exact ls_inv (m := m) (dr_inv m) (drA_inv h s) hn hk ho
/-- What tree.drop does, where there are less than m nodes. -/
def DropsAt (m : Nat) : Prop := ∀ (p : PW) (s : Nat) (W : World) (wb : Nat) (tag : Nat → Nat) (V : Nat → Value), nds p < m → Inv p → s < p.slots.length → (p.slots.getD s eS) 0 ≠ 0 → BoxT W wb tag V p → Calls Tryz.prog 44 #[.pointer (some ⟨wb, 0, none⟩), .int .i64 s] W fun r W' => r = .returned (.tuple #[]) ∧ ∃ tag', BoxT W' wb tag' V (drF m p s) ∧ Kt tag tag' W W'
theorem retagD {W : World} {wb : Nat} {tag : Nat → Nat} {V : Nat → Value} {p : PW} (h : BoxT W wb tag V p) (x : Nat) : BoxT W wb (tagN tag W.heap.size x) V p ∧ Kt tag (tagN tag W.heap.size x) W W :=
 ⟨h.kp (T := fun _ => False) (Kp.refl _ _) (fun _ _ e => e.elim) (fun _ hk => tagN_lt hk), Kt.of (T := fun _ => False) (Kp.refl _ _) (fun _ e => e.elim) (fun _ hk => tagN_lt hk)⟩
theorem slot_get {p : PW} {s : Nat} (hs : s < p.slots.length) : p.slots.getD s eS = p.slots[s] := by rw [List.getD_eq_getElem?_getD, List.getElem?_eq_getElem hs]; rfl
theorem BoxT.slotKind {W : World} {wb : Nat} {tag : Nat → Nat} {V : Nat → Value} {p : PW} (h : BoxT W wb tag V p) {g cap : Nat} (e : V 2 = .slice (some ⟨g, 0, none⟩) p.slots.length cap) {i : Nat} (hi : i < p.slots.length) : W.cell? ⟨g, i * 7, none⟩ = some (.int .i64 ((p.slots.getD i eS) 0)) := by
 have h1 := h.slotsAt e hi (show 0 < 7 by omega)
 rw [Nat.add_zero] at h1
 rw [slot_get hi]
 exact h1
theorem info6y : (Tryz.prog.info? 60).map (·.size) = some 6 := by kernel_rfl
theorem wp_stY {ops : Array Oper} {rest : List Oper} {op : Oper} {a : Act} {w : World} {Q : Exit → Act → World → Prop} (hgd : op.guard = none) (x y : Operand) (ho : op.op = .store 60 x y)
  (b o : Nat) (hx : a.eval x = .pointer (some ⟨b, o, none⟩)) (cs : List Value) (hy : a.eval y = .agg cs.toArray) (hl : cs.length = 6) (h1 : ∀ v ∈ cs, v.oneCell' = true) (ht : w.there b o 6)
  (h : wpList Tryz.prog ops Q rest (a.put op.dst undef) (w.setCells b o cs)) : wpList Tryz.prog ops Q (op :: rest) a w :=
 wpList_store_mid hgd 60 x y ho b o cs.toArray hx hy (by simpa [hl] using ht) (by rw [info6y]; simp [hl]) (all_oneCell_toArray h1) (by simpa using h)
theorem wp_ldY {ops : Array Oper} {rest : List Oper} {op : Oper} {a : Act} {w : World} {Q : Exit → Act → World → Prop} (hgd : op.guard = none) (x : Operand) (ho : op.op = .load 60 x)
  (b o : Nat) (hx : a.eval x = .pointer (some ⟨b, o, none⟩)) (cs : List Value) (hl : cs.length = 6) (hc : w.rangeAt b o cs)
  (h : wpList Tryz.prog ops Q rest (a.put op.dst (.agg cs.toArray)) w) : wpList Tryz.prog ops Q (op :: rest) a w :=
 wpList_load_mid hgd 60 x ho b o hx cs _ hc Tryz.underlying60 rfl (by rw [info6y, hl]) h
theorem six_ofD {W : World} {b o : Nat} {f : Nat → Int} (h : W.rangeAt b o (cf 7 f)) : W.rangeAt b o (cf 6 f) := fun j v hv => h j v (by
 have hj : j < 6 := by
  have := (List.getElem?_eq_some_iff.1 hv).1
  rwa [cf_len] at this
 rw [cf_at 6 f j hj] at hv
 rw [cf_at 7 f j (by omega)]
 exact hv)
theorem BoxT.slotsThereD {W : World} {wb : Nat} {tag : Nat → Nat} {V : Nat → Value} {p : PW} (h : BoxT W wb tag V p) {g cap : Nat} (e : V 2 = .slice (some ⟨g, 0, none⟩) p.slots.length cap) (o m : Nat) (hm : o + m ≤ p.slots.length * 7) : W.there g o m := by
 have h2 := h.o.slots
 rw [e] at h2
 exact h2.there o m hm
set_option maxRecDepth 100000 in
set_option maxHeartbeats 4000000 in
theorem dropAll_any {m : Nat} (hd : DropsAt m) (p : PW) (f : Nat) (W : World) (wb : Nat) (tag : Nat → Nat) (V : Nat → Value) (hn : nds p < m) (hi : Inv p) (hf : f < p.kinds.length) (bt : BoxT W wb tag V p) :
  Calls Tryz.prog 111 #[.pointer (some ⟨wb, 0, none⟩), .int .i64 f] W fun r W' => r = .returned (.tuple #[]) ∧ ∃ tag', BoxT W' wb tag' V (daF (drF m) f 16 p) ∧ Kt tag tag' W W' := by
 have hsl := hi.slots
 have h24 := hi.k24
 have hl2 : (p.slots.length : Int) ≤ 1000 := by omega
 have hf3 : (f : Int) ≤ 23 := by omega
 have HFL := hid (show f * 16 + 16 ≤ p.slots.length by omega)
 obtain ⟨g2, cap2, e2⟩ := bt.o.slots.form (show 0 < p.slots.length by omega)
 have E2 := hid e2
 have HD := hid hd
 have H0 := hid (show ∃ q tg, BoxT W wb tg V q ∧ Kt tag tg W W ∧ Inv q ∧ nds q < m ∧ q.slots.length = p.slots.length ∧ daF (drF m) f 16 q = daF (drF m) f 16 p from ⟨p, tag, bt, Kt.refl _ _, hi, hn, rfl, rfl⟩)
 clear bt hi hn hd e2 hsl h24 hf
 go_enter Tryz.func111, Tryz.ntmps111
 go_wp2_with fail
 go_loopw [4] (fun i wr => ∃ (a : Nat) (v : Int), i = .int .i64 v ∧ Hid (v = (a : Int) - 1 ∧ a ≤ 16 ∧ ∃ q tg, BoxT wr wb tg V q ∧ Kt tag tg W wr ∧ Inv q ∧ nds q < m ∧ q.slots.length = p.slots.length ∧ daF (drF m) f a q = daF (drF m) f 16 p)) (fun i _ => (intOf i + 1).toNat)
 case atStart => exact ⟨16, 15, rfl, hid ⟨rfl, Nat.le_refl _, H0.out⟩⟩
 case round =>
  obtain ⟨a, v, rfl, HH⟩ := hrel
  obtain ⟨hv, ha, q, tg, bt, kt, hi, hn, hlen, hR⟩ := HH.out
  cases a with
  | zero =>
   obtain rfl : v = -1 := by omega
   have HB := hid bt
   have HK := hid kt
   have HRR := hid hR
   clear bt kt hi hn hlen hR hv ha HH
   go_wp2_with fail
   exact bodyPost_end (results_none rfl _ _ _) rfl ⟨rfl, tg, by rw [← HRR.out, da_zero]; exact HB.out, HK.out⟩
  | succ a =>
   obtain rfl : v = (a : Int) := by omega
   obtain ⟨sl, hsl0⟩ : ∃ sl : Nat, f * 16 + a = sl := ⟨_, rfl⟩
   have hsl : (f : Int) * 16 + (a : Int) = (sl : Int) := by omega
   have hslt : sl < q.slots.length := by have := HFL.out; omega
   have hsl2 : (sl : Int) < (p.slots.length : Int) := by omega
   have ha0 : 0 ≤ (a : Int) := by omega
   have ha1 : (a : Int) ≤ 15 := by omega
   have he : V 2 = .slice (some ⟨g2, 0, none⟩) q.slots.length cap2 := by rw [hlen]; exact E2.out
   have c2 : wr.cell? ⟨wb, 2, none⟩ = some (.slice (some ⟨g2, 0, none⟩) p.slots.length cap2) := by rw [range_cell bt.r (k := 2) rfl, E2.out]
   have xk := bt.slotKind he hslt
   have HB := hid bt
   have HK := hid kt
   have hR2 : daF (drF m) f a (if (q.slots.getD sl eS) 0 = 0 then q else drF m q sl) = daF (drF m) f 16 p := by rw [← hR, da_succ, hsl0]
   by_cases h0 : (q.slots.getD sl eS) 0 = 0
   ·rw [if_pos h0] at hR2
    rw [h0] at xk
    have HN := hid (show (a ≤ 16 ∧ ∃ q tg, BoxT wr wb tg V q ∧ Kt tag tg W wr ∧ Inv q ∧ nds q < m ∧ q.slots.length = p.slots.length ∧ daF (drF m) f a q = daF (drF m) f 16 p) from ⟨by omega, q, tg, bt, kt, hi, hn, hlen, hR2⟩)
    clear bt kt hi hn hlen hR hR2 hv ha HH he hslt hsl0 h0
    go_wp2_with fail
    exact ⟨⟨a, (a : Int) - 1, by first | rfl | go_num, hid ⟨rfl, HN.out⟩⟩, by simp [intOf] <;> omega⟩
   ·rw [if_neg h0] at hR2
    have HC := hid (HD.out q sl wr wb tg V hn hi hslt h0 bt)
    obtain ⟨i1, i2, i3⟩ := dr_inv m q sl hn hi hslt h0
    have hlen2 : (drF m q sl).slots.length = p.slots.length := by rw [i1.slots, i3, ← hi.slots]; exact hlen
    have HI := hid (show Inv (drF m q sl) ∧ nds (drF m q sl) < m ∧ (drF m q sl).slots.length = p.slots.length ∧ daF (drF m) f a (drF m q sl) = daF (drF m) f 16 p from ⟨i1, by omega, hlen2, hR2⟩)
    have h0b : ((q.slots.getD sl eS) 0 != 0) = true := by simpa using h0
    generalize (q.slots.getD sl eS) 0 = y at xk h0b
    generalize drF m q sl = qq at HC HI
    clear bt kt hi hn hlen hR hR2 hv ha HH he hslt hsl0 h0 i1 i2 i3 hlen2
    go_wp2_with fail
    refine HC.out.mono ?_
    rintro r w1 ⟨rfl, tg2, b2, k2⟩
    have HN := hid (show (a ≤ 16 ∧ ∃ q tg, BoxT w1 wb tg V q ∧ Kt tag tg W w1 ∧ Inv q ∧ nds q < m ∧ q.slots.length = p.slots.length ∧ daF (drF m) f a q = daF (drF m) f 16 p) from ⟨by omega, qq, tg2, b2, HK.out.trans k2, HI.out.1, HI.out.2.1, HI.out.2.2.1, HI.out.2.2.2⟩)
    clear b2 k2
    go_wp2_with fail
    exact ⟨⟨a, (a : Int) - 1, by first | rfl | go_num, hid ⟨rfl, HN.out⟩⟩, by simp [intOf] <;> omega⟩
set_option maxRecDepth 100000 in
set_option maxHeartbeats 4000000 in
theorem lose_any {m : Nat} (hd : DropsAt m) (p : PW) (k : Int) (f : Nat) (W : World) (wb : Nat) (tag : Nat → Nat) (V : Nat → Value) (hn : nds p < m + 1) (hi : Inv p) (hk : p.kinds[f]? = some k) (ho : opnd p k f = false) (h2 : 2 ≤ k) (h8 : k ≤ 8) (bt : BoxT W wb tag V p) :
  Calls Tryz.prog 66 #[.pointer (some ⟨wb, 0, none⟩), .int .i64 k, .int .i64 f] W fun r W' => r = .returned (.tuple #[]) ∧ ∃ tag', BoxT W' wb tag' V (lsF (drF m) p k f) ∧ Kt tag tag' W W' := by
 obtain ⟨hf, hkf⟩ := List.getElem?_eq_some_iff.1 hk
 have h24 := hi.k24
 have hl1 : (p.kinds.length : Int) ≤ 1000 := by omega
 have hf2 : (f : Int) < (p.kinds.length : Int) := by omega
 obtain ⟨g1, cap1, e1⟩ := bt.o.kinds.form (show 0 < p.kinds.length by omega)
 have c1 : W.cell? ⟨wb, 1, none⟩ = some (.slice (some ⟨g1, 0, none⟩) p.kinds.length cap1) := by rw [range_cell bt.r (k := 1) rfl, e1]
 obtain ⟨y1, x1⟩ : ∃ y, W.cell? ⟨g1, f, none⟩ = some y := ⟨_, bt.kindsAt e1 hf⟩
 have x1f := bt.kindsFr e1 f
 obtain ⟨b1, k1⟩ := bt.kindsCell e1 f 0
 have B1 := hid (show BoxT (W.setCell ⟨g1, f, none⟩ (.int .i64 0)) wb tag V (nkP p f) from b1)
 have K1 := hid k1
 have hh := nk_inv hi hk ho
 have hlk : (nkP p f).kinds.length = p.kinds.length := List.length_set ..
 have HFK := hid (show f < (nkP p f).kinds.length by rw [hlk]; exact hf)
 have HIH := hid hh
 clear b1 k1 e1 bt
 rcases (show k = 2 ∨ k = 3 ∨ k = 4 ∨ k = 5 ∨ k = 6 ∨ k = 7 ∨ k = 8 by omega) with rfl | rfl | rfl | rfl | rfl | rfl | rfl
 ·have HR := hid (show lsF (drF m) p 2 f = utP (nkP p f) f by unfold lsF; rw [if_pos (.inl rfl)])
  have HC := hid (untell_any wb tag V (nkP p f) f _ B1.out (by omega) (by rw [hlk]; exact h24) hh.ram)
  clear hi hk ho hn hd h2 h8 hf hkf h24 hh hlk
  go_enter Tryz.func66, Tryz.ntmps66
  go_upto_region 1 with fail
  generalize World.setCell _ _ _ = W1 at *
  clear c1 x1 x1f
  go_wp2_with fail
  refine HC.out.mono ?_
  rintro r w9 ⟨rfl, b9, k9⟩
  have B9 := hid b9
  have K9 := hid (K1.out.trans k9)
  clear b9 k9 HC
  go_wp2_with fail
  exact bodyPost_end (results_none rfl _ _ _) rfl ⟨rfl, tag, by rw [HR.out]; exact B9.out, K9.out⟩
 ·have HR := hid (show lsF (drF m) p 3 f = utP (nkP p f) f by unfold lsF; rw [if_pos (.inr rfl)])
  have HC := hid (untell_any wb tag V (nkP p f) f _ B1.out (by omega) (by rw [hlk]; exact h24) hh.ram)
  clear hi hk ho hn hd h2 h8 hf hkf h24 hh hlk
  go_enter Tryz.func66, Tryz.ntmps66
  go_upto_region 1 with fail
  generalize World.setCell _ _ _ = W1 at *
  clear c1 x1 x1f
  go_wp2_with fail
  refine HC.out.mono ?_
  rintro r w9 ⟨rfl, b9, k9⟩
  have B9 := hid b9
  have K9 := hid (K1.out.trans k9)
  clear b9 k9 HC
  go_wp2_with fail
  exact bodyPost_end (results_none rfl _ _ _) rfl ⟨rfl, tag, by rw [HR.out]; exact B9.out, K9.out⟩
 ·have HR := hid (show lsF (drF m) p 4 f = fgP 12 (nkP p f) f by unfold lsF; rw [if_neg (by decide), if_pos rfl])
  have HC := hid (forgo_space wb tag V (nkP p f) f _ B1.out hh.fits.tasks)
  clear hi hk ho hn hd h2 h8 hf hkf h24 hh hlk
  go_enter Tryz.func66, Tryz.ntmps66
  go_upto_region 1 with fail
  generalize World.setCell _ _ _ = W1 at *
  clear c1 x1 x1f
  go_wp2_with fail
  refine HC.out.mono ?_
  rintro r w9 ⟨rfl, b9, k9⟩
  have B9 := hid b9
  have K9 := hid (K1.out.trans k9)
  clear b9 k9 HC
  go_wp2_with fail
  exact bodyPost_end (results_none rfl _ _ _) rfl ⟨rfl, tag, by rw [HR.out]; exact B9.out, K9.out⟩
 ·have HR := hid (show lsF (drF m) p 5 f = daF (drF m) f 16 (fgP 11 (nkP p f) f) by unfold lsF; rw [if_neg (by decide), if_neg (by decide), if_pos rfl])
  have HC := hid (forgo_node wb tag V (nkP p f) f _ B1.out hh.fits.tasks)
  have hi2 := fg_full (nk_inv7 hi hk ho (by decide)) 11 (by decide) (f : Int)
  have hc2 : nds (nkP p f) + 1 = nds p := (cnt_set p.kinds f).2 hk
  have HDA := hid (fun X (h : BoxT X wb tag V (fgP 11 (nkP p f) f)) => dropAll_any hd (fgP 11 (nkP p f) f) f X wb tag V (by show nds (nkP p f) < m; omega) hi2 (by show f < (nkP p f).kinds.length; rw [hlk]; exact hf) h)
  clear hi2 hc2
  clear hi hk ho hn hd h2 h8 hf hkf h24 hh hlk
  go_enter Tryz.func66, Tryz.ntmps66
  go_upto_region 1 with fail
  generalize World.setCell _ _ _ = W1 at *
  clear c1 x1 x1f
  go_wp2_with fail
  refine HC.out.mono ?_
  rintro r w2 ⟨rfl, b2, k2⟩
  have B2 := hid b2
  have K2 := hid (K1.out.trans k2)
  clear b2 k2 HC
  go_wp2_with fail
  refine (HDA.out _ B2.out).mono ?_
  rintro r w9 ⟨rfl, tg9, b9, k9⟩
  have B9 := hid b9
  have K9 := hid (K2.out.trans k9)
  clear b9 k9 HDA
  go_wp2_with fail
  exact bodyPost_end (results_none rfl _ _ _) rfl ⟨rfl, tg9, by rw [HR.out]; exact B9.out, K9.out⟩
 ·have HR := hid (show lsF (drF m) p 6 f = etP (nkP p f) f by unfold lsF; rw [if_neg (by decide), if_neg (by decide), if_neg (by decide), if_pos rfl])
  have htl : f < (nkP p f).tasks.length := by rw [hh.tasks, hlk]; exact hf
  have HC := hid (endTask_any wb tag V (nkP p f) f _ B1.out hh.fits htl (by
   rcases hh.owes ((nkP p f).tasks.getD f bl) (by rw [List.getD_eq_getElem?_getD, List.getElem?_eq_getElem htl]; exact List.getElem_mem htl) with e | ⟨u, hu, hlt⟩
   ·exact .inl e
   ·exact .inr ⟨u, hlt, hu⟩))
  clear htl
  clear hi hk ho hn hd h2 h8 hf hkf h24 hh hlk
  go_enter Tryz.func66, Tryz.ntmps66
  go_upto_region 1 with fail
  generalize World.setCell _ _ _ = W1 at *
  clear c1 x1 x1f
  go_wp2_with fail
  refine HC.out.mono ?_
  rintro r w9 ⟨rfl, b9, k9⟩
  have B9 := hid b9
  have K9 := hid (K1.out.trans k9)
  clear b9 k9 HC
  go_wp2_with fail
  exact bodyPost_end (results_none rfl _ _ _) rfl ⟨rfl, tag, by rw [HR.out]; exact B9.out, K9.out⟩
 ·have HR := hid (show lsF (drF m) p 7 f = fgP 13 (dsP (nkP p f) f) f by unfold lsF; rw [if_neg (by decide), if_neg (by decide), if_neg (by decide), if_neg (by decide)])
  have hll : f < (nkP p f).lines.length := by rw [hh.lines, hlk]; exact hf
  have HC := hid (disperse_any wb tag V (nkP p f) f _ B1.out hh.fits hll (by rw [hh.bits, hlk]; exact hf) (fun z hz => hh.line _ (by rw [List.getD_eq_getElem?_getD, List.getElem?_eq_getElem hll]; exact List.getElem_mem hll) z hz))
  have HG := hid (fun X (h : BoxT X wb tag V (dsP (nkP p f) f)) => forgo_help wb tag V (dsP (nkP p f) f) f X h (dsP_inv hh f).fits.tasks)
  clear hll
  clear hi hk ho hn hd h2 h8 hf hkf h24 hh hlk
  go_enter Tryz.func66, Tryz.ntmps66
  go_upto_region 1 with fail
  generalize World.setCell _ _ _ = W1 at *
  clear c1 x1 x1f
  go_wp2_with fail
  refine HC.out.mono ?_
  rintro r w2 ⟨rfl, b2, k2⟩
  have B2 := hid b2
  have K2 := hid (K1.out.trans k2)
  clear b2 k2 HC
  go_wp2_with fail
  refine (HG.out _ B2.out).mono ?_
  rintro r w9 ⟨rfl, b9, k9⟩
  have B9 := hid b9
  have K9 := hid (K2.out.trans k9)
  clear b9 k9 HG
  go_wp2_with fail
  exact bodyPost_end (results_none rfl _ _ _) rfl ⟨rfl, tag, by rw [HR.out]; exact B9.out, K9.out⟩
 ·have HR := hid (show lsF (drF m) p 8 f = fgP 13 (dsP (nkP p f) f) f by unfold lsF; rw [if_neg (by decide), if_neg (by decide), if_neg (by decide), if_neg (by decide)])
  have hll : f < (nkP p f).lines.length := by rw [hh.lines, hlk]; exact hf
  have HC := hid (disperse_any wb tag V (nkP p f) f _ B1.out hh.fits hll (by rw [hh.bits, hlk]; exact hf) (fun z hz => hh.line _ (by rw [List.getD_eq_getElem?_getD, List.getElem?_eq_getElem hll]; exact List.getElem_mem hll) z hz))
  have HG := hid (fun X (h : BoxT X wb tag V (dsP (nkP p f) f)) => forgo_help wb tag V (dsP (nkP p f) f) f X h (dsP_inv hh f).fits.tasks)
  clear hll
  clear hi hk ho hn hd h2 h8 hf hkf h24 hh hlk
  go_enter Tryz.func66, Tryz.ntmps66
  go_upto_region 1 with fail
  generalize World.setCell _ _ _ = W1 at *
  clear c1 x1 x1f
  go_wp2_with fail
  refine HC.out.mono ?_
  rintro r w2 ⟨rfl, b2, k2⟩
  have B2 := hid b2
  have K2 := hid (K1.out.trans k2)
  clear b2 k2 HC
  go_wp2_with fail
  refine (HG.out _ B2.out).mono ?_
  rintro r w9 ⟨rfl, b9, k9⟩
  have B9 := hid b9
  have K9 := hid (K2.out.trans k9)
  clear b9 k9 HG
  go_wp2_with fail
  exact bodyPost_end (results_none rfl _ _ _) rfl ⟨rfl, tag, by rw [HR.out]; exact B9.out, K9.out⟩
set_option maxRecDepth 100000 in
set_option maxHeartbeats 4000000 in
theorem drop_next {m : Nat} (hd : DropsAt m) : DropsAt (m + 1) := by
 intro p s W wb tag V hn hi hs h0 bt0
 obtain ⟨bt, kr⟩ := retagD bt0 0
 have KR := hid kr
 have T0 := hid (fun x (h : W.heap.size ≤ x) => show tagN tag W.heap.size 0 x = 0 from if_neg (by omega))
 generalize tagN tag W.heap.size 0 = tg at *
 clear bt0 kr
 have hsl := hi.slots
 have h24 := hi.k24
 have hl2 : (p.slots.length : Int) ≤ 1000 := by omega
 have hs2 : (s : Int) < (p.slots.length : Int) := by omega
 obtain ⟨g2, cap2, e2⟩ := bt.o.slots.form (show 0 < p.slots.length by omega)
 have E2 := hid e2
 have HS := hid hs
 have c2 : W.cell? ⟨wb, 2, none⟩ = some (.slice (some ⟨g2, 0, none⟩) p.slots.length cap2) := by rw [range_cell bt.r (k := 2) rfl, e2]
 obtain ⟨f, hf⟩ : ∃ f, p.slots.getD s eS = f := ⟨_, rfl⟩
 have RS := hid (show W.rangeAt g2 (s * 7) (cf 7 f) from by
  have h2 := bt.o.slots
  rw [e2] at h2
  have h3 := h2.range hs
  rw [← slot_get hs, hf] at h3
  exact h3)
 have HTH := hid (there_new W #[.int .i64 0, .int .i64 0, .int .i64 0, .int .i64 0, .int .i64 0, .int .i64 0, .int .i64 0] 64 W.heap.size 7 rfl (by decide))
 have BL1 := hid (show Below W.heap.size W ((W.alloc (.cells #[.int .i64 0, .int .i64 0, .int .i64 0, .int .i64 0, .int .i64 0, .int .i64 0, .int .i64 0] 64)).setCells W.heap.size 0 (cf 7 f)) from below_setCells (bal (Below.refl W.heap.size W) (.cells #[.int .i64 0, .int .i64 0, .int .i64 0, .int .i64 0, .int .i64 0, .int .i64 0, .int .i64 0] 64)) (Nat.le_refl _) _ 0)
 have RK1 := hid (World.rangeAt_setCells_same (W.alloc (.cells #[.int .i64 0, .int .i64 0, .int .i64 0, .int .i64 0, .int .i64 0, .int .i64 0, .int .i64 0] 64)) W.heap.size 0 (cf 7 f) (by rw [cf_len]; exact HTH.out))
 have T4 := hid (T0.out W.heap.size (Nat.le_refl _))
 have HB := hid bt
 have HQ := hid (show drA p s = { p with slots := hnd s (f 6) (p.slots.set s eS) } by unfold drA; rw [hf])
 have HHND := hid (fun X (h : BoxT X wb tg V { p with slots := p.slots.set s eS }) => hand_any wb tg V { p with slots := p.slots.set s eS } s (f 6) X h (by show (p.slots.set s eS).length ≤ 1000; rw [List.length_set]; omega))
 have hqi := drA_inv hi s
 have HRES := hid (show drF (m + 1) p s = if f 0 = 1 ∨ opnd (drA p s) (f 0) (f 1) = true then drA p s else lsF (drF m) (drA p s) (f 0) (f 1).toNat by
  show (if _ then _ else _) = _
  rw [hf])
 have HOP := hid (fun X tgx (h : BoxT X wb tgx V (drA p s)) => isOpened_any wb V (drA p s) (f 0) (f 1) X h.r (own_rowsC h.o.slots.1) (by rw [hqi.slots]; show p.kinds.length * 16 ≤ 1000; omega))
 have HLO := hid (show f 0 ≠ 1 → opnd (drA p s) (f 0) (f 1) = false → ∃ b : Nat, f 1 = b ∧ ∀ X tgx, BoxT X wb tgx V (drA p s) → Calls Tryz.prog 66 #[.pointer (some ⟨wb, 0, none⟩), .int .i64 (f 0), .int .i64 b] X fun r W' => r = .returned (.tuple #[]) ∧ ∃ tag', BoxT W' wb tag' V (lsF (drF m) (drA p s) (f 0) b) ∧ Kt tgx tag' X W' from fun h1 ho => by
  obtain ⟨b, hb, hk, h2, h8⟩ := ls_in hi hs h0 (by rw [hf]; exact h1)
  rw [hf] at hb hk h2 h8
  rw [hb] at ho
  exact ⟨b, hb, fun X tgx h => lose_any hd (drA p s) (f 0) b X wb tgx V hn hqi hk ho h2 h8 h⟩)
 clear bt hi hs h0 hn hd e2 hsl h24 hf hqi T0
 go_enter Tryz.func44, Tryz.ntmps44
 go_upto_region 1 with (first | ((with_reducible (show wpList _ _ _ (⟨_, Op.load 64 _, _, _, _, _⟩ :: _) _ _)); refine wp_ldS rfl _ rfl g2 (s * 7) rfl (cf 7 f) (cf_len _ _) RS.out ?_) | ((with_reducible (show wpList _ _ _ (⟨_, Op.store 64 _ _, _, _, _, _⟩ :: _) _ _)); refine wp_stS rfl _ _ rfl W.heap.size 0 rfl (cf 7 f) rfl (cf_len _ _) (cf_one _ _) HTH.out ?_))
 generalize World.setCells _ _ _ _ = W1 at *
 obtain ⟨kb, hkb⟩ : ∃ kb, W.heap.size = kb := ⟨_, rfl⟩
 rw [hkb] at RK1 T4 ⊢
 clear hkb c2 RS HTH
 have B1 := hid (HB.out.below BL1.out)
 have K1 := hid (show Kt tag tg W W1 from KR.out.trans (.below BL1.out))
 clear HB KR BL1
 have BD : Hid (Below W1.heap.size W1 W1.drew) := hid (below_drew W1 1)
 have KS := hid (fun X (h : Below W1.heap.size W1 X) => show X.cell? ⟨wb, 2, none⟩ = some (.slice (some ⟨g2, 0, none⟩) p.slots.length cap2) from by rw [range_cell (B1.out.below h).r (k := 2) rfl, E2.out])
 have ROW := hid (fun X (h : Below W1.heap.size W1 X) => (B1.out.below h).slotsRow E2.out HS.out eS)
 have THR := hid (fun X (h : Below W1.heap.size W1 X) => (B1.out.below h).slotsThereD E2.out (s * 7) 7 (by have := HS.out; omega))
 refine wp_region_held_drew (S := fun X => X.cell? ⟨wb, 2, none⟩ = some (.slice (some ⟨g2, 0, none⟩) p.slots.length cap2)) (by kernel_rfl) (KS.out _ BD.out) (fun hH0 => ?_)
 have hH := hid hH0
 clear hH0
 refine tk 0 (.pointer (some ⟨wb, 0, none⟩)) rfl hH.out ?_
 simp only [jj]
 refine tk 1 (.pointer (some ⟨wb, 0, none⟩)) rfl hH.out ?_
 simp only [jj]
 refine tk 2 (.pointer (some ⟨wb, 2, none⟩)) rfl hH.out ?_
 simp only [jj]
 refine Mem.tg 3 (.slice (some ⟨g2, 0, none⟩) p.slots.length cap2) rfl (Or.inl ⟨by rfl, fun W h => by have h3 := h; clear h; go_simp⟩) hH.out ?_
 simp only [jj]
 refine tk 4 (.int .i64 s) rfl hH.out ?_
 simp only [jj]
 refine wpAnyH_ready (rs := [5]) (by kernel_rfl) (by simp) (AllReadyH.cons rfl (fun K hK => ?_) AllReadyH.nil)
 go_simp
 refine (empty_any _).mono ?_
 rintro q x1 ⟨rfl, hb⟩
 have A1 := hid (btr BD.out hb)
 clear hb
 go_wp2_with fail
 refine hK.out _ _ (KS.out _ A1.out) (fun hH0 => ?_)
 have hH2 := hid hH0
 clear hK K hH0
 try simp only [Act.put, jD, jE, jF]
 refine tk 6 (.pointer (some ⟨g2, s * 7, none⟩)) rfl hH2.out ?_
 simp only [jj]
 obtain ⟨b2, k2⟩ := ROW.out _ A1.out
 have B2 := hid b2
 have K12 := (Kt.below A1.out : Kt tg tg W1 x1).trans k2
 have K2 := hid (K1.out.trans K12)
 have RK2 := hid (show (x1.setCells g2 (s * 7) (cf 7 eS)).rangeAt kb 0 (cf 7 f) from fun o v hv => K12.cell (RK1.out o v hv) T4.out)
 have SX := hid (show (x1.setCells g2 (s * 7) (cf 7 eS)).cell? ⟨wb, 2, none⟩ = some (.slice (some ⟨g2, 0, none⟩) p.slots.length cap2) from by rw [range_cell B2.out.r (k := 2) rfl, E2.out])
 clear b2 k2 K12
 refine wpAnyH_ready (rs := [7]) (by kernel_rfl) (by simp) (AllReadyH.cons rfl (fun K hK => ?_) AllReadyH.nil)
 refine wp_store_mid 64 _ _ rfl g2 (s * 7) (cf 7 eS).toArray rfl rfl (by rw [List.size_toArray, cf_len]; exact THR.out _ A1.out) (by rw [info7s]; rfl) (all_oneCell_toArray (cf_one 7 _)) ?_
 refine hK.out _ _ SX.out (fun _ => ?_)
 clear hK K hH hH2
 try simp only [Act.put]
 refine wpAnyH_done (by kernel_rfl) ?_ _
 clear KS ROW THR SX BD A1 B1 K1 RK1
 generalize World.setCells _ _ _ _ = W2 at *
 have y6 := range_cell RK2.out (k := 6) (v := .int .i64 (f 6)) (cf_at 7 _ 6 (by omega))
 go_wp2_with fail
 refine (HHND.out _ B2.out).mono ?_
 rintro r w3 ⟨rfl, b3, k3⟩
 have B3 := hid (show BoxT w3 wb tg V (drA p s) by rw [HQ.out]; exact b3)
 have K3 := hid (K2.out.trans k3)
 have RK3 := hid (six_ofD (show w3.rangeAt kb 0 (cf 7 f) from fun o v hv => k3.cell (RK2.out o v hv) T4.out))
 clear b3 k3 y6 HHND B2 K2 RK2 HQ
 have HTH := hid (there_new w3 #[.int .i64 0, .int .i64 0, .int .i64 0, .int .i64 0, .int .i64 0, .int .i64 0] 60 w3.heap.size 6 rfl (by decide))
 have BL4 := hid (show Below w3.heap.size w3 ((w3.alloc (.cells #[.int .i64 0, .int .i64 0, .int .i64 0, .int .i64 0, .int .i64 0, .int .i64 0] 60)).setCells w3.heap.size 0 (cf 6 f)) from below_setCells (bal (Below.refl w3.heap.size w3) (.cells #[.int .i64 0, .int .i64 0, .int .i64 0, .int .i64 0, .int .i64 0, .int .i64 0] 60)) (Nat.le_refl _) _ 0)
 have RK4 := hid (World.rangeAt_setCells_same (w3.alloc (.cells #[.int .i64 0, .int .i64 0, .int .i64 0, .int .i64 0, .int .i64 0, .int .i64 0] 60)) w3.heap.size 0 (cf 6 f) (by rw [cf_len]; exact HTH.out))
 go_upto_region 4 with (first | ((with_reducible (show wpList _ _ _ (⟨_, Op.load 60 _, _, _, _, _⟩ :: _) _ _)); refine wp_ldY rfl _ rfl kb 0 rfl (cf 6 f) (cf_len _ _) RK3.out ?_) | ((with_reducible (show wpList _ _ _ (⟨_, Op.store 60 _ _, _, _, _, _⟩ :: _) _ _)); refine wp_stY rfl _ _ rfl w3.heap.size 0 rfl (cf 6 f) rfl (cf_len _ _) (cf_one _ _) HTH.out ?_))
 generalize World.setCells _ _ _ _ = W4 at *
 generalize w3.heap.size = kc at RK4 ⊢
 have B4 := hid (B3.out.below BL4.out)
 have K4 := hid (K3.out.trans (.below BL4.out))
 clear HTH BL4 B3 K3 RK3
 have y0 := range_cell RK4.out (k := 0) (v := .int .i64 (f 0)) (cf_at 6 _ 0 (by omega))
 have y1 := range_cell RK4.out (k := 1) (v := .int .i64 (f 1)) (cf_at 6 _ 1 (by omega))
 by_cases h1 : f 0 = 1
 ·have HR := hid (show drF (m + 1) p s = drA p s by rw [HRES.out, if_pos (.inl h1)])
  have h1b : (f 0 != 1) = false := by rw [h1]; rfl
  generalize f 0 = z0 at y0 h1b
  clear h1 HLO HOP HRES
  go_wp2_with fail
  exact bodyPost_end (results_none rfl _ _ _) rfl ⟨rfl, tg, by rw [HR.out]; exact B4.out, K4.out⟩
 have h1b : (f 0 != 1) = true := by simpa using h1
 have HO := hid (HOP.out _ _ B4.out)
 cases hop : opnd (drA p s) (f 0) (f 1) with
 | true =>
  have HR := hid (show drF (m + 1) p s = drA p s by rw [HRES.out, if_pos (.inr hop)])
  rw [hop] at HO
  generalize f 0 = z0 at y0 h1b HO
  generalize f 1 = z1 at y1 HO
  clear h1 HLO HOP HRES hop
  go_wp2_with fail
  refine HO.out.mono ?_
  rintro r w5 ⟨rfl, hb⟩
  have B5 := hid (B4.out.below hb)
  have K5 := hid (K4.out.trans (.below hb))
  clear hb
  go_wp2_with fail
  exact bodyPost_end (results_none rfl _ _ _) rfl ⟨rfl, tg, by rw [HR.out]; exact B5.out, K5.out⟩
 | false =>
  obtain ⟨b, hb, hlo⟩ := HLO.out h1 hop
  have HR := hid (show drF (m + 1) p s = lsF (drF m) (drA p s) (f 0) b by rw [HRES.out, if_neg (by rintro (e | e); exact h1 e; rw [hop] at e; cases e), hb, Int.toNat_natCast])
  rw [hop] at HO
  rw [hb] at y1 HO
  have HL := hid hlo
  generalize f 0 = z0 at y0 h1b HO HL HR
  clear h1 HLO HOP HRES hop hb hlo
  go_wp2_with fail
  refine HO.out.mono ?_
  rintro r w5 ⟨rfl, hb⟩
  have B5 := hid (B4.out.below hb)
  have K5 := hid (K4.out.trans (.below hb))
  have z0' := (hb.cell (World.block_lt_of_cell? _ _ y0)).trans y0
  have z1' := (hb.cell (World.block_lt_of_cell? _ _ y1)).trans y1
  clear hb y0 y1 HO
  go_wp2_with fail
  refine (HL.out _ _ B5.out).mono ?_
  rintro r w9 ⟨rfl, tg9, b9, k9⟩
  have B9 := hid b9
  have K9 := hid (K5.out.trans k9)
  clear b9 k9
  go_wp2_with fail
  exact bodyPost_end (results_none rfl _ _ _) rfl ⟨rfl, tg9, by rw [HR.out]; exact B9.out, K9.out⟩
theorem drop_any : ∀ m, DropsAt m
 | 0 => fun _ _ _ _ _ _ hn => absurd hn (Nat.not_lt_zero _)
 | m + 1 => drop_next (drop_any m)
end Go.Proofs.YtoebmjgkfkfhjaaGreatDoor.Wd
