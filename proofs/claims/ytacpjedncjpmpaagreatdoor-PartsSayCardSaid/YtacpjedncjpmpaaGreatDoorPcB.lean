/- Which frames are not the same in two worlds (N2): plain; keyholdref.Changed, walked. (Written by mk_pcb.py.) -/
import Derived.Test.YtacpjedncjpmpaaGreatDoorPcA
import Derived.Test.YtacpjedncjpmpaaGreatDoorGNew
import Derived.Deep.DeepCutAuto
import Derived.BigQuiet
namespace Go.Proofs.YtacpjedncjpmpaaGreatDoor.Wd
open Go.RowKit Go.Proofs.YtacpjedncjpmpaaGreatDoor.Mem Go.Proofs.YtacpjedncjpmpaaGreatDoor.Bw Go.Proofs.YtacpjedncjpmpaaGreatDoor.Nums Go.Proofs.YtacpjedncjpmpaaGreatDoor.Mmu
def ramB (p q : PW) (k : Nat) : Bool := decide ((p.ram.drop (k * 16)).take 16 = (q.ram.drop (k * 16)).take 16)
def sltB (p q : PW) (k : Nat) : Bool := rowsB 7 ((p.slots.drop (k * 16)).take 16) ((q.slots.drop (k * 16)).take 16)
def fouB (p q : PW) (k : Nat) : Bool := eqB 20 (p.tasks.getD k z0) (q.tasks.getD k z0) && decide (p.kinds.getD k 0 = q.kinds.getD k 0) && decide (p.lines.getD k [] = q.lines.getD k []) && decide (p.bits.getD k 0 = q.bits.getD k 0)
/-- Is a frame the same in both? -/
def smB (p q : PW) (k : Nat) : Bool := fouB p q k && (ramB p q k && sltB p q k)
def pcB (p q : PW) (k j : Nat) : Bool := (List.range j).all fun i => (p.ram.getD (k * 16 + i) 0 == q.ram.getD (k * 16 + i) 0) && eqB 7 (p.slots.getD (k * 16 + i) z0) (q.slots.getD (k * 16 + i) z0)
theorem pc_succ (p q : PW) (k j : Nat) : pcB p q k (j + 1) = (pcB p q k j && ((p.ram.getD (k * 16 + j) 0 == q.ram.getD (k * 16 + j) 0) && eqB 7 (p.slots.getD (k * 16 + j) z0) (q.slots.getD (k * 16 + j) z0))) := by
 unfold pcB
 rw [List.range_succ, List.all_append]
 simp
theorem part_len {α : Type} {l : List α} {a : Nat} (h : a + 16 ≤ l.length) : ((l.drop a).take 16).length = 16 := by simp; omega
theorem part_get {α : Type} {l : List α} {a j : Nat} (hj : j < 16) : ((l.drop a).take 16)[j]? = l[a + j]? := by
 rw [List.getElem?_take, if_pos hj, List.getElem?_drop]
theorem pc_all {p q : PW} {k : Nat} (h1 : k * 16 + 16 ≤ p.ram.length) (h2 : k * 16 + 16 ≤ q.ram.length) (h3 : k * 16 + 16 ≤ p.slots.length) (h4 : k * 16 + 16 ≤ q.slots.length) : pcB p q k 16 = (ramB p q k && sltB p q k) := by
 rw [Bool.eq_iff_iff, Bool.and_eq_true]
 unfold pcB ramB sltB rowsB
 rw [decide_eq_true_eq, decide_eq_true_eq, List.all_eq_true]
 constructor
 ·intro h
  have g : ∀ j, j < 16 → p.ram.getD (k * 16 + j) 0 = q.ram.getD (k * 16 + j) 0 ∧ eqB 7 (p.slots.getD (k * 16 + j) z0) (q.slots.getD (k * 16 + j) z0) = true := fun j hj => by
   have := h j (List.mem_range.2 hj)
   rw [Bool.and_eq_true] at this
   exact ⟨eq_of_beq this.1, this.2⟩
  refine ⟨List.ext_getElem? fun j => ?_, by rw [part_len h3, part_len h4], fun j hj => ?_⟩
  ·by_cases hj : j < 16
   ·rw [part_get hj, part_get hj]
    have := (g j hj).1
    rw [List.getD_eq_getElem?_getD, List.getD_eq_getElem?_getD, List.getElem?_eq_getElem (by omega), List.getElem?_eq_getElem (by omega)] at this
    rw [List.getElem?_eq_getElem (by omega), List.getElem?_eq_getElem (by omega)]
    exact congrArg some this
   ·rw [List.getElem?_eq_none (by rw [part_len h1]; omega), List.getElem?_eq_none (by rw [part_len h2]; omega)]
  ·rw [part_len h3] at hj
   rw [List.getD_eq_getElem?_getD, List.getD_eq_getElem?_getD, part_get hj, part_get hj, ← List.getD_eq_getElem?_getD, ← List.getD_eq_getElem?_getD]
   exact (g j hj).2
 ·rintro ⟨h, -, g⟩ j hj
  have hj := List.mem_range.1 hj
  rw [Bool.and_eq_true]
  constructor
  ·have := congrArg (·[j]?) h
   simp only [part_get hj] at this
   rw [List.getD_eq_getElem?_getD, List.getD_eq_getElem?_getD, this]
   exact beq_self_eq_true _
  ·have := g j (by rw [part_len h3]; exact hj)
   rwa [List.getD_eq_getElem?_getD, List.getD_eq_getElem?_getD, part_get hj, part_get hj, ← List.getD_eq_getElem?_getD, ← List.getD_eq_getElem?_getD] at this
/-- The frames, of the first so many, that are not the same. -/
def chL (p q : PW) (n : Nat) : List Int := ((List.range n).filter fun k => !smB p q k).map fun i : Nat => (i : Int)
theorem chL_succ (p q : PW) (n : Nat) : chL p q (n + 1) = chL p q n ++ if smB p q n = true then [] else [(n : Int)] := by
 unfold chL
 rw [List.range_succ, List.filter_append, List.map_append]
 cases h : smB p q n <;> simp [h]
theorem chL_len (p q : PW) (n : Nat) : (chL p q n).length ≤ n := by
 unfold chL
 rw [List.length_map]
 exact Nat.le_trans (List.length_filter_le _ _) (by rw [List.length_range]; exact Nat.le_refl _)
theorem own_formP {B e size n : Nat} {w : World} {v : Value} {xs : List Value} (h : w.ownsRow B e size v n xs) : ∃ q c, v = .slice q n c := by
 rcases h.2 with ⟨rfl, rfl⟩ | ⟨g, cap, cur, rfl, _⟩
 ·exact ⟨_, _, rfl⟩
 ·exact ⟨_, _, rfl⟩
theorem wpList_appP {P : Program} {w w' : World} {ops : Array Oper} {rest : List Oper} {o : Oper} {a : Act} {Q : Exit → Act → World → Prop} (hgd : o.guard = none) (s x : Operand) (t : TypeId)
  (ho : o.op = .call { callee := .builtin .append, args := #[s, x], argTypes := #[t, t] }) (v u v' : Value) (hs : a.eval s = v) (hx : a.eval x = u) (hr : (Builtin.append_ #[t, t] o.type #[v, u]).run P w = .ok v' w')
  (h : wpList P ops Q rest (a.put o.dst v') w') : wpList P ops Q (o :: rest) a w := by
 refine wpList_plain hgd fun K hK => ?_
 unfold Oper.wp
 simp [execOp, ho, resolve, invoke, builtin, hs, hx, hr, Result.andThen]
 exact hK _ _ h
/-- One number more in a list of one's own. -/
theorem app_i {w wr : World} {zs : List Int} {y : Int} {qu : Option Addr} {cu : Nat} (hB : Below w.heap.size w wr) (hl : zs.length ≤ 1000) (hO : wr.ownsRow w.heap.size 3 1 (.slice qu zs.length cu) zs.length (ints zs)) :
  ∃ q c w', (Builtin.append_ #[22, 22] 22 #[.slice qu zs.length cu, .slice (some ⟨wr.heap.size, 0, none⟩) 1 1]).run Tryz.prog (wr.alloc (.cells #[.int .i64 y] 3)) = .ok (.slice q (zs.length + 1) c) w' ∧ w'.ownsRow w.heap.size 3 1 (.slice q (zs.length + 1) c) (zs ++ [y]).length (ints (zs ++ [y])) ∧ Below w.heap.size w w' := by
 have bn := bal (Below.refl wr.heap.size wr) (.cells #[.int .i64 y] 3)
 have hbs := Nat.le_trans hB.size bn.size
 obtain ⟨i, hi, hz, hs, hy⟩ := info_get infoI
 obtain ⟨v', w', hr, h2, h3, _⟩ := run_append_own (P := Tryz.prog) (wr.alloc (.cells #[.int .i64 y] 3)) w.heap.size 22 22 3 i (.int .i64 0) 1 8 Tryz.underlying22 hi hz hs hy rfl (by decide) _ _ _ (own_below hO bn) ⟨wr.heap.size, 0, none⟩ 1 1 [.int .i64 y] rfl (fun j v hj => by
  match j, hj with
  | 0, hj => cases hj; exact cells_new wr #[.int .i64 y] 3 0
  | j + 1, hj => simp at hj) (int1 y) (by unfold maxLen; omega) (by omega) hbs
 obtain ⟨q, c, rfl⟩ := own_formP h2
 have e : ints zs ++ [Value.int .i64 y] = ints (zs ++ [y]) := by unfold ints; simp
 exact ⟨q, c, w', hr, by rw [← e, List.length_append]; exact h2, (btr hB bn).grown h3 hbs (fun k hk => (hO.lt k hk).1)⟩
theorem same_b (v v2 : Value) (xs ys : List Int) (w : World) (h : IntsIn w v xs) (h2 : IntsIn w v2 ys) (hl : xs.length ≤ 1000) (hl2 : ys.length ≤ 1000) {b : Bool} (hb : decide (xs = ys) = b) :
  Calls Tryz.prog 11 #[v, v2] w fun e w' => e = .returned (.bool b) ∧ ∃ n, w' = w.drewN n := hb ▸ same_any v v2 xs ys w h h2 hl hl2
theorem getD_i {zs : List Int} {k : Nat} (h : k < zs.length) : zs.getD k 0 = zs[k] := by rw [List.getD_eq_getElem?_getD, List.getElem?_eq_getElem h]; rfl
theorem getD_l {ls : List (List Int)} {k : Nat} (h : k < ls.length) : ls.getD k [] = ls[k] := by rw [List.getD_eq_getElem?_getD, List.getElem?_eq_getElem h]; rfl
set_option maxRecDepth 100000 in
set_option maxHeartbeats 16000000 in
theorem changed_ref (V U : Nat → Value) (p q : PW) (w : World) (hv : WorldV w V p) (hu : WorldV w U q) (hp : p.Fits) (hq : q.Fits) (lp : LF p) (lq : LF q) (hk : p.kinds.length = q.kinds.length) :
  Calls Tryz.prog 14 #[.agg (arr11 V), .agg (arr11 U)] w fun x w' => ∃ v, x = .returned v ∧ IntsIn w' v (chL p q p.kinds.length) ∧ Below w.heap.size w w' := by
 have s0 : (w.alloc (.cells (arr11 V) 28)).heap.size = w.heap.size + 1 := by simp
 have B0 := hid (bal (bal (Below.refl w.heap.size w) (.cells (arr11 V) 28)) (.cells (arr11 U) 28))
 have VA := hid (show ViewAt ((w.alloc (.cells (arr11 V) 28)).alloc (.cells (arr11 U) 28)) w.heap.size V p from ⟨range_below (boxed w V 28) (bal (Below.refl _ _) _), hv.below B0.out, hp⟩)
 have VB := hid (show ViewAt ((w.alloc (.cells (arr11 V) 28)).alloc (.cells (arr11 U) 28)) (w.heap.size + 1) U q from ⟨s0 ▸ boxed (w.alloc (.cells (arr11 V) 28)) U 28, hu.below B0.out, hq⟩)
 have HLP := hid lp
 have HLQ := hid lq
 have HK := hid hk
 have n24 : (p.kinds.length : Int) ≤ 24 := by have := lp.k2; omega
 obtain ⟨N, hN⟩ : ∃ N, p.kinds.length = N := ⟨_, rfl⟩
 have HN := hid hN
 have HLN := hid (show p.ram.length = N * 16 ∧ p.slots.length = N * 16 ∧ p.tasks.length = N ∧ p.lines.length = N ∧ p.bits.length = N ∧ q.ram.length = N * 16 ∧ q.kinds.length = N ∧ q.slots.length = N * 16 ∧ q.tasks.length = N ∧ q.lines.length = N ∧ q.bits.length = N by
  have e1 := lp.ram; have e2 := lp.slots; have e3 := lp.tasks; have e4 := lp.lines; have e5 := lp.bits
  have f1 := lq.ram; have f2 := lq.slots; have f3 := lq.tasks; have f4 := lq.lines; have f5 := lq.bits
  rw [← hk, hN] at f1 f2 f3 f4 f5
  rw [hN] at e1 e2 e3 e4 e5
  exact ⟨e1, e2, e3, e4, e5, f1, hk ▸ hN, f2, f3, f4, f5⟩)
 rw [hN] at n24 ⊢
 have hn24 : N ≤ 24 := by omega
 clear hv hu hp hq lp lq hk hN s0 HLP HLQ HK
 go_enter Tryz.func14, Tryz.ntmps14
 go_wp2_with fail
 generalize (w.alloc (.cells (arr11 V) 28)).alloc (.cells (arr11 U) 28) = W0 at *
 go_loopw [5, 6] (fun u i wr => ∃ (k : Nat) (qu : Option Addr) (cu : Nat), k ≤ N ∧ i = .int .i64 k ∧ u = .slice qu (chL p q k).length cu ∧ Hid (wr.ownsRow W0.heap.size 3 1 (.slice qu (chL p q k).length cu) (chL p q k).length (ints (chL p q k))) ∧ Hid (Below W0.heap.size W0 wr)) (fun _ i _ => N - (intOf i).toNat)
 case atStart => exact ⟨0, none, 0, by omega, rfl, rfl, hid (World.ownsRow_nil _ _ _ _), hid (Below.refl _ _)⟩
 case round =>
  obtain ⟨k, qu, cu, hk, rfl, rfl, HO, HB⟩ := hrel
  have WA := hid (VA.out.below HB.out)
  have WB := hid (VB.out.below HB.out)
  obtain ⟨l0, l2, l3, l4, l5, m0, m1, m2, m3, m4, m5⟩ := HLN.out
  have l1 := HN.out
  obtain ⟨qa0, a0, oa0, ca0, ea0, hqa0, hza0⟩ := WA.out.v.ram
  have ac0 : wr.cell? ⟨w.heap.size, 0, none⟩ = some (V 0) := range_cell WA.out.r rfl
  rw [ea0] at ac0
  obtain ⟨qa1, a1, oa1, ca1, ea1, hqa1, hza1⟩ := WA.out.v.kinds
  have ac1 : wr.cell? ⟨w.heap.size, 1, none⟩ = some (V 1) := range_cell WA.out.r rfl
  rw [ea1] at ac1
  obtain ⟨qa2, a2, oa2, ca2, ea2, hqa2, hza2⟩ := WA.out.v.slots
  have ac2 : wr.cell? ⟨w.heap.size, 2, none⟩ = some (V 2) := range_cell WA.out.r rfl
  rw [ea2] at ac2
  obtain ⟨qa3, a3, oa3, ca3, ea3, hqa3, hza3⟩ := WA.out.v.tasks
  have ac3 : wr.cell? ⟨w.heap.size, 3, none⟩ = some (V 3) := range_cell WA.out.r rfl
  rw [ea3] at ac3
  obtain ⟨qa4, a4, oa4, ca4, ea4, hqa4, hza4⟩ := WA.out.v.lines
  have ac4 : wr.cell? ⟨w.heap.size, 4, none⟩ = some (V 4) := range_cell WA.out.r rfl
  rw [ea4] at ac4
  obtain ⟨qa5, a5, oa5, ca5, ea5, hqa5, hza5⟩ := WA.out.v.bits
  have ac5 : wr.cell? ⟨w.heap.size, 5, none⟩ = some (V 5) := range_cell WA.out.r rfl
  rw [ea5] at ac5
  obtain ⟨qb0, b0, ob0, cb0, eb0, hqb0, hzb0⟩ := WB.out.v.ram
  have bc0 : wr.cell? ⟨w.heap.size + 1, 0, none⟩ = some (U 0) := range_cell WB.out.r rfl
  rw [eb0] at bc0
  obtain ⟨qb1, b1, ob1, cb1, eb1, hqb1, hzb1⟩ := WB.out.v.kinds
  have bc1 : wr.cell? ⟨w.heap.size + 1, 1, none⟩ = some (U 1) := range_cell WB.out.r rfl
  rw [eb1] at bc1
  obtain ⟨qb2, b2, ob2, cb2, eb2, hqb2, hzb2⟩ := WB.out.v.slots
  have bc2 : wr.cell? ⟨w.heap.size + 1, 2, none⟩ = some (U 2) := range_cell WB.out.r rfl
  rw [eb2] at bc2
  obtain ⟨qb3, b3, ob3, cb3, eb3, hqb3, hzb3⟩ := WB.out.v.tasks
  have bc3 : wr.cell? ⟨w.heap.size + 1, 3, none⟩ = some (U 3) := range_cell WB.out.r rfl
  rw [eb3] at bc3
  obtain ⟨qb4, b4, ob4, cb4, eb4, hqb4, hzb4⟩ := WB.out.v.lines
  have bc4 : wr.cell? ⟨w.heap.size + 1, 4, none⟩ = some (U 4) := range_cell WB.out.r rfl
  rw [eb4] at bc4
  obtain ⟨qb5, b5, ob5, cb5, eb5, hqb5, hzb5⟩ := WB.out.v.bits
  have bc5 : wr.cell? ⟨w.heap.size + 1, 5, none⟩ = some (U 5) := range_cell WB.out.r rfl
  rw [eb5] at bc5
  clear WA WB ea0 ea1 ea2 ea3 ea4 ea5 eb0 eb1 eb2 eb3 eb4 eb5
  by_cases hlt : k < N
  rotate_left
  ·obtain rfl : k = N := by omega
   have hge : ¬ ((k : Int) < (k : Int)) := by omega
   rw [l1] at ac1
   clear hza0 hqa0 hza1 hqa1 hza2 hqa2 hza3 hqa3 hza4 hqa4 hza5 hqa5 hzb0 hqb0 hzb1 hqb1 hzb2 hqb2 hzb3 hqb3 hzb4 hqb4 hzb5 hqb5
   go_wp2_with fail
   go_ret
   exact ⟨_, rfl, own_ints HO.out, btr B0.out HB.out⟩
  obtain rfl := hqa0 (by omega)
  obtain rfl := hqa1 (by omega)
  obtain rfl := hqa2 (by omega)
  obtain rfl := hqa3 (by omega)
  obtain rfl := hqa4 (by omega)
  obtain rfl := hqa5 (by omega)
  obtain rfl := hqb0 (by omega)
  obtain rfl := hqb1 (by omega)
  obtain rfl := hqb2 (by omega)
  obtain rfl := hqb3 (by omega)
  obtain rfl := hqb4 (by omega)
  obtain rfl := hqb5 (by omega)
  clear hqa0 hqa1 hqa2 hqa3 hqa4 hqa5 hqb0 hqb1 hqb2 hqb3 hqb4 hqb5
  have hlt2 : (k : Int) < (N : Int) := by omega
  have XA := hid (hza3 k (by omega))
  have XB := hid (hzb3 k (by omega))
  have ka := hza1 k (by omega)
  have kb := hzb1 k (by omega)
  have ta := hza5 k (by omega)
  have tb := hzb5 k (by omega)
  obtain ⟨ya, ya1, ya2⟩ := hza4 k (by omega)
  obtain ⟨yb, yb1, yb2⟩ := hzb4 k (by omega)
  have YA := hid (fun n => ya2.below (below_drewN (Below.refl wr.heap.size wr) n))
  have YB := hid (fun n => yb2.below (below_drewN (Below.refl wr.heap.size wr) n))
  have YL := hid (show (p.lines[k]'(by omega)).length ≤ 1000 ∧ (q.lines[k]'(by omega)).length ≤ 1000 from ⟨VA.out.f.line _ (List.getElem_mem _), VB.out.f.line _ (List.getElem_mem _)⟩)
  have HFO := hid (show fouB p q k = (eqB 20 (p.tasks[k]'(by omega)) (q.tasks[k]'(by omega)) && decide ((p.kinds[k]'(by omega)) = (q.kinds[k]'(by omega))) && decide ((p.lines[k]'(by omega)) = (q.lines[k]'(by omega))) && decide ((p.bits[k]'(by omega)) = (q.bits[k]'(by omega)))) by
   unfold fouB
   rw [getD_z (by omega), getD_z (by omega), getD_i (by omega), getD_i (by omega), getD_l (by omega), getD_l (by omega), getD_i (by omega), getD_i (by omega)])
  generalize p.tasks[k]'_ = f1 at XA HFO
  generalize q.tasks[k]'_ = f2 at XB HFO
  generalize p.kinds[k]'_ = x1 at ka HFO
  generalize q.kinds[k]'_ = x2 at kb HFO
  generalize p.bits[k]'_ = t1 at ta HFO
  generalize q.bits[k]'_ = t2 at tb HFO
  generalize p.lines[k]'_ = n1 at YA YL HFO
  generalize q.lines[k]'_ = n2 at YB YL HFO
  have HRA := hid hza0
  have HRB := hid hzb0
  have HSA := hid hza2
  have HSB := hid hzb2
  have HCH := hid (chL_succ p q k)
  have HCL := hid (Nat.le_trans (chL_len p q k) (show k ≤ 1000 by omega))
  clear ya2 yb2 hza0 hza1 hza2 hza3 hza4 hza5 hzb0 hzb1 hzb2 hzb3 hzb4 hzb5
  rw [l0] at ac0
  rw [l1] at ac1
  rw [l2] at ac2
  rw [l3] at ac3
  rw [l4] at ac4
  rw [l5] at ac5
  rw [m0] at bc0
  rw [m1] at bc1
  rw [m2] at bc2
  rw [m3] at bc3
  rw [m4] at bc4
  rw [m5] at bc5
  generalize chL p q k = zs at HO HCH HCL ⊢
  go_upto_region 5 with fail
  go_cut [7] from 16 to 65 (fun r wx => Hid (r = .bool (fouB p q k)) ∧ Hid (∃ n, wx = wr.drewN n))
  case first =>
   clear ac0 ac2 bc0 bc2
   cases hbt : eqB 20 f1 f2 with
   | false =>
    have HBT := hid hbt
    have HBL := hid (rfl : decide (n1 = n2) = _)
    clear hbt
    refine wp_region_quiet_lit (by kernel_rfl) (by kernel_rfl) ?_
    repeat (first | go_big_quiet_skip | ((with_reducible (show wpQuiet _ _ _ _ (⟨_, Op.load 61 _, _, _, _, _⟩ :: _) _)); refine q_ld (by rfl) _ _ rfl a3 _ rfl 20 f1 _ Tryz.underlying61 rfl info20 XA.out ?_; simp only [Act.put, jD, jE, jF]) | ((with_reducible (show wpQuiet _ _ _ _ (⟨_, Op.load 61 _, _, _, _, _⟩ :: _) _)); refine q_ld (by rfl) _ _ rfl b3 _ rfl 20 f2 _ Tryz.underlying61 rfl info20 XB.out ?_; simp only [Act.put, jD, jE, jF]) | ((with_reducible (show wpQuiet _ _ _ _ (⟨_, Op.binOp .eql 61 _ _ _, _, _, _, _⟩ :: _) _)); refine q_do (by rfl) _ (fun W _ => exec_eqT _ _ _ rfl f1 f2 rfl rfl HBT.out W) ?_; simp only [Act.put, jD, jE, jF]) | (go_big_quiet_want; go_big_quiet_op; first | go_big_quiet_on | go_big_quiet_call (refine Calls.quiet_of (same_b _ _ n1 n2 _ (YA.out _) (YB.out _) YL.out.1 YL.out.2 HBL.out))))
    refine wpQuiet_nil ?_
    intro _ hw'
    obtain ⟨nq, hw''⟩ := hw'
    subst hw''
    go_wp2_with fail
    go_meet
    exact ⟨hid (by rw [HFO.out]; rw [HBT.out]; rfl), hid ⟨nq, rfl⟩⟩
   | true =>
   have HBT := hid hbt
   clear hbt
   by_cases hx : x1 = x2
   rotate_left
   ·have HBL := hid (rfl : decide (n1 = n2) = _)
    have hxb : (x1 == x2) = false := by simpa using hx
    have HX := hid (decide_eq_false hx)
    clear hx
    refine wp_region_quiet_lit (by kernel_rfl) (by kernel_rfl) ?_
    repeat (first | go_big_quiet_skip | ((with_reducible (show wpQuiet _ _ _ _ (⟨_, Op.load 61 _, _, _, _, _⟩ :: _) _)); refine q_ld (by rfl) _ _ rfl a3 _ rfl 20 f1 _ Tryz.underlying61 rfl info20 XA.out ?_; simp only [Act.put, jD, jE, jF]) | ((with_reducible (show wpQuiet _ _ _ _ (⟨_, Op.load 61 _, _, _, _, _⟩ :: _) _)); refine q_ld (by rfl) _ _ rfl b3 _ rfl 20 f2 _ Tryz.underlying61 rfl info20 XB.out ?_; simp only [Act.put, jD, jE, jF]) | ((with_reducible (show wpQuiet _ _ _ _ (⟨_, Op.binOp .eql 61 _ _ _, _, _, _, _⟩ :: _) _)); refine q_do (by rfl) _ (fun W _ => exec_eqT _ _ _ rfl f1 f2 rfl rfl HBT.out W) ?_; simp only [Act.put, jD, jE, jF]) | (go_big_quiet_want; go_big_quiet_op; first | go_big_quiet_on | go_big_quiet_call (refine Calls.quiet_of (same_b _ _ n1 n2 _ (YA.out _) (YB.out _) YL.out.1 YL.out.2 HBL.out))))
    refine wpQuiet_nil ?_
    intro _ hw'
    obtain ⟨nq, hw''⟩ := hw'
    subst hw''
    go_wp2_with fail
    go_meet
    exact ⟨hid (by rw [HFO.out]; rw [HBT.out, HX.out]; rfl), hid ⟨nq, rfl⟩⟩
   subst hx
   cases hbl : decide (n1 = n2) with
   | false =>
    have HBL := hid hbl
    clear hbl
    refine wp_region_quiet_lit (by kernel_rfl) (by kernel_rfl) ?_
    repeat (first | go_big_quiet_skip | ((with_reducible (show wpQuiet _ _ _ _ (⟨_, Op.load 61 _, _, _, _, _⟩ :: _) _)); refine q_ld (by rfl) _ _ rfl a3 _ rfl 20 f1 _ Tryz.underlying61 rfl info20 XA.out ?_; simp only [Act.put, jD, jE, jF]) | ((with_reducible (show wpQuiet _ _ _ _ (⟨_, Op.load 61 _, _, _, _, _⟩ :: _) _)); refine q_ld (by rfl) _ _ rfl b3 _ rfl 20 f2 _ Tryz.underlying61 rfl info20 XB.out ?_; simp only [Act.put, jD, jE, jF]) | ((with_reducible (show wpQuiet _ _ _ _ (⟨_, Op.binOp .eql 61 _ _ _, _, _, _, _⟩ :: _) _)); refine q_do (by rfl) _ (fun W _ => exec_eqT _ _ _ rfl f1 f2 rfl rfl HBT.out W) ?_; simp only [Act.put, jD, jE, jF]) | (go_big_quiet_want; go_big_quiet_op; first | go_big_quiet_on | go_big_quiet_call (refine Calls.quiet_of (same_b _ _ n1 n2 _ (YA.out _) (YB.out _) YL.out.1 YL.out.2 HBL.out))))
    refine wpQuiet_nil ?_
    intro _ hw'
    obtain ⟨nq, hw''⟩ := hw'
    subst hw''
    go_wp2_with fail
    go_meet
    exact ⟨hid (by rw [HFO.out]; rw [HBT.out, HBL.out]; simp), hid ⟨nq, rfl⟩⟩
   | true =>
   have HBL := hid hbl
   clear hbl
   by_cases ht : t1 = t2
   rotate_left
   ·have htb : (t1 == t2) = false := by simpa using ht
    have HX := hid (decide_eq_false ht)
    clear ht
    refine wp_region_quiet_lit (by kernel_rfl) (by kernel_rfl) ?_
    repeat (first | go_big_quiet_skip | ((with_reducible (show wpQuiet _ _ _ _ (⟨_, Op.load 61 _, _, _, _, _⟩ :: _) _)); refine q_ld (by rfl) _ _ rfl a3 _ rfl 20 f1 _ Tryz.underlying61 rfl info20 XA.out ?_; simp only [Act.put, jD, jE, jF]) | ((with_reducible (show wpQuiet _ _ _ _ (⟨_, Op.load 61 _, _, _, _, _⟩ :: _) _)); refine q_ld (by rfl) _ _ rfl b3 _ rfl 20 f2 _ Tryz.underlying61 rfl info20 XB.out ?_; simp only [Act.put, jD, jE, jF]) | ((with_reducible (show wpQuiet _ _ _ _ (⟨_, Op.binOp .eql 61 _ _ _, _, _, _, _⟩ :: _) _)); refine q_do (by rfl) _ (fun W _ => exec_eqT _ _ _ rfl f1 f2 rfl rfl HBT.out W) ?_; simp only [Act.put, jD, jE, jF]) | (go_big_quiet_want; go_big_quiet_op; first | go_big_quiet_on | go_big_quiet_call (refine Calls.quiet_of (same_b _ _ n1 n2 _ (YA.out _) (YB.out _) YL.out.1 YL.out.2 HBL.out))))
    refine wpQuiet_nil ?_
    intro _ hw'
    obtain ⟨nq, hw''⟩ := hw'
    subst hw''
    go_wp2_with fail
    go_meet
    exact ⟨hid (by rw [HFO.out]; rw [HBT.out, HBL.out, HX.out]; simp), hid ⟨nq, rfl⟩⟩
   subst ht
   refine wp_region_quiet_lit (by kernel_rfl) (by kernel_rfl) ?_
   repeat (first | go_big_quiet_skip | ((with_reducible (show wpQuiet _ _ _ _ (⟨_, Op.load 61 _, _, _, _, _⟩ :: _) _)); refine q_ld (by rfl) _ _ rfl a3 _ rfl 20 f1 _ Tryz.underlying61 rfl info20 XA.out ?_; simp only [Act.put, jD, jE, jF]) | ((with_reducible (show wpQuiet _ _ _ _ (⟨_, Op.load 61 _, _, _, _, _⟩ :: _) _)); refine q_ld (by rfl) _ _ rfl b3 _ rfl 20 f2 _ Tryz.underlying61 rfl info20 XB.out ?_; simp only [Act.put, jD, jE, jF]) | ((with_reducible (show wpQuiet _ _ _ _ (⟨_, Op.binOp .eql 61 _ _ _, _, _, _, _⟩ :: _) _)); refine q_do (by rfl) _ (fun W _ => exec_eqT _ _ _ rfl f1 f2 rfl rfl HBT.out W) ?_; simp only [Act.put, jD, jE, jF]) | (go_big_quiet_want; go_big_quiet_op; first | go_big_quiet_on | go_big_quiet_call (refine Calls.quiet_of (same_b _ _ n1 n2 _ (YA.out _) (YB.out _) YL.out.1 YL.out.2 HBL.out))))
   refine wpQuiet_nil ?_
   intro _ hw'
   obtain ⟨nq, hw''⟩ := hw'
   subst hw''
   go_wp2_with fail
   go_meet
   exact ⟨hid (by rw [HFO.out]; rw [HBT.out, HBL.out]; simp), hid ⟨nq, rfl⟩⟩
  case rest =>
  obtain ⟨hx, HW⟩ := hcut
  obtain rfl := hx.out
  have C1 : Hid (Below wr.heap.size wr wc) := hid (by obtain ⟨n, e⟩ := HW.out; rw [e]; exact below_drewN (Below.refl _ _) n)
  have D0 : wc.cell? ⟨w.heap.size, 0, none⟩ = some (.slice (some ⟨a0, oa0, none⟩) (N * 16) ca0) := (C1.out.cell (World.block_lt_of_cell? _ _ ac0)).trans ac0
  have D2 : wc.cell? ⟨w.heap.size, 2, none⟩ = some (.slice (some ⟨a2, oa2, none⟩) (N * 16) ca2) := (C1.out.cell (World.block_lt_of_cell? _ _ ac2)).trans ac2
  have E0 : wc.cell? ⟨w.heap.size + 1, 0, none⟩ = some (.slice (some ⟨b0, ob0, none⟩) (N * 16) cb0) := (C1.out.cell (World.block_lt_of_cell? _ _ bc0)).trans bc0
  have E2 : wc.cell? ⟨w.heap.size + 1, 2, none⟩ = some (.slice (some ⟨b2, ob2, none⟩) (N * 16) cb2) := (C1.out.cell (World.block_lt_of_cell? _ _ bc2)).trans bc2
  have HRA2 := hid (HRA.out.below C1.out)
  have HRB2 := hid (HRB.out.below C1.out)
  have HSA2 := hid (fun j h => range_belowO (HSA.out j h) C1.out)
  have HSB2 := hid (fun j h => range_belowO (HSB.out j h) C1.out)
  have HO2 := hid (own_below HO.out C1.out)
  have HB2 := hid (btr HB.out C1.out)
  have HSM := hid (show smB p q k = (fouB p q k && pcB p q k 16) by unfold smB; rw [pc_all (by omega) (by omega) (by omega) (by omega)])
  clear hx HW HRA HRB HSA HSB HO HB C1 ac0 ac1 ac2 ac3 ac4 ac5 bc0 bc1 bc2 bc3 bc4 bc5 ka kb ta tb ya1 yb1 XA XB YA YB YL HFO
  generalize fouB p q k = b4 at HSM ⊢
  generalize wc = W1 at *
  go_wp2_with fail
  go_loopw [7, 8] (fun s i wr => ∃ j : Nat, j ≤ 16 ∧ i = .int .i64 ((k * 16 + j : Nat) : Int) ∧ s = .bool (b4 && pcB p q k j) ∧ Hid (∃ n, wr = W1.drewN n)) (fun _ i _ => k * 16 + 16 - (intOf i).toNat)
  case atStart => exact ⟨0, by omega, by go_num, by simp [pcB], hid ⟨0, rfl⟩⟩
  case round =>
   obtain ⟨j, hj, rfl, rfl, HW⟩ := hrel
   have C1 : Hid (Below W1.heap.size W1 wr) := hid (by obtain ⟨n, e⟩ := HW.out; rw [e]; exact below_drewN (Below.refl _ _) n)
   by_cases hj16 : j < 16
   rotate_left
   ·obtain rfl : j = 16 := by omega
    have hge : ¬ (((k * 16 + 16 : Nat) : Int) < ((k : Int) + 1) * 16) := by omega
    have HO3 := hid (own_below HO2.out C1.out)
    have HB3 := hid (btr HB2.out C1.out)
    rw [← HSM.out]
    cases hs : smB p q k with
    | true =>
     rw [hs, if_pos rfl, List.append_nil] at HCH
     clear hs
     go_wp2_with fail
     refine ⟨⟨k + 1, qu, cu, by omega, by go_num, by rw [HCH.out], hid (by rw [HCH.out]; exact HO3.out), HB3⟩, by simp [intOf]; omega⟩
    | false =>
     rw [hs, if_neg (by decide)] at HCH
     obtain ⟨q', c', w', hr, h2, h3⟩ := app_i (y := (k : Int)) HB3.out HCL.out HO3.out
     have HR := hid hr
     have HNN := hid h2
     have HBB := hid h3
     clear hr h2 h3 hs
     go_wp2_with (first | (at_builtin; refine wpList_appP rfl _ _ 22 rfl (.slice qu zs.length cu) (.slice (some ⟨wr.heap.size, 0, none⟩) 1 1) (.slice q' (zs.length + 1) c') rfl rfl HR.out ?_))
     exact ⟨⟨k + 1, q', c', by omega, by go_num, by rw [HCH.out, List.length_append]; rfl, hid (by rw [HCH.out]; have := HNN.out; rw [List.length_append] at this ⊢; exact this), HBB⟩, by simp [intOf]; omega⟩
   have hjl : ((k * 16 + j : Nat) : Int) < ((k : Int) + 1) * 16 := by omega
   have hjn : ((k * 16 + j : Nat) : Int) < ((N * 16 : Nat) : Int) := by omega
   have d0 := (C1.out.cell (World.block_lt_of_cell? _ _ D0)).trans D0
   have d2 := (C1.out.cell (World.block_lt_of_cell? _ _ D2)).trans D2
   have e0 := (C1.out.cell (World.block_lt_of_cell? _ _ E0)).trans E0
   have e2 := (C1.out.cell (World.block_lt_of_cell? _ _ E2)).trans E2
   have ra := (HRA2.out.below C1.out) (k * 16 + j) (by omega)
   have rb := (HRB2.out.below C1.out) (k * 16 + j) (by omega)
   have XA := hid (range_belowO (HSA2.out (k * 16 + j) (by omega)) C1.out)
   have XB := hid (range_belowO (HSB2.out (k * 16 + j) (by omega)) C1.out)
   have HPS := hid (show pcB p q k (j + 1) = (pcB p q k j && (((p.ram[k * 16 + j]'(by omega)) == (q.ram[k * 16 + j]'(by omega))) && eqB 7 (p.slots[k * 16 + j]'(by omega)) (q.slots[k * 16 + j]'(by omega)))) by rw [pc_succ, getD_i (by omega), getD_i (by omega), getD_z (by omega), getD_z (by omega)])
   generalize p.ram[k * 16 + j]'_ = x1 at ra HPS
   generalize q.ram[k * 16 + j]'_ = x2 at rb HPS
   generalize p.slots[k * 16 + j]'_ = f1 at XA HPS
   generalize q.slots[k * 16 + j]'_ = f2 at XB HPS
   generalize hjj : k * 16 + j = kj at *
   have HJ := hid hjj
   clear hjj
   cases hb : (b4 && pcB p q k j) with
   | false =>
    have HBB := hid hb
    have HBT := hid (rfl : eqB 7 f1 f2 = _)
    clear hb
    go_wp2_with fail
    refine wp_region_quiet_lit (by kernel_rfl) (by kernel_rfl) ?_
    repeat (first | go_big_quiet_skip | ((with_reducible (show wpQuiet _ _ _ _ (⟨_, Op.load 58 _, _, _, _, _⟩ :: _) _)); refine q_ld (by rfl) _ _ rfl a2 _ rfl 7 f1 _ Tryz.underlying58 rfl info7 XA.out ?_; simp only [Act.put, jD, jE, jF]) | ((with_reducible (show wpQuiet _ _ _ _ (⟨_, Op.load 58 _, _, _, _, _⟩ :: _) _)); refine q_ld (by rfl) _ _ rfl b2 _ rfl 7 f2 _ Tryz.underlying58 rfl info7 XB.out ?_; simp only [Act.put, jD, jE, jF]) | ((with_reducible (show wpQuiet _ _ _ _ (⟨_, Op.binOp .eql 58 _ _ _, _, _, _, _⟩ :: _) _)); refine q_do (by rfl) _ (fun W _ => exec_eqS _ _ _ rfl f1 f2 rfl rfl HBT.out W) ?_; simp only [Act.put, jD, jE, jF]) | (go_big_quiet_want; go_big_quiet_op; first | go_big_quiet_on | go_big_quiet_call (fail)))
    refine wpQuiet_nil ?_
    intro _ hw'
    obtain ⟨nq, hw''⟩ := hw'
    subst hw''
    go_wp2_with fail
    refine ⟨⟨j + 1, by omega, by rw [← Nat.add_assoc, HJ.out]; go_num, by rw [HPS.out, ← Bool.and_assoc, HBB.out]; rfl, hid ?_⟩, by simp [intOf]; have := HJ.out; omega⟩
    obtain ⟨n, e⟩ := HW.out
    exact ⟨n + nq, by rw [e, World.drewN_drewN]⟩
   | true =>
   have HBB := hid hb
   clear hb
   by_cases hx : x1 = x2
   rotate_left
   ·have HBT := hid (rfl : eqB 7 f1 f2 = _)
    have hxb : (x1 == x2) = false := by simpa using hx
    have HX := hid hxb
    clear hx
    go_wp2_with fail
    refine wp_region_quiet_lit (by kernel_rfl) (by kernel_rfl) ?_
    repeat (first | go_big_quiet_skip | ((with_reducible (show wpQuiet _ _ _ _ (⟨_, Op.load 58 _, _, _, _, _⟩ :: _) _)); refine q_ld (by rfl) _ _ rfl a2 _ rfl 7 f1 _ Tryz.underlying58 rfl info7 XA.out ?_; simp only [Act.put, jD, jE, jF]) | ((with_reducible (show wpQuiet _ _ _ _ (⟨_, Op.load 58 _, _, _, _, _⟩ :: _) _)); refine q_ld (by rfl) _ _ rfl b2 _ rfl 7 f2 _ Tryz.underlying58 rfl info7 XB.out ?_; simp only [Act.put, jD, jE, jF]) | ((with_reducible (show wpQuiet _ _ _ _ (⟨_, Op.binOp .eql 58 _ _ _, _, _, _, _⟩ :: _) _)); refine q_do (by rfl) _ (fun W _ => exec_eqS _ _ _ rfl f1 f2 rfl rfl HBT.out W) ?_; simp only [Act.put, jD, jE, jF]) | (go_big_quiet_want; go_big_quiet_op; first | go_big_quiet_on | go_big_quiet_call (fail)))
    refine wpQuiet_nil ?_
    intro _ hw'
    obtain ⟨nq, hw''⟩ := hw'
    subst hw''
    go_wp2_with fail
    refine ⟨⟨j + 1, by omega, by rw [← Nat.add_assoc, HJ.out]; go_num, by rw [HPS.out, ← Bool.and_assoc, HBB.out]; rw [HX.out]; rfl, hid ?_⟩, by simp [intOf]; have := HJ.out; omega⟩
    obtain ⟨n, e⟩ := HW.out
    exact ⟨n + nq, by rw [e, World.drewN_drewN]⟩
   subst hx
   cases hbt : eqB 7 f1 f2 with
   | false =>
    have HBT := hid hbt
    clear hbt
    go_wp2_with fail
    refine wp_region_quiet_lit (by kernel_rfl) (by kernel_rfl) ?_
    repeat (first | go_big_quiet_skip | ((with_reducible (show wpQuiet _ _ _ _ (⟨_, Op.load 58 _, _, _, _, _⟩ :: _) _)); refine q_ld (by rfl) _ _ rfl a2 _ rfl 7 f1 _ Tryz.underlying58 rfl info7 XA.out ?_; simp only [Act.put, jD, jE, jF]) | ((with_reducible (show wpQuiet _ _ _ _ (⟨_, Op.load 58 _, _, _, _, _⟩ :: _) _)); refine q_ld (by rfl) _ _ rfl b2 _ rfl 7 f2 _ Tryz.underlying58 rfl info7 XB.out ?_; simp only [Act.put, jD, jE, jF]) | ((with_reducible (show wpQuiet _ _ _ _ (⟨_, Op.binOp .eql 58 _ _ _, _, _, _, _⟩ :: _) _)); refine q_do (by rfl) _ (fun W _ => exec_eqS _ _ _ rfl f1 f2 rfl rfl HBT.out W) ?_; simp only [Act.put, jD, jE, jF]) | (go_big_quiet_want; go_big_quiet_op; first | go_big_quiet_on | go_big_quiet_call (fail)))
    refine wpQuiet_nil ?_
    intro _ hw'
    obtain ⟨nq, hw''⟩ := hw'
    subst hw''
    go_wp2_with fail
    refine ⟨⟨j + 1, by omega, by rw [← Nat.add_assoc, HJ.out]; go_num, by rw [HPS.out, ← Bool.and_assoc, HBB.out]; rw [HBT.out]; simp, hid ?_⟩, by simp [intOf]; have := HJ.out; omega⟩
    obtain ⟨n, e⟩ := HW.out
    exact ⟨n + nq, by rw [e, World.drewN_drewN]⟩
   | true =>
    have HBT := hid hbt
    clear hbt
    go_wp2_with fail
    refine wp_region_quiet_lit (by kernel_rfl) (by kernel_rfl) ?_
    repeat (first | go_big_quiet_skip | ((with_reducible (show wpQuiet _ _ _ _ (⟨_, Op.load 58 _, _, _, _, _⟩ :: _) _)); refine q_ld (by rfl) _ _ rfl a2 _ rfl 7 f1 _ Tryz.underlying58 rfl info7 XA.out ?_; simp only [Act.put, jD, jE, jF]) | ((with_reducible (show wpQuiet _ _ _ _ (⟨_, Op.load 58 _, _, _, _, _⟩ :: _) _)); refine q_ld (by rfl) _ _ rfl b2 _ rfl 7 f2 _ Tryz.underlying58 rfl info7 XB.out ?_; simp only [Act.put, jD, jE, jF]) | ((with_reducible (show wpQuiet _ _ _ _ (⟨_, Op.binOp .eql 58 _ _ _, _, _, _, _⟩ :: _) _)); refine q_do (by rfl) _ (fun W _ => exec_eqS _ _ _ rfl f1 f2 rfl rfl HBT.out W) ?_; simp only [Act.put, jD, jE, jF]) | (go_big_quiet_want; go_big_quiet_op; first | go_big_quiet_on | go_big_quiet_call (fail)))
    refine wpQuiet_nil ?_
    intro _ hw'
    obtain ⟨nq, hw''⟩ := hw'
    subst hw''
    go_wp2_with fail
    refine ⟨⟨j + 1, by omega, by rw [← Nat.add_assoc, HJ.out]; go_num, by rw [HPS.out, ← Bool.and_assoc, HBB.out]; rw [HBT.out]; simp, hid ?_⟩, by simp [intOf]; have := HJ.out; omega⟩
    obtain ⟨n, e⟩ := HW.out
    exact ⟨n + nq, by rw [e, World.drewN_drewN]⟩
end Go.Proofs.YtacpjedncjpmpaaGreatDoor.Wd
