/- Slots: world.badSlot; walked. · Tasks: world.standsRight, world.badTask; walked. (Written by mk_task3.py.) · Tasks: world.badTask; walked. (Written by mk_task4.py.) -/
import Derived.Deep.RegionHeld3
import Derived.Test.YtkocmkaeaagbaaaGreatDoorQah
import Derived.Test.YtkocmkaeaagbaaaGreatDoorQai
namespace Go.Proofs.YtkocmkaeaagbaaaGreatDoor.Wd
open Go.RowKit Go.Proofs.YtkocmkaeaagbaaaGreatDoor.Mem Go.Proofs.YtkocmkaeaagbaaaGreatDoor.Bw Go.Proofs.YtkocmkaeaagbaaaGreatDoor.Nums Go.Proofs.YtkocmkaeaagbaaaGreatDoor.Mmu
def zkB (s : Nat → Int) : Bool := decide (s 0 = 0 ∧ s 1 = 0 ∧ s 2 = 0 ∧ s 3 = 0 ∧ s 4 = 0 ∧ s 5 = 0)
theorem key_eq3 (s : Nat → Int) (w : World) : (Op.equalIn 10000 43 (.agg #[.int .i64 (s 0), .int .i64 (s 1), .int .i64 (s 2), .int .i64 (s 3), .int .i64 (s 4), .int .i64 (s 5)]) (.agg #[.int .i64 0, .int .i64 0, .int .i64 0, .int .i64 0, .int .i64 0, .int .i64 0])).run Tryz.prog w = .ok (zkB s) w := by
 have hS : Tryz.prog.underlying 43 = some (.struct (Tryz.prog.fieldsOf 43)) := by kernel_rfl
 have hp : Tryz.prog.stoodInHeld 43 = false := by kernel_rfl
 rw [show (10000 : Nat) = 9999 + 1 from rfl, run_equalIn_struct w 9999 _ _ _ hS hp]
 simp only [Program.fieldsOf, Tryz.underlying43]
 have hi : ∀ a b : Int, (Op.equalIn 9999 3 (.int .i64 a) (.int .i64 b)).run Tryz.prog w = .ok (a == b) w := fun a b => int_eq2 9998 a b w
 have h1 : ∀ o, o < 6 → (part 3 #[.int .i64 (s 0), .int .i64 (s 1), .int .i64 (s 2), .int .i64 (s 3), .int .i64 (s 4), .int .i64 (s 5)] o).run Tryz.prog w = .ok (.int .i64 (s o)) w := fun o ho => part_cf 6 s o ho w
 have h2 : ∀ o, o < 6 → (part 3 #[.int .i64 0, .int .i64 0, .int .i64 0, .int .i64 0, .int .i64 0, .int .i64 0] o).run Tryz.prog w = .ok (.int .i64 0) w := fun o ho => part_cf 6 (fun _ => 0) o ho w
 unfold zkB
 simp [Op.eqFields, Sem.run_bind, h1, h2, hi]
 clear hi h1 h2 hS hp
 (repeat' split) <;> simp_all
theorem wp_eqK {ops : Array Oper} {rest : List Oper} {op : Oper} {a : Act} {w : World} {Q : Exit → Act → World → Prop} (hgd : op.guard = none) (x y : Operand) (ty : TypeId) (ho : op.op = .binOp .eql 43 x y ty) (s : Nat → Int) {b : Bool} (hb : zkB s = b)
  (hx : a.eval x = .agg #[.int .i64 (s 0), .int .i64 (s 1), .int .i64 (s 2), .int .i64 (s 3), .int .i64 (s 4), .int .i64 (s 5)]) (hy : a.eval y = .agg #[.int .i64 0, .int .i64 0, .int .i64 0, .int .i64 0, .int .i64 0, .int .i64 0]) (h : wpList Tryz.prog ops Q rest (a.put op.dst (.bool b)) w) : wpList Tryz.prog ops Q (op :: rest) a w :=
 wpList_plain hgd fun _ hK => by
  have hm : Tryz.prog.eqGuardType Tryz.prog.depth 43 = false := by kernel_rfl
  have hn : (binOp .eql 43 (.agg #[.int .i64 (s 0), .int .i64 (s 1), .int .i64 (s 2), .int .i64 (s 3), .int .i64 (s 4), .int .i64 (s 5)]) (.agg #[.int .i64 0, .int .i64 0, .int .i64 0, .int .i64 0, .int .i64 0, .int .i64 0])).run Tryz.prog w = .ok (.bool b) w := by rw [run_eql_struct, key_eq3 s, hb]; rfl
  unfold Oper.wp
  have e : (execOp a.eval op).run Tryz.prog w = .ok (.value (.bool b)) w := by
   unfold execOp
   simp only [ho, hx, hy, Sem.run_bind, run_eqGuard_agg (P := Tryz.prog) w .eql 43 x y #[.int .i64 (s 0), .int .i64 (s 1), .int .i64 (s 2), .int .i64 (s 3), .int .i64 (s 4), .int .i64 (s 5)] #[.int .i64 0, .int .i64 0, .int .i64 0, .int .i64 0, .int .i64 0, .int .i64 0] hm, hn, Result.andThen_ok, Sem.run_pure]
  rw [e]
  exact hK _ _ h
/-- Is a slot not well? -/
def bsB (p : PW) (kd : Int) (s : Nat → Int) : Bool := if zkB s then s 6 != -1 else !(kd == 5 && opB p s && mdB p s && !endB p (s 6))
set_option maxRecDepth 100000 in
set_option maxHeartbeats 2000000 in
theorem badSlot_any (vb : Nat) (V : Nat → Value) (p : PW) (n m : Nat) (s : Nat → Int) (w : World) (hv : ViewAt w vb V p) (hm : (n : Int) / 16 = (m : Int)) (hk : m < p.kinds.length) :
  Calls Tryz.prog 49 #[.pointer (some ⟨vb, 0, none⟩), .int .i64 n, .agg (cf 7 s).toArray] w fun r w' => r = .returned (.bool (bsB p p.kinds[m] s)) ∧ Below w.heap.size w w' := by
 rw [slotV_cf]
 have B0 := hid (bal (Below.refl w.heap.size w) (.cells #[.int .i64 (s 0), .int .i64 (s 1), .int .i64 (s 2), .int .i64 (s 3), .int .i64 (s 4), .int .i64 (s 5), .int .i64 (s 6)] 45))
 have C0 := cells_new w #[.int .i64 (s 0), .int .i64 (s 1), .int .i64 (s 2), .int .i64 (s 3), .int .i64 (s 4), .int .i64 (s 5), .int .i64 (s 6)] 45
 have S0 := hid (show (w.alloc (.cells #[.int .i64 (s 0), .int .i64 (s 1), .int .i64 (s 2), .int .i64 (s 3), .int .i64 (s 4), .int .i64 (s 5), .int .i64 (s 6)] 45)).heap.size = w.heap.size + 1 by simp)
 have c1 : (w.alloc (.cells #[.int .i64 (s 0), .int .i64 (s 1), .int .i64 (s 2), .int .i64 (s 3), .int .i64 (s 4), .int .i64 (s 5), .int .i64 (s 6)] 45)).cell? ⟨vb, 1, none⟩ = some (V 1) := range_cell (hv.below B0.out).r rfl
 obtain ⟨q, b, off, cap, e1, hq, hz⟩ := hv.v.kinds
 have hl : (p.kinds.length : Int) ≤ 1000 := by have := hv.f.kinds; omega
 have hk2 : (m : Int) < (p.kinds.length : Int) := by omega
 have HK0 := hid (show 0 < p.kinds.length by omega)
 obtain rfl := hq (by omega)
 have cm := (hz.below B0.out) m hk
 have HV := hid (hv.below B0.out)
 have HOP := hid (fun W (h : Below (w.alloc (.cells #[.int .i64 (s 0), .int .i64 (s 1), .int .i64 (s 2), .int .i64 (s 3), .int .i64 (s 4), .int .i64 (s 5), .int .i64 (s 6)] 45)).heap.size (w.alloc (.cells #[.int .i64 (s 0), .int .i64 (s 1), .int .i64 (s 2), .int .i64 (s 3), .int .i64 (s 4), .int .i64 (s 5), .int .i64 (s 6)] 45)) W) => opens_any vb V p s W (HV.out.below h) HK0.out)
 have HMD := hid (fun W (h : Below (w.alloc (.cells #[.int .i64 (s 0), .int .i64 (s 1), .int .i64 (s 2), .int .i64 (s 3), .int .i64 (s 4), .int .i64 (s 5), .int .i64 (s 6)] 45)).heap.size (w.alloc (.cells #[.int .i64 (s 0), .int .i64 (s 1), .int .i64 (s 2), .int .i64 (s 3), .int .i64 (s 4), .int .i64 (s 5), .int .i64 (s 6)] 45)) W) => isMade_any vb V p s W (HV.out.below h))
 have HED := hid (fun W (h : Below (w.alloc (.cells #[.int .i64 (s 0), .int .i64 (s 1), .int .i64 (s 2), .int .i64 (s 3), .int .i64 (s 4), .int .i64 (s 5), .int .i64 (s 6)] 45)).heap.size (w.alloc (.cells #[.int .i64 (s 0), .int .i64 (s 1), .int .i64 (s 2), .int .i64 (s 3), .int .i64 (s 4), .int .i64 (s 5), .int .i64 (s 6)] 45)) W) => isEndless_any vb V p (s 6) W (HV.out.below h))
 rw [slotV_cf] at HMD
 unfold kv at HOP
 generalize p.kinds[m] = kd at cm ⊢
 clear hv hq hz
 have y0 := C0 0
 have y1 := C0 1
 have y2 := C0 2
 have y3 := C0 3
 have y4 := C0 4
 have y5 := C0 5
 have y6 := C0 6
 cases hzk : zkB s with
 | true =>
  have HEQ := hid hzk
  have HN := hid (show bsB p kd s = (s 6 != -1) by unfold bsB; rw [hzk]; rfl)
  clear hzk
  go_enter Tryz.func49, Tryz.ntmps49
  go_wp2_with (first | ((with_reducible (show wpList _ _ _ (⟨_, Op.binOp BinOp.eql 43 _ _ _, _, _, _, _⟩ :: _) _ _)); refine wp_eqK rfl _ _ _ rfl s HEQ.out rfl rfl ?_))
  go_ret
  exact ⟨by rw [HN.out]; rfl, B0.out⟩
 | false =>
  have HEQ := hid hzk
  have HB := hid (show bsB p kd s = !(kd == 5 && opB p s && mdB p s && !endB p (s 6)) by unfold bsB; rw [hzk]; rfl)
  clear hzk
  by_cases h5 : kd = 5
  ·subst h5
   go_enter Tryz.func49, Tryz.ntmps49
   go_wp2_with (first | ((with_reducible (show wpList _ _ _ (⟨_, Op.binOp BinOp.eql 43 _ _ _, _, _, _, _⟩ :: _) _ _)); refine wp_eqK rfl _ _ _ rfl s HEQ.out rfl rfl ?_))
   generalize World.alloc _ _ = W0 at *
   refine (HOP.out W0 (Below.refl _ _)).mono ?_
   rintro r w1 ⟨rfl, hb1⟩
   have A1 := hid hb1
   have lt0 : w.heap.size < W0.heap.size := by rw [S0.out]; omega
   have X1 := cells_next C0 lt0 hb1
   have z0 := X1 0
   have z1 := X1 1
   have z2 := X1 2
   have z3 := X1 3
   have z4 := X1 4
   have z5 := X1 5
   have z6 := X1 6
   clear hb1 X1
   cases ho : opB p s with
   | false =>
    have HN := hid (show bsB p 5 s = true by rw [HB.out, ho]; simp)
    clear ho
    go_wp2_with fail
    go_ret
    exact ⟨by rw [HN.out]; rfl, btr B0.out A1.out⟩
   | true =>
    go_wp2_with fail
    refine (HMD.out w1 A1.out).mono ?_
    rintro r w2 ⟨rfl, hb2⟩
    have A2 := hid (btr A1.out hb2)
    have u6 := cells_next C0 lt0 A2.out 6
    clear hb2 z0 z1 z2 z3 z4 z5 z6
    cases hd : mdB p s with
    | false =>
     have HN := hid (show bsB p 5 s = true by rw [HB.out, hd]; simp)
     clear ho hd
     go_wp2_with fail
     go_ret
     exact ⟨by rw [HN.out]; rfl, btr B0.out A2.out⟩
    | true =>
     have HN := hid (show bsB p 5 s = endB p (s 6) by rw [HB.out, ho, hd]; simp)
     clear ho hd
     go_wp2_with fail
     refine (HED.out w2 A2.out).mono ?_
     rintro r w3 ⟨rfl, rfl⟩
     generalize endB p (s 6) = bb at HN ⊢
     go_wp2_with fail
     go_ret
     exact ⟨by rw [HN.out]; rfl, btr B0.out A2.out⟩
  ·have h52 : (kd != 5) = true := by simpa using h5
   have HN := hid (show bsB p kd s = true by rw [HB.out, show (kd == 5) = false by simpa using h5]; rfl)
   clear HB h5
   go_enter Tryz.func49, Tryz.ntmps49
   go_wp2_with (first | ((with_reducible (show wpList _ _ _ (⟨_, Op.binOp BinOp.eql 43 _ _ _, _, _, _, _⟩ :: _) _ _)); refine wp_eqK rfl _ _ _ rfl s HEQ.out rfl rfl ?_))
   go_ret
   exact ⟨by rw [HN.out]; rfl, B0.out⟩
/-- Does it stand where it should, once? -/
def srB (p : PW) (n : Int) (f : Nat → Int) : Bool := if pl (f 9) = 0 then f 14 == -1 && ((cna n p.lines : Nat) : Int) == 0 else isB p (f 14) (pl (f 9)) && ((cna n p.lines : Nat) : Int) == 1 && ((cn n (p.lines.getD (f 14).toNat []) : Nat) : Int) == 1
set_option maxRecDepth 100000 in
set_option maxHeartbeats 2000000 in
theorem standsRight_any (vb : Nat) (V : Nat → Value) (p : PW) (n : Int) (f : Nat → Int) (w : World) (hv : ViewAt w vb V p) (hll : p.lines.length = p.kinds.length) :
  Calls Tryz.prog 99 #[.pointer (some ⟨vb, 0, none⟩), .int .i64 n, .agg (cf 20 f).toArray] w fun r w' => r = .returned (.bool (srB p n f)) ∧ Below w.heap.size w w' := by
 have BW := hid (bal (Below.refl w.heap.size w) (.cells (cf 20 f).toArray 68))
 have RG := hid (boxT w f 68)
 have d4 : (w.alloc (.cells (cf 20 f).toArray 68)).cell? ⟨vb, 4, none⟩ = some (V 4) := range_cell (hv.below BW.out).r rfl
 have x9 := box_at RG.out 9 (by omega)
 have x14 := box_at RG.out 14 (by omega)
 have HA := hid (countAll_any (V 4) p.lines n (w.alloc (.cells (cf 20 f).toArray 68)) (hv.v.lines.below BW.out) hv.f.lines hv.f.line)
 have HIS := hid (fun (x k : Int) (m : Nat) => is_any vb V p x k ((w.alloc (.cells (cf 20 f).toArray 68)).drewN m) (hv.below (below_drewN BW.out m)))
 have HLN := hid hv.v.lines
 have HFL := hid hv.f.line
 have l4 : (cna n p.lines : Int) ≤ 1000000 := by have := cna_take n p.lines p.lines.length hv.f.line; rw [List.take_length] at this; have := hv.f.lines; omega
 have hl4 : (p.lines.length : Int) ≤ 1000 := by have := hv.f.lines; omega
 have HB0 := hid (show srB p n f = if pl (f 9) = 0 then f 14 == -1 && ((cna n p.lines : Nat) : Int) == 0 else isB p (f 14) (pl (f 9)) && ((cna n p.lines : Nat) : Int) == 1 && ((cn n (p.lines.getD (f 14).toNat []) : Nat) : Int) == 1 from rfl)
 have HP := hid (fun W => placeOf_any (f 9) W)
 generalize pl (f 9) = kd at HB0 HP
 have HLL := hid hll
 clear hv RG hll
 by_cases hk : kd = 0
 ·rw [if_pos hk] at HB0
  subst hk
  by_cases h14 : f 14 = -1
  ·have HN := hid (show srB p n f = (((cna n p.lines : Nat) : Int) == 0) by rw [HB0.out, h14]; rfl)
   rw [h14] at x14
   generalize cna n p.lines = a at HA l4 HN
   clear HB0
   go_enter Tryz.func99, Tryz.ntmps99
   go_wp2_with fail
   refine HA.out.mono ?_
   rintro r w1 ⟨rfl, rfl⟩
   go_wp2_with fail
   refine (HP.out _).mono ?_
   rintro r w1 ⟨rfl, rfl⟩
   go_wp2_with fail
   go_ret
   exact ⟨by rw [HN.out]; rfl, BW.out⟩
  ·have HN := hid (show srB p n f = false by rw [HB0.out, show (f 14 == -1) = false by simpa using h14]; rfl)
   have h142 : (f 14 == -1) = false := by simpa using h14
   generalize cna n p.lines = a at HA l4
   clear HB0
   go_enter Tryz.func99, Tryz.ntmps99
   go_wp2_with fail
   refine HA.out.mono ?_
   rintro r w1 ⟨rfl, rfl⟩
   go_wp2_with fail
   refine (HP.out _).mono ?_
   rintro r w1 ⟨rfl, rfl⟩
   go_wp2_with fail
   go_ret
   exact ⟨by rw [HN.out]; rfl, BW.out⟩
 rw [if_neg hk] at HB0
 have hk2 : (kd != 0) = true := by simpa using hk
 cases hi : isB p (f 14) kd with
 | false =>
  have HN := hid (show srB p n f = false by rw [HB0.out, hi]; rfl)
  have HI := hid (show ∀ m, Calls Tryz.prog 101 #[.pointer (some ⟨vb, 0, none⟩), .int .i64 (f 14), .int .i64 kd] ((w.alloc (.cells (cf 20 f).toArray 68)).drewN m) fun r w' => r = .returned (.bool false) ∧ w' = ((w.alloc (.cells (cf 20 f).toArray 68)).drewN m) from fun m => (HIS.out (f 14) kd m).mono fun r w' h => ⟨by rw [h.1, hi], h.2.symm⟩)
  have HCt := hid trivial
  generalize cna n p.lines = a at HA l4
  clear HB0 hi HCt
  go_enter Tryz.func99, Tryz.ntmps99
  go_wp2_with fail
  refine HA.out.mono ?_
  rintro r w1 ⟨rfl, rfl⟩
  go_wp2_with fail
  refine (HP.out _).mono ?_
  rintro r w1 ⟨rfl, rfl⟩
  go_wp2_with fail
  go_quiet (first | (go_at_call 101; refine Calls.quiet_of_same (HI.out _)))
  have BB := hid (below_drewN BW.out nq)
  generalize World.drewN _ _ = W4 at BB ⊢
  go_wp2_with fail
  go_ret
  exact ⟨by rw [HN.out]; rfl, BB.out⟩
 | true =>
  obtain ⟨j, ej, hj0⟩ := isB_in hi
  have HI := hid (show ∀ m, Calls Tryz.prog 101 #[.pointer (some ⟨vb, 0, none⟩), .int .i64 (j : Int), .int .i64 kd] ((w.alloc (.cells (cf 20 f).toArray 68)).drewN m) fun r w' => r = .returned (.bool true) ∧ w' = ((w.alloc (.cells (cf 20 f).toArray 68)).drewN m) from fun m => (HIS.out j kd m).mono fun r w' h => ⟨by rw [h.1, ← ej, hi], h.2.symm⟩)
  rw [hi, ej, Int.toNat_natCast] at HB0
  rw [ej] at x14
  clear hi ej
  have hj : j < p.lines.length := by rw [HLL.out]; exact hj0
  have hj2 : (j : Int) < (p.lines.length : Int) := by omega
  by_cases h1 : cna n p.lines = 1
  ·obtain ⟨q, b, off, cap, e4, hq, hz⟩ := HLN.out
   obtain rfl := hq (by omega)
   obtain ⟨y, cy, hy⟩ := hz j hj
   have cy2 := (BW.out.cell (World.block_lt_of_cell? _ _ cy)).trans cy
   have HCt := hid (show ∀ m, Calls Tryz.prog 142 #[y, .int .i64 n] ((w.alloc (.cells (cf 20 f).toArray 68)).drewN m) fun r w' => r = .returned (.int .i64 (cn n p.lines[j])) ∧ w' = ((w.alloc (.cells (cf 20 f).toArray 68)).drewN m) from fun m => (count_any y p.lines[j] n _ (hy.below (below_drewN BW.out m)) (HFL.out _ (List.getElem_mem hj))).mono fun _ _ h => ⟨h.1, h.2.symm⟩)
   have HN := hid (show srB p n f = (((cn n p.lines[j] : Nat) : Int) == 1) by rw [HB0.out, h1, List.getD_eq_getElem?_getD, List.getElem?_eq_getElem hj]; rfl)
   rw [h1, e4] at HA
   generalize cn n p.lines[j] = cj at HCt HN
   clear HB0 hz hq cy hy h1 l4
   go_enter Tryz.func99, Tryz.ntmps99
   go_wp2_with fail
   refine HA.out.mono ?_
   rintro r w1 ⟨rfl, rfl⟩
   go_wp2_with fail
   refine (HP.out _).mono ?_
   rintro r w1 ⟨rfl, rfl⟩
   go_wp2_with fail
   go_quiet (first | (go_at_call 101; refine Calls.quiet_of_same (HI.out _)) | (go_at_call 142; refine Calls.quiet_of_same (HCt.out _)))
   have BB := hid (below_drewN BW.out nq)
   generalize World.drewN _ _ = W4 at BB ⊢
   go_wp2_with fail
   go_ret
   exact ⟨by rw [HN.out]; rfl, BB.out⟩
  ·have HN := hid (show srB p n f = false by
    have : ((((cna n p.lines : Nat) : Int)) == 1) = false := by simp; omega
    rw [HB0.out, this]; rfl)
   have h12 : (((cna n p.lines : Nat) : Int) == 1) = false := by simp; omega
   generalize cna n p.lines = a at HA l4 h12
   clear HB0 h1
   go_enter Tryz.func99, Tryz.ntmps99
   go_wp2_with fail
   refine HA.out.mono ?_
   rintro r w1 ⟨rfl, rfl⟩
   go_wp2_with fail
   refine (HP.out _).mono ?_
   rintro r w1 ⟨rfl, rfl⟩
   go_wp2_with fail
   go_quiet (first | (go_at_call 101; refine Calls.quiet_of_same (HI.out _)))
   have BB := hid (below_drewN BW.out nq)
   generalize World.drewN _ _ = W4 at BB ⊢
   go_wp2_with fail
   go_ret
   exact ⟨by rw [HN.out]; rfl, BB.out⟩
theorem exec_neT {ρ : Operand → Value} {o : Oper} (x y : Operand) (ty : TypeId) (ho : o.op = .binOp .neq 68 x y ty) (f g : Nat → Int) (h : ¬ ∀ k, k < 20 → f k = g k) (hx : ρ x = .agg (cf 20 f).toArray) (hy : ρ y = .agg (cf 20 g).toArray) (W : World) : (execOp ρ o).run Tryz.prog W = .ok (.value (.bool true)) W := by
 have hm : Tryz.prog.eqGuardType Tryz.prog.depth 68 = false := by kernel_rfl
 have hn : (binOp .neq 68 (.agg (cf 20 f).toArray) (.agg (cf 20 g).toArray)).run Tryz.prog W = .ok (.bool true) W := by rw [run_neq_struct, task_ne f g h]; rfl
 unfold execOp
 simp only [ho, hx, hy, Sem.run_bind, run_eqGuard_agg (P := Tryz.prog) W .neq 68 x y (cf 20 f).toArray (cf 20 g).toArray hm, hn, Result.andThen_ok, Sem.run_pure]
theorem cf_ext {n : Nat} {f g : Nat → Int} (h : ∀ k, k < n → f k = g k) : cf n f = cf n g := by
 unfold cf
 exact List.map_congr_left fun k hk => by rw [h k (List.mem_range.1 hk)]
theorem exec_neqE {ρ : Operand → Value} {o : Oper} (x y : Operand) (ty : TypeId) (ho : o.op = .binOp .neq 68 x y ty) (f g : Nat → Int) (h : ∀ k, k < 20 → f k = g k) (hx : ρ x = .agg (cf 20 f).toArray) (hy : ρ y = .agg (cf 20 g).toArray) (W : World) : (execOp ρ o).run Tryz.prog W = .ok (.value (.bool false)) W :=
 exec_neqT x y ty ho g (by rw [hx, cf_ext h]) hy W
theorem wp_ldTg {ops : Array Oper} {rest : List Oper} {op : Oper} {a : Act} {w : World} {Q : Exit → Act → World → Prop} (hw : Region.wanted op (yielded ops a.tmps) = true) (x : Operand) (ho : op.op = .load 68 x)
  (b : Nat) (hx : a.eval x = .pointer (some ⟨b, 0, none⟩)) (f : Nat → Int) (hc : w.rangeAt b 0 (cf 20 f))
  (h : wpList Tryz.prog ops Q rest (a.put op.dst (.agg (cf 20 f).toArray)) w) : wpList Tryz.prog ops Q (op :: rest) a w :=
 BigFrame.wpList_want hw fun _ hK => wp_load_mid 68 x ho b 0 hx (cf 20 f) _ hc Tryz.underlying68 rfl (by rw [cf_len]; exact info20) (hK _ _ h)
/-- Is it a task that is none? -/
def blB20 (f : Nat → Int) : Bool := (List.range 20).all fun k => f k == bl k
theorem blB20_iff {f : Nat → Int} : blB20 f = true ↔ ∀ k, k < 20 → f k = bl k := by
 unfold blB20
 rw [List.all_eq_true]
 constructor
 ·intro h k hk
  simpa using h k (List.mem_range.2 hk)
 ·intro h k hk
  simpa using h k (List.mem_range.1 hk)
/-- Is a task not well? -/
def btB (p : PW) (n kind : Int) (f : Nat → Int) : Bool := if kind = 6 then !(nfB p f && ffB p f && dbB p n f && srB p n f && rrB p n f) else !blB20 f
theorem owes_in {p : PW} {f : Nat → Int} (ht : p.tasks.length = p.kinds.length) (h : ffB p f = true) : f 17 = -1 ∨ ∃ j : Nat, j < p.tasks.length ∧ f 17 = j := by
 unfold ffB at h
 rw [Bool.and_eq_true] at h
 have h2 := h.2
 unfold isOrB at h2
 rw [Bool.or_eq_true] at h2
 rcases h2 with h2 | h2
 ·exact .inl (by simpa using h2)
 ·obtain ⟨j, e, hj⟩ := isB_in h2
  exact .inr ⟨j, by omega, e⟩
set_option maxRecDepth 100000 in
set_option maxHeartbeats 4000000 in
theorem badTask_any (vb : Nat) (V : Nat → Value) (p : PW) (n : Nat) (f : Nat → Int) (w : World) (hv : ViewAt w vb V p) (hn : n < p.kinds.length) (ht : p.tasks.length = p.kinds.length) (hll : p.lines.length = p.kinds.length) :
  Calls Tryz.prog 52 #[.pointer (some ⟨vb, 0, none⟩), .int .i64 n, .agg (cf 20 f).toArray] w fun r w' => r = .returned (.bool (btB p n p.kinds[n] f)) ∧ Below w.heap.size w w' := by
 have BW := hid (bal (Below.refl w.heap.size w) (.cells (cf 20 f).toArray 68))
 have RG := hid (boxT w f 68)
 have HI5 := hid (show (Tryz.prog.info? 68).map (·.size) = some (cf 20 f).length by rw [cf_len]; exact info20)
 have d1 : (w.alloc (.cells (cf 20 f).toArray 68)).cell? ⟨vb, 1, none⟩ = some (V 1) := range_cell (hv.below BW.out).r rfl
 obtain ⟨q, b, off, cap, e1, hq, hz⟩ := hv.v.kinds
 have hl : (p.kinds.length : Int) ≤ 1000 := by have := hv.f.kinds; omega
 have hn2 : (n : Int) < (p.kinds.length : Int) := by omega
 obtain rfl := hq (by omega)
 have cn0 := (hz.below BW.out) n hn
 have HV := hid hv
 have HT := hid ht
 have HL := hid hll
 generalize p.kinds[n] = kd at cn0 ⊢
 clear hv hq hz ht hll
 by_cases h6 : kd = 6
 ·subst h6
  have C0 := hid (Below.refl (w.alloc (.cells (cf 20 f).toArray 68)).heap.size (w.alloc (.cells (cf 20 f).toArray 68)))
  go_enter Tryz.func52, Tryz.ntmps52
  go_wp2_with (first | ((with_reducible (show wpList _ _ _ (⟨_, Op.load 68 _, _, _, _, _⟩ :: _) _ _)); refine wp_ldTg (by rfl) _ rfl _ rfl f RG.out ?_))
  generalize World.alloc _ _ = W0 at *
  refine (numbersFit_any vb V p f _ (HV.out.below (btr BW.out C0.out))).mono ?_
  rintro r w1 ⟨rfl, hb1⟩
  have C1 := hid (btr C0.out hb1)
  clear hb1
  cases h1 : nfB p f with
  | false =>
   have HN := hid (show btB p n 6 f = true by unfold btB; rw [if_pos rfl, h1]; simp)
   clear h1
   go_wp2_with fail
   go_ret
   exact ⟨by rw [HN.out]; rfl, btr BW.out C1.out⟩
  | true =>
   have H1 := hid h1
   clear h1
   have RG1 := hid (range_below RG.out (C1.out))
   go_wp2_with (first | ((with_reducible (show wpList _ _ _ (⟨_, Op.load 68 _, _, _, _, _⟩ :: _) _ _)); refine wp_ldTg (by rfl) _ rfl _ rfl f RG1.out ?_))
   refine (framesFit_any vb V p f _ (HV.out.below (btr BW.out C1.out))).mono ?_
   rintro r w2 ⟨rfl, hb2⟩
   have C2 := hid (btr C1.out hb2)
   clear hb2
   cases h2 : ffB p f with
   | false =>
    have HN := hid (show btB p n 6 f = true by unfold btB; rw [if_pos rfl, h2]; simp)
    clear h2
    go_wp2_with fail
    go_ret
    exact ⟨by rw [HN.out]; rfl, btr BW.out C2.out⟩
   | true =>
    have H2 := hid h2
    clear h2
    have RG2 := hid (range_below RG.out (C2.out))
    go_wp2_with (first | ((with_reducible (show wpList _ _ _ (⟨_, Op.load 68 _, _, _, _, _⟩ :: _) _ _)); refine wp_ldTg (by rfl) _ rfl _ rfl f RG2.out ?_))
    refine (debtsFit_any vb V p n f _ (HV.out.below (btr BW.out C2.out)) (owes_in HT.out H2.out)).mono ?_
    rintro r w3 ⟨rfl, hb3⟩
    have C3 := hid (btr C2.out hb3)
    clear hb3
    cases h3 : dbB p n f with
    | false =>
     have HN := hid (show btB p n 6 f = true by unfold btB; rw [if_pos rfl, h3]; simp)
     clear h3
     go_wp2_with fail
     go_ret
     exact ⟨by rw [HN.out]; rfl, btr BW.out C3.out⟩
    | true =>
     have H3 := hid h3
     clear h3
     have RG3 := hid (range_below RG.out (C3.out))
     go_wp2_with (first | ((with_reducible (show wpList _ _ _ (⟨_, Op.load 68 _, _, _, _, _⟩ :: _) _ _)); refine wp_ldTg (by rfl) _ rfl _ rfl f RG3.out ?_))
     refine (standsRight_any vb V p n f _ (HV.out.below (btr BW.out C3.out)) HL.out).mono ?_
     rintro r w4 ⟨rfl, hb4⟩
     have C4 := hid (btr C3.out hb4)
     clear hb4
     cases h4 : srB p n f with
     | false =>
      have HN := hid (show btB p n 6 f = true by unfold btB; rw [if_pos rfl, h4]; simp)
      clear h4
      go_wp2_with fail
      go_ret
      exact ⟨by rw [HN.out]; rfl, btr BW.out C4.out⟩
     | true =>
      have H4 := hid h4
      clear h4
      have RG4 := hid (range_below RG.out (C4.out))
      go_wp2_with (first | ((with_reducible (show wpList _ _ _ (⟨_, Op.load 68 _, _, _, _, _⟩ :: _) _ _)); refine wp_ldTg (by rfl) _ rfl _ rfl f RG4.out ?_))
      refine (runsRight_any vb V p n f _ (HV.out.below (btr BW.out C4.out))).mono ?_
      rintro r w5 ⟨rfl, hb5⟩
      have C5 := hid (btr C4.out hb5)
      clear hb5
      cases h5 : rrB p n f with
      | false =>
       have HN := hid (show btB p n 6 f = true by unfold btB; rw [if_pos rfl, h5]; simp)
       clear h5
       go_wp2_with fail
       go_ret
       exact ⟨by rw [HN.out]; rfl, btr BW.out C5.out⟩
      | true =>
       have H5 := hid h5
       clear h5
       have RG5 := hid (range_below RG.out (C5.out))
       go_wp2_with fail
       go_ret
       exact ⟨by unfold btB; rw [if_pos rfl, H1.out, H2.out, H3.out, H4.out, H5.out]; rfl, btr BW.out C5.out⟩
 ·have h62 : (kd != 6) = true := by simpa using h6
  cases hb : blB20 f with
  | true =>
   have HEQ := hid (blB20_iff.1 hb)
   have HN := hid (show btB p n kd f = false by unfold btB; rw [if_neg h6, hb]; rfl)
   clear hb h6
   go_enter Tryz.func52, Tryz.ntmps52
   go_wp2_with fail
   generalize World.alloc _ _ = W0 at *
   have BD : Hid (Below W0.heap.size W0 W0.drew) := hid (below_drew W0 1)
   refine wp_region_held_drew (S := fun W => W.rangeAt w.heap.size 0 (cf 20 f)) (by kernel_rfl) (range_below RG.out BD.out) (fun hH0 => ?_)
   have hH := hid hH0
   clear hH0
   refine tg 0 (.agg (cf 20 f).toArray) rfl (yieldsIf_load_mid (by rfl) _ _ rfl _ _ rfl (cf 20 f) _ (fun _ h => h) Tryz.underlying68 rfl HI5.out) hH.out ?_
   simp only [jj]
   refine wpAnyH_ready (rs := [1]) (by kernel_rfl) (by simp) (AllReadyH.cons rfl (fun K hK => ?_) AllReadyH.nil)
   go_simp
   refine (blank_own _).mono ?_
   rintro r w1 ⟨rfl, hb⟩
   have A1 := hid (btr BD.out hb)
   clear hb
   go_wp2_with fail
   refine hK.out _ _ (range_below RG.out A1.out) (fun hH0 => ?_)
   have hH2 := hid hH0
   clear hK K hH0
   try simp only [Act.put, jD, jE, jF]
   refine tg 2 (.bool false) rfl (Or.inl ⟨by rfl, fun W _ => exec_neqE _ _ _ rfl f bl HEQ.out rfl rfl W⟩) hH2.out ?_
   simp only [jj]
   refine tk 3 (.bool false) rfl hH2.out ?_
   simp only [jj]
   refine wpAnyH_done (by kernel_rfl) ?_ _
   clear hH hH2
   go_wp2_with fail
   go_ret
   exact ⟨by rw [HN.out]; rfl, btr BW.out A1.out⟩
  | false =>
   have HNE := hid (show ¬ ∀ k, k < 20 → f k = bl k from fun e => by rw [blB20_iff.2 e] at hb; cases hb)
   have HN := hid (show btB p n kd f = true by unfold btB; rw [if_neg h6, hb]; rfl)
   clear hb h6
   go_enter Tryz.func52, Tryz.ntmps52
   go_wp2_with fail
   generalize World.alloc _ _ = W0 at *
   have BD : Hid (Below W0.heap.size W0 W0.drew) := hid (below_drew W0 1)
   refine wp_region_held_drew (S := fun W => W.rangeAt w.heap.size 0 (cf 20 f)) (by kernel_rfl) (range_below RG.out BD.out) (fun hH0 => ?_)
   have hH := hid hH0
   clear hH0
   refine tg 0 (.agg (cf 20 f).toArray) rfl (yieldsIf_load_mid (by rfl) _ _ rfl _ _ rfl (cf 20 f) _ (fun _ h => h) Tryz.underlying68 rfl HI5.out) hH.out ?_
   simp only [jj]
   refine wpAnyH_ready (rs := [1]) (by kernel_rfl) (by simp) (AllReadyH.cons rfl (fun K hK => ?_) AllReadyH.nil)
   go_simp
   refine (blank_own _).mono ?_
   rintro r w1 ⟨rfl, hb⟩
   have A1 := hid (btr BD.out hb)
   clear hb
   go_wp2_with fail
   refine hK.out _ _ (range_below RG.out A1.out) (fun hH0 => ?_)
   have hH2 := hid hH0
   clear hK K hH0
   try simp only [Act.put, jD, jE, jF]
   refine tg 2 (.bool true) rfl (Or.inl ⟨by rfl, fun W _ => exec_neT _ _ _ rfl f bl HNE.out rfl rfl W⟩) hH2.out ?_
   simp only [jj]
   refine tk 3 (.bool true) rfl hH2.out ?_
   simp only [jj]
   refine wpAnyH_done (by kernel_rfl) ?_ _
   clear hH hH2
   go_wp2_with fail
   go_ret
   exact ⟨by rw [HN.out]; rfl, btr BW.out A1.out⟩
end Go.Proofs.YtkocmkaeaagbaaaGreatDoor.Wd
