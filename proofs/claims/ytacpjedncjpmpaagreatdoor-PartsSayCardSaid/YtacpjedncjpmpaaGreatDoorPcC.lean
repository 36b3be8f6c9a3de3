/- Which frames are not the same in two worlds: parts.alike, parts.Changed; walked. (Written by mk_pcc.py.) -/
import Derived.Test.YtacpjedncjpmpaaGreatDoorPcB
import Derived.Test.YtacpjedncjpmpaaGreatDoorPcX
import Derived.Test.YtacpjedncjpmpaaGreatDoorGSl
import Derived.BigQuiet
namespace Go.Proofs.YtacpjedncjpmpaaGreatDoor.Wd
open Go.RowKit Go.Proofs.YtacpjedncjpmpaaGreatDoor.Mem Go.Proofs.YtacpjedncjpmpaaGreatDoor.Bw Go.Proofs.YtacpjedncjpmpaaGreatDoor.Nums Go.Proofs.YtacpjedncjpmpaaGreatDoor.Mmu
/-- A world but for draws. -/
def Dr (w W : World) : Prop := ∃ n, W = w.drewN n
theorem dr0 (w : World) : Dr w w := ⟨0, rfl⟩
theorem dr1 {w W : World} {n : Nat} (h : Dr w W) : Dr w (W.drewN n) := by
 obtain ⟨m, rfl⟩ := h
 exact ⟨m + n, World.drewN_drewN ..⟩
theorem Dr.below {w W : World} (h : Dr w W) : Below w.heap.size w W := by
 obtain ⟨m, rfl⟩ := h
 exact below_drewN (Below.refl _ _) m
theorem wpl_do {ops : Array Oper} {rest : List Oper} {o : Oper} {a : Act} {w : World} {Q : Exit → Act → World → Prop} (hw : Region.wanted o (yielded ops a.tmps) = true) (v : Value) (he : (execOp a.eval o).run Tryz.prog w = .ok (.value v) w) (h : wpList Tryz.prog ops Q rest (a.put o.dst v) w) : wpList Tryz.prog ops Q (o :: rest) a w :=
 BigFrame.wpList_want hw fun _ hK => by unfold Oper.wp; rw [he]; exact hK _ _ h
theorem part_ints {w : World} {b off c k : Nat} {zs : List Int} (h : IntsAt w b off zs) (hk : k * 16 + 16 ≤ zs.length) : IntsIn w (.slice (some ⟨b, off + k * 16, none⟩) 16 c) ((zs.drop (k * 16)).take 16) :=
 ⟨some ⟨b, off + k * 16, none⟩, b, off + k * 16, c, by rw [part_len hk], fun _ => rfl, fun j hj => by
  rw [part_len hk] at hj
  have e : ((zs.drop (k * 16)).take 16)[j]'(by rw [part_len hk]; exact hj) = zs[k * 16 + j]'(by omega) := by simp
  rw [e, Nat.add_assoc]
  exact h (k * 16 + j) (by omega)⟩
theorem part_rows {w : World} {b off c k : Nat} {fs : List (Nat → Int)} (h : ∀ j (h : j < fs.length), w.rangeAt b (off + j * 7) (cf 7 fs[j])) (hk : k * 16 + 16 ≤ fs.length) : RowsIn 7 w (.slice (some ⟨b, off + k * 16 * 7, none⟩) 16 c) ((fs.drop (k * 16)).take 16) :=
 ⟨some ⟨b, off + k * 16 * 7, none⟩, b, off + k * 16 * 7, c, by rw [part_len hk], fun _ => rfl, fun j hj => by
  rw [part_len hk] at hj
  have e : ((fs.drop (k * 16)).take 16)[j]'(by rw [part_len hk]; exact hj) = fs[k * 16 + j]'(by omega) := by simp
  rw [e, show off + k * 16 * 7 + j * 7 = off + (k * 16 + j) * 7 by omega]
  exact h (k * 16 + j) (by omega)⟩
theorem equalI_b (v v2 : Value) (xs ys : List Int) (w : World) (h : IntsIn w v xs) (h2 : IntsIn w v2 ys) (hl : xs.length ≤ 1000) (hl2 : ys.length ≤ 1000) {b : Bool} (hb : decide (xs = ys) = b) :
  Calls Tryz.prog 53 #[v, v2] w fun e w' => e = .returned (.bool b) ∧ ∃ n, w' = w.drewN n := hb ▸ equalI_any v v2 xs ys w h h2 hl hl2
theorem equalS_b (v v2 : Value) (xs ys : List (Nat → Int)) (w : World) (h : RowsIn 7 w v xs) (h2 : RowsIn 7 w v2 ys) (hl : xs.length ≤ 1000) (hl2 : ys.length ≤ 1000) {b : Bool} (hb : rowsB 7 xs ys = b) :
  Calls Tryz.prog 54 #[v, v2] w fun e w' => e = .returned (.bool b) ∧ ∃ n, w' = w.drewN n := hb ▸ equalS_any v v2 xs ys w h h2 hl hl2
/-- The lists of two worlds, as long as they have to be. -/
structure Len2 (p q : PW) (N : Nat) : Prop where
 l0 : p.ram.length = N * 16
 l1 : p.kinds.length = N
 l2 : p.slots.length = N * 16
 l3 : p.tasks.length = N
 l4 : p.lines.length = N
 l5 : p.bits.length = N
 m0 : q.ram.length = N * 16
 m1 : q.kinds.length = N
 m2 : q.slots.length = N * 16
 m3 : q.tasks.length = N
 m4 : q.lines.length = N
 m5 : q.bits.length = N
 n : N ≤ 24
theorem len2 {p q : PW} (lp : LF p) (lq : LF q) (hk : p.kinds.length = q.kinds.length) : Len2 p q p.kinds.length :=
 ⟨lp.ram, rfl, lp.slots, lp.tasks, lp.lines, lp.bits, hk ▸ lq.ram, hk.symm, hk ▸ lq.slots, hk ▸ lq.tasks, hk ▸ lq.lines, hk ▸ lq.bits, lp.k2⟩
theorem and_six (a b c d e f g : Bool) (h : g = (c && d && e && f && (a && b))) : g = (a && (b && (c && (d && (e && f))))) := by
 subst h
 cases a <;> cases b <;> cases c <;> cases d <;> cases e <;> cases f <;> rfl
set_option maxRecDepth 100000 in
set_option maxHeartbeats 16000000 in
theorem alike_any (ba bb : Nat) (V U : Nat → Value) (p q : PW) (N k : Nat) (w : World) (va : ViewAt w ba V p) (vb : ViewAt w bb U q) (r0 : RoomV (V 0)) (r2 : RoomV (V 2)) (s0 : RoomV (U 0)) (s2 : RoomV (U 2)) (hL : Len2 p q N) (hlt : k < N) :
  Calls Tryz.prog 27 #[.pointer (some ⟨ba, 0, none⟩), .pointer (some ⟨bb, 0, none⟩), .int .i64 k] w fun x w' => x = .returned (.bool (smB p q k)) ∧ Dr w w' := by
 have hlt2 : (k : Int) < (N : Int) := by omega
 obtain ⟨l0, l1, l2, l3, l4, l5, m0, m1, m2, m3, m4, m5, hn⟩ := hL
 have hn2 : (N : Int) ≤ 24 := by omega
 obtain ⟨qa0, a0, oa0, ca0, ea0, hqa0, hza0⟩ := va.v.ram
 have ac0 : w.cell? ⟨ba, 0, none⟩ = some (V 0) := range_cell va.r rfl
 rw [ea0] at r0
 rw [ea0, l0] at ac0
 obtain rfl := hqa0 (by omega)
 obtain ⟨qa1, a1, oa1, ca1, ea1, hqa1, hza1⟩ := va.v.kinds
 have ac1 : w.cell? ⟨ba, 1, none⟩ = some (V 1) := range_cell va.r rfl
 rw [ea1, l1] at ac1
 obtain rfl := hqa1 (by omega)
 obtain ⟨qa2, a2, oa2, ca2, ea2, hqa2, hza2⟩ := va.v.slots
 have ac2 : w.cell? ⟨ba, 2, none⟩ = some (V 2) := range_cell va.r rfl
 rw [ea2] at r2
 rw [ea2, l2] at ac2
 obtain rfl := hqa2 (by omega)
 obtain ⟨qa3, a3, oa3, ca3, ea3, hqa3, hza3⟩ := va.v.tasks
 have ac3 : w.cell? ⟨ba, 3, none⟩ = some (V 3) := range_cell va.r rfl
 rw [ea3, l3] at ac3
 obtain rfl := hqa3 (by omega)
 obtain ⟨qa4, a4, oa4, ca4, ea4, hqa4, hza4⟩ := va.v.lines
 have ac4 : w.cell? ⟨ba, 4, none⟩ = some (V 4) := range_cell va.r rfl
 rw [ea4, l4] at ac4
 obtain rfl := hqa4 (by omega)
 obtain ⟨qa5, a5, oa5, ca5, ea5, hqa5, hza5⟩ := va.v.bits
 have ac5 : w.cell? ⟨ba, 5, none⟩ = some (V 5) := range_cell va.r rfl
 rw [ea5, l5] at ac5
 obtain rfl := hqa5 (by omega)
 obtain ⟨qb0, b0, ob0, cb0, eb0, hqb0, hzb0⟩ := vb.v.ram
 have bc0 : w.cell? ⟨bb, 0, none⟩ = some (U 0) := range_cell vb.r rfl
 rw [eb0] at s0
 rw [eb0, m0] at bc0
 obtain rfl := hqb0 (by omega)
 obtain ⟨qb1, b1, ob1, cb1, eb1, hqb1, hzb1⟩ := vb.v.kinds
 have bc1 : w.cell? ⟨bb, 1, none⟩ = some (U 1) := range_cell vb.r rfl
 rw [eb1, m1] at bc1
 obtain rfl := hqb1 (by omega)
 obtain ⟨qb2, b2, ob2, cb2, eb2, hqb2, hzb2⟩ := vb.v.slots
 have bc2 : w.cell? ⟨bb, 2, none⟩ = some (U 2) := range_cell vb.r rfl
 rw [eb2] at s2
 rw [eb2, m2] at bc2
 obtain rfl := hqb2 (by omega)
 obtain ⟨qb3, b3, ob3, cb3, eb3, hqb3, hzb3⟩ := vb.v.tasks
 have bc3 : w.cell? ⟨bb, 3, none⟩ = some (U 3) := range_cell vb.r rfl
 rw [eb3, m3] at bc3
 obtain rfl := hqb3 (by omega)
 obtain ⟨qb4, b4, ob4, cb4, eb4, hqb4, hzb4⟩ := vb.v.lines
 have bc4 : w.cell? ⟨bb, 4, none⟩ = some (U 4) := range_cell vb.r rfl
 rw [eb4, m4] at bc4
 obtain rfl := hqb4 (by omega)
 obtain ⟨qb5, b5, ob5, cb5, eb5, hqb5, hzb5⟩ := vb.v.bits
 have bc5 : w.cell? ⟨bb, 5, none⟩ = some (U 5) := range_cell vb.r rfl
 rw [eb5, m5] at bc5
 obtain rfl := hqb5 (by omega)
 clear ea0 hqa0 ea1 hqa1 ea2 hqa2 ea3 hqa3 ea4 hqa4 ea5 hqa5 eb0 hqb0 eb1 hqb1 eb2 hqb2 eb3 hqb3 eb4 hqb4 eb5 hqb5
 replace r0 : N * 16 ≤ ca0 := l0 ▸ r0
 replace r2 : N * 16 ≤ ca2 := l2 ▸ r2
 replace s0 : N * 16 ≤ cb0 := m0 ▸ s0
 replace s2 : N * 16 ≤ cb2 := m2 ▸ s2
 have XA := hid (hza3 k (by omega))
 have XB := hid (hzb3 k (by omega))
 have ka := hza1 k (by omega)
 have kb := hzb1 k (by omega)
 have ta := hza5 k (by omega)
 have tb := hzb5 k (by omega)
 obtain ⟨ya, ya1, ya2⟩ := hza4 k (by omega)
 obtain ⟨yb, yb1, yb2⟩ := hzb4 k (by omega)
 have YA := hid (fun W (h : Dr w W) => ya2.below h.below)
 have YB := hid (fun W (h : Dr w W) => yb2.below h.below)
 have YL := hid (show (p.lines[k]'(by omega)).length ≤ 1000 ∧ (q.lines[k]'(by omega)).length ≤ 1000 from ⟨va.f.line _ (List.getElem_mem _), vb.f.line _ (List.getElem_mem _)⟩)
 have PA := hid (fun W (h : Dr w W) (c : Nat) => part_ints (c := c) (k := k) (hza0.below h.below) (by omega))
 have PB := hid (fun W (h : Dr w W) (c : Nat) => part_ints (c := c) (k := k) (hzb0.below h.below) (by omega))
 have SA := hid (fun W (h : Dr w W) (c : Nat) => part_rows (c := c) (k := k) (fun j hj => range_belowO (hza2 j hj) h.below) (by omega))
 have SB := hid (fun W (h : Dr w W) (c : Nat) => part_rows (c := c) (k := k) (fun j hj => range_belowO (hzb2 j hj) h.below) (by omega))
 have PL := hid (show ((p.ram.drop (k * 16)).take 16).length ≤ 1000 ∧ ((q.ram.drop (k * 16)).take 16).length ≤ 1000 ∧ ((p.slots.drop (k * 16)).take 16).length ≤ 1000 ∧ ((q.slots.drop (k * 16)).take 16).length ≤ 1000 by
  rw [part_len (by omega), part_len (by omega), part_len (by omega), part_len (by omega)]
  decide)
 have HFO := hid (and_six (ramB p q k) (sltB p q k) (eqB 20 (p.tasks[k]'(by omega)) (q.tasks[k]'(by omega))) (decide ((p.kinds[k]'(by omega)) = (q.kinds[k]'(by omega)))) (decide ((p.lines[k]'(by omega)) = (q.lines[k]'(by omega)))) (decide ((p.bits[k]'(by omega)) = (q.bits[k]'(by omega)))) (smB p q k) (by
  unfold smB fouB
  rw [getD_z (by omega), getD_z (by omega), getD_i (by omega), getD_i (by omega), getD_l (by omega), getD_l (by omega), getD_i (by omega), getD_i (by omega)]))
 have H1 := hid (show decide ((p.ram.drop (k * 16)).take 16 = (q.ram.drop (k * 16)).take 16) = ramB p q k from rfl)
 have H2 := hid (show rowsB 7 ((p.slots.drop (k * 16)).take 16) ((q.slots.drop (k * 16)).take 16) = sltB p q k from rfl)
 generalize ramB p q k = g1 at H1 HFO
 generalize sltB p q k = g2 at H2 HFO
 generalize p.tasks[k]'_ = f1 at XA HFO
 generalize q.tasks[k]'_ = f2 at XB HFO
 generalize p.kinds[k]'_ = x1 at ka HFO
 generalize q.kinds[k]'_ = x2 at kb HFO
 generalize p.bits[k]'_ = t1 at ta HFO
 generalize q.bits[k]'_ = t2 at tb HFO
 generalize p.lines[k]'_ = n1 at YA YL HFO
 generalize q.lines[k]'_ = n2 at YB YL HFO
 obtain ⟨g3, h3⟩ : ∃ b, eqB 20 f1 f2 = b := ⟨_, rfl⟩
 obtain ⟨g5, h5⟩ : ∃ b, decide (n1 = n2) = b := ⟨_, rfl⟩
 obtain ⟨g4, h4⟩ : ∃ b, (x1 == x2) = b := ⟨_, rfl⟩
 obtain ⟨g6, h6⟩ : ∃ b, (t1 == t2) = b := ⟨_, rfl⟩
 rw [h3, h5, show decide (x1 = x2) = g4 by rw [← h4]; rfl, show decide (t1 = t2) = g6 by rw [← h6]; rfl] at HFO
 have H3 := hid h3
 have H5 := hid h5
 generalize smB p q k = res at HFO ⊢
 clear h3 h5 ya2 yb2 hza0 hza1 hza2 hza3 hza4 hza5 hzb0 hzb1 hzb2 hzb3 hzb4 hzb5 va vb l0 l1 l2 l3 l4 l5 m0 m1 m2 m3 m4 m5
 go_enter Tryz.func27, Tryz.ntmps27
 go_upto_region 1 with fail
 simp only [List.append_eq, List.cons_append, List.nil_append]
 refine wp_region_quiet_lit (by kernel_rfl) (lex_eq (by kernel_rfl) al_lex) ?_
 repeat' (first | go_big_quiet_skip | ((with_reducible (show wpQuiet _ _ _ _ (⟨_, Op.load 61 _, _, _, _, _⟩ :: _) _)); refine q_ld (by rfl) _ _ rfl a3 _ rfl 20 f1 _ Tryz.underlying61 rfl info20 XA.out ?_; simp only [Act.put, jD, jE, jF]) | ((with_reducible (show wpQuiet _ _ _ _ (⟨_, Op.load 61 _, _, _, _, _⟩ :: _) _)); refine q_ld (by rfl) _ _ rfl b3 _ rfl 20 f2 _ Tryz.underlying61 rfl info20 XB.out ?_; simp only [Act.put, jD, jE, jF]) | ((with_reducible (show wpQuiet _ _ _ _ (⟨_, Op.binOp .eql 61 _ _ _, _, _, _, _⟩ :: _) _)); refine q_do (by rfl) _ (fun W _ => exec_eqT _ _ _ rfl f1 f2 rfl rfl H3.out W) ?_; simp only [Act.put, jD, jE, jF]) | (go_big_quiet_want; go_big_quiet_op; first | go_big_quiet_on | go_big_quiet_call (first | ((with_reducible (show Calls _ 48 _ _ _)); refine Calls.quiet_of_same ((pieceI_any _ _ _ k _ _ _ rfl (by omega) (by omega) (by omega)).mono fun _ _ h => ⟨h.1, h.2.symm⟩)) | ((with_reducible (show Calls _ 55 _ _ _)); refine Calls.quiet_of_same ((pieceS_any _ _ _ k _ _ _ rfl (by omega) (by omega) (by omega)).mono fun _ _ h => ⟨h.1, h.2.symm⟩)) | ((with_reducible (show Calls _ 53 #[ya, yb] _ _)); refine Calls.quiet_of (equalI_b _ _ n1 n2 _ (YA.out _ (dr1 (dr0 _))) (YB.out _ (dr1 (dr0 _))) YL.out.1 YL.out.2 H5.out)) | ((with_reducible (show Calls _ 53 _ _ _)); refine Calls.quiet_of (equalI_b _ _ _ _ _ (PA.out _ (dr1 (dr0 _)) _) (PB.out _ (dr1 (dr0 _)) _) PL.out.1 PL.out.2.1 H1.out)) | ((with_reducible (show Calls _ 54 _ _ _)); refine Calls.quiet_of (equalS_b _ _ _ _ _ (SA.out _ (dr1 (dr0 _)) _) (SB.out _ (dr1 (dr0 _)) _) PL.out.2.2.1 PL.out.2.2.2 H2.out)))) | ((with_reducible (show wpQuiet _ _ _ _ (_ :: _) _)); first | cases g1 | cases g2 | cases g3 | cases g4 | cases g5))
 all_goals (refine wpQuiet_nil ?_; intro _ hw'; obtain ⟨nq, hw''⟩ := hw'; subst hw''; go_wp2_with fail; go_ret; refine ⟨?_, dr1 (dr0 _)⟩; rw [HFO.out]; first | rfl | simp)
end Go.Proofs.YtacpjedncjpmpaaGreatDoor.Wd
