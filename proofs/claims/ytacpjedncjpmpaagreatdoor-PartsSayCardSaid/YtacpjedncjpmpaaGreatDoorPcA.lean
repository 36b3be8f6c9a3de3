/- Two worlds, frame by frame: '==' of tasks, of slots; keyholdref.Same, slices.Equal and parts.piece; walked. -/
import Derived.Test.YtacpjedncjpmpaaGreatDoorGTask
import Derived.Test.YtacpjedncjpmpaaGreatDoorGSame
import Derived.BigQuiet
namespace Go.Proofs.YtacpjedncjpmpaaGreatDoor.Wd
open Go.RowKit Go.Proofs.YtacpjedncjpmpaaGreatDoor.Mem Go.Proofs.YtacpjedncjpmpaaGreatDoor.Bw Go.Proofs.YtacpjedncjpmpaaGreatDoor.Nums Go.Proofs.YtacpjedncjpmpaaGreatDoor.Mmu
def eqB (n : Nat) (f g : Nat → Int) : Bool := decide (∀ k, k < n → f k = g k)
theorem cf_congr {n : Nat} {f g : Nat → Int} (h : ∀ k, k < n → f k = g k) : cf n f = cf n g := by
 unfold cf
 exact List.map_congr_left fun k hk => by rw [h k (List.mem_range.1 hk)]
theorem task_two (f g : Nat → Int) (w : World) : (Op.equalIn 10000 61 (.agg (cf 20 f).toArray) (.agg (cf 20 g).toArray)).run Tryz.prog w = .ok (eqB 20 f g) w := by
 by_cases h : ∀ k, k < 20 → f k = g k
 ·rw [cf_congr h, task_eq, show eqB 20 f g = true from decide_eq_true h]
 ·rw [task_ne f g h, show eqB 20 f g = false from decide_eq_false h]
theorem key_two (f g : Nat → Int) (d : Nat) (w : World) : (Op.equalIn (d + 2) 56 (.agg (cf 6 f).toArray) (.agg (cf 6 g).toArray)).run Tryz.prog w = .ok (decide (f 0 = g 0 ∧ f 1 = g 1 ∧ f 2 = g 2 ∧ f 3 = g 3 ∧ f 4 = g 4 ∧ f 5 = g 5)) w := by
 have hS : Tryz.prog.underlying 56 = some (.struct (Tryz.prog.fieldsOf 56)) := by kernel_rfl
 have hp : Tryz.prog.stoodInHeld 56 = false := by kernel_rfl
 rw [run_equalIn_struct w (d + 1) _ _ _ hS hp]
 simp only [Program.fieldsOf, Tryz.underlying56]
 have hi : ∀ a b : Int, (Op.equalIn (d + 1) 3 (.int .i64 a) (.int .i64 b)).run Tryz.prog w = .ok (a == b) w := fun a b => int_eq2 d a b w
 simp [Op.eqFields, Sem.run_bind, part_cf, hi]
 clear hi hS hp
 (repeat' split) <;> simp_all
theorem all7 {f g : Nat → Int} : (f 0 = g 0 ∧ f 1 = g 1 ∧ f 2 = g 2 ∧ f 3 = g 3 ∧ f 4 = g 4 ∧ f 5 = g 5 ∧ f 6 = g 6) ↔ ∀ k, k < 7 → f k = g k := by
 constructor
 ·rintro ⟨a0, a1, a2, a3, a4, a5, a6⟩ k hk
  match k, hk with
  | 0, _ => exact a0
  | 1, _ => exact a1
  | 2, _ => exact a2
  | 3, _ => exact a3
  | 4, _ => exact a4
  | 5, _ => exact a5
  | 6, _ => exact a6
  | _ + 7, hk => omega
 ·exact fun h => ⟨h 0 (by omega), h 1 (by omega), h 2 (by omega), h 3 (by omega), h 4 (by omega), h 5 (by omega), h 6 (by omega)⟩
theorem slot_two (f g : Nat → Int) (w : World) : (Op.equalIn 10000 58 (.agg (cf 7 f).toArray) (.agg (cf 7 g).toArray)).run Tryz.prog w = .ok (eqB 7 f g) w := by
 have hS : Tryz.prog.underlying 58 = some (.struct (Tryz.prog.fieldsOf 58)) := by kernel_rfl
 have hp : Tryz.prog.stoodInHeld 58 = false := by kernel_rfl
 have he : eqB 7 f g = decide (f 0 = g 0 ∧ f 1 = g 1 ∧ f 2 = g 2 ∧ f 3 = g 3 ∧ f 4 = g 4 ∧ f 5 = g 5 ∧ f 6 = g 6) := by
  unfold eqB
  exact decide_eq_decide.2 all7.symm
 rw [he, show (10000 : Nat) = 9999 + 1 from rfl, run_equalIn_struct w 9999 _ _ _ hS hp]
 simp only [Program.fieldsOf, Tryz.underlying58]
 have hi : ∀ a b : Int, (Op.equalIn 9999 3 (.int .i64 a) (.int .i64 b)).run Tryz.prog w = .ok (a == b) w := fun a b => int_eq2 9998 a b w
 have hk := key_two f g 9997 w
 simp [Op.eqFields, Sem.run_bind, part_key, hk, part_cf, hi]
 clear hi hS hp hk he
 (repeat' split) <;> simp_all
theorem exec_eqT {ρ : Operand → Value} {o : Oper} (x y : Operand) (ty : TypeId) (ho : o.op = .binOp .eql 61 x y ty) (f g : Nat → Int) (hx : ρ x = .agg (cf 20 f).toArray) (hy : ρ y = .agg (cf 20 g).toArray) {b : Bool} (hb : eqB 20 f g = b) (W : World) : (execOp ρ o).run Tryz.prog W = .ok (.value (.bool b)) W := by
 have hm : Tryz.prog.eqGuardType Tryz.prog.depth 61 = false := by kernel_rfl
 have hn : (binOp .eql 61 (.agg (cf 20 f).toArray) (.agg (cf 20 g).toArray)).run Tryz.prog W = .ok (.bool b) W := by rw [run_eql_struct, task_two, hb]; rfl
 unfold execOp
 simp only [ho, hx, hy, Sem.run_bind, run_eqGuard_agg (P := Tryz.prog) W .eql 61 x y (cf 20 f).toArray (cf 20 g).toArray hm, hn, Result.andThen_ok, Sem.run_pure]
theorem exec_eqS {ρ : Operand → Value} {o : Oper} (x y : Operand) (ty : TypeId) (ho : o.op = .binOp .eql 58 x y ty) (f g : Nat → Int) (hx : ρ x = .agg (cf 7 f).toArray) (hy : ρ y = .agg (cf 7 g).toArray) {b : Bool} (hb : eqB 7 f g = b) (W : World) : (execOp ρ o).run Tryz.prog W = .ok (.value (.bool b)) W := by
 have hm : Tryz.prog.eqGuardType Tryz.prog.depth 58 = false := by kernel_rfl
 have hn : (binOp .eql 58 (.agg (cf 7 f).toArray) (.agg (cf 7 g).toArray)).run Tryz.prog W = .ok (.bool b) W := by rw [run_eql_struct, slot_two, hb]; rfl
 unfold execOp
 simp only [ho, hx, hy, Sem.run_bind, run_eqGuard_agg (P := Tryz.prog) W .eql 58 x y (cf 7 f).toArray (cf 7 g).toArray hm, hn, Result.andThen_ok, Sem.run_pure]
theorem exec_neS {ρ : Operand → Value} {o : Oper} (x y : Operand) (ty : TypeId) (ho : o.op = .binOp .neq 58 x y ty) (f g : Nat → Int) (hx : ρ x = .agg (cf 7 f).toArray) (hy : ρ y = .agg (cf 7 g).toArray) {b : Bool} (hb : (!eqB 7 f g) = b) (W : World) : (execOp ρ o).run Tryz.prog W = .ok (.value (.bool b)) W := by
 have hm : Tryz.prog.eqGuardType Tryz.prog.depth 58 = false := by kernel_rfl
 have hn : (binOp .neq 58 (.agg (cf 7 f).toArray) (.agg (cf 7 g).toArray)).run Tryz.prog W = .ok (.bool b) W := by rw [run_neq_struct, slot_two, ← hb]; rfl
 unfold execOp
 simp only [ho, hx, hy, Sem.run_bind, run_eqGuard_agg (P := Tryz.prog) W .neq 58 x y (cf 7 f).toArray (cf 7 g).toArray hm, hn, Result.andThen_ok, Sem.run_pure]
/-- In a walk that only reads: an operation whose run is known. -/
theorem q_do {ops : Array Oper} {C : World → Prop} {Q : Act → Prop} {a : Act} {o : Oper} {rest : List Oper} (hw : Region.wanted o (yielded ops a.tmps) = true) (v : Value) (he : ∀ W, C W → (execOp a.eval o).run Tryz.prog W = .ok (.value v) W) (h : wpQuiet Tryz.prog ops C Q rest (a.put o.dst v)) : wpQuiet Tryz.prog ops C Q (o :: rest) a :=
 BigFrame.wpQuiet_want hw fun _ hK => ⟨v, fun W hc => by unfold Oper.quietAt; rw [he W hc]; exact ⟨rfl, rfl⟩, hK _ h⟩
theorem exec_ld {ρ : Operand → Value} {o : Oper} (ty : TypeId) (x : Operand) (ho : o.op = .load ty x) (b off : Nat) (hx : ρ x = .pointer (some ⟨b, off, none⟩)) (cs : List Value) (d : TypeDesc) (hu : Tryz.prog.underlying ty = some d) (hd : d.isRow = true) (hi : (Tryz.prog.info? ty).map (·.size) = some cs.length) {W : World} (hc : W.rangeAt b off cs) : (execOp ρ o).run Tryz.prog W = .ok (.value (.agg cs.toArray)) W := by
 unfold execOp
 simp only [ho, hx, Instr.loadAt, Instr.sureAddr, Sem.run_bind, Sem.run_pure, Result.andThen_ok, run_loadVar_mid W b off ty cs d hc hu hd hi]
theorem q_ld {ops : Array Oper} {w : World} {Q : Act → Prop} {a : Act} {o : Oper} {rest : List Oper} (hw : Region.wanted o (yielded ops a.tmps) = true) (ty : TypeId) (x : Operand) (ho : o.op = .load ty x) (b off : Nat) (hx : a.eval x = .pointer (some ⟨b, off, none⟩)) (n : Nat) (f : Nat → Int) (d : TypeDesc) (hu : Tryz.prog.underlying ty = some d) (hd : d.isRow = true) (hi : (Tryz.prog.info? ty).map (·.size) = some n) (hc : w.rangeAt b off (cf n f)) (h : wpQuiet Tryz.prog ops (fun w' => ∃ n, w' = w.drewN n) Q rest (a.put o.dst (.agg (cf n f).toArray))) : wpQuiet Tryz.prog ops (fun w' => ∃ n, w' = w.drewN n) Q (o :: rest) a :=
 q_do hw _ (fun W ⟨m, hm⟩ => exec_ld ty x ho b off hx (cf n f) d hu hd (by rw [hi, cf_len]) (by subst hm; exact range_belowO hc (below_drewN (Below.refl _ _) m))) h
set_option maxHeartbeats 2000000 in
theorem same_any (v v2 : Value) (xs ys : List Int) (w : World) (h : IntsIn w v xs) (h2 : IntsIn w v2 ys) (hl : xs.length ≤ 1000) (hl2 : ys.length ≤ 1000) :
  Calls Tryz.prog 11 #[v, v2] w fun e w' => e = .returned (.bool (decide (xs = ys))) ∧ ∃ n, w' = w.drewN n := by
 obtain ⟨q, b, off, cap, rfl, hq, hz⟩ := h
 obtain ⟨q2, b2, off2, cap2, rfl, hq2, hz2⟩ := h2
 by_cases hn : xs.length = ys.length
 rotate_left
 ·have HD := hid (show decide (xs = ys) = false from decide_eq_false fun e => hn (by rw [e]))
  clear hq hq2 hz hz2
  go_enter Tryz.func11, Tryz.ntmps11
  go_wp2_with fail
  go_ret
  exact ⟨by rw [HD.out]; rfl, 0, rfl⟩
 have HQ := hid hq
 have HQ2 := hid hq2
 have HZ := hid hz
 have HZ2 := hid hz2
 have HN := hid hn
 rw [← hn]
 clear hq hq2 hz hz2 hn
 go_enter Tryz.func11, Tryz.ntmps11
 go_wp2_with fail
 go_loopw [5] (fun i wr => ∃ k : Nat, k ≤ xs.length ∧ i = .int .i64 k ∧ Hid (∀ j, j < k → xs[j]? = ys[j]?) ∧ Hid (∃ n, wr = w.drewN n)) (fun i _ => xs.length - (intOf i).toNat)
 case atStart => exact ⟨0, by omega, rfl, hid (fun j hj => by omega), hid ⟨0, rfl⟩⟩
 case round =>
  obtain ⟨k, hk, rfl, HE, HW⟩ := hrel
  by_cases hlt : k < xs.length
  ·have hlt2 : (k : Int) < (xs.length : Int) := by omega
   have hky : k < ys.length := by rw [← HN.out]; exact hlt
   have hlt3 : (k : Int) < (ys.length : Int) := by omega
   have hqe := HQ.out (by omega)
   have hqe2 := HQ2.out (by omega)
   subst hqe hqe2
   have hc : wr.cell? ⟨b, off + k, none⟩ = some (.int .i64 xs[k]) := by
    obtain ⟨n, e⟩ := HW.out
    rw [e]
    exact (HZ.out.below (below_drewN (Below.refl _ _) n)) k hlt
   have hc2 : wr.cell? ⟨b2, off2 + k, none⟩ = some (.int .i64 ys[k]) := by
    obtain ⟨n, e⟩ := HW.out
    rw [e]
    exact (HZ2.out.below (below_drewN (Below.refl _ _) n)) k hky
   have HS := hid (show xs[k] = ys[k] → ∀ j, j < k + 1 → xs[j]? = ys[j]? from fun h j hj => by
    by_cases e : j = k
    ·subst e; rw [List.getElem?_eq_getElem hlt, List.getElem?_eq_getElem hky, h]
    ·exact HE.out j (by omega))
   have HD := hid (show xs[k] ≠ ys[k] → decide (xs = ys) = false from fun h => decide_eq_false fun e => h (by subst e; rfl))
   generalize xs[k] = z at hc HS HD
   generalize ys[k] = y at hc2 HS HD
   go_wp2_with fail
   by_cases hzy : z = y
   ·have hb : (z != y) = false := by simpa using hzy
    have HS2 := hid (HS.out hzy)
    clear hzy HS HD HE
    go_quiet (fail)
    go_wp2_with fail
    refine ⟨⟨k + 1, by omega, by go_num, HS2, hid ?_⟩, by simp [intOf]; omega⟩
    obtain ⟨n, e⟩ := HW.out
    exact ⟨n + nq, by rw [e, World.drewN_drewN]⟩
   ·have hb : (z != y) = true := by simpa using hzy
    have HS2 := hid (HD.out hzy)
    clear hzy HS HD HE
    go_quiet (fail)
    go_wp2_with fail
    go_ret
    obtain ⟨n, e⟩ := HW.out
    exact ⟨by rw [HS2.out]; rfl, n + nq, by rw [e, World.drewN_drewN]⟩
  ·obtain rfl : k = xs.length := by omega
   have hge : ¬ ((xs.length : Int) < (xs.length : Int)) := by omega
   have HD := hid (show decide (xs = ys) = true from decide_eq_true (List.ext_getElem? fun j => by
    by_cases hj : j < xs.length
    ·exact HE.out j hj
    ·rw [List.getElem?_eq_none (by omega), List.getElem?_eq_none (by rw [← HN.out]; omega)]))
   clear HE
   go_wp2_with fail
   go_ret
   exact ⟨by rw [HD.out]; rfl, HW.out⟩
set_option maxHeartbeats 2000000 in
theorem equalI_any (v v2 : Value) (xs ys : List Int) (w : World) (h : IntsIn w v xs) (h2 : IntsIn w v2 ys) (hl : xs.length ≤ 1000) (hl2 : ys.length ≤ 1000) :
  Calls Tryz.prog 53 #[v, v2] w fun e w' => e = .returned (.bool (decide (xs = ys))) ∧ ∃ n, w' = w.drewN n := by
 obtain ⟨q, b, off, cap, rfl, hq, hz⟩ := h
 obtain ⟨q2, b2, off2, cap2, rfl, hq2, hz2⟩ := h2
 by_cases hn : xs.length = ys.length
 rotate_left
 ·have HD := hid (show decide (xs = ys) = false from decide_eq_false fun e => hn (by rw [e]))
  clear hq hq2 hz hz2
  go_enter Tryz.func53, Tryz.ntmps53
  go_wp2_with fail
  go_ret
  exact ⟨by rw [HD.out]; rfl, 0, rfl⟩
 have HQ := hid hq
 have HQ2 := hid hq2
 have HZ := hid hz
 have HZ2 := hid hz2
 have HN := hid hn
 rw [← hn]
 clear hq hq2 hz hz2 hn
 go_enter Tryz.func53, Tryz.ntmps53
 go_wp2_with fail
 go_loopw [13] (fun i wr => ∃ k : Nat, k ≤ xs.length ∧ i = .int .i64 k ∧ Hid (∀ j, j < k → xs[j]? = ys[j]?) ∧ Hid (∃ n, wr = w.drewN n)) (fun i _ => xs.length - (intOf i).toNat)
 case atStart => exact ⟨0, by omega, rfl, hid (fun j hj => by omega), hid ⟨0, rfl⟩⟩
 case round =>
  obtain ⟨k, hk, rfl, HE, HW⟩ := hrel
  by_cases hlt : k < xs.length
  ·have hlt2 : (k : Int) < (xs.length : Int) := by omega
   have hky : k < ys.length := by rw [← HN.out]; exact hlt
   have hlt3 : (k : Int) < (ys.length : Int) := by omega
   have hqe := HQ.out (by omega)
   have hqe2 := HQ2.out (by omega)
   subst hqe hqe2
   have hc : wr.cell? ⟨b, off + k, none⟩ = some (.int .i64 xs[k]) := by
    obtain ⟨n, e⟩ := HW.out
    rw [e]
    exact (HZ.out.below (below_drewN (Below.refl _ _) n)) k hlt
   have hc2 : wr.cell? ⟨b2, off2 + k, none⟩ = some (.int .i64 ys[k]) := by
    obtain ⟨n, e⟩ := HW.out
    rw [e]
    exact (HZ2.out.below (below_drewN (Below.refl _ _) n)) k hky
   have HS := hid (show xs[k] = ys[k] → ∀ j, j < k + 1 → xs[j]? = ys[j]? from fun h j hj => by
    by_cases e : j = k
    ·subst e; rw [List.getElem?_eq_getElem hlt, List.getElem?_eq_getElem hky, h]
    ·exact HE.out j (by omega))
   have HD := hid (show xs[k] ≠ ys[k] → decide (xs = ys) = false from fun h => decide_eq_false fun e => h (by subst e; rfl))
   generalize xs[k] = z at hc HS HD
   generalize ys[k] = y at hc2 HS HD
   go_wp2_with fail
   by_cases hzy : z = y
   ·have hb : (z != y) = false := by simpa using hzy
    have HS2 := hid (HS.out hzy)
    clear hzy HS HD HE
    go_quiet (fail)
    go_wp2_with fail
    refine ⟨⟨k + 1, by omega, by go_num, HS2, hid ?_⟩, by simp [intOf]; omega⟩
    obtain ⟨n, e⟩ := HW.out
    exact ⟨n + nq, by rw [e, World.drewN_drewN]⟩
   ·have hb : (z != y) = true := by simpa using hzy
    have HS2 := hid (HD.out hzy)
    clear hzy HS HD HE
    go_quiet (fail)
    go_wp2_with fail
    go_ret
    obtain ⟨n, e⟩ := HW.out
    exact ⟨by rw [HS2.out]; rfl, n + nq, by rw [e, World.drewN_drewN]⟩
  ·obtain rfl : k = xs.length := by omega
   have hge : ¬ ((xs.length : Int) < (xs.length : Int)) := by omega
   have HD := hid (show decide (xs = ys) = true from decide_eq_true (List.ext_getElem? fun j => by
    by_cases hj : j < xs.length
    ·exact HE.out j hj
    ·rw [List.getElem?_eq_none (by omega), List.getElem?_eq_none (by rw [← HN.out]; omega)]))
   clear HE
   go_wp2_with fail
   go_ret
   exact ⟨by rw [HD.out]; rfl, HW.out⟩
def z0 : Nat → Int := fun _ => 0
def rowsB (n : Nat) (fs gs : List (Nat → Int)) : Bool := decide (fs.length = gs.length ∧ ∀ j, j < fs.length → eqB n (fs.getD j z0) (gs.getD j z0) = true)
theorem getD_z {fs : List (Nat → Int)} {k : Nat} (h : k < fs.length) : fs.getD k z0 = fs[k] := by rw [List.getD_eq_getElem?_getD, List.getElem?_eq_getElem h]; rfl
set_option maxHeartbeats 2000000 in
theorem equalS_any (v v2 : Value) (xs ys : List (Nat → Int)) (w : World) (h : RowsIn 7 w v xs) (h2 : RowsIn 7 w v2 ys) (hl : xs.length ≤ 1000) (hl2 : ys.length ≤ 1000) :
  Calls Tryz.prog 54 #[v, v2] w fun e w' => e = .returned (.bool (rowsB 7 xs ys)) ∧ ∃ n, w' = w.drewN n := by
 obtain ⟨q, b, off, cap, rfl, hq, hz⟩ := h
 obtain ⟨q2, b2, off2, cap2, rfl, hq2, hz2⟩ := h2
 by_cases hn : xs.length = ys.length
 rotate_left
 ·have HD := hid (show rowsB 7 xs ys = false from decide_eq_false fun e => hn e.1)
  clear hq hq2 hz hz2
  go_enter Tryz.func54, Tryz.ntmps54
  go_wp2_with fail
  go_ret
  exact ⟨by rw [HD.out]; rfl, 0, rfl⟩
 have HQ := hid hq
 have HQ2 := hid hq2
 have HZ := hid hz
 have HZ2 := hid hz2
 have HN := hid hn
 rw [← hn]
 clear hq hq2 hz hz2 hn
 go_enter Tryz.func54, Tryz.ntmps54
 go_wp2_with fail
 go_loopw [13] (fun i wr => ∃ k : Nat, k ≤ xs.length ∧ i = .int .i64 k ∧ Hid (∀ j, j < k → eqB 7 (xs.getD j z0) (ys.getD j z0) = true) ∧ Hid (∃ n, wr = w.drewN n)) (fun i _ => xs.length - (intOf i).toNat)
 case atStart => exact ⟨0, by omega, rfl, hid (fun j hj => by omega), hid ⟨0, rfl⟩⟩
 case round =>
  obtain ⟨k, hk, rfl, HE, HW⟩ := hrel
  by_cases hlt : k < xs.length
  ·have hlt2 : (k : Int) < (xs.length : Int) := by omega
   have hky : k < ys.length := by rw [← HN.out]; exact hlt
   have hlt3 : (k : Int) < (ys.length : Int) := by omega
   have hqe := HQ.out (by omega)
   have hqe2 := HQ2.out (by omega)
   subst hqe hqe2
   have X1 : Hid (wr.rangeAt b (off + k * 7) (cf 7 xs[k])) := hid (by
    obtain ⟨n, e⟩ := HW.out
    rw [e]
    exact range_belowO (HZ.out k hlt) (below_drewN (Below.refl _ _) n))
   have X2 : Hid (wr.rangeAt b2 (off2 + k * 7) (cf 7 ys[k])) := hid (by
    obtain ⟨n, e⟩ := HW.out
    rw [e]
    exact range_belowO (HZ2.out k hky) (below_drewN (Below.refl _ _) n))
   have HS := hid (show eqB 7 xs[k] ys[k] = true → ∀ j, j < k + 1 → eqB 7 (xs.getD j z0) (ys.getD j z0) = true from fun h j hj => by
    by_cases e : j = k
    ·subst e; rw [getD_z hlt, getD_z hky]; exact h
    ·exact HE.out j (by omega))
   have HD := hid (show eqB 7 xs[k] ys[k] = false → rowsB 7 xs ys = false from fun h => decide_eq_false fun e => by
    have := e.2 k hlt
    rw [getD_z hlt, getD_z hky, h] at this
    cases this)
   generalize xs[k] = f at X1 HS HD
   generalize ys[k] = g at X2 HS HD
   go_wp2_with fail
   cases hb : eqB 7 f g with
   | true =>
    have HS2 := hid (HS.out hb)
    have HBE := hid (show (!eqB 7 f g) = false by rw [hb]; rfl)
    clear HS HD HE hb
    refine wp_region_quiet_lit (by kernel_rfl) (by kernel_rfl) ?_
    repeat (first | go_big_quiet_skip | ((with_reducible (show wpQuiet _ _ _ _ (⟨_, Op.load 58 _, _, _, _, _⟩ :: _) _)); refine q_ld (by rfl) _ _ rfl b _ rfl 7 f _ Tryz.underlying58 rfl info7 X1.out ?_; simp only [Act.put, jD, jE, jF]) | ((with_reducible (show wpQuiet _ _ _ _ (⟨_, Op.load 58 _, _, _, _, _⟩ :: _) _)); refine q_ld (by rfl) _ _ rfl b2 _ rfl 7 g _ Tryz.underlying58 rfl info7 X2.out ?_; simp only [Act.put, jD, jE, jF]) | ((with_reducible (show wpQuiet _ _ _ _ (⟨_, Op.binOp .neq 58 _ _ _, _, _, _, _⟩ :: _) _)); refine q_do (by rfl) _ (fun W _ => exec_neS _ _ _ rfl f g rfl rfl HBE.out W) ?_; simp only [Act.put, jD, jE, jF]) | (go_big_quiet_want; go_big_quiet_op; first | go_big_quiet_on | go_big_quiet_call (fail)))
    refine wpQuiet_nil ?_
    intro _ hw'
    obtain ⟨nq, hw''⟩ := hw'
    subst hw''
    go_wp2_with fail
    refine ⟨⟨k + 1, by omega, by go_num, HS2, hid ?_⟩, by simp [intOf]; omega⟩
    obtain ⟨n, e⟩ := HW.out
    exact ⟨n + nq, by rw [e, World.drewN_drewN]⟩
   | false =>
    have HS2 := hid (HD.out hb)
    have HBE := hid (show (!eqB 7 f g) = true by rw [hb]; rfl)
    clear HS HD HE hb
    refine wp_region_quiet_lit (by kernel_rfl) (by kernel_rfl) ?_
    repeat (first | go_big_quiet_skip | ((with_reducible (show wpQuiet _ _ _ _ (⟨_, Op.load 58 _, _, _, _, _⟩ :: _) _)); refine q_ld (by rfl) _ _ rfl b _ rfl 7 f _ Tryz.underlying58 rfl info7 X1.out ?_; simp only [Act.put, jD, jE, jF]) | ((with_reducible (show wpQuiet _ _ _ _ (⟨_, Op.load 58 _, _, _, _, _⟩ :: _) _)); refine q_ld (by rfl) _ _ rfl b2 _ rfl 7 g _ Tryz.underlying58 rfl info7 X2.out ?_; simp only [Act.put, jD, jE, jF]) | ((with_reducible (show wpQuiet _ _ _ _ (⟨_, Op.binOp .neq 58 _ _ _, _, _, _, _⟩ :: _) _)); refine q_do (by rfl) _ (fun W _ => exec_neS _ _ _ rfl f g rfl rfl HBE.out W) ?_; simp only [Act.put, jD, jE, jF]) | (go_big_quiet_want; go_big_quiet_op; first | go_big_quiet_on | go_big_quiet_call (fail)))
    refine wpQuiet_nil ?_
    intro _ hw'
    obtain ⟨nq, hw''⟩ := hw'
    subst hw''
    go_wp2_with fail
    go_ret
    obtain ⟨n, e⟩ := HW.out
    exact ⟨by rw [HS2.out]; rfl, n + nq, by rw [e, World.drewN_drewN]⟩
  ·obtain rfl : k = xs.length := by omega
   have hge : ¬ ((xs.length : Int) < (xs.length : Int)) := by omega
   have HD := hid (show rowsB 7 xs ys = true from decide_eq_true ⟨HN.out, HE.out⟩)
   clear HE
   go_wp2_with fail
   go_ret
   exact ⟨by rw [HD.out]; rfl, HW.out⟩
theorem pieceI_any (q : Option Addr) (len cap k : Nat) (b off : Nat) (w : World) (hq : q = some ⟨b, off, none⟩) (hc : len ≤ cap) (hk : k * 16 + 16 ≤ len) (hl : len ≤ 1000) :
  Calls Tryz.prog 48 #[.slice q len cap, .int .i64 k] w fun x w' => x = .returned (.slice (some ⟨b, off + k * 16, none⟩) 16 (cap - k * 16)) ∧ w = w' := by
 subst hq
 go_enter Tryz.func48, Tryz.ntmps48
 go_wp2_with fail
 go_ret
 exact ⟨congrArg (fun n => Ending.returned (.slice (some ⟨b, off + k * 16, none⟩) n (cap - k * 16))) (show (k + 1) * 16 - k * 16 = 16 by omega), rfl⟩
theorem pieceS_any (q : Option Addr) (len cap k : Nat) (b off : Nat) (w : World) (hq : q = some ⟨b, off, none⟩) (hc : len ≤ cap) (hk : k * 16 + 16 ≤ len) (hl : len ≤ 1000) :
  Calls Tryz.prog 55 #[.slice q len cap, .int .i64 k] w fun x w' => x = .returned (.slice (some ⟨b, off + k * 16 * 7, none⟩) 16 (cap - k * 16)) ∧ w = w' := by
 subst hq
 go_enter Tryz.func55, Tryz.ntmps55
 go_wp2_with fail
 go_ret
 exact ⟨congrArg (fun n => Ending.returned (.slice (some ⟨b, off + k * 16 * 7, none⟩) n (cap - k * 16))) (show (k + 1) * 16 - k * 16 = 16 by omega), rfl⟩
end Go.Proofs.YtacpjedncjpmpaaGreatDoor.Wd
