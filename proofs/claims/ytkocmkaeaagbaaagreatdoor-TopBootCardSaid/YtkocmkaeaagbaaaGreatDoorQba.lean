/- A world out of a text: boot.kinds, boot.thing, walked. · Worlds in the making fit. · A world's values are put into a box. · keyholdref.MakeThings, walked. (Written by mk_clay3.py.) -/
import Derived.Test.YtkocmkaeaagbaaaGreatDoorQaz
import Derived.Test.YtkocmkaeaagbaaaGreatDoorQaw
import Derived.Test.YtkocmkaeaagbaaaGreatDoorQap
import Derived.Test.YtkocmkaeaagbaaaGreatDoorQaq
namespace Go.Proofs.YtkocmkaeaagbaaaGreatDoor.Wd
open Go.RowKit Go.Proofs.YtkocmkaeaagbaaaGreatDoor.Mem Go.Proofs.YtkocmkaeaagbaaaGreatDoor.Bw Go.Proofs.YtkocmkaeaagbaaaGreatDoor.Nums Go.Proofs.YtkocmkaeaagbaaaGreatDoor.Mmu Go.Proofs.YtkocmkaeaagbaaaGreatDoor.Hex Go.Proofs.YtkocmkaeaagbaaaGreatDoor.Prs
theorem strs_up {w w' : World} {b off : Nat} {zs : List ByteArray} (h : StrsAt w b off zs) (hb : Below w.heap.size w w') : StrsAt w' b off zs :=
 fun j hj => (hb.cell (World.block_lt_of_cell? _ _ (h j hj))).trans (h j hj)
def KdT (f : ByteArray → Option Value) : Prop := ∀ nm v, f nm = some v → ∃ k : Int, v = .int .i64 k ∧ 0 ≤ k ∧ k ≤ 8
theorem KdT.put {f : ByteArray → Option Value} (h : KdT f) (k : ByteArray) (z : Int) (hz : 0 ≤ z ∧ z ≤ 8) : KdT (fun x => if x = k then some (.int .i64 z) else f x) := fun nm v hv => by
 replace hv : (if nm = k then some (Value.int .i64 z) else f nm) = some v := hv
 by_cases e : nm = k
 ·rw [if_pos e] at hv
  exact ⟨z, (Option.some.inj hv).symm, hz⟩
 ·rw [if_neg e] at hv
  exact h nm v hv
set_option maxRecDepth 100000 in
set_option maxHeartbeats 16000000 in
theorem kinds_any (w : World) : Calls Tryz.prog 120 #[] w fun r w' => (∃ b f, r = .returned (.map (some b)) ∧ TabAt w' b 7 f ∧ KdT f) ∧ Below w.heap.size w w' := by
 have hmm := run_makeMap (P := Tryz.prog) 120 w
 have T0 := hid (tab_made w)
 have B0 := hid (bal (Below.refl w.heap.size w) (.map #[] 0))
 have K0 := hid (show KdT (fun _ => none) from fun _ _ h => by cases h)
 generalize w.alloc (.map #[] 0) = w0 at hmm T0 B0
 go_enter Tryz.func120, Tryz.ntmps120
 go_wp2_with (first | ((with_reducible (show wpList _ _ _ (⟨_, Op.insert 120 _ _ _, _, _, _, _⟩ :: _) _ _)); refine wp_insert rfl _ _ _ 120 3 rfl Tryz.underlying120 w.heap.size 0 _ rfl T0.out (by decide) ⟨#[112, 97, 103, 101]⟩ rfl (by unfold maxLen; decide) _ rfl ?_))
 clear hmm
 intro w1 hT hg
 have T1 := hid hT
 have B1 := hid (gr_below B0.out (Nat.le_refl _) B0.out.size hg)
 have K1 := hid (K0.out.put ⟨#[112, 97, 103, 101]⟩ 2 (by decide))
 clear hT hg T0 B0 K0
 go_wp2_with (first | ((with_reducible (show wpList _ _ _ (⟨_, Op.insert 120 _ _ _, _, _, _, _⟩ :: _) _ _)); refine wp_insert rfl _ _ _ 120 3 rfl Tryz.underlying120 w.heap.size 1 _ rfl T1.out (by decide) ⟨#[116, 97, 98, 108, 101]⟩ rfl (by unfold maxLen; decide) _ rfl ?_))
 intro w2 hT hg
 have T2 := hid hT
 have B2 := hid (gr_below B1.out (Nat.le_refl _) B1.out.size hg)
 have K2 := hid (K1.out.put ⟨#[116, 97, 98, 108, 101]⟩ 3 (by decide))
 clear hT hg T1 B1 K1
 go_wp2_with (first | ((with_reducible (show wpList _ _ _ (⟨_, Op.insert 120 _ _ _, _, _, _, _⟩ :: _) _ _)); refine wp_insert rfl _ _ _ 120 3 rfl Tryz.underlying120 w.heap.size 2 _ rfl T2.out (by decide) ⟨#[115, 112, 97, 99, 101]⟩ rfl (by unfold maxLen; decide) _ rfl ?_))
 intro w3 hT hg
 have T3 := hid hT
 have B3 := hid (gr_below B2.out (Nat.le_refl _) B2.out.size hg)
 have K3 := hid (K2.out.put ⟨#[115, 112, 97, 99, 101]⟩ 4 (by decide))
 clear hT hg T2 B2 K2
 go_wp2_with (first | ((with_reducible (show wpList _ _ _ (⟨_, Op.insert 120 _ _ _, _, _, _, _⟩ :: _) _ _)); refine wp_insert rfl _ _ _ 120 3 rfl Tryz.underlying120 w.heap.size 3 _ rfl T3.out (by decide) ⟨#[110, 111, 100, 101]⟩ rfl (by unfold maxLen; decide) _ rfl ?_))
 intro w4 hT hg
 have T4 := hid hT
 have B4 := hid (gr_below B3.out (Nat.le_refl _) B3.out.size hg)
 have K4 := hid (K3.out.put ⟨#[110, 111, 100, 101]⟩ 5 (by decide))
 clear hT hg T3 B3 K3
 go_wp2_with (first | ((with_reducible (show wpList _ _ _ (⟨_, Op.insert 120 _ _ _, _, _, _, _⟩ :: _) _ _)); refine wp_insert rfl _ _ _ 120 3 rfl Tryz.underlying120 w.heap.size 4 _ rfl T4.out (by decide) ⟨#[116, 97, 115, 107]⟩ rfl (by unfold maxLen; decide) _ rfl ?_))
 intro w5 hT hg
 have T5 := hid hT
 have B5 := hid (gr_below B4.out (Nat.le_refl _) B4.out.size hg)
 have K5 := hid (K4.out.put ⟨#[116, 97, 115, 107]⟩ 6 (by decide))
 clear hT hg T4 B4 K4
 go_wp2_with (first | ((with_reducible (show wpList _ _ _ (⟨_, Op.insert 120 _ _ _, _, _, _, _⟩ :: _) _ _)); refine wp_insert rfl _ _ _ 120 3 rfl Tryz.underlying120 w.heap.size 5 _ rfl T5.out (by decide) ⟨#[100, 111, 111, 114]⟩ rfl (by unfold maxLen; decide) _ rfl ?_))
 intro w6 hT hg
 have T6 := hid hT
 have B6 := hid (gr_below B5.out (Nat.le_refl _) B5.out.size hg)
 have K6 := hid (K5.out.put ⟨#[100, 111, 111, 114]⟩ 7 (by decide))
 clear hT hg T5 B5 K5
 go_wp2_with (first | ((with_reducible (show wpList _ _ _ (⟨_, Op.insert 120 _ _ _, _, _, _, _⟩ :: _) _ _)); refine wp_insert rfl _ _ _ 120 3 rfl Tryz.underlying120 w.heap.size 6 _ rfl T6.out (by decide) ⟨#[98, 101, 108, 108]⟩ rfl (by unfold maxLen; decide) _ rfl ?_))
 intro w7 hT hg
 have T7 := hid hT
 have B7 := hid (gr_below B6.out (Nat.le_refl _) B6.out.size hg)
 have K7 := hid (K6.out.put ⟨#[98, 101, 108, 108]⟩ 8 (by decide))
 clear hT hg T6 B6 K6
 go_wp2_with fail
 go_ret
 exact ⟨⟨w.heap.size, _, rfl, T7.out, K7.out⟩, B7.out⟩
theorem app_ml {w : World} {base : Nat} {v : Value} {zs : List Int} (hown : w.ownsRow base 3 1 v zs.length (ints zs)) (hbase : base ≤ w.heap.size) (hl : zs.length ≤ 1000) {b o c : Nat} {ys : List Int} (hy : ys.length ≤ 1000) (hb : IntsAt w b o ys) :
  ∃ q c' w', (Builtin.append_ #[22, 22] 22 #[v, .slice (some ⟨b, o, none⟩) ys.length c]).run Tryz.prog w = .ok (.slice q (zs.length + ys.length) c') w' ∧ w'.ownsRow base 3 1 (.slice q (zs.length + ys.length) c') (zs ++ ys).length (ints (zs ++ ys)) ∧ Below base w w' := by
 obtain ⟨i, hi, hz, hs, hyy⟩ := info_get infoI
 obtain ⟨v', w', hr, h2, h3, _⟩ := run_append_own (P := Tryz.prog) w base 22 22 3 i (.int .i64 0) 1 8 Tryz.underlying22 hi hz hs hyy rfl (by decide) v zs.length (ints zs) hown ⟨b, o, none⟩ ys.length c (ints ys) (by unfold ints; simp) (fun j v hj => by
  unfold ints at hj
  rw [List.getElem?_map] at hj
  cases e : ys[j]? with
  | none => rw [e] at hj; cases hj
  | some y =>
   rw [e] at hj
   cases hj
   obtain ⟨h1, h4⟩ := List.getElem?_eq_some_iff.1 e
   have := hb j h1
   rw [h4] at this
   by_cases h0 : j = 0
   ·subst h0
    simpa [Addr.add] using this
   ·simpa [Addr.add, h0] using this) (fun x hx => by
  unfold ints at hx
  obtain ⟨y, _, rfl⟩ := List.mem_map.1 hx
  rfl) (by unfold maxLen; omega) (by omega) hbase
 obtain ⟨q, cap, rfl⟩ := own_form h2
 have e : ints zs ++ ints ys = ints (zs ++ ys) := by unfold ints; simp
 exact ⟨q, cap, w', hr, by rw [← e, List.length_append]; exact h2, (Below.refl base w).grown h3 hbase (fun k hk => (hown.lt k hk).1)⟩
theorem own_lit1 (w : World) (k : Int) : (w.alloc (.cells #[.int .i64 k] 3)).ownsRow w.heap.size 3 1 (.slice (some ⟨w.heap.size, 0, none⟩) 1 1) [k].length (ints [k]) :=
 World.ownsRow_lit (base := w.heap.size) (size := 1) w #[.int .i64 k] 1 (Nat.le_refl _) (by unfold maxLen; decide) rfl
theorem op_look {P : Program} {w : World} {o : Oper} {a : Act} {K : Act → World → Prop} {Q : Exit → Act → World → Prop} (m x : Operand) (t : TypeId) (ho : o.op = Op.lookup t m x true) (b : Nat) (k : ByteArray) (hm : a.eval m = .map (some b)) (hx : a.eval x = .string k) {u : Value} (hr : (Instr.lookup t (.map (some b)) (.string k) true).run P w = .ok u w)
  (h : K (a.put o.dst u) w) : o.wp P a w K Q := by
 unfold Oper.wp
 simp [execOp, ho, hm, hx, hr, Result.andThen]
 exact h
set_option maxRecDepth 100000 in
set_option maxHeartbeats 8000000 in
theorem bthing_any (xb xo cap : Nat) (ts : List ByteArray) (w : World) (hS : StrsAt w xb xo ts) (hc : ts.length ≤ cap) (hl : ts.length ≤ 100000) (hz : ∀ t ∈ ts, t.size ≤ maxLen) :
  Calls Tryz.prog 78 #[.slice (some ⟨xb, xo, none⟩) ts.length cap] w fun r w' => RdA w w' (fun n => n = 4) r ∧ Below w.heap.size w w' := by
 by_cases h4 : ts.length = 4
 ·obtain ⟨t0, t1, t2, t3, rfl⟩ : ∃ a b c d, ts = [a, b, c, d] := by
   match ts, h4 with
   | [a, b, c, d], _ => exact ⟨a, b, c, d, rfl⟩
  have c0 : StrsAt w xb xo [t0, t1, t2, t3] := hS
  have HS := hid hS
  have HZ := hid (hz t0 (by simp))
  clear hS hz hl h4
  show Calls Tryz.prog 78 #[.slice (some ⟨xb, xo, none⟩) 4 cap] w _
  have hc4 : 4 ≤ cap := hc
  go_enter Tryz.func78, Tryz.ntmps78
  go_wp2_with fail
  have B0 := hid (show Below w.heap.size w w.drew from below_drew w 1)
  have H1 := hid (strs_up HS.out B0.out)
  refine Rf.wp_region_H (R := fun W => StrsAt W xb xo [t0, t1, t2, t3]) [8] [1, 2, 3] 7 (by kernel_rfl) H1.out (by kernel_rfl) (by kernel_rfl) (by kernel_rfl) (fun _ => ?_)
  repeat (refine Rf.rd_st rfl (by rfl) (fun _ _ _ _ h => h) ?_; apply Exists.intro; refine ⟨fun W h => ?_, ?_⟩; (focus (have h0 := h 0 (by simp); clear h; rw [Nat.add_zero] at h0; simp only [List.getElem_cons_zero] at h0; go_simp; try rfl)); simp only [jj])
  refine Rf.rd_nil ?_
  generalize w.drew = w1 at *
  clear c0 HS
  refine Rf.wpAnyF_ready (rs := [0]) (by kernel_rfl) (by simp) (Rf.AllReadyF.cons rfl (fun K hK => ?_) Rf.AllReadyF.nil)
  refine wnt (by rfl) ?_
  go_simp
  refine (kinds_any w1).mono ?_
  rintro r w2 ⟨⟨b, f, rfl, hT, hk⟩, hb⟩
  have T2 := hid hT
  have K2 := hid hk
  have H2 := hid (strs_up H1.out hb)
  have B2 := hid (btr B0.out hb)
  have LK := hid (hT.look (t := 120) (e := 3) Tryz.underlying120 (z := .int .i64 0) (by kernel_rfl) t0 HZ.out)
  clear hT hk hb H1 B0
  go_wp2_with fail
  refine hK.out _ _ trivial (fun _ => H2.out) (fun _ _ => ?_)
  clear hK K
  try simp only [jj]
  refine Rf.wpAnyF_ready (rs := [4]) (by kernel_rfl) (by simp) (Rf.AllReadyF.cons rfl (fun K hK => ?_) Rf.AllReadyF.nil)
  refine wnt (by rfl) ?_
  refine op_look _ _ 120 rfl b t0 rfl rfl LK.out ?_
  refine hK.out _ _ trivial (fun _ => H2.out) (fun _ _ => ?_)
  clear hK K LK T2
  try simp only [jj]
  refine Rf.wpAnyF_groupS (by kernel_rfl) _ H2.out [5, 6, 7] 2 _ _ (by kernel_rfl) ?_
  repeat (refine Rf.rd_st rfl (by rfl) (fun _ _ _ _ h => h) ?_; apply Exists.intro; refine ⟨fun W _ => ?_, ?_⟩; (focus (go_simp; try rfl)); simp only [jj])
  refine Rf.rd_nil ?_
  refine Rf.wpAnyF_ready (rs := [8]) (by kernel_rfl) (by simp) (Rf.AllReadyF.cons rfl (fun K hK => ?_) Rf.AllReadyF.nil)
  refine wnt (by rfl) ?_
  go_simp
  refine hK.out _ _ trivial (Rf.notClean (by kernel_rfl)) (fun _ _ => ?_)
  clear hK K
  try simp only [jj]
  refine Rf.wpAnyF_ready (rs := [9]) (by kernel_rfl) (by simp) (Rf.AllReadyF.cons rfl (fun K hK => ?_) Rf.AllReadyF.nil)
  refine wnt (by rfl) ?_
  go_simp
  refine hK.out _ _ trivial (Rf.notClean (by kernel_rfl)) (fun _ _ => ?_)
  clear hK K
  try simp only [jj]
  refine Rf.wpAnyF_done (by kernel_rfl) ?_ _
  cases hf : f t0 with
  | none =>
   simp only [Option.getD_none, Option.isSome_none]
   go_wp2_with fail
   go_ret2
   exact ⟨Or.inr ⟨11, by decide, rfl⟩, B2.out⟩
  | some v =>
   obtain ⟨k, rfl, hk0⟩ := K2.out _ _ hf
   have HK0 := hid hk0
   clear hk0
   simp only [Option.getD_some, Option.isSome_some]
   have H3 := hid (show StrsAt w2 xb (xo + 1) [t1, t2, t3] from fun j hj => by have := H2.out (j + 1) (by simp at hj ⊢; omega); rw [show xo + (j + 1) = xo + 1 + j by omega] at this; exact this)
   have NA := hid (bootNumbers_any xb (xo + 1) (cap - 1) [t1, t2, t3] w2 H3.out (by simp))
   clear H2 hf K2 f
   go_wp2_with fail
   refine NA.out.mono ?_
   rintro r w3 ⟨hb, h⟩
   have B3 := hid (btr B2.out hb)
   clear hb NA
   rcases h with ⟨g, c, rfl, -, a1, a2, a3⟩ | ⟨rfl, -⟩
   ·have X1 := hid (show IntsAt (w3.alloc (.cells #[.int .i64 k] 3)) g 0 ([t1, t2, t3].map fun t => (nbV t).1) from a2.below (bal (Below.refl _ _) _))
    have B4 := hid (bal B3.out (.cells #[.int .i64 k] 3))
    have O4 := hid (show (w3.alloc (.cells #[.int .i64 k] 3)).ownsRow w3.heap.size 3 1 (.slice (some ⟨w3.heap.size, 0, none⟩) 1 1) [k].length (ints [k]) from own_lit1 w3 k)
    obtain ⟨q, c2, w5, h1, h2, h3⟩ := app_ml (c := c) O4.out (by simp) (by simp) (ys := [t1, t2, t3].map fun t => (nbV t).1) (by simp) X1.out
    have R5 := hid (show (Builtin.append_ #[22, 22] 22 #[.slice (some ⟨w3.heap.size, 0, none⟩) 1 1, .slice (some ⟨g, 0, none⟩) 3 c]).run Tryz.prog (w3.alloc (.cells #[.int .i64 k] 3)) = .ok (.slice q 4 c2) w5 from h1)
    have B5 := hid (B4.out.trans (h3.mono B3.out.size))
    obtain ⟨g2, cap2, e, l3, l2, i2⟩ := own_pos h2 rfl (by simp)
    have C5 := hid (show 4 ≤ c2 by rw [(Value.slice.inj e).2.2]; exact l3)
    have I5 := hid i2
    have L5 := hid (Nat.le_trans B3.out.size l2)
    clear h1 h2 h3 a1 a2 a3 X1 O4 i2 l2 l3
    go_wp2_with (first | (refine wpList_apN rfl (.tmp 33) (.tmp 34) 22 rfl _ _ _ rfl rfl R5.out ?_))
    go_ret2
    exact ⟨Or.inl ⟨g2, c2, [k] ++ ([t1, t2, t3].map fun t => (nbV t).1), rfl, C5.out, L5.out, I5.out, rfl, fun z hz => by
     rcases List.mem_append.1 hz with h1 | h1
     ·obtain rfl := List.mem_singleton.1 h1
      have := HK0.out
      omega
     ·obtain ⟨t, _, rfl⟩ := List.mem_map.1 h1
      exact nbV_in t⟩, B5.out⟩
   ·go_wp2_with fail
    go_ret2
    exact ⟨Or.inr ⟨1, by decide, rfl⟩, B3.out⟩
 ·have h5 : ((ts.length : Int) == 4) = false := by simp; omega
  clear hS hz
  go_enter Tryz.func78, Tryz.ntmps78
  go_wp2_with fail
  go_ret2
  exact ⟨Or.inr ⟨10, by decide, rfl⟩, Below.refl _ _⟩
end Go.Proofs.YtkocmkaeaagbaaaGreatDoor.Wd
namespace Go.Proofs.YtkocmkaeaagbaaaGreatDoor.Wd
open Go.RowKit Go.Proofs.YtkocmkaeaagbaaaGreatDoor.Mem Go.Proofs.YtkocmkaeaagbaaaGreatDoor.Bw Go.Proofs.YtkocmkaeaagbaaaGreatDoor.Nums Go.Proofs.YtkocmkaeaagbaaaGreatDoor.Mmu
theorem cn_cons (x z : Int) (l : List Int) : cn x (z :: l) = one x z + cn x l := by unfold cn sumOf; simp
theorem len_filt (x : Int) : ∀ l : List Int, l.length = (l.filter fun z => decide (z ≠ x)).length + cn x l
 | [] => rfl
 | z :: l => by
  have ih := len_filt x l
  rw [cn_cons]
  by_cases e : z = x
  ·rw [List.filter_cons_of_neg (by simp [e])]
   unfold one
   rw [if_pos e, List.length_cons]
   omega
  ·rw [List.filter_cons_of_pos (by simp [e])]
   unfold one
   rw [if_neg e, List.length_cons, List.length_cons]
   omega
theorem cn_filt (x y : Int) : ∀ l : List Int, cn y (l.filter fun z => decide (z ≠ x)) ≤ cn y l
 | [] => Nat.le_refl _
 | z :: l => by
  have ih := cn_filt x y l
  rw [cn_cons]
  by_cases e : z = x
  ·rw [List.filter_cons_of_neg (by simp [e])]
   omega
  ·rw [List.filter_cons_of_pos (by simp [e]), cn_cons]
   omega
theorem len_cn : ∀ (k : Nat) (l : List Int), (∀ z ∈ l, ∃ t : Nat, t < k ∧ z = t) → (∀ n : Nat, n < k → cn n l ≤ 1) → l.length ≤ k
 | 0, [], _, _ => Nat.le_refl _
 | 0, z :: l, h, _ => by obtain ⟨t, h1, _⟩ := h z (by simp); omega
 | k + 1, l, h, hc => by
  have h1 := len_filt (k : Int) l
  have h2 := hc k (by omega)
  have h3 := len_cn k (l.filter fun z => decide (z ≠ (k : Int))) (fun z hz => by
   obtain ⟨h4, h5⟩ := List.mem_filter.1 hz
   obtain ⟨t, h6, rfl⟩ := h z h4
   refine ⟨t, ?_, rfl⟩
   have : ¬ ((t : Int) = k) := by simpa using h5
   omega) (fun n hn => Nat.le_trans (cn_filt _ _ _) (hc n (by omega)))
  omega
theorem Bt.next {p : PW} (h : Bt p) : ∀ l ∈ p.ready, l.length ≤ 24 := fun l hl => by
 obtain ⟨j, hj, rfl⟩ := List.getElem_of_mem hl
 have hk := h.lf.k2
 have g : p.ready.getD j [] = p.ready[j] := by rw [List.getD_eq_getElem?_getD, List.getElem?_eq_getElem hj]; rfl
 have mem : ∀ z ∈ p.ready[j], ∃ t : Nat, z = t ∧ p.k t = 6 := fun z hz => by
  obtain ⟨t, h1, h2, _⟩ := h.tsk.rd j z (by rw [g]; exact hz)
  exact ⟨t, h1, h2⟩
 refine len_cn 24 _ (fun z hz => ?_) (fun n hn => ?_)
 ·obtain ⟨t, h1, h2⟩ := mem z hz
  exact ⟨t, by have := k_in (p := p) (f := t) (by omega); omega, h1⟩
 ·by_cases h6 : p.k n = 6
  ·have h1 := h.tsk.rn n h6
   have h2 := cn_cna (n : Int) p.ready j hj
   split at h1 <;> omega
  ·rw [cn_zero (fun hz => by
    obtain ⟨t, h1, h2⟩ := mem _ hz
    have : n = t := by omega
    rw [this] at h6
    exact h6 h2)]
   omega
theorem Bt.fits {p : PW} (h : Bt p) : p.Fits := by
 have l := h.lf
 have a1 := l.k2; have a2 := l.c2; have a3 := l.d2; have a4 := l.ram; have a5 := l.slots; have a6 := l.tasks; have a7 := l.lines; have a8 := l.bits; have a9 := l.ready; have a10 := l.tlbs
 exact ⟨by omega, by omega, by omega, by omega, by omega, fun l hl => by rw [h.tsk.ln l hl]; simp, by omega, by omega, by omega, fun l hl => Nat.le_trans (h.next l hl) (by decide), by omega, by omega⟩
theorem Bt.tlb {p : PW} (h : Bt p) : ∀ l ∈ p.tlbs, l.length ≤ 100 := fun l hl => by rw [h.tsk.tl l hl]; simp
end Go.Proofs.YtkocmkaeaagbaaaGreatDoor.Wd
namespace Go.Proofs.YtkocmkaeaagbaaaGreatDoor.Wd
open Go.RowKit Go.Proofs.YtkocmkaeaagbaaaGreatDoor.Mem Go.Proofs.YtkocmkaeaagbaaaGreatDoor.Bw Go.Proofs.YtkocmkaeaagbaaaGreatDoor.Nums Go.Proofs.YtkocmkaeaagbaaaGreatDoor.Mmu
/-- A world's values are put into a box. -/
theorem InT.re {w w' : World} {tag : Nat → Nat} {t I s wb : Nat} {u : Value} {c : Nat × List Value} (h : InT w tag t I s u c) (ht : t ≠ 0) (h0 : tag wb = 0) (hk : Kp (fun k => k = wb) w w') : InT w' (fun k => if k = wb then 1 else tag k) t I s u c := by
 have ne : ∀ k, u.ownBlock = some k → k ≠ wb := fun k e f => ht (by rw [← h.2 k e, f, h0])
 exact ⟨own_kp h.1 hk ne, fun k e => (if_neg (ne k e)).trans (h.2 k e)⟩
theorem ListT.re {w w' : World} {tag : Nat → Nat} {t i O I s n wb : Nat} {v : Value} {cc : Nat → Nat × List Value} (h : ListT w tag t i O I s n v cc) (ht : t ≠ 0) (hi : i ≠ 0) (h0 : tag wb = 0) (hk : Kp (fun k => k = wb) w w') : ListT w' (fun k => if k = wb then 1 else tag k) t i O I s n v cc := by
 obtain ⟨g, us, h1, h2, h3, h4, h5⟩ := h
 have ne : g ≠ wb := fun f => ht (by rw [← h2, f, h0])
 refine ⟨g, us, h1, (if_neg ne).trans h2, h3, own_kp h4 hk (fun k e => ?_), fun j hj => (h5 j hj).re (by omega) h0 hk⟩
 have : g = k := by simpa [Value.ownBlock] using e
 rw [← this]
 exact ne
theorem WorldT.box {W : World} {tag : Nat → Nat} {X : Nat → Value} {p : PW} {wb : Nat} (h : WorldT W tag X p) (h0 : tag wb = 0) (ht : W.there wb 0 11) : BoxT (W.setCells wb 0 (arr11 X).toList) wb (fun k => if k = wb then 1 else tag k) X p := by
 have hk : Kp (fun k => k = wb) W (W.setCells wb 0 (arr11 X).toList) := Kp.setCells (T := fun k => k = wb) (.inl rfl) _ _ _ (Kp.refl _ _)
 exact ⟨World.rangeAt_setCells_same W wb 0 (arr11 X).toList ht, World.there_setCells ht _ _ _, if_pos rfl, ⟨h.ram.re (by decide) h0 hk, h.kinds.re (by decide) h0 hk, h.slots.re (by decide) h0 hk, h.tasks.re (by decide) h0 hk, h.lines.re (by decide) (by decide) h0 hk, h.bits.re (by decide) h0 hk, h.cores.re (by decide) h0 hk, h.ready.re (by decide) (by decide) h0 hk, h.tlbs.re (by decide) (by decide) h0 hk, h.doms.re (by decide) h0 hk, h.time⟩⟩
theorem InT.one {w : World} {tag : Nat → Nat} {t I s : Nat} {u : Value} {c : Nat × List Value} (h : InT w tag t I s u c) : u.oneCell' = true := by obtain ⟨q, k, e⟩ := own_formN h.1; rw [e]; rfl
theorem ListT.one {w : World} {tag : Nat → Nat} {t i O I s n : Nat} {v : Value} {cc : Nat → Nat × List Value} (h : ListT w tag t i O I s n v cc) : v.oneCell' = true := by obtain ⟨g, us, rfl, _⟩ := h; rfl
theorem WorldT.ones {w : World} {tag : Nat → Nat} {X : Nat → Value} {p : PW} (h : WorldT w tag X p) : (arr11 X).all (·.oneCell') = true := by
 simp only [List.all_toArray, List.all_cons, List.all_nil, Bool.and_true, h.ram.one, h.kinds.one, h.slots.one, h.tasks.one, h.lines.one, h.bits.one, h.cores.one, h.ready.one, h.tlbs.one, h.doms.one, Bool.true_and]
 rw [h.time]; rfl
end Go.Proofs.YtkocmkaeaagbaaaGreatDoor.Wd
namespace Go.Proofs.YtkocmkaeaagbaaaGreatDoor.Wd
open Go.RowKit Go.Proofs.YtkocmkaeaagbaaaGreatDoor.Mem Go.Proofs.YtkocmkaeaagbaaaGreatDoor.Bw Go.Proofs.YtkocmkaeaagbaaaGreatDoor.Nums Go.Proofs.YtkocmkaeaagbaaaGreatDoor.Mmu
end Go.Proofs.YtkocmkaeaagbaaaGreatDoor.Wd
