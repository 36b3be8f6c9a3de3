/- keyholdtop.ok and like, of sound worlds: walked. · Whose turn it is, and who comes next on a core: sched.turn, keyholdref.Turn, sched.next; walked. (Written by mk_pick.py.) · Who comes next on a core, and how it settles: sched.next, sched.settle; walked. (Written by mk_pick2.py.) · How a core settles: sched.settle; walked. (Written by mk_pick3.py.) · How a core settles, by the document: plain facts; keyholdref.Turn, once more. (Written by mk_pick4.py.) -/
import Derived.Test.YtakmaeohhclngaaGreatDoorRbi
import Derived.Test.YtakmaeohhclngaaGreatDoorRat
import Derived.Test.YtakmaeohhclngaaGreatDoorRbg
import Derived.Test.YtakmaeohhclngaaGreatDoorRbh
namespace Go.Proofs.YtakmaeohhclngaaGreatDoor.Wd
open Go.RowKit Go.Proofs.YtakmaeohhclngaaGreatDoor.Mem Go.Proofs.YtakmaeohhclngaaGreatDoor.Bw Go.Proofs.YtakmaeohhclngaaGreatDoor.Nums Go.Proofs.YtakmaeohhclngaaGreatDoor.Mmu Go.Proofs.YtakmaeohhclngaaGreatDoor.Hex Go.Proofs.YtakmaeohhclngaaGreatDoor.Mad
set_option maxRecDepth 100000 in
set_option maxHeartbeats 4000000 in
theorem topOk (V : Nat → Value) (p : PW) (w : World) (hv : WorldV w V p) (hp : p.Fits) (hs : sndB p = true) (hk : 0 < p.kinds.length) :
  Calls Tryz.prog 23 #[.agg (arr11 V)] w fun r w' => r = .returned (.bool true) ∧ Below w.heap.size w w' := by
 have RG := hid (boxed w V 28)
 have B0 := hid (bal (Below.refl w.heap.size w) (.cells (arr11 V) 28))
 have CK := hid (check_any V p _ (hv.below B0.out) hp)
 have HS := hid hs
 obtain ⟨q1, b1, o1, k1, e1, _, _⟩ := hv.kinds
 have E1 := hid e1
 have hk2 : (0 : Int) < (p.kinds.length : Int) := by omega
 clear e1 hv hs
 go_enter Tryz.func23, Tryz.ntmps23
 go_wp2_with (first | ((with_reducible (show wpList _ _ _ (⟨_, Op.load 28 _, _, _, _, _⟩ :: _) _ _)); refine wp_ldW rfl _ rfl w.heap.size rfl V RG.out ?_))
 refine CK.out.mono ?_
 rintro r w1 ⟨x, rfl, hc, hb⟩
 have hx : x = .nilIface := by
  have h0 : (wmA p).1 = 0 := by have := HS.out; unfold sndB at this; simpa using this
  rcases hc with ⟨h, _⟩ | ⟨e, he, _, h⟩ | ⟨e, k, b, he, _, _, _, h⟩
  ·exact h
  ·rw [h] at h0; exact absurd h0 he
  ·rw [h] at h0; exact absurd h0 he
 subst hx
 have c1 : w1.cell? ⟨w.heap.size, 1, none⟩ = some (V 1) := range_cell (range_below RG.out hb) rfl
 rw [E1.out] at c1
 have B1 := hid (btr B0.out hb)
 clear hc hb CK RG B0
 go_wp2_with fail
 go_ret
 exact ⟨rfl, B1.out⟩
set_option maxRecDepth 100000 in
set_option maxHeartbeats 4000000 in
theorem topLike (V U : Nat → Value) (p q : PW) (w : World) (hv : WorldV w V p) (hu : WorldV w U q) (hq : q.Fits) (hs : sndB q = true) (hk : 0 < q.kinds.length) (e1 : q.kinds.length = p.kinds.length) (e6 : q.cores.length = p.cores.length) :
  Calls Tryz.prog 8 #[.agg (arr11 V), .agg (arr11 U)] w fun r w' => r = .returned (.bool true) ∧ Below w.heap.size w w' := by
 have RV := hid (boxed w V 28)
 have B0 := hid (bal (Below.refl w.heap.size w) (.cells (arr11 V) 28))
 have RU := hid (boxed (w.alloc (.cells (arr11 V) 28)) U 28)
 have B1 := hid (bal (Below.refl _ (w.alloc (.cells (arr11 V) 28))) (.cells (arr11 U) 28))
 have SZ := hid (show (w.alloc (.cells (arr11 V) 28)).heap.size = w.heap.size + 1 by simp)
 rw [SZ.out] at RU
 have OK := hid (topOk U q _ ((hu.below B0.out).below B1.out) hq hs hk)
 obtain ⟨q1, b1, o1, k1, v1, _, _⟩ := hv.kinds
 obtain ⟨q6, b6, o6, k6, v6, _, _⟩ := hv.cores
 obtain ⟨q2, b2, o2, k2, u1, _, _⟩ := hu.kinds
 obtain ⟨q7, b7, o7, k7, u6, _, _⟩ := hu.cores
 rw [e1] at u1
 rw [e6] at u6
 have EV1 := hid v1
 have EV6 := hid v6
 have EU1 := hid u1
 have EU6 := hid u6
 clear v1 v6 u1 u6 e1 e6 hv hu hs hk
 go_enter Tryz.func8, Tryz.ntmps8
 go_wp2_with (first | ((with_reducible (show wpList _ _ _ (⟨_, Op.load 28 _, _, _, _, _⟩ :: _) _ _)); refine wp_ldW rfl _ rfl (w.heap.size + 1) rfl U RU.out ?_))
 refine OK.out.mono ?_
 rintro r w1 ⟨rfl, hb⟩
 have c1 : w1.cell? ⟨w.heap.size, 1, none⟩ = some (V 1) := range_cell (range_below (range_below RV.out B1.out) hb) rfl
 have c6 : w1.cell? ⟨w.heap.size, 6, none⟩ = some (V 6) := range_cell (range_below (range_below RV.out B1.out) hb) rfl
 have d1 : w1.cell? ⟨w.heap.size + 1, 1, none⟩ = some (U 1) := range_cell (range_below RU.out hb) rfl
 have d6 : w1.cell? ⟨w.heap.size + 1, 6, none⟩ = some (U 6) := range_cell (range_below RU.out hb) rfl
 rw [EV1.out] at c1
 rw [EV6.out] at c6
 rw [EU1.out] at d1
 rw [EU6.out] at d6
 have B2 := hid (btr B0.out (btr B1.out hb))
 clear hb OK RV RU B0 B1
 go_wp2_with fail
 go_ret
 exact ⟨rfl, B2.out⟩
end Go.Proofs.YtakmaeohhclngaaGreatDoor.Wd
namespace Go.Proofs.YtakmaeohhclngaaGreatDoor.Wd
open Go.RowKit Go.Proofs.YtakmaeohhclngaaGreatDoor.Mem Go.Proofs.YtakmaeohhclngaaGreatDoor.Bw Go.Proofs.YtakmaeohhclngaaGreatDoor.Nums Go.Proofs.YtakmaeohhclngaaGreatDoor.Mmu
/-- The domain whose turn it is. -/
def tnV (p : PW) : Int := p.doms.getD ((p.time / 4) % (p.doms.length : Int)).toNat 0
def dmB (p : PW) (m x : Int) : Bool := p.tasks.getD x.toNat bl 19 == m
set_option maxRecDepth 100000 in
set_option maxHeartbeats 4000000 in
theorem turn_any (wb : Nat) (tag : Nat → Nat) (V : Nat → Value) (p : PW) (W : World) (bt : BoxT W wb tag V p) (hp : p.Fits) (hs1 : 1 ≤ p.doms.length) (hs2 : 0 ≤ p.time ∧ p.time ≤ 1000000) :
  Calls Tryz.prog 54 #[.pointer (some ⟨wb, 0, none⟩)] W fun r W' => r = .returned (.int .i64 (tnV p)) ∧ Below W.heap.size W W' := by
 have c10 : W.cell? ⟨wb, 10, none⟩ = some (.int .i64 p.time) := by rw [range_cell bt.r (k := 10) rfl, bt.o.time]
 obtain ⟨g9, cap9, e9⟩ := bt.o.doms.form (by omega)
 have c9 : W.cell? ⟨wb, 9, none⟩ = some (.slice (some ⟨g9, 0, none⟩) p.doms.length cap9) := by rw [range_cell bt.r (k := 9) rfl, e9]
 have hd := bt.o.doms
 rw [e9] at hd
 have hl9 : (p.doms.length : Int) ≤ 1000 := by have := hp.doms; omega
 have hq : (p.time).tdiv 4 = p.time / 4 := Int.tdiv_eq_ediv_of_nonneg (by omega)
 have hr : (p.time / 4).tmod (p.doms.length : Int) = (p.time / 4) % (p.doms.length : Int) := Int.tmod_eq_emod_of_nonneg (by omega)
 have hm0 : 0 ≤ (p.time / 4) % (p.doms.length : Int) := Int.emod_nonneg _ (by omega)
 have hm1 : (p.time / 4) % (p.doms.length : Int) < (p.doms.length : Int) := Int.emod_lt_of_pos _ (by omega)
 obtain ⟨j, hj⟩ : ∃ j : Nat, (p.time / 4) % (p.doms.length : Int) = j := ⟨((p.time / 4) % (p.doms.length : Int)).toNat, by omega⟩
 have hjl : j < p.doms.length := by omega
 have hj2 : (j : Int) < (p.doms.length : Int) := by omega
 have xj := hd.int hjl
 have HE := hid (show tnV p = p.doms[j] by unfold tnV; rw [hj, Int.toNat_natCast, List.getD_eq_getElem?_getD, List.getElem?_eq_getElem hjl, Option.getD_some])
 generalize p.doms[j] = y at xj HE
 rw [hj] at hr
 have hz : ((p.doms.length : Int) == 0) = false := by simpa using show ¬ ((p.doms.length : Int) = 0) by omega
 have hzn : ¬ ((p.doms.length : Int) = 0) := by omega
 have hb1 : 0 ≤ p.time / 4 := by omega
 have hb2 : p.time / 4 ≤ 250000 := by omega
 generalize p.time / 4 = q4 at *
 clear bt hp e9 hd hs1 hm0 hm1 hj hjl
 go_enter Tryz.func54, Tryz.ntmps54
 go_upto_region 1 with fail
 go_quiet (fail)
 have BS := hid (below_drewN (Below.refl W.heap.size W) nq)
 generalize World.drewN _ _ = W1 at BS ⊢
 go_wp2_with fail
 go_ret
 exact ⟨by rw [HE.out]; rfl, BS.out⟩
set_option maxRecDepth 100000 in
set_option maxHeartbeats 4000000 in
theorem isTurn (wb : Nat) (tag : Nat → Nat) (V : Nat → Value) (p : PW) (x : Nat) (m : Int) (cw cd : Nat) (W : World) (bt : BoxT W wb tag V p) (hp : p.Fits) (hx : x < p.tasks.length) (h1 : W.cell? ⟨cw, 0, none⟩ = some (.pointer (some ⟨wb, 0, none⟩))) (h2 : W.cell? ⟨cd, 0, none⟩ = some (.int .i64 m)) :
  Calls Tryz.prog 55 #[.int .i64 x, .pointer (some ⟨cw, 0, none⟩), .pointer (some ⟨cd, 0, none⟩)] W fun r W' => r = .returned (.bool (dmB p m x)) ∧ Below W.heap.size W W' := by
 have hl3 : (p.tasks.length : Int) ≤ 1000 := by have := hp.tasks; omega
 have hx2 : (x : Int) < (p.tasks.length : Int) := by omega
 obtain ⟨g3, cap3, e3⟩ := bt.o.tasks.form (by omega)
 have c3 : W.cell? ⟨wb, 3, none⟩ = some (.slice (some ⟨g3, 0, none⟩) p.tasks.length cap3) := by rw [range_cell bt.r (k := 3) rfl, e3]
 have x9 := bt.taskAt e3 hx (show 19 < 20 by omega)
 have HE := hid (show dmB p m x = (p.tasks.getD x bl 19 == m) by unfold dmB; rw [Int.toNat_natCast])
 generalize p.tasks.getD x bl 19 = y at x9 HE
 clear bt hp hx e3
 by_cases hy : y = m
 ·subst hy
  rw [beq_self_eq_true] at HE
  go_enter Tryz.func55, Tryz.ntmps55
  go_upto_region 1 with fail
  go_quiet (fail)
  have BS := hid (below_drewN (Below.refl W.heap.size W) nq)
  generalize World.drewN _ _ = W1 at BS ⊢
  go_wp2_with fail
  go_ret
  exact ⟨by rw [HE.out]; first | rfl | simp, BS.out⟩
 ·have hyb : (y == m) = false := by simpa using hy
  rw [hyb] at HE
  go_enter Tryz.func55, Tryz.ntmps55
  go_upto_region 1 with fail
  go_quiet (fail)
  have BS := hid (below_drewN (Below.refl W.heap.size W) nq)
  generalize World.drewN _ _ = W1 at BS ⊢
  go_wp2_with fail
  go_ret
  exact ⟨by rw [HE.out]; first | rfl | simp [hy], BS.out⟩
set_option maxRecDepth 100000 in
set_option maxHeartbeats 4000000 in
theorem index_turn (wb : Nat) (tag : Nat → Nat) (V : Nat → Value) (p : PW) (m : Int) (cw cd : Nat) (v : Value) (l : List Int) (w : World) (bt : BoxT w wb tag V p) (hp : p.Fits) (hv : IntsIn w v l) (hl : l.length ≤ 1000) (hz : ∀ z ∈ l, 0 ≤ z ∧ z < (p.tasks.length : Int)) (h1 : w.cell? ⟨cw, 0, none⟩ = some (.pointer (some ⟨wb, 0, none⟩))) (h2 : w.cell? ⟨cd, 0, none⟩ = some (.int .i64 m)) :
  Calls Tryz.prog 97 #[v, .func (.func 55) #[] #[.pointer (some ⟨cw, 0, none⟩), .pointer (some ⟨cd, 0, none⟩)]] w fun r w' => r = .returned (.int .i64 (ixP (dmB p m) l)) ∧ Below w.heap.size w w' := by
 have HV := hid hv
 obtain ⟨q, b, off, cap, rfl, hq, -⟩ := hv
 have hl2 : (l.length : Int) ≤ 1000 := by omega
 have HQ := hid hq
 have HT := hid (fun X (h : Below w.heap.size w X) (y : Int) (hy : y ∈ l) => show Calls Tryz.prog 55 #[.int .i64 y, .pointer (some ⟨cw, 0, none⟩), .pointer (some ⟨cd, 0, none⟩)] X fun r W' => r = .returned (.bool (dmB p m y)) ∧ Below X.heap.size X W' by
  obtain ⟨y', rfl⟩ : ∃ y' : Nat, y = y' := ⟨y.toNat, by have := (hz y hy).1; omega⟩
  exact isTurn wb tag V p y' m cw cd X (bt.below h) hp (by have := (hz _ hy).2; omega) ((h.cell (World.block_lt_of_cell? _ _ h1)).trans h1) ((h.cell (World.block_lt_of_cell? _ _ h2)).trans h2))
 clear bt hp hq hz h1 h2
 go_enter Tryz.func97, Tryz.ntmps97
 go_wp2_with fail
 go_loopw [8] (fun i wr => ∃ (k : Nat), k ≤ l.length ∧ i = .int .i64 k ∧ Hid (Below w.heap.size w wr ∧ ∀ j (hj : j < l.length), j < k → dmB p m l[j] = false)) (fun i _ => l.length - (intOf i).toNat)
 case atStart => exact ⟨0, by omega, rfl, hid ⟨Below.refl _ _, fun j _ h => by omega⟩⟩
 case round =>
  obtain ⟨k, hk, rfl, HH⟩ := hrel
  have BB := hid HH.out.1
  have HN := hid HH.out.2
  clear HH
  by_cases hlt : k < l.length
  ·have hlt2 : (k : Int) < (l.length : Int) := by omega
   have hqe := HQ.out (by omega)
   subst hqe
   obtain ⟨q2, b2, off2, cap2, e2, hq2, hz2⟩ := HV.out.below BB.out
   have ck := hz2 k hlt
   have e3 := hq2 (by omega)
   subst e3
   cases e2
   have HM := hid (List.getElem_mem hlt)
   obtain ⟨y, hy⟩ : ∃ y, l[k] = y := ⟨_, rfl⟩
   rw [hy] at ck HM
   have HY := hid hy
   clear hy hz2 hq2
   go_wp2_with fail
   refine (HT.out _ BB.out y HM.out).mono ?_
   rintro r w1 ⟨rfl, hb⟩
   have B2 := hid (btr BB.out hb)
   clear hb
   cases hyt : dmB p m y with
   | true =>
    have HX := hid (show ixP (dmB p m) l = k by
     have h1 : l.findIdx (dmB p m) = k := by
      rw [List.findIdx_eq hlt]
      exact ⟨by rw [HY.out]; exact hyt, fun j hj => HN.out j (by omega) hj⟩
     unfold ixP
     rw [h1, if_pos hlt])
    go_wp2_with fail
    go_ret
    exact ⟨by rw [HX.out]; rfl, B2.out⟩
   | false =>
    have HN2 := hid (show Below w.heap.size w w1 ∧ ∀ j (hj : j < l.length), j < k + 1 → dmB p m l[j] = false from ⟨B2.out, fun j hj h => by
     by_cases e : j = k
     ·subst e
      rw [HY.out]
      exact hyt
     ·exact HN.out j hj (by omega)⟩)
    go_wp2_with fail
    exact ⟨⟨k + 1, by omega, by go_num, HN2⟩, by simp [intOf]; omega⟩
  ·obtain rfl : k = l.length := by omega
   have hge : ¬ ((l.length : Int) < (l.length : Int)) := by omega
   have HX := hid (show ixP (dmB p m) l = -1 by
    unfold ixP
    rw [if_neg]
    intro h
    have h2 := List.findIdx_getElem (w := h)
    have h3 := HN.out _ h h
    rw [h3] at h2
    cases h2)
   go_wp2_with fail
   go_ret
   exact ⟨by rw [HX.out]; rfl, BB.out⟩
/-- Who comes next: of k priorities. -/
def nxR (p : PW) (m : Int) (c : Nat) : Nat → Int
 | 0 => -1
 | k + 1 => if 0 ≤ ixP (dmB p m) (p.ready.getD (c * 4 + k) []) then (p.ready.getD (c * 4 + k) []).getD (ixP (dmB p m) (p.ready.getD (c * 4 + k) [])).toNat 0 else nxR p m c k
theorem ix_lt {α : Type} {f : α → Bool} {l : List α} (h : 0 ≤ ixP f l) : ∃ i : Nat, ixP f l = i ∧ i < l.length := by
 unfold ixP at h ⊢
 by_cases h1 : l.findIdx f < l.length
 ·rw [if_pos h1]
  exact ⟨_, rfl, h1⟩
 ·rw [if_neg h1] at h
  omega
set_option maxRecDepth 100000 in
set_option maxHeartbeats 4000000 in
theorem next_any (wb : Nat) (tag : Nat → Nat) (V : Nat → Value) (p : PW) (m : Int) (cw cd c : Nat) (W : World) (bt : BoxT W wb tag V p) (hp : p.Fits) (hc : c * 4 + 4 ≤ p.ready.length) (hz : ∀ l ∈ p.ready, ∀ z ∈ l, 0 ≤ z ∧ z < (p.tasks.length : Int)) (h1 : W.cell? ⟨cw, 0, none⟩ = some (.pointer (some ⟨wb, 0, none⟩))) (h2 : W.cell? ⟨cd, 0, none⟩ = some (.int .i64 m)) :
  Calls Tryz.prog 56 #[.pointer (some ⟨wb, 0, none⟩), .int .i64 c, .func (.func 55) #[] #[.pointer (some ⟨cw, 0, none⟩), .pointer (some ⟨cd, 0, none⟩)]] W fun r W' => r = .returned (.int .i64 (nxR p m c 4)) ∧ Below W.heap.size W W' := by
 have hlr : (p.ready.length : Int) ≤ 1000 := by have := hp.ready; omega
 have hc2 : (c : Int) ≤ 1000 := by omega
 obtain ⟨gR, eR⟩ := bt.o.ready.form
 have ER := hid eR
 have BT := hid bt
 have HIX := hid (fun X (h : Below W.heap.size W X) (v : Value) (n : Nat) (hn : n < p.ready.length) (hv : IntsIn X v (p.ready.getD n [])) => index_turn wb tag V p m cw cd v (p.ready.getD n []) X (bt.below h) hp hv (by rw [List.getD_eq_getElem?_getD, List.getElem?_eq_getElem hn]; exact hp.next _ (List.getElem_mem hn)) (by rw [List.getD_eq_getElem?_getD, List.getElem?_eq_getElem hn]; exact hz _ (List.getElem_mem hn)) ((h.cell (World.block_lt_of_cell? _ _ h1)).trans h1) ((h.cell (World.block_lt_of_cell? _ _ h2)).trans h2))
 have HLE := hid (fun (n : Nat) (hn : n < p.ready.length) => show (p.ready.getD n []).length ≤ 1000 by rw [List.getD_eq_getElem?_getD, List.getElem?_eq_getElem hn]; exact hp.next _ (List.getElem_mem hn))
 clear bt hp hz h1 h2 eR
 go_enter Tryz.func56, Tryz.ntmps56
 go_wp2_with fail
 go_loopw [7] (fun i wr => ∃ (k : Nat) (x : Int), k ≤ 4 ∧ Hid (x = (k : Int) - 1) ∧ i = .int .i64 x ∧ Hid (Below W.heap.size W wr ∧ nxR p m c 4 = nxR p m c k)) (fun i _ => (intOf i + 1).toNat)
 case atStart => exact ⟨4, 3, by omega, hid rfl, rfl, hid ⟨Below.refl _ _, rfl⟩⟩
 case round =>
  obtain ⟨k, x, hk, HX, rfl, HH⟩ := hrel
  have BB := hid HH.out.1
  have HV := hid HH.out.2
  clear HH
  by_cases h0 : 0 ≤ x
  ·obtain ⟨j, rfl⟩ : ∃ j : Nat, x = j := ⟨x.toNat, by omega⟩
   obtain rfl : k = j + 1 := by have := HX.out; omega
   obtain ⟨n, hn⟩ : ∃ n : Nat, c * 4 + j = n := ⟨_, rfl⟩
   have hcp : (c : Int) * 4 + (j : Int) = (n : Int) := by omega
   have hnl : n < p.ready.length := by omega
   have hn2 : (n : Int) < (p.ready.length : Int) := by omega
   have HNL := hid hnl
   have HVJ := hid (show nxR p m c 4 = if 0 ≤ ixP (dmB p m) (p.ready.getD n []) then (p.ready.getD n []).getD (ixP (dmB p m) (p.ready.getD n [])).toNat 0 else nxR p m c j by rw [HV.out, ← hn]; rfl)
   have hLR := (BT.out.below BB.out).o.ready
   rw [ER.out] at hLR
   obtain ⟨u, cu, hu⟩ := hLR.at hnl
   unfold ci at hu
   have hui := own_ints hu.1
   have HUI := hid hui
   obtain ⟨qu, bu, ou, capu, rfl, hqu, hzu⟩ := hui
   have c7 : wr.cell? ⟨wb, 7, none⟩ = some (.slice (some ⟨gR, 0, none⟩) p.ready.length p.ready.length) := by rw [range_cell (BT.out.below BB.out).r (k := 7) rfl, ER.out]
   have hj4 : (j : Int) ≤ 3 := by omega
   have HLL := hid (HLE.out n hnl)
   have HQ := hid hqu
   have HC := hid (HIX.out _ BB.out _ n hnl HUI.out)
   generalize hll : p.ready.getD n [] = l at *
   clear hu hqu hzu hLR hnl hn hll
   go_wp2_with fail
   refine HC.out.mono ?_
   rintro r w1 ⟨rfl, hb⟩
   have B2 := hid (btr BB.out hb)
   by_cases hi : 0 ≤ ixP (dmB p m) l
   ·obtain ⟨i, hi1, hi2⟩ := ix_lt hi
    have HR := hid (show nxR p m c 4 = l[i] by rw [HVJ.out, if_pos hi, hi1, Int.toNat_natCast, List.getD_eq_getElem?_getD, List.getElem?_eq_getElem hi2, Option.getD_some])
    have hi3 : (i : Int) < (l.length : Int) := by omega
    have hll3 : (l.length : Int) ≤ 1000 := by have := HLL.out; omega
    obtain ⟨q2, b2, o2, cap2, e2, hq2, hz2⟩ := HUI.out.below hb
    cases e2
    have h3 := hq2 (by omega)
    subst h3
    have ck := hz2 i hi2
    rw [hi1]
    generalize l[i] = y at ck HR
    clear hi hi1 hi2 hq2 hz2 hb
    go_wp2_with fail
    go_ret
    exact ⟨by rw [HR.out]; rfl, B2.out⟩
   ·have hi1 : ¬ (0 ≤ ixP (dmB p m) l) := hi
    have HR := hid (show Below W.heap.size W w1 ∧ nxR p m c 4 = nxR p m c j from ⟨B2.out, by rw [HVJ.out, if_neg hi]⟩)
    generalize ixP (dmB p m) l = ix at hi1
    clear hb hi
    go_wp2_with fail
    exact ⟨⟨j, (j : Int) - 1, by omega, hid rfl, by go_num, HR⟩, by simp [intOf]⟩
  ·have hx0 : ¬ (0 ≤ x) := h0
   obtain rfl : k = 0 := by have := HX.out; omega
   have HR := hid (show nxR p m c 4 = -1 by rw [HV.out]; rfl)
   clear HX HV h0
   go_wp2_with fail
   go_ret
   exact ⟨by rw [HR.out]; rfl, BB.out⟩
theorem lvs_le {t : Int} {ls : List (List Int)} {n : Nat} (h : ∀ l ∈ ls, l.length ≤ n) : ∀ l ∈ lvs t ls, l.length ≤ n := fun l hl => by
 unfold lvs at hl
 obtain ⟨l0, h2, rfl⟩ := List.mem_map.1 hl
 exact Nat.le_trans (List.length_filter_le _ _) (h l0 h2)
theorem push_le {ls : List (List Int)} {k : Nat} {x : Int} {n : Nat} (h : ∀ l ∈ ls, l.length ≤ n) : ∀ l ∈ ls.set k (ls.getD k [] ++ [x]), l.length ≤ n + 1 := fun l hl => by
 rcases List.mem_or_eq_of_mem_set hl with h1 | h1
 ·exact Nat.le_trans (h l h1) (Nat.le_succ _)
 ·rw [h1, List.length_append, List.getD_eq_getElem?_getD]
  cases e : ls[k]? with
  | none => simp
  | some l0 => exact Nat.succ_le_succ (h l0 (List.mem_of_getElem? e))
theorem task_fits {p : PW} (h : p.Fits) (t k : Nat) (x : Int) : (p.task t k x).Fits := ⟨h.ram, h.kinds, h.slots, by rw [PW.task_len]; exact h.tasks, h.lines, h.line, h.bits, h.cores, h.ready, h.next, h.tlbs, h.doms⟩
theorem lv_fits {p : PW} (h : p.Fits) (t : Nat) : (lvP p t).Fits :=
 ⟨h.ram, h.kinds, h.slots, (task_fits h t 14 (-1)).tasks, by show (lvs t p.lines).length ≤ 1000; rw [lvs_len]; exact h.lines, lvs_le h.line, h.bits, by show (p.cores.map (noT t)).length ≤ 1000; rw [List.length_map]; exact h.cores, by show (lvs t p.ready).length ≤ 1000; rw [lvs_len]; exact h.ready, lvs_le h.next, h.tlbs, h.doms⟩
theorem wk_fits {p : PW} (h : p.Fits) (hs : ∀ l ∈ p.ready, l.length ≤ 50) (t n : Nat) : (wkP p t n).Fits :=
 have h1 := task_fits (lv_fits h t) t 9 1
 ⟨h.ram, h.kinds, h.slots, h1.tasks, h1.lines, h1.line, h.bits, h1.cores, by show ((lvs t p.ready).set n _).length ≤ 1000; rw [List.length_set]; exact h1.ready, fun l hl => Nat.le_trans (push_le (lvs_le hs) l hl) (by omega), h.tlbs, h.doms⟩
theorem BoxT.coresAt {W : World} {wb : Nat} {tag : Nat → Nat} {V : Nat → Value} {p : PW} (h : BoxT W wb tag V p) {g cap : Nat} (e : V 6 = .slice (some ⟨g, 0, none⟩) p.cores.length cap) {i : Nat} (hi : i < p.cores.length) : W.cell? ⟨g, i, none⟩ = some (.int .i64 (p.cores.getD i (-1))) ∧ W.frozen? ⟨g, i, none⟩ = false := by
 have h2 := h.o.cores
 rw [e] at h2
 exact ⟨by rw [h2.int hi, List.getD_eq_getElem?_getD, List.getElem?_eq_getElem hi, Option.getD_some], h2.frozen i⟩
theorem BoxT.retag {W : World} {wb : Nat} {tag : Nat → Nat} {V : Nat → Value} {p : PW} (h : BoxT W wb tag V p) (x : Nat) : BoxT W wb (tagN tag W.heap.size x) V p ∧ Kt tag (tagN tag W.heap.size x) W W :=
 ⟨h.kp (T := fun _ => False) (Kp.refl _ _) (fun _ _ e => e.elim) (fun _ hk => tagN_lt hk), Kt.of (T := fun _ => False) (Kp.refl _ _) (fun _ e => e.elim) (fun _ hk => tagN_lt hk)⟩
/-- The next one comes. -/
def snx (q : PW) (m : Int) (c : Nat) : PW := if nxR q m c 4 = -1 then q else { lvP q (nxR q m c 4).toNat with cores := (lvP q (nxR q m c 4).toNat).cores.set c (nxR q m c 4) }
/-- A core settles. -/
def slP (p : PW) (c : Nat) : PW := if p.cores.getD c (-1) = -1 then snx p (tnV p) c else if dmB p (tnV p) (p.cores.getD c (-1)) then p else snx (wkP p (p.cores.getD c (-1)).toNat (rdN p (p.cores.getD c (-1)).toNat)) (tnV p) c
theorem nx_in {q : PW} {m : Int} {c : Nat} (hz : ∀ l ∈ q.ready, ∀ z ∈ l, 0 ≤ z ∧ z < (q.tasks.length : Int)) : ∀ k, nxR q m c k = -1 ∨ ∃ u : Nat, nxR q m c k = u ∧ u < q.tasks.length
 | 0 => .inl rfl
 | k + 1 => by
  unfold nxR
  split
  ·rename_i h
   obtain ⟨i, h1, h2⟩ := ix_lt h
   rw [h1, Int.toNat_natCast]
   right
   rw [List.getD_eq_getElem?_getD (l := q.ready.getD (c * 4 + k) []), List.getElem?_eq_getElem h2, Option.getD_some]
   have h3 := List.getElem_mem h2
   generalize (q.ready.getD (c * 4 + k) [])[i] = y at h3
   rw [List.getD_eq_getElem?_getD] at h3
   cases e : q.ready[c * 4 + k]? with
   | none => rw [e] at h3; cases h3
   | some l =>
    rw [e, Option.getD_some] at h3
    have h4 := hz l (List.mem_of_getElem? e) y h3
    exact ⟨y.toNat, by omega, by omega⟩
  ·exact nx_in hz k
theorem rd_in {p : PW} (h : Snd p) : ∀ l ∈ p.ready, ∀ z ∈ l, 0 ≤ z ∧ z < (p.tasks.length : Int) := by
 intro l hl z hz
 obtain ⟨n, hn, rfl⟩ := List.mem_iff_getElem.1 hl
 have h1 : brB p n p.ready[n] = false := h.b8 n hn
 unfold brB at h1
 rw [List.any_eq_false] at h1
 have h2 := h1 z hz
 have h3 : rpB p z ((n : Int) / 4) ((n : Int) % 4) = true := by simpa using h2
 unfold rpB rdB at h3
 rw [Bool.and_eq_true, Bool.and_eq_true] at h3
 have h4 := h3.1.1
 unfold isB kindAt at h4
 by_cases h0 : 0 ≤ z
 ·rw [if_pos h0] at h4
  have h5 := eq_of_beq h4
  obtain ⟨ht, _⟩ := List.getElem?_eq_some_iff.1 h5
  rw [h.lf.tasks]
  omega
 ·rw [if_neg h0] at h4
  cases h4
theorem co_in {p : PW} (h : Snd p) {c : Nat} (hc : c < p.cores.length) : p.cores.getD c (-1) = -1 ∨ ∃ (t : Nat) (ht : t < p.kinds.length), p.cores.getD c (-1) = t ∧ p.kinds[t] = 6 := by
 rw [List.getD_eq_getElem?_getD, List.getElem?_eq_getElem hc, Option.getD_some]
 have h1 : bcB p c p.cores[c] = false := h.b7 c hc
 generalize p.cores[c] = z at h1 ⊢
 unfold bcB at h1
 by_cases hz : z = -1
 ·exact .inl hz
 ·right
  rw [show (z == -1) = false by simpa using hz, Bool.not_false, Bool.true_and, Bool.not_eq_false'] at h1
  unfold rdB at h1
  rw [Bool.and_eq_true] at h1
  have h4 := h1.1
  unfold isB kindAt at h4
  by_cases h0 : 0 ≤ z
  ·rw [if_pos h0] at h4
   have h5 := eq_of_beq h4
   obtain ⟨ht, h6⟩ := List.getElem?_eq_some_iff.1 h5
   exact ⟨z.toNat, ht, by omega, h6⟩
  ·rw [if_neg h0] at h4
   cases h4
theorem wk_in {p : PW} {t : Nat} (n : Nat) (ht : t < p.tasks.length) (hz : ∀ l ∈ p.ready, ∀ z ∈ l, 0 ≤ z ∧ z < (p.tasks.length : Int)) : ∀ l ∈ (wkP p t n).ready, ∀ z ∈ l, 0 ≤ z ∧ z < ((wkP p t n).tasks.length : Int) := by
 have hlen : (wkP p t n).tasks.length = p.tasks.length := by
  show (((p.task t 14 (-1)).tasks.set t _).length) = _
  rw [List.length_set, PW.task_len]
 have hg : ∀ l ∈ lvs (t : Int) p.ready, ∀ z ∈ l, 0 ≤ z ∧ z < (p.tasks.length : Int) := by
  intro l hl z h1
  unfold lvs at hl
  obtain ⟨l0, h2, rfl⟩ := List.mem_map.1 hl
  exact hz l0 h2 z (List.mem_filter.1 h1).1
 rw [hlen]
 intro l hl z h1
 have hl2 : l ∈ (lvs (t : Int) p.ready).set n ((lvs (t : Int) p.ready).getD n [] ++ [(t : Int)]) := hl
 rcases List.mem_or_eq_of_mem_set hl2 with h2 | rfl
 ·exact hg l h2 z h1
 ·rcases List.mem_append.1 h1 with h2 | h2
  ·rw [List.getD_eq_getElem?_getD] at h2
   cases e : (lvs (t : Int) p.ready)[n]? with
   | none => rw [e] at h2; cases h2
   | some y =>
    rw [e, Option.getD_some] at h2
    exact hg y (List.mem_of_getElem? e) z h2
  ·rw [List.mem_singleton] at h2
   omega
set_option maxRecDepth 100000 in
set_option maxHeartbeats 4000000 in
theorem settle_any (wb : Nat) (tag : Nat → Nat) (V : Nat → Value) (p : PW) (c : Nat) (W : World) (bt : BoxT W wb tag V p) (hp : p.Fits) (hn : ∀ l ∈ p.ready, l.length ≤ 50) (hs : Snd p) (hc : c < p.cores.length) :
  Calls Tryz.prog 22 #[.pointer (some ⟨wb, 0, none⟩), .int .i64 c] W fun r W' => r = .returned (.tuple #[]) ∧ ∃ tag', BoxT W' wb tag' V (slP p c) ∧ Kt tag tag' W W' := by
 have hl6 : (p.cores.length : Int) ≤ 1000 := by have := hp.cores; omega
 have hc2 : (c : Int) < (p.cores.length : Int) := by omega
 obtain ⟨g6, cap6, e6⟩ := bt.o.cores.form (by omega)
 have E6 := hid e6
 obtain ⟨br, kr⟩ := bt.retag 0
 have BR := hid br
 have KR := hid kr
 have HTN := hid (turn_any wb (tagN tag W.heap.size 0) V p (W.alloc (.cells #[.pointer (some ⟨wb, 0, none⟩)] 52)) (br.below (bal (Below.refl W.heap.size W) (.cells #[.pointer (some ⟨wb, 0, none⟩)] 52))) hp hs.lf.d1 (by have h := hs.tm; unfold within at h; simpa using h))
 have CW0 := hid (cells_new W #[.pointer (some ⟨wb, 0, none⟩)] 52 0)
 obtain ⟨m, hm⟩ : ∃ m, tnV p = m := ⟨_, rfl⟩
 rw [hm] at HTN
 have HRL := hid (show c * 4 + 4 ≤ p.ready.length by rw [hs.lf.ready]; omega)
 have HIP := hid (rd_in hs)
 rcases co_in hs hc with hz | ⟨t, ht, hz, hk⟩
 ·have HSL := hid (show slP p c = snx p m c by unfold slP; rw [if_pos hz, hm])
  have HM1 := hid hz
  have HFQ := hid hp
  have HRQ := HRL
  have HIQ := HIP
  have HEQ := E6
  have HCQ := hid hc
  clear bt hp hn hs hc hz hm br kr e6 HRL HIP
  go_enter Tryz.func22, Tryz.ntmps22
  go_wp2_with fail
  refine HTN.out.mono ?_
  rintro r w1 ⟨rfl, hb⟩
  have zw0 := (hb.cell (World.block_lt_of_cell? _ _ CW0.out)).trans CW0.out
  have BB := hid (btr (bal (Below.refl W.heap.size W) (.cells #[.pointer (some ⟨wb, 0, none⟩)] 52)) hb)
  have SZ := hid (show W.heap.size ≤ w1.heap.size from BB.out.size)
  have BL := hid (show Below w1.heap.size w1 (w1.alloc (.cells #[.int .i64 m] 3)) from bal (Below.refl w1.heap.size w1) (.cells #[.int .i64 m] 3))
  have HC := hid (show CapsT [(W.heap.size, .pointer (some ⟨wb, 0, none⟩)), (w1.heap.size, .int .i64 m)] (tagN tag W.heap.size 0) (w1.alloc (.cells #[.int .i64 m] 3)) from fun x hx => by
   simp only [List.mem_cons, List.not_mem_nil, or_false] at hx
   rcases hx with rfl | rfl
   ·exact ⟨(BL.out.cell (World.block_lt_of_cell? _ _ zw0)).trans zw0, by unfold tagN; rw [if_neg (Nat.lt_irrefl _)]⟩
   ·exact ⟨cells_new w1 #[.int .i64 m] 3 0, by unfold tagN; rw [if_neg (by have := SZ.out; omega)]⟩)
  have B2 := hid ((BR.out.below BB.out).below BL.out)
  have K00 := hid (KR.out.trans (.below (btr BB.out BL.out)))
  clear hb HTN CW0
  go_upto_region 2 with fail
  generalize tagN tag W.heap.size 0 = tg at *
  generalize World.alloc _ _ = w2 at *
  generalize hcd : w1.heap.size = cd at *
  clear zw0 BB SZ BL hcd
  generalize hcw : W.heap.size = cw at HC ⊢
  clear hcw
  have K0 := hid (Kt.refl tg w2)
  have c6 : w2.cell? ⟨wb, 6, none⟩ = some (.slice (some ⟨g6, 0, none⟩) p.cores.length cap6) := by rw [range_cell B2.out.r (k := 6) rfl, E6.out]
  have x6 : w2.cell? ⟨g6, c, none⟩ = some (.int .i64 (-1)) := by rw [(B2.out.coresAt HEQ.out HCQ.out).1, HM1.out]
  have zw := (HC.out.kt K0.out (cw, .pointer (some ⟨wb, 0, none⟩)) (by simp)).1
  have zd := (HC.out.kt K0.out (cd, .int .i64 m) (by simp)).1
  have HNX := hid (next_any wb tg V p m cw cd c w2 B2.out HFQ.out HRQ.out HIQ.out zw zd)
  rcases nx_in (q := p) (m := m) (c := c) HIQ.out 4 with hnx | ⟨u, hnx, hut⟩
  ·have HR := hid (show snx (p) m c = p from if_pos hnx)
   rw [hnx] at HNX
   clear hnx
   go_wp2_with fail
   refine HNX.out.mono ?_
   rintro r Y ⟨rfl, hb⟩
   have BY := hid (B2.out.below hb)
   have KY := hid (K0.out.trans (.below hb))
   clear hb HNX zw zd c6 x6
   go_wp2_with fail
   exact bodyPost_end (results_none rfl _ _ _) rfl ⟨rfl, tg, by rw [HSL.out, HR.out]; exact BY.out, K00.out.trans KY.out⟩
  ·have HR := hid (show snx (p) m c = { lvP (p) u with cores := (lvP (p) u).cores.set c u } by unfold snx; rw [hnx, if_neg (by omega), Int.toNat_natCast])
   rw [hnx] at HNX
   have hun : ¬ ((u : Int) = -1) := by omega
   have hub : ((u : Int) == -1) = false := by simp
   have HLV := hid (fun X (h : BoxT X wb tg V (p)) => leaveW_any wb tg V (p) u X h HFQ.out hut)
   clear hnx hut
   go_wp2_with fail
   refine HNX.out.mono ?_
   rintro r Y ⟨rfl, hb⟩
   have BY := hid (B2.out.below hb)
   have KY := hid (K0.out.trans (.below hb))
   clear hb HNX zw zd c6 x6
   have zw := (HC.out.kt KY.out (cw, .pointer (some ⟨wb, 0, none⟩)) (by simp)).1
   go_wp2_with fail
   refine (HLV.out _ BY.out).mono ?_
   rintro r Z ⟨rfl, h1, h2⟩
   have BZ := hid h1
   have KZ := hid (KY.out.trans h2)
   clear h1 h2 HLV zw BY KY
   have zw := (HC.out.kt KZ.out (cw, .pointer (some ⟨wb, 0, none⟩)) (by simp)).1
   have c6 : Z.cell? ⟨wb, 6, none⟩ = some (.slice (some ⟨g6, 0, none⟩) p.cores.length cap6) := by rw [range_cell BZ.out.r (k := 6) rfl, E6.out]
   have LC := hid (show (lvP (p) u).cores.length = (p).cores.length by unfold lvP; simp)
   have e6 := hid (show V 6 = .slice (some ⟨g6, 0, none⟩) (lvP (p) u).cores.length cap6 by rw [LC.out]; exact HEQ.out)
   obtain ⟨x6, f6⟩ := BZ.out.coresAt e6.out (i := c) (by rw [LC.out]; exact HCQ.out)
   obtain ⟨b7, k7⟩ := BZ.out.coresCell e6.out c (u : Int)
   have B7 := hid b7
   have K7 := hid (KZ.out.trans k7)
   clear b7 k7 e6
   go_wp2_with fail
   exact bodyPost_end (results_none rfl _ _ _) rfl ⟨rfl, tg, by rw [HSL.out, HR.out]; exact B7.out, K00.out.trans K7.out⟩
 ·have htl : t < p.tasks.length := by rw [hs.lf.tasks]; exact ht
  have ht0 : ¬ ((t : Int) = -1) := by omega
  have ht1 : ((t : Int) == -1) = false := by simp
  have HIT := hid (fun X tg cw cd (h : BoxT X wb tg V p) h1 h2 => isTurn wb tg V p t m cw cd X h hp htl h1 h2)
  have HCQ0 := hid hc
  have HZ := hid hz
  cases hdm : dmB p m t with
  | true =>
   have HSL := hid (show slP p c = p by unfold slP; rw [hz, if_neg (by omega), hm, hdm, if_pos rfl])
   rw [hdm] at HIT
   clear bt hp hn hs hc hz hm br kr e6 HRL HIP hk htl hdm ht
   go_enter Tryz.func22, Tryz.ntmps22
   go_wp2_with fail
   refine HTN.out.mono ?_
   rintro r w1 ⟨rfl, hb⟩
   have zw0 := (hb.cell (World.block_lt_of_cell? _ _ CW0.out)).trans CW0.out
   have BB := hid (btr (bal (Below.refl W.heap.size W) (.cells #[.pointer (some ⟨wb, 0, none⟩)] 52)) hb)
   have SZ := hid (show W.heap.size ≤ w1.heap.size from BB.out.size)
   have BL := hid (show Below w1.heap.size w1 (w1.alloc (.cells #[.int .i64 m] 3)) from bal (Below.refl w1.heap.size w1) (.cells #[.int .i64 m] 3))
   have HC := hid (show CapsT [(W.heap.size, .pointer (some ⟨wb, 0, none⟩)), (w1.heap.size, .int .i64 m)] (tagN tag W.heap.size 0) (w1.alloc (.cells #[.int .i64 m] 3)) from fun x hx => by
    simp only [List.mem_cons, List.not_mem_nil, or_false] at hx
    rcases hx with rfl | rfl
    ·exact ⟨(BL.out.cell (World.block_lt_of_cell? _ _ zw0)).trans zw0, by unfold tagN; rw [if_neg (Nat.lt_irrefl _)]⟩
    ·exact ⟨cells_new w1 #[.int .i64 m] 3 0, by unfold tagN; rw [if_neg (by have := SZ.out; omega)]⟩)
   have B2 := hid ((BR.out.below BB.out).below BL.out)
   have K00 := hid (KR.out.trans (.below (btr BB.out BL.out)))
   clear hb HTN CW0
   go_upto_region 2 with fail
   generalize tagN tag W.heap.size 0 = tg at *
   generalize World.alloc _ _ = w2 at *
   generalize hcd : w1.heap.size = cd at *
   clear zw0 BB SZ BL hcd
   generalize hcw : W.heap.size = cw at HC ⊢
   clear hcw
   have K0 := hid (Kt.refl tg w2)
   have c6 : w2.cell? ⟨wb, 6, none⟩ = some (.slice (some ⟨g6, 0, none⟩) p.cores.length cap6) := by rw [range_cell B2.out.r (k := 6) rfl, E6.out]
   have x6 : w2.cell? ⟨g6, c, none⟩ = some (.int .i64 t) := by rw [(B2.out.coresAt E6.out HCQ0.out).1, HZ.out]
   have zw := (HC.out.kt K0.out (cw, .pointer (some ⟨wb, 0, none⟩)) (by simp)).1
   have zd := (HC.out.kt K0.out (cd, .int .i64 m) (by simp)).1
   have HI := hid (HIT.out w2 tg cw cd B2.out zw zd)
   go_wp2_with fail
   refine HI.out.mono ?_
   rintro r w3 ⟨rfl, hb⟩
   have B3 := hid (B2.out.below hb)
   have K3 := hid (K0.out.trans (.below hb))
   clear hb HI HIT zw zd c6 x6
   have c6 : w3.cell? ⟨wb, 6, none⟩ = some (.slice (some ⟨g6, 0, none⟩) p.cores.length cap6) := by rw [range_cell B3.out.r (k := 6) rfl, E6.out]
   have x6 : w3.cell? ⟨g6, c, none⟩ = some (.int .i64 t) := by rw [(B3.out.coresAt E6.out HCQ0.out).1, HZ.out]
   have zw := (HC.out.kt K3.out (cw, .pointer (some ⟨wb, 0, none⟩)) (by simp)).1
   go_wp2_with fail
   exact bodyPost_ret (results_none rfl _ _ _) rfl ⟨rfl, tg, by rw [HSL.out]; exact B3.out, K00.out.trans K3.out⟩
  | false =>
   obtain ⟨r1, r2, r3, r4⟩ := rdN_eq hs ht hk
   have HSL := hid (show slP p c = snx (wkP p t (rdN p t)) m c by unfold slP; rw [hz, if_neg (by omega), hm, hdm, if_neg (by decide), Int.toNat_natCast])
   have HWK := hid (fun X tg (h : BoxT X wb tg V p) => wake_any wb tg V p t (rdN p t) X h hp htl r1 r3 r4 r2)
   have LC := hid (show (wkP p t (rdN p t)).cores.length = p.cores.length by show (p.cores.map (noT t)).length = _; rw [List.length_map])
   have HM1 := hid (show (wkP p t (rdN p t)).cores.getD c (-1) = -1 by
    show (p.cores.map (noT t)).getD c (-1) = -1
    rw [List.getD_eq_getElem?_getD] at hz
    rw [List.getD_eq_getElem?_getD, List.getElem?_map]
    rw [List.getElem?_eq_getElem hc, Option.getD_some] at hz
    rw [List.getElem?_eq_getElem hc, hz]
    show noT t t = -1
    unfold noT
    rw [if_pos rfl])
   have HFQ := hid (wk_fits hp hn t (rdN p t))
   have HRQ := hid (show c * 4 + 4 ≤ (wkP p t (rdN p t)).ready.length by
    show c * 4 + 4 ≤ ((lvs (t : Int) p.ready).set _ _).length
    rw [List.length_set, lvs_len]
    exact HRL.out)
   have HIQ := hid (wk_in (rdN p t) htl HIP.out)
   have HEQ := hid (show V 6 = .slice (some ⟨g6, 0, none⟩) (wkP p t (rdN p t)).cores.length cap6 by rw [LC.out]; exact E6.out)
   have HCQ := hid (show c < (wkP p t (rdN p t)).cores.length by rw [LC.out]; exact hc)
   rw [hdm] at HIT
   clear bt hp hn hs hc hz hm br kr e6 HRL HIP hk htl hdm ht r1 r2 r3 r4
   go_enter Tryz.func22, Tryz.ntmps22
   go_wp2_with fail
   refine HTN.out.mono ?_
   rintro r w1 ⟨rfl, hb⟩
   have zw0 := (hb.cell (World.block_lt_of_cell? _ _ CW0.out)).trans CW0.out
   have BB := hid (btr (bal (Below.refl W.heap.size W) (.cells #[.pointer (some ⟨wb, 0, none⟩)] 52)) hb)
   have SZ := hid (show W.heap.size ≤ w1.heap.size from BB.out.size)
   have BL := hid (show Below w1.heap.size w1 (w1.alloc (.cells #[.int .i64 m] 3)) from bal (Below.refl w1.heap.size w1) (.cells #[.int .i64 m] 3))
   have HC := hid (show CapsT [(W.heap.size, .pointer (some ⟨wb, 0, none⟩)), (w1.heap.size, .int .i64 m)] (tagN tag W.heap.size 0) (w1.alloc (.cells #[.int .i64 m] 3)) from fun x hx => by
    simp only [List.mem_cons, List.not_mem_nil, or_false] at hx
    rcases hx with rfl | rfl
    ·exact ⟨(BL.out.cell (World.block_lt_of_cell? _ _ zw0)).trans zw0, by unfold tagN; rw [if_neg (Nat.lt_irrefl _)]⟩
    ·exact ⟨cells_new w1 #[.int .i64 m] 3 0, by unfold tagN; rw [if_neg (by have := SZ.out; omega)]⟩)
   have B2 := hid ((BR.out.below BB.out).below BL.out)
   have K00 := hid (KR.out.trans (.below (btr BB.out BL.out)))
   clear hb HTN CW0
   go_upto_region 2 with fail
   generalize tagN tag W.heap.size 0 = tg at *
   generalize World.alloc _ _ = w2 at *
   generalize hcd : w1.heap.size = cd at *
   clear zw0 BB SZ BL hcd
   generalize hcw : W.heap.size = cw at HC ⊢
   clear hcw
   have K0 := hid (Kt.refl tg w2)
   have c6 : w2.cell? ⟨wb, 6, none⟩ = some (.slice (some ⟨g6, 0, none⟩) p.cores.length cap6) := by rw [range_cell B2.out.r (k := 6) rfl, E6.out]
   have x6 : w2.cell? ⟨g6, c, none⟩ = some (.int .i64 t) := by rw [(B2.out.coresAt E6.out HCQ0.out).1, HZ.out]
   have zw := (HC.out.kt K0.out (cw, .pointer (some ⟨wb, 0, none⟩)) (by simp)).1
   have zd := (HC.out.kt K0.out (cd, .int .i64 m) (by simp)).1
   have HI := hid (HIT.out w2 tg cw cd B2.out zw zd)
   go_wp2_with fail
   refine HI.out.mono ?_
   rintro r w3 ⟨rfl, hb⟩
   have B3 := hid (B2.out.below hb)
   have K3 := hid (K0.out.trans (.below hb))
   clear hb HI HIT zw zd c6 x6
   have zw := (HC.out.kt K3.out (cw, .pointer (some ⟨wb, 0, none⟩)) (by simp)).1
   go_wp2_with fail
   refine (HWK.out _ _ B3.out).mono ?_
   rintro r w4 ⟨rfl, tg4, h1, h2⟩
   have B4 := hid h1
   have K4 := hid (K3.out.trans h2)
   clear h1 h2 HWK zw B3 K3 B2 K0
   have c6 : w4.cell? ⟨wb, 6, none⟩ = some (.slice (some ⟨g6, 0, none⟩) p.cores.length cap6) := by rw [range_cell B4.out.r (k := 6) rfl, E6.out]
   have x6 : w4.cell? ⟨g6, c, none⟩ = some (.int .i64 (-1)) := by rw [(B4.out.coresAt HEQ.out HCQ.out).1, HM1.out]
   have zw := (HC.out.kt K4.out (cw, .pointer (some ⟨wb, 0, none⟩)) (by simp)).1
   have zd := (HC.out.kt K4.out (cd, .int .i64 m) (by simp)).1
   have HNX := hid (next_any wb tg4 V (wkP p t (rdN p t)) m cw cd c w4 B4.out HFQ.out HRQ.out HIQ.out zw zd)
   rcases nx_in (q := wkP p t (rdN p t)) (m := m) (c := c) HIQ.out 4 with hnx | ⟨u, hnx, hut⟩
   ·have HR := hid (show snx (wkP p t (rdN p t)) m c = wkP p t (rdN p t) from if_pos hnx)
    rw [hnx] at HNX
    clear hnx
    go_wp2_with fail
    refine HNX.out.mono ?_
    rintro r Y ⟨rfl, hb⟩
    have BY := hid (B4.out.below hb)
    have KY := hid (K4.out.trans (.below hb))
    clear hb HNX zw zd c6 x6
    go_wp2_with fail
    exact bodyPost_end (results_none rfl _ _ _) rfl ⟨rfl, tg4, by rw [HSL.out, HR.out]; exact BY.out, K00.out.trans KY.out⟩
   ·have HR := hid (show snx (wkP p t (rdN p t)) m c = { lvP (wkP p t (rdN p t)) u with cores := (lvP (wkP p t (rdN p t)) u).cores.set c u } by unfold snx; rw [hnx, if_neg (by omega), Int.toNat_natCast])
    rw [hnx] at HNX
    have hun : ¬ ((u : Int) = -1) := by omega
    have hub : ((u : Int) == -1) = false := by simp
    have HLV := hid (fun X (h : BoxT X wb tg4 V (wkP p t (rdN p t))) => leaveW_any wb tg4 V (wkP p t (rdN p t)) u X h HFQ.out hut)
    clear hnx hut
    go_wp2_with fail
    refine HNX.out.mono ?_
    rintro r Y ⟨rfl, hb⟩
    have BY := hid (B4.out.below hb)
    have KY := hid (K4.out.trans (.below hb))
    clear hb HNX zw zd c6 x6
    have zw := (HC.out.kt KY.out (cw, .pointer (some ⟨wb, 0, none⟩)) (by simp)).1
    go_wp2_with fail
    refine (HLV.out _ BY.out).mono ?_
    rintro r Z ⟨rfl, h1, h2⟩
    have BZ := hid h1
    have KZ := hid (KY.out.trans h2)
    clear h1 h2 HLV zw BY KY
    have zw := (HC.out.kt KZ.out (cw, .pointer (some ⟨wb, 0, none⟩)) (by simp)).1
    have c6 : Z.cell? ⟨wb, 6, none⟩ = some (.slice (some ⟨g6, 0, none⟩) p.cores.length cap6) := by rw [range_cell BZ.out.r (k := 6) rfl, E6.out]
    have LC := hid (show (lvP (wkP p t (rdN p t)) u).cores.length = (wkP p t (rdN p t)).cores.length by unfold lvP; simp)
    have e6 := hid (show V 6 = .slice (some ⟨g6, 0, none⟩) (lvP (wkP p t (rdN p t)) u).cores.length cap6 by rw [LC.out]; exact HEQ.out)
    obtain ⟨x6, f6⟩ := BZ.out.coresAt e6.out (i := c) (by rw [LC.out]; exact HCQ.out)
    obtain ⟨b7, k7⟩ := BZ.out.coresCell e6.out c (u : Int)
    have B7 := hid b7
    have K7 := hid (KZ.out.trans k7)
    clear b7 k7 e6
    go_wp2_with fail
    exact bodyPost_end (results_none rfl _ _ _) rfl ⟨rfl, tg4, by rw [HSL.out, HR.out]; exact B7.out, K00.out.trans K7.out⟩
end Go.Proofs.YtakmaeohhclngaaGreatDoor.Wd
