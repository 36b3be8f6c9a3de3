/- What is done to worlds: deed.Do, walked, whatever is done. (Written by mk_do.py.) · deed.Do once more, with where the new world does not lie. (Written by mk_tc2.py.) · Whether a deed did what it should: keyholdref.Nothing, keyholdlaw.did; walked. (Written by mk_do.py.) · One slot of a world of one's own, written. · Is something in a slot, can a slot have something: plain.Full, tree.free, tree.between; keyholdref.has, open, both; walked. (Written by mk_tc.py.) · A key made from another one: tree.lesser, walked. (Written by mk_ls.py.) · The rest of GBx: what few laws reach. -/
import Derived.BigGuard
import Derived.BigCall
import Derived.Test.YtkocmkaeaagbaaaGreatDoorQao
import Derived.Test.YtkocmkaeaagbaaaGreatDoorQal
namespace Go.Proofs.YtkocmkaeaagbaaaGreatDoor.Wd
open Go.RowKit Go.Proofs.YtkocmkaeaagbaaaGreatDoor.Mem Go.Proofs.YtkocmkaeaagbaaaGreatDoor.Bw Go.Proofs.YtkocmkaeaagbaaaGreatDoor.Nums Go.Proofs.YtkocmkaeaagbaaaGreatDoor.Mmu
/-- The error of a world and a deed: no sound world, or the deed's. -/
def dE (p : PW) (e : Int) : Int := if sndB p then e else 8
def dP (p p' : PW) (e : Int) : PW := if dE p e = 0 then p' else noP
theorem eval_get (a : Act) (t : Nat) : a.eval (.tmp t) = a.tmps[t]?.getD undef := by simp [Act.eval, Array.getD_eq_getD_getElem?]
theorem results_c2 {fn : Func} {p u : Tmp} {ty : TypeId} (h : fn.results = #[.cell p ty, .tmp u]) {a : Act} {P : Program} {w : World} {b : Nat} {x y : Value} (hp : a.eval (.tmp p) = .pointer (some ⟨b, 0, none⟩)) (hl : (loadVar ty ⟨b, 0, none⟩).run P w = .ok x w) (hu : a.eval (.tmp u) = y) :
  (results fn a.tmps).run P w = .ok (.tuple #[x, y]) w := by
 rw [eval_get] at hp hu
 simp only [results, h]
 simp [Result.andThen, asAddr, hp, hu, hl]
theorem results_d2 {fn : Func} {p u : Tmp} {ty : TypeId} (h : fn.results = #[.cell p ty, .tmp u]) {tmps : Array Value} {P : Program} {w : World} {b : Nat} {x y : Value} (hp : tmps.getD p undef = .pointer (some ⟨b, 0, none⟩)) (hl : (loadVar ty ⟨b, 0, none⟩).run P w = .ok x w) (hu : tmps.getD u undef = y) :
  (results fn tmps).run P w = .ok (.tuple #[x, y]) w := results_c2 (a := ⟨tmps, []⟩) h hp hl hu
set_option maxRecDepth 100000 in
set_option maxHeartbeats 8000000 in
theorem do_far (N : Nat) (caps : Array Value) (ok : World → Prop) (V : Nat → Value) (p p' : PW) (e : Int) (w : World) (hv : WorldV w V p) (hp : p.Fits) (hN : ∀ args (W : World), (callFunc N args).run Tryz.prog W = .ok (.enter N args) W)
  (hok : ∀ W, Below w.heap.size w W → ok W) (hd : Snd p → DeedF N caps ok eV p p' e) :
  Calls Tryz.prog 160 #[.agg (arr11 V), .func (.func N) #[] caps] w fun r w' => ∃ X, r = .returned (.tuple #[.agg (arr11 X), eV (dE p e)]) ∧ FarV w' w.heap.size X (dP p p' e) ∧ Below w.heap.size w w' := by
 have RG1 := boxed w V 28
 have RG0 := hid (range_below RG1 (bal (Below.refl _ (w.alloc (.cells (arr11 V) 28))) (.cells #[.slice none 0 0, .slice none 0 0, .slice none 0 0, .slice none 0 0, .slice none 0 0, .slice none 0 0, .slice none 0 0, .slice none 0 0, .slice none 0 0, .slice none 0 0, .int .i64 0] 28)))
 have B0 := hid (bal (bal (Below.refl w.heap.size w) (.cells (arr11 V) 28)) (.cells #[.slice none 0 0, .slice none 0 0, .slice none 0 0, .slice none 0 0, .slice none 0 0, .slice none 0 0, .slice none 0 0, .slice none 0 0, .slice none 0 0, .slice none 0 0, .int .i64 0] 28))
 have T0 := hid (there_new (w.alloc (.cells (arr11 V) 28)) #[.slice none 0 0, .slice none 0 0, .slice none 0 0, .slice none 0 0, .slice none 0 0, .slice none 0 0, .slice none 0 0, .slice none 0 0, .slice none 0 0, .slice none 0 0, .int .i64 0] 28 (w.heap.size + 1) 11 (by simp) (by decide))
 have HV := hid hv
 have HP := hid hp
 have HD := hid hd
 have HK := hid hok
 have L0 := hid (show w.heap.size + 1 < ((w.alloc (.cells (arr11 V) 28)).alloc (.cells #[.slice none 0 0, .slice none 0 0, .slice none 0 0, .slice none 0 0, .slice none 0 0, .slice none 0 0, .slice none 0 0, .slice none 0 0, .slice none 0 0, .slice none 0 0, .int .i64 0] 28)).heap.size by simp)
 clear hv hp hd hok RG1
 go_enter Tryz.func160, Tryz.ntmps160
 go_wp2_with (first | ((with_reducible (show wpList _ _ _ (⟨_, Op.load 28 _, _, _, _, _⟩ :: _) _ _)); refine wp_ldWg (by rfl) _ rfl _ rfl V RG0.out ?_))
 generalize World.alloc _ _ = W0 at *
 refine (check_any V p W0 (HV.out.below B0.out) HP.out).mono ?_
 rintro r w1 ⟨x, rfl, hc, hb⟩
 have A1 := hid hb
 have B1 := hid (btr B0.out hb)
 have T1 := hid (there_belowO T0.out hb)
 have RG := hid (range_below RG0.out hb)
 have L1 := hid (Nat.lt_of_lt_of_le L0.out hb.size)
 have XV := hid (zero_world w1)
 have zo := hid (world_one (zero_world w1))
 cases hs : sndB p with
 | false =>
  have HE := hid (show dE p e = 8 by unfold dE; rw [hs]; rfl)
  have HQ := hid (show dP p p' e = noP by unfold dP; rw [HE.out]; rfl)
  have HX := hid (chk_not3 hc hs)
  have RX := hid (World.rangeAt_setCells_same w1 (w.heap.size + 1) 0 (arr11 zeroV).toList T1.out)
  have BX := hid (below_setCells B1.out (show w.heap.size ≤ w.heap.size + 1 by omega) (arr11 zeroV).toList 0)
  clear hb hc hs RG A1
  rcases HX.out with ⟨y, rfl⟩ | ⟨y, rfl⟩
  ·clear HX
   go_wp2_with (first | ((with_reducible (show wpList _ _ _ (⟨_, Op.store 28 _ _, _, _, _, _⟩ :: _) _ _)); refine wpList_store_mid rfl 28 _ _ rfl (w.heap.size + 1) 0 (arr11 zeroV) rfl rfl T1.out infoW zo.out ?_))
   exact bodyPost_ret (v := .tuple #[.agg (arr11 zeroV), .iface 29 (.int .i64 8)]) (results_d2 rfl rfl (run_loadVar_mid _ (w.heap.size + 1) 0 28 (arr11 zeroV).toList _ RX.out Tryz.underlying28 rfl infoW) rfl) rfl ⟨zeroV, by rw [HE.out]; rfl, by rw [HQ.out]; exact ⟨fun _ _ => zero_world _, .inl rfl⟩, BX.out⟩
  ·clear HX
   go_wp2_with (first | ((with_reducible (show wpList _ _ _ (⟨_, Op.store 28 _ _, _, _, _, _⟩ :: _) _ _)); refine wpList_store_mid rfl 28 _ _ rfl (w.heap.size + 1) 0 (arr11 zeroV) rfl rfl T1.out infoW zo.out ?_))
   exact bodyPost_ret (v := .tuple #[.agg (arr11 zeroV), .iface 29 (.int .i64 8)]) (results_d2 rfl rfl (run_loadVar_mid _ (w.heap.size + 1) 0 28 (arr11 zeroV).toList _ RX.out Tryz.underlying28 rfl infoW) rfl) rfl ⟨zeroV, by rw [HE.out]; rfl, by rw [HQ.out]; exact ⟨fun _ _ => zero_world _, .inl rfl⟩, BX.out⟩
 | true =>
 obtain rfl := chk_nil hc hs
 have HS := hid (snd_of hs)
 have HE := hid (show dE p e = e by unfold dE; rw [hs]; rfl)
 clear hb hc hs
 go_wp2_with (first | ((with_reducible (show wpList _ _ _ (⟨_, Op.load 28 _, _, _, _, _⟩ :: _) _ _)); refine wp_ldWg (by rfl) _ rfl _ rfl V RG.out ?_))
 refine (twin_any V p w1 (HV.out.below B1.out) HP.out).mono ?_
 rintro r w2 ⟨U, L, rfl, hO, hL0, hL1, hb⟩
 have TN := hid (there_new w2 #[.slice none 0 0, .slice none 0 0, .slice none 0 0, .slice none 0 0, .slice none 0 0, .slice none 0 0, .slice none 0 0, .slice none 0 0, .slice none 0 0, .slice none 0 0, .int .i64 0] 28 w2.heap.size 11 rfl (by decide))
 have B2 := hid (btr B1.out hb)
 have L2 := hid (show w.heap.size + 2 ≤ L 0 from Nat.le_trans (Nat.succ_le_of_lt L1.out) hL0)
 have T2 := hid (there_belowO T1.out hb)
 have one := hid (world_one (hO.v (tlbs_le HV.out.tlbs)))
 have BO := hid (show BoxO ((w2.alloc (.cells #[.slice none 0 0, .slice none 0 0, .slice none 0 0, .slice none 0 0, .slice none 0 0, .slice none 0 0, .slice none 0 0, .slice none 0 0, .slice none 0 0, .slice none 0 0, .int .i64 0] 28)).setCells w2.heap.size 0 (arr11 U).toList) w2.heap.size L U p from
  ⟨World.rangeAt_setCells_same _ w2.heap.size 0 (arr11 U).toList TN.out, there_sets _ 0 _ TN.out, worldO_over (hO.below (bal (Below.refl _ w2) (.cells #[.slice none 0 0, .slice none 0 0, .slice none 0 0, .slice none 0 0, .slice none 0 0, .slice none 0 0, .slice none 0 0, .slice none 0 0, .slice none 0 0, .slice none 0 0, .int .i64 0] 28))) hL1 _ 0, hL1, by rw [setCells_size]; simp⟩)
 have B3 := hid (below_setCells (bal B2.out (.cells #[.slice none 0 0, .slice none 0 0, .slice none 0 0, .slice none 0 0, .slice none 0 0, .slice none 0 0, .slice none 0 0, .slice none 0 0, .slice none 0 0, .slice none 0 0, .int .i64 0] 28)) B2.out.size (arr11 U).toList 0)
 have T3 := hid (there_sets (B := w2.heap.size) (arr11 U).toList 0 _ (there_belowO T2.out (bal (Below.refl _ w2) (.cells #[.slice none 0 0, .slice none 0 0, .slice none 0 0, .slice none 0 0, .slice none 0 0, .slice none 0 0, .slice none 0 0, .slice none 0 0, .slice none 0 0, .slice none 0 0, .int .i64 0] 28))))
 clear hb hO hL0 hL1 RG RG0 A1 T1 T0 B0
 go_wp2_with (first | ((with_reducible (show wpList _ _ _ (⟨_, Op.store 28 _ _, _, _, _, _⟩ :: _) _ _)); refine wpList_store_mid rfl 28 _ _ rfl w2.heap.size 0 (arr11 U) rfl rfl TN.out infoW one.out ?_))
 generalize World.setCells _ _ _ _ = W3 at *
 refine (HD.out HS.out W3 w2.heap.size L U BO.out (HK.out _ B3.out) (fun _ h => HK.out _ (B3.out.trans (h.mono (by have := L2.out; omega))))).mono ?_
 rintro r w4 ⟨rfl, h4, h5⟩
 have B4 := hid (show Below w.heap.size w w4 from B3.out.trans (h4.mono (by have := L2.out; omega)))
 have T4 := hid (there_N T3.out h4 (by have := L2.out; omega))
 have H5 := hid h5
 clear h4 h5 TN BO one HD
 by_cases he : e = 0
 rotate_left
 ·have HQ := hid (show dP p p' e = noP by unfold dP; rw [HE.out, if_neg he])
  have HX := hid (eV_n he)
  have RX := hid (World.rangeAt_setCells_same w4 (w.heap.size + 1) 0 (arr11 zeroV).toList T4.out)
  have BX := hid (below_setCells B4.out (show w.heap.size ≤ w.heap.size + 1 by omega) (arr11 zeroV).toList 0)
  rw [HX.out]
  clear he H5
  go_wp2_with (first | ((with_reducible (show wpList _ _ _ (⟨_, Op.store 28 _ _, _, _, _, _⟩ :: _) _ _)); refine wpList_store_mid rfl 28 _ _ rfl (w.heap.size + 1) 0 (arr11 zeroV) rfl rfl T4.out infoW zo.out ?_))
  exact bodyPost_ret (v := .tuple #[.agg (arr11 zeroV), .iface 29 (.int .i64 e)]) (results_d2 rfl rfl (run_loadVar_mid _ (w.heap.size + 1) 0 28 (arr11 zeroV).toList _ RX.out Tryz.underlying28 rfl infoW) rfl) rfl ⟨zeroV, by rw [HE.out, HX.out], by rw [HQ.out]; exact ⟨fun _ _ => zero_world _, .inl rfl⟩, BX.out⟩
 obtain ⟨X, bo⟩ := H5.out he
 have HX := hid (show eV e = .nilIface by rw [he]; rfl)
 have HQ := hid (show dP p p' e = p' by unfold dP; rw [HE.out, if_pos he])
 have one2 := hid (world_one bo.f.v0)
 have RGX := hid bo.r
 have RX := hid (World.rangeAt_setCells_same w4 (w.heap.size + 1) 0 (arr11 X).toList T4.out)
 have BX := hid (below_setCells B4.out (show w.heap.size ≤ w.heap.size + 1 by omega) (arr11 X).toList 0)
 have WX := hid ((bo.f.put (w.heap.size + 1) 0 (arr11 X).toList (by have := L2.out; omega)).mono (show w.heap.size ≤ L 0 by have := L2.out; omega))
 rw [HX.out]
 clear he H5 bo
 go_wp2_with (first | ((with_reducible (show wpList _ _ _ (⟨_, Op.load 28 _, _, _, _, _⟩ :: _) _ _)); refine wp_ldWg (by rfl) _ rfl _ rfl X RGX.out ?_) | ((with_reducible (show wpList _ _ _ (⟨_, Op.store 28 _ _, _, _, _, _⟩ :: _) _ _)); refine wpList_store_mid rfl 28 _ _ rfl (w.heap.size + 1) 0 (arr11 X) rfl rfl T4.out infoW one2.out ?_))
 exact bodyPost_ret (v := .tuple #[.agg (arr11 X), .nilIface]) (results_d2 rfl rfl (run_loadVar_mid _ (w.heap.size + 1) 0 28 (arr11 X).toList _ RX.out Tryz.underlying28 rfl infoW) rfl) rfl ⟨X, by rw [HE.out, HX.out], by rw [HQ.out]; exact WX.out, BX.out⟩
theorem dE_eq {p : PW} {e : Int} (h : sndB p = true) : dE p e = e := by unfold dE; rw [h]; rfl
end Go.Proofs.YtkocmkaeaagbaaaGreatDoor.Wd
namespace Go.Proofs.YtkocmkaeaagbaaaGreatDoor.Wd
open Go.RowKit Go.Proofs.YtkocmkaeaagbaaaGreatDoor.Mem Go.Proofs.YtkocmkaeaagbaaaGreatDoor.Bw Go.Proofs.YtkocmkaeaagbaaaGreatDoor.Nums Go.Proofs.YtkocmkaeaagbaaaGreatDoor.Mmu
def hasE (p : PW) (n : Int) : Int := if slotB p n then (if (p.slots.getD n.toNat nkey) 0 = 0 then 6 else 0) else 2
set_option maxRecDepth 100000 in
set_option maxHeartbeats 600000 in
theorem full_any (vb : Nat) (V : Nat → Value) (p : PW) (n : Int) (w : World) (hv : ViewAt w vb V p) :
  Calls Tryz.prog 118 #[.pointer (some ⟨vb, 0, none⟩), .int .i64 n] w fun r w' => r = .returned (eV (hasE p n)) ∧ w = w' := by
 have c2 : w.cell? ⟨vb, 2, none⟩ = some (V 2) := range_cell hv.r rfl
 have c1 : w.cell? ⟨vb, 1, none⟩ = some (V 1) := range_cell hv.r rfl
 obtain ⟨q2, b2, off2, cap2, e2, hq2, hz2⟩ := hv.v.slots
 obtain ⟨q1, b1, off1, cap1, e1, hq1, hz1⟩ := hv.v.kinds
 have hl2 : (p.slots.length : Int) ≤ 1000 := by have := hv.f.slots; omega
 have hl1 : (p.kinds.length : Int) ≤ 1000 := by have := hv.f.kinds; omega
 have HV := hid hv
 cases hs : slotB p n with
 | false =>
  have HN := hid (show hasE p n = 2 by unfold hasE; rw [hs]; rfl)
  have HSB := hid hs
  clear hs hz2 hq2 hz1 hq1 hv
  go_enter Tryz.func118, Tryz.ntmps118
  go_wp2_with fail
  refine (pisSlot_any vb V p _ w HV.out).mono ?_
  rintro r w1 ⟨rfl, rfl⟩
  rw [HSB.out]
  go_wp2_with fail
  go_ret
  exact ⟨by rw [HN.out]; rfl, rfl⟩
 | true =>
  obtain ⟨j, rfl, hj⟩ := slotB_in hs
  have HSB := hid hs
  have hj2 : (j : Int) < (p.slots.length : Int) := by omega
  obtain rfl := hq2 (by omega)
  have x0 := range_at0 (hz2 j hj) (cf_at 7 _ 0 (by omega))
  have HA := hid (show hasE p j = if p.slots[j] 0 = 0 then 6 else 0 by unfold hasE; rw [hs, if_pos rfl, Int.toNat_natCast, List.getD_eq_getElem?_getD, List.getElem?_eq_getElem hj]; rfl)
  generalize p.slots[j] 0 = y at x0 HA
  clear hs hz2 hq2 hz1 hq1 hv
  by_cases h0 : y = 0
  ·subst h0
   have HN := hid (show hasE p j = 6 by rw [HA.out]; rfl)
   go_enter Tryz.func118, Tryz.ntmps118
   go_wp2_with fail
   refine (pisSlot_any vb V p _ w HV.out).mono ?_
   rintro r w1 ⟨rfl, rfl⟩
   rw [HSB.out]
   go_wp2_with fail
   go_ret
   exact ⟨by rw [HN.out]; rfl, rfl⟩
  ·have HN := hid (show hasE p j = 0 by rw [HA.out, if_neg h0])
   have h0b : (y == 0) = false := by simpa using h0
   clear h0
   go_enter Tryz.func118, Tryz.ntmps118
   go_wp2_with fail
   refine (pisSlot_any vb V p _ w HV.out).mono ?_
   rintro r w1 ⟨rfl, rfl⟩
   rw [HSB.out]
   go_wp2_with fail
   go_ret
   exact ⟨by rw [HN.out]; rfl, rfl⟩
end Go.Proofs.YtkocmkaeaagbaaaGreatDoor.Wd
namespace Go.Proofs.YtkocmkaeaagbaaaGreatDoor.Wd
open Go.RowKit Go.Proofs.YtkocmkaeaagbaaaGreatDoor.Mem Go.Proofs.YtkocmkaeaagbaaaGreatDoor.Bw Go.Proofs.YtkocmkaeaagbaaaGreatDoor.Nums Go.Proofs.YtkocmkaeaagbaaaGreatDoor.Mmu
theorem BoxO.below {W W' : World} {wb : Nat} {L : Nat → Nat} {V : Nat → Value} {p : PW} (h : BoxO W wb L V p) (hb : Below W.heap.size W W') : BoxO W' wb L V p :=
 ⟨range_below h.r hb, there_belowO h.t hb, h.o.below hb, h.lo, Nat.lt_of_lt_of_le h.lt hb.size⟩
/-- What a deed does to a world: an error, or another world. (ans: how the error is told.) -/
def Deed (N : Nat) (caps : Array Value) (ok : World → Prop) (ans : Int → Value) (p p' : PW) (e : Int) : Prop :=
 ∀ W wb L V, BoxO W wb L V p → ok W → (∀ W', Below (L 0) W W' → ok W') → Calls Tryz.prog N (#[.pointer (some ⟨wb, 0, none⟩)] ++ caps) W fun r W' => r = .returned (ans e) ∧ Below (L 0) W W' ∧ (e = 0 → ∃ V' L', BoxO W' wb L' V' p' ∧ L 0 ≤ L' 0)
theorem BoxO.far {W : World} {wb lo : Nat} {L : Nat → Nat} {V : Nat → Value} {p : PW} (h : BoxO W wb L V p) (hl : ∀ l ∈ p.tlbs, l.length ≤ 100) (hlo : lo ≤ L 0) : Far W wb lo V p := by
 obtain ⟨tag, bt, h0⟩ := h.tagged
 exact bt.far hl (fun k hk => h0 k (Nat.lt_of_lt_of_le hk hlo))
theorem Deed.f {N : Nat} {caps : Array Value} {ok : World → Prop} {ans : Int → Value} {p p' : PW} {e : Int} (h : Deed N caps ok ans p p' e) (hl : ∀ l ∈ p'.tlbs, l.length ≤ 100) : DeedF N caps ok ans p p' e := by
 intro W wb L V bo ho hst
 refine (h W wb L V bo ho hst).mono ?_
 rintro r W' ⟨h1, h2, h3⟩
 refine ⟨h1, h2, fun he => ?_⟩
 obtain ⟨V', L', b2, h4⟩ := h3 he
 exact ⟨V', b2.far hl h4⟩
/-- Values written into a list, one behind the other. -/
def spl : List Value → Nat → List Value → List Value
 | xs, _, [] => xs
 | xs, o, v :: r => spl (xs.set o v) (o + 1) r
theorem spl_get : ∀ (vs xs : List Value) (o j : Nat), (spl xs o vs)[j]? = if o ≤ j ∧ j < o + vs.length ∧ j < xs.length then vs[j - o]? else xs[j]?
 | [], xs, o, j => by
  rw [spl, if_neg (by simp; omega)]
 | v :: r, xs, o, j => by
  rw [spl, spl_get r (xs.set o v) (o + 1) j]
  simp only [List.length_set, List.length_cons]
  by_cases h1 : o = j
  ·subst h1
   rw [if_neg (by omega)]
   by_cases h2 : o < xs.length
   ·rw [if_pos ⟨Nat.le_refl _, by omega, h2⟩, List.getElem?_set_self h2, Nat.sub_self]
    rfl
   ·rw [if_neg (by omega), List.getElem?_eq_none (by simp; omega), List.getElem?_eq_none (by omega)]
  ·rw [List.getElem?_set_ne h1]
   by_cases h2 : o + 1 ≤ j ∧ j < o + 1 + r.length ∧ j < xs.length
   ·rw [if_pos h2, if_pos ⟨by omega, by omega, h2.2.2⟩, show j - o = (j - (o + 1)) + 1 by omega]
    rfl
   ·rw [if_neg h2, if_neg (by omega)]
theorem owns_spl {base e size g n cap : Nat} : ∀ (vs : List Value) (o : Nat) (w : World) (xs : List Value), w.ownsRow base e size (.slice (some ⟨g, 0, none⟩) n cap) n xs → (w.setCells g o vs).ownsRow base e size (.slice (some ⟨g, 0, none⟩) n cap) n (spl xs o vs)
 | [], _, _, _, h => h
 | v :: r, o, w, xs, h => by
  rw [World.setCells, spl]
  exact owns_spl r (o + 1) _ _ (h.stored o v).1
theorem rowsC_set (n : Nat) (hn : 0 < n) (fs : List (Nat → Int)) (i : Nat) (hi : i < fs.length) (f : Nat → Int) : spl (rowsC n fs) (i * n) (cf n f) = rowsC n (fs.set i f) := by
 apply List.ext_getElem?
 intro j
 rw [spl_get, cf_len]
 have hl : (rowsC n fs).length = fs.length * n := rowsC_len n fs
 have hl2 : (rowsC n (fs.set i f)).length = fs.length * n := by rw [rowsC_len, List.length_set]
 by_cases hj : j < fs.length * n
 ·have e : j = j / n * n + j % n := by rw [Nat.mul_comm]; exact (Nat.div_add_mod j n).symm
  have hq : j / n < fs.length := (Nat.div_lt_iff_lt_mul hn).2 hj
  have hr : j % n < n := Nat.mod_lt _ hn
  have a1 := rowsC_at n fs (j / n) (j % n) hq hr
  have a2 := rowsC_at n (fs.set i f) (j / n) (j % n) (by rw [List.length_set]; exact hq) hr
  rw [← e] at a1 a2
  rw [a1, a2]
  by_cases h : j / n = i
  ·have e2 : j - i * n = j % n := by rw [← h]; omega
   rw [if_pos (by rw [hl, ← h]; omega), e2, cf_at n f _ hr]
   subst h
   rw [List.getElem_set_self]
  ·rw [if_neg (by
    intro hh
    apply h
    have h1 : i * n ≤ j := hh.1
    have h2 : j < (i + 1) * n := by rw [Nat.succ_mul]; exact hh.2.1
    exact Nat.le_antisymm (Nat.lt_succ_iff.1 ((Nat.div_lt_iff_lt_mul hn).2 h2)) ((Nat.le_div_iff_mul_le hn).2 h1))]
   rw [List.getElem_set_ne (fun e => h e.symm)]
 ·rw [if_neg (by rw [hl]; omega), List.getElem?_eq_none (by rw [hl]; omega), List.getElem?_eq_none (by rw [hl2]; omega)]
theorem WorldO.upto {w : World} {L : Nat → Nat} {v : Nat → Value} {p : PW} (h : WorldO w L v p) : ∀ d j, j + d ≤ 10 → L j ≤ L (j + d)
 | 0, _, _ => Nat.le_refl _
 | d + 1, j, hj => Nat.le_trans (h.upto d j (by omega)) (h.mono (j + d) (by omega))
/-- One slot is another one. -/
def PW.slot (p : PW) (i : Nat) (f : Nat → Int) : PW := { p with slots := p.slots.set i f }
theorem WorldO.slot {w : World} {L : Nat → Nat} {v : Nat → Value} {p : PW} (h : WorldO w L v p) {g cap : Nat} (e : v 2 = .slice (some ⟨g, 0, none⟩) p.slots.length cap) {i : Nat} (hi : i < p.slots.length) (f : Nat → Int) : WorldO (w.setCells g (i * 7) (cf 7 f)) L v (p.slot i f) := by
 have h2 := h.slots
 rw [e] at h2
 have g1 : L 2 ≤ g := (h2.1.lt g rfl).1
 have g2 : g < L 3 := h2.2 g rfl
 have bb : Below g w (w.setCells g (i * 7) (cf 7 f)) := below_setN (cf 7 f) (i * 7) w (Nat.le_refl _)
 have up : ∀ j, 3 ≤ j → j ≤ 10 → g < L j := fun j h3 h10 => by
  have := h.upto (j - 3) 3 (by omega)
  rw [show 3 + (j - 3) = j by omega] at this
  omega
 have l1 : L 1 ≤ g := Nat.le_trans (h.mono 1 (by omega)) g1
 refine ⟨h.mono, h.ram.belowN l1 bb, h.kinds.belowN g1 bb, ?_, InO.sets (up 3 (by omega) (by omega)) _ _ _ h.tasks, OwnL.sets (up 4 (by omega) (by omega)) _ _ _ h.lines, InO.sets (up 5 (by omega) (by omega)) _ _ _ h.bits, InO.sets (up 6 (by omega) (by omega)) _ _ _ h.cores, OwnL.sets (up 7 (by omega) (by omega)) _ _ _ h.ready, OwnL.sets (up 8 (by omega) (by omega)) _ _ _ h.tlbs, InO.sets (up 9 (by omega) (by omega)) _ _ _ h.doms, h.time⟩
 have o := owns_spl (cf 7 f) (i * 7) w _ h2.1
 simp only at o
 rw [rowsC_set 7 (by decide) p.slots i hi f] at o
 refine ⟨?_, h.slots.2⟩
 show World.ownsRow _ _ _ _ (v 2) (p.slots.set i f).length (rowsC 7 (p.slots.set i f))
 rw [e, List.length_set]
 exact o
theorem BoxO.slot {W : World} {wb : Nat} {L : Nat → Nat} {V : Nat → Value} {p : PW} (h : BoxO W wb L V p) {g cap : Nat} (e : V 2 = .slice (some ⟨g, 0, none⟩) p.slots.length cap) {i : Nat} (hi : i < p.slots.length) (f : Nat → Int) : BoxO (W.setCells g (i * 7) (cf 7 f)) wb L V (p.slot i f) ∧ Below (L 0) W (W.setCells g (i * 7) (cf 7 f)) := by
 have h2 := h.o.slots
 rw [e] at h2
 have g1 : L 2 ≤ g := (h2.1.lt g rfl).1
 have g2 : g < L 3 := h2.2 g rfl
 have u3 := h.o.upto 7 3 (by omega)
 have hw : g < wb := Nat.lt_of_lt_of_le g2 (Nat.le_trans u3 h.lo)
 refine ⟨⟨fun k x hk => ?_, there_sets _ _ _ h.t, h.o.slot e hi f, h.lo, by rw [setCells_size]; exact h.lt⟩, ?_⟩
 ·rw [World.cell?_setCells_out g _ _ _ ⟨wb, 0 + k, none⟩ (fun e _ => by simp only at e; omega)]
  exact h.r k x hk
 ·exact (below_setN (cf 7 f) (i * 7) W (Nat.le_refl g)).mono (Nat.le_trans (h.o.le 2 (by omega)) g1)
theorem BoxO.view {W : World} {wb : Nat} {L : Nat → Nat} {V : Nat → Value} {p : PW} (h : BoxO W wb L V p) (hp : p.Fits) (hl : ∀ l ∈ p.tlbs, l.length ≤ 100) : ViewAt W wb V p := ⟨h.r, h.o.v hl, hp⟩
theorem BoxT.ram {W W' : World} {wb : Nat} {tag tag' : Nat → Nat} {V : Nat → Value} {p : PW} (h : BoxT W wb tag V p) (k : Kp (fun k => tag k = 2) W W') (ht : ∀ k, k < W.heap.size → tag' k = tag k) {x : List Int} (n : InT W' tag' 2 3 1 (V 0) (x.length, ints x)) : BoxT W' wb tag' V { p with ram := x } :=
 ⟨range_kp h.r k (by rw [h.g]; decide), there_kp h.t k (by rw [h.g]; decide), (ht wb h.lt).trans h.g, ⟨n, h.o.kinds.kp k ht (fun k e => by omega), h.o.slots.kp k ht (fun k e => by omega), h.o.tasks.kp k ht (fun k e => by omega), h.o.lines.kp k ht (fun k e => by rcases e with e | ⟨i, e⟩ <;> omega), h.o.bits.kp k ht (fun k e => by omega), h.o.cores.kp k ht (fun k e => by omega), h.o.ready.kp k ht (fun k e => by rcases e with e | ⟨i, e⟩ <;> omega), h.o.tlbs.kp k ht (fun k e => by rcases e with e | ⟨i, e⟩ <;> omega), h.o.doms.kp k ht (fun k e => by omega), h.o.time⟩⟩
theorem BoxT.kinds {W W' : World} {wb : Nat} {tag tag' : Nat → Nat} {V : Nat → Value} {p : PW} (h : BoxT W wb tag V p) (k : Kp (fun k => tag k = 3) W W') (ht : ∀ k, k < W.heap.size → tag' k = tag k) {x : List Int} (n : InT W' tag' 3 3 1 (V 1) (x.length, ints x)) : BoxT W' wb tag' V { p with kinds := x } :=
 ⟨range_kp h.r k (by rw [h.g]; decide), there_kp h.t k (by rw [h.g]; decide), (ht wb h.lt).trans h.g, ⟨h.o.ram.kp k ht (fun k e => by omega), n, h.o.slots.kp k ht (fun k e => by omega), h.o.tasks.kp k ht (fun k e => by omega), h.o.lines.kp k ht (fun k e => by rcases e with e | ⟨i, e⟩ <;> omega), h.o.bits.kp k ht (fun k e => by omega), h.o.cores.kp k ht (fun k e => by omega), h.o.ready.kp k ht (fun k e => by rcases e with e | ⟨i, e⟩ <;> omega), h.o.tlbs.kp k ht (fun k e => by rcases e with e | ⟨i, e⟩ <;> omega), h.o.doms.kp k ht (fun k e => by omega), h.o.time⟩⟩
theorem BoxT.slots {W W' : World} {wb : Nat} {tag tag' : Nat → Nat} {V : Nat → Value} {p : PW} (h : BoxT W wb tag V p) (k : Kp (fun k => tag k = 4) W W') (ht : ∀ k, k < W.heap.size → tag' k = tag k) {x : List (Nat → Int)} (n : InT W' tag' 4 45 7 (V 2) (x.length, rowsC 7 x)) : BoxT W' wb tag' V { p with slots := x } :=
 ⟨range_kp h.r k (by rw [h.g]; decide), there_kp h.t k (by rw [h.g]; decide), (ht wb h.lt).trans h.g, ⟨h.o.ram.kp k ht (fun k e => by omega), h.o.kinds.kp k ht (fun k e => by omega), n, h.o.tasks.kp k ht (fun k e => by omega), h.o.lines.kp k ht (fun k e => by rcases e with e | ⟨i, e⟩ <;> omega), h.o.bits.kp k ht (fun k e => by omega), h.o.cores.kp k ht (fun k e => by omega), h.o.ready.kp k ht (fun k e => by rcases e with e | ⟨i, e⟩ <;> omega), h.o.tlbs.kp k ht (fun k e => by rcases e with e | ⟨i, e⟩ <;> omega), h.o.doms.kp k ht (fun k e => by omega), h.o.time⟩⟩
theorem BoxT.tlbs {W W' : World} {wb : Nat} {tag tag' : Nat → Nat} {V : Nat → Value} {p : PW} (h : BoxT W wb tag V p) (k : Kp (fun k => tag k = 10 ∨ ∃ j, tag k = 14 + 3 * j) W W') (ht : ∀ k, k < W.heap.size → tag' k = tag k) {x : List (List Ent)} (n : ListT W' tag' 10 14 70 103 4 x.length (V 8) (ce x)) : BoxT W' wb tag' V { p with tlbs := x } :=
 ⟨range_kp h.r k (by rw [h.g]; rintro (h | ⟨j, h⟩) <;> omega), there_kp h.t k (by rw [h.g]; rintro (h | ⟨j, h⟩) <;> omega), (ht wb h.lt).trans h.g, ⟨h.o.ram.kp k ht (fun k e => by rintro (h | ⟨j, h⟩) <;> omega), h.o.kinds.kp k ht (fun k e => by rintro (h | ⟨j, h⟩) <;> omega), h.o.slots.kp k ht (fun k e => by rintro (h | ⟨j, h⟩) <;> omega), h.o.tasks.kp k ht (fun k e => by rintro (h | ⟨j, h⟩) <;> omega), h.o.lines.kp k ht (fun k e => by rintro (h | ⟨j, h⟩) <;> rcases e with e | ⟨i, e⟩ <;> omega), h.o.bits.kp k ht (fun k e => by rintro (h | ⟨j, h⟩) <;> omega), h.o.cores.kp k ht (fun k e => by rintro (h | ⟨j, h⟩) <;> omega), h.o.ready.kp k ht (fun k e => by rintro (h | ⟨j, h⟩) <;> rcases e with e | ⟨i, e⟩ <;> omega), n, h.o.doms.kp k ht (fun k e => by rintro (h | ⟨j, h⟩) <;> omega), h.o.time⟩⟩
theorem BoxT.doms {W W' : World} {wb : Nat} {tag tag' : Nat → Nat} {V : Nat → Value} {p : PW} (h : BoxT W wb tag V p) (k : Kp (fun k => tag k = 11) W W') (ht : ∀ k, k < W.heap.size → tag' k = tag k) {x : List Int} (n : InT W' tag' 11 3 1 (V 9) (x.length, ints x)) : BoxT W' wb tag' V { p with doms := x } :=
 ⟨range_kp h.r k (by rw [h.g]; decide), there_kp h.t k (by rw [h.g]; decide), (ht wb h.lt).trans h.g, ⟨h.o.ram.kp k ht (fun k e => by omega), h.o.kinds.kp k ht (fun k e => by omega), h.o.slots.kp k ht (fun k e => by omega), h.o.tasks.kp k ht (fun k e => by omega), h.o.lines.kp k ht (fun k e => by rcases e with e | ⟨i, e⟩ <;> omega), h.o.bits.kp k ht (fun k e => by omega), h.o.cores.kp k ht (fun k e => by omega), h.o.ready.kp k ht (fun k e => by rcases e with e | ⟨i, e⟩ <;> omega), h.o.tlbs.kp k ht (fun k e => by rcases e with e | ⟨i, e⟩ <;> omega), n, h.o.time⟩⟩
theorem InT.cells {w : World} {tag : Nat → Nat} {t I s n g cap : Nat} {xs : List Value} (h : InT w tag t I s (.slice (some ⟨g, 0, none⟩) n cap) (n, xs)) (o : Nat) (vs : List Value) : InT (w.setCells g o vs) tag t I s (.slice (some ⟨g, 0, none⟩) n cap) (n, spl xs o vs) ∧ Kp (fun k => tag k = t) w (w.setCells g o vs) :=
 ⟨⟨owns_spl vs o w xs h.1, h.2⟩, kp_sets (T := fun k => tag k = t) vs o w (h.2 g rfl)⟩
theorem InT.there {w : World} {tag : Nat → Nat} {t I s n g cap : Nat} {xs : List Value} (h : InT w tag t I s (.slice (some ⟨g, 0, none⟩) n cap) (n, xs)) (o m : Nat) (hm : o + m ≤ n * s) : w.there g o m := fun j hj => by
 refine ⟨?_, h.1.frozenAt _⟩
 have hl : xs.length = n * s := h.1.1
 have h2 : o + j < n * s := by omega
 have h3 : w.cell? ⟨g, o + j, none⟩ = xs[o + j]? := h.1.cellAt (o + j) h2
 rw [h3, List.getElem?_eq_getElem (by omega)]
 rfl
theorem BoxT.slotsCell {W : World} {wb : Nat} {tag : Nat → Nat} {V : Nat → Value} {p : PW} (h : BoxT W wb tag V p) {g cap : Nat} (e : V 2 = .slice (some ⟨g, 0, none⟩) p.slots.length cap) {i k : Nat} (hi : i < p.slots.length) (hk : k < 7) (x : Int) :
  BoxT (W.setCell ⟨g, i * 7 + k, none⟩ (.int .i64 x)) wb tag V { p with slots := p.slots.set i (upd p.slots[i] k x) } ∧ Kt tag tag W (W.setCell ⟨g, i * 7 + k, none⟩ (.int .i64 x)) := by
 have h2 := h.o.slots
 rw [e] at h2
 obtain ⟨h3, h4⟩ := h2.cell (i * 7 + k) (.int .i64 x)
 rw [rowsC_cell 7 (by decide) p.slots i k hi hk x] at h3
 refine ⟨h.slots h4 (fun _ _ => rfl) ?_, .of h4 (fun k e => by omega) (fun _ _ => rfl)⟩
 rw [List.length_set, e]
 exact h3
theorem BoxT.slotsRow {W : World} {wb : Nat} {tag : Nat → Nat} {V : Nat → Value} {p : PW} (h : BoxT W wb tag V p) {g cap : Nat} (e : V 2 = .slice (some ⟨g, 0, none⟩) p.slots.length cap) {i : Nat} (hi : i < p.slots.length) (f : Nat → Int) :
  BoxT (W.setCells g (i * 7) (cf 7 f)) wb tag V { p with slots := p.slots.set i f } ∧ Kt tag tag W (W.setCells g (i * 7) (cf 7 f)) := by
 have h2 := h.o.slots
 rw [e] at h2
 obtain ⟨h3, h4⟩ := h2.cells (i * 7) (cf 7 f)
 rw [rowsC_set 7 (by decide) p.slots i hi f] at h3
 refine ⟨h.slots h4 (fun _ _ => rfl) ?_, .of h4 (fun k e => by omega) (fun _ _ => rfl)⟩
 rw [List.length_set, e]
 exact h3
theorem BoxT.ramCell {W : World} {wb : Nat} {tag : Nat → Nat} {V : Nat → Value} {p : PW} (h : BoxT W wb tag V p) {g cap : Nat} (e : V 0 = .slice (some ⟨g, 0, none⟩) p.ram.length cap) (i : Nat) (x : Int) :
  BoxT (W.setCell ⟨g, i, none⟩ (.int .i64 x)) wb tag V { p with ram := p.ram.set i x } ∧ Kt tag tag W (W.setCell ⟨g, i, none⟩ (.int .i64 x)) := by
 have h2 := h.o.ram
 rw [e] at h2
 obtain ⟨h3, h4⟩ := h2.cell i (.int .i64 x)
 rw [ints_set] at h3
 refine ⟨h.ram h4 (fun _ _ => rfl) ?_, .of h4 (fun k e => by omega) (fun _ _ => rfl)⟩
 rw [List.length_set, e]
 exact h3
theorem BoxT.kindsCell {W : World} {wb : Nat} {tag : Nat → Nat} {V : Nat → Value} {p : PW} (h : BoxT W wb tag V p) {g cap : Nat} (e : V 1 = .slice (some ⟨g, 0, none⟩) p.kinds.length cap) (i : Nat) (x : Int) :
  BoxT (W.setCell ⟨g, i, none⟩ (.int .i64 x)) wb tag V { p with kinds := p.kinds.set i x } ∧ Kt tag tag W (W.setCell ⟨g, i, none⟩ (.int .i64 x)) := by
 have h2 := h.o.kinds
 rw [e] at h2
 obtain ⟨h3, h4⟩ := h2.cell i (.int .i64 x)
 rw [ints_set] at h3
 refine ⟨h.kinds h4 (fun _ _ => rfl) ?_, .of h4 (fun k e => by omega) (fun _ _ => rfl)⟩
 rw [List.length_set, e]
 exact h3
theorem BoxT.slotsAt {W : World} {wb : Nat} {tag : Nat → Nat} {V : Nat → Value} {p : PW} (h : BoxT W wb tag V p) {g cap : Nat} (e : V 2 = .slice (some ⟨g, 0, none⟩) p.slots.length cap) {i k : Nat} (hi : i < p.slots.length) (hk : k < 7) : W.cell? ⟨g, i * 7 + k, none⟩ = some (.int .i64 (p.slots[i] k)) := by
 have h2 := h.o.slots
 rw [e] at h2
 exact h2.range hi k _ (cf_at 7 _ k hk)
section
variable {P : Program} {ops : Array Oper} {Q : Exit → Act → World → Prop} {md : Region.Mode} {S R : World → Prop} {fs : List Nat}
end
end Go.Proofs.YtkocmkaeaagbaaaGreatDoor.Wd
