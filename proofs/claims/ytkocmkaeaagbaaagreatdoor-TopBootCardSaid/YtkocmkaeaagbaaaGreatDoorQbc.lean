/- A key is made from another one, by the document: keyholdref.CopyKey, walked. (Written by mk_ck.py.) · tree.Copy and keyholdlaw.TreeCopies, walked. (Written by mk_tc2.py.) · The rest of GRf: what few laws reach. · What sched.Start, sched.Stop and sched.Rank do, walked. (Written by mk_sc.py.) · Starting, stopping and ranking a task, by the document: keyholdref.Started, Stop, Ranked; walked. (Written by mk_scref.py.) · sched.Start, Stop, Rank and keyholdlaw.SchedTurns, walked. (Written by mk_sclaw.py.) -/
import Derived.BigGuard
import Derived.Deep.RegionHeld3
import Derived.Test.YtkocmkaeaagbaaaGreatDoorQas
import Derived.Test.YtkocmkaeaagbaaaGreatDoorQau
import Derived.Test.YtkocmkaeaagbaaaGreatDoorQap
import Derived.Test.YtkocmkaeaagbaaaGreatDoorQav
import Derived.Test.YtkocmkaeaagbaaaGreatDoorQao
namespace Go.Proofs.YtkocmkaeaagbaaaGreatDoor.Wd
open Go.RowKit Go.Proofs.YtkocmkaeaagbaaaGreatDoor.Mem Go.Proofs.YtkocmkaeaagbaaaGreatDoor.Bw Go.Proofs.YtkocmkaeaagbaaaGreatDoor.Nums Go.Proofs.YtkocmkaeaagbaaaGreatDoor.Mmu
end Go.Proofs.YtkocmkaeaagbaaaGreatDoor.Wd
namespace Go.Proofs.YtkocmkaeaagbaaaGreatDoor.Wd
open Go.RowKit Go.Proofs.YtkocmkaeaagbaaaGreatDoor.Mem Go.Proofs.YtkocmkaeaagbaaaGreatDoor.Bw Go.Proofs.YtkocmkaeaagbaaaGreatDoor.Nums Go.Proofs.YtkocmkaeaagbaaaGreatDoor.Mmu
theorem cf_c1 (args : Array Value) (W : World) : (callFunc 166 args).run Tryz.prog W = .ok (.enter 166 args) W := by
 go_simp
set_option maxRecDepth 100000 in
set_option maxHeartbeats 4000000 in
theorem treeCopy_any (V : Nat → Value) (p : PW) (a b r g : Int) (w : World) (hv : WorldV w V p) (hp : p.Fits) :
  Calls Tryz.prog 123 #[.agg (arr11 V), .int .i64 a, .int .i64 b, .int .i64 r, .int .i64 g] w fun x w' => ∃ X, x = .returned (.tuple #[.agg (arr11 X), eV (dE p (cpE p a b r g))]) ∧ FarV w' w.heap.size X (dP p (cpP p a b r g) (cpE p a b r g)) ∧ Below w.heap.size w w' := by
 have RG0 := boxed w V 28
 have RG1 := range_below RG0 (bal (Below.refl _ (w.alloc (.cells (arr11 V) 28))) (.cells #[.int .i64 a] 3))
 have RG2 := range_below RG1 (bal (Below.refl _ ((w.alloc (.cells (arr11 V) 28)).alloc (.cells #[.int .i64 a] 3))) (.cells #[.int .i64 b] 3))
 have RG3 := range_below RG2 (bal (Below.refl _ (((w.alloc (.cells (arr11 V) 28)).alloc (.cells #[.int .i64 a] 3)).alloc (.cells #[.int .i64 b] 3))) (.cells #[.int .i64 r] 3))
 have RG4 := range_below RG3 (bal (Below.refl _ ((((w.alloc (.cells (arr11 V) 28)).alloc (.cells #[.int .i64 a] 3)).alloc (.cells #[.int .i64 b] 3)).alloc (.cells #[.int .i64 r] 3))) (.cells #[.int .i64 g] 3))
 have RG5 := range_below RG4 (bal (Below.refl _ (((((w.alloc (.cells (arr11 V) 28)).alloc (.cells #[.int .i64 a] 3)).alloc (.cells #[.int .i64 b] 3)).alloc (.cells #[.int .i64 r] 3)).alloc (.cells #[.int .i64 g] 3))) (.cells #[.slice none 0 0, .slice none 0 0, .slice none 0 0, .slice none 0 0, .slice none 0 0, .slice none 0 0, .slice none 0 0, .slice none 0 0, .slice none 0 0, .slice none 0 0, .int .i64 0] 28))
 have RG := hid RG5
 have B0 := hid (bal (bal (bal (bal (bal (bal (Below.refl w.heap.size w) (.cells (arr11 V) 28)) (.cells #[.int .i64 a] 3)) (.cells #[.int .i64 b] 3)) (.cells #[.int .i64 r] 3)) (.cells #[.int .i64 g] 3)) (.cells #[.slice none 0 0, .slice none 0 0, .slice none 0 0, .slice none 0 0, .slice none 0 0, .slice none 0 0, .slice none 0 0, .slice none 0 0, .slice none 0 0, .slice none 0 0, .int .i64 0] 28))
 have y1 := (cells_alloc (cells_alloc (cells_alloc (cells_alloc (cells_at (w.alloc (.cells (arr11 V) 28)) #[.int .i64 a] 3 (w.heap.size + 1) (by simp)) (by simp) (.cells #[.int .i64 b] 3)) (by simp) (.cells #[.int .i64 r] 3)) (by simp) (.cells #[.int .i64 g] 3)) (by simp) (.cells #[.slice none 0 0, .slice none 0 0, .slice none 0 0, .slice none 0 0, .slice none 0 0, .slice none 0 0, .slice none 0 0, .slice none 0 0, .slice none 0 0, .slice none 0 0, .int .i64 0] 28)) 0
 have y2 := (cells_alloc (cells_alloc (cells_alloc (cells_at ((w.alloc (.cells (arr11 V) 28)).alloc (.cells #[.int .i64 a] 3)) #[.int .i64 b] 3 (w.heap.size + 2) (by simp)) (by simp) (.cells #[.int .i64 r] 3)) (by simp) (.cells #[.int .i64 g] 3)) (by simp) (.cells #[.slice none 0 0, .slice none 0 0, .slice none 0 0, .slice none 0 0, .slice none 0 0, .slice none 0 0, .slice none 0 0, .slice none 0 0, .slice none 0 0, .slice none 0 0, .int .i64 0] 28)) 0
 have y3 := (cells_alloc (cells_alloc (cells_at (((w.alloc (.cells (arr11 V) 28)).alloc (.cells #[.int .i64 a] 3)).alloc (.cells #[.int .i64 b] 3)) #[.int .i64 r] 3 (w.heap.size + 3) (by simp)) (by simp) (.cells #[.int .i64 g] 3)) (by simp) (.cells #[.slice none 0 0, .slice none 0 0, .slice none 0 0, .slice none 0 0, .slice none 0 0, .slice none 0 0, .slice none 0 0, .slice none 0 0, .slice none 0 0, .slice none 0 0, .int .i64 0] 28)) 0
 have y4 := (cells_alloc (cells_at ((((w.alloc (.cells (arr11 V) 28)).alloc (.cells #[.int .i64 a] 3)).alloc (.cells #[.int .i64 b] 3)).alloc (.cells #[.int .i64 r] 3)) #[.int .i64 g] 3 (w.heap.size + 4) (by simp)) (by simp) (.cells #[.slice none 0 0, .slice none 0 0, .slice none 0 0, .slice none 0 0, .slice none 0 0, .slice none 0 0, .slice none 0 0, .slice none 0 0, .slice none 0 0, .slice none 0 0, .int .i64 0] 28)) 0
 have HC := hid (show Caps4 (w.heap.size + 1) (w.heap.size + 2) (w.heap.size + 3) (w.heap.size + 4) a b r g ((((((w.alloc (.cells (arr11 V) 28)).alloc (.cells #[.int .i64 a] 3)).alloc (.cells #[.int .i64 b] 3)).alloc (.cells #[.int .i64 r] 3)).alloc (.cells #[.int .i64 g] 3)).alloc (.cells #[.slice none 0 0, .slice none 0 0, .slice none 0 0, .slice none 0 0, .slice none 0 0, .slice none 0 0, .slice none 0 0, .slice none 0 0, .slice none 0 0, .slice none 0 0, .int .i64 0] 28)) from ⟨y1, y2, y3, y4⟩)
 have SZ := hid (show ((((((w.alloc (.cells (arr11 V) 28)).alloc (.cells #[.int .i64 a] 3)).alloc (.cells #[.int .i64 b] 3)).alloc (.cells #[.int .i64 r] 3)).alloc (.cells #[.int .i64 g] 3)).alloc (.cells #[.slice none 0 0, .slice none 0 0, .slice none 0 0, .slice none 0 0, .slice none 0 0, .slice none 0 0, .slice none 0 0, .slice none 0 0, .slice none 0 0, .slice none 0 0, .int .i64 0] 28)).heap.size = w.heap.size + 6 by simp)
 have TR := hid (there_new (((((w.alloc (.cells (arr11 V) 28)).alloc (.cells #[.int .i64 a] 3)).alloc (.cells #[.int .i64 b] 3)).alloc (.cells #[.int .i64 r] 3)).alloc (.cells #[.int .i64 g] 3)) #[.slice none 0 0, .slice none 0 0, .slice none 0 0, .slice none 0 0, .slice none 0 0, .slice none 0 0, .slice none 0 0, .slice none 0 0, .slice none 0 0, .slice none 0 0, .int .i64 0] 28 (w.heap.size + 5) 11 (by simp) (by decide))
 clear RG0 RG1 RG2 RG3 RG4 RG5
 have HL := hid (tlbs_le hv.tlbs)
 have HD := hid (do_far 166 #[ptr (w.heap.size + 1), ptr (w.heap.size + 2), ptr (w.heap.size + 3), ptr (w.heap.size + 4)] (Caps4 (w.heap.size + 1) (w.heap.size + 2) (w.heap.size + 3) (w.heap.size + 4) a b r g) V p (cpP p a b r g) (cpE p a b r g) ((((((w.alloc (.cells (arr11 V) 28)).alloc (.cells #[.int .i64 a] 3)).alloc (.cells #[.int .i64 b] 3)).alloc (.cells #[.int .i64 r] 3)).alloc (.cells #[.int .i64 g] 3)).alloc (.cells #[.slice none 0 0, .slice none 0 0, .slice none 0 0, .slice none 0 0, .slice none 0 0, .slice none 0 0, .slice none 0 0, .slice none 0 0, .slice none 0 0, .slice none 0 0, .int .i64 0] 28)) (hv.below B0.out) hp cf_c1 (fun X h => HC.out.below h) (fun h => (copy_deed _ _ _ _ a b r g p hp HL.out h).f (by show ∀ l ∈ p.tlbs, l.length ≤ 100; exact HL.out)))
 unfold ptr at HD
 generalize dE p (cpE p a b r g) = de at HD ⊢
 generalize dP p (cpP p a b r g) (cpE p a b r g) = dp at HD ⊢
 clear hv hp HL y1 y2 y3 y4
 go_enter Tryz.func123, Tryz.ntmps123
 go_wp2_with (first | ((with_reducible (show wpList _ _ _ (⟨_, Op.load 28 _, _, _, _, _⟩ :: _) _ _)); refine wp_ldWg (by rfl) _ rfl _ rfl V RG.out ?_))
 generalize World.alloc _ _ = W0 at *
 refine HD.out.mono ?_
 rintro q w1 ⟨X, rfl, hF, hb⟩
 have T1 := hid (there_belowO TR.out hb)
 have one := hid (world_one hF.v0)
 have RX := hid (World.rangeAt_setCells_same w1 (w.heap.size + 5) 0 (arr11 X).toList T1.out)
 have BX := hid (below_setCells (btr B0.out hb) (show w.heap.size ≤ w.heap.size + 5 by omega) (arr11 X).toList 0)
 have WX := hid ((hF.put (w.heap.size + 5) 0 (arr11 X).toList (by rw [SZ.out]; omega)).mono (show w.heap.size ≤ _ by rw [SZ.out]; omega))
 clear hF hb HD
 go_wp2_with (first | ((with_reducible (show wpList _ _ _ (⟨_, Op.store 28 _ _, _, _, _, _⟩ :: _) _ _)); refine wpList_store_mid rfl 28 _ _ rfl (w.heap.size + 5) 0 (arr11 X) rfl rfl T1.out infoW one.out ?_))
 exact bodyPost_ret (v := .tuple #[.agg (arr11 X), eV de]) (results_d2 rfl rfl (run_loadVar_mid _ (w.heap.size + 5) 0 28 (arr11 X).toList _ RX.out Tryz.underlying28 rfl infoW) rfl) rfl ⟨X, rfl, WX.out, BX.out⟩
end Go.Proofs.YtkocmkaeaagbaaaGreatDoor.Wd
namespace Go.Proofs.YtkocmkaeaagbaaaGreatDoor.Wd
open Go.RowKit Go.Proofs.YtkocmkaeaagbaaaGreatDoor.Mem Go.Proofs.YtkocmkaeaagbaaaGreatDoor.Bw Go.Proofs.YtkocmkaeaagbaaaGreatDoor.Nums Go.Proofs.YtkocmkaeaagbaaaGreatDoor.Mmu
end Go.Proofs.YtkocmkaeaagbaaaGreatDoor.Wd
namespace Go.Proofs.YtkocmkaeaagbaaaGreatDoor.Wd
open Go.RowKit Go.Proofs.YtkocmkaeaagbaaaGreatDoor.Mem Go.Proofs.YtkocmkaeaagbaaaGreatDoor.Bw Go.Proofs.YtkocmkaeaagbaaaGreatDoor.Nums Go.Proofs.YtkocmkaeaagbaaaGreatDoor.Mmu
set_option maxRecDepth 100000 in
set_option maxHeartbeats 4000000 in
theorem start_deed (c1 : Nat) (t : Nat) (p : PW) (hp : p.Fits) (hs : Snd p) (ht : t < p.kinds.length) (hk : p.kinds[t] = 6) : DeedT 180 #[ptr c1] (CapsT [(c1, .int .i64 t)]) eV p (wnP p t (rdN p t)) (if p.tasks.getD t bl 9 = 0 then 0 else 7) := by
 intro W wb tag V bt hc
 have x1 := (hc (c1, .int .i64 t) (by simp)).1
 have htl : t < p.tasks.length := by rw [hs.lf.tasks]; exact ht
 obtain ⟨g3, cap3, e3⟩ := bt.o.tasks.form (by omega)
 have c3 : W.cell? ⟨wb, 3, none⟩ = some (.slice (some ⟨g3, 0, none⟩) p.tasks.length cap3) := by rw [range_cell bt.r (k := 3) rfl, e3]
 have x9 := bt.taskAt e3 htl (show 9 < 20 by omega)
 have ht2 : (t : Int) < (p.tasks.length : Int) := by omega
 have hl3 : (p.tasks.length : Int) ≤ 1000 := by have := hp.tasks; omega
 obtain ⟨r1, r2, r3, r4⟩ := rdN_eq hs ht hk
 have HW := hid (fun X (h : Below W.heap.size W X) => wake_any wb tag V p t (rdN p t) X (bt.below h) hp htl r1 r3 r4 r2)
 have HQ := hid (fun h9 => start_eq hs ht hk h9 (rdN p t))
 have HC := hid hc
 clear bt hp hs hc e3 r1 r2 r3 r4 htl
 unfold ptr
 simp only [List.append_toArray, List.cons_append, List.nil_append]
 by_cases h9 : p.tasks.getD t bl 9 = 0
 ·have HE := hid (show (if p.tasks.getD t bl 9 = 0 then (0 : Int) else 7) = 0 from if_pos h9)
  have H9 := hid (HQ.out h9)
  rw [h9] at x9
  rw [HE.out]
  clear h9 HQ
  go_enter Tryz.func180, Tryz.ntmps180
  go_upto_region 1 with fail
  go_quiet (fail)
  have BS := hid (below_drewN (Below.refl W.heap.size W) nq)
  generalize World.drewN _ _ = W1 at BS ⊢
  have z1 := (HC.out.kt (.below BS.out) (c1, .int .i64 t) (by simp)).1
  clear x1 x9 c3
  go_wp2_with fail
  refine (HW.out _ BS.out).mono ?_
  rintro r w2 ⟨rfl, tag', h1, h2⟩
  have H1 := hid h1
  have H2 := hid h2
  clear h1 h2
  go_wp2_with fail
  go_ret
  exact ⟨rfl, tag', Kt.trans (.below BS.out) H2.out, fun _ => ⟨V, by rw [← H9.out]; exact H1.out⟩⟩
 ·have HE := hid (show (if p.tasks.getD t bl 9 = 0 then (0 : Int) else 7) = 7 from if_neg h9)
  have h9b : (p.tasks.getD t bl 9 != 0) = true := by simpa using h9
  rw [HE.out]
  generalize p.tasks.getD t bl 9 = y at x9 h9b
  clear h9 HQ HE HW
  go_enter Tryz.func180, Tryz.ntmps180
  go_upto_region 1 with fail
  go_quiet (fail)
  have BS := hid (below_drewN (Below.refl W.heap.size W) nq)
  generalize World.drewN _ _ = W1 at BS ⊢
  go_wp2_with fail
  go_ret
  exact ⟨rfl, tag, Kt.below BS.out⟩
end Go.Proofs.YtkocmkaeaagbaaaGreatDoor.Wd
namespace Go.Proofs.YtkocmkaeaagbaaaGreatDoor.Wd
open Go.RowKit Go.Proofs.YtkocmkaeaagbaaaGreatDoor.Mem Go.Proofs.YtkocmkaeaagbaaaGreatDoor.Bw Go.Proofs.YtkocmkaeaagbaaaGreatDoor.Nums Go.Proofs.YtkocmkaeaagbaaaGreatDoor.Mmu
/-- The error of what is done to a task. -/
def tkE (p : PW) (a e : Int) : Int := if thE p a 6 = 0 then e else thE p a 6
theorem CapsT.sub {cs ds : List (Nat × Value)} {tag : Nat → Nat} {W : World} (h : CapsT cs tag W) (hs : ∀ x ∈ ds, x ∈ cs) : CapsT ds tag W := fun x hx => h x (hs x hx)
set_option maxRecDepth 100000 in
set_option maxHeartbeats 4000000 in
theorem toTask_deed (N1 : Nat) (caps1 : Array Value) (cs1 : List (Nat × Value)) (ct cd : Nat) (a : Int) (p p1 : PW) (e1 : Int) (hp : p.Fits) (hl : ∀ l ∈ p.tlbs, l.length ≤ 100) (hN : ∀ args (W : World), (callFunc N1 args).run Tryz.prog W = .ok (.enter N1 args) W)
  (h1 : thE p a 6 = 0 → DeedT N1 caps1 (CapsT cs1) eV p p1 e1) : DeedT 205 #[ptr ct, ptr cd] (CapsT ((ct, .int .i64 a) :: (cd, .func (.func N1) #[] caps1) :: cs1)) eV p p1 (tkE p a e1) := by
 intro W wb tag V bt hc
 have x1 := (hc (ct, .int .i64 a) (by simp)).1
 have x2 := (hc (cd, .func (.func N1) #[] caps1) (by simp)).1
 have HC := hid (hc.sub (ds := cs1) (fun x hx => by simp [hx]))
 have HT := hid (thing_any wb V p a 6 W (bt.view hp hl))
 have BT := hid bt
 clear bt hc hp hl
 unfold ptr
 simp only [List.append_toArray, List.cons_append, List.nil_append]
 by_cases h0 : thE p a 6 = 0
 ·have HE := hid (show tkE p a e1 = e1 from if_pos h0)
  have HD := hid (h1 h0 W wb tag V BT.out HC.out)
  rw [h0, eV_0] at HT
  rw [HE.out]
  clear h0 h1 HE
  generalize eV e1 = ev at HD ⊢
  go_enter Tryz.func205, Tryz.ntmps205
  go_wp2_with fail
  refine HT.out.mono ?_
  rintro q w1 ⟨rfl, rfl⟩
  go_wp2_with fail
  refine HD.out.mono ?_
  rintro q w2 ⟨rfl, h2⟩
  have H2 := hid h2
  clear h2
  go_wp2_with fail
  go_ret
  exact ⟨rfl, H2.out⟩
 ·have HE := hid (show tkE p a e1 = thE p a 6 from if_neg h0)
  rw [eV_n h0] at HT
  have HN := hid h0
  rw [HE.out, eV_n h0]
  generalize thE p a 6 = x at HT HN ⊢
  clear h0 h1 HE
  go_enter Tryz.func205, Tryz.ntmps205
  go_wp2_with fail
  refine HT.out.mono ?_
  rintro q w1 ⟨rfl, rfl⟩
  go_wp2_with fail
  go_ret
  exact ⟨rfl, tag, Kt.refl _ _, fun h => absurd h HN.out⟩
theorem cf_t0 (args : Array Value) (W : World) : (callFunc 205 args).run Tryz.prog W = .ok (.enter 205 args) W := by
 go_simp
set_option maxRecDepth 100000 in
set_option maxHeartbeats 4000000 in
theorem toTask_any (N1 : Nat) (caps1 : Array Value) (cs1 : List (Nat × Value)) (V : Nat → Value) (p p1 : PW) (a e1 : Int) (w : World) (hv : WorldV w V p) (hp : p.Fits) (hl1 : ∀ l ∈ p1.tlbs, l.length ≤ 100) (hN : ∀ args (W : World), (callFunc N1 args).run Tryz.prog W = .ok (.enter N1 args) W) (hc : Caps cs1 w)
  (h1 : Snd p → thE p a 6 = 0 → DeedT N1 caps1 (CapsT cs1) eV p p1 e1) :
  Calls Tryz.prog 179 #[.agg (arr11 V), .int .i64 a, .func (.func N1) #[] caps1] w fun x w' => ∃ X, x = .returned (.tuple #[.agg (arr11 X), eV (dE p (tkE p a e1))]) ∧ FarV w' w.heap.size X (dP p p1 (tkE p a e1)) ∧ Below w.heap.size w w' := by
 have RG0 := boxed w V 28
 have RG1 := range_below RG0 (bal (Below.refl _ (w.alloc (.cells (arr11 V) 28))) (.cells #[.int .i64 a] 3))
 have RG2 := range_below RG1 (bal (Below.refl _ ((w.alloc (.cells (arr11 V) 28)).alloc (.cells #[.int .i64 a] 3))) (.cells #[.func (.func N1) #[] caps1] 213))
 have RG3 := range_below RG2 (bal (Below.refl _ (((w.alloc (.cells (arr11 V) 28)).alloc (.cells #[.int .i64 a] 3)).alloc (.cells #[.func (.func N1) #[] caps1] 213))) (.cells #[.slice none 0 0, .slice none 0 0, .slice none 0 0, .slice none 0 0, .slice none 0 0, .slice none 0 0, .slice none 0 0, .slice none 0 0, .slice none 0 0, .slice none 0 0, .int .i64 0] 28))
 have RG := hid RG3
 have B0 := hid (bal (bal (bal (bal (Below.refl w.heap.size w) (.cells (arr11 V) 28)) (.cells #[.int .i64 a] 3)) (.cells #[.func (.func N1) #[] caps1] 213)) (.cells #[.slice none 0 0, .slice none 0 0, .slice none 0 0, .slice none 0 0, .slice none 0 0, .slice none 0 0, .slice none 0 0, .slice none 0 0, .slice none 0 0, .slice none 0 0, .int .i64 0] 28))
 have y1 := (cells_alloc (cells_alloc (cells_at (w.alloc (.cells (arr11 V) 28)) #[.int .i64 a] 3 (w.heap.size + 1) (by simp)) (by simp) (.cells #[.func (.func N1) #[] caps1] 213)) (by simp) (.cells #[.slice none 0 0, .slice none 0 0, .slice none 0 0, .slice none 0 0, .slice none 0 0, .slice none 0 0, .slice none 0 0, .slice none 0 0, .slice none 0 0, .slice none 0 0, .int .i64 0] 28)) 0
 have y2 := (cells_alloc (cells_at ((w.alloc (.cells (arr11 V) 28)).alloc (.cells #[.int .i64 a] 3)) #[.func (.func N1) #[] caps1] 213 (w.heap.size + 2) (by simp)) (by simp) (.cells #[.slice none 0 0, .slice none 0 0, .slice none 0 0, .slice none 0 0, .slice none 0 0, .slice none 0 0, .slice none 0 0, .slice none 0 0, .slice none 0 0, .slice none 0 0, .int .i64 0] 28)) 0
 have HC := hid (show Caps (((w.heap.size + 1), .int .i64 a) :: ((w.heap.size + 2), .func (.func N1) #[] caps1) :: cs1) ((((w.alloc (.cells (arr11 V) 28)).alloc (.cells #[.int .i64 a] 3)).alloc (.cells #[.func (.func N1) #[] caps1] 213)).alloc (.cells #[.slice none 0 0, .slice none 0 0, .slice none 0 0, .slice none 0 0, .slice none 0 0, .slice none 0 0, .slice none 0 0, .slice none 0 0, .slice none 0 0, .slice none 0 0, .int .i64 0] 28)) from fun x hx => by
  rcases List.mem_cons.1 hx with rfl | hx
  ·exact y1
  rcases List.mem_cons.1 hx with rfl | hx
  ·exact y2
  ·exact (hc.below B0.out) x hx)
 have SZ := hid (show ((((w.alloc (.cells (arr11 V) 28)).alloc (.cells #[.int .i64 a] 3)).alloc (.cells #[.func (.func N1) #[] caps1] 213)).alloc (.cells #[.slice none 0 0, .slice none 0 0, .slice none 0 0, .slice none 0 0, .slice none 0 0, .slice none 0 0, .slice none 0 0, .slice none 0 0, .slice none 0 0, .slice none 0 0, .int .i64 0] 28)).heap.size = w.heap.size + 4 by simp)
 have TR := hid (there_new (((w.alloc (.cells (arr11 V) 28)).alloc (.cells #[.int .i64 a] 3)).alloc (.cells #[.func (.func N1) #[] caps1] 213)) #[.slice none 0 0, .slice none 0 0, .slice none 0 0, .slice none 0 0, .slice none 0 0, .slice none 0 0, .slice none 0 0, .slice none 0 0, .slice none 0 0, .slice none 0 0, .int .i64 0] 28 (w.heap.size + 3) 11 (by simp) (by decide))
 clear RG0 RG1 RG2 RG3
 have HL := hid (tlbs_le hv.tlbs)
 have HD := hid (do_far 205 #[ptr (w.heap.size + 1), ptr (w.heap.size + 2)] (Caps (((w.heap.size + 1), .int .i64 a) :: ((w.heap.size + 2), .func (.func N1) #[] caps1) :: cs1)) V p p1 (tkE p a e1) ((((w.alloc (.cells (arr11 V) 28)).alloc (.cells #[.int .i64 a] 3)).alloc (.cells #[.func (.func N1) #[] caps1] 213)).alloc (.cells #[.slice none 0 0, .slice none 0 0, .slice none 0 0, .slice none 0 0, .slice none 0 0, .slice none 0 0, .slice none 0 0, .slice none 0 0, .slice none 0 0, .slice none 0 0, .int .i64 0] 28)) (hv.below B0.out) hp cf_t0 (fun X h => HC.out.below h) (fun h => (toTask_deed N1 caps1 cs1 _ _ a p p1 e1 hp HL.out hN (h1 h)).caps hl1))
 unfold ptr at HD
 generalize dE p (tkE p a e1) = de at HD ⊢
 generalize dP p p1 (tkE p a e1) = dp at HD ⊢
 clear hv hp HL y1 y2 hc h1
 go_enter Tryz.func179, Tryz.ntmps179
 go_wp2_with (first | ((with_reducible (show wpList _ _ _ (⟨_, Op.load 28 _, _, _, _, _⟩ :: _) _ _)); refine wp_ldWg (by rfl) _ rfl _ rfl V RG.out ?_))
 generalize World.alloc _ _ = W0 at *
 refine HD.out.mono ?_
 rintro q w1 ⟨X, rfl, hF, hb⟩
 have T1 := hid (there_belowO TR.out hb)
 have one := hid (world_one hF.v0)
 have RX := hid (World.rangeAt_setCells_same w1 (w.heap.size + 3) 0 (arr11 X).toList T1.out)
 have BX := hid (below_setCells (btr B0.out hb) (show w.heap.size ≤ w.heap.size + 3 by omega) (arr11 X).toList 0)
 have WX := hid ((hF.put (w.heap.size + 3) 0 (arr11 X).toList (by rw [SZ.out]; omega)).mono (show w.heap.size ≤ _ by rw [SZ.out]; omega))
 clear hF hb HD
 go_wp2_with (first | ((with_reducible (show wpList _ _ _ (⟨_, Op.store 28 _ _, _, _, _, _⟩ :: _) _ _)); refine wpList_store_mid rfl 28 _ _ rfl (w.heap.size + 3) 0 (arr11 X) rfl rfl T1.out infoW one.out ?_))
 exact bodyPost_ret (v := .tuple #[.agg (arr11 X), eV de]) (results_d2 rfl rfl (run_loadVar_mid _ (w.heap.size + 3) 0 28 (arr11 X).toList _ RX.out Tryz.underlying28 rfl infoW) rfl) rfl ⟨X, rfl, WX.out, BX.out⟩
theorem cf_s1 (args : Array Value) (W : World) : (callFunc 180 args).run Tryz.prog W = .ok (.enter 180 args) W := by
 go_simp
theorem sr_tk (p : PW) (a : Int) : srE p a = tkE p a (if p.tasks.getD a.toNat bl 9 = 0 then 0 else 7) := rfl
theorem start_deed2 (c1 : Nat) (a : Int) (p : PW) (hp : p.Fits) (hs : Snd p) (h0 : thE p a 6 = 0) : DeedT 180 #[ptr c1] (CapsT [(c1, .int .i64 a)]) eV p (srP p a) (if p.tasks.getD a.toNat bl 9 = 0 then 0 else 7) := by
 obtain ⟨t, ht, rfl, hk⟩ := thE_in h0
 unfold srP
 rw [Int.toNat_natCast]
 exact start_deed c1 t p hp hs ht hk
set_option maxRecDepth 100000 in
set_option maxHeartbeats 4000000 in
theorem start_any2 (V : Nat → Value) (p : PW) (a : Int) (w : World) (hv : WorldV w V p) (hp : p.Fits) :
  Calls Tryz.prog 132 #[.agg (arr11 V), .int .i64 a] w fun x w' => ∃ X, x = .returned (.tuple #[.agg (arr11 X), eV (dE p (srE p a))]) ∧ FarV w' w.heap.size X (dP p (srP p a) (srE p a)) ∧ Below w.heap.size w w' := by
 have RG0 := boxed w V 28
 have RG1 := range_below RG0 (bal (Below.refl _ (w.alloc (.cells (arr11 V) 28))) (.cells #[.int .i64 a] 3))
 have RG2 := range_below RG1 (bal (Below.refl _ ((w.alloc (.cells (arr11 V) 28)).alloc (.cells #[.int .i64 a] 3))) (.cells #[.slice none 0 0, .slice none 0 0, .slice none 0 0, .slice none 0 0, .slice none 0 0, .slice none 0 0, .slice none 0 0, .slice none 0 0, .slice none 0 0, .slice none 0 0, .int .i64 0] 28))
 have RG := hid RG2
 have B0 := hid (bal (bal (bal (Below.refl w.heap.size w) (.cells (arr11 V) 28)) (.cells #[.int .i64 a] 3)) (.cells #[.slice none 0 0, .slice none 0 0, .slice none 0 0, .slice none 0 0, .slice none 0 0, .slice none 0 0, .slice none 0 0, .slice none 0 0, .slice none 0 0, .slice none 0 0, .int .i64 0] 28))
 have y1 := (cells_alloc (cells_at (w.alloc (.cells (arr11 V) 28)) #[.int .i64 a] 3 (w.heap.size + 1) (by simp)) (by simp) (.cells #[.slice none 0 0, .slice none 0 0, .slice none 0 0, .slice none 0 0, .slice none 0 0, .slice none 0 0, .slice none 0 0, .slice none 0 0, .slice none 0 0, .slice none 0 0, .int .i64 0] 28)) 0
 have HC := hid (show Caps [((w.heap.size + 1), .int .i64 a)] (((w.alloc (.cells (arr11 V) 28)).alloc (.cells #[.int .i64 a] 3)).alloc (.cells #[.slice none 0 0, .slice none 0 0, .slice none 0 0, .slice none 0 0, .slice none 0 0, .slice none 0 0, .slice none 0 0, .slice none 0 0, .slice none 0 0, .slice none 0 0, .int .i64 0] 28)) from fun x hx => by
  simp only [List.mem_cons, List.not_mem_nil, or_false] at hx
  subst hx
  exact y1)
 have SZ := hid (show (((w.alloc (.cells (arr11 V) 28)).alloc (.cells #[.int .i64 a] 3)).alloc (.cells #[.slice none 0 0, .slice none 0 0, .slice none 0 0, .slice none 0 0, .slice none 0 0, .slice none 0 0, .slice none 0 0, .slice none 0 0, .slice none 0 0, .slice none 0 0, .int .i64 0] 28)).heap.size = w.heap.size + 3 by simp)
 have TR := hid (there_new ((w.alloc (.cells (arr11 V) 28)).alloc (.cells #[.int .i64 a] 3)) #[.slice none 0 0, .slice none 0 0, .slice none 0 0, .slice none 0 0, .slice none 0 0, .slice none 0 0, .slice none 0 0, .slice none 0 0, .slice none 0 0, .slice none 0 0, .int .i64 0] 28 (w.heap.size + 2) 11 (by simp) (by decide))
 clear RG0 RG1 RG2
 have HL := hid (tlbs_le hv.tlbs)
 rw [sr_tk]
 have HD := hid (toTask_any 180 #[ptr (w.heap.size + 1)] [((w.heap.size + 1), .int .i64 a)] V p (srP p a) a (if p.tasks.getD a.toNat bl 9 = 0 then 0 else 7) (((w.alloc (.cells (arr11 V) 28)).alloc (.cells #[.int .i64 a] 3)).alloc (.cells #[.slice none 0 0, .slice none 0 0, .slice none 0 0, .slice none 0 0, .slice none 0 0, .slice none 0 0, .slice none 0 0, .slice none 0 0, .slice none 0 0, .slice none 0 0, .int .i64 0] 28)) (hv.below B0.out) hp (HL.out) cf_s1 (fun x hx => HC.out x (by simp only [List.mem_cons, List.not_mem_nil, or_false] at hx ⊢; exact hx)) (fun h h0 => start_deed2 _ a p hp h h0))
 unfold ptr at HD
 generalize dE p (tkE p a (if p.tasks.getD a.toNat bl 9 = 0 then 0 else 7)) = de at HD ⊢
 generalize dP p (srP p a) (tkE p a (if p.tasks.getD a.toNat bl 9 = 0 then 0 else 7)) = dp at HD ⊢
 clear hv hp HL HC
 go_enter Tryz.func132, Tryz.ntmps132
 go_wp2_with (first | ((with_reducible (show wpList _ _ _ (⟨_, Op.load 28 _, _, _, _, _⟩ :: _) _ _)); refine wp_ldWg (by rfl) _ rfl _ rfl V RG.out ?_))
 generalize World.alloc _ _ = W0 at *
 refine HD.out.mono ?_
 rintro q w1 ⟨X, rfl, hF, hb⟩
 have T1 := hid (there_belowO TR.out hb)
 have one := hid (world_one hF.v0)
 have RX := hid (World.rangeAt_setCells_same w1 (w.heap.size + 2) 0 (arr11 X).toList T1.out)
 have BX := hid (below_setCells (btr B0.out hb) (show w.heap.size ≤ w.heap.size + 2 by omega) (arr11 X).toList 0)
 have WX := hid ((hF.put (w.heap.size + 2) 0 (arr11 X).toList (by rw [SZ.out]; omega)).mono (show w.heap.size ≤ _ by rw [SZ.out]; omega))
 clear hF hb HD y1
 go_wp2_with (first | ((with_reducible (show wpList _ _ _ (⟨_, Op.store 28 _ _, _, _, _, _⟩ :: _) _ _)); refine wpList_store_mid rfl 28 _ _ rfl (w.heap.size + 2) 0 (arr11 X) rfl rfl T1.out infoW one.out ?_))
 exact bodyPost_ret (v := .tuple #[.agg (arr11 X), eV de]) (results_d2 rfl rfl (run_loadVar_mid _ (w.heap.size + 2) 0 28 (arr11 X).toList _ RX.out Tryz.underlying28 rfl infoW) rfl) rfl ⟨X, rfl, WX.out, BX.out⟩
end Go.Proofs.YtkocmkaeaagbaaaGreatDoor.Wd
