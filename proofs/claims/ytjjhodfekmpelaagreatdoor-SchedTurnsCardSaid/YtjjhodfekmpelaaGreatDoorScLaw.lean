/- sched.Start, Stop, Rank and keyholdlaw.SchedTurns, walked. (Written by mk_sclaw.py.) -/
import Derived.Test.YtjjhodfekmpelaaGreatDoorGLvMore
import Derived.Test.YtjjhodfekmpelaaGreatDoorGRfM2
import Derived.Test.YtjjhodfekmpelaaGreatDoorScB
import Derived.Test.YtjjhodfekmpelaaGreatDoorDdDid
import Derived.Deep.RegionHeld3
namespace Go.Proofs.YtjjhodfekmpelaaGreatDoor.Wd
open Go.RowKit Go.Proofs.YtjjhodfekmpelaaGreatDoor.Mem Go.Proofs.YtjjhodfekmpelaaGreatDoor.Bw Go.Proofs.YtjjhodfekmpelaaGreatDoor.Nums Go.Proofs.YtjjhodfekmpelaaGreatDoor.Mmu
/-- The error of what is done to a task. -/
def tkE (p : PW) (a e : Int) : Int := if thE p a 6 = 0 then e else thE p a 6
theorem CapsT.sub {cs ds : List (Nat × Value)} {tag : Nat → Nat} {W : World} (h : CapsT cs tag W) (hs : ∀ x ∈ ds, x ∈ cs) : CapsT ds tag W := fun x hx => h x (hs x hx)
set_option maxRecDepth 100000 in
set_option maxHeartbeats 4000000 in
theorem toTask_deed (N1 : Nat) (caps1 : Array Value) (cs1 : List (Nat × Value)) (ct cd : Nat) (a : Int) (p p1 : PW) (e1 : Int) (hp : p.Fits) (hl : ∀ l ∈ p.tlbs, l.length ≤ 100) (hN : ∀ args (W : World), (callFunc N1 args).run Tryz.prog W = .ok (.enter N1 args) W)
  (h1 : thE p a 6 = 0 → DeedT N1 caps1 (CapsT cs1) eV p p1 e1) : DeedT 131 #[ptr ct, ptr cd] (CapsT ((ct, .int .i64 a) :: (cd, .func (.func N1) #[] caps1) :: cs1)) eV p p1 (tkE p a e1) := by
 intro W wb tag V bt hc
 have x1 := (hc (ct, .int .i64 a) (by simp)).1
 have x2 := (hc (cd, .func (.func N1) #[] caps1) (by simp)).1
 have HC := hid (hc.sub (ds := cs1) (fun x hx => by simp [hx]))
 have HT := hid (thing_any wb V p a 6 W (bt.view hp hl))
 have BT := hid bt
 clear bt hc hp hl
 unfold ptr
 simp only [List.append_toArray, List.cons_append, List.nil_append]
 by_cases h0 : thE p a 6 = 0
 ·have HE := hid (show tkE p a e1 = e1 from if_pos h0)
  have HD := hid (h1 h0 W wb tag V BT.out HC.out)
  rw [h0, eV_0] at HT
  rw [HE.out]
  clear h0 h1 HE
  generalize eV e1 = ev at HD ⊢
  go_enter Tryz.func131, Tryz.ntmps131
  go_wp2_with fail
  refine HT.out.mono ?_
  rintro q w1 ⟨rfl, rfl⟩
  go_wp2_with fail
  refine HD.out.mono ?_
  rintro q w2 ⟨rfl, h2⟩
  have H2 := hid h2
  clear h2
  go_wp2_with fail
  go_ret
  exact ⟨rfl, H2.out⟩
 ·have HE := hid (show tkE p a e1 = thE p a 6 from if_neg h0)
  rw [eV_n h0] at HT
  have HN := hid h0
  rw [HE.out, eV_n h0]
  generalize thE p a 6 = x at HT HN ⊢
  clear h0 h1 HE
  go_enter Tryz.func131, Tryz.ntmps131
  go_wp2_with fail
  refine HT.out.mono ?_
  rintro q w1 ⟨rfl, rfl⟩
  go_wp2_with fail
  go_ret
  exact ⟨rfl, tag, Kt.refl _ _, fun h => absurd h HN.out⟩
theorem cf_t0 (args : Array Value) (W : World) : (callFunc 131 args).run Tryz.prog W = .ok (.enter 131 args) W := by
 go_simp
set_option maxRecDepth 100000 in
set_option maxHeartbeats 4000000 in
theorem toTask_any (N1 : Nat) (caps1 : Array Value) (cs1 : List (Nat × Value)) (V : Nat → Value) (p p1 : PW) (a e1 : Int) (w : World) (hv : WorldV w V p) (hp : p.Fits) (hl1 : ∀ l ∈ p1.tlbs, l.length ≤ 100) (hN : ∀ args (W : World), (callFunc N1 args).run Tryz.prog W = .ok (.enter N1 args) W) (hc : Caps cs1 w)
  (h1 : Snd p → thE p a 6 = 0 → DeedT N1 caps1 (CapsT cs1) eV p p1 e1) :
  Calls Tryz.prog 69 #[.agg (arr11 V), .int .i64 a, .func (.func N1) #[] caps1] w fun x w' => ∃ X, x = .returned (.tuple #[.agg (arr11 X), eV (dE p (tkE p a e1))]) ∧ FarV w' w.heap.size X (dP p p1 (tkE p a e1)) ∧ Below w.heap.size w w' := by
 have RG0 := boxed w V 28
 have RG1 := range_below RG0 (bal (Below.refl _ (w.alloc (.cells (arr11 V) 28))) (.cells #[.int .i64 a] 3))
 have RG2 := range_below RG1 (bal (Below.refl _ ((w.alloc (.cells (arr11 V) 28)).alloc (.cells #[.int .i64 a] 3))) (.cells #[.func (.func N1) #[] caps1] 77))
 have RG3 := range_below RG2 (bal (Below.refl _ (((w.alloc (.cells (arr11 V) 28)).alloc (.cells #[.int .i64 a] 3)).alloc (.cells #[.func (.func N1) #[] caps1] 77))) (.cells #[.slice none 0 0, .slice none 0 0, .slice none 0 0, .slice none 0 0, .slice none 0 0, .slice none 0 0, .slice none 0 0, .slice none 0 0, .slice none 0 0, .slice none 0 0, .int .i64 0] 28))
 have RG := hid RG3
 have B0 := hid (bal (bal (bal (bal (Below.refl w.heap.size w) (.cells (arr11 V) 28)) (.cells #[.int .i64 a] 3)) (.cells #[.func (.func N1) #[] caps1] 77)) (.cells #[.slice none 0 0, .slice none 0 0, .slice none 0 0, .slice none 0 0, .slice none 0 0, .slice none 0 0, .slice none 0 0, .slice none 0 0, .slice none 0 0, .slice none 0 0, .int .i64 0] 28))
 have y1 := (cells_alloc (cells_alloc (cells_at (w.alloc (.cells (arr11 V) 28)) #[.int .i64 a] 3 (w.heap.size + 1) (by simp)) (by simp) (.cells #[.func (.func N1) #[] caps1] 77)) (by simp) (.cells #[.slice none 0 0, .slice none 0 0, .slice none 0 0, .slice none 0 0, .slice none 0 0, .slice none 0 0, .slice none 0 0, .slice none 0 0, .slice none 0 0, .slice none 0 0, .int .i64 0] 28)) 0
 have y2 := (cells_alloc (cells_at ((w.alloc (.cells (arr11 V) 28)).alloc (.cells #[.int .i64 a] 3)) #[.func (.func N1) #[] caps1] 77 (w.heap.size + 2) (by simp)) (by simp) (.cells #[.slice none 0 0, .slice none 0 0, .slice none 0 0, .slice none 0 0, .slice none 0 0, .slice none 0 0, .slice none 0 0, .slice none 0 0, .slice none 0 0, .slice none 0 0, .int .i64 0] 28)) 0
 have HC := hid (show Caps (((w.heap.size + 1), .int .i64 a) :: ((w.heap.size + 2), .func (.func N1) #[] caps1) :: cs1) ((((w.alloc (.cells (arr11 V) 28)).alloc (.cells #[.int .i64 a] 3)).alloc (.cells #[.func (.func N1) #[] caps1] 77)).alloc (.cells #[.slice none 0 0, .slice none 0 0, .slice none 0 0, .slice none 0 0, .slice none 0 0, .slice none 0 0, .slice none 0 0, .slice none 0 0, .slice none 0 0, .slice none 0 0, .int .i64 0] 28)) from fun x hx => by
  rcases List.mem_cons.1 hx with rfl | hx
  ·exact y1
  rcases List.mem_cons.1 hx with rfl | hx
  ·exact y2
  ·exact (hc.below B0.out) x hx)
 have SZ := hid (show ((((w.alloc (.cells (arr11 V) 28)).alloc (.cells #[.int .i64 a] 3)).alloc (.cells #[.func (.func N1) #[] caps1] 77)).alloc (.cells #[.slice none 0 0, .slice none 0 0, .slice none 0 0, .slice none 0 0, .slice none 0 0, .slice none 0 0, .slice none 0 0, .slice none 0 0, .slice none 0 0, .slice none 0 0, .int .i64 0] 28)).heap.size = w.heap.size + 4 by simp)
 have TR := hid (there_new (((w.alloc (.cells (arr11 V) 28)).alloc (.cells #[.int .i64 a] 3)).alloc (.cells #[.func (.func N1) #[] caps1] 77)) #[.slice none 0 0, .slice none 0 0, .slice none 0 0, .slice none 0 0, .slice none 0 0, .slice none 0 0, .slice none 0 0, .slice none 0 0, .slice none 0 0, .slice none 0 0, .int .i64 0] 28 (w.heap.size + 3) 11 (by simp) (by decide))
 clear RG0 RG1 RG2 RG3
 have HL := hid (tlbs_le hv.tlbs)
 have HD := hid (do_far 131 #[ptr (w.heap.size + 1), ptr (w.heap.size + 2)] (Caps (((w.heap.size + 1), .int .i64 a) :: ((w.heap.size + 2), .func (.func N1) #[] caps1) :: cs1)) V p p1 (tkE p a e1) ((((w.alloc (.cells (arr11 V) 28)).alloc (.cells #[.int .i64 a] 3)).alloc (.cells #[.func (.func N1) #[] caps1] 77)).alloc (.cells #[.slice none 0 0, .slice none 0 0, .slice none 0 0, .slice none 0 0, .slice none 0 0, .slice none 0 0, .slice none 0 0, .slice none 0 0, .slice none 0 0, .slice none 0 0, .int .i64 0] 28)) (hv.below B0.out) hp cf_t0 (fun X h => HC.out.below h) (fun h => (toTask_deed N1 caps1 cs1 _ _ a p p1 e1 hp HL.out hN (h1 h)).caps hl1))
 unfold ptr at HD
 generalize dE p (tkE p a e1) = de at HD ⊢
 generalize dP p p1 (tkE p a e1) = dp at HD ⊢
 clear hv hp HL y1 y2 hc h1
 go_enter Tryz.func69, Tryz.ntmps69
 go_wp2_with (first | ((with_reducible (show wpList _ _ _ (⟨_, Op.load 28 _, _, _, _, _⟩ :: _) _ _)); refine wp_ldWg (by rfl) _ rfl _ rfl V RG.out ?_))
 generalize World.alloc _ _ = W0 at *
 refine HD.out.mono ?_
 rintro q w1 ⟨X, rfl, hF, hb⟩
 have T1 := hid (there_belowO TR.out hb)
 have one := hid (world_one hF.v0)
 have RX := hid (World.rangeAt_setCells_same w1 (w.heap.size + 3) 0 (arr11 X).toList T1.out)
 have BX := hid (below_setCells (btr B0.out hb) (show w.heap.size ≤ w.heap.size + 3 by omega) (arr11 X).toList 0)
 have WX := hid ((hF.put (w.heap.size + 3) 0 (arr11 X).toList (by rw [SZ.out]; omega)).mono (show w.heap.size ≤ _ by rw [SZ.out]; omega))
 clear hF hb HD
 go_wp2_with (first | ((with_reducible (show wpList _ _ _ (⟨_, Op.store 28 _ _, _, _, _, _⟩ :: _) _ _)); refine wpList_store_mid rfl 28 _ _ rfl (w.heap.size + 3) 0 (arr11 X) rfl rfl T1.out infoW one.out ?_))
 exact bodyPost_ret (v := .tuple #[.agg (arr11 X), eV de]) (results_d2 rfl rfl (run_loadVar_mid _ (w.heap.size + 3) 0 28 (arr11 X).toList _ RX.out Tryz.underlying28 rfl infoW) rfl) rfl ⟨X, rfl, WX.out, BX.out⟩
theorem cf_s1 (args : Array Value) (W : World) : (callFunc 70 args).run Tryz.prog W = .ok (.enter 70 args) W := by
 go_simp
theorem cf_s2 (args : Array Value) (W : World) : (callFunc 72 args).run Tryz.prog W = .ok (.enter 72 args) W := by
 go_simp
theorem cf_s3 (args : Array Value) (W : World) : (callFunc 74 args).run Tryz.prog W = .ok (.enter 74 args) W := by
 go_simp
theorem cf_g1 (args : Array Value) (W : World) : (callFunc 25 args).run Tryz.prog W = .ok (.enter 25 args) W := by
 go_simp
theorem cf_g2 (args : Array Value) (W : World) : (callFunc 27 args).run Tryz.prog W = .ok (.enter 27 args) W := by
 go_simp
theorem cf_g3 (args : Array Value) (W : World) : (callFunc 29 args).run Tryz.prog W = .ok (.enter 29 args) W := by
 go_simp
theorem sr_tk (p : PW) (a : Int) : srE p a = tkE p a (if p.tasks.getD a.toNat bl 9 = 0 then 0 else 7) := rfl
theorem st_tk (p : PW) (a : Int) : thE p a 6 = tkE p a 0 := by
 unfold tkE
 by_cases h : thE p a 6 = 0
 ·rw [if_pos h, h]
 ·rw [if_neg h]
theorem rk_tk (p : PW) (a b : Int) : rkE p a b = tkE p a (if within 0 3 b then 0 else 2) := rfl
theorem rk_tlbs (p : PW) (a b : Int) : (rkP p a b).tlbs = p.tlbs := by
 unfold rkP
 split <;> rfl
theorem start_deed2 (c1 : Nat) (a : Int) (p : PW) (hp : p.Fits) (hs : Snd p) (h0 : thE p a 6 = 0) : DeedT 70 #[ptr c1] (CapsT [(c1, .int .i64 a)]) eV p (srP p a) (if p.tasks.getD a.toNat bl 9 = 0 then 0 else 7) := by
 obtain ⟨t, ht, rfl, hk⟩ := thE_in h0
 unfold srP
 rw [Int.toNat_natCast]
 exact start_deed c1 t p hp hs ht hk
theorem stop_deed2 (c1 : Nat) (a : Int) (p : PW) (hp : p.Fits) (hs : Snd p) (h0 : thE p a 6 = 0) : DeedT 72 #[ptr c1] (CapsT [(c1, .int .i64 a)]) eV p (stP p a.toNat) 0 := by
 obtain ⟨t, ht, rfl, _⟩ := thE_in h0
 rw [Int.toNat_natCast]
 exact stop_deed c1 t p hp hs ht
theorem rank_deed2 (c1 c2 : Nat) (a b : Int) (p : PW) (hp : p.Fits) (hs : Snd p) (h0 : thE p a 6 = 0) : DeedT 74 #[ptr c1, ptr c2] (CapsT [(c1, .int .i64 b), (c2, .int .i64 a)]) eV p (rkP p a b) (if within 0 3 b then 0 else 2) := by
 obtain ⟨t, ht, rfl, hk⟩ := thE_in h0
 exact rank_deed c1 c2 t b p hp hs ht hk
set_option maxRecDepth 100000 in
set_option maxHeartbeats 4000000 in
theorem start_any2 (V : Nat → Value) (p : PW) (a : Int) (w : World) (hv : WorldV w V p) (hp : p.Fits) :
  Calls Tryz.prog 22 #[.agg (arr11 V), .int .i64 a] w fun x w' => ∃ X, x = .returned (.tuple #[.agg (arr11 X), eV (dE p (srE p a))]) ∧ FarV w' w.heap.size X (dP p (srP p a) (srE p a)) ∧ Below w.heap.size w w' := by
 have RG0 := boxed w V 28
 have RG1 := range_below RG0 (bal (Below.refl _ (w.alloc (.cells (arr11 V) 28))) (.cells #[.int .i64 a] 3))
 have RG2 := range_below RG1 (bal (Below.refl _ ((w.alloc (.cells (arr11 V) 28)).alloc (.cells #[.int .i64 a] 3))) (.cells #[.slice none 0 0, .slice none 0 0, .slice none 0 0, .slice none 0 0, .slice none 0 0, .slice none 0 0, .slice none 0 0, .slice none 0 0, .slice none 0 0, .slice none 0 0, .int .i64 0] 28))
 have RG := hid RG2
 have B0 := hid (bal (bal (bal (Below.refl w.heap.size w) (.cells (arr11 V) 28)) (.cells #[.int .i64 a] 3)) (.cells #[.slice none 0 0, .slice none 0 0, .slice none 0 0, .slice none 0 0, .slice none 0 0, .slice none 0 0, .slice none 0 0, .slice none 0 0, .slice none 0 0, .slice none 0 0, .int .i64 0] 28))
 have y1 := (cells_alloc (cells_at (w.alloc (.cells (arr11 V) 28)) #[.int .i64 a] 3 (w.heap.size + 1) (by simp)) (by simp) (.cells #[.slice none 0 0, .slice none 0 0, .slice none 0 0, .slice none 0 0, .slice none 0 0, .slice none 0 0, .slice none 0 0, .slice none 0 0, .slice none 0 0, .slice none 0 0, .int .i64 0] 28)) 0
 have HC := hid (show Caps [((w.heap.size + 1), .int .i64 a)] (((w.alloc (.cells (arr11 V) 28)).alloc (.cells #[.int .i64 a] 3)).alloc (.cells #[.slice none 0 0, .slice none 0 0, .slice none 0 0, .slice none 0 0, .slice none 0 0, .slice none 0 0, .slice none 0 0, .slice none 0 0, .slice none 0 0, .slice none 0 0, .int .i64 0] 28)) from fun x hx => by
  simp only [List.mem_cons, List.not_mem_nil, or_false] at hx
  subst hx
  exact y1)
 have SZ := hid (show (((w.alloc (.cells (arr11 V) 28)).alloc (.cells #[.int .i64 a] 3)).alloc (.cells #[.slice none 0 0, .slice none 0 0, .slice none 0 0, .slice none 0 0, .slice none 0 0, .slice none 0 0, .slice none 0 0, .slice none 0 0, .slice none 0 0, .slice none 0 0, .int .i64 0] 28)).heap.size = w.heap.size + 3 by simp)
 have TR := hid (there_new ((w.alloc (.cells (arr11 V) 28)).alloc (.cells #[.int .i64 a] 3)) #[.slice none 0 0, .slice none 0 0, .slice none 0 0, .slice none 0 0, .slice none 0 0, .slice none 0 0, .slice none 0 0, .slice none 0 0, .slice none 0 0, .slice none 0 0, .int .i64 0] 28 (w.heap.size + 2) 11 (by simp) (by decide))
 clear RG0 RG1 RG2
 have HL := hid (tlbs_le hv.tlbs)
 rw [sr_tk]
 have HD := hid (toTask_any 70 #[ptr (w.heap.size + 1)] [((w.heap.size + 1), .int .i64 a)] V p (srP p a) a (if p.tasks.getD a.toNat bl 9 = 0 then 0 else 7) (((w.alloc (.cells (arr11 V) 28)).alloc (.cells #[.int .i64 a] 3)).alloc (.cells #[.slice none 0 0, .slice none 0 0, .slice none 0 0, .slice none 0 0, .slice none 0 0, .slice none 0 0, .slice none 0 0, .slice none 0 0, .slice none 0 0, .slice none 0 0, .int .i64 0] 28)) (hv.below B0.out) hp (HL.out) cf_s1 (fun x hx => HC.out x (by simp only [List.mem_cons, List.not_mem_nil, or_false] at hx ⊢; exact hx)) (fun h h0 => start_deed2 _ a p hp h h0))
 unfold ptr at HD
 generalize dE p (tkE p a (if p.tasks.getD a.toNat bl 9 = 0 then 0 else 7)) = de at HD ⊢
 generalize dP p (srP p a) (tkE p a (if p.tasks.getD a.toNat bl 9 = 0 then 0 else 7)) = dp at HD ⊢
 clear hv hp HL HC
 go_enter Tryz.func22, Tryz.ntmps22
 go_wp2_with (first | ((with_reducible (show wpList _ _ _ (⟨_, Op.load 28 _, _, _, _, _⟩ :: _) _ _)); refine wp_ldWg (by rfl) _ rfl _ rfl V RG.out ?_))
 generalize World.alloc _ _ = W0 at *
 refine HD.out.mono ?_
 rintro q w1 ⟨X, rfl, hF, hb⟩
 have T1 := hid (there_belowO TR.out hb)
 have one := hid (world_one hF.v0)
 have RX := hid (World.rangeAt_setCells_same w1 (w.heap.size + 2) 0 (arr11 X).toList T1.out)
 have BX := hid (below_setCells (btr B0.out hb) (show w.heap.size ≤ w.heap.size + 2 by omega) (arr11 X).toList 0)
 have WX := hid ((hF.put (w.heap.size + 2) 0 (arr11 X).toList (by rw [SZ.out]; omega)).mono (show w.heap.size ≤ _ by rw [SZ.out]; omega))
 clear hF hb HD y1
 go_wp2_with (first | ((with_reducible (show wpList _ _ _ (⟨_, Op.store 28 _ _, _, _, _, _⟩ :: _) _ _)); refine wpList_store_mid rfl 28 _ _ rfl (w.heap.size + 2) 0 (arr11 X) rfl rfl T1.out infoW one.out ?_))
 exact bodyPost_ret (v := .tuple #[.agg (arr11 X), eV de]) (results_d2 rfl rfl (run_loadVar_mid _ (w.heap.size + 2) 0 28 (arr11 X).toList _ RX.out Tryz.underlying28 rfl infoW) rfl) rfl ⟨X, rfl, WX.out, BX.out⟩
set_option maxRecDepth 100000 in
set_option maxHeartbeats 4000000 in
theorem stop_any2 (V : Nat → Value) (p : PW) (a : Int) (w : World) (hv : WorldV w V p) (hp : p.Fits) :
  Calls Tryz.prog 23 #[.agg (arr11 V), .int .i64 a] w fun x w' => ∃ X, x = .returned (.tuple #[.agg (arr11 X), eV (dE p (thE p a 6))]) ∧ FarV w' w.heap.size X (dP p (stP p a.toNat) (thE p a 6)) ∧ Below w.heap.size w w' := by
 have RG0 := boxed w V 28
 have RG1 := range_below RG0 (bal (Below.refl _ (w.alloc (.cells (arr11 V) 28))) (.cells #[.int .i64 a] 3))
 have RG2 := range_below RG1 (bal (Below.refl _ ((w.alloc (.cells (arr11 V) 28)).alloc (.cells #[.int .i64 a] 3))) (.cells #[.slice none 0 0, .slice none 0 0, .slice none 0 0, .slice none 0 0, .slice none 0 0, .slice none 0 0, .slice none 0 0, .slice none 0 0, .slice none 0 0, .slice none 0 0, .int .i64 0] 28))
 have RG := hid RG2
 have B0 := hid (bal (bal (bal (Below.refl w.heap.size w) (.cells (arr11 V) 28)) (.cells #[.int .i64 a] 3)) (.cells #[.slice none 0 0, .slice none 0 0, .slice none 0 0, .slice none 0 0, .slice none 0 0, .slice none 0 0, .slice none 0 0, .slice none 0 0, .slice none 0 0, .slice none 0 0, .int .i64 0] 28))
 have y1 := (cells_alloc (cells_at (w.alloc (.cells (arr11 V) 28)) #[.int .i64 a] 3 (w.heap.size + 1) (by simp)) (by simp) (.cells #[.slice none 0 0, .slice none 0 0, .slice none 0 0, .slice none 0 0, .slice none 0 0, .slice none 0 0, .slice none 0 0, .slice none 0 0, .slice none 0 0, .slice none 0 0, .int .i64 0] 28)) 0
 have HC := hid (show Caps [((w.heap.size + 1), .int .i64 a)] (((w.alloc (.cells (arr11 V) 28)).alloc (.cells #[.int .i64 a] 3)).alloc (.cells #[.slice none 0 0, .slice none 0 0, .slice none 0 0, .slice none 0 0, .slice none 0 0, .slice none 0 0, .slice none 0 0, .slice none 0 0, .slice none 0 0, .slice none 0 0, .int .i64 0] 28)) from fun x hx => by
  simp only [List.mem_cons, List.not_mem_nil, or_false] at hx
  subst hx
  exact y1)
 have SZ := hid (show (((w.alloc (.cells (arr11 V) 28)).alloc (.cells #[.int .i64 a] 3)).alloc (.cells #[.slice none 0 0, .slice none 0 0, .slice none 0 0, .slice none 0 0, .slice none 0 0, .slice none 0 0, .slice none 0 0, .slice none 0 0, .slice none 0 0, .slice none 0 0, .int .i64 0] 28)).heap.size = w.heap.size + 3 by simp)
 have TR := hid (there_new ((w.alloc (.cells (arr11 V) 28)).alloc (.cells #[.int .i64 a] 3)) #[.slice none 0 0, .slice none 0 0, .slice none 0 0, .slice none 0 0, .slice none 0 0, .slice none 0 0, .slice none 0 0, .slice none 0 0, .slice none 0 0, .slice none 0 0, .int .i64 0] 28 (w.heap.size + 2) 11 (by simp) (by decide))
 clear RG0 RG1 RG2
 have HL := hid (tlbs_le hv.tlbs)
 rw [st_tk]
 have HD := hid (toTask_any 72 #[ptr (w.heap.size + 1)] [((w.heap.size + 1), .int .i64 a)] V p (stP p a.toNat) a (0) (((w.alloc (.cells (arr11 V) 28)).alloc (.cells #[.int .i64 a] 3)).alloc (.cells #[.slice none 0 0, .slice none 0 0, .slice none 0 0, .slice none 0 0, .slice none 0 0, .slice none 0 0, .slice none 0 0, .slice none 0 0, .slice none 0 0, .slice none 0 0, .int .i64 0] 28)) (hv.below B0.out) hp (HL.out) cf_s2 (fun x hx => HC.out x (by simp only [List.mem_cons, List.not_mem_nil, or_false] at hx ⊢; exact hx)) (fun h h0 => stop_deed2 _ a p hp h h0))
 unfold ptr at HD
 generalize dE p (tkE p a (0)) = de at HD ⊢
 generalize dP p (stP p a.toNat) (tkE p a (0)) = dp at HD ⊢
 clear hv hp HL HC
 go_enter Tryz.func23, Tryz.ntmps23
 go_wp2_with (first | ((with_reducible (show wpList _ _ _ (⟨_, Op.load 28 _, _, _, _, _⟩ :: _) _ _)); refine wp_ldWg (by rfl) _ rfl _ rfl V RG.out ?_))
 generalize World.alloc _ _ = W0 at *
 refine HD.out.mono ?_
 rintro q w1 ⟨X, rfl, hF, hb⟩
 have T1 := hid (there_belowO TR.out hb)
 have one := hid (world_one hF.v0)
 have RX := hid (World.rangeAt_setCells_same w1 (w.heap.size + 2) 0 (arr11 X).toList T1.out)
 have BX := hid (below_setCells (btr B0.out hb) (show w.heap.size ≤ w.heap.size + 2 by omega) (arr11 X).toList 0)
 have WX := hid ((hF.put (w.heap.size + 2) 0 (arr11 X).toList (by rw [SZ.out]; omega)).mono (show w.heap.size ≤ _ by rw [SZ.out]; omega))
 clear hF hb HD y1
 go_wp2_with (first | ((with_reducible (show wpList _ _ _ (⟨_, Op.store 28 _ _, _, _, _, _⟩ :: _) _ _)); refine wpList_store_mid rfl 28 _ _ rfl (w.heap.size + 2) 0 (arr11 X) rfl rfl T1.out infoW one.out ?_))
 exact bodyPost_ret (v := .tuple #[.agg (arr11 X), eV de]) (results_d2 rfl rfl (run_loadVar_mid _ (w.heap.size + 2) 0 28 (arr11 X).toList _ RX.out Tryz.underlying28 rfl infoW) rfl) rfl ⟨X, rfl, WX.out, BX.out⟩
set_option maxRecDepth 100000 in
set_option maxHeartbeats 4000000 in
theorem rank_any2 (V : Nat → Value) (p : PW) (a b : Int) (w : World) (hv : WorldV w V p) (hp : p.Fits) :
  Calls Tryz.prog 24 #[.agg (arr11 V), .int .i64 a, .int .i64 b] w fun x w' => ∃ X, x = .returned (.tuple #[.agg (arr11 X), eV (dE p (rkE p a b))]) ∧ FarV w' w.heap.size X (dP p (rkP p a b) (rkE p a b)) ∧ Below w.heap.size w w' := by
 have RG0 := boxed w V 28
 have RG1 := range_below RG0 (bal (Below.refl _ (w.alloc (.cells (arr11 V) 28))) (.cells #[.int .i64 a] 3))
 have RG2 := range_below RG1 (bal (Below.refl _ ((w.alloc (.cells (arr11 V) 28)).alloc (.cells #[.int .i64 a] 3))) (.cells #[.int .i64 b] 3))
 have RG3 := range_below RG2 (bal (Below.refl _ (((w.alloc (.cells (arr11 V) 28)).alloc (.cells #[.int .i64 a] 3)).alloc (.cells #[.int .i64 b] 3))) (.cells #[.slice none 0 0, .slice none 0 0, .slice none 0 0, .slice none 0 0, .slice none 0 0, .slice none 0 0, .slice none 0 0, .slice none 0 0, .slice none 0 0, .slice none 0 0, .int .i64 0] 28))
 have RG := hid RG3
 have B0 := hid (bal (bal (bal (bal (Below.refl w.heap.size w) (.cells (arr11 V) 28)) (.cells #[.int .i64 a] 3)) (.cells #[.int .i64 b] 3)) (.cells #[.slice none 0 0, .slice none 0 0, .slice none 0 0, .slice none 0 0, .slice none 0 0, .slice none 0 0, .slice none 0 0, .slice none 0 0, .slice none 0 0, .slice none 0 0, .int .i64 0] 28))
 have y1 := (cells_alloc (cells_alloc (cells_at (w.alloc (.cells (arr11 V) 28)) #[.int .i64 a] 3 (w.heap.size + 1) (by simp)) (by simp) (.cells #[.int .i64 b] 3)) (by simp) (.cells #[.slice none 0 0, .slice none 0 0, .slice none 0 0, .slice none 0 0, .slice none 0 0, .slice none 0 0, .slice none 0 0, .slice none 0 0, .slice none 0 0, .slice none 0 0, .int .i64 0] 28)) 0
 have y2 := (cells_alloc (cells_at ((w.alloc (.cells (arr11 V) 28)).alloc (.cells #[.int .i64 a] 3)) #[.int .i64 b] 3 (w.heap.size + 2) (by simp)) (by simp) (.cells #[.slice none 0 0, .slice none 0 0, .slice none 0 0, .slice none 0 0, .slice none 0 0, .slice none 0 0, .slice none 0 0, .slice none 0 0, .slice none 0 0, .slice none 0 0, .int .i64 0] 28)) 0
 have HC := hid (show Caps [((w.heap.size + 1), .int .i64 a), ((w.heap.size + 2), .int .i64 b)] ((((w.alloc (.cells (arr11 V) 28)).alloc (.cells #[.int .i64 a] 3)).alloc (.cells #[.int .i64 b] 3)).alloc (.cells #[.slice none 0 0, .slice none 0 0, .slice none 0 0, .slice none 0 0, .slice none 0 0, .slice none 0 0, .slice none 0 0, .slice none 0 0, .slice none 0 0, .slice none 0 0, .int .i64 0] 28)) from fun x hx => by
  simp only [List.mem_cons, List.not_mem_nil, or_false] at hx
  rcases hx with rfl | rfl
  ·exact y1
  ·exact y2)
 have SZ := hid (show ((((w.alloc (.cells (arr11 V) 28)).alloc (.cells #[.int .i64 a] 3)).alloc (.cells #[.int .i64 b] 3)).alloc (.cells #[.slice none 0 0, .slice none 0 0, .slice none 0 0, .slice none 0 0, .slice none 0 0, .slice none 0 0, .slice none 0 0, .slice none 0 0, .slice none 0 0, .slice none 0 0, .int .i64 0] 28)).heap.size = w.heap.size + 4 by simp)
 have TR := hid (there_new (((w.alloc (.cells (arr11 V) 28)).alloc (.cells #[.int .i64 a] 3)).alloc (.cells #[.int .i64 b] 3)) #[.slice none 0 0, .slice none 0 0, .slice none 0 0, .slice none 0 0, .slice none 0 0, .slice none 0 0, .slice none 0 0, .slice none 0 0, .slice none 0 0, .slice none 0 0, .int .i64 0] 28 (w.heap.size + 3) 11 (by simp) (by decide))
 clear RG0 RG1 RG2 RG3
 have HL := hid (tlbs_le hv.tlbs)
 rw [rk_tk]
 have HD := hid (toTask_any 74 #[ptr (w.heap.size + 2), ptr (w.heap.size + 1)] [((w.heap.size + 2), .int .i64 b), ((w.heap.size + 1), .int .i64 a)] V p (rkP p a b) a (if within 0 3 b then 0 else 2) ((((w.alloc (.cells (arr11 V) 28)).alloc (.cells #[.int .i64 a] 3)).alloc (.cells #[.int .i64 b] 3)).alloc (.cells #[.slice none 0 0, .slice none 0 0, .slice none 0 0, .slice none 0 0, .slice none 0 0, .slice none 0 0, .slice none 0 0, .slice none 0 0, .slice none 0 0, .slice none 0 0, .int .i64 0] 28)) (hv.below B0.out) hp (by rw [rk_tlbs]; exact HL.out) cf_s3 (fun x hx => HC.out x (by simp only [List.mem_cons, List.not_mem_nil, or_false] at hx ⊢; rcases hx with rfl | rfl <;> simp)) (fun h h0 => rank_deed2 _ _ a b p hp h h0))
 unfold ptr at HD
 generalize dE p (tkE p a (if within 0 3 b then 0 else 2)) = de at HD ⊢
 generalize dP p (rkP p a b) (tkE p a (if within 0 3 b then 0 else 2)) = dp at HD ⊢
 clear hv hp HL HC
 go_enter Tryz.func24, Tryz.ntmps24
 go_wp2_with (first | ((with_reducible (show wpList _ _ _ (⟨_, Op.load 28 _, _, _, _, _⟩ :: _) _ _)); refine wp_ldWg (by rfl) _ rfl _ rfl V RG.out ?_))
 generalize World.alloc _ _ = W0 at *
 refine HD.out.mono ?_
 rintro q w1 ⟨X, rfl, hF, hb⟩
 have T1 := hid (there_belowO TR.out hb)
 have one := hid (world_one hF.v0)
 have RX := hid (World.rangeAt_setCells_same w1 (w.heap.size + 3) 0 (arr11 X).toList T1.out)
 have BX := hid (below_setCells (btr B0.out hb) (show w.heap.size ≤ w.heap.size + 3 by omega) (arr11 X).toList 0)
 have WX := hid ((hF.put (w.heap.size + 3) 0 (arr11 X).toList (by rw [SZ.out]; omega)).mono (show w.heap.size ≤ _ by rw [SZ.out]; omega))
 clear hF hb HD y1 y2
 go_wp2_with (first | ((with_reducible (show wpList _ _ _ (⟨_, Op.store 28 _ _, _, _, _, _⟩ :: _) _ _)); refine wpList_store_mid rfl 28 _ _ rfl (w.heap.size + 3) 0 (arr11 X) rfl rfl T1.out infoW one.out ?_))
 exact bodyPost_ret (v := .tuple #[.agg (arr11 X), eV de]) (results_d2 rfl rfl (run_loadVar_mid _ (w.heap.size + 3) 0 28 (arr11 X).toList _ RX.out Tryz.underlying28 rfl infoW) rfl) rfl ⟨X, rfl, WX.out, BX.out⟩
set_option maxRecDepth 100000 in
theorem startRef_deed (c1 : Nat) (a : Int) (p : PW) (hp : p.Fits) (hl : ∀ l ∈ p.tlbs, l.length ≤ 100) (hs : Snd p) : DeedT 25 #[ptr c1] (CapsT [(c1, .int .i64 a)]) (fun e => .int .i64 e) p (srP p a) (srE p a) := by
 intro W wb tag V bt hc
 have x1 := (hc (c1, .int .i64 a) (by simp)).1
 have HK := hid (started_ref a p hp hl hs W wb tag V bt)
 clear hs hl hp bt hc
 unfold ptr
 simp only [List.append_toArray, List.cons_append, List.nil_append]
 go_enter Tryz.func25, Tryz.ntmps25
 go_wp2_with fail
 refine HK.out.mono ?_
 rintro q w1 ⟨rfl, h1⟩
 have H1 := hid h1
 clear h1
 go_wp2_with fail
 go_ret
 exact ⟨rfl, H1.out⟩
set_option maxRecDepth 100000 in
theorem stopRef_deed (c1 : Nat) (a : Int) (p : PW) (hp : p.Fits) (hl : ∀ l ∈ p.tlbs, l.length ≤ 100) (hs : Snd p) : DeedT 27 #[ptr c1] (CapsT [(c1, .int .i64 a)]) (fun e => .int .i64 e) p (stP p a.toNat) (thE p a 6) := by
 intro W wb tag V bt hc
 have x1 := (hc (c1, .int .i64 a) (by simp)).1
 have HK := hid (stopR_ref a p hp hl hs W wb tag V bt)
 clear hs hl hp bt hc
 unfold ptr
 simp only [List.append_toArray, List.cons_append, List.nil_append]
 go_enter Tryz.func27, Tryz.ntmps27
 go_wp2_with fail
 refine HK.out.mono ?_
 rintro q w1 ⟨rfl, h1⟩
 have H1 := hid h1
 clear h1
 go_wp2_with fail
 go_ret
 exact ⟨rfl, H1.out⟩
set_option maxRecDepth 100000 in
theorem rankRef_deed (c1 c2 : Nat) (a b : Int) (p : PW) (hp : p.Fits) (hl : ∀ l ∈ p.tlbs, l.length ≤ 100) (hs : Snd p) : DeedT 29 #[ptr c1, ptr c2] (CapsT [(c1, .int .i64 a), (c2, .int .i64 b)]) (fun e => .int .i64 e) p (rkP p a b) (rkE p a b) := by
 intro W wb tag V bt hc
 have x1 := (hc (c1, .int .i64 a) (by simp)).1
 have x2 := (hc (c2, .int .i64 b) (by simp)).1
 have HK := hid (ranked_ref a b p hp hl hs W wb tag V bt)
 clear hs hl hp bt hc
 unfold ptr
 simp only [List.append_toArray, List.cons_append, List.nil_append]
 go_enter Tryz.func29, Tryz.ntmps29
 go_wp2_with fail
 refine HK.out.mono ?_
 rintro q w1 ⟨rfl, h1⟩
 have H1 := hid h1
 clear h1
 go_wp2_with fail
 go_ret
 exact ⟨rfl, H1.out⟩
theorem lvs_le {t : Int} {ls : List (List Int)} {n : Nat} (h : ∀ l ∈ ls, l.length ≤ n) : ∀ l ∈ lvs t ls, l.length ≤ n := fun l hl => by
 unfold lvs at hl
 obtain ⟨l0, h2, rfl⟩ := List.mem_map.1 hl
 exact Nat.le_trans (List.length_filter_le _ _) (h l0 h2)
theorem push_le {ls : List (List Int)} {k : Nat} {x : Int} {n : Nat} (h : ∀ l ∈ ls, l.length ≤ n) : ∀ l ∈ ls.set k (ls.getD k [] ++ [x]), l.length ≤ n + 1 := fun l hl => by
 rcases List.mem_or_eq_of_mem_set hl with h1 | h1
 ·exact Nat.le_trans (h l h1) (Nat.le_succ _)
 ·rw [h1, List.length_append, List.getD_eq_getElem?_getD]
  cases e : ls[k]? with
  | none => simp
  | some l0 => exact Nat.succ_le_succ (h l0 (List.mem_of_getElem? e))
theorem task_fits {p : PW} (h : p.Fits) (t k : Nat) (x : Int) : (p.task t k x).Fits := ⟨h.ram, h.kinds, h.slots, by rw [PW.task_len]; exact h.tasks, h.lines, h.line, h.bits, h.cores, h.ready, h.next, h.tlbs, h.doms⟩
theorem wn_fits {p : PW} (h : p.Fits) (hs : ∀ l ∈ p.ready, l.length ≤ 50) (t n : Nat) : (wnP p t n).Fits :=
 ⟨h.ram, h.kinds, h.slots, (task_fits (task_fits h t 9 1) t 14 (-1)).tasks, h.lines, h.line, h.bits, h.cores, by show (p.ready.set n _).length ≤ 1000; rw [List.length_set]; exact h.ready, fun l hl => Nat.le_trans (push_le hs l hl) (by omega), h.tlbs, h.doms⟩
theorem lv_fits {p : PW} (h : p.Fits) (t : Nat) : (lvP p t).Fits :=
 ⟨h.ram, h.kinds, h.slots, (task_fits h t 14 (-1)).tasks, by show (lvs t p.lines).length ≤ 1000; rw [lvs_len]; exact h.lines, lvs_le h.line, h.bits, by show (p.cores.map (noT t)).length ≤ 1000; rw [List.length_map]; exact h.cores, by show (lvs t p.ready).length ≤ 1000; rw [lvs_len]; exact h.ready, lvs_le h.next, h.tlbs, h.doms⟩
theorem wk_fits {p : PW} (h : p.Fits) (hs : ∀ l ∈ p.ready, l.length ≤ 50) (t n : Nat) : (wkP p t n).Fits :=
 have h1 := task_fits (lv_fits h t) t 9 1
 ⟨h.ram, h.kinds, h.slots, h1.tasks, h1.lines, h1.line, h.bits, h1.cores, by show ((lvs t p.ready).set n _).length ≤ 1000; rw [List.length_set]; exact h1.ready, fun l hl => Nat.le_trans (push_le (lvs_le hs) l hl) (by omega), h.tlbs, h.doms⟩
theorem st_fits {p : PW} (h : p.Fits) (t : Nat) : (stP p t).Fits := by
 have h1 := lv_fits h t
 have h2 : ({ p with lines := lvs t p.lines, ready := lvs t p.ready, cores := p.cores.map (noT t), tasks := p.tasks.map (nOw t) } : PW).Fits := ⟨h.ram, h.kinds, h.slots, by show (p.tasks.map (nOw t)).length ≤ 1000; rw [List.length_map]; exact h.tasks, h1.lines, h1.line, h.bits, h1.cores, h1.ready, h1.next, h.tlbs, h.doms⟩
 exact task_fits (task_fits h2 t 9 0) t 14 (-1)
theorem rk_fits {p : PW} (h : p.Fits) (hs : ∀ l ∈ p.ready, l.length ≤ 50) (a b : Int) : (rkP p a b).Fits := by
 unfold rkP
 split
 ·exact wk_fits (task_fits h _ _ _) hs _ _
 ·exact task_fits h _ _ _
set_option maxRecDepth 100000 in
set_option maxHeartbeats 8000000 in
theorem schedTurns_any (V : Nat → Value) (p : PW) (a b : Int) (w : World) (hv : WorldR w V p) (hg : ETok w) :
  Calls Tryz.prog 5 #[.agg (arr11 V), .int .i64 a, .int .i64 b] w fun x w' => x = .returned (.bool true) ∧ Below w.heap.size w w' := by
 have RG0 := boxed w V 28
 have RG1 := range_below RG0 (bal (Below.refl _ (w.alloc (.cells (arr11 V) 28))) (.cells #[.int .i64 a] 3))
 have RG2 := range_below RG1 (bal (Below.refl _ ((w.alloc (.cells (arr11 V) 28)).alloc (.cells #[.int .i64 a] 3))) (.cells #[.int .i64 b] 3))
 have RG := hid RG2
 have B0 := hid (bal (bal (bal (Below.refl w.heap.size w) (.cells (arr11 V) 28)) (.cells #[.int .i64 a] 3)) (.cells #[.int .i64 b] 3))
 have y1 := (cells_alloc (cells_at (w.alloc (.cells (arr11 V) 28)) #[.int .i64 a] 3 (w.heap.size + 1) (by simp)) (by simp) (.cells #[.int .i64 b] 3)) 0
 have y2 := (cells_at ((w.alloc (.cells (arr11 V) 28)).alloc (.cells #[.int .i64 a] 3)) #[.int .i64 b] 3 (w.heap.size + 2) (by simp)) 0
 have HC := hid (show Caps [((w.heap.size + 1), .int .i64 a), ((w.heap.size + 2), .int .i64 b)] (((w.alloc (.cells (arr11 V) 28)).alloc (.cells #[.int .i64 a] 3)).alloc (.cells #[.int .i64 b] 3)) from fun x hx => by
  simp only [List.mem_cons, List.not_mem_nil, or_false] at hx
  rcases hx with rfl | rfl
  ·exact y1
  ·exact y2)
 have SZ := hid (show (((w.alloc (.cells (arr11 V) 28)).alloc (.cells #[.int .i64 a] 3)).alloc (.cells #[.int .i64 b] 3)).heap.size = w.heap.size + 3 by simp)
 clear RG0 RG1 RG2
 have HH := hid (hugeWorld_any V p (((w.alloc (.cells (arr11 V) 28)).alloc (.cells #[.int .i64 a] 3)).alloc (.cells #[.int .i64 b] 3)) (hv.below B0.out))
 by_cases hs : Small p
 rotate_left
 ·rw [huge_t hs] at HH
  clear hv hg hs
  go_enter Tryz.func5, Tryz.ntmps5
  go_wp2_with (first | ((with_reducible (show wpList _ _ _ (⟨_, Op.load 28 _, _, _, _, _⟩ :: _) _ _)); refine wp_ldWg (by rfl) _ rfl _ rfl V RG.out ?_))
  refine HH.out.mono ?_
  rintro q w1 ⟨rfl, hb⟩
  have BB := hid (btr B0.out hb)
  clear hb
  go_wp2_with fail
  go_ret
  exact ⟨rfl, BB.out⟩
 rw [huge_f hs] at HH
 obtain ⟨hw, hp⟩ := small_world hv hs
 have HP := hid hp
 have HV := hid hw
 have HG := hid hg
 have HL := hid (tlbs_le hw.tlbs)
 have HSM := hid hs
 clear hv hg hs hw hp y1 y2
 go_enter Tryz.func5, Tryz.ntmps5
 go_wp2_with (first | ((with_reducible (show wpList _ _ _ (⟨_, Op.load 28 _, _, _, _, _⟩ :: _) _ _)); refine wp_ldWg (by rfl) _ rfl _ rfl V RG.out ?_))
 generalize World.alloc _ _ = W0 at *
 refine HH.out.mono ?_
 rintro q w1 ⟨rfl, hb⟩
 have BW := hid (btr B0.out hb)
 have RW := hid (range_below RG.out hb)
 have CW := hid (HC.out.below hb)
 clear hb HH RG HC B0 SZ
 have z1 := CW.out ((w.heap.size + 1), .int .i64 a) (by simp)
 have z2 := CW.out ((w.heap.size + 2), .int .i64 b) (by simp)
 go_wp2_with (first | ((with_reducible (show wpList _ _ _ (⟨_, Op.load 28 _, _, _, _, _⟩ :: _) _ _)); refine wp_ldWg (by rfl) _ rfl _ rfl V RW.out ?_))
 refine (start_any2 V p a w1 (HV.out.below BW.out) HP.out).mono ?_
 rintro q u1 ⟨X1, rfl, hF, hb⟩
 have hX := hF.v0
 have TN := hid (there_new u1 #[.slice none 0 0, .slice none 0 0, .slice none 0 0, .slice none 0 0, .slice none 0 0, .slice none 0 0, .slice none 0 0, .slice none 0 0, .slice none 0 0, .slice none 0 0, .int .i64 0] 28 u1.heap.size 11 rfl (by decide))
 have one := hid (world_one hX)
 have D3 := hid (show Below u1.heap.size u1 ((u1.alloc (.cells #[.slice none 0 0, .slice none 0 0, .slice none 0 0, .slice none 0 0, .slice none 0 0, .slice none 0 0, .slice none 0 0, .slice none 0 0, .slice none 0 0, .slice none 0 0, .int .i64 0] 28)).setCells u1.heap.size 0 (arr11 X1).toList) from below_setCells (bal (Below.refl _ u1) (.cells #[.slice none 0 0, .slice none 0 0, .slice none 0 0, .slice none 0 0, .slice none 0 0, .slice none 0 0, .slice none 0 0, .slice none 0 0, .slice none 0 0, .slice none 0 0, .int .i64 0] 28)) (Nat.le_refl _) _ 0)
 have D5 := hid (btr hb D3.out)
 have RX1 := hid (World.rangeAt_setCells_same (u1.alloc (.cells #[.slice none 0 0, .slice none 0 0, .slice none 0 0, .slice none 0 0, .slice none 0 0, .slice none 0 0, .slice none 0 0, .slice none 0 0, .slice none 0 0, .slice none 0 0, .int .i64 0] 28)) u1.heap.size 0 (arr11 X1).toList TN.out)
 have WX1 := hid (hX.below D3.out)
 replace RW := hid (range_below RW.out D5.out)
 replace CW := hid (CW.out.below D5.out)
 replace BW := hid (btr BW.out D5.out)
 clear hX hF hb D5 z1 z2
 go_upto_region 4 with (first | ((with_reducible (show wpList _ _ _ (⟨_, Op.store 28 _ _, _, _, _, _⟩ :: _) _ _)); refine wpList_store_mid rfl 28 _ _ rfl u1.heap.size 0 (arr11 X1) rfl rfl TN.out infoW one.out ?_))
 generalize World.setCells _ _ _ _ = W1 at *
 generalize u1.heap.size = xb1 at RX1 ⊢
 clear TN one D3
 have z1 := CW.out ((w.heap.size + 1), .int .i64 a) (by simp)
 have z2 := CW.out ((w.heap.size + 2), .int .i64 b) (by simp)
 go_wp2_with (first | ((with_reducible (show wpList _ _ _ (⟨_, Op.load 28 _, _, _, _, _⟩ :: _) _ _)); refine wp_ldWg (by rfl) _ rfl _ rfl V RW.out ?_))
 refine (stop_any2 V p a W1 (HV.out.below BW.out) HP.out).mono ?_
 rintro q u2 ⟨X2, rfl, hF, hb⟩
 have hX := hF.v0
 have TN := hid (there_new u2 #[.slice none 0 0, .slice none 0 0, .slice none 0 0, .slice none 0 0, .slice none 0 0, .slice none 0 0, .slice none 0 0, .slice none 0 0, .slice none 0 0, .slice none 0 0, .int .i64 0] 28 u2.heap.size 11 rfl (by decide))
 have one := hid (world_one hX)
 have D3 := hid (show Below u2.heap.size u2 ((u2.alloc (.cells #[.slice none 0 0, .slice none 0 0, .slice none 0 0, .slice none 0 0, .slice none 0 0, .slice none 0 0, .slice none 0 0, .slice none 0 0, .slice none 0 0, .slice none 0 0, .int .i64 0] 28)).setCells u2.heap.size 0 (arr11 X2).toList) from below_setCells (bal (Below.refl _ u2) (.cells #[.slice none 0 0, .slice none 0 0, .slice none 0 0, .slice none 0 0, .slice none 0 0, .slice none 0 0, .slice none 0 0, .slice none 0 0, .slice none 0 0, .slice none 0 0, .int .i64 0] 28)) (Nat.le_refl _) _ 0)
 have D5 := hid (btr hb D3.out)
 have RX2 := hid (World.rangeAt_setCells_same (u2.alloc (.cells #[.slice none 0 0, .slice none 0 0, .slice none 0 0, .slice none 0 0, .slice none 0 0, .slice none 0 0, .slice none 0 0, .slice none 0 0, .slice none 0 0, .slice none 0 0, .int .i64 0] 28)) u2.heap.size 0 (arr11 X2).toList TN.out)
 have WX2 := hid (hX.below D3.out)
 replace RX1 := hid (range_below RX1.out D5.out)
 replace WX1 := hid (WX1.out.below D5.out)
 replace RW := hid (range_below RW.out D5.out)
 replace CW := hid (CW.out.below D5.out)
 replace BW := hid (btr BW.out D5.out)
 clear hX hF hb D5 z1 z2
 go_upto_region 5 with (first | ((with_reducible (show wpList _ _ _ (⟨_, Op.store 28 _ _, _, _, _, _⟩ :: _) _ _)); refine wpList_store_mid rfl 28 _ _ rfl u2.heap.size 0 (arr11 X2) rfl rfl TN.out infoW one.out ?_))
 generalize World.setCells _ _ _ _ = W2 at *
 generalize u2.heap.size = xb2 at RX2 ⊢
 clear TN one D3
 have z1 := CW.out ((w.heap.size + 1), .int .i64 a) (by simp)
 have z2 := CW.out ((w.heap.size + 2), .int .i64 b) (by simp)
 go_wp2_with (first | ((with_reducible (show wpList _ _ _ (⟨_, Op.load 28 _, _, _, _, _⟩ :: _) _ _)); refine wp_ldWg (by rfl) _ rfl _ rfl V RW.out ?_))
 refine (rank_any2 V p a b W2 (HV.out.below BW.out) HP.out).mono ?_
 rintro q u3 ⟨X3, rfl, hF, hb⟩
 have hX := hF.v0
 have TN := hid (there_new u3 #[.slice none 0 0, .slice none 0 0, .slice none 0 0, .slice none 0 0, .slice none 0 0, .slice none 0 0, .slice none 0 0, .slice none 0 0, .slice none 0 0, .slice none 0 0, .int .i64 0] 28 u3.heap.size 11 rfl (by decide))
 have one := hid (world_one hX)
 have D3 := hid (show Below u3.heap.size u3 ((u3.alloc (.cells #[.slice none 0 0, .slice none 0 0, .slice none 0 0, .slice none 0 0, .slice none 0 0, .slice none 0 0, .slice none 0 0, .slice none 0 0, .slice none 0 0, .slice none 0 0, .int .i64 0] 28)).setCells u3.heap.size 0 (arr11 X3).toList) from below_setCells (bal (Below.refl _ u3) (.cells #[.slice none 0 0, .slice none 0 0, .slice none 0 0, .slice none 0 0, .slice none 0 0, .slice none 0 0, .slice none 0 0, .slice none 0 0, .slice none 0 0, .slice none 0 0, .int .i64 0] 28)) (Nat.le_refl _) _ 0)
 have D5 := hid (btr hb D3.out)
 have RX3 := hid (World.rangeAt_setCells_same (u3.alloc (.cells #[.slice none 0 0, .slice none 0 0, .slice none 0 0, .slice none 0 0, .slice none 0 0, .slice none 0 0, .slice none 0 0, .slice none 0 0, .slice none 0 0, .slice none 0 0, .int .i64 0] 28)) u3.heap.size 0 (arr11 X3).toList TN.out)
 have WX3 := hid (hX.below D3.out)
 replace RX1 := hid (range_below RX1.out D5.out)
 replace WX1 := hid (WX1.out.below D5.out)
 replace RX2 := hid (range_below RX2.out D5.out)
 replace WX2 := hid (WX2.out.below D5.out)
 replace RW := hid (range_below RW.out D5.out)
 replace CW := hid (CW.out.below D5.out)
 replace BW := hid (btr BW.out D5.out)
 clear hX hF hb D5 z1 z2
 go_upto_region 6 with (first | ((with_reducible (show wpList _ _ _ (⟨_, Op.store 28 _ _, _, _, _, _⟩ :: _) _ _)); refine wpList_store_mid rfl 28 _ _ rfl u3.heap.size 0 (arr11 X3) rfl rfl TN.out infoW one.out ?_))
 generalize World.setCells _ _ _ _ = W3 at *
 generalize u3.heap.size = xb3 at RX3 ⊢
 clear TN one D3
 have BD : Hid (Below W3.heap.size W3 W3.drew) := hid (below_drew W3 1)
 have KS := hid (show ∀ Y, Below W3.heap.size W3 Y → Y.rangeAt xb1 0 (arr11 X1).toList ∧ Y.rangeAt w.heap.size 0 (arr11 V).toList from fun Y h => ⟨range_below RX1.out h, range_below RW.out h⟩)
 have HSO := hid (fun Y (h : Below W3.heap.size W3 Y) => sound_law V p Y (HV.out.below (btr BW.out h)) HP.out)
 have HDI := hid (fun Y (h : Below W3.heap.size W3 Y) => did_any 25 #[ptr (w.heap.size + 1)] (Caps [((w.heap.size + 1), .int .i64 a)]) V X1 p (srP p a) (srE p a) Y (HV.out.below (btr BW.out h)) HP.out (wn_fits HP.out HSM.out.next _ _) (WX1.out.below h) cf_g1 (fun Z hz x hx => (CW.out.below (btr h hz)) x (by simp only [List.mem_cons, List.not_mem_nil, or_false] at hx ⊢; subst hx; simp)) (fun h => (startRef_deed _ a p HP.out HL.out h).caps HL.out) (HG.out.below (btr BW.out h)))
 unfold ptr at HDI
 generalize eV (dE p (srE p a)) = ev at HDI ⊢
 generalize sndE p = se at HSO HDI
 refine wp_region_held_drew (S := fun Y => Y.rangeAt xb1 0 (arr11 X1).toList ∧ Y.rangeAt w.heap.size 0 (arr11 V).toList) (by kernel_rfl) (KS.out _ BD.out) (fun hH0 => ?_)
 have hH := hid hH0
 clear hH0
 refine tg 0 (.agg (arr11 X1)) rfl (yieldsIf_load_mid (by rfl) _ _ rfl _ _ rfl ((arr11 X1).toList) _ (fun _ h => h.1) Tryz.underlying28 rfl infoW) hH.out ?_
 simp only [jj]
 refine tk 1 ev rfl hH.out ?_
 simp only [jj]
 refine tg 2 (.agg (arr11 V)) rfl (yieldsIf_load_mid (by rfl) _ _ rfl _ _ rfl ((arr11 V).toList) _ (fun _ h => h.2) Tryz.underlying28 rfl infoW) hH.out ?_
 simp only [jj]
 refine tg 3 (.agg (arr11 V)) rfl (yieldsIf_load_mid (by rfl) _ _ rfl _ _ rfl ((arr11 V).toList) _ (fun _ h => h.2) Tryz.underlying28 rfl infoW) hH.out ?_
 simp only [jj]
 refine tk 5 (.func (.func 25) #[] #[.pointer (some ⟨w.heap.size + 1, 0, none⟩)]) rfl hH.out ?_
 simp only [jj]
 refine wpAnyH_ready (rs := [4]) (by kernel_rfl) (by simp) (AllReadyH.cons rfl (fun K hK => ?_) AllReadyH.nil)
 go_simp
 refine (HSO.out _ BD.out).mono ?_
 rintro q w4 ⟨rfl, hb⟩
 have A4 := hid (btr BD.out hb)
 clear hb
 go_wp2_with fail
 refine hK.out _ _ (KS.out _ A4.out) (fun hH0 => ?_)
 have hH2 := hid hH0
 clear hK K hH0
 try simp only [Act.put, jD, jE, jF]
 refine wpAnyH_ready (rs := [6]) (by kernel_rfl) (by simp) (AllReadyH.cons rfl (fun K hK => ?_) AllReadyH.nil)
 go_simp
 refine (HDI.out _ A4.out).mono ?_
 rintro q v1 ⟨rfl, hb⟩
 have A5 := hid (btr A4.out hb)
 clear hb
 go_wp2_with fail
 refine hK.out _ _ (KS.out _ A5.out) (fun hH0 => ?_)
 have hH3 := hid hH0
 clear hK K hH0
 try simp only [Act.put, jD, jE, jF]
 refine tk 7 (.bool true) rfl hH3.out ?_
 simp only [jj]
 refine wpAnyH_done (by kernel_rfl) ?_ _
 clear hH hH2 hH3 KS HSO HDI BD A4
 replace RX2 := hid (range_below RX2.out A5.out)
 replace WX2 := hid (WX2.out.below A5.out)
 replace RX3 := hid (range_below RX3.out A5.out)
 replace WX3 := hid (WX3.out.below A5.out)
 replace RW := hid (range_below RW.out A5.out)
 replace CW := hid (CW.out.below A5.out)
 replace BW := hid (btr BW.out A5.out)
 clear A5
 go_upto_region 7 with fail
 have BD : Hid (Below v1.heap.size v1 v1.drew) := hid (below_drew v1 1)
 have KS := hid (show ∀ Y, Below v1.heap.size v1 Y → Y.rangeAt xb2 0 (arr11 X2).toList ∧ Y.rangeAt w.heap.size 0 (arr11 V).toList from fun Y h => ⟨range_below RX2.out h, range_below RW.out h⟩)
 have HSO := hid (fun Y (h : Below v1.heap.size v1 Y) => sound_law V p Y (HV.out.below (btr BW.out h)) HP.out)
 have HDI := hid (fun Y (h : Below v1.heap.size v1 Y) => did_any 27 #[ptr (w.heap.size + 1)] (Caps [((w.heap.size + 1), .int .i64 a)]) V X2 p (stP p a.toNat) (thE p a 6) Y (HV.out.below (btr BW.out h)) HP.out (st_fits HP.out _) (WX2.out.below h) cf_g2 (fun Z hz x hx => (CW.out.below (btr h hz)) x (by simp only [List.mem_cons, List.not_mem_nil, or_false] at hx ⊢; subst hx; simp)) (fun h => (stopRef_deed _ a p HP.out HL.out h).caps HL.out) (HG.out.below (btr BW.out h)))
 unfold ptr at HDI
 generalize eV (dE p (thE p a 6)) = ev at HDI ⊢
 generalize sndE p = se at HSO HDI
 refine wp_region_held_drew (S := fun Y => Y.rangeAt xb2 0 (arr11 X2).toList ∧ Y.rangeAt w.heap.size 0 (arr11 V).toList) (by kernel_rfl) (KS.out _ BD.out) (fun hH0 => ?_)
 have hH := hid hH0
 clear hH0
 refine tg 0 (.agg (arr11 X2)) rfl (yieldsIf_load_mid (by rfl) _ _ rfl _ _ rfl ((arr11 X2).toList) _ (fun _ h => h.1) Tryz.underlying28 rfl infoW) hH.out ?_
 simp only [jj]
 refine tk 1 ev rfl hH.out ?_
 simp only [jj]
 refine tg 2 (.agg (arr11 V)) rfl (yieldsIf_load_mid (by rfl) _ _ rfl _ _ rfl ((arr11 V).toList) _ (fun _ h => h.2) Tryz.underlying28 rfl infoW) hH.out ?_
 simp only [jj]
 refine tg 3 (.agg (arr11 V)) rfl (yieldsIf_load_mid (by rfl) _ _ rfl _ _ rfl ((arr11 V).toList) _ (fun _ h => h.2) Tryz.underlying28 rfl infoW) hH.out ?_
 simp only [jj]
 refine tk 5 (.func (.func 27) #[] #[.pointer (some ⟨w.heap.size + 1, 0, none⟩)]) rfl hH.out ?_
 simp only [jj]
 refine wpAnyH_ready (rs := [4]) (by kernel_rfl) (by simp) (AllReadyH.cons rfl (fun K hK => ?_) AllReadyH.nil)
 go_simp
 refine (HSO.out _ BD.out).mono ?_
 rintro q w4 ⟨rfl, hb⟩
 have A4 := hid (btr BD.out hb)
 clear hb
 go_wp2_with fail
 refine hK.out _ _ (KS.out _ A4.out) (fun hH0 => ?_)
 have hH2 := hid hH0
 clear hK K hH0
 try simp only [Act.put, jD, jE, jF]
 refine wpAnyH_ready (rs := [6]) (by kernel_rfl) (by simp) (AllReadyH.cons rfl (fun K hK => ?_) AllReadyH.nil)
 go_simp
 refine (HDI.out _ A4.out).mono ?_
 rintro q v2 ⟨rfl, hb⟩
 have A5 := hid (btr A4.out hb)
 clear hb
 go_wp2_with fail
 refine hK.out _ _ (KS.out _ A5.out) (fun hH0 => ?_)
 have hH3 := hid hH0
 clear hK K hH0
 try simp only [Act.put, jD, jE, jF]
 refine tk 7 (.bool true) rfl hH3.out ?_
 simp only [jj]
 refine wpAnyH_done (by kernel_rfl) ?_ _
 clear hH hH2 hH3 KS HSO HDI BD A4
 replace RX3 := hid (range_below RX3.out A5.out)
 replace WX3 := hid (WX3.out.below A5.out)
 replace RW := hid (range_below RW.out A5.out)
 replace CW := hid (CW.out.below A5.out)
 replace BW := hid (btr BW.out A5.out)
 clear A5
 go_upto_region 8 with fail
 have BD : Hid (Below v2.heap.size v2 v2.drew) := hid (below_drew v2 1)
 have KS := hid (show ∀ Y, Below v2.heap.size v2 Y → Y.rangeAt xb3 0 (arr11 X3).toList ∧ Y.rangeAt w.heap.size 0 (arr11 V).toList from fun Y h => ⟨range_below RX3.out h, range_below RW.out h⟩)
 have HSO := hid (fun Y (h : Below v2.heap.size v2 Y) => sound_law V p Y (HV.out.below (btr BW.out h)) HP.out)
 have HDI := hid (fun Y (h : Below v2.heap.size v2 Y) => did_any 29 #[ptr (w.heap.size + 1), ptr (w.heap.size + 2)] (Caps [((w.heap.size + 1), .int .i64 a), ((w.heap.size + 2), .int .i64 b)]) V X3 p (rkP p a b) (rkE p a b) Y (HV.out.below (btr BW.out h)) HP.out (rk_fits HP.out HSM.out.next _ _) (WX3.out.below h) cf_g3 (fun Z hz x hx => (CW.out.below (btr h hz)) x (by simp only [List.mem_cons, List.not_mem_nil, or_false] at hx ⊢; exact hx)) (fun h => (rankRef_deed _ _ a b p HP.out HL.out h).caps (by rw [rk_tlbs]; exact HL.out)) (HG.out.below (btr BW.out h)))
 unfold ptr at HDI
 generalize eV (dE p (rkE p a b)) = ev at HDI ⊢
 generalize sndE p = se at HSO HDI
 refine wp_region_held_drew (S := fun Y => Y.rangeAt xb3 0 (arr11 X3).toList ∧ Y.rangeAt w.heap.size 0 (arr11 V).toList) (by kernel_rfl) (KS.out _ BD.out) (fun hH0 => ?_)
 have hH := hid hH0
 clear hH0
 refine tg 0 (.agg (arr11 X3)) rfl (yieldsIf_load_mid (by rfl) _ _ rfl _ _ rfl ((arr11 X3).toList) _ (fun _ h => h.1) Tryz.underlying28 rfl infoW) hH.out ?_
 simp only [jj]
 refine tk 1 ev rfl hH.out ?_
 simp only [jj]
 refine tg 2 (.agg (arr11 V)) rfl (yieldsIf_load_mid (by rfl) _ _ rfl _ _ rfl ((arr11 V).toList) _ (fun _ h => h.2) Tryz.underlying28 rfl infoW) hH.out ?_
 simp only [jj]
 refine tg 3 (.agg (arr11 V)) rfl (yieldsIf_load_mid (by rfl) _ _ rfl _ _ rfl ((arr11 V).toList) _ (fun _ h => h.2) Tryz.underlying28 rfl infoW) hH.out ?_
 simp only [jj]
 refine tk 5 (.func (.func 29) #[] #[.pointer (some ⟨w.heap.size + 1, 0, none⟩), .pointer (some ⟨w.heap.size + 2, 0, none⟩)]) rfl hH.out ?_
 simp only [jj]
 refine wpAnyH_ready (rs := [4]) (by kernel_rfl) (by simp) (AllReadyH.cons rfl (fun K hK => ?_) AllReadyH.nil)
 go_simp
 refine (HSO.out _ BD.out).mono ?_
 rintro q w4 ⟨rfl, hb⟩
 have A4 := hid (btr BD.out hb)
 clear hb
 go_wp2_with fail
 refine hK.out _ _ (KS.out _ A4.out) (fun hH0 => ?_)
 have hH2 := hid hH0
 clear hK K hH0
 try simp only [Act.put, jD, jE, jF]
 refine wpAnyH_ready (rs := [6]) (by kernel_rfl) (by simp) (AllReadyH.cons rfl (fun K hK => ?_) AllReadyH.nil)
 go_simp
 refine (HDI.out _ A4.out).mono ?_
 rintro q v3 ⟨rfl, hb⟩
 have A5 := hid (btr A4.out hb)
 clear hb
 go_wp2_with fail
 refine hK.out _ _ (KS.out _ A5.out) (fun hH0 => ?_)
 have hH3 := hid hH0
 clear hK K hH0
 try simp only [Act.put, jD, jE, jF]
 refine tk 7 (.bool true) rfl hH3.out ?_
 simp only [jj]
 refine wpAnyH_done (by kernel_rfl) ?_ _
 clear hH hH2 hH3 KS HSO HDI BD A4
 replace RW := hid (range_below RW.out A5.out)
 replace CW := hid (CW.out.below A5.out)
 replace BW := hid (btr BW.out A5.out)
 clear A5
 clear RW CW
 go_wp2_with fail
 go_ret
 exact ⟨rfl, BW.out⟩
end Go.Proofs.YtjjhodfekmpelaaGreatDoor.Wd
