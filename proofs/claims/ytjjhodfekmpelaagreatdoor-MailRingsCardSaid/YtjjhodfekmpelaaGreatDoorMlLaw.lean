/- mail.Ring, mail.Listen and keyholdlaw.MailRings, walked. (Written by mk_mllaw.py.) -/
import Derived.Test.YtjjhodfekmpelaaGreatDoorGRfM2
import Derived.Test.YtjjhodfekmpelaaGreatDoorMlHear
import Derived.Test.YtjjhodfekmpelaaGreatDoorDdDid
import Derived.Deep.RegionHeld3
namespace Go.Proofs.YtjjhodfekmpelaaGreatDoor.Wd
open Go.RowKit Go.Proofs.YtjjhodfekmpelaaGreatDoor.Mem Go.Proofs.YtjjhodfekmpelaaGreatDoor.Bw Go.Proofs.YtjjhodfekmpelaaGreatDoor.Nums Go.Proofs.YtjjhodfekmpelaaGreatDoor.Mmu
theorem cf_r1 (args : Array Value) (W : World) : (callFunc 96 args).run Tryz.prog W = .ok (.enter 96 args) W := by
 go_simp
theorem cf_l1 (args : Array Value) (W : World) : (callFunc 97 args).run Tryz.prog W = .ok (.enter 97 args) W := by
 go_simp
theorem cf_g1 (args : Array Value) (W : World) : (callFunc 44 args).run Tryz.prog W = .ok (.enter 44 args) W := by
 go_simp
theorem cf_g2 (args : Array Value) (W : World) : (callFunc 46 args).run Tryz.prog W = .ok (.enter 46 args) W := by
 go_simp
theorem rg_tlbs (p : PW) (b g : Int) : (rgP p b g).tlbs = p.tlbs := by
 unfold rgP
 split <;> rfl
theorem hb_tlbs (p : PW) (t b : Int) : (hbP p t b).tlbs = p.tlbs := by
 unfold hbP
 split <;> rfl
theorem pushl_le {ls : List (List Int)} {k : Nat} {x : Int} {n : Nat} (h : ∀ l ∈ ls, l.length ≤ n) : ∀ l ∈ ls.set k (ls.getD k [] ++ [x]), l.length ≤ n + 1 := fun l hl => by
 rcases List.mem_or_eq_of_mem_set hl with h1 | h1
 ·exact Nat.le_trans (h l h1) (Nat.le_succ _)
 ·rw [h1, List.length_append, List.getD_eq_getElem?_getD]
  cases e : ls[k]? with
  | none => simp
  | some l0 => exact Nat.succ_le_succ (h l0 (List.mem_of_getElem? e))
theorem bits_fits {p : PW} (h : p.Fits) (a : Nat) (x : Int) : ({ p with bits := p.bits.set a x } : PW).Fits := ⟨h.ram, h.kinds, h.slots, h.tasks, h.lines, h.line, by show (p.bits.set a x).length ≤ 1000; rw [List.length_set]; exact h.bits, h.cores, h.ready, h.next, h.tlbs, h.doms⟩
theorem wn_fits {p : PW} (h : p.Fits) (hs : ∀ l ∈ p.ready, l.length ≤ 50) (t n : Nat) : (wnP p t n).Fits :=
 ⟨h.ram, h.kinds, h.slots, (tsk_fits (tsk_fits h t 9 1) t 14 (-1)).tasks, h.lines, h.line, h.bits, h.cores, by show (p.ready.set n _).length ≤ 1000; rw [List.length_set]; exact h.ready, fun l hl => Nat.le_trans (pushl_le hs l hl) (by omega), h.tlbs, h.doms⟩
theorem ss_fits {p : PW} (h : p.Fits) (hs : ∀ l ∈ p.lines, l.length ≤ 50) (t a : Nat) (s : Int) : (ssP p t a s).Fits := by
 have h2 : ({ p with cores := p.cores.map (noT t) } : PW).Fits := ⟨h.ram, h.kinds, h.slots, h.tasks, h.lines, h.line, h.bits, by show (p.cores.map (noT t)).length ≤ 1000; rw [List.length_map]; exact h.cores, h.ready, h.next, h.tlbs, h.doms⟩
 have h3 := tsk_fits (tsk_fits h2 t 9 s) t 14 a
 exact ⟨h.ram, h.kinds, h.slots, h3.tasks, by show (p.lines.set a _).length ≤ 1000; rw [List.length_set]; exact h.lines, fun l hl => Nat.le_trans (pushl_le hs l hl) (by omega), h.bits, h2.cores, h.ready, h.next, h.tlbs, h.doms⟩
theorem rg_fits {p : PW} (h : p.Fits) (hs : ∀ l ∈ p.ready, l.length ≤ 50) (b g : Int) : (rgP p b g).Fits := by
 unfold rgP
 split
 ·exact bits_fits h _ _
 ·rename_i z l e
  have hl : l.length ≤ 1000 := by
   rw [List.getD_eq_getElem?_getD] at e
   cases e2 : p.lines[b.toNat]? with
   | none => rw [e2] at e; cases e
   | some x =>
    rw [e2, Option.getD_some] at e
    have h1 := h.line x (List.mem_of_getElem? e2)
    rw [e, List.length_cons] at h1
    omega
  exact wn_fits (tsk_fits (tsk_fits (fr_fits h _ _ l hl) _ 1 0) _ 2 g) hs _ _
theorem hb_fits {p : PW} (h : p.Fits) (hs : ∀ l ∈ p.lines, l.length ≤ 50) (t b : Int) : (hbP p t b).Fits := by
 unfold hbP
 split
 ·exact ss_fits h hs _ _ _
 ·exact bits_fits (tsk_fits (tsk_fits h _ 1 0) _ 2 _) b.toNat 0
set_option maxRecDepth 100000 in
set_option maxHeartbeats 4000000 in
theorem mailRing_any (V : Nat → Value) (p : PW) (b c : Int) (w : World) (hv : WorldV w V p) (hp : p.Fits) :
  Calls Tryz.prog 42 #[.agg (arr11 V), .int .i64 b, .int .i64 c] w fun x w' => ∃ X, x = .returned (.tuple #[.agg (arr11 X), eV (dE p (rgE p b c))]) ∧ FarV w' w.heap.size X (dP p (rgP p b c) (rgE p b c)) ∧ Below w.heap.size w w' := by
 have RG0 := boxed w V 28
 have RG1 := range_below RG0 (bal (Below.refl _ (w.alloc (.cells (arr11 V) 28))) (.cells #[.int .i64 b] 3))
 have RG2 := range_below RG1 (bal (Below.refl _ ((w.alloc (.cells (arr11 V) 28)).alloc (.cells #[.int .i64 b] 3))) (.cells #[.int .i64 c] 3))
 have RG3 := range_below RG2 (bal (Below.refl _ (((w.alloc (.cells (arr11 V) 28)).alloc (.cells #[.int .i64 b] 3)).alloc (.cells #[.int .i64 c] 3))) (.cells #[.slice none 0 0, .slice none 0 0, .slice none 0 0, .slice none 0 0, .slice none 0 0, .slice none 0 0, .slice none 0 0, .slice none 0 0, .slice none 0 0, .slice none 0 0, .int .i64 0] 28))
 have RG := hid RG3
 have B0 := hid (bal (bal (bal (bal (Below.refl w.heap.size w) (.cells (arr11 V) 28)) (.cells #[.int .i64 b] 3)) (.cells #[.int .i64 c] 3)) (.cells #[.slice none 0 0, .slice none 0 0, .slice none 0 0, .slice none 0 0, .slice none 0 0, .slice none 0 0, .slice none 0 0, .slice none 0 0, .slice none 0 0, .slice none 0 0, .int .i64 0] 28))
 have y1 := (cells_alloc (cells_alloc (cells_at (w.alloc (.cells (arr11 V) 28)) #[.int .i64 b] 3 (w.heap.size + 1) (by simp)) (by simp) (.cells #[.int .i64 c] 3)) (by simp) (.cells #[.slice none 0 0, .slice none 0 0, .slice none 0 0, .slice none 0 0, .slice none 0 0, .slice none 0 0, .slice none 0 0, .slice none 0 0, .slice none 0 0, .slice none 0 0, .int .i64 0] 28)) 0
 have y2 := (cells_alloc (cells_at ((w.alloc (.cells (arr11 V) 28)).alloc (.cells #[.int .i64 b] 3)) #[.int .i64 c] 3 (w.heap.size + 2) (by simp)) (by simp) (.cells #[.slice none 0 0, .slice none 0 0, .slice none 0 0, .slice none 0 0, .slice none 0 0, .slice none 0 0, .slice none 0 0, .slice none 0 0, .slice none 0 0, .slice none 0 0, .int .i64 0] 28)) 0
 have HC := hid (show Caps [((w.heap.size + 1), .int .i64 b), ((w.heap.size + 2), .int .i64 c)] ((((w.alloc (.cells (arr11 V) 28)).alloc (.cells #[.int .i64 b] 3)).alloc (.cells #[.int .i64 c] 3)).alloc (.cells #[.slice none 0 0, .slice none 0 0, .slice none 0 0, .slice none 0 0, .slice none 0 0, .slice none 0 0, .slice none 0 0, .slice none 0 0, .slice none 0 0, .slice none 0 0, .int .i64 0] 28)) from fun x hx => by
  simp only [List.mem_cons, List.not_mem_nil, or_false] at hx
  rcases hx with rfl | rfl
  ·exact y1
  ·exact y2)
 have SZ := hid (show ((((w.alloc (.cells (arr11 V) 28)).alloc (.cells #[.int .i64 b] 3)).alloc (.cells #[.int .i64 c] 3)).alloc (.cells #[.slice none 0 0, .slice none 0 0, .slice none 0 0, .slice none 0 0, .slice none 0 0, .slice none 0 0, .slice none 0 0, .slice none 0 0, .slice none 0 0, .slice none 0 0, .int .i64 0] 28)).heap.size = w.heap.size + 4 by simp)
 have TR := hid (there_new (((w.alloc (.cells (arr11 V) 28)).alloc (.cells #[.int .i64 b] 3)).alloc (.cells #[.int .i64 c] 3)) #[.slice none 0 0, .slice none 0 0, .slice none 0 0, .slice none 0 0, .slice none 0 0, .slice none 0 0, .slice none 0 0, .slice none 0 0, .slice none 0 0, .slice none 0 0, .int .i64 0] 28 (w.heap.size + 3) 11 (by simp) (by decide))
 clear RG0 RG1 RG2 RG3
 have HL := hid (tlbs_le hv.tlbs)
 have HD := hid (do_far 96 #[ptr (w.heap.size + 1), ptr (w.heap.size + 2)] (Caps [((w.heap.size + 1), .int .i64 b), ((w.heap.size + 2), .int .i64 c)]) V p (rgP p b c) (rgE p b c) ((((w.alloc (.cells (arr11 V) 28)).alloc (.cells #[.int .i64 b] 3)).alloc (.cells #[.int .i64 c] 3)).alloc (.cells #[.slice none 0 0, .slice none 0 0, .slice none 0 0, .slice none 0 0, .slice none 0 0, .slice none 0 0, .slice none 0 0, .slice none 0 0, .slice none 0 0, .slice none 0 0, .int .i64 0] 28)) (hv.below B0.out) hp cf_r1 (fun X h => HC.out.below h) (fun h => (ring_deed _ _ b c p hp HL.out h).caps (by rw [rg_tlbs]; exact HL.out)))
 unfold ptr at HD
 generalize dE p (rgE p b c) = de at HD ⊢
 generalize dP p (rgP p b c) (rgE p b c) = dp at HD ⊢
 clear hv hp HL y1 y2
 go_enter Tryz.func42, Tryz.ntmps42
 go_wp2_with (first | ((with_reducible (show wpList _ _ _ (⟨_, Op.load 28 _, _, _, _, _⟩ :: _) _ _)); refine wp_ldWg (by rfl) _ rfl _ rfl V RG.out ?_))
 generalize World.alloc _ _ = W0 at *
 refine HD.out.mono ?_
 rintro q w1 ⟨X, rfl, hF, hb⟩
 have T1 := hid (there_belowO TR.out hb)
 have one := hid (world_one hF.v0)
 have RX := hid (World.rangeAt_setCells_same w1 (w.heap.size + 3) 0 (arr11 X).toList T1.out)
 have BX := hid (below_setCells (btr B0.out hb) (show w.heap.size ≤ w.heap.size + 3 by omega) (arr11 X).toList 0)
 have WX := hid ((hF.put (w.heap.size + 3) 0 (arr11 X).toList (by rw [SZ.out]; omega)).mono (show w.heap.size ≤ _ by rw [SZ.out]; omega))
 clear hF hb HD
 go_wp2_with (first | ((with_reducible (show wpList _ _ _ (⟨_, Op.store 28 _ _, _, _, _, _⟩ :: _) _ _)); refine wpList_store_mid rfl 28 _ _ rfl (w.heap.size + 3) 0 (arr11 X) rfl rfl T1.out infoW one.out ?_))
 exact bodyPost_ret (v := .tuple #[.agg (arr11 X), eV de]) (results_d2 rfl rfl (run_loadVar_mid _ (w.heap.size + 3) 0 28 (arr11 X).toList _ RX.out Tryz.underlying28 rfl infoW) rfl) rfl ⟨X, rfl, WX.out, BX.out⟩
set_option maxRecDepth 100000 in
set_option maxHeartbeats 4000000 in
theorem mailListen_any (V : Nat → Value) (p : PW) (a b : Int) (w : World) (hv : WorldV w V p) (hp : p.Fits) :
  Calls Tryz.prog 43 #[.agg (arr11 V), .int .i64 a, .int .i64 b] w fun x w' => ∃ X, x = .returned (.tuple #[.agg (arr11 X), eV (dE p (mtE p a b 8))]) ∧ FarV w' w.heap.size X (dP p (hbP p a b) (mtE p a b 8)) ∧ Below w.heap.size w w' := by
 have RG0 := boxed w V 28
 have RG1 := range_below RG0 (bal (Below.refl _ (w.alloc (.cells (arr11 V) 28))) (.cells #[.int .i64 a] 3))
 have RG2 := range_below RG1 (bal (Below.refl _ ((w.alloc (.cells (arr11 V) 28)).alloc (.cells #[.int .i64 a] 3))) (.cells #[.int .i64 b] 3))
 have RG3 := range_below RG2 (bal (Below.refl _ (((w.alloc (.cells (arr11 V) 28)).alloc (.cells #[.int .i64 a] 3)).alloc (.cells #[.int .i64 b] 3))) (.cells #[.slice none 0 0, .slice none 0 0, .slice none 0 0, .slice none 0 0, .slice none 0 0, .slice none 0 0, .slice none 0 0, .slice none 0 0, .slice none 0 0, .slice none 0 0, .int .i64 0] 28))
 have RG := hid RG3
 have B0 := hid (bal (bal (bal (bal (Below.refl w.heap.size w) (.cells (arr11 V) 28)) (.cells #[.int .i64 a] 3)) (.cells #[.int .i64 b] 3)) (.cells #[.slice none 0 0, .slice none 0 0, .slice none 0 0, .slice none 0 0, .slice none 0 0, .slice none 0 0, .slice none 0 0, .slice none 0 0, .slice none 0 0, .slice none 0 0, .int .i64 0] 28))
 have y1 := (cells_alloc (cells_alloc (cells_at (w.alloc (.cells (arr11 V) 28)) #[.int .i64 a] 3 (w.heap.size + 1) (by simp)) (by simp) (.cells #[.int .i64 b] 3)) (by simp) (.cells #[.slice none 0 0, .slice none 0 0, .slice none 0 0, .slice none 0 0, .slice none 0 0, .slice none 0 0, .slice none 0 0, .slice none 0 0, .slice none 0 0, .slice none 0 0, .int .i64 0] 28)) 0
 have y2 := (cells_alloc (cells_at ((w.alloc (.cells (arr11 V) 28)).alloc (.cells #[.int .i64 a] 3)) #[.int .i64 b] 3 (w.heap.size + 2) (by simp)) (by simp) (.cells #[.slice none 0 0, .slice none 0 0, .slice none 0 0, .slice none 0 0, .slice none 0 0, .slice none 0 0, .slice none 0 0, .slice none 0 0, .slice none 0 0, .slice none 0 0, .int .i64 0] 28)) 0
 have HC := hid (show Caps [((w.heap.size + 1), .int .i64 a), ((w.heap.size + 2), .int .i64 b)] ((((w.alloc (.cells (arr11 V) 28)).alloc (.cells #[.int .i64 a] 3)).alloc (.cells #[.int .i64 b] 3)).alloc (.cells #[.slice none 0 0, .slice none 0 0, .slice none 0 0, .slice none 0 0, .slice none 0 0, .slice none 0 0, .slice none 0 0, .slice none 0 0, .slice none 0 0, .slice none 0 0, .int .i64 0] 28)) from fun x hx => by
  simp only [List.mem_cons, List.not_mem_nil, or_false] at hx
  rcases hx with rfl | rfl
  ·exact y1
  ·exact y2)
 have SZ := hid (show ((((w.alloc (.cells (arr11 V) 28)).alloc (.cells #[.int .i64 a] 3)).alloc (.cells #[.int .i64 b] 3)).alloc (.cells #[.slice none 0 0, .slice none 0 0, .slice none 0 0, .slice none 0 0, .slice none 0 0, .slice none 0 0, .slice none 0 0, .slice none 0 0, .slice none 0 0, .slice none 0 0, .int .i64 0] 28)).heap.size = w.heap.size + 4 by simp)
 have TR := hid (there_new (((w.alloc (.cells (arr11 V) 28)).alloc (.cells #[.int .i64 a] 3)).alloc (.cells #[.int .i64 b] 3)) #[.slice none 0 0, .slice none 0 0, .slice none 0 0, .slice none 0 0, .slice none 0 0, .slice none 0 0, .slice none 0 0, .slice none 0 0, .slice none 0 0, .slice none 0 0, .int .i64 0] 28 (w.heap.size + 3) 11 (by simp) (by decide))
 clear RG0 RG1 RG2 RG3
 have HL := hid (tlbs_le hv.tlbs)
 have HD := hid (do_far 97 #[ptr (w.heap.size + 1), ptr (w.heap.size + 2)] (Caps [((w.heap.size + 1), .int .i64 a), ((w.heap.size + 2), .int .i64 b)]) V p (hbP p a b) (mtE p a b 8) ((((w.alloc (.cells (arr11 V) 28)).alloc (.cells #[.int .i64 a] 3)).alloc (.cells #[.int .i64 b] 3)).alloc (.cells #[.slice none 0 0, .slice none 0 0, .slice none 0 0, .slice none 0 0, .slice none 0 0, .slice none 0 0, .slice none 0 0, .slice none 0 0, .slice none 0 0, .slice none 0 0, .int .i64 0] 28)) (hv.below B0.out) hp cf_l1 (fun X h => HC.out.below h) (fun h => (listen_deed _ _ a b p hp HL.out h).caps (by rw [hb_tlbs]; exact HL.out)))
 unfold ptr at HD
 generalize dE p (mtE p a b 8) = de at HD ⊢
 generalize dP p (hbP p a b) (mtE p a b 8) = dp at HD ⊢
 clear hv hp HL y1 y2
 go_enter Tryz.func43, Tryz.ntmps43
 go_wp2_with (first | ((with_reducible (show wpList _ _ _ (⟨_, Op.load 28 _, _, _, _, _⟩ :: _) _ _)); refine wp_ldWg (by rfl) _ rfl _ rfl V RG.out ?_))
 generalize World.alloc _ _ = W0 at *
 refine HD.out.mono ?_
 rintro q w1 ⟨X, rfl, hF, hb⟩
 have T1 := hid (there_belowO TR.out hb)
 have one := hid (world_one hF.v0)
 have RX := hid (World.rangeAt_setCells_same w1 (w.heap.size + 3) 0 (arr11 X).toList T1.out)
 have BX := hid (below_setCells (btr B0.out hb) (show w.heap.size ≤ w.heap.size + 3 by omega) (arr11 X).toList 0)
 have WX := hid ((hF.put (w.heap.size + 3) 0 (arr11 X).toList (by rw [SZ.out]; omega)).mono (show w.heap.size ≤ _ by rw [SZ.out]; omega))
 clear hF hb HD
 go_wp2_with (first | ((with_reducible (show wpList _ _ _ (⟨_, Op.store 28 _ _, _, _, _, _⟩ :: _) _ _)); refine wpList_store_mid rfl 28 _ _ rfl (w.heap.size + 3) 0 (arr11 X) rfl rfl T1.out infoW one.out ?_))
 exact bodyPost_ret (v := .tuple #[.agg (arr11 X), eV de]) (results_d2 rfl rfl (run_loadVar_mid _ (w.heap.size + 3) 0 28 (arr11 X).toList _ RX.out Tryz.underlying28 rfl infoW) rfl) rfl ⟨X, rfl, WX.out, BX.out⟩
set_option maxRecDepth 100000 in
set_option maxHeartbeats 8000000 in
theorem mailRings_any (V : Nat → Value) (p : PW) (a b c : Int) (w : World) (hv : WorldR w V p) (hg : ETok w) :
  Calls Tryz.prog 8 #[.agg (arr11 V), .int .i64 a, .int .i64 b, .int .i64 c] w fun x w' => x = .returned (.bool true) ∧ Below w.heap.size w w' := by
 have RG0 := boxed w V 28
 have RG1 := range_below RG0 (bal (Below.refl _ (w.alloc (.cells (arr11 V) 28))) (.cells #[.int .i64 a] 3))
 have RG2 := range_below RG1 (bal (Below.refl _ ((w.alloc (.cells (arr11 V) 28)).alloc (.cells #[.int .i64 a] 3))) (.cells #[.int .i64 b] 3))
 have RG3 := range_below RG2 (bal (Below.refl _ (((w.alloc (.cells (arr11 V) 28)).alloc (.cells #[.int .i64 a] 3)).alloc (.cells #[.int .i64 b] 3))) (.cells #[.int .i64 c] 3))
 have RG := hid RG3
 have B0 := hid (bal (bal (bal (bal (Below.refl w.heap.size w) (.cells (arr11 V) 28)) (.cells #[.int .i64 a] 3)) (.cells #[.int .i64 b] 3)) (.cells #[.int .i64 c] 3))
 have y1 := (cells_alloc (cells_alloc (cells_at (w.alloc (.cells (arr11 V) 28)) #[.int .i64 a] 3 (w.heap.size + 1) (by simp)) (by simp) (.cells #[.int .i64 b] 3)) (by simp) (.cells #[.int .i64 c] 3)) 0
 have y2 := (cells_alloc (cells_at ((w.alloc (.cells (arr11 V) 28)).alloc (.cells #[.int .i64 a] 3)) #[.int .i64 b] 3 (w.heap.size + 2) (by simp)) (by simp) (.cells #[.int .i64 c] 3)) 0
 have y3 := (cells_at (((w.alloc (.cells (arr11 V) 28)).alloc (.cells #[.int .i64 a] 3)).alloc (.cells #[.int .i64 b] 3)) #[.int .i64 c] 3 (w.heap.size + 3) (by simp)) 0
 have HC := hid (show Caps [((w.heap.size + 1), .int .i64 a), ((w.heap.size + 2), .int .i64 b), ((w.heap.size + 3), .int .i64 c)] ((((w.alloc (.cells (arr11 V) 28)).alloc (.cells #[.int .i64 a] 3)).alloc (.cells #[.int .i64 b] 3)).alloc (.cells #[.int .i64 c] 3)) from fun x hx => by
  simp only [List.mem_cons, List.not_mem_nil, or_false] at hx
  rcases hx with rfl | rfl | rfl
  ·exact y1
  ·exact y2
  ·exact y3)
 have SZ := hid (show ((((w.alloc (.cells (arr11 V) 28)).alloc (.cells #[.int .i64 a] 3)).alloc (.cells #[.int .i64 b] 3)).alloc (.cells #[.int .i64 c] 3)).heap.size = w.heap.size + 4 by simp)
 clear RG0 RG1 RG2 RG3
 have HH := hid (hugeWorld_any V p ((((w.alloc (.cells (arr11 V) 28)).alloc (.cells #[.int .i64 a] 3)).alloc (.cells #[.int .i64 b] 3)).alloc (.cells #[.int .i64 c] 3)) (hv.below B0.out))
 by_cases hs : Small p
 rotate_left
 ·rw [huge_t hs] at HH
  clear hv hg hs
  go_enter Tryz.func8, Tryz.ntmps8
  go_wp2_with (first | ((with_reducible (show wpList _ _ _ (⟨_, Op.load 28 _, _, _, _, _⟩ :: _) _ _)); refine wp_ldWg (by rfl) _ rfl _ rfl V RG.out ?_))
  refine HH.out.mono ?_
  rintro q w1 ⟨rfl, hb⟩
  have BB := hid (btr B0.out hb)
  clear hb
  go_wp2_with fail
  go_ret
  exact ⟨rfl, BB.out⟩
 rw [huge_f hs] at HH
 obtain ⟨hw, hp⟩ := small_world hv hs
 have HP := hid hp
 have HV := hid hw
 have HG := hid hg
 have HL := hid (tlbs_le hw.tlbs)
 have HSM := hid hs
 clear hv hg hs hw hp y1 y2 y3
 go_enter Tryz.func8, Tryz.ntmps8
 go_wp2_with (first | ((with_reducible (show wpList _ _ _ (⟨_, Op.load 28 _, _, _, _, _⟩ :: _) _ _)); refine wp_ldWg (by rfl) _ rfl _ rfl V RG.out ?_))
 generalize World.alloc _ _ = W0 at *
 refine HH.out.mono ?_
 rintro q w1 ⟨rfl, hb⟩
 have BW := hid (btr B0.out hb)
 have RW := hid (range_below RG.out hb)
 have CW := hid (HC.out.below hb)
 clear hb HH RG HC B0 SZ
 have z1 := CW.out ((w.heap.size + 1), .int .i64 a) (by simp)
 have z2 := CW.out ((w.heap.size + 2), .int .i64 b) (by simp)
 have z3 := CW.out ((w.heap.size + 3), .int .i64 c) (by simp)
 go_wp2_with (first | ((with_reducible (show wpList _ _ _ (⟨_, Op.load 28 _, _, _, _, _⟩ :: _) _ _)); refine wp_ldWg (by rfl) _ rfl _ rfl V RW.out ?_))
 refine (mailRing_any V p b c w1 (HV.out.below BW.out) HP.out).mono ?_
 rintro q u1 ⟨X1, rfl, hF, hb⟩
 have hX := hF.v0
 have TN := hid (there_new u1 #[.slice none 0 0, .slice none 0 0, .slice none 0 0, .slice none 0 0, .slice none 0 0, .slice none 0 0, .slice none 0 0, .slice none 0 0, .slice none 0 0, .slice none 0 0, .int .i64 0] 28 u1.heap.size 11 rfl (by decide))
 have one := hid (world_one hX)
 have D3 := hid (show Below u1.heap.size u1 ((u1.alloc (.cells #[.slice none 0 0, .slice none 0 0, .slice none 0 0, .slice none 0 0, .slice none 0 0, .slice none 0 0, .slice none 0 0, .slice none 0 0, .slice none 0 0, .slice none 0 0, .int .i64 0] 28)).setCells u1.heap.size 0 (arr11 X1).toList) from below_setCells (bal (Below.refl _ u1) (.cells #[.slice none 0 0, .slice none 0 0, .slice none 0 0, .slice none 0 0, .slice none 0 0, .slice none 0 0, .slice none 0 0, .slice none 0 0, .slice none 0 0, .slice none 0 0, .int .i64 0] 28)) (Nat.le_refl _) _ 0)
 have D5 := hid (btr hb D3.out)
 have RX1 := hid (World.rangeAt_setCells_same (u1.alloc (.cells #[.slice none 0 0, .slice none 0 0, .slice none 0 0, .slice none 0 0, .slice none 0 0, .slice none 0 0, .slice none 0 0, .slice none 0 0, .slice none 0 0, .slice none 0 0, .int .i64 0] 28)) u1.heap.size 0 (arr11 X1).toList TN.out)
 have WX1 := hid (hX.below D3.out)
 replace RW := hid (range_below RW.out D5.out)
 replace CW := hid (CW.out.below D5.out)
 replace BW := hid (btr BW.out D5.out)
 clear hX hF hb D5 z1 z2 z3
 go_upto_region 4 with (first | ((with_reducible (show wpList _ _ _ (⟨_, Op.store 28 _ _, _, _, _, _⟩ :: _) _ _)); refine wpList_store_mid rfl 28 _ _ rfl u1.heap.size 0 (arr11 X1) rfl rfl TN.out infoW one.out ?_))
 generalize World.setCells _ _ _ _ = W1 at *
 generalize u1.heap.size = xb1 at RX1 ⊢
 clear TN one D3
 have z1 := CW.out ((w.heap.size + 1), .int .i64 a) (by simp)
 have z2 := CW.out ((w.heap.size + 2), .int .i64 b) (by simp)
 have z3 := CW.out ((w.heap.size + 3), .int .i64 c) (by simp)
 go_wp2_with (first | ((with_reducible (show wpList _ _ _ (⟨_, Op.load 28 _, _, _, _, _⟩ :: _) _ _)); refine wp_ldWg (by rfl) _ rfl _ rfl V RW.out ?_))
 refine (mailListen_any V p a b W1 (HV.out.below BW.out) HP.out).mono ?_
 rintro q u2 ⟨X2, rfl, hF, hb⟩
 have hX := hF.v0
 have TN := hid (there_new u2 #[.slice none 0 0, .slice none 0 0, .slice none 0 0, .slice none 0 0, .slice none 0 0, .slice none 0 0, .slice none 0 0, .slice none 0 0, .slice none 0 0, .slice none 0 0, .int .i64 0] 28 u2.heap.size 11 rfl (by decide))
 have one := hid (world_one hX)
 have D3 := hid (show Below u2.heap.size u2 ((u2.alloc (.cells #[.slice none 0 0, .slice none 0 0, .slice none 0 0, .slice none 0 0, .slice none 0 0, .slice none 0 0, .slice none 0 0, .slice none 0 0, .slice none 0 0, .slice none 0 0, .int .i64 0] 28)).setCells u2.heap.size 0 (arr11 X2).toList) from below_setCells (bal (Below.refl _ u2) (.cells #[.slice none 0 0, .slice none 0 0, .slice none 0 0, .slice none 0 0, .slice none 0 0, .slice none 0 0, .slice none 0 0, .slice none 0 0, .slice none 0 0, .slice none 0 0, .int .i64 0] 28)) (Nat.le_refl _) _ 0)
 have D5 := hid (btr hb D3.out)
 have RX2 := hid (World.rangeAt_setCells_same (u2.alloc (.cells #[.slice none 0 0, .slice none 0 0, .slice none 0 0, .slice none 0 0, .slice none 0 0, .slice none 0 0, .slice none 0 0, .slice none 0 0, .slice none 0 0, .slice none 0 0, .int .i64 0] 28)) u2.heap.size 0 (arr11 X2).toList TN.out)
 have WX2 := hid (hX.below D3.out)
 replace RX1 := hid (range_below RX1.out D5.out)
 replace WX1 := hid (WX1.out.below D5.out)
 replace RW := hid (range_below RW.out D5.out)
 replace CW := hid (CW.out.below D5.out)
 replace BW := hid (btr BW.out D5.out)
 clear hX hF hb D5 z1 z2 z3
 go_upto_region 5 with (first | ((with_reducible (show wpList _ _ _ (⟨_, Op.store 28 _ _, _, _, _, _⟩ :: _) _ _)); refine wpList_store_mid rfl 28 _ _ rfl u2.heap.size 0 (arr11 X2) rfl rfl TN.out infoW one.out ?_))
 generalize World.setCells _ _ _ _ = W2 at *
 generalize u2.heap.size = xb2 at RX2 ⊢
 clear TN one D3
 have BD : Hid (Below W2.heap.size W2 W2.drew) := hid (below_drew W2 1)
 have KS := hid (show ∀ Y, Below W2.heap.size W2 Y → Y.rangeAt xb1 0 (arr11 X1).toList ∧ Y.rangeAt w.heap.size 0 (arr11 V).toList from fun Y h => ⟨range_below RX1.out h, range_below RW.out h⟩)
 have HSO := hid (fun Y (h : Below W2.heap.size W2 Y) => sound_law V p Y (HV.out.below (btr BW.out h)) HP.out)
 have HDI := hid (fun Y (h : Below W2.heap.size W2 Y) => did_any 44 #[ptr (w.heap.size + 2), ptr (w.heap.size + 3)] (Caps [((w.heap.size + 2), .int .i64 b), ((w.heap.size + 3), .int .i64 c)]) V X1 p (rgP p b c) (rgE p b c) Y (HV.out.below (btr BW.out h)) HP.out (rg_fits HP.out HSM.out.next _ _) (WX1.out.below h) cf_g1 (fun Z hz x hx => (CW.out.below (btr h hz)) x (by simp only [List.mem_cons, List.not_mem_nil, or_false] at hx ⊢; rcases hx with rfl | rfl <;> simp)) (fun h => (ringRef_deed _ _ b c p HP.out h).caps (by rw [rg_tlbs]; exact HL.out)) (HG.out.below (btr BW.out h)))
 unfold ptr at HDI
 generalize eV (dE p (rgE p b c)) = ev at HDI ⊢
 generalize sndE p = se at HSO HDI
 refine wp_region_held_drew (S := fun Y => Y.rangeAt xb1 0 (arr11 X1).toList ∧ Y.rangeAt w.heap.size 0 (arr11 V).toList) (by kernel_rfl) (KS.out _ BD.out) (fun hH0 => ?_)
 have hH := hid hH0
 clear hH0
 refine tg 0 (.agg (arr11 X1)) rfl (yieldsIf_load_mid (by rfl) _ _ rfl _ _ rfl ((arr11 X1).toList) _ (fun _ h => h.1) Tryz.underlying28 rfl infoW) hH.out ?_
 simp only [jj]
 refine tk 1 ev rfl hH.out ?_
 simp only [jj]
 refine tg 2 (.agg (arr11 V)) rfl (yieldsIf_load_mid (by rfl) _ _ rfl _ _ rfl ((arr11 V).toList) _ (fun _ h => h.2) Tryz.underlying28 rfl infoW) hH.out ?_
 simp only [jj]
 refine tg 3 (.agg (arr11 V)) rfl (yieldsIf_load_mid (by rfl) _ _ rfl _ _ rfl ((arr11 V).toList) _ (fun _ h => h.2) Tryz.underlying28 rfl infoW) hH.out ?_
 simp only [jj]
 refine tk 5 (.func (.func 44) #[] #[.pointer (some ⟨w.heap.size + 2, 0, none⟩), .pointer (some ⟨w.heap.size + 3, 0, none⟩)]) rfl hH.out ?_
 simp only [jj]
 refine wpAnyH_ready (rs := [4]) (by kernel_rfl) (by simp) (AllReadyH.cons rfl (fun K hK => ?_) AllReadyH.nil)
 go_simp
 refine (HSO.out _ BD.out).mono ?_
 rintro q w4 ⟨rfl, hb⟩
 have A4 := hid (btr BD.out hb)
 clear hb
 go_wp2_with fail
 refine hK.out _ _ (KS.out _ A4.out) (fun hH0 => ?_)
 have hH2 := hid hH0
 clear hK K hH0
 try simp only [Act.put, jD, jE, jF]
 refine wpAnyH_ready (rs := [6]) (by kernel_rfl) (by simp) (AllReadyH.cons rfl (fun K hK => ?_) AllReadyH.nil)
 go_simp
 refine (HDI.out _ A4.out).mono ?_
 rintro q v1 ⟨rfl, hb⟩
 have A5 := hid (btr A4.out hb)
 clear hb
 go_wp2_with fail
 refine hK.out _ _ (KS.out _ A5.out) (fun hH0 => ?_)
 have hH3 := hid hH0
 clear hK K hH0
 try simp only [Act.put, jD, jE, jF]
 refine tk 7 (.bool true) rfl hH3.out ?_
 simp only [jj]
 refine wpAnyH_done (by kernel_rfl) ?_ _
 clear hH hH2 hH3 KS HSO HDI BD A4
 replace RX2 := hid (range_below RX2.out A5.out)
 replace WX2 := hid (WX2.out.below A5.out)
 replace RW := hid (range_below RW.out A5.out)
 replace CW := hid (CW.out.below A5.out)
 replace BW := hid (btr BW.out A5.out)
 clear A5
 go_upto_region 6 with fail
 have BD : Hid (Below v1.heap.size v1 v1.drew) := hid (below_drew v1 1)
 have KS := hid (show ∀ Y, Below v1.heap.size v1 Y → Y.rangeAt xb2 0 (arr11 X2).toList ∧ Y.rangeAt w.heap.size 0 (arr11 V).toList from fun Y h => ⟨range_below RX2.out h, range_below RW.out h⟩)
 have HSO := hid (fun Y (h : Below v1.heap.size v1 Y) => sound_law V p Y (HV.out.below (btr BW.out h)) HP.out)
 have HDI := hid (fun Y (h : Below v1.heap.size v1 Y) => did_any 46 #[ptr (w.heap.size + 1), ptr (w.heap.size + 2)] (Caps [((w.heap.size + 1), .int .i64 a), ((w.heap.size + 2), .int .i64 b)]) V X2 p (hbP p a b) (mtE p a b 8) Y (HV.out.below (btr BW.out h)) HP.out (hb_fits HP.out HSM.out.line _ _) (WX2.out.below h) cf_g2 (fun Z hz x hx => (CW.out.below (btr h hz)) x (by simp only [List.mem_cons, List.not_mem_nil, or_false] at hx ⊢; rcases hx with rfl | rfl <;> simp)) (fun h => (hearRef_deed _ _ a b p HP.out h).caps (by rw [hb_tlbs]; exact HL.out)) (HG.out.below (btr BW.out h)))
 unfold ptr at HDI
 generalize eV (dE p (mtE p a b 8)) = ev at HDI ⊢
 generalize sndE p = se at HSO HDI
 refine wp_region_held_drew (S := fun Y => Y.rangeAt xb2 0 (arr11 X2).toList ∧ Y.rangeAt w.heap.size 0 (arr11 V).toList) (by kernel_rfl) (KS.out _ BD.out) (fun hH0 => ?_)
 have hH := hid hH0
 clear hH0
 refine tg 0 (.agg (arr11 X2)) rfl (yieldsIf_load_mid (by rfl) _ _ rfl _ _ rfl ((arr11 X2).toList) _ (fun _ h => h.1) Tryz.underlying28 rfl infoW) hH.out ?_
 simp only [jj]
 refine tk 1 ev rfl hH.out ?_
 simp only [jj]
 refine tg 2 (.agg (arr11 V)) rfl (yieldsIf_load_mid (by rfl) _ _ rfl _ _ rfl ((arr11 V).toList) _ (fun _ h => h.2) Tryz.underlying28 rfl infoW) hH.out ?_
 simp only [jj]
 refine tg 3 (.agg (arr11 V)) rfl (yieldsIf_load_mid (by rfl) _ _ rfl _ _ rfl ((arr11 V).toList) _ (fun _ h => h.2) Tryz.underlying28 rfl infoW) hH.out ?_
 simp only [jj]
 refine tk 5 (.func (.func 46) #[] #[.pointer (some ⟨w.heap.size + 1, 0, none⟩), .pointer (some ⟨w.heap.size + 2, 0, none⟩)]) rfl hH.out ?_
 simp only [jj]
 refine wpAnyH_ready (rs := [4]) (by kernel_rfl) (by simp) (AllReadyH.cons rfl (fun K hK => ?_) AllReadyH.nil)
 go_simp
 refine (HSO.out _ BD.out).mono ?_
 rintro q w4 ⟨rfl, hb⟩
 have A4 := hid (btr BD.out hb)
 clear hb
 go_wp2_with fail
 refine hK.out _ _ (KS.out _ A4.out) (fun hH0 => ?_)
 have hH2 := hid hH0
 clear hK K hH0
 try simp only [Act.put, jD, jE, jF]
 refine wpAnyH_ready (rs := [6]) (by kernel_rfl) (by simp) (AllReadyH.cons rfl (fun K hK => ?_) AllReadyH.nil)
 go_simp
 refine (HDI.out _ A4.out).mono ?_
 rintro q v2 ⟨rfl, hb⟩
 have A5 := hid (btr A4.out hb)
 clear hb
 go_wp2_with fail
 refine hK.out _ _ (KS.out _ A5.out) (fun hH0 => ?_)
 have hH3 := hid hH0
 clear hK K hH0
 try simp only [Act.put, jD, jE, jF]
 refine tk 7 (.bool true) rfl hH3.out ?_
 simp only [jj]
 refine wpAnyH_done (by kernel_rfl) ?_ _
 clear hH hH2 hH3 KS HSO HDI BD A4
 replace RW := hid (range_below RW.out A5.out)
 replace CW := hid (CW.out.below A5.out)
 replace BW := hid (btr BW.out A5.out)
 clear A5
 clear RW CW
 go_wp2_with fail
 go_ret
 exact ⟨rfl, BW.out⟩
end Go.Proofs.YtjjhodfekmpelaaGreatDoor.Wd
