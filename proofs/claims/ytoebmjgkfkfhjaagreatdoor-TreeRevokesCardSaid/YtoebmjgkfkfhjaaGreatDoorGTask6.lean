/- Tasks, by the other text: keyholdref.taskWell, of a task: small facts. (Written by mk_task6.py.) · Tasks, by the other text: keyholdref.taskWell, of a task; walked. (Written by mk_task6.py.) · Tasks, by the other text: keyholdref.taskWell; walked. -/
import Derived.Test.YtoebmjgkfkfhjaaGreatDoorWdTask5
import Derived.BigGuard
import Derived.BigCall
import Derived.BigQuiet
namespace Go.Proofs.YtoebmjgkfkfhjaaGreatDoor.Wd
open Go.RowKit Go.Proofs.YtoebmjgkfkfhjaaGreatDoor.Mem Go.Proofs.YtoebmjgkfkfhjaaGreatDoor.Bw Go.Proofs.YtoebmjgkfkfhjaaGreatDoor.Nums Go.Proofs.YtoebmjgkfkfhjaaGreatDoor.Mmu
theorem one_list {W : World} {b : Nat} {v : Value} {zs : List Int} (hc : W.cell? ⟨b, 0, none⟩ = some v) (h : IntsIn W v zs) : ListsIn W (.slice (some ⟨b, 0, none⟩) 1 1) [zs] :=
 ⟨some ⟨b, 0, none⟩, b, 0, 1, rfl, fun _ => rfl, fun j hj => by
  obtain rfl : j = 0 := by simpa using hj
  exact ⟨v, hc, h⟩⟩
theorem cna_one (x : Int) (zs : List Int) : cna x [zs] = cn x zs := by simp [cna, sumOf]
theorem cn_cna (x : Int) : ∀ (ls : List (List Int)) (j : Nat) (hj : j < ls.length), cn x ls[j] ≤ cna x ls
 | l :: ls, 0, _ => by simp [cna, sumOf]
 | l :: ls, j + 1, hj => by
  have := cn_cna x ls j (by simpa using hj)
  simp [cna, sumOf] at this ⊢
  omega
theorem one_in {x : Int} {ls : List (List Int)} (h : cna x ls = 1) {j : Nat} (hj : j < ls.length) : (((cn x ls[j] : Nat) : Int) == 1) = inB x ls[j] := by
 have h1 := cn_cna x ls j hj
 unfold inB
 by_cases h0 : 0 < cn x ls[j]
 ·rw [decide_eq_true h0, show cn x ls[j] = 1 by omega]
  rfl
 ·rw [decide_eq_false h0, show cn x ls[j] = 0 by omega]
  rfl
theorem pl_k (s : Int) : pl s = if s = 2 then 7 else if s = 3 then 7 else if s = 4 then 7 else if s = 6 then 8 else 0 := by
 unfold pl
 repeat' split
 all_goals first | rfl | omega
theorem lists_at {W : World} {ls : List (List Int)} {b off cap : Nat} (h : ListsIn W (.slice (some ⟨b, off, none⟩) ls.length cap) ls) (j : Nat) (hj : j < ls.length) : ∃ y, W.cell? ⟨b, off + j, none⟩ = some y ∧ IntsIn W y ls[j] := by
 obtain ⟨q, b', off', cap', e, hq, hz⟩ := h
 obtain rfl := hq (by omega)
 simp only [Value.slice.injEq, Option.some.injEq, Addr.mk.injEq] at e
 obtain ⟨⟨rfl, rfl, -⟩, -, -⟩ := e
 exact hz j hj
theorem ffB_k (p : PW) (f : Nat → Int) : ffB p f = ((f 11 == -1 || (kindAt p (f 11)).getD (-1) == 5) && (f 12 == -1 || (kindAt p (f 12)).getD (-1) == 4) && (f 13 == -1 || (kindAt p (f 13)).getD (-1) == 7) && (f 17 == -1 || (kindAt p (f 17)).getD (-1) == 6)) := by
 unfold ffB isOrB
 rw [isB_kind (by decide), isB_kind (by decide), isB_kind (by decide), isB_kind (by decide)]
set_option maxRecDepth 100000 in
set_option maxHeartbeats 40000000 in
theorem taskWell_task (V : Nat → Value) (p : PW) (n : Nat) (w : World) (hv : WorldV w V p) (hp : p.Fits) (hn : n < p.kinds.length) (ht : p.tasks.length = p.kinds.length) (hll : p.lines.length = p.kinds.length) (h6 : p.kinds[n] = 6) :
  Calls Tryz.prog 96 #[.agg (arr11 V), .int .i64 n] w fun r w' => r = .returned (.bool (!btB p n 6 (p.tasks[n]'(by omega)))) ∧ Below w.heap.size w w' := by
 have RG := hid (boxed w V 28)
 have B0 := hid (bal (Below.refl w.heap.size w) (.cells (arr11 V) 28))
 have hnt : n < p.tasks.length := by omega
 obtain ⟨q1, b1, off1, cap1, e1, hq1, hz1⟩ := hv.kinds
 obtain ⟨q3, b3, off3, cap3, e3, hq3, hz3⟩ := hv.tasks
 obtain ⟨q6, b6, off6, cap6, e6, -, -⟩ := hv.cores
 have hl1 : (p.kinds.length : Int) ≤ 1000 := by have := hp.kinds; omega
 have hl3 : (p.tasks.length : Int) ≤ 1000 := by have := hp.tasks; omega
 have hl6 : (p.cores.length : Int) ≤ 1000 := by have := hp.cores; omega
 have hn2 : (n : Int) < (p.kinds.length : Int) := by omega
 have hnt2 : (n : Int) < (p.tasks.length : Int) := by omega
 obtain rfl := hq1 (by omega)
 obtain rfl := hq3 (by omega)
 have r3 : (w.alloc (.cells (arr11 V) 28)).cell? ⟨w.heap.size, 3, none⟩ = some (V 3) := range_cell RG.out rfl
 have X0 := hid (range_belowO (hz3 n hnt) B0.out)
 have HM := hid (fun W (h : Below w.heap.size w W) => h6 ▸ (hz1.below h) n hn)
 have s1z : (w.alloc (.cells (arr11 V) 28)).heap.size = w.heap.size + 1 := by simp
 have HZ3 := hid hz3
 have HVV0 := hid hv
 have HP := hid hp
 have HT := hid ht
 have HLL := hid hll
 generalize p.tasks[n] = f at X0 ⊢
 clear hz1 hz3 hq1 hq3 hv ht hll h6 hn hp
 have T5 := hid (there_new (w.alloc (.cells (arr11 V) 28)) #[.int .i64 0, .int .i64 0, .int .i64 0, .int .i64 0, .int .i64 0, .int .i64 0, .int .i64 0, .int .i64 0, .int .i64 0, .int .i64 0, .int .i64 0, .int .i64 0, .int .i64 0, .int .i64 0, .int .i64 0, .int .i64 0, .int .i64 0, .int .i64 0, .int .i64 0, .int .i64 0] 85 (w.heap.size + 1) 20 s1z.symm (by decide))
 have R5 := hid (World.rangeAt_setCells_same _ (w.heap.size + 1) 0 (cf 20 f) (by rw [cf_len]; exact T5.out))
 have B5 := hid (below_setCells (bal B0.out (.cells #[.int .i64 0, .int .i64 0, .int .i64 0, .int .i64 0, .int .i64 0, .int .i64 0, .int .i64 0, .int .i64 0, .int .i64 0, .int .i64 0, .int .i64 0, .int .i64 0, .int .i64 0, .int .i64 0, .int .i64 0, .int .i64 0, .int .i64 0, .int .i64 0, .int .i64 0, .int .i64 0] 85)) (show w.heap.size ≤ w.heap.size + 1 by omega) (cf 20 f) 0)
 have G5 := hid (below_setCells (bal (Below.refl _ (w.alloc (.cells (arr11 V) 28))) (.cells #[.int .i64 0, .int .i64 0, .int .i64 0, .int .i64 0, .int .i64 0, .int .i64 0, .int .i64 0, .int .i64 0, .int .i64 0, .int .i64 0, .int .i64 0, .int .i64 0, .int .i64 0, .int .i64 0, .int .i64 0, .int .i64 0, .int .i64 0, .int .i64 0, .int .i64 0, .int .i64 0] 85)) (show (w.alloc (.cells (arr11 V) 28)).heap.size ≤ w.heap.size + 1 by rw [s1z]; omega) (cf 20 f) 0)
 have hi5 : (Tryz.prog.info? 85).map (·.size) = some (cf 20 f).length := by rw [cf_len]; exact info20
 have HI5 := hid hi5
 have HS5 := hid (show (Tryz.prog.info? 85).map (·.size) = some (cf 20 f).toArray.size by rw [List.size_toArray]; exact hi5)
 have esz : (cf 20 f).toArray.size = 20 := by simp [cf_len]
 have T6 := hid (show ((w.alloc (.cells (arr11 V) 28)).alloc (.cells #[.int .i64 0, .int .i64 0, .int .i64 0, .int .i64 0, .int .i64 0, .int .i64 0, .int .i64 0, .int .i64 0, .int .i64 0, .int .i64 0, .int .i64 0, .int .i64 0, .int .i64 0, .int .i64 0, .int .i64 0, .int .i64 0, .int .i64 0, .int .i64 0, .int .i64 0, .int .i64 0] 85)).there (w.heap.size + 1) 0 (cf 20 f).toArray.size by rw [esz]; exact T5.out)
 clear esz hi5
 clear s1z
 have HB := hid (show (!btB p n 6 f) = (nfB p f && ffB p f && dbB p n f && srB p n f && rrB p n f) by unfold btB; rw [if_pos rfl, Bool.not_not])
 go_enter Tryz.func96, Tryz.ntmps96
 go_wp2_with (first
  | ((with_reducible (show wpList _ _ _ (⟨_, Op.store 85 _ _, _, _, _, _⟩ :: _) _ _)); refine wpList_store_mid rfl 85 _ _ rfl (w.heap.size + 1) 0 (cf 20 f).toArray rfl rfl T6.out HS5.out (all_oneCell_toArray (cf_one 20 f)) ?_; (generalize hW5 : World.setCells _ _ _ _ = W5 at R5 B5 G5 ⊢); clear hW5; have d1 : W5.cell? ⟨w.heap.size, 1, none⟩ = some (V 1) := range_cell (range_below RG.out G5.out) rfl; have cm := HM.out W5 B5.out)
  | ((with_reducible (show wpList _ _ _ (⟨_, Op.load 85 _, _, _, _, _⟩ :: _) _ _)); refine wpList_load_mid rfl 85 _ rfl b3 (off3 + n * 20) rfl (cf 20 f) _ X0.out Tryz.underlying85 rfl HI5.out ?_))
 have KA := hid (show ∀ W, Below W5.heap.size W5 W → W.rangeAt w.heap.size 0 (arr11 V).toList ∧ W.rangeAt (w.heap.size + 1) 0 (cf 20 f) from fun W hb => ⟨range_below (range_below RG.out G5.out) hb, range_below R5.out hb⟩)
 have HV := hid (fun W (hb : Below W5.heap.size W5 W) => HVV0.out.below (btr B5.out hb))
 clear T5 T6 HS5 HI5 X0 d1 cm r3 RG B0 G5
 go_loopw [6] (fun i wr => ∃ k : Nat, k ≤ 8 ∧ i = .int .i64 k ∧ Hid (∀ j, j < k → wB (f j) = true) ∧ Hid (W5 = wr)) (fun i _ => 8 - (intOf i).toNat)
 case atStart => exact ⟨0, by omega, rfl, hid fun j h => by omega, hid rfl⟩
 case round =>
  obtain ⟨k, hk, rfl, HE, HW⟩ := hrel
  obtain rfl := HW.out
  by_cases hlt : k < 8
  ·have HS := hid (show wB (f k) = true → ∀ j, j < k + 1 → wB (f j) = true from fun h j hj => by
    by_cases e : j = k
    ·subst e; exact h
    ·exact HE.out j (by omega))
   have HY := hid (show wB (f k) = false → (!btB p n 6 f) = false from fun h => by rw [HB.out]; unfold nfB; rw [reg_no k hlt h]; rfl)
   have hlt2 : (k : Int) < 8 := by omega
   have xk := box_at R5.out k (by omega)
   go_wp2_with fail
   refine (farW (f k) 65535 _).mono ?_
   rintro r w1 ⟨rfl, rfl⟩
   rw [show within 0 65535 (f k) = wB (f k) from rfl]
   generalize wB (f k) = bb at HS HY ⊢
   cases bb with
   | false =>
    have HN := hid (HY.out rfl)
    go_wp2_with fail
    go_ret
    exact ⟨by rw [HN.out]; rfl, B5.out⟩
   | true =>
    have HN := hid (HS.out rfl)
    go_wp2_with fail
    exact ⟨⟨k + 1, by omega, by go_num, HN, hid (by simp)⟩, by simp [intOf]; omega⟩
  ·obtain rfl : k = 8 := by omega
   have HR := hid (reg_yes HE.out)
   have d6 : W5.cell? ⟨w.heap.size, 6, none⟩ = some (V 6) := range_cell (KA.out W5 (Below.refl _ _)).1 rfl
   have XX := hid fun k hk => box_at R5.out k hk
   have x8 := XX.out 8 (by omega)
   have x15 := XX.out 15 (by omega)
   have x16 := XX.out 16 (by omega)
   have x9 := XX.out 9 (by omega)
   have x10 := XX.out 10 (by omega)
   have x18 := XX.out 18 (by omega)
   have x19 := XX.out 19 (by omega)
   go_upto_region 9 with fail
   go_cut [70] from 34 to 70 (fun r wx => Hid (r = .bool (!nfB p f)) ∧ Hid (W5 = wx))
   case first =>
    have HNF := hid (show nfB p f = (within 0 65535 (f 8) && within 0 65535 (f 15) && within 0 65535 (f 16) && within 0 6 (f 9) && within 0 3 (f 10) && within 0 ((p.cores.length : Int) - 1) (f 18) && within 0 3 (f 19)) by unfold nfB; rw [HR.out]; rfl)
    go_wp2_with (first | go_skip | go_big_skip | go_big_guard | (go_at_call 36; refine (farW _ _ _).mono ?_; rintro r w1 ⟨rfl, rfl⟩))
    all_goals (go_meet; refine ⟨hid ?_, hid rfl⟩; rw [HNF.out]; clear HNF KA HV HB HP HT HLL HZ3 x8 x15 x16 x9 x10 x18 x19 d6; simp_all)
   case rest =>
   obtain ⟨hx, hw5⟩ := hcut
   obtain rfl := hx.out
   obtain rfl := hw5.out
   clear hx hw5 x8 x15 x16 x9 x10 x18 x19 d6 XX
   cases hnf : nfB p f with
   | false =>
    have HN := hid (show (!btB p n 6 f) = false by rw [HB.out, hnf]; rfl)
    clear hnf
    go_wp2_with fail
    go_ret
    exact ⟨by rw [HN.out]; rfl, B5.out⟩
   | true =>
   have HNF := hid hnf
   clear hnf
   go_upto_region 11 with fail
   rw [HNF.out, Bool.true_and] at HB
   have C0 := hid (Below.refl W5.heap.size W5)
   go_cut [116] from 71 to 116 (fun r wx => Hid (r = .bool (!ffB p f)) ∧ Hid (Below W5.heap.size W5 wx))
   case first =>
    have x11 := box_at (KA.out W5 C0.out).2 11 (by omega)
    have x12 := box_at (KA.out W5 C0.out).2 12 (by omega)
    have x13 := box_at (KA.out W5 C0.out).2 13 (by omega)
    have x17 := box_at (KA.out W5 C0.out).2 17 (by omega)
    have RGc := hid (KA.out W5 C0.out).1
    go_wp2_with (first | go_skip | go_big_skip | go_big_guard | ((with_reducible (show wpList _ _ _ (⟨_, Op.load 28 _, _, _, _, _⟩ :: _) _ _)); refine wp_ldWg (by rfl) _ rfl _ rfl V RGc.out ?_) | (go_at_call 137; refine (kindOf_any V p _ _ (HV.out _ C0.out) HP.out).mono ?_; rintro r v1 ⟨rfl, hb⟩; replace C0 := hid (btr C0.out hb); clear hb; replace x11 := box_at (KA.out _ C0.out).2 11 (by omega); replace x12 := box_at (KA.out _ C0.out).2 12 (by omega); replace x13 := box_at (KA.out _ C0.out).2 13 (by omega); replace x17 := box_at (KA.out _ C0.out).2 17 (by omega); replace RGc := hid (KA.out _ C0.out).1))
    all_goals (go_meet; refine ⟨hid ?_, C0⟩; rw [ffB_k]; clear x11 x12 x13 x17 RGc C0 KA HV HB HP HT HLL HZ3; simp_all [bne])
   case rest =>
   obtain ⟨hx, C1⟩ := hcut
   obtain rfl := hx.out
   clear hx C0
   cases hff : ffB p f with
   | false =>
    have HN := hid (show (!btB p n 6 f) = false by rw [HB.out, hff]; rfl)
    go_wp2_with fail
    go_ret
    exact ⟨by rw [HN.out]; rfl, btr B5.out C1.out⟩
   | true =>
   rw [hff, Bool.true_and] at HB
   have HFF := hid hff
   clear hff
   generalize wc = W6 at *
   have x17 := box_at (KA.out W6 C1.out).2 17 (by omega)
   have x9 := box_at (KA.out W6 C1.out).2 9 (by omega)
   have r3 : W6.cell? ⟨w.heap.size, 3, none⟩ = some (V 3) := range_cell (KA.out W6 C1.out).1 rfl
   have HO := hid (owes_in HT.out HFF.out)
   have B6 := hid (btr B5.out C1.out)
   go_upto_region 13 with fail
   go_cut [134] from 117 to 134 (fun r wx => Hid (r = .bool (!owB p f)) ∧ Hid (W6 = wx))
   case first =>
    rcases HO.out with h1 | ⟨j, hj, e17⟩
    ·have HD := hid (show owB p f = true by unfold owB; rw [h1]; rfl)
     rw [h1] at x17
     clear h1
     go_wp2_with fail
     go_meet
     exact ⟨hid (by rw [HD.out]; rfl), hid rfl⟩
    ·have hj2 : (j : Int) < (p.tasks.length : Int) := by omega
     have cj := range_at (range_belowO (HZ3.out j hj) B6.out) (cf_at 20 _ 9 (by omega))
     have HOW := hid (show owB p f = (p.tasks[j] 9 == 5 && f 9 != 4) by unfold owB; rw [e17, stV_at hj, show ((j : Int) == -1) = false by simp]; rfl)
     have hjn : ((j : Int) != -1) = true := by simp
     rw [e17] at x17
     generalize p.tasks[j] 9 = y at cj HOW
     clear e17
     by_cases h5 : y = 5
     ·subst h5
      by_cases h4 : f 9 = 4
      ·have HD := hid (show owB p f = false by rw [HOW.out, h4]; rfl)
       have h42 : (f 9 == 4) = true := by simpa using h4
       clear HOW h4
       go_wp2_with fail
       go_meet
       exact ⟨hid (by rw [HD.out]; rfl), hid rfl⟩
      ·have HD := hid (show owB p f = true by rw [HOW.out, show (f 9 != 4) = true by simpa using h4]; rfl)
       have h42 : (f 9 == 4) = false := by simpa using h4
       clear HOW h4
       go_wp2_with fail
       go_meet
       exact ⟨hid (by rw [HD.out]; rfl), hid rfl⟩
     ·have HD := hid (show owB p f = false by rw [HOW.out, show (y == 5) = false by simpa using h5]; rfl)
      have h52 : (y != 5) = true := by simpa using h5
      clear HOW h5
      go_wp2_with fail
      go_meet
      exact ⟨hid (by rw [HD.out]; rfl), hid rfl⟩
   case rest =>
   obtain ⟨hx, hw6⟩ := hcut
   obtain rfl := hx.out
   obtain rfl := hw6.out
   clear hx hw6 x17 HO
   cases how : owB p f with
   | false =>
    have HN := hid (show (!btB p n 6 f) = false by rw [HB.out]; unfold dbB; rw [how]; rfl)
    clear how
    go_wp2_with fail
    go_ret
    exact ⟨by rw [HN.out]; rfl, B6.out⟩
   | true =>
   have HOW := hid how
   clear how
   go_wp2_with fail
   go_loopw [7, 8] (fun t i wr => ∃ k c : Nat, k ≤ p.tasks.length ∧ i = .int .i64 k ∧ t = .int .i64 c ∧ Hid (c = sumOf (ow n) (p.tasks.take k)) ∧ Hid (W6 = wr)) (fun _ i _ => p.tasks.length - (intOf i).toNat)
   case atStart => exact ⟨0, 0, by omega, rfl, rfl, hid rfl, hid rfl⟩
   case round =>
    obtain ⟨k, c, hk, rfl, rfl, HE2, HW2⟩ := hrel
    obtain rfl := HW2.out
    by_cases hlt : k < p.tasks.length
    ·have hlt2 : (k : Int) < (p.tasks.length : Int) := by omega
     have c17 := range_at (range_belowO (HZ3.out k hlt) B6.out) (cf_at 20 _ 17 (by omega))
     have hc : (c : Int) ≤ 1000 := by
      have := sum_take (ow n) 1 k p.tasks fun z _ => ow_le n z
      have := HE2.out
      omega
     have HS := hid (show sumOf (ow n) (p.tasks.take (k + 1)) = c + ow n p.tasks[k] by rw [sum_next _ hlt, ← HE2.out])
     by_cases hy : p.tasks[k] 17 = (n : Int)
     ·have HN := hid (show c + 1 = sumOf (ow n) (p.tasks.take (k + 1)) by rw [HS.out]; unfold ow; rw [if_pos hy])
      rw [hy] at c17
      clear hy HS
      go_wp2_with fail
      exact ⟨⟨k + 1, c + 1, by omega, by go_num, by go_num, HN, hid (by simp)⟩, by simp [intOf]; omega⟩
     ·have HN := hid (show c = sumOf (ow n) (p.tasks.take (k + 1)) by rw [HS.out]; unfold ow; rw [if_neg hy]; rfl)
      have hy2 : (p.tasks[k] 17 == (n : Int)) = false := by simpa using hy
      clear HS hy
      generalize p.tasks[k] 17 = y at c17 hy2
      go_wp2_with fail
      exact ⟨⟨k + 1, c, by omega, by go_num, rfl, HN, hid (by simp)⟩, by simp [intOf]; omega⟩
    ·obtain rfl : k = p.tasks.length := by omega
     have hge : ¬ ((p.tasks.length : Int) < (p.tasks.length : Int)) := by omega
     have HD := hid (show dbB p n f = if f 9 = 5 then (c : Int) == 1 else (c : Int) == 0 by unfold dbB; rw [HOW.out, show sumOf (ow n) p.tasks = c by rw [HE2.out, sum_all]]; rfl)
     go_upto_region 21 with fail
     go_cut [171] from 152 to 171 (fun r wx => Hid (r = .bool (!dbB p n f)) ∧ Hid (W6 = wx))
     case first =>
      by_cases h5 : f 9 = 5
      ·rw [if_pos h5] at HD
       have h52 : (f 9 == 5) = true := by simpa using h5
       have h53 : (f 9 != 5) = false := by simpa using h5
       clear h5
       by_cases c1 : 1 < c
       ·have c12 : (1 : Int) < (c : Int) := by omega
        have HG := hid (show dbB p n f = false by rw [HD.out]; simp; omega)
        go_wp2_with fail
        go_meet
        exact ⟨hid (by rw [HG.out]; rfl), hid rfl⟩
       ·have c12 : ¬ (1 : Int) < (c : Int) := by omega
        by_cases c2 : c = 1
        ·subst c2
         have HG := hid (show dbB p n f = true by rw [HD.out]; rfl)
         go_wp2_with fail
         go_meet
         exact ⟨hid (by rw [HG.out]; rfl), hid rfl⟩
        ·obtain rfl : c = 0 := by omega
         have HG := hid (show dbB p n f = false by rw [HD.out]; rfl)
         go_wp2_with fail
         go_meet
         exact ⟨hid (by rw [HG.out]; rfl), hid rfl⟩
      ·rw [if_neg h5] at HD
       have h52 : (f 9 == 5) = false := by simpa using h5
       have h53 : (f 9 != 5) = true := by simpa using h5
       clear h5
       by_cases c1 : 1 < c
       ·have c12 : (1 : Int) < (c : Int) := by omega
        have HG := hid (show dbB p n f = false by rw [HD.out]; simp; omega)
        go_wp2_with fail
        go_meet
        exact ⟨hid (by rw [HG.out]; rfl), hid rfl⟩
       ·have c12 : ¬ (1 : Int) < (c : Int) := by omega
        by_cases c2 : c = 1
        ·subst c2
         have HG := hid (show dbB p n f = false by rw [HD.out]; rfl)
         go_wp2_with fail
         go_meet
         exact ⟨hid (by rw [HG.out]; rfl), hid rfl⟩
        ·obtain rfl : c = 0 := by omega
         have HG := hid (show dbB p n f = true by rw [HD.out]; rfl)
         go_wp2_with fail
         go_meet
         exact ⟨hid (by rw [HG.out]; rfl), hid rfl⟩
     case rest =>
     obtain ⟨hx, hw6⟩ := hcut
     obtain rfl := hx.out
     obtain rfl := hw6.out
     clear hx hw6 HD
     cases hdb : dbB p n f with
     | false =>
      have HN := hid (show (!btB p n 6 f) = false by rw [HB.out, hdb]; rfl)
      clear hdb
      go_wp2_with fail
      go_ret
      exact ⟨by rw [HN.out]; rfl, B6.out⟩
     | true =>
     rw [hdb, Bool.true_and] at HB
     clear hdb
     have r4 : W6.cell? ⟨w.heap.size, 4, none⟩ = some (V 4) := range_cell (KA.out W6 C1.out).1 rfl
     have HHO := hid (howOften_any (V 4) p.lines n W6 ((HV.out W6 C1.out).lines) HP.out.lines HP.out.line)
     go_wp2_with fail
     refine HHO.out.mono ?_
     rintro r w1 ⟨rfl, rfl⟩
     go_wp2_with fail
     have HO7 := hid (fun W (hb : Below W6.heap.size W6 W) => howOften_any (V 7) p.ready n W ((HV.out W (btr C1.out hb)).ready) HP.out.ready HP.out.next)
     have HOB := hid (fun W (b : Nat) (hb : Below W6.heap.size W6 W) (hc : W.cell? ⟨b, 0, none⟩ = some (V 6)) => howOften_any (.slice (some ⟨b, 0, none⟩) 1 1) [p.cores] n W (one_list hc (HV.out W (btr C1.out hb)).cores) (by simp) (fun l hl => by rw [List.mem_singleton.1 hl]; exact HP.out.cores))
     have l7 : (cna n p.ready : Int) ≤ 1000000 := by have := cna_take n p.ready p.ready.length HP.out.next; rw [List.take_length] at this; have := HP.out.ready; omega
     have l6 : (cna n [p.cores] : Int) ≤ 1000 := by rw [cna_one]; have := cn_le n p.cores; omega
     have HTT := hid (show ((cn n p.cores + cna n p.ready : Nat) : Int) = (cna n p.ready : Int) + (cna n [p.cores] : Int) by rw [cna_one]; omega)
     have HBA := hid (show (!btB p n 6 f) = ((if pl (f 9) = 0 then f 14 == -1 && ((cna n p.lines : Nat) : Int) == 0 else isB p (f 14) (pl (f 9)) && ((cna n p.lines : Nat) : Int) == 1 && ((cn n (p.lines.getD (f 14).toNat []) : Nat) : Int) == 1) && (if f 9 = 1 then (cna n p.ready : Int) + (cna n [p.cores] : Int) == 1 else (cna n p.ready : Int) + (cna n [p.cores] : Int) == 0)) by rw [HB.out]; unfold srB rrB; rw [HTT.out])
     clear HB HTT
     generalize cna n p.ready = a7 at HO7 l7 HBA
     generalize cna n [p.cores] = a6 at HOB l6 HBA
     have hwr : IntKind.i64.wrap ((a7 : Int) + (a6 : Int)) = (a7 : Int) + (a6 : Int) := wraps_i64 _ (by omega) (by omega)
     have KS := hid (show ∀ W, Below W6.heap.size W6 W → W.cell? ⟨w.heap.size, 7, none⟩ = some (V 7) ∧ W.cell? ⟨w.heap.size, 6, none⟩ = some (V 6) from fun W hb => ⟨range_cell (KA.out W (btr C1.out hb)).1 rfl, range_cell (KA.out W (btr C1.out hb)).1 rfl⟩)
     rw [e6] at KS HOB
     have BD : Hid (Below W6.heap.size W6 W6.drew) := hid (below_drew W6 1)
     have BA := hid (show Below W6.heap.size W6 (W6.alloc (.cells #[.slice q6 p.cores.length cap6] 22)).drew from btr (bal (Below.refl W6.heap.size W6) (.cells #[.slice q6 p.cores.length cap6] 22)) (below_drew _ 1))
     have HO7a := hid (HO7.out W6.drew BD.out)
     have HO7b := hid (HO7.out (W6.alloc (.cells #[.slice q6 p.cores.length cap6] 22)).drew BA.out)
     have HOBa := hid (HOB.out (W6.alloc (.cells #[.slice q6 p.cores.length cap6] 22)).drew W6.heap.size BA.out (cells_new W6 #[.slice q6 p.cores.length cap6] 22 0))
     clear HO7 HOB
     clear r3 r4 x9
     go_cut [10] from 176 to 185 (fun r wx => Hid (r = .int .i64 ((a7 : Int) + (a6 : Int))) ∧ Hid (Below W6.heap.size W6 wx))
     case first =>
      go_region_held3 (fun W => W.cell? ⟨w.heap.size, 7, none⟩ = some (V 7) ∧ W.cell? ⟨w.heap.size, 6, none⟩ = some (.slice q6 p.cores.length cap6))
       (first | (with_reducible exact KS.out _ BD.out) | (with_reducible exact KS.out _ BA.out))
       (first
        | (go_at_call 138; (with_reducible refine HO7a.out.mono ?_); rintro r w1 ⟨rfl, rfl⟩)
        | (go_at_call 138; (with_reducible refine HO7b.out.mono ?_); rintro r w1 ⟨rfl, rfl⟩)
        | (go_at_call 138; (with_reducible refine HOBa.out.mono ?_); rintro r w1 ⟨rfl, rfl⟩))
      all_goals (go_wp2_with fail; go_meet; exact ⟨hid rfl, BA⟩)
     case rest =>
     obtain ⟨hx, BX0⟩ := hcut
     obtain rfl := hx.out
     have C2 := hid (btr C1.out BX0.out)
     have B7 := hid (btr B5.out C2.out)
     clear hx BX0 KS BD BA HO7a HO7b HOBa hwr
     generalize wc = W7 at *
     have x9 := box_at (KA.out W7 C2.out).2 9 (by omega)
     have x14 := box_at (KA.out W7 C2.out).2 14 (by omega)
     have RGc := hid (KA.out W7 C2.out).1
     have HCN := hid (show cna n p.lines = 1 → ∀ j (hj : j < p.lines.length), (((cn n p.lines[j] : Nat) : Int) == 1) = inB n p.lines[j] from fun h j hj => one_in h hj)
     generalize cna n p.lines = aa at HBA HCN ⊢
     generalize (a7 : Int) + (a6 : Int) = tt at HBA ⊢
     have HPL := hid (pl_k (f 9))
     have close : ∀ (b : Bool) (W : World), b = (!btB p n 6 f) → Hid (Below W5.heap.size W5 W) → Ending.returned (Value.bool b) = .returned (.bool (!btB p n 6 f)) ∧ Below w.heap.size w W := fun b W h hb => ⟨by rw [h], btr B5.out hb.out⟩
     have CLOSE := hid close
     clear close
     by_cases hin : ∃ j : Nat, j < p.lines.length ∧ f 14 = j
     ·obtain ⟨j, hj, ej⟩ := hin
      have HC := hid (show (!btB p n 6 f) = ((if pl (f 9) = 0 then false else (kindAt p (j : Int)).getD (-1) == pl (f 9) && (aa : Int) == 1 && inB n p.lines[j]) && (if f 9 = 1 then tt == 1 else tt == 0)) by
       rw [HBA.out, ej, Int.toNat_natCast, List.getD_eq_getElem?_getD, List.getElem?_eq_getElem hj, show ((j : Int) == -1) = false by simp]
       by_cases h0 : pl (f 9) = 0
       ·rw [if_pos h0, if_pos h0]; rfl
       rw [if_neg h0, if_neg h0, isB_kind (by rw [HPL.out]; (repeat' split) <;> decide)]
       by_cases ha : aa = 1
       ·rw [← HCN.out ha j hj]; rfl
       ·rw [show ((aa : Int) == 1) = false by simp; omega]; simp)
      rw [HPL.out] at HC
      have hj2 : (j : Int) < (p.lines.length : Int) := by omega
      have hl4 : (p.lines.length : Int) ≤ 1000 := by have := HP.out.lines; omega
      obtain ⟨q4, b4, off4, cap4, e4, hq4, -⟩ := (HV.out W7 C2.out).lines
      obtain rfl := hq4 (by omega)
      rw [ej] at x14
      have EJ := hid ej
      clear HBA HCN HPL hq4 ej
      generalize (aa : Int) = az at HC ⊢
      go_wp2_with (first | go_skip | go_big_skip | go_big_guard | ((with_reducible (show wpList _ _ _ (⟨_, Op.load 28 _, _, _, _, _⟩ :: _) _ _)); refine wp_ldWg (by rfl) _ rfl _ rfl V RGc.out ?_) | (go_at_call 137; refine (kindOf_any V p _ _ (HV.out _ C2.out) HP.out).mono ?_; rintro r w2 ⟨rfl, hb⟩; replace C2 := hid (btr C2.out hb); clear hb; replace x14 := box_at (KA.out _ C2.out).2 14 (by omega); rw [EJ.out] at x14; have r4 := range_cell (KA.out _ C2.out).1 (show (arr11 V).toList[4]? = some (V 4) from rfl); obtain ⟨y, cy, hy⟩ := lists_at (e4 ▸ (HV.out _ C2.out).lines) j hj; replace hy := hid hy) | (go_at_call 139; refine (in_any y p.lines[j] n _ hy.out (HP.out.line _ (List.getElem_mem hj))).mono ?_; rintro r w3 ⟨rfl, rfl⟩))
      all_goals try (go_ret; refine CLOSE.out _ _ ?_ C2; rw [HC.out]; clear HC KA HV HP HT HLL HZ3 RGc x14 C2 CLOSE; simp_all)
     ·have HK := hid (show (kindAt p (f 14)).getD (-1) = -1 by rw [kindAt_none fun h => hin ⟨(f 14).toNat, by have := HLL.out; omega, by omega⟩]; rfl)
      have HC := hid (show (!btB p n 6 f) = ((if pl (f 9) = 0 then f 14 == -1 && (aa : Int) == 0 else false) && (if f 9 = 1 then tt == 1 else tt == 0)) by
       rw [HBA.out]
       by_cases h0 : pl (f 9) = 0
       ·rw [if_pos h0, if_pos h0]
       rw [if_neg h0, if_neg h0, isB_kind (by rw [HPL.out]; (repeat' split) <;> decide), HK.out, show ((-1 : Int) == pl (f 9)) = false by rw [HPL.out]; (repeat' split) <;> rfl]; rfl)
      rw [HPL.out] at HC
      clear HBA HCN HPL hin
      generalize (aa : Int) = az at HC ⊢
      go_wp2_with (first | go_skip | go_big_skip | go_big_guard | ((with_reducible (show wpList _ _ _ (⟨_, Op.load 28 _, _, _, _, _⟩ :: _) _ _)); refine wp_ldWg (by rfl) _ rfl _ rfl V RGc.out ?_) | (go_at_call 137; refine (kindOf_any V p _ _ (HV.out _ C2.out) HP.out).mono ?_; rintro r w2 ⟨rfl, hb⟩; replace C2 := hid (btr C2.out hb); clear hb; rw [HK.out]))
      all_goals try (go_ret; refine CLOSE.out _ _ ?_ C2; rw [HC.out]; clear HC KA HV HP HT HLL HZ3 RGc x14 C2 CLOSE; simp_all)
theorem taskWell_any (V : Nat → Value) (p : PW) (n : Nat) (w : World) (hv : WorldV w V p) (hp : p.Fits) (hn : n < p.kinds.length) (ht : p.tasks.length = p.kinds.length) (hll : p.lines.length = p.kinds.length) :
  Calls Tryz.prog 96 #[.agg (arr11 V), .int .i64 n] w fun r w' => r = .returned (.bool (!btB p n p.kinds[n] (p.tasks[n]'(by omega)))) ∧ Below w.heap.size w w' := by
 by_cases h6 : p.kinds[n] = 6
 ·rw [h6]
  exact taskWell_task V p n w hv hp hn ht hll h6
 ·exact taskWell_none V p n w hv hp hn ht h6
end Go.Proofs.YtoebmjgkfkfhjaaGreatDoor.Wd
