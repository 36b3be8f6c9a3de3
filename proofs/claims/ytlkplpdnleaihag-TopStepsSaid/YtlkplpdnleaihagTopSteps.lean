/- keyholdtop.TopSteps, walked. -/
import Derived.Test.YtlkplpdnleaihagTopSteps0
namespace Go.Proofs.Ytlkplpdnleaihag.Cpu
open Go.RowKit Go.Proofs.Ytlkplpdnleaihag.Mem Go.Proofs.Ytlkplpdnleaihag.Bw Go.Proofs.Ytlkplpdnleaihag.Nums

set_option maxRecDepth 100000 in
set_option maxHeartbeats 16000000 in
theorem topSteps_main (v u : Value) (zs rs : List Int) (i pc : Int) (w : World) (hv : RawIn w v zs) (hu : RawIn w u rs) (hl : zs.length + rs.length ≤ 256) (hi : -9223372036854775808 ≤ i ∧ i ≤ 9223372036854775807) (hp : -9223372036854775808 ≤ pc ∧ pc ≤ 9223372036854775807) :
    Calls Try.prog 4 #[v, .int .i64 i, u, .int .i64 pc] w fun e w' => e = .returned (.bool true) ∧ Below w.heap.size w w' := by
  have HV := hid hv
  have HU := hid hu
  have hv2 := hv
  have hu2 := hu
  obtain ⟨q0, vb, voff, vcap, rfl, -, -, -⟩ := hv2
  obtain ⟨q1, ub, uoff, ucap, rfl, -, -, -⟩ := hu2
  clear hv hu
  have hl2 : (zs.length : Int) + (rs.length : Int) ≤ 256 := by omega
  have hl3 : zs.length ≤ 256 := by omega
  have hl4 : rs.length ≤ 256 := by omega
  obtain ⟨p0, p1⟩ := hp
  obtain ⟨m0, m1⟩ := hi
  go_enter Try.func4, Try.ntmps4
  go_wp2_with fail
  refine (blank_any _).mono ?_
  rintro e w1 ⟨rfl, hb1⟩
  have L1 := hid (tw_new w w1 #[.int .i64 0, .int .i64 0, .int .i64 0, .int .i64 0, .int .i64 0, .int .i64 0, .int .i64 0, .int .i64 0, .int .i64 0, .int .i64 0, .int .i64 0, .int .i64 0, .int .i64 0, .int .i64 0, .int .i64 0, .int .i64 0, .int .i64 0, .int .i64 0, .int .i64 0, .int .i64 0] rfl bl hb1)
  have R0 := hid (there_new w1 #[.int .i64 0, .int .i64 0, .int .i64 0, .int .i64 0, .int .i64 0, .int .i64 0, .int .i64 0, .int .i64 0, .int .i64 0, .int .i64 0, .int .i64 0, .int .i64 0, .int .i64 0, .int .i64 0, .int .i64 0, .int .i64 0, .int .i64 0, .int .i64 0, .int .i64 0, .int .i64 0] 35 w1.heap.size 20 rfl (by decide))
  clear hb1
  go_wp2_with (first
    | ((with_reducible (show wpList _ _ _ (⟨_, Op.store 35 _ _, _, _, _, _⟩ :: _) _ _)); refine wp_st rfl _ _ rfl _ rfl (tc bl) rfl (tc_len _) (tc_one _) R0.out ?_; generalize World.setCells _ _ _ _ = W2 at L1 ⊢; clear R0))
  generalize w1.heap.size = bt at L1 ⊢
  go_loopw [10] (fun x wr => ∃ (k : Nat) (f : Nat → Int), k ≤ 8 ∧ x = .int .i64 k ∧ Hid (TW w wr bt f ∧ ∀ j, j < k → 0 ≤ f j ∧ f j < 65536)) (fun x _ => 8 - (intOf x).toNat)
  case atStart => exact ⟨0, bl, by omega, rfl, L1.out, fun j h => by omega⟩
  case round =>
    obtain ⟨k, f, hk, rfl, hE⟩ := hrel
    by_cases hlt : k < 8
    · have hlt2 : (k : Int) < 8 := by omega
      go_wp2_with fail
      refine (Mad.raw_any _ rs k _ (HU.out.below hE.out.1.bel) hl4 (by omega)).mono ?_
      rintro e w3 ⟨c, rfl, c0, c1, hb3⟩
      have L3 := hid (hE.out.1.below hb3)
      have tk := range_cell L3.out.t (tc_at f k (by omega))
      have fk := (L3.out.tt k (by omega)).2
      rw [Nat.zero_add] at fk
      have PB := pickV_bound c 65536 (by decide)
      have HN := hid (show TW w (w3.setCell ⟨bt, k, none⟩ (.int .i64 (pickV c 65536))) bt (upd f k (pickV c 65536)) ∧ ∀ j, j < k + 1 → 0 ≤ upd f k (pickV c 65536) j ∧ upd f k (pickV c 65536) j < 65536 from ⟨L3.out.set k (by omega) _, fun j hj => by
        unfold upd
        split
        · exact PB
        · exact hE.out.2 j (by omega)⟩)
      clear hb3
      go_wp2_with (first | (go_at_call 8; refine (pick_eq _ _ _ (by omega) (by omega) (by decide)).mono ?_; rintro e w' ⟨rfl, rfl⟩))
      exact ⟨⟨k + 1, _, by omega, by go_num, HN.out⟩, by simp [intOf]; omega⟩
    · obtain rfl : k = 8 := by omega
      clear L1
      have t8 := range_cell hE.out.1.t (tc_at f 8 (by decide))
      have z8 := (hE.out.1.tt 8 (by decide)).2
      have L2 := hid (hE.out.1.set 8 (by decide) (pickV pc 65536))
      have FB := hid (show ∀ k, k < 9 → 0 ≤ upd f 8 (pickV pc 65536) k ∧ upd f 8 (pickV pc 65536) k < 65536 from fun k hk => by
        unfold upd
        split
        · exact pickV_bound pc 65536 (by decide)
        · exact hE.out.2 k (by omega))
      clear hE
      go_wp2_with (first
        | (go_at_call 8; refine (pick_eq _ _ _ p0 p1 (by decide)).mono ?_; rintro e w' ⟨rfl, rfl⟩)
        | ((with_reducible (show wpList _ _ _ (⟨_, Op.load 35 _, _, _, _, _⟩ :: _) _ _)); refine wp_ld rfl _ rfl _ rfl (tc _) (tc_len _) L2.out.t ?_))
      generalize World.setCell _ _ _ = W3 at L2 ⊢
      generalize upd f 8 (pickV pc 65536) = g at *
      clear t8 z8
      refine (step_no0 noneBus () g W3 trivial FB.out rfl).mono ?_
      rintro e w4 ⟨rfl, hk4, -⟩
      have K4 := hid (show Below W3.heap.size W3 w4 from Kp.all hk4)
      have L4 := hid (L2.out.below K4.out)
      have A5 := hid (tw_new w w4 #[.int .i64 0, .int .i64 0, .int .i64 0, .int .i64 0, .int .i64 0, .int .i64 0, .int .i64 0, .int .i64 0, .int .i64 0, .int .i64 0, .int .i64 0, .int .i64 0, .int .i64 0, .int .i64 0, .int .i64 0, .int .i64 0, .int .i64 0, .int .i64 0, .int .i64 0, .int .i64 0] rfl g L4.out.bel)
      have L5 := hid (L4.out.below (below_new w4 #[.int .i64 0, .int .i64 0, .int .i64 0, .int .i64 0, .int .i64 0, .int .i64 0, .int .i64 0, .int .i64 0, .int .i64 0, .int .i64 0, .int .i64 0, .int .i64 0, .int .i64 0, .int .i64 0, .int .i64 0, .int .i64 0, .int .i64 0, .int .i64 0, .int .i64 0, .int .i64 0] g))
      have R4 := hid (there_new w4 #[.int .i64 0, .int .i64 0, .int .i64 0, .int .i64 0, .int .i64 0, .int .i64 0, .int .i64 0, .int .i64 0, .int .i64 0, .int .i64 0, .int .i64 0, .int .i64 0, .int .i64 0, .int .i64 0, .int .i64 0, .int .i64 0, .int .i64 0, .int .i64 0, .int .i64 0, .int .i64 0] 35 w4.heap.size 20 rfl (by decide))
      have n4 : bt < w4.heap.size := L4.out.sz
      clear hk4 L2
      unfold retV
      go_wp2_with (first
        | ((with_reducible (show wpList _ _ _ (⟨_, Op.store 35 _ _, _, _, _, _⟩ :: _) _ _)); refine wp_st rfl _ _ rfl _ rfl (tc g) rfl (tc_len _) (tc_one _) R4.out ?_; generalize World.setCells _ _ _ _ = W5 at A5 L5 ⊢; have t8 := range_cell L5.out.t (tc_at g 8 (by decide)))
        | ((with_reducible (show wpList _ _ _ (⟨_, Op.load 35 _, _, _, _, _⟩ :: _) _ _)); refine wp_ld rfl _ rfl _ rfl (tc g) (tc_len _) A5.out.t ?_)
        | ((with_reducible (show wpList _ _ _ (⟨_, Op.load 35 _, _, _, _, _⟩ :: _) _ _)); refine wp_ld rfl _ rfl _ rfl (tc g) (tc_len _) L5.out.t ?_)
        | ((with_reducible (show wpList _ _ _ (⟨_, Op.binOp BinOp.neq 35 _ _ _, _, _, _, _⟩ :: _) _ _)); refine wp_neq rfl _ _ _ rfl g rfl rfl ?_))
      generalize w4.heap.size = ba at *
      clear R4 L4 K4 t8
      refine (Mad.codeFrom_any _ zs 0 W5 (HV.out.below L5.out.bel) hl3 (by decide)).mono ?_
      rintro e w6 ⟨lb, lc, qs, rfl, hql, hqg, hqi, hb6⟩
      obtain ⟨j, hj⟩ : ∃ j : Nat, pickV i 15 = (j : Int) := ⟨(pickV i 15).toNat, by have := pickV_bound i 15 (by decide); omega⟩
      have HJ := hid hj
      have hj15 : j < 15 := by have := pickV_bound i 15 (by decide); omega
      have hjl : j < qs.length := by omega
      have hjl2 : (j : Int) < (qs.length : Int) := by omega
      have hq16 : (qs.length : Int) ≤ 16 := by omega
      have HG := hid (hqg j hjl hj15)
      obtain ⟨x0, x1, x2, x3⟩ := hqi j hjl
      rw [Nat.zero_add] at x0 x1 x2 x3
      generalize qs[j] = q at HG x0 x1 x2 x3
      obtain ⟨qo, qa, qb, qi⟩ := q
      simp only at x0 x1 x2 x3
      have A6 := hid ((A5.out.below hb6).below (bal (Below.refl _ _) (.cells #[.int .i64 qo, .int .i64 qa, .int .i64 qb, .int .i64 qi] 45)))
      have L6 := hid ((L5.out.below hb6).below (bal (Below.refl _ _) (.cells #[.int .i64 qo, .int .i64 qa, .int .i64 qb, .int .i64 qi] 45)))
      have X6 := hid (cells_new w6 #[.int .i64 qo, .int .i64 qa, .int .i64 qb, .int .i64 qi] 45)
      have n6 : ba < w6.heap.size := (A5.out.below hb6).sz
      clear hj hql hqg hqi hb6 A5 L5 HV HU hl hl2 hl3 hl4
      go_wp2_with (first
        | (go_at_call 8; refine (pick_eq _ _ _ m0 m1 (by decide)).mono ?_; rintro e w' ⟨rfl, rfl⟩; rw [HJ.out]))
      generalize World.alloc _ _ = W7 at A6 L6 X6 ⊢
      generalize w6.heap.size = bx at *
      have gm := HG.out.1
      simp only at gm
      obtain ⟨o0, o1, a0, a1, b0, b1, i0, i1⟩ := IP.may_zero gm
      have hjj : (0 ≤ g 8 ∧ g 8 < 65536) ∧ (0 ≤ IP.c0 qo qa qb ∧ IP.c0 qo qa qb < 65536) ∧ 0 ≤ IP.c1 qi ∧ IP.c1 qi < 65536 := ⟨FB.out 8 (by decide), by unfold IP.c0; omega, by unfold IP.c1; split <;> omega⟩
      have HJJ := hid hjj
      have GM := hid gm
      have HST := hid (step_just g qo qa qb qi gm HJJ.out)
      have t8 := range_cell L6.out.t (tc_at g 8 (by decide))
      clear hjj gm
      have hu := Try.underlying35
      have hi : (Try.prog.info? 35).map (·.size) = some (tc g).length := by rw [tc_len]; exact info20
      refine wp_region_held_drew (S := fun W => W.rangeAt bt 0 (tc g) ∧ W.cell? ⟨bt, 8, none⟩ = some (.int .i64 (g 8)) ∧ W.cell? ⟨bx, 0, none⟩ = some (.int .i64 qo) ∧ W.cell? ⟨bx, 1, none⟩ = some (.int .i64 qa) ∧ W.cell? ⟨bx, 2, none⟩ = some (.int .i64 qb) ∧ W.cell? ⟨bx, 3, none⟩ = some (.int .i64 qi)) (by kernel_rfl) ⟨L6.out.t, t8, X6.out 0, X6.out 1, X6.out 2, X6.out 3⟩ (fun hH => ?_)
      have hH0 := hid hH
      clear hH t8
      refine wpAnyH_take (i := 0) (v := .agg (tc g).toArray) rfl (by kernel_rfl) (by kernel_rfl) (by kernel_rfl) (fun _ _ _ h => h) (yieldsIf_load_mid (by rfl) _ _ rfl _ _ rfl (tc g) _ (fun _ h => h.1) hu rfl hi) hH0.out ?_
      simp only [Act.put, List.getElem_toArray, List.getElem_cons_zero, List.setIfInBounds_toArray, List.set_cons_zero, List.set_cons_succ]
      clear hu hi
      refine wpAnyH_take (i := 1) (v := .pointer (some ⟨bt, 8, none⟩)) rfl (by kernel_rfl) (by kernel_rfl) (by kernel_rfl) (fun _ _ _ h => h) (Or.inl ⟨by rfl, fun W h => by clear h; go_simp⟩) hH0.out ?_
      simp only [Act.put, List.getElem_toArray, List.getElem_cons_succ, List.getElem_cons_zero, List.setIfInBounds_toArray, List.set_cons_zero, List.set_cons_succ]
      refine wpAnyH_take (i := 2) (v := .int .i64 (g 8)) rfl (by kernel_rfl) (by kernel_rfl) (by kernel_rfl) (fun _ _ _ h => h) (Or.inl ⟨by rfl, fun W h => by have h3 := h.2.1; clear h; go_simp⟩) hH0.out ?_
      simp only [Act.put, List.getElem_toArray, List.getElem_cons_succ, List.getElem_cons_zero, List.setIfInBounds_toArray, List.set_cons_zero, List.set_cons_succ]
      refine wpAnyH_take (i := 3) (v := .agg #[.int .i64 qo, .int .i64 qa, .int .i64 qb, .int .i64 qi]) rfl (by kernel_rfl) (by kernel_rfl) (by kernel_rfl) (fun _ _ _ h => h) (Or.inl ⟨by rfl, fun W h => by obtain ⟨_, _, h3, h4, h5, h6⟩ := h; go_simp⟩) hH0.out ?_
      simp only [Act.put, List.getElem_toArray, List.getElem_cons_succ, List.getElem_cons_zero, List.setIfInBounds_toArray, List.set_cons_zero, List.set_cons_succ]
      refine wpAnyH_ready (rs := [4]) (by kernel_rfl) (by simp) (AllReadyH.cons rfl (fun K hK => ?_) AllReadyH.nil)
      rw [if_pos (by rfl)]
      simp only [List.getElem_toArray, List.getElem_cons_succ, List.getElem_cons_zero]
      have BD := hid (below_drew W7 1)
      go_simp
      refine (Isa.codeOf_ok qo qa qb qi _ GM.out).mono ?_
      rintro e w8 ⟨rfl, hb⟩
      have HH8 := hid (show w8.rangeAt bt 0 (tc g) ∧ w8.cell? ⟨bt, 8, none⟩ = some (.int .i64 (g 8)) ∧ w8.cell? ⟨bx, 0, none⟩ = some (.int .i64 qo) ∧ w8.cell? ⟨bx, 1, none⟩ = some (.int .i64 qa) ∧ w8.cell? ⟨bx, 2, none⟩ = some (.int .i64 qb) ∧ w8.cell? ⟨bx, 3, none⟩ = some (.int .i64 qi) from
        ⟨range_below hH0.out.1 hb, (hb.cell (World.block_lt_of_cell? _ _ hH0.out.2.1)).trans hH0.out.2.1, (hb.cell (World.block_lt_of_cell? _ _ hH0.out.2.2.1)).trans hH0.out.2.2.1, (hb.cell (World.block_lt_of_cell? _ _ hH0.out.2.2.2.1)).trans hH0.out.2.2.2.1, (hb.cell (World.block_lt_of_cell? _ _ hH0.out.2.2.2.2.1)).trans hH0.out.2.2.2.2.1, (hb.cell (World.block_lt_of_cell? _ _ hH0.out.2.2.2.2.2)).trans hH0.out.2.2.2.2.2⟩)
      have A8 := hid ((A6.out.below BD.out).below hb)
      refine hK.out _ _ HH8.out (fun _ => ?_)
      clear hK K hb hH0 A6 L6 X6 BD
      refine wpAnyH_take (i := 5) (v := .agg #[.int .i64 (g 8), .int .i64 (IP.c0 qo qa qb), .int .i64 (IP.c1 qi)]) rfl (by kernel_rfl) (by kernel_rfl) (by kernel_rfl) (fun _ _ _ h => h) (Or.inl ⟨by rfl, fun W h => by clear h; go_simp⟩) HH8.out ?_
      simp only [Act.put, List.getElem_toArray, List.getElem_cons_succ, List.getElem_cons_zero, List.setIfInBounds_toArray, List.set_cons_zero, List.set_cons_succ]
      refine wpAnyH_take (i := 6) (v := .iface 51 (.agg #[.int .i64 (g 8), .int .i64 (IP.c0 qo qa qb), .int .i64 (IP.c1 qi)])) rfl (by kernel_rfl) (by kernel_rfl) (by kernel_rfl) (fun _ _ _ h => h) (Or.inl ⟨by rfl, fun W h => by clear h; go_simp⟩) HH8.out ?_
      simp only [Act.put, List.getElem_toArray, List.getElem_cons_succ, List.getElem_cons_zero, List.setIfInBounds_toArray, List.set_cons_zero, List.set_cons_succ]
      refine wpAnyH_ready (rs := [7]) (by kernel_rfl) (by simp) (AllReadyH.cons rfl (fun K hK => ?_) AllReadyH.nil)
      rw [if_pos (by rfl)]
      simp only [List.getElem_toArray, List.getElem_cons_succ, List.getElem_cons_zero]
      go_simp
      refine (step_any (justBus (g 8) (IP.c0 qo qa qb) (IP.c1 qi) HJJ.out) () g w8 trivial FB.out).mono ?_
      rintro e w9 ⟨rfl, hk9, -⟩
      rw [HST.out]
      generalize hR : doR (justBus (g 8) (IP.c0 qo qa qb) (IP.c1 qi) HJJ.out) () g qo qa.toNat qb.toNat qi = R
      have HRR := hid hR
      obtain ⟨g2, ev, n, m2⟩ := R
      have hb : Below w8.heap.size w8 w9 := Kp.all hk9
      have HH9 := hid (show w9.rangeAt bt 0 (tc g) ∧ w9.cell? ⟨bt, 8, none⟩ = some (.int .i64 (g 8)) ∧ w9.cell? ⟨bx, 0, none⟩ = some (.int .i64 qo) ∧ w9.cell? ⟨bx, 1, none⟩ = some (.int .i64 qa) ∧ w9.cell? ⟨bx, 2, none⟩ = some (.int .i64 qb) ∧ w9.cell? ⟨bx, 3, none⟩ = some (.int .i64 qi) from
        ⟨range_below HH8.out.1 hb, (hb.cell (World.block_lt_of_cell? _ _ HH8.out.2.1)).trans HH8.out.2.1, (hb.cell (World.block_lt_of_cell? _ _ HH8.out.2.2.1)).trans HH8.out.2.2.1, (hb.cell (World.block_lt_of_cell? _ _ HH8.out.2.2.2.1)).trans HH8.out.2.2.2.1, (hb.cell (World.block_lt_of_cell? _ _ HH8.out.2.2.2.2.1)).trans HH8.out.2.2.2.2.1, (hb.cell (World.block_lt_of_cell? _ _ HH8.out.2.2.2.2.2)).trans HH8.out.2.2.2.2.2⟩)
      have A9 := hid (A8.out.below hb)
      refine hK.out _ _ HH9.out (fun _ => ?_)
      clear hK K hb HH8 A8 hk9 hR HST
      unfold retV
      refine wpAnyH_take (i := 8) (v := .tuple #[.agg (tc g2).toArray, .int .i64 ev, .int .i64 n]) rfl (by kernel_rfl) (by kernel_rfl) (by kernel_rfl) (fun _ _ _ h => h) (Or.inl ⟨by rfl, fun W h => by clear h; go_simp⟩) HH9.out ?_
      simp only [Act.put, List.getElem_toArray, List.getElem_cons_succ, List.getElem_cons_zero, List.setIfInBounds_toArray, List.set_cons_zero, List.set_cons_succ]
      refine wpAnyH_take (i := 9) (v := .agg (tc g2).toArray) rfl (by kernel_rfl) (by kernel_rfl) (by kernel_rfl) (fun _ _ _ h => h) (Or.inl ⟨by rfl, fun W h => by clear h; go_simp⟩) HH9.out ?_
      simp only [Act.put, List.getElem_toArray, List.getElem_cons_succ, List.getElem_cons_zero, List.setIfInBounds_toArray, List.set_cons_zero, List.set_cons_succ]
      refine wpAnyH_take (i := 10) (v := .int .i64 ev) rfl (by kernel_rfl) (by kernel_rfl) (by kernel_rfl) (fun _ _ _ h => h) (Or.inl ⟨by rfl, fun W h => by clear h; go_simp⟩) HH9.out ?_
      simp only [Act.put, List.getElem_toArray, List.getElem_cons_succ, List.getElem_cons_zero, List.setIfInBounds_toArray, List.set_cons_zero, List.set_cons_succ]
      refine wpAnyH_take (i := 11) (v := .int .i64 n) rfl (by kernel_rfl) (by kernel_rfl) (by kernel_rfl) (fun _ _ _ h => h) (Or.inl ⟨by rfl, fun W h => by clear h; go_simp⟩) HH9.out ?_
      simp only [Act.put, List.getElem_toArray, List.getElem_cons_succ, List.getElem_cons_zero, List.setIfInBounds_toArray, List.set_cons_zero, List.set_cons_succ]
      refine wpAnyH_ready (rs := [12]) (by kernel_rfl) (by simp) (AllReadyH.cons rfl (fun K hK => ?_) AllReadyH.nil)
      rw [if_pos (by rfl)]
      refine wp_store_mid _ _ _ rfl _ _ (tc g2).toArray rfl rfl (by simpa [tc_len g2] using A9.out.tt) (by rw [info20]; simp [tc_len g2]) (all_oneCell_toArray (tc_one g2)) ?_
      simp only [Act.put, List.getElem_toArray, List.getElem_cons_succ, List.getElem_cons_zero]
      have HHA := hid (show (w9.setCells ba 0 (tc g2)).rangeAt bt 0 (tc g) ∧ (w9.setCells ba 0 (tc g2)).cell? ⟨bt, 8, none⟩ = some (.int .i64 (g 8)) ∧ (w9.setCells ba 0 (tc g2)).cell? ⟨bx, 0, none⟩ = some (.int .i64 qo) ∧ (w9.setCells ba 0 (tc g2)).cell? ⟨bx, 1, none⟩ = some (.int .i64 qa) ∧ (w9.setCells ba 0 (tc g2)).cell? ⟨bx, 2, none⟩ = some (.int .i64 qb) ∧ (w9.setCells ba 0 (tc g2)).cell? ⟨bx, 3, none⟩ = some (.int .i64 qi) from
        ⟨World.rangeAt_setCells_apart HH9.out.1 _ _ _ (.inl (by omega)), by rw [cell_setCells (by omega)]; exact HH9.out.2.1, by rw [cell_setCells (by omega)]; exact HH9.out.2.2.1, by rw [cell_setCells (by omega)]; exact HH9.out.2.2.2.1, by rw [cell_setCells (by omega)]; exact HH9.out.2.2.2.2.1, by rw [cell_setCells (by omega)]; exact HH9.out.2.2.2.2.2⟩)
      have AA := hid (A9.out.put (tc g2) g2 rfl)
      refine hK.out _ _ HHA.out (fun _ => ?_)
      clear hK K HH9 A9
      generalize World.setCells _ _ _ _ = Wa at HHA AA ⊢
      refine wpAnyH_take (i := 13) (v := .int .i64 ev) rfl (by kernel_rfl) (by kernel_rfl) (by kernel_rfl) (fun _ _ _ h => h) (Or.inl ⟨by rfl, fun W h => by clear h; go_simp⟩) HHA.out ?_
      simp only [Act.put, List.getElem_toArray, List.getElem_cons_succ, List.getElem_cons_zero, List.setIfInBounds_toArray, List.set_cons_zero, List.set_cons_succ]
      refine wpAnyH_done (by kernel_rfl) ?_ _
      obtain ⟨A, rfl⟩ := Int.eq_ofNat_of_zero_le a0
      have hA8 : A < 8 := by omega
      have hA82 : (A : Int) < 8 := by omega
      have y8 := HHA.out.2.1
      have y0 := HHA.out.2.2.1
      have y1 := HHA.out.2.2.2.1
      have c8 := range_cell AA.out.t (tc_at g2 8 (by decide))
      have tA := range_cell HHA.out.1 (tc_at g A (by omega))
      have cA := range_cell AA.out.t (tc_at g2 A (by omega))
      have zA := (AA.out.tt A (by omega)).2
      rw [Nat.zero_add] at zA
      obtain ⟨g80, g81⟩ := FB.out 8 (by decide)
      have n0 := HG.out.2.2.2.1
      have n12 := HG.out.2.2.2.2
      simp only at n0 n12
      by_cases h10 : qo = 10
      · have q10 : (qo == 10) = true := beq_iff_eq.2 h10
        clear h10 n0 n12
        go_wp2_with fail
        go_ret
        exact ⟨rfl, AA.out.bel⟩
      have q10 : (qo == 10) = false := beq_eq_false_iff_ne.2 h10
      by_cases h11 : qo = 11
      · have q11 : (qo == 11) = true := beq_iff_eq.2 h11
        clear h11 h10 n0 n12
        go_wp2_with fail
        go_ret
        exact ⟨rfl, AA.out.bel⟩
      have q11 : (qo == 11) = false := beq_eq_false_iff_ne.2 h11
      have WN := went_of (justBus (g 8) (IP.c0 qo A qb) (IP.c1 qi) HJJ.out) g qo qi A qb.toNat hA8 n0 n12 h10 h11
      have hRR := HRR.out
      rw [Int.toNat_natCast] at hRR
      rw [hRR] at WN
      have HB := hid WN.back
      have wsys := WN.sys
      have wwent := WN.went
      have wpc := WN.pc
      simp only at HB wsys wwent wpc
      clear WN hRR n0 n12 h10 h11 HRR
      by_cases h14 : qo = 14
      · have q14 : (qo == 14) = true := beq_iff_eq.2 h14
        have r14 : (qo != 14) = false := by rw [bne, q14]; rfl
        have q13 : (qo != 13) = true := by rw [bne_iff_ne]; omega
        have ve := wsys h14
        have qe : (ev != 1) = false := by rw [ve]; rfl
        have pe : (g2 8 != (g 8 + 2) % 65536) = false := by rw [wpc (by omega)]; simp
        clear wsys wwent wpc ve h14
        go_wp2_with fail
        go_region_with (fail)
        all_goals
          have A1 := hid (AA.out.set A (by omega) (g A)).drw
          have L1 := hid (show ((Wa.setCell ⟨ba, A, none⟩ (.int .i64 (g A))).drew).rangeAt bt 0 (tc g) from range_far HHA.out.1 (by omega) _)
          generalize World.drew _ = W1 at A1 L1 ⊢
          have u8 := range_cell L1.out (tc_at g 8 (by decide))
          have d8 := range_cell A1.out.t (tc_at _ 8 (by decide))
          have e8 := (A1.out.tt 8 (by decide)).2
          have A2 := hid (A1.out.set 8 (by decide) (g 8))
          have T2 := hid (show (W1.setCell ⟨ba, 8, none⟩ (.int .i64 (g 8))).rangeAt ba 0 (tc g) by have := A2.out.t; rw [HB.out] at this; exact this)
          have L2 := hid (range_far L1.out (show ba ≠ bt by omega) (.int .i64 (g 8)) (k := 8))
          go_wp2_with (first
            | ((with_reducible (show wpList _ _ _ (⟨_, Op.load 35 _, _, _, _, _⟩ :: _) _ _)); refine wp_ld rfl _ rfl _ rfl (tc g) (tc_len _) T2.out ?_)
            | ((with_reducible (show wpList _ _ _ (⟨_, Op.load 35 _, _, _, _, _⟩ :: _) _ _)); refine wp_ld rfl _ rfl _ rfl (tc g) (tc_len _) L2.out ?_)
            | ((with_reducible (show wpList _ _ _ (⟨_, Op.binOp BinOp.eql 35 _ _ _, _, _, _, _⟩ :: _) _ _)); refine wp_eql rfl _ _ _ rfl g rfl rfl ?_))
          go_ret
          exact ⟨rfl, A2.out.bel⟩
      have q14 : (qo == 14) = false := beq_eq_false_iff_ne.2 h14
      have r14 : (qo != 14) = true := by rw [bne_iff_ne]; exact h14
      have ve := wwent h14
      have qe : (ev != 0) = false := by rw [ve]; rfl
      clear wwent wsys ve
      by_cases h13 : qo = 13
      · have q13 : (qo != 13) = false := by rw [h13]; rfl
        clear wpc h13 h14
        go_wp2_with fail
        go_region_with (fail)
        all_goals
          have A1 := hid (AA.out.set A (by omega) (g A)).drw
          have L1 := hid (show ((Wa.setCell ⟨ba, A, none⟩ (.int .i64 (g A))).drew).rangeAt bt 0 (tc g) from range_far HHA.out.1 (by omega) _)
          generalize World.drew _ = W1 at A1 L1 ⊢
          have u8 := range_cell L1.out (tc_at g 8 (by decide))
          have d8 := range_cell A1.out.t (tc_at _ 8 (by decide))
          have e8 := (A1.out.tt 8 (by decide)).2
          have A2 := hid (A1.out.set 8 (by decide) (g 8))
          have T2 := hid (show (W1.setCell ⟨ba, 8, none⟩ (.int .i64 (g 8))).rangeAt ba 0 (tc g) by have := A2.out.t; rw [HB.out] at this; exact this)
          have L2 := hid (range_far L1.out (show ba ≠ bt by omega) (.int .i64 (g 8)) (k := 8))
          go_wp2_with (first
            | ((with_reducible (show wpList _ _ _ (⟨_, Op.load 35 _, _, _, _, _⟩ :: _) _ _)); refine wp_ld rfl _ rfl _ rfl (tc g) (tc_len _) T2.out ?_)
            | ((with_reducible (show wpList _ _ _ (⟨_, Op.load 35 _, _, _, _, _⟩ :: _) _ _)); refine wp_ld rfl _ rfl _ rfl (tc g) (tc_len _) L2.out ?_)
            | ((with_reducible (show wpList _ _ _ (⟨_, Op.binOp BinOp.eql 35 _ _ _, _, _, _, _⟩ :: _) _ _)); refine wp_eql rfl _ _ _ rfl g rfl rfl ?_))
          go_ret
          exact ⟨rfl, A2.out.bel⟩
      · have q13 : (qo != 13) = true := by rw [bne_iff_ne]; exact h13
        have pe : (g2 8 != (g 8 + 2) % 65536) = false := by rw [wpc h13]; simp
        clear wpc h13 h14
        go_wp2_with fail
        go_region_with (fail)
        all_goals
          have A1 := hid (AA.out.set A (by omega) (g A)).drw
          have L1 := hid (show ((Wa.setCell ⟨ba, A, none⟩ (.int .i64 (g A))).drew).rangeAt bt 0 (tc g) from range_far HHA.out.1 (by omega) _)
          generalize World.drew _ = W1 at A1 L1 ⊢
          have u8 := range_cell L1.out (tc_at g 8 (by decide))
          have d8 := range_cell A1.out.t (tc_at _ 8 (by decide))
          have e8 := (A1.out.tt 8 (by decide)).2
          have A2 := hid (A1.out.set 8 (by decide) (g 8))
          have T2 := hid (show (W1.setCell ⟨ba, 8, none⟩ (.int .i64 (g 8))).rangeAt ba 0 (tc g) by have := A2.out.t; rw [HB.out] at this; exact this)
          have L2 := hid (range_far L1.out (show ba ≠ bt by omega) (.int .i64 (g 8)) (k := 8))
          go_wp2_with (first
            | ((with_reducible (show wpList _ _ _ (⟨_, Op.load 35 _, _, _, _, _⟩ :: _) _ _)); refine wp_ld rfl _ rfl _ rfl (tc g) (tc_len _) T2.out ?_)
            | ((with_reducible (show wpList _ _ _ (⟨_, Op.load 35 _, _, _, _, _⟩ :: _) _ _)); refine wp_ld rfl _ rfl _ rfl (tc g) (tc_len _) L2.out ?_)
            | ((with_reducible (show wpList _ _ _ (⟨_, Op.binOp BinOp.eql 35 _ _ _, _, _, _, _⟩ :: _) _ _)); refine wp_eql rfl _ _ _ rfl g rfl rfl ?_))
          go_ret
          exact ⟨rfl, A2.out.bel⟩
end Go.Proofs.Ytlkplpdnleaihag.Cpu
