/- Lines of a text: keyholdref.clayLine, where nothing is wrong; walked. -/
import Derived.BigGuard
import Derived.BigQuiet
import Derived.Test.YtakmaeohhclngaaGreatDoorRav
import Derived.Test.YtakmaeohhclngaaGreatDoorRaw
import Derived.Test.YtakmaeohhclngaaGreatDoorRax
import Derived.Test.YtakmaeohhclngaaGreatDoorRak
namespace Go.Proofs.YtakmaeohhclngaaGreatDoor.Wd
open Go.RowKit Go.Proofs.YtakmaeohhclngaaGreatDoor.Mem Go.Proofs.YtakmaeohhclngaaGreatDoor.Bw Go.Proofs.YtakmaeohhclngaaGreatDoor.Nums Go.Proofs.YtakmaeohhclngaaGreatDoor.Mmu Go.Proofs.YtakmaeohhclngaaGreatDoor.Hex
/-- Clay's key. -/
def clk (b n : Nat) (k : Nat) : Int := [1, (b : Int), (n : Int), 0, 7, 0, -1].getD k 0
set_option maxRecDepth 100000 in
set_option maxHeartbeats 8000000 in
theorem clayLine_ref (wb : Nat) (tag : Nat → Nat) (V : Nat → Value) (p : PW) (ga ca s b n : Nat) (w : World) (bt : BoxT w wb tag V p) (hp : p.Fits) (hl : ∀ l ∈ p.tlbs, l.length ≤ 100) (ha : IntsAt w ga 0 [(s : Int), (b : Int), (n : Int)])
  (hsk : p.slots.length = p.kinds.length * 16) (hs : s < p.slots.length) (h0 : opE p s = 0) (hn : 1 ≤ n) (hb : b + n ≤ p.kinds.length) (hk : ∀ f (hf : f < p.kinds.length), b ≤ f → f < b + n → p.kinds[f] = 0) (hc : ∀ i (hi : i < p.slots.length), p.slots[i] 0 ≠ 1) :
  Calls Tryz.prog 70 #[.pointer (some ⟨wb, 0, none⟩), .slice (some ⟨ga, 0, none⟩) 3 ca] w fun r w' => r = .returned (.int .i64 0) ∧ BoxT w' wb tag V { p with slots := p.slots.set s (clk b n) } ∧ Kt tag tag w w' := by
 have HV := hid (bt.view hp hl)
 have BT := hid bt
 have a0 := ha 0 (by simp)
 have a1 := ha 1 (by simp)
 have a2 := ha 2 (by simp)
 rw [Nat.zero_add] at a0 a1 a2
 simp only [List.getElem_cons_zero, List.getElem_cons_succ] at a0 a1 a2
 have c1 : w.cell? ⟨wb, 1, none⟩ = some (V 1) := range_cell bt.r rfl
 have c2 : w.cell? ⟨wb, 2, none⟩ = some (V 2) := range_cell bt.r rfl
 obtain ⟨q1, b1, o1, k1, e1, hq1, hz1⟩ := HV.out.v.kinds
 obtain ⟨g2, cap2, e2⟩ := bt.o.slots.form (by omega)
 have hk2 := hp.kinds
 have hs2 := hp.slots
 have hkl : (p.kinds.length : Int) ≤ 1000 := by omega
 have hsl : (p.slots.length : Int) ≤ 1000 := by omega
 obtain rfl := hq1 (by omega)
 rw [e2] at c2
 rw [e1] at c1
 have KC := hid (fun W (h : Below w.heap.size w W) => (⟨cupx h a0, cupx h a1, cupx h a2, cupx h c1, cupx h c2⟩ : _ ∧ _ ∧ _ ∧ _ ∧ _))
 have KK := hid (fun W (h : Below w.heap.size w W) f (hf : f < p.kinds.length) (h1 : b ≤ f) (h2 : f < b + n) => show W.cell? ⟨b1, o1 + f, none⟩ = some (.int .i64 0) from by have := hz1 f hf; rw [hk f hf h1 h2] at this; exact cupx h this)
 have KS := hid (fun W (h : Below w.heap.size w W) i (hi : i < p.slots.length) => show W.rangeAt g2 (i * 7) (cf 6 p.slots[i]) from six_of (fun j v hv => by
  have hj : j < 7 := by have := (List.getElem?_eq_some_iff.1 hv).1; rw [cf_len] at this; exact this
  have := cupx h (BT.out.slotsAt e2 hi hj)
  rw [this, ← hv, cf_at 7 _ j hj]))
 have HO := hid (fun W (h : Below w.heap.size w W) => show Calls Tryz.prog 110 #[.pointer (some ⟨wb, 0, none⟩), .int .i64 s] W fun r w' => r = .returned (.int .i64 0) ∧ W = w' from by have := open_ref wb V p s W ((BT.out.below h).view hp hl) hsk; rw [h0] at this; exact this)
 have HC := hid hc
 have HE2 := hid e2
 have f1 : decide ((s : Int) < 0) = false := decide_eq_false (by omega)
 have f2 : decide ((p.slots.length : Int) ≤ (s : Int)) = false := decide_eq_false (by omega)
 have f2n : decide (p.slots.length ≤ s) = false := decide_eq_false (by omega)
 have f5n : decide (p.kinds.length < b + n) = false := decide_eq_false (by omega)
 have f3 : decide ((b : Int) < 0) = false := decide_eq_false (by omega)
 have f4 : decide ((n : Int) < 1) = false := decide_eq_false (by omega)
 have f5 : decide ((p.kinds.length : Int) < (b : Int) + (n : Int)) = false := decide_eq_false (by omega)
 have wbn : IntKind.i64.wrap ((b : Int) + (n : Int)) = (b : Int) + (n : Int) := wraps_i64 _ (by omega) (by omega)
 clear ha h0 hk hc hz1 hq1 e1 e2 bt HV
 have HSK := hid hsk
 clear hsk
 go_enter Tryz.func70, Tryz.ntmps70
 go_upto_region 1 with fail
 refine wp_region_quiet_lit (by kernel_rfl) (by kernel_rfl) ?_
 repeat (first | go_big_quiet_skip | (go_big_quiet_want; go_big_quiet_op; first | go_big_quiet_on | go_big_quiet_call (fail)))
 refine wpQuiet_nil ?_
 intro _ hw'
 obtain ⟨nq, hw''⟩ := hw'
 subst hw''
 have B1 := hid (below_drewN (Below.refl w.heap.size w) nq)
 clear f1 f2 f2n f3 f4 f5 f5n
 obtain ⟨x0, x1, x2, y1, y2⟩ := KC.out _ B1.out
 clear a0 a1 a2 c1 c2
 generalize w.drewN nq = w1 at *
 go_wp2_with fail
 refine (HO.out _ B1.out).mono ?_
 rintro r w2 ⟨rfl, rfl⟩
 go_wp2_with fail
 clear x0 x1 x2 y1 y2
 go_loopw [6] (fun i wr => ∃ (m : Nat), b ≤ m ∧ m ≤ b + n ∧ i = .int .i64 (m : Int) ∧ Hid (Below w.heap.size w wr)) (fun i _ => b + n - (intOf i).toNat)
 case atStart => exact ⟨b, by omega, by omega, rfl, B1⟩
 case round =>
  obtain ⟨m, hm1, hm2, rfl, BR⟩ := hrel
  obtain ⟨x0, x1, x2, y1, y2⟩ := KC.out _ BR.out
  clear B1
  by_cases hlt : m < b + n
  rotate_left
  ·obtain rfl : m = b + n := by omega
   have hge : decide (((b + n : Nat) : Int) < (b : Int) + (n : Int)) = false := decide_eq_false (by omega)
   clear hlt
   go_upto_region 7 with fail
   refine wp_region_quiet_lit (by kernel_rfl) (by kernel_rfl) ?_
   repeat (first | go_big_quiet_skip | (go_big_quiet_want; go_big_quiet_op; first | go_big_quiet_on | go_big_quiet_call (fail)))
   refine wpQuiet_nil ?_
   intro _ hw'
   obtain ⟨nq, hw''⟩ := hw'
   subst hw''
   have B3 := hid (below_drewN BR.out nq)
   clear x0 x1 x2 y1 y2
   obtain ⟨x0, x1, x2, y1, y2⟩ := KC.out _ B3.out
   generalize wr.drewN nq = w3 at *
   clear x1 x2 y1 hge
   go_upto_region 17 with fail
   have BD : Hid (Below w3.heap.size w3 w3.drew) := hid (below_drew w3 1)
   have B4 := hid (btr B3.out BD.out)
   have BT4 := hid (BT.out.below B4.out)
   have I2 := BT4.out.o.slots
   rw [HE2.out] at I2
   have TH := hid (I2.there (s * 7) 7 (by show s * 7 + 7 ≤ p.slots.length * 7; omega))
   have K2 := hid (BT4.out.slotsRow HE2.out hs (clk b n))
   have hs3 : (s : Int) < (p.slots.length : Int) := by omega
   clear I2 x0 y2
   refine Rf.wp_region_H (R := fun W => Below w.heap.size w W) [16] [0, 1, 2, 3, 4, 5, 6, 7, 8, 9, 10, 11, 12, 13, 14, 15] 1 (by kernel_rfl) B4.out (by kernel_rfl) (by kernel_rfl) (by kernel_rfl) (fun _ => ?_)
   repeat (refine Rf.rd_st rfl (by rfl) (fun _ _ _ _ h => h) ?_; apply Exists.intro; refine ⟨fun W h => ?_, ?_⟩; (focus (obtain ⟨h1, h2, h3, h4, h5⟩ := KC.out _ h; clear h; go_simp; try rfl)); simp only [jj])
   refine Rf.rd_nil ?_
   generalize w3.drew = w5 at *
   refine Rf.wpAnyF_ready (rs := [16]) (by kernel_rfl) (by simp) (Rf.AllReadyF.cons rfl (fun K hK => ?_) Rf.AllReadyF.nil)
   refine wnt (by rfl) ?_
   simp only [List.getElem_toArray, List.getElem_cons_succ, List.getElem_cons_zero]
   refine wp_store_mid 117 _ _ rfl g2 (s * 7) (cf 7 (clk b n)).toArray rfl rfl TH.out (by rw [info7s]; rfl) (all_oneCell_toArray (cf_one 7 _)) ?_
   refine hK.out _ _ trivial (Rf.notClean (by kernel_rfl)) (fun _ _ => ?_)
   clear hK K
   try simp only [jj]
   refine Rf.wpAnyF_done (by kernel_rfl) ?_ _
   have OUT := hid (show BoxT (w5.setCells g2 (s * 7) (cf 7 (clk b n))) wb tag V { p with slots := p.slots.set s (clk b n) } ∧ Kt tag tag w (w5.setCells g2 (s * 7) (cf 7 (clk b n))) from ⟨K2.out.1, (Kt.below B4.out).trans K2.out.2⟩)
   clear K2 TH BT4
   generalize w5.setCells g2 (s * 7) (cf 7 (clk b n)) = W9 at OUT ⊢
   go_wp2_with fail
   go_ret
   exact ⟨rfl, OUT.out⟩
  have hlt2 : (m : Int) < (b : Int) + (n : Int) := by omega
  have hd : decide ((m : Int) < (b : Int) + (n : Int)) = true := decide_eq_true hlt2
  have hf : (m : Int) < (p.kinds.length : Int) := by omega
  go_upto_region 7 with fail
  refine wp_region_quiet_lit (by kernel_rfl) (by kernel_rfl) ?_
  repeat (first | go_big_quiet_skip | (go_big_quiet_want; go_big_quiet_op; first | go_big_quiet_on | go_big_quiet_call (fail)))
  refine wpQuiet_nil ?_
  intro _ hw'
  obtain ⟨nq, hw''⟩ := hw'
  subst hw''
  have B3 := hid (below_drewN BR.out nq)
  clear x0 x1 x2 y1 y2
  obtain ⟨x0, x1, x2, y1, y2⟩ := KC.out _ B3.out
  have z1 := KK.out _ B3.out m (by omega) hm1 hlt
  generalize wr.drewN nq = w3 at *
  clear BR
  go_wp2_with fail
  clear x0 x1 x2 y1 y2 z1
  go_loopw [7] (fun i wr => ∃ (j : Nat), j ≤ p.slots.length ∧ i = .int .i64 (j : Int) ∧ Hid (Below w.heap.size w wr)) (fun i _ => p.slots.length - (intOf i).toNat)
  case atStart => exact ⟨0, by omega, rfl, B3⟩
  case round =>
   clear B3
   obtain ⟨j, hj, rfl, BI⟩ := hrel
   obtain ⟨x0, x1, x2, y1, y2⟩ := KC.out _ BI.out
   by_cases hlj : j < p.slots.length
   rotate_left
   ·obtain rfl : j = p.slots.length := by omega
    have hge : ¬ ((p.slots.length : Int) < (p.slots.length : Int)) := by omega
    go_wp2_with fail
    exact ⟨⟨m + 1, by omega, by omega, by go_num, BI⟩, by simp [intOf]; omega⟩
   have hlj2 : (j : Int) < (p.slots.length : Int) := by omega
   have RJ := hid (KS.out _ BI.out j hlj)
   have NE := hid (HC.out j hlj)
   generalize p.slots[j] = sj at RJ NE
   generalize wr = w4 at *
   have h1 : (sj 0 == 1) = false := by have := NE.out; simpa using this
   have B5 := hid (bal BI.out (.cells #[.int .i64 0, .int .i64 0, .int .i64 0, .int .i64 0, .int .i64 0, .int .i64 0] 115))
   have HTK := hid (there_new w4 #[.int .i64 0, .int .i64 0, .int .i64 0, .int .i64 0, .int .i64 0, .int .i64 0] 115 w4.heap.size 6 rfl (by decide))
   have GE := hid (show w.heap.size ≤ w4.heap.size from BI.out.size)
   go_upto_region 15 with (first | ((with_reducible (show wpList _ _ _ (⟨_, Op.load 115 _, _, _, _, _⟩ :: _) _ _)); refine wp_ldK rfl _ rfl g2 (j * 7) rfl (cf 6 sj) (cf_len _ _) RJ.out ?_) | ((with_reducible (show wpList _ _ _ (⟨_, Op.store 115 _ _, _, _, _, _⟩ :: _) _ _)); refine wp_stK rfl _ _ rfl w4.heap.size 0 rfl (cf 6 sj) rfl (cf_len _ _) (cf_one _ _) HTK.out ?_))
   have KX := hid (show Kp (fun k => k = w4.heap.size) (w4.alloc (.cells #[.int .i64 0, .int .i64 0, .int .i64 0, .int .i64 0, .int .i64 0, .int .i64 0] 115)) ((w4.alloc (.cells #[.int .i64 0, .int .i64 0, .int .i64 0, .int .i64 0, .int .i64 0, .int .i64 0] 115)).setCells w4.heap.size 0 (cf 6 sj)) from Kp.setCells (T := fun k => k = w4.heap.size) (.inl rfl) _ _ _ (Kp.refl _ _))
   have B6 := hid (KX.out.below B5.out B5.out.size (fun k hk e => by have := GE.out; omega))
   have r0 := World.rangeAt_setCells_same _ w4.heap.size 0 (cf 6 sj) HTK.out 0 _ (cf_at 6 sj 0 (by omega))
   rw [Nat.add_zero] at r0
   clear KX HTK B5 RJ GE x0 x1 x2 y1 y2
   generalize World.setCells _ _ _ _ = W6 at B6 r0 ⊢
   generalize w4.heap.size = kb at r0 ⊢
   go_wp2_with fail
   exact ⟨⟨j + 1, by omega, by go_num, B6⟩, by simp [intOf]; omega⟩
end Go.Proofs.YtakmaeohhclngaaGreatDoor.Wd
