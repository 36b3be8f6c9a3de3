/- Ubb -/
import Derived.BigGuard
import Derived.BigQuiet
import Derived.Test.YtnccmdndkmmhcaaGreatDoorUba
set_option maxRecDepth 100000
set_option maxHeartbeats 16000000
namespace Go.Proofs.YtnccmdndkmmhcaaGreatDoor
namespace Wd
open Go.RowKit Mem Bw Nums Mmu Hex
set_option maxRecDepth 100000 in
set_option maxHeartbeats 8000000 in
theorem ql (wb : Nat) (tag : Nat -> Nat) (V : Nat -> Value) (p : PW) (ga ca s b n : Nat) (w : World) (bt : cb w wb tag V p) (hp : p.Fits) (hl : ∀ l ∈ p.IK, l.length <= 100) (ha : fW w ga 0 [(s : Int), (b : Int), (n : Int)])
  (hsk : p.IH.length = p.kinds.length * 16) (hs : s < p.IH.length) (h0 : opE p s = 0) (hn : 1 <= n) (hb : b + n <= p.kinds.length) (hk : ∀ f (hf : f < p.kinds.length), b <= f -> f < b + n -> p.kinds[f] = 0) (hc : ∀ i (hi : i < p.IH.length), p.IH[i] 0 ≠ 1) :
  Calls Tryz.prog 224 #[.pointer (some ⟨wb, 0, none⟩), .slice (some ⟨ga, 0, none⟩) 3 ca] w fun r w' => r = .returned (.int .i64 0) ∧ cb w' wb tag V { p with IH := p.IH.set s (clk b n) } ∧ Kt tag tag w w' := by
 have HV := hid (bt.view hp hl)
 have BT := hid bt
 have a0 := ha 0 (by simp)
 have a1 := ha 1 (by simp)
 have a2 := ha 2 (by simp)
 rw [Nat.zero_add] at a0 a1 a2
 simp only [List.getElem_cons_zero, List.getElem_cons_succ] at a0 a1 a2
 have c1 : w.cell? ⟨wb, 1, none⟩ = some (V 1) := jK bt.r rfl
 have c2 : w.cell? ⟨wb, 2, none⟩ = some (V 2) := jK bt.r rfl
 obtain ⟨q1, b1, o1, k1, e1, hq1, hz1⟩ := HV.out.v.kinds
 obtain ⟨g2, cap2, e2⟩ := bt.o.IH.form (by omega)
 have hk2 := hp.kinds
 have hs2 := hp.IH
 have hkl : (p.kinds.length : Int) <= 1000 := by omega
 have hsl : (p.IH.length : Int) <= 1000 := by omega
 obtain rfl := hq1 (by omega)
 rw [e2] at c2
 rw [e1] at c1
 have KC := hid (fun W (h : Below w.heap.size w W) => (⟨gU h a0, gU h a1, gU h a2, gU h c1, gU h c2⟩ : _ ∧ _ ∧ _ ∧ _ ∧ _))
 have KK := hid (fun W (h : Below w.heap.size w W) f (hf : f < p.kinds.length) (h1 : b <= f) (h2 : f < b + n) => show W.cell? ⟨b1, o1 + f, none⟩ = some (.int .i64 0) from by have := hz1 f hf; rw [hk f hf h1 h2] at this; exact gU h this)
 have KS := hid (fun W (h : Below w.heap.size w W) i (hi : i < p.IH.length) => show W.rangeAt g2 (i * 7) (cf 6 p.IH[i]) from oG (fun j v hv => by
  have hj : j < 7 := by have := (List.getElem?_eq_some_iff.1 hv).1; rw [gT] at this; exact this
  have := gU h (BT.out.I0 e2 hi hj)
  rw [this, <- hv, dk 7 _ j hj]))
 have HO := hid (fun W (h : Below w.heap.size w W) => show Calls Tryz.prog 174 #[.pointer (some ⟨wb, 0, none⟩), .int .i64 s] W fun r w' => r = .returned (.int .i64 0) ∧ W = w' from by have := um wb V p s W ((BT.out.below h).view hp hl) hsk; rw [h0] at this; exact this)
 have HC := hid hc
 have HE2 := hid e2
 have f1 : decide ((s : Int) < 0) = false := decide_eq_false (by omega)
 have f2 : decide ((p.IH.length : Int) <= (s : Int)) = false := decide_eq_false (by omega)
 have f2n : decide (p.IH.length <= s) = false := decide_eq_false (by omega)
 have f5n : decide (p.kinds.length < b + n) = false := decide_eq_false (by omega)
 have f3 : decide ((b : Int) < 0) = false := decide_eq_false (by omega)
 have f4 : decide ((n : Int) < 1) = false := decide_eq_false (by omega)
 have f5 : decide ((p.kinds.length : Int) < (b : Int) + (n : Int)) = false := decide_eq_false (by omega)
 have wbn : IntKind.i64.wrap ((b : Int) + (n : Int)) = (b : Int) + (n : Int) := nD _ (by omega) (by omega)
 clear ha h0 hk hc hz1 hq1 e1 e2 bt HV
 have HSK := hid hsk
 clear hsk
 go_enter Tryz.func224, Tryz.ntmps224
 go_upto_region 1 with fail
 refine wp_region_quiet_lit (by kernel_rfl) (by kernel_rfl) ?_
 repeat (first | go_big_quiet_skip | (go_big_quiet_want; go_big_quiet_op; first | go_big_quiet_on | go_big_quiet_call (fail)))
 refine wpQuiet_nil ?_
 intro _ hw'
 obtain ⟨nq, hw''⟩ := hw'
 subst hw''
 have B1 := hid (below_drewN (Below.refl w.heap.size w) nq)
 clear f1 f2 f2n f3 f4 f5 f5n
 obtain ⟨x0, x1, x2, y1, y2⟩ := KC.out _ B1.out
 clear a0 a1 a2 c1 c2
 generalize w.drewN nq = w1 at *
 go_wp2_with fail
 refine (HO.out _ B1.out).mono ?_
 rintro r w2 ⟨rfl, rfl⟩
 go_wp2_with fail
 clear x0 x1 x2 y1 y2
 go_loopw [6] (fun i wr => ∃ (m : Nat), b <= m ∧ m <= b + n ∧ i = .int .i64 (m : Int) ∧ Hid (Below w.heap.size w wr)) (fun i _ => b + n - (intOf i).toNat)
 case atStart => exact ⟨b, by omega, by omega, rfl, B1⟩
 case round =>
  obtain ⟨m, hm1, hm2, rfl, BR⟩ := hrel
  obtain ⟨x0, x1, x2, y1, y2⟩ := KC.out _ BR.out
  clear B1
  by_cases hlt : m < b + n
  rotate_left
  ·obtain rfl : m = b + n := by omega
   have hge : decide (((b + n : Nat) : Int) < (b : Int) + (n : Int)) = false := decide_eq_false (by omega)
   clear hlt
   go_upto_region 7 with fail
   refine wp_region_quiet_lit (by kernel_rfl) (by kernel_rfl) ?_
   repeat (first | go_big_quiet_skip | (go_big_quiet_want; go_big_quiet_op; first | go_big_quiet_on | go_big_quiet_call (fail)))
   refine wpQuiet_nil ?_
   intro _ hw'
   obtain ⟨nq, hw''⟩ := hw'
   subst hw''
   have B3 := hid (below_drewN BR.out nq)
   clear x0 x1 x2 y1 y2
   obtain ⟨x0, x1, x2, y1, y2⟩ := KC.out _ B3.out
   generalize wr.drewN nq = w3 at *
   clear x1 x2 y1 hge
   go_upto_region 17 with fail
   have BD : Hid (Below w3.heap.size w3 w3.drew) := hid (kT w3 1)
   have B4 := hid (btr B3.out BD.out)
   have BT4 := hid (BT.out.below B4.out)
   have I2 := BT4.out.o.IH
   rw [HE2.out] at I2
   have TH := hid (I2.there (s * 7) 7 (by show s * 7 + 7 <= p.IH.length * 7; omega))
   have K2 := hid (BT4.out.I1 HE2.out hs (clk b n))
   have hs3 : (s : Int) < (p.IH.length : Int) := by omega
   clear I2 x0 y2
   refine Rf.kh (R := fun W => Below w.heap.size w W) [16] [0, 1, 2, 3, 4, 5, 6, 7, 8, 9, 10, 11, 12, 13, 14, 15] 1 (by kernel_rfl) B4.out (by kernel_rfl) (by kernel_rfl) (by kernel_rfl) (fun _ => ?_)
   repeat (refine Rf.Ak rfl (by rfl) (fun _ _ _ _ h => h) ?_; apply Exists.intro; refine ⟨fun W h => ?_, ?_⟩; (focus (obtain ⟨h1, h2, h3, h4, h5⟩ := KC.out _ h; clear h; go_simp; try rfl)); simp only [jj])
   refine Rf.yh ?_
   generalize w3.drew = w5 at *
   refine Rf.dp (rs := [16]) (by kernel_rfl) (by simp) (Rf.di.cons rfl (fun K hK => ?_) Rf.di.nil)
   refine wnt (by rfl) ?_
   simp only [List.getElem_toArray, List.getElem_cons_succ, List.getElem_cons_zero]
   refine wp_store_mid 34 _ _ rfl g2 (s * 7) (cf 7 (clk b n)).toArray rfl rfl TH.out (by rw [lH]; rfl) (all_oneCell_toArray (tJ 7 _)) ?_
   refine hK.out _ _ trivial (Rf.fv (by kernel_rfl)) (fun _ _ => ?_)
   clear hK K
   try simp only [jj]
   refine Rf.ec (by kernel_rfl) ?_ _
   have OUT := hid (show cb (w5.setCells g2 (s * 7) (cf 7 (clk b n))) wb tag V { p with IH := p.IH.set s (clk b n) } ∧ Kt tag tag w (w5.setCells g2 (s * 7) (cf 7 (clk b n))) from ⟨K2.out.1, (Kt.below B4.out).trans K2.out.2⟩)
   clear K2 TH BT4
   generalize w5.setCells g2 (s * 7) (cf 7 (clk b n)) = W9 at OUT ⊢
   go_wp2_with fail
   go_ret
   exact ⟨rfl, OUT.out⟩
  have hlt2 : (m : Int) < (b : Int) + (n : Int) := by omega
  have hd : decide ((m : Int) < (b : Int) + (n : Int)) = true := decide_eq_true hlt2
  have hf : (m : Int) < (p.kinds.length : Int) := by omega
  go_upto_region 7 with fail
  refine wp_region_quiet_lit (by kernel_rfl) (by kernel_rfl) ?_
  repeat (first | go_big_quiet_skip | (go_big_quiet_want; go_big_quiet_op; first | go_big_quiet_on | go_big_quiet_call (fail)))
  refine wpQuiet_nil ?_
  intro _ hw'
  obtain ⟨nq, hw''⟩ := hw'
  subst hw''
  have B3 := hid (below_drewN BR.out nq)
  clear x0 x1 x2 y1 y2
  obtain ⟨x0, x1, x2, y1, y2⟩ := KC.out _ B3.out
  have z1 := KK.out _ B3.out m (by omega) hm1 hlt
  generalize wr.drewN nq = w3 at *
  clear BR
  go_wp2_with fail
  clear x0 x1 x2 y1 y2 z1
  go_loopw [7] (fun i wr => ∃ (j : Nat), j <= p.IH.length ∧ i = .int .i64 (j : Int) ∧ Hid (Below w.heap.size w wr)) (fun i _ => p.IH.length - (intOf i).toNat)
  case atStart => exact ⟨0, by omega, rfl, B3⟩
  case round =>
   clear B3
   obtain ⟨j, hj, rfl, BI⟩ := hrel
   obtain ⟨x0, x1, x2, y1, y2⟩ := KC.out _ BI.out
   by_cases hlj : j < p.IH.length
   rotate_left
   ·obtain rfl : j = p.IH.length := by omega
    have hge : ¬ ((p.IH.length : Int) < (p.IH.length : Int)) := by omega
    go_wp2_with fail
    exact ⟨⟨m + 1, by omega, by omega, by go_num, BI⟩, by simp [intOf]; omega⟩
   have hlj2 : (j : Int) < (p.IH.length : Int) := by omega
   have RJ := hid (KS.out _ BI.out j hlj)
   have NE := hid (HC.out j hlj)
   generalize p.IH[j] = sj at RJ NE
   generalize wr = w4 at *
   have h1 : (sj 0 == 1) = false := by have := NE.out; simpa using this
   have B5 := hid (bal BI.out (.cells #[.int .i64 0, .int .i64 0, .int .i64 0, .int .i64 0, .int .i64 0, .int .i64 0] 32))
   have HTK := hid (nr w4 #[.int .i64 0, .int .i64 0, .int .i64 0, .int .i64 0, .int .i64 0, .int .i64 0] 32 w4.heap.size 6 rfl (by decide))
   have GE := hid (show w.heap.size <= w4.heap.size from BI.out.size)
   go_upto_region 15 with (first | ((with_reducible (show wpList _ _ _ (⟨_, Op.load 32 _, _, _, _, _⟩ :: _) _ _)); refine uO rfl _ rfl g2 (j * 7) rfl (cf 6 sj) (gT _ _) RJ.out ?_) | ((with_reducible (show wpList _ _ _ (⟨_, Op.store 32 _ _, _, _, _, _⟩ :: _) _ _)); refine gQ rfl _ _ rfl w4.heap.size 0 rfl (cf 6 sj) rfl (gT _ _) (tJ _ _) HTK.out ?_))
   have KX := hid (show Kp (fun k => k = w4.heap.size) (w4.alloc (.cells #[.int .i64 0, .int .i64 0, .int .i64 0, .int .i64 0, .int .i64 0, .int .i64 0] 32)) ((w4.alloc (.cells #[.int .i64 0, .int .i64 0, .int .i64 0, .int .i64 0, .int .i64 0, .int .i64 0] 32)).setCells w4.heap.size 0 (cf 6 sj)) from Kp.setCells (T := fun k => k = w4.heap.size) (.inl rfl) _ _ _ (Kp.refl _ _))
   have B6 := hid (KX.out.below B5.out B5.out.size (fun k hk e => by have := GE.out; omega))
   have r0 := World.rangeAt_setCells_same _ w4.heap.size 0 (cf 6 sj) HTK.out 0 _ (dk 6 sj 0 (by omega))
   rw [Nat.add_zero] at r0
   clear KX HTK B5 RJ GE x0 x1 x2 y1 y2
   generalize World.setCells _ _ _ _ = W6 at B6 r0 ⊢
   generalize w4.heap.size = kb at r0 ⊢
   go_wp2_with fail
   exact ⟨⟨j + 1, by omega, by go_num, B6⟩, by simp [intOf]; omega⟩
def eqK (k:Nat):Int:=[0,5,4,7].getD k 0
def eqP (p:PW) (t:Nat) (N:Nat->Int):PW:=(((((p.task t 11 (N 1)).task t 12 (N 2)).task t 13 (N 3)).task t 18 (N 4)).task t 10 (N 5)).task t 19 (N 6)
theorem Cm {W:World} {k:Nat} (hk:k<4):(W.alloc (.cells #[.int .i64 0,.int .i64 5,.int .i64 4,.int .i64 7] 3)).cell? ⟨W.heap.size,k,none⟩=some (.int .i64 (eqK k)):=by
 rw[cq]
 match k,hk with
 |0,_=>rfl
 |1,_=>rfl
 |2,_=>rfl
 |3,_=>rfl
 |_+4,h=>omega
theorem cb.Ja {W:World} {wb:Nat} {tag:Nat->Nat} {V:Nat->Value} {p:PW} (h:cb W wb tag V p) {g cap n:Nat} (a:p.II.length=n) (e:V 3=.slice (some ⟨g,0,none⟩) n cap) {i k:Nat} (hi:i<n) (hk:k<20) (x:Int):
  cb (W.setCell ⟨g,i*20+k,none⟩ (.int .i64 x)) wb tag V (p.task i k x)∧Kt tag tag W (W.setCell ⟨g,i*20+k,none⟩ (.int .i64 x))∧(∃v,W.cell? ⟨g,i*20+k,none⟩=some v)∧W.frozen? ⟨g,i*20+k,none⟩=false∧(p.task i k x).II.length=n:=by
 subst a;have:=h.IV e hi hk x;have e2:p.II.getD i bl=p.II[i]:=by rw[aa,ac hi];rfl
 refine⟨?_,this.2,⟨_,h.I3 e hi hk⟩,h.IT e _,ap p i k x⟩;unfold PW.task;rw[e2];exact this.1
theorem o9 (wb:Nat) (tag:Nat->Nat) (V:Nat->Value) (p:PW) (ga ca t:Nat) (N:Nat->Int) (w:World) (bt:cb w wb tag V p) (T:p.Fits) (hl:∀l∈p.IK,l.length<=100) (L:fW w ga 0 [(t:Int),N 1,N 2,N 3,N 4,N 5,N 6]) (O:tag ga=0)
  (h0:fmE p t 6=0) (M:t<p.II.length) (hk:∀k,1<=k->k<4->N k≠ -1->fmE p (N k) (eqK k)=0) (h4:0<=N 4) (aU:N 4<p.IJ.length) (h5:0<=N 5) (aV:N 5<=3) (h6:0<=N 6) (aW:N 6<=3) (aR:p.II[t] 9=0):
  Calls Tryz.prog 227 #[.pointer (some ⟨wb,0,none⟩),.slice (some ⟨ga,0,none⟩) 7 ca] w fun r w'=>r=.returned (.int .i64 0)∧cb w' wb tag V (eqP p t N)∧Kt tag tag w w':=by
 have S:=hid bt;have a0:=L 0 oS;have a1:=L 1 oS;have a2:=L 2 oS;have a3:=L 3 oS;have a4:=L 4 oS;have a5:=L 5 oS;have a6:=L 6 oS;rw[aC] at a0 a1 a2 a3 a4 a5 a6;simp only[bh,bC] at a0 a1 a2 a3 a4 a5 a6;have F:=hid (fun W (h:Kt tag tag w W)=>(⟨h.cell a0 O,h.cell a1 O,h.cell a2 O,h.cell a3 O,h.cell a4 O,h.cell a5 O,h.cell a6 O⟩:_∧_∧_∧_∧_∧_∧_));have KN:=hid (fun W (h:Below w.heap.size w W) k (J:1<=k) (hk:k<4)=>show W.cell? ⟨ga,k,none⟩=some (.int .i64 (N k)) from by
  have aP:k=1∨k=2∨k=3:=oA;rcases aP with rfl|rfl|rfl
  ·exact gU h a1
  ·exact gU h a2
  ·exact gU h a3)
 have c6:=r11 6 bt.r;obtain⟨q6,b6,o6,k6,e6,a8,bb⟩:=(bt.view T hl).v.IJ;obtain⟨m,z,e3⟩:=bt.o.II.form (by show 0<p.II.length;omega);rw[e6] at c6;have aX:(p.IJ.length:Int)<=1000:=by have:=T.IJ;omega
 have ba:(p.II.length:Int)<=1000:=by have:=T.II;omega
 have C6:=hid (fun W (h:Below w.heap.size w W)=>gU h c6);have aI:=hid (fun W (h:Below w.heap.size w W)=>show Calls Tryz.prog 256 #[.pointer (some ⟨wb,0,none⟩),.int .i64 t,.int .i64 6] W fun r w'=>r=.returned (.int .i64 0)∧W=w' from by have:=iv wb V p t 6 W ((S.below h).view T hl);rw[h0] at this;exact this);have aJ:=hid (fun W (h:Below w.heap.size w W) k (J:1<=k) (aB:k<4) (aQ:N k≠ -1)=>show Calls Tryz.prog 256 #[.pointer (some ⟨wb,0,none⟩),.int .i64 (N k),.int .i64 (eqK k)] W fun r w'=>r=.returned (.int .i64 0)∧W=w' from by have:=iv wb V p (N k) (eqK k) W ((S.below h).view T hl);rw[hk k J aB aQ] at this;exact this);have am:=hid (fun W:World=>show Calls Tryz.prog 62 #[.int .i64 (N 5),.int .i64 3] W fun e w'=>e=.returned (.bool false)∧w'=W from (Isa.fy (N 5) 3 W).mono fun e w' ⟨J,h2⟩=>⟨by rw[J,show decide (N 5<0∨3<N 5)=false from aw oA],h2.symm⟩);have an:=hid (fun W:World=>show Calls Tryz.prog 62 #[.int .i64 (N 6),.int .i64 3] W fun e w'=>e=.returned (.bool false)∧w'=W from (Isa.fy (N 6) 3 W).mono fun e w' ⟨J,h2⟩=>⟨by rw[J,show decide (N 6<0∨3<N 6)=false from aw oA],h2.symm⟩);have c9:∀W,Below w.heap.size w W->W.cell? ⟨m,t*20+9,none⟩=some (.int .i64 0):=fun W h=>by have:=(S.below h).I3 e3 M (k:=9) oA;rw[aR] at this;exact this
 have C9:=hid c9;have P:=hid e3;have T3:=hid (fun W (h:cb W wb tag V p)=>True.intro);have x:=hid (fun W q (h:cb W wb tag V q)=>show W.cell? ⟨wb,3,none⟩=some (.slice (some ⟨m,0,none⟩) p.II.length z) from by have:=ai h.r (k:=3) rfl;rw[e3] at this;exact this);have aS:=hid h4;have g4:decide (N 4<0)=false:=aw oA;have aO:decide ((p.IJ.length:Int)<=N 4)=false:=aw oA;have a9:(t:Int)<(p.II.length:Int):=oA;have C:=a0;go_enter Tryz.func227,Tryz.ntmps227
 go_wp2_with fail
 refine (aI.out w (af _ _)).mono ?_;rintro r w1 ⟨rfl,rfl⟩;go_wp2_with fail
 go_loopw [5,6] (fun e i wr=>∃(k:Nat),1<=k∧k<=4∧e=.int .i64 0∧i=.int .i64 (k:Int)∧Hid (Below w.heap.size w wr)) (fun _ i _=>4 - (intOf i).toNat)
 case atStart=>exact⟨1,oA,oA,rfl,rfl,hid (af _ _)⟩
 case round=>
  obtain⟨k,ab,aB,rfl,rfl,H⟩:=hrel;by_cases aa:k<4
  ·have aZ:(k:Int)<4:=oA;have a7:(k:Int)<7:=oA;have aY:(0:Int)<=(k:Int):=oA;have xk:=KN.out _ H k ab aa;by_cases hm:N k= -1
   ·rw[hm] at xk;go_wp2_with fail
    exact⟨⟨k+1,oA,oA,rfl,by go_num,H⟩,by simp[intOf];omega⟩
   have aE:(N k != -1)=true:=by simpa using hm
   have HC:=hid (fun W (h:Below w.heap.size w W)=>aJ.out W h k ab aa hm);have KX:=hid (fun W (h:Below w.heap.size w W)=>KN.out W h k ab aa);have FA:=hid (fun W:World=>Cm (W:=W) aa);generalize N k=y at xk aE HC KX;generalize eqK k=kk at HC FA;go_upto_region 6 with fail
   have d:Hid (Below wr.heap.size wr wr.drew):=hid (aD wr 1);have B4:=hid (btr H d);clear xk aE;refine bI (R:=fun W=>Below w.heap.size w W) [10] [0,1,2,3,4] 6 oK B4 oK oK oK (fun _=>?_)
   repeat (refine Rf.rs ?_ rfl oR (fun W h=>by have J:=KX.out _ h;clear h;go_simp;try rfl);simp only[jj])
   refine aL ?_;generalize wr.drew=s at*;refine bN (R:=fun W=>Below w.heap.size w W) oK _ B4 [6] 5 _ _ oK ?_
   repeat (refine Rf.rs ?_;simp only[jj])
   refine aL ?_;have G:=hid (bal B4 (.cells #[.int .i64 0,.int .i64 5,.int .i64 4,.int .i64 7] 3));have X5:=FA.out s;refine Rf.r1 5 rfl (fun K f=>?_);refine wnt oR ?_;go_simp
   refine f _ (s.alloc (.cells #[.int .i64 0,.int .i64 5,.int .i64 4,.int .i64 7] 3)) trivial (fun _=>G.out) (fun _ _=>?_)
   try simp only[jj]
   generalize s.alloc _=w6 at G X5 ⊢;generalize s.heap.size=nb at X5 ⊢;refine bN (R:=fun W=>Below w.heap.size w W) oK _ G [7] 3 _ _ oK ?_
   repeat (refine Rf.rs ?_;simp only[jj])
   refine aL ?_;refine Rf.r1 8 rfl (fun K f=>?_);refine wnt oR ?_;go_simp
   refine f _ _ trivial (fun _=>G.out) (fun _ _=>?_)
   try simp only[jj]
   refine Rf.r1 9 rfl (fun K f=>?_);refine wnt oR ?_;go_simp
   refine (HC.out _ G).mono ?_;rintro r w7 ⟨rfl,rfl⟩;go_wp2_with fail
   refine f _ _ trivial (fun _=>G.out) (fun _ _=>?_)
   try simp only[jj]
   refine Rf.r1 10 rfl (fun K f=>?_);refine wnt oR ?_;go_simp
   refine f _ _ trivial (bX oK) (fun _ _=>?_)
   try simp only[jj]
   refine bc oK ?_ _;go_wp2_with fail
   exact⟨⟨k+1,oA,oA,rfl,by go_num,G⟩,by simp[intOf];omega⟩
  obtain rfl:k=4:=oA;have K0:=hid (bp (tag:=tag) H);obtain⟨C,x1,x2,x3,x4,D,E⟩:=F.out _ K0;have c6:=C6.out _ H;go_upto_region 9 with fail
  refine bj oK oK ?_
  repeat (first|go_big_quiet_skip|(go_big_quiet_want;go_big_quiet_op;first|go_big_quiet_on|go_big_quiet_call (first|((with_reducible (show Calls _ 62 #[.int .i64 (N 5),_] _ _));refine bF (am.out _))|((with_reducible (show Calls _ 62 #[.int .i64 (N 6),_] _ _));refine bF (an.out _)))))
  refine cJ ?_;intro _ ac;obtain⟨nq,ad⟩:=ac;subst ad;have Q:=hid (aG H nq);clear K0 C x1 x2 x3 x4 D E c6 H am an g4 aO;generalize wr.drewN nq=w1 at*;have K1:=hid (bp (tag:=tag) Q);obtain⟨C,x1,x2,x3,x4,D,E⟩:=F.out _ K1;have c9:=C9.out _ Q;have I:=x.out _ _ (S.below Q);go_upto_region 11 with fail
  refine bj oK oK ?_
  repeat (first|go_big_quiet_skip|(go_big_quiet_want;go_big_quiet_op;first|go_big_quiet_on|go_big_quiet_call (fail)))
  refine cJ ?_;intro _ ac;obtain⟨nq,ad⟩:=ac;subst ad;have B2:=hid (aG Q nq);clear K1 C x1 x2 x3 x4 D E c9 I Q;generalize w1.drewN nq=w2 at*;have ae:=hid (S.below B2);have ao:=hid (bp (tag:=tag) B2);have av:=hid (show p.II.length=p.II.length from rfl);have d:Hid (Below w2.heap.size w2 w2.drew):=hid (aD w2 1);have b:=hid (ae.below d);have c:=hid (ao.trans (bp (tag:=tag) d));have a:=hid (b.Ja av P M (k:=11) oA (N 1));go_upto_region 13 with fail
  refine bI (R:=fun W=>Kt tag tag w W∧W.cell? ⟨wb,3,none⟩=some (.slice (some ⟨m,0,none⟩) p.II.length z)) [12] [0,1,2,3,4,5,6,7,8,9] 3 oK ⟨c.out,x.out _ _ b⟩ oK oK oK (fun _=>?_)
  repeat (refine Rf.rs ?_ rfl oR (fun W h=>by obtain⟨C,x1,x2,x3,x4,D,E⟩:=F.out _ h.1;have I:=h.2;clear h;go_simp;try rfl);simp only[jj])
  refine aL ?_;refine bN (R:=fun W=>Kt tag tag w W∧W.cell? ⟨wb,3,none⟩=some (.slice (some ⟨m,0,none⟩) p.II.length z)) oK _ ⟨c.out,x.out _ _ b⟩ [10,11] 1 _ _ oK ?_
  repeat (refine Rf.rs ?_;simp only[jj])
  refine aL ?_;obtain⟨u,B⟩:=a.2.2.1;have A:=a.2.2.2.1;have g:=hid a.1;have j:=hid (c.trans a.2.1);have n:=hid a.2.2.2.2;clear a b c ae ao av d;generalize w2.drew=s at*;refine Rf.r1 12 rfl (fun K f=>?_);refine wnt oR ?_;go_simp
  refine f _ _ trivial (bX oK) (fun _ _=>?_);clear f K B A u
  try simp only[jj]
  refine bc oK ?_ _;generalize s.setCell ⟨m,t*20+11,none⟩ _=U at g j ⊢;have ag:=g;have ap:=j;have ax:=n;clear g j n;have d:Hid (Below U.heap.size U U.drew):=hid (aD U 1);have b:=hid (ag.below d);have c:=hid (ap.trans (bp (tag:=tag) d));have a:=hid (b.Ja ax P M (k:=12) oA (N 2));go_upto_region 14 with fail
  refine bI (R:=fun W=>Kt tag tag w W∧W.cell? ⟨wb,3,none⟩=some (.slice (some ⟨m,0,none⟩) p.II.length z)) [12] [0,1,2,3,4,5,6,7,8,9] 3 oK ⟨c.out,x.out _ _ b⟩ oK oK oK (fun _=>?_)
  repeat (refine Rf.rs ?_ rfl oR (fun W h=>by obtain⟨C,x1,x2,x3,x4,D,E⟩:=F.out _ h.1;have I:=h.2;clear h;go_simp;try rfl);simp only[jj])
  refine aL ?_;refine bN (R:=fun W=>Kt tag tag w W∧W.cell? ⟨wb,3,none⟩=some (.slice (some ⟨m,0,none⟩) p.II.length z)) oK _ ⟨c.out,x.out _ _ b⟩ [10,11] 1 _ _ oK ?_
  repeat (refine Rf.rs ?_;simp only[jj])
  refine aL ?_;obtain⟨u,B⟩:=a.2.2.1;have A:=a.2.2.2.1;have g:=hid a.1;have j:=hid (c.trans a.2.1);have n:=hid a.2.2.2.2;clear a b c ag ap ax d;generalize U.drew=s at*;refine Rf.r1 12 rfl (fun K f=>?_);refine wnt oR ?_;go_simp
  refine f _ _ trivial (bX oK) (fun _ _=>?_);clear f K B A u
  try simp only[jj]
  refine bc oK ?_ _;generalize s.setCell ⟨m,t*20+12,none⟩ _=X at g j ⊢;have ah:=g;have aq:=j;have ay:=n;clear g j n;have d:Hid (Below X.heap.size X X.drew):=hid (aD X 1);have b:=hid (ah.below d);have c:=hid (aq.trans (bp (tag:=tag) d));have a:=hid (b.Ja ay P M (k:=13) oA (N 3));go_upto_region 15 with fail
  refine bI (R:=fun W=>Kt tag tag w W∧W.cell? ⟨wb,3,none⟩=some (.slice (some ⟨m,0,none⟩) p.II.length z)) [12] [0,1,2,3,4,5,6,7,8,9] 3 oK ⟨c.out,x.out _ _ b⟩ oK oK oK (fun _=>?_)
  repeat (refine Rf.rs ?_ rfl oR (fun W h=>by obtain⟨C,x1,x2,x3,x4,D,E⟩:=F.out _ h.1;have I:=h.2;clear h;go_simp;try rfl);simp only[jj])
  refine aL ?_;refine bN (R:=fun W=>Kt tag tag w W∧W.cell? ⟨wb,3,none⟩=some (.slice (some ⟨m,0,none⟩) p.II.length z)) oK _ ⟨c.out,x.out _ _ b⟩ [10,11] 1 _ _ oK ?_
  repeat (refine Rf.rs ?_;simp only[jj])
  refine aL ?_;obtain⟨u,B⟩:=a.2.2.1;have A:=a.2.2.2.1;have g:=hid a.1;have j:=hid (c.trans a.2.1);have n:=hid a.2.2.2.2;clear a b c ah aq ay d;generalize X.drew=s at*;refine Rf.r1 12 rfl (fun K f=>?_);refine wnt oR ?_;go_simp
  refine f _ _ trivial (bX oK) (fun _ _=>?_);clear f K B A u
  try simp only[jj]
  refine bc oK ?_ _;generalize s.setCell ⟨m,t*20+13,none⟩ _=Y at g j ⊢;have aj:=g;have ar:=j;have az:=n;clear g j n;have d:Hid (Below Y.heap.size Y Y.drew):=hid (aD Y 1);have b:=hid (aj.below d);have c:=hid (ar.trans (bp (tag:=tag) d));have a:=hid (b.Ja az P M (k:=18) oA (N 4));go_upto_region 16 with fail
  refine bI (R:=fun W=>Kt tag tag w W∧W.cell? ⟨wb,3,none⟩=some (.slice (some ⟨m,0,none⟩) p.II.length z)) [12] [0,1,2,3,4,5,6,7,8,9] 3 oK ⟨c.out,x.out _ _ b⟩ oK oK oK (fun _=>?_)
  repeat (refine Rf.rs ?_ rfl oR (fun W h=>by obtain⟨C,x1,x2,x3,x4,D,E⟩:=F.out _ h.1;have I:=h.2;clear h;go_simp;try rfl);simp only[jj])
  refine aL ?_;refine bN (R:=fun W=>Kt tag tag w W∧W.cell? ⟨wb,3,none⟩=some (.slice (some ⟨m,0,none⟩) p.II.length z)) oK _ ⟨c.out,x.out _ _ b⟩ [10,11] 1 _ _ oK ?_
  repeat (refine Rf.rs ?_;simp only[jj])
  refine aL ?_;obtain⟨u,B⟩:=a.2.2.1;have A:=a.2.2.2.1;have g:=hid a.1;have j:=hid (c.trans a.2.1);have n:=hid a.2.2.2.2;clear a b c aj ar az d;generalize Y.drew=s at*;refine Rf.r1 12 rfl (fun K f=>?_);refine wnt oR ?_;go_simp
  refine f _ _ trivial (bX oK) (fun _ _=>?_);clear f K B A u
  try simp only[jj]
  refine bc oK ?_ _;generalize s.setCell ⟨m,t*20+18,none⟩ _=Z at g j ⊢;have al:=g;have au:=j;have aA:=n;clear g j n;have d:Hid (Below Z.heap.size Z Z.drew):=hid (aD Z 1);have b:=hid (al.below d);have c:=hid (au.trans (bp (tag:=tag) d));have a:=hid (b.Ja aA P M (k:=10) oA (N 5));go_upto_region 17 with fail
  refine bI (R:=fun W=>Kt tag tag w W∧W.cell? ⟨wb,3,none⟩=some (.slice (some ⟨m,0,none⟩) p.II.length z)) [12] [0,1,2,3,4,5,6,7,8,9] 3 oK ⟨c.out,x.out _ _ b⟩ oK oK oK (fun _=>?_)
  repeat (refine Rf.rs ?_ rfl oR (fun W h=>by obtain⟨C,x1,x2,x3,x4,D,E⟩:=F.out _ h.1;have I:=h.2;clear h;go_simp;try rfl);simp only[jj])
  refine aL ?_;refine bN (R:=fun W=>Kt tag tag w W∧W.cell? ⟨wb,3,none⟩=some (.slice (some ⟨m,0,none⟩) p.II.length z)) oK _ ⟨c.out,x.out _ _ b⟩ [10,11] 1 _ _ oK ?_
  repeat (refine Rf.rs ?_;simp only[jj])
  refine aL ?_;obtain⟨u,B⟩:=a.2.2.1;have A:=a.2.2.2.1;have g:=hid a.1;have j:=hid (c.trans a.2.1);have n:=hid a.2.2.2.2;clear a b c al au aA d;generalize Z.drew=s at*;refine Rf.r1 12 rfl (fun K f=>?_);refine wnt oR ?_;go_simp
  refine f _ _ trivial (bX oK) (fun _ _=>?_);clear f K B A u
  try simp only[jj]
  refine bc oK ?_ _;generalize s.setCell ⟨m,t*20+10,none⟩ _=y5 at g j ⊢;have aF:=g;have aK:=j;have aN:=n;clear g j n;have d:Hid (Below y5.heap.size y5 y5.drew):=hid (aD y5 1);have b:=hid (aF.below d);have c:=hid (aK.trans (bp (tag:=tag) d));have a:=hid (b.Ja aN P M (k:=19) oA (N 6));go_upto_region 18 with fail
  refine bI (R:=fun W=>Kt tag tag w W∧W.cell? ⟨wb,3,none⟩=some (.slice (some ⟨m,0,none⟩) p.II.length z)) [12] [0,1,2,3,4,5,6,7,8,9] 3 oK ⟨c.out,x.out _ _ b⟩ oK oK oK (fun _=>?_)
  repeat (refine Rf.rs ?_ rfl oR (fun W h=>by obtain⟨C,x1,x2,x3,x4,D,E⟩:=F.out _ h.1;have I:=h.2;clear h;go_simp;try rfl);simp only[jj])
  refine aL ?_;refine bN (R:=fun W=>Kt tag tag w W∧W.cell? ⟨wb,3,none⟩=some (.slice (some ⟨m,0,none⟩) p.II.length z)) oK _ ⟨c.out,x.out _ _ b⟩ [10,11] 1 _ _ oK ?_
  repeat (refine Rf.rs ?_;simp only[jj])
  refine aL ?_;obtain⟨u,B⟩:=a.2.2.1;have A:=a.2.2.2.1;have g:=hid a.1;have j:=hid (c.trans a.2.1);have n:=hid a.2.2.2.2;generalize y5.drew=s at*;refine Rf.r1 12 rfl (fun K f=>?_);refine wnt oR ?_;go_simp
  refine f _ _ trivial (bX oK) (fun _ _=>?_)
  try simp only[jj]
  refine bc oK ?_ _;generalize s.setCell ⟨m,t*20+19,none⟩ _=y6 at g j ⊢;have aH:=g;have aM:=j;have aT:=n;go_wp2_with fail
  go_ret
  exact⟨rfl,aH.out,aM.out⟩
def kpK (s:Nat->Int) (a4:Int) (g:Nat) (k:Nat):Int:=if k=4 then a4 else if k=5 then (if g=0 then s 5 else g) else s k
def kpS (s:Nat->Int) (a4:Int) (g i:Nat) (k:Nat):Int:=if k=6 then i else kpK s a4 g k
theorem tI {n:Nat} {f g:Nat->Int} (h:∀k,k<n->f k=g k):cf n f=cf n g:=by
 apply List.ext_getElem?;intro k;by_cases hk:k<n
 ·rw[dk n f k hk,dk n g k hk,h k hk]
 ·rw[aI (by rw[ay];omega),aI (by rw[ay];omega)]
theorem jt {W:World} {b:Nat} {f:Nat->Int} (h:W.rangeAt b 0 (cf 6 f)) {k:Nat} (hk:k<6) (x:Int):(W.setCell ⟨b,k,none⟩ (.int .i64 x)).rangeAt b 0 (cf 6 (upd f k x)):=fun o v hv=>by
 have d:o<6:=by
  have:=(List.getElem?_eq_some_iff.1 hv).1
  rwa [ay] at this
 rw[dk 6 _ o d] at hv;have a:=h o _ (dk 6 f o d);have c:=h k _ (dk 6 f k hk);rw[aC] at a c ⊢;by_cases e:o=k
 ·subst e;rw[<-hv];unfold upd;rw[ag rfl];exact du _ _ _ c
 ·rw[<-hv,aO _ _ _ _ (by intro e2;cases e2;exact e rfl),a];unfold upd;rw[ae e]
theorem qp (wb:Nat) (tag:Nat->Nat) (V:Nat->Value) (p:PW) (i j r g a:Nat) (s:Nat->Int) (w:World) (bt:cb w wb tag V p) (hp:p.Fits) (hl:∀l∈p.IK,l.length<=100) (ah:p.IH.length=p.kinds.length*16)
  (hb:boE p i j=0) (hi:i<p.IH.length) (hj:j<p.IH.length) (hs:p.IH[i]=s) (h0:s 0≠1) (hr:r<=7) (hg:g<=65535) (ab:g=0∨(0<g∧(s 0=7∨s 0=8)∧s 5=0)) (h4:s 4=a) (ha:a<=7):
  Calls Tryz.prog 35 #[.pointer (some ⟨wb,0,none⟩),.int .i64 i,.int .i64 j,.int .i64 r,.int .i64 g] w fun x w'=>x=.returned (.int .i64 0)∧cb w' wb tag V {p with IH:=p.IH.set j (kpS s (Bw.bw 6 a r:Nat) g i)}∧Kt tag tag w w':=by
 have BT:=hid bt;have U:=hid (lX wb V p i j w (bt.view hp hl) ah);rw[hb] at U;obtain⟨z,am,e2⟩:=bt.o.IH.form (by show 0<p.IH.length;omega);have c2:w.cell? ⟨wb,2,none⟩=some (V 2):=ai bt.r rfl;rw[e2] at c2;have C2:=hid (fun W (h:Below w.heap.size w W)=>gU h c2);have RI:=hid (show w.rangeAt z (i*7) (cf 6 s) from oG (fun k v hv=>by
  have hk:k<7:=by have:=(List.getElem?_eq_some_iff.1 hv).1;rw[ay] at this;exact this
  have:=BT.I0 e2 hi hk;rw[hs] at this;rw[this, <-hv,dk 7 _ k hk]))
 have ao:(p.IH.length:Int)<=1000:=by have:=hp.IH;omega
 have al:(i:Int)<(p.IH.length:Int):=oA;have ac:(j:Int)<(p.IH.length:Int):=oA;have E2:=hid e2;have n0:(s 0==1)=false:=by simpa using h0
 have B:=hid (fun W:World=>Cpu.mm 6 (.inl rfl) a r oA oA W);have I:=hid (fun W:World=>show Calls Tryz.prog 62 #[.int .i64 r,.int .i64 7] W fun e w'=>e=.returned (.bool false)∧W=w' from (Isa.fy r 7 W).mono fun e w' ⟨O,h2⟩=>⟨by rw[O,show decide ((r:Int)<0∨7<(r:Int))=false from aw oA],h2⟩);have J:=hid (fun W:World=>show Calls Tryz.prog 62 #[.int .i64 g,.int .i64 65535] W fun e w'=>e=.returned (.bool false)∧W=w' from (Isa.fy g 65535 W).mono fun e w' ⟨O,h2⟩=>⟨by rw[O,show decide ((g:Int)<0∨65535<(g:Int))=false from aw oA],h2⟩);have Q:=hid (bal (af w.heap.size w) (.cells zK 32));have L:=hid (aP w zK 32 w.heap.size 6 rfl oD);have KX:=hid (show Kp (fun k=>k=w.heap.size) (w.alloc (.cells zK 32)) ((w.alloc (.cells zK 32)).setCells w.heap.size 0 (cf 6 s)) from aM (T:=fun k=>k=w.heap.size) (.inl rfl) _ _ _ (aV _ _));have t:=hid (KX.below Q Q.size (fun k hk e=>oA));have m:=hid (World.rangeAt_setCells_same _ w.heap.size 0 (cf 6 s) (by rw[ay];exact L));have y:=hid (World.there_setCells L w.heap.size 0 (cf 6 s));have HG:=hid ab;have H4:=hid h4;clear hb hs h0 ab bt e2 h4 ah;go_enter Tryz.func35,Tryz.ntmps35
 go_wp2_with fail
 refine U.mono ?_;rintro q w1 ⟨rfl,rfl⟩;go_upto_region 5 with (first|((with_reducible refine gld 32 ?_);refine uO rfl _ rfl z (i*7) rfl (cf 6 s) (ay _ _) RI ?_)|((with_reducible refine gst 32 ?_);refine gQ rfl _ _ rfl w.heap.size 0 rfl (cf 6 s) rfl (ay _ _) (bQ _ _) L ?_))
 clear KX L Q RI c2 U;generalize World.setCells _ _ _ _=M at t m y ⊢;generalize ad:w.heap.size=d at m y ⊢;have C:=hid ad;clear ad;have P:=hid (rfl:((Bw.bw 6 a r:Nat):Int)=((Bw.bw 6 a r:Nat):Int));obtain⟨a4,Z⟩:∃a4:Int,((Bw.bw 6 a r:Nat):Int)=a4:=⟨_,rfl⟩
 clear P;have P:=hid Z;rw[Z] at B;clear Z;have A:=cC m (dk 6 _ 0 oA);have r4:=cC m (dk 6 _ 4 oA);have G:=cC m (dk 6 _ 5 oA);rw[aC] at A r4 G;rw[H4.out] at r4;have f4:=(y.out 4 oA).2;have N:=(y.out 5 oA).2;rw[aC] at f4 N;rcases HG.out with aa|⟨gp,aj,h5⟩
 (focus
  have E:decide ((0:Int)<(g:Int))=false:=aw oA;have F:decide (0<g)=false:=aw oA;have n:=hid (show (M.setCell ⟨d,4,none⟩ (.int .i64 a4)).rangeAt d 0 (cf 6 (kpK s a4 g)) from by rw[aa];exact jt m (k:=4) oA a4);have u:=hid (iq t (b:=d) (o:=4) (Nat.le_of_eq C) (.int .i64 a4));clear aa;go_wp2_with fail
  refine (I.out _).mono ?_;rintro q w2 ⟨rfl,rfl⟩;go_wp2_with fail
  refine (J.out _).mono ?_;rintro q w2 ⟨rfl,rfl⟩;go_wp2_with fail
  refine (B.out _).mono ?_;rintro q w2 ⟨rfl,rfl⟩;go_upto_region 14 with fail
  clear E F A r4 G f4 N m y t n0;generalize M.setCell ⟨d,4,none⟩ (.int .i64 a4)=c at n u ⊢)
 rotate_left
 rw[h5] at G;clear h5;rcases aj with h7|h7
 (focus
  rw[h7] at A;have E:decide ((0:Int)<(g:Int))=true:=az oA;have F:decide (0<g)=true:=az gp;have n:=hid (show ((M.setCell ⟨d,5,none⟩ (.int .i64 g)).setCell ⟨d,4,none⟩ (.int .i64 a4)).rangeAt d 0 (cf 6 (kpK s a4 g)) from by
   rw[show cf 6 (kpK s a4 g)=cf 6 (upd (upd s 5 g) 4 a4) from tI (fun k hk=>by
    unfold kpK upd;by_cases e4:k=4
    ·rw[ag e4,ag e4]
    ·rw[ae e4,ae e4];by_cases e5:k=5
     ·rw[ag e5,ag e5,ae oA]
     ·rw[ae e5,ae e5])]
   exact jt (jt m (k:=5) oA g) (k:=4) oA a4)
  have u:=hid (iq (iq t (b:=d) (o:=5) (Nat.le_of_eq C) (.int .i64 g)) (b:=d) (o:=4) (Nat.le_of_eq C) (.int .i64 a4));clear n0 gp;go_wp2_with fail
  refine (I.out _).mono ?_;rintro q w2 ⟨rfl,rfl⟩;go_wp2_with fail
  refine (J.out _).mono ?_;rintro q w2 ⟨rfl,rfl⟩;go_wp2_with fail
  refine (B.out _).mono ?_;rintro q w2 ⟨rfl,rfl⟩;go_upto_region 14 with fail
  clear E F A r4 G f4 N m y t;generalize World.setCell _ _ _=c at n u ⊢)
 rotate_left
 (focus
  rw[h7] at A;have E:decide ((0:Int)<(g:Int))=true:=az oA;have F:decide (0<g)=true:=az gp;have n:=hid (show ((M.setCell ⟨d,5,none⟩ (.int .i64 g)).setCell ⟨d,4,none⟩ (.int .i64 a4)).rangeAt d 0 (cf 6 (kpK s a4 g)) from by
   rw[show cf 6 (kpK s a4 g)=cf 6 (upd (upd s 5 g) 4 a4) from tI (fun k hk=>by
    unfold kpK upd;by_cases e4:k=4
    ·rw[ag e4,ag e4]
    ·rw[ae e4,ae e4];by_cases e5:k=5
     ·rw[ag e5,ag e5,ae oA]
     ·rw[ae e5,ae e5])]
   exact jt (jt m (k:=5) oA g) (k:=4) oA a4)
  have u:=hid (iq (iq t (b:=d) (o:=5) (Nat.le_of_eq C) (.int .i64 g)) (b:=d) (o:=4) (Nat.le_of_eq C) (.int .i64 a4));clear n0 gp;go_wp2_with fail
  refine (I.out _).mono ?_;rintro q w2 ⟨rfl,rfl⟩;go_wp2_with fail
  refine (J.out _).mono ?_;rintro q w2 ⟨rfl,rfl⟩;go_wp2_with fail
  refine (B.out _).mono ?_;rintro q w2 ⟨rfl,rfl⟩;go_upto_region 14 with fail
  clear E F A r4 G f4 N m y t;generalize World.setCell _ _ _=c at n u ⊢)
 rotate_left
 rotate_left
 all_goals
  have an:(j:Int)<(p.IH.length:Int):=ac;clear ac al B I J HG H4;have H:Hid (Below c.heap.size c c.drew):=hid (aD c 1);have B5:=hid (btr u H);have S:=hid (BT.below B5);have X:=S.o.IH;rw[E2.out] at X;have TH:=hid (X.there (j*7) 7 (by show j*7+7<=p.IH.length*7;omega));have D:=hid (S.I1 E2 hj (kpS s a4 g i));rw[show cf 7 (kpS s a4 g i)=[.int .i64 (kpK s a4 g 0),.int .i64 (kpK s a4 g 1),.int .i64 (kpK s a4 g 2),.int .i64 (kpK s a4 g 3),.int .i64 (kpK s a4 g 4),.int .i64 (kpK s a4 g 5),.int .i64 i] from rfl] at D;rw[show cf 6 (kpK s a4 g)=[.int .i64 (kpK s a4 g 0),.int .i64 (kpK s a4 g 1),.int .i64 (kpK s a4 g 2),.int .i64 (kpK s a4 g 3),.int .i64 (kpK s a4 g 4),.int .i64 (kpK s a4 g 5)] from rfl] at n;generalize kpK s a4 g=f at n D;have RK:=hid (fun W (h:Below c.heap.size c W)=>bf n h);have BK:=hid (fun W (h:Below c.heap.size c W)=>C2.out W (btr u h));clear X;refine bI (R:=fun W=>Below c.heap.size c W) [9] [0,1,2,3,4,5,6,7] 2 oK H oK oK oK (fun _=>?_)
  iterate 5 (refine Rf.rs ?_ rfl oR (fun W h=>by have O:=BK.out _ h;clear h;go_simp;try rfl);simp only[jj])
  refine Rf.Hj rfl (.agg #[.int .i64 (f 0),.int .i64 (f 1),.int .i64 (f 2),.int .i64 (f 3),.int .i64 (f 4),.int .i64 (f 5)]) (yieldsIf_load_mid oR _ _ rfl _ _ rfl ([.int .i64 (f 0),.int .i64 (f 1),.int .i64 (f 2),.int .i64 (f 3),.int .i64 (f 4),.int .i64 (f 5)]) _ (fun _ h=>RK.out _ h) Tryz.underlying32 rfl (by rw[mM];rfl)) (fun _ _ _ h=>h) ?_;simp only[jj]
  iterate 2 (refine Rf.rs ?_;simp only[jj])
  refine aL ?_;refine bN (R:=fun W=>Below c.heap.size c W) oK _ H [8] 1 _ _ oK ?_
  repeat (refine Rf.rs ?_;simp only[jj])
  refine aL ?_;clear RK BK H;generalize c.drew=w5 at*;refine Rf.r1 9 rfl (fun K hK=>?_);refine wnt oR ?_;simp only[dc,bC,bh];refine wp_store_mid 34 _ _ rfl z (j*7) #[.int .i64 (f 0),.int .i64 (f 1),.int .i64 (f 2),.int .i64 (f 3),.int .i64 (f 4),.int .i64 (f 5),.int .i64 i] rfl rfl TH lH (by simp[Value.oneCell']) ?_;refine hK _ _ trivial (bX oK) (fun _ _=>?_);clear hK K
  try simp only[jj]
  refine bc oK ?_ _;have Y:=hid (show cb (w5.setCells z (j*7) [.int .i64 (f 0),.int .i64 (f 1),.int .i64 (f 2),.int .i64 (f 3),.int .i64 (f 4),.int .i64 (f 5),.int .i64 i]) wb tag V {p with IH:=p.IH.set j (kpS s a4 g i)}∧Kt tag tag w (w5.setCells z (j*7) [.int .i64 (f 0),.int .i64 (f 1),.int .i64 (f 2),.int .i64 (f 3),.int .i64 (f 4),.int .i64 (f 5),.int .i64 i]) from⟨D.1,(bp B5).trans D.2⟩);clear D TH S;generalize w5.setCells z (j*7) [.int .i64 (f 0),.int .i64 (f 1),.int .i64 (f 2),.int .i64 (f 3),.int .i64 (f 4),.int .i64 (f 5),.int .i64 i]=W9 at Y ⊢;go_wp2_with fail
  go_ret
  exact⟨rfl,by rw[P.out];exact Y.1,Y.2⟩
