/- Qbb -/
import Derived.BigGuard
import Derived.BigQuiet
import Derived.Test.YtaejnmmpddbbjaaGreatDoorQba
namespace Go.Proofs.YtaejnmmpddbbjaaGreatDoor.Wd
open Go.RowKit Mem Bw Nums Mmu Hex
def eqK (k:Nat):Int:=[0,5,4,7].getD k 0
def eqP (p:PW) (t:Nat) (N:Nat→Int):PW:=(((((p.task t 11 (N 1)).task t 12 (N 2)).task t 13 (N 3)).task t 18 (N 4)).task t 10 (N 5)).task t 19 (N 6)
theorem four_at {W:World} {k:Nat} (hk:k<4):(W.alloc (.cells #[.int .i64 0,.int .i64 5,.int .i64 4,.int .i64 7] 3)).cell? ⟨W.heap.size,k,none⟩=some (.int .i64 (eqK k)):=by
 rw[cJ]
 match k,hk with
 |0,_=>rfl
 |1,_=>rfl
 |2,_=>rfl
 |3,_=>rfl
 |_+4,h=>omega
theorem BoxT.taskPut {W:World} {wb:Nat} {tag:Nat→Nat} {V:Nat→Value} {p:PW} (h:BoxT W wb tag V p) {g cap n:Nat} (a:p.tasks.length=n) (e:V 3=.slice (some ⟨g,0,none⟩) n cap) {i k:Nat} (hi:i<n) (hk:k<20) (x:Int):
  BoxT (W.setCell ⟨g,i*20+k,none⟩ (.int .i64 x)) wb tag V (p.task i k x)∧Kt tag tag W (W.setCell ⟨g,i*20+k,none⟩ (.int .i64 x))∧(∃v,W.cell? ⟨g,i*20+k,none⟩=some v)∧W.frozen? ⟨g,i*20+k,none⟩=false∧(p.task i k x).tasks.length=n:=by
 subst a;have:=h.tasksCell e hi hk x;have e2:p.tasks.getD i bl=p.tasks[i]:=by rw[aa,ac hi];rfl
 refine⟨?_,this.2,⟨_,h.tasksAt e hi hk⟩,h.tasksFr e _,ap p i k x⟩;unfold PW.task;rw[e2];exact this.1
set_option maxRecDepth 100000
set_option maxHeartbeats 16000000
theorem equipLine_ref (wb:Nat) (tag:Nat→Nat) (V:Nat→Value) (p:PW) (ga ca t:Nat) (N:Nat→Int) (w:World) (bt:BoxT w wb tag V p) (hp:p.Fits) (hl:∀l∈p.tlbs,l.length≤100) (L:IntsAt w ga 0 [(t:Int),N 1,N 2,N 3,N 4,N 5,N 6]) (T:tag ga=0)
  (h0:fmE p t 6=0) (S:t<p.tasks.length) (hk:∀k,1≤k→k<4→N k≠ -1→fmE p (N k) (eqK k)=0) (h4:0≤N 4) (aR:N 4<p.cores.length) (h5:0≤N 5) (aS:N 5≤3) (h6:0≤N 6) (aT:N 6≤3) (aN:p.tasks[t] 9=0):
  Calls Tryz.prog 129 #[.pointer (some ⟨wb,0,none⟩),.slice (some ⟨ga,0,none⟩) 7 ca] w fun r w'=>r=.returned (.int .i64 0)∧BoxT w' wb tag V (eqP p t N)∧Kt tag tag w w':=by
 have Y:=hid bt;have a0:=L 0 (by simp);have a1:=L 1 (by simp);have Z:=L 2 (by simp);have a3:=L 3 (by simp);have a4:=L 4 (by simp);have a5:=L 5 (by simp);have a6:=L 6 (by simp);rw[aC] at a0 a1 Z a3 a4 a5 a6;simp only[aV,bk] at a0 a1 Z a3 a4 a5 a6;have J:=hid (fun W (h:Kt tag tag w W)=>(⟨h.cell a0 T,h.cell a1 T,h.cell Z T,h.cell a3 T,h.cell a4 T,h.cell a5 T,h.cell a6 T⟩:_∧_∧_∧_∧_∧_∧_));have KN:=hid (fun W (h:Below w.heap.size w W) k (Q:1≤k) (hk:k<4)=>show W.cell? ⟨ga,k,none⟩=some (.int .i64 (N k)) from by
  have aU:k=1∨k=2∨k=3:=by omega
  rcases aU with rfl|rfl|rfl
  ·exact cupx h a1
  ·exact cupx h Z
  ·exact cupx h a3)
 have c6:w.cell? ⟨wb,6,none⟩=some (V 6):=af bt.r rfl;obtain⟨q6,b6,o6,k6,e6,a7,a8⟩:=(bt.view hp hl).v.cores;obtain⟨m,z,e3⟩:=bt.o.tasks.form (by show 0<p.tasks.length;omega);rw[e6] at c6;have bb:(p.cores.length:Int)≤1000:=by have:=hp.cores;omega
 have bo:(p.tasks.length:Int)≤1000:=by have:=hp.tasks;omega
 have C6:=hid (fun W (h:Below w.heap.size w W)=>cupx h c6);have aq:=hid (fun W (h:Below w.heap.size w W)=>show Calls Tryz.prog 169 #[.pointer (some ⟨wb,0,none⟩),.int .i64 t,.int .i64 6] W fun r w'=>r=.returned (.int .i64 0)∧W=w' from by have:=frameMay_ref wb V p t 6 W ((Y.below h).view hp hl);rw[h0] at this;exact this);have ar:=hid (fun W (h:Below w.heap.size w W) k (Q:1≤k) (ac:k<4) (aY:N k≠ -1)=>show Calls Tryz.prog 169 #[.pointer (some ⟨wb,0,none⟩),.int .i64 (N k),.int .i64 (eqK k)] W fun r w'=>r=.returned (.int .i64 0)∧W=w' from by have:=frameMay_ref wb V p (N k) (eqK k) W ((Y.below h).view hp hl);rw[hk k Q ac aY] at this;exact this);have ao:=hid (fun W:World=>show Calls Tryz.prog 33 #[.int .i64 (N 5),.int .i64 3] W fun e w'=>e=.returned (.bool false)∧w'=W from (Isa.far_any (N 5) 3 W).mono fun e w' ⟨Q,h2⟩=>⟨by rw[Q,show decide (N 5<0∨3<N 5)=false from ay (by omega)],h2.symm⟩);have ap:=hid (fun W:World=>show Calls Tryz.prog 33 #[.int .i64 (N 6),.int .i64 3] W fun e w'=>e=.returned (.bool false)∧w'=W from (Isa.far_any (N 6) 3 W).mono fun e w' ⟨Q,h2⟩=>⟨by rw[Q,show decide (N 6<0∨3<N 6)=false from ay (by omega)],h2.symm⟩);have c9:∀W,Below w.heap.size w W→W.cell? ⟨m,t*20+9,none⟩=some (.int .i64 0):=fun W h=>by have:=(Y.below h).tasksAt e3 S (k:=9) (by omega);rw[aN] at this;exact this
 have C9:=hid c9;have U:=hid e3;have T3:=hid (fun W (h:BoxT W wb tag V p)=>True.intro);have x:=hid (fun W q (h:BoxT W wb tag V q)=>show W.cell? ⟨wb,3,none⟩=some (.slice (some ⟨m,0,none⟩) p.tasks.length z) from by have:=af h.r (k:=3) rfl;rw[e3] at this;exact this);have a9:=hid h4;have g4:decide (N 4<0)=false:=ay (by omega);have aQ:decide ((p.cores.length:Int)≤N 4)=false:=ay (by omega);have bn:(t:Int)<(p.tasks.length:Int):=by omega
 clear L h0 hk h4 aR h5 aS h6 aT aN c9 e3 e6 a7 a8 c6 bt T3;have C:=a0;clear a0 a1 Z a3 a4 a5 a6;go_enter Tryz.func129,Tryz.ntmps129
 go_wp2_with fail
 refine (aq.out w (aj _ _)).mono ?_;rintro r w1 ⟨rfl,rfl⟩;go_wp2_with fail
 clear C
 go_loopw [5,6] (fun e i wr=>∃(k:Nat),1≤k∧k≤4∧e=.int .i64 0∧i=.int .i64 (k:Int)∧Hid (Below w.heap.size w wr)) (fun _ i _=>4 - (intOf i).toNat)
 case atStart=>exact⟨1,by omega,by omega,rfl,rfl,hid (aj _ _)⟩
 case round=>
  obtain⟨k,ab,ac,rfl,rfl,O⟩:=hrel;by_cases aa:k<4
  ·have bg:(k:Int)<4:=by omega
   have bj:(k:Int)<7:=by omega
   have bf:(0:Int)≤(k:Int):=by omega
   have xk:=KN.out _ O k ab aa;by_cases hm:N k= -1
   ·rw[hm] at xk;go_wp2_with fail
    exact⟨⟨k+1,by omega,by omega,rfl,by go_num,O⟩,by simp[intOf];omega⟩
   have aM:(N k != -1)=true:=by simpa using hm
   have HC:=hid (fun W (h:Below w.heap.size w W)=>ar.out W h k ab aa hm);have KX:=hid (fun W (h:Below w.heap.size w W)=>KN.out W h k ab aa);have FA:=hid (fun W:World=>four_at (W:=W) aa);generalize N k=y at xk aM HC KX;generalize eqK k=kk at HC FA;clear hm;go_upto_region 6 with fail
   have f:Hid (Below wr.heap.size wr wr.drew):=hid (aA wr 1);have B4:=hid (btr O f);clear xk aM;refine aX (R:=fun W=>Below w.heap.size w W) [10] [0,1,2,3,4] 6 (by kernel_rfl) B4 (by kernel_rfl) (by kernel_rfl) (by kernel_rfl) (fun _=>?_)
   repeat (refine aJ rfl (by rfl) (fun _ _ _ _ h=>h) ?_;apply Exists.intro;refine⟨fun W h=>?_,?_⟩;(focus (have Q:=KX.out _ h;clear h;go_simp;try rfl));simp only[jj])
   refine aE ?_;generalize wr.drew=s at*;refine aZ (R:=fun W=>Below w.heap.size w W) (by kernel_rfl) _ B4 [6] 5 _ _ (by kernel_rfl) ?_
   repeat (refine aJ rfl (by rfl) (fun _ _ _ _ h=>h) ?_;apply Exists.intro;refine⟨fun W h=>?_,?_⟩;(focus (clear h;go_simp;try rfl));simp only[jj])
   refine aE ?_;have M:=hid (bal B4 (.cells #[.int .i64 0,.int .i64 5,.int .i64 4,.int .i64 7] 3));have X5:=FA.out s;refine Rf.r1 5 rfl (fun K d=>?_);refine wnt (by rfl) ?_;go_simp
   refine d _ (s.alloc (.cells #[.int .i64 0,.int .i64 5,.int .i64 4,.int .i64 7] 3)) trivial (fun _=>M.out) (fun _ _=>?_);clear d K
   try simp only[jj]
   generalize s.alloc _=w6 at M X5 ⊢;generalize s.heap.size=nb at X5 ⊢;refine aZ (R:=fun W=>Below w.heap.size w W) (by kernel_rfl) _ M [7] 3 _ _ (by kernel_rfl) ?_
   repeat (refine aJ rfl (by rfl) (fun _ _ _ _ h=>h) ?_;apply Exists.intro;refine⟨fun W h=>?_,?_⟩;(focus (clear h;go_simp;try rfl));simp only[jj])
   refine aE ?_;refine Rf.r1 8 rfl (fun K d=>?_);refine wnt (by rfl) ?_;go_simp
   refine d _ _ trivial (fun _=>M.out) (fun _ _=>?_);clear d K X5
   try simp only[jj]
   refine Rf.r1 9 rfl (fun K d=>?_);refine wnt (by rfl) ?_;go_simp
   refine (HC.out _ M).mono ?_;rintro r w7 ⟨rfl,rfl⟩;go_wp2_with fail
   refine d _ _ trivial (fun _=>M.out) (fun _ _=>?_);clear d K
   try simp only[jj]
   refine Rf.r1 10 rfl (fun K d=>?_);refine wnt (by rfl) ?_;go_simp
   refine d _ _ trivial (bF (by kernel_rfl)) (fun _ _=>?_);clear d K
   try simp only[jj]
   refine aL (by kernel_rfl) ?_ _;clear HC KX FA B4 f;go_wp2_with fail
   exact⟨⟨k+1,by omega,by omega,rfl,by go_num,M⟩,by simp[intOf];omega⟩
  obtain rfl:k=4:=by omega
  clear aa ab ac KN ar aq;have K0:=hid (aW (tag:=tag) O);obtain⟨C,D,E,F,G,H,I⟩:=J.out _ K0;have c6:=C6.out _ O;go_upto_region 9 with fail
  refine bh (by kernel_rfl) (by kernel_rfl) ?_
  repeat (first|go_big_quiet_skip|(go_big_quiet_want;go_big_quiet_op;first|go_big_quiet_on|go_big_quiet_call (first|((with_reducible (show Calls _ 33 #[.int .i64 (N 5),_] _ _));refine dT (ao.out _))|((with_reducible (show Calls _ 33 #[.int .i64 (N 6),_] _ _));refine dT (ap.out _)))))
  refine cG ?_;intro _ ad;obtain⟨nq,ae⟩:=ad;subst ae;have X:=hid (bc O nq);clear K0 C D E F G H I c6 O ao ap g4 aQ;generalize wr.drewN nq=w1 at*;have K1:=hid (aW (tag:=tag) X);obtain⟨C,D,E,F,G,H,I⟩:=J.out _ K1;have c9:=C9.out _ X;have P:=x.out _ _ (Y.below X);go_upto_region 11 with fail
  refine bh (by kernel_rfl) (by kernel_rfl) ?_
  repeat (first|go_big_quiet_skip|(go_big_quiet_want;go_big_quiet_op;first|go_big_quiet_on|go_big_quiet_call (fail)))
  refine cG ?_;intro _ ad;obtain⟨nq,ae⟩:=ad;subst ae;have B2:=hid (bc X nq);clear K1 C D E F G H I c9 P X;generalize w1.drewN nq=w2 at*;have ag:=hid (Y.below B2);have au:=hid (aW (tag:=tag) B2);have aD:=hid (show p.tasks.length=p.tasks.length from rfl);have f:Hid (Below w2.heap.size w2 w2.drew):=hid (aA w2 1);have b:=hid (ag.below f);have c:=hid (au.trans (aW (tag:=tag) f));have a:=hid (b.taskPut aD U S (k:=11) (by omega) (N 1));go_upto_region 13 with fail
  refine aX (R:=fun W=>Kt tag tag w W∧W.cell? ⟨wb,3,none⟩=some (.slice (some ⟨m,0,none⟩) p.tasks.length z)) [12] [0,1,2,3,4,5,6,7,8,9] 3 (by kernel_rfl) ⟨c.out,x.out _ _ b⟩ (by kernel_rfl) (by kernel_rfl) (by kernel_rfl) (fun _=>?_)
  repeat (refine aJ rfl (by rfl) (fun _ _ _ _ h=>h) ?_;apply Exists.intro;refine⟨fun W h=>?_,?_⟩;(focus (obtain⟨C,D,E,F,G,H,I⟩:=J.out _ h.1;have P:=h.2;clear h;go_simp;try rfl));simp only[jj])
  refine aE ?_;refine aZ (R:=fun W=>Kt tag tag w W∧W.cell? ⟨wb,3,none⟩=some (.slice (some ⟨m,0,none⟩) p.tasks.length z)) (by kernel_rfl) _ ⟨c.out,x.out _ _ b⟩ [10,11] 1 _ _ (by kernel_rfl) ?_
  repeat (refine aJ rfl (by rfl) (fun _ _ _ _ h=>h) ?_;apply Exists.intro;refine⟨fun W h=>?_,?_⟩;(focus (clear h;go_simp;try rfl));simp only[jj])
  refine aE ?_;obtain⟨u,B⟩:=a.2.2.1;have A:=a.2.2.2.1;have g:=hid a.1;have j:=hid (c.trans a.2.1);have n:=hid a.2.2.2.2;clear a b c ag au aD f;generalize w2.drew=s at*;refine Rf.r1 12 rfl (fun K d=>?_);refine wnt (by rfl) ?_;go_simp
  refine d _ _ trivial (bF (by kernel_rfl)) (fun _ _=>?_);clear d K B A u
  try simp only[jj]
  refine aL (by kernel_rfl) ?_ _;generalize s.setCell ⟨m,t*20+11,none⟩ _=y1 at g j ⊢;have ah:=g;have av:=j;have aF:=n;clear g j n;have f:Hid (Below y1.heap.size y1 y1.drew):=hid (aA y1 1);have b:=hid (ah.below f);have c:=hid (av.trans (aW (tag:=tag) f));have a:=hid (b.taskPut aF U S (k:=12) (by omega) (N 2));go_upto_region 14 with fail
  refine aX (R:=fun W=>Kt tag tag w W∧W.cell? ⟨wb,3,none⟩=some (.slice (some ⟨m,0,none⟩) p.tasks.length z)) [12] [0,1,2,3,4,5,6,7,8,9] 3 (by kernel_rfl) ⟨c.out,x.out _ _ b⟩ (by kernel_rfl) (by kernel_rfl) (by kernel_rfl) (fun _=>?_)
  repeat (refine aJ rfl (by rfl) (fun _ _ _ _ h=>h) ?_;apply Exists.intro;refine⟨fun W h=>?_,?_⟩;(focus (obtain⟨C,D,E,F,G,H,I⟩:=J.out _ h.1;have P:=h.2;clear h;go_simp;try rfl));simp only[jj])
  refine aE ?_;refine aZ (R:=fun W=>Kt tag tag w W∧W.cell? ⟨wb,3,none⟩=some (.slice (some ⟨m,0,none⟩) p.tasks.length z)) (by kernel_rfl) _ ⟨c.out,x.out _ _ b⟩ [10,11] 1 _ _ (by kernel_rfl) ?_
  repeat (refine aJ rfl (by rfl) (fun _ _ _ _ h=>h) ?_;apply Exists.intro;refine⟨fun W h=>?_,?_⟩;(focus (clear h;go_simp;try rfl));simp only[jj])
  refine aE ?_;obtain⟨u,B⟩:=a.2.2.1;have A:=a.2.2.2.1;have g:=hid a.1;have j:=hid (c.trans a.2.1);have n:=hid a.2.2.2.2;clear a b c ah av aF f;generalize y1.drew=s at*;refine Rf.r1 12 rfl (fun K d=>?_);refine wnt (by rfl) ?_;go_simp
  refine d _ _ trivial (bF (by kernel_rfl)) (fun _ _=>?_);clear d K B A u
  try simp only[jj]
  refine aL (by kernel_rfl) ?_ _;generalize s.setCell ⟨m,t*20+12,none⟩ _=y2 at g j ⊢;have ai:=g;have aw:=j;have aG:=n;clear g j n;have f:Hid (Below y2.heap.size y2 y2.drew):=hid (aA y2 1);have b:=hid (ai.below f);have c:=hid (aw.trans (aW (tag:=tag) f));have a:=hid (b.taskPut aG U S (k:=13) (by omega) (N 3));go_upto_region 15 with fail
  refine aX (R:=fun W=>Kt tag tag w W∧W.cell? ⟨wb,3,none⟩=some (.slice (some ⟨m,0,none⟩) p.tasks.length z)) [12] [0,1,2,3,4,5,6,7,8,9] 3 (by kernel_rfl) ⟨c.out,x.out _ _ b⟩ (by kernel_rfl) (by kernel_rfl) (by kernel_rfl) (fun _=>?_)
  repeat (refine aJ rfl (by rfl) (fun _ _ _ _ h=>h) ?_;apply Exists.intro;refine⟨fun W h=>?_,?_⟩;(focus (obtain⟨C,D,E,F,G,H,I⟩:=J.out _ h.1;have P:=h.2;clear h;go_simp;try rfl));simp only[jj])
  refine aE ?_;refine aZ (R:=fun W=>Kt tag tag w W∧W.cell? ⟨wb,3,none⟩=some (.slice (some ⟨m,0,none⟩) p.tasks.length z)) (by kernel_rfl) _ ⟨c.out,x.out _ _ b⟩ [10,11] 1 _ _ (by kernel_rfl) ?_
  repeat (refine aJ rfl (by rfl) (fun _ _ _ _ h=>h) ?_;apply Exists.intro;refine⟨fun W h=>?_,?_⟩;(focus (clear h;go_simp;try rfl));simp only[jj])
  refine aE ?_;obtain⟨u,B⟩:=a.2.2.1;have A:=a.2.2.2.1;have g:=hid a.1;have j:=hid (c.trans a.2.1);have n:=hid a.2.2.2.2;clear a b c ai aw aG f;generalize y2.drew=s at*;refine Rf.r1 12 rfl (fun K d=>?_);refine wnt (by rfl) ?_;go_simp
  refine d _ _ trivial (bF (by kernel_rfl)) (fun _ _=>?_);clear d K B A u
  try simp only[jj]
  refine aL (by kernel_rfl) ?_ _;generalize s.setCell ⟨m,t*20+13,none⟩ _=y3 at g j ⊢;have al:=g;have ax:=j;have aH:=n;clear g j n;have f:Hid (Below y3.heap.size y3 y3.drew):=hid (aA y3 1);have b:=hid (al.below f);have c:=hid (ax.trans (aW (tag:=tag) f));have a:=hid (b.taskPut aH U S (k:=18) (by omega) (N 4));go_upto_region 16 with fail
  refine aX (R:=fun W=>Kt tag tag w W∧W.cell? ⟨wb,3,none⟩=some (.slice (some ⟨m,0,none⟩) p.tasks.length z)) [12] [0,1,2,3,4,5,6,7,8,9] 3 (by kernel_rfl) ⟨c.out,x.out _ _ b⟩ (by kernel_rfl) (by kernel_rfl) (by kernel_rfl) (fun _=>?_)
  repeat (refine aJ rfl (by rfl) (fun _ _ _ _ h=>h) ?_;apply Exists.intro;refine⟨fun W h=>?_,?_⟩;(focus (obtain⟨C,D,E,F,G,H,I⟩:=J.out _ h.1;have P:=h.2;clear h;go_simp;try rfl));simp only[jj])
  refine aE ?_;refine aZ (R:=fun W=>Kt tag tag w W∧W.cell? ⟨wb,3,none⟩=some (.slice (some ⟨m,0,none⟩) p.tasks.length z)) (by kernel_rfl) _ ⟨c.out,x.out _ _ b⟩ [10,11] 1 _ _ (by kernel_rfl) ?_
  repeat (refine aJ rfl (by rfl) (fun _ _ _ _ h=>h) ?_;apply Exists.intro;refine⟨fun W h=>?_,?_⟩;(focus (clear h;go_simp;try rfl));simp only[jj])
  refine aE ?_;obtain⟨u,B⟩:=a.2.2.1;have A:=a.2.2.2.1;have g:=hid a.1;have j:=hid (c.trans a.2.1);have n:=hid a.2.2.2.2;clear a b c al ax aH f;generalize y3.drew=s at*;refine Rf.r1 12 rfl (fun K d=>?_);refine wnt (by rfl) ?_;go_simp
  refine d _ _ trivial (bF (by kernel_rfl)) (fun _ _=>?_);clear d K B A u
  try simp only[jj]
  refine aL (by kernel_rfl) ?_ _;generalize s.setCell ⟨m,t*20+18,none⟩ _=y4 at g j ⊢;have am:=g;have az:=j;have aI:=n;clear g j n;have f:Hid (Below y4.heap.size y4 y4.drew):=hid (aA y4 1);have b:=hid (am.below f);have c:=hid (az.trans (aW (tag:=tag) f));have a:=hid (b.taskPut aI U S (k:=10) (by omega) (N 5));go_upto_region 17 with fail
  refine aX (R:=fun W=>Kt tag tag w W∧W.cell? ⟨wb,3,none⟩=some (.slice (some ⟨m,0,none⟩) p.tasks.length z)) [12] [0,1,2,3,4,5,6,7,8,9] 3 (by kernel_rfl) ⟨c.out,x.out _ _ b⟩ (by kernel_rfl) (by kernel_rfl) (by kernel_rfl) (fun _=>?_)
  repeat (refine aJ rfl (by rfl) (fun _ _ _ _ h=>h) ?_;apply Exists.intro;refine⟨fun W h=>?_,?_⟩;(focus (obtain⟨C,D,E,F,G,H,I⟩:=J.out _ h.1;have P:=h.2;clear h;go_simp;try rfl));simp only[jj])
  refine aE ?_;refine aZ (R:=fun W=>Kt tag tag w W∧W.cell? ⟨wb,3,none⟩=some (.slice (some ⟨m,0,none⟩) p.tasks.length z)) (by kernel_rfl) _ ⟨c.out,x.out _ _ b⟩ [10,11] 1 _ _ (by kernel_rfl) ?_
  repeat (refine aJ rfl (by rfl) (fun _ _ _ _ h=>h) ?_;apply Exists.intro;refine⟨fun W h=>?_,?_⟩;(focus (clear h;go_simp;try rfl));simp only[jj])
  refine aE ?_;obtain⟨u,B⟩:=a.2.2.1;have A:=a.2.2.2.1;have g:=hid a.1;have j:=hid (c.trans a.2.1);have n:=hid a.2.2.2.2;clear a b c am az aI f;generalize y4.drew=s at*;refine Rf.r1 12 rfl (fun K d=>?_);refine wnt (by rfl) ?_;go_simp
  refine d _ _ trivial (bF (by kernel_rfl)) (fun _ _=>?_);clear d K B A u
  try simp only[jj]
  refine aL (by kernel_rfl) ?_ _;generalize s.setCell ⟨m,t*20+10,none⟩ _=y5 at g j ⊢;have an:=g;have aB:=j;have aK:=n;clear g j n;have f:Hid (Below y5.heap.size y5 y5.drew):=hid (aA y5 1);have b:=hid (an.below f);have c:=hid (aB.trans (aW (tag:=tag) f));have a:=hid (b.taskPut aK U S (k:=19) (by omega) (N 6));go_upto_region 18 with fail
  refine aX (R:=fun W=>Kt tag tag w W∧W.cell? ⟨wb,3,none⟩=some (.slice (some ⟨m,0,none⟩) p.tasks.length z)) [12] [0,1,2,3,4,5,6,7,8,9] 3 (by kernel_rfl) ⟨c.out,x.out _ _ b⟩ (by kernel_rfl) (by kernel_rfl) (by kernel_rfl) (fun _=>?_)
  repeat (refine aJ rfl (by rfl) (fun _ _ _ _ h=>h) ?_;apply Exists.intro;refine⟨fun W h=>?_,?_⟩;(focus (obtain⟨C,D,E,F,G,H,I⟩:=J.out _ h.1;have P:=h.2;clear h;go_simp;try rfl));simp only[jj])
  refine aE ?_;refine aZ (R:=fun W=>Kt tag tag w W∧W.cell? ⟨wb,3,none⟩=some (.slice (some ⟨m,0,none⟩) p.tasks.length z)) (by kernel_rfl) _ ⟨c.out,x.out _ _ b⟩ [10,11] 1 _ _ (by kernel_rfl) ?_
  repeat (refine aJ rfl (by rfl) (fun _ _ _ _ h=>h) ?_;apply Exists.intro;refine⟨fun W h=>?_,?_⟩;(focus (clear h;go_simp;try rfl));simp only[jj])
  refine aE ?_;obtain⟨u,B⟩:=a.2.2.1;have A:=a.2.2.2.1;have g:=hid a.1;have j:=hid (c.trans a.2.1);have n:=hid a.2.2.2.2;clear a b c an aB aK f;generalize y5.drew=s at*;refine Rf.r1 12 rfl (fun K d=>?_);refine wnt (by rfl) ?_;go_simp
  refine d _ _ trivial (bF (by kernel_rfl)) (fun _ _=>?_);clear d K B A u
  try simp only[jj]
  refine aL (by kernel_rfl) ?_ _;generalize s.setCell ⟨m,t*20+19,none⟩ _=y6 at g j ⊢;have aO:=g;have aP:=j;have ba:=n;clear g j n;go_wp2_with fail
  go_ret
  exact⟨rfl,aO.out,aP.out⟩
set_option maxRecDepth 512
set_option maxHeartbeats 200000
def kpK (s:Nat→Int) (a4:Int) (g:Nat) (k:Nat):Int:=if k=4 then a4 else if k=5 then (if g=0 then s 5 else g) else s k
def kpS (s:Nat→Int) (a4:Int) (g i:Nat) (k:Nat):Int:=if k=6 then i else kpK s a4 g k
theorem cf_congr {n:Nat} {f g:Nat→Int} (h:∀k,k<n→f k=g k):cf n f=cf n g:=by
 apply List.ext_getElem?;intro k;by_cases hk:k<n
 ·rw[cf_at n f k hk,cf_at n g k hk,h k hk]
 ·rw[aH (by rw[ax];omega),aH (by rw[ax];omega)]
theorem range_put {W:World} {b:Nat} {f:Nat→Int} (h:W.rangeAt b 0 (cf 6 f)) {k:Nat} (hk:k<6) (x:Int):(W.setCell ⟨b,k,none⟩ (.int .i64 x)).rangeAt b 0 (cf 6 (upd f k x)):=fun o v a=>by
 have g:o<6:=by
  have:=(List.getElem?_eq_some_iff.1 a).1
  rwa [ax] at this
 rw[cf_at 6 _ o g] at a;have c:=h o _ (cf_at 6 f o g);have d:=h k _ (cf_at 6 f k hk);rw[aC] at c d ⊢;by_cases e:o=k
 ·subst e;rw[←a];unfold upd;rw[ag rfl];exact cZ _ _ _ d
 ·rw[←a,aI _ _ _ _ (by intro e2;cases e2;exact e rfl),c];unfold upd;rw[ae e]
set_option maxRecDepth 100000
set_option maxHeartbeats 16000000
theorem copyT_ref (wb:Nat) (tag:Nat→Nat) (V:Nat→Value) (p:PW) (i j r g a:Nat) (s:Nat→Int) (w:World) (bt:BoxT w wb tag V p) (hp:p.Fits) (hl:∀l∈p.tlbs,l.length≤100) (ah:p.slots.length=p.kinds.length*16)
  (hb:boE p i j=0) (hi:i<p.slots.length) (hj:j<p.slots.length) (hs:p.slots[i]=s) (h0:s 0≠1) (hr:r≤7) (hg:g≤65535) (ab:g=0∨(0<g∧(s 0=7∨s 0=8)∧s 5=0)) (h4:s 4=a) (ha:a≤7):
  Calls Tryz.prog 13 #[.pointer (some ⟨wb,0,none⟩),.int .i64 i,.int .i64 j,.int .i64 r,.int .i64 g] w fun x w'=>x=.returned (.int .i64 0)∧BoxT w' wb tag V {p with slots:=p.slots.set j (kpS s (Bw.bw 6 a r:Nat) g i)}∧Kt tag tag w w':=by
 have BT:=hid bt;have U:=hid (both_ref wb V p i j w (bt.view hp hl) ah);rw[hb] at U;obtain⟨z,am,e2⟩:=bt.o.slots.form (by show 0<p.slots.length;omega);have c2:w.cell? ⟨wb,2,none⟩=some (V 2):=af bt.r rfl;rw[e2] at c2;have C2:=hid (fun W (h:Below w.heap.size w W)=>cupx h c2);have RI:=hid (show w.rangeAt z (i*7) (cf 6 s) from six_of (fun k v hv=>by
  have hk:k<7:=by have:=(List.getElem?_eq_some_iff.1 hv).1;rw[ax] at this;exact this
  have:=BT.slotsAt e2 hi hk;rw[hs] at this;rw[this, ←hv,cf_at 7 _ k hk]))
 have ao:(p.slots.length:Int)≤1000:=by have:=hp.slots;omega
 have al:(i:Int)<(p.slots.length:Int):=by omega
 have ac:(j:Int)<(p.slots.length:Int):=by omega
 have E2:=hid e2;have n0:(s 0==1)=false:=by simpa using h0
 have B:=hid (fun W:World=>Cpu.bitwise_any 6 (.inl rfl) a r (by omega) (by omega) W);have I:=hid (fun W:World=>show Calls Tryz.prog 33 #[.int .i64 r,.int .i64 7] W fun e w'=>e=.returned (.bool false)∧W=w' from (Isa.far_any r 7 W).mono fun e w' ⟨O,h2⟩=>⟨by rw[O,show decide ((r:Int)<0∨7<(r:Int))=false from ay (by omega)],h2⟩);have J:=hid (fun W:World=>show Calls Tryz.prog 33 #[.int .i64 g,.int .i64 65535] W fun e w'=>e=.returned (.bool false)∧W=w' from (Isa.far_any g 65535 W).mono fun e w' ⟨O,h2⟩=>⟨by rw[O,show decide ((g:Int)<0∨65535<(g:Int))=false from ay (by omega)],h2⟩);have Q:=hid (bal (aj w.heap.size w) (.cells #[.int .i64 0,.int .i64 0,.int .i64 0,.int .i64 0,.int .i64 0,.int .i64 0] 78));have L:=hid (aM w #[.int .i64 0,.int .i64 0,.int .i64 0,.int .i64 0,.int .i64 0,.int .i64 0] 78 w.heap.size 6 rfl (by decide));have KX:=hid (show Kp (fun k=>k=w.heap.size) (w.alloc (.cells #[.int .i64 0,.int .i64 0,.int .i64 0,.int .i64 0,.int .i64 0,.int .i64 0] 78)) ((w.alloc (.cells #[.int .i64 0,.int .i64 0,.int .i64 0,.int .i64 0,.int .i64 0,.int .i64 0] 78)).setCells w.heap.size 0 (cf 6 s)) from aG (T:=fun k=>k=w.heap.size) (.inl rfl) _ _ _ (aR _ _));have t:=hid (KX.below Q Q.size (fun k hk e=>by omega));have m:=hid (World.rangeAt_setCells_same _ w.heap.size 0 (cf 6 s) (by rw[ax];exact L));have y:=hid (World.there_setCells L w.heap.size 0 (cf 6 s));have HG:=hid ab;have H4:=hid h4;clear hb hs h0 ab bt e2 h4 ah;go_enter Tryz.func13,Tryz.ntmps13
 go_wp2_with fail
 refine U.mono ?_;rintro q w1 ⟨rfl,rfl⟩;go_upto_region 5 with (first|((with_reducible refine gld 78 ?_);refine wp_ldK rfl _ rfl z (i*7) rfl (cf 6 s) (ax _ _) RI ?_)|((with_reducible refine gst 78 ?_);refine wp_stK rfl _ _ rfl w.heap.size 0 rfl (cf 6 s) rfl (ax _ _) (bK _ _) L ?_))
 clear KX L Q RI c2 U;generalize World.setCells _ _ _ _=M at t m y ⊢;generalize ad:w.heap.size=d at m y ⊢;have C:=hid ad;clear ad;have P:=hid (rfl:((Bw.bw 6 a r:Nat):Int)=((Bw.bw 6 a r:Nat):Int));obtain⟨a4,Z⟩:∃a4:Int,((Bw.bw 6 a r:Nat):Int)=a4:=⟨_,rfl⟩
 clear P;have P:=hid Z;rw[Z] at B;clear Z;have A:=ey m (cf_at 6 _ 0 (by omega));have r4:=ey m (cf_at 6 _ 4 (by omega));have G:=ey m (cf_at 6 _ 5 (by omega));rw[aC] at A r4 G;rw[H4.out] at r4;have f4:=(y.out 4 (by omega)).2;have N:=(y.out 5 (by omega)).2;rw[aC] at f4 N;rcases HG.out with aa|⟨gp,ai,h5⟩
 (focus
  have E:decide ((0:Int)<(g:Int))=false:=ay (by omega);have F:decide (0<g)=false:=ay (by omega);have n:=hid (show (M.setCell ⟨d,4,none⟩ (.int .i64 a4)).rangeAt d 0 (cf 6 (kpK s a4 g)) from by rw[aa];exact range_put m (k:=4) (by omega) a4);have u:=hid (bset t (b:=d) (o:=4) (Nat.le_of_eq C) (.int .i64 a4));clear aa;go_wp2_with fail
  refine (I.out _).mono ?_;rintro q w2 ⟨rfl,rfl⟩;go_wp2_with fail
  refine (J.out _).mono ?_;rintro q w2 ⟨rfl,rfl⟩;go_wp2_with fail
  refine (B.out _).mono ?_;rintro q w2 ⟨rfl,rfl⟩;go_upto_region 14 with fail
  clear E F A r4 G f4 N m y t n0;generalize M.setCell ⟨d,4,none⟩ (.int .i64 a4)=c at n u ⊢)
 rotate_left
 rw[h5] at G;clear h5;rcases ai with h7|h7
 (focus
  rw[h7] at A;have E:decide ((0:Int)<(g:Int))=true:=aF (by omega);have F:decide (0<g)=true:=aF gp;have n:=hid (show ((M.setCell ⟨d,5,none⟩ (.int .i64 g)).setCell ⟨d,4,none⟩ (.int .i64 a4)).rangeAt d 0 (cf 6 (kpK s a4 g)) from by
   rw[show cf 6 (kpK s a4 g)=cf 6 (upd (upd s 5 g) 4 a4) from cf_congr (fun k hk=>by
    unfold kpK upd;by_cases e4:k=4
    ·rw[ag e4,ag e4]
    ·rw[ae e4,ae e4];by_cases e5:k=5
     ·rw[ag e5,ag e5,ae (by omega)]
     ·rw[ae e5,ae e5])]
   exact range_put (range_put m (k:=5) (by omega) g) (k:=4) (by omega) a4)
  have u:=hid (bset (bset t (b:=d) (o:=5) (Nat.le_of_eq C) (.int .i64 g)) (b:=d) (o:=4) (Nat.le_of_eq C) (.int .i64 a4));clear n0 gp;go_wp2_with fail
  refine (I.out _).mono ?_;rintro q w2 ⟨rfl,rfl⟩;go_wp2_with fail
  refine (J.out _).mono ?_;rintro q w2 ⟨rfl,rfl⟩;go_wp2_with fail
  refine (B.out _).mono ?_;rintro q w2 ⟨rfl,rfl⟩;go_upto_region 14 with fail
  clear E F A r4 G f4 N m y t;generalize World.setCell _ _ _=c at n u ⊢)
 rotate_left
 (focus
  rw[h7] at A;have E:decide ((0:Int)<(g:Int))=true:=aF (by omega);have F:decide (0<g)=true:=aF gp;have n:=hid (show ((M.setCell ⟨d,5,none⟩ (.int .i64 g)).setCell ⟨d,4,none⟩ (.int .i64 a4)).rangeAt d 0 (cf 6 (kpK s a4 g)) from by
   rw[show cf 6 (kpK s a4 g)=cf 6 (upd (upd s 5 g) 4 a4) from cf_congr (fun k hk=>by
    unfold kpK upd;by_cases e4:k=4
    ·rw[ag e4,ag e4]
    ·rw[ae e4,ae e4];by_cases e5:k=5
     ·rw[ag e5,ag e5,ae (by omega)]
     ·rw[ae e5,ae e5])]
   exact range_put (range_put m (k:=5) (by omega) g) (k:=4) (by omega) a4)
  have u:=hid (bset (bset t (b:=d) (o:=5) (Nat.le_of_eq C) (.int .i64 g)) (b:=d) (o:=4) (Nat.le_of_eq C) (.int .i64 a4));clear n0 gp;go_wp2_with fail
  refine (I.out _).mono ?_;rintro q w2 ⟨rfl,rfl⟩;go_wp2_with fail
  refine (J.out _).mono ?_;rintro q w2 ⟨rfl,rfl⟩;go_wp2_with fail
  refine (B.out _).mono ?_;rintro q w2 ⟨rfl,rfl⟩;go_upto_region 14 with fail
  clear E F A r4 G f4 N m y t;generalize World.setCell _ _ _=c at n u ⊢)
 rotate_left
 rotate_left
 all_goals
  have an:(j:Int)<(p.slots.length:Int):=ac;clear ac al B I J HG H4;have H:Hid (Below c.heap.size c c.drew):=hid (aA c 1);have B5:=hid (btr u H);have S:=hid (BT.below B5);have X:=S.o.slots;rw[E2.out] at X;have TH:=hid (X.there (j*7) 7 (by show j*7+7≤p.slots.length*7;omega));have D:=hid (S.slotsRow E2 hj (kpS s a4 g i));rw[show cf 7 (kpS s a4 g i)=[.int .i64 (kpK s a4 g 0),.int .i64 (kpK s a4 g 1),.int .i64 (kpK s a4 g 2),.int .i64 (kpK s a4 g 3),.int .i64 (kpK s a4 g 4),.int .i64 (kpK s a4 g 5),.int .i64 i] from rfl] at D;rw[show cf 6 (kpK s a4 g)=[.int .i64 (kpK s a4 g 0),.int .i64 (kpK s a4 g 1),.int .i64 (kpK s a4 g 2),.int .i64 (kpK s a4 g 3),.int .i64 (kpK s a4 g 4),.int .i64 (kpK s a4 g 5)] from rfl] at n;generalize kpK s a4 g=f at n D;have RK:=hid (fun W (h:Below c.heap.size c W)=>d9 n h);have BK:=hid (fun W (h:Below c.heap.size c W)=>C2.out W (btr u h));clear X;refine aX (R:=fun W=>Below c.heap.size c W) [9] [0,1,2,3,4,5,6,7] 2 (by kernel_rfl) H (by kernel_rfl) (by kernel_rfl) (by kernel_rfl) (fun _=>?_)
  iterate 5 (refine aJ rfl (by rfl) (fun _ _ _ _ h=>h) ?_;apply Exists.intro;refine⟨fun W h=>?_,?_⟩;(focus (have O:=BK.out _ h;clear h;go_simp;try rfl));simp only[jj])
  refine Rf.rd_y rfl (.agg #[.int .i64 (f 0),.int .i64 (f 1),.int .i64 (f 2),.int .i64 (f 3),.int .i64 (f 4),.int .i64 (f 5)]) (yieldsIf_load_mid (by rfl) _ _ rfl _ _ rfl ([.int .i64 (f 0),.int .i64 (f 1),.int .i64 (f 2),.int .i64 (f 3),.int .i64 (f 4),.int .i64 (f 5)]) _ (fun _ h=>RK.out _ h) Tryz.underlying78 rfl (by rw[info6k];rfl)) (fun _ _ _ h=>h) ?_;simp only[jj]
  iterate 2 (refine aJ rfl (by rfl) (fun _ _ _ _ h=>h) ?_;apply Exists.intro;refine⟨fun W h=>?_,?_⟩;(focus (clear h;go_simp;try rfl));simp only[jj])
  refine aE ?_;refine aZ (R:=fun W=>Below c.heap.size c W) (by kernel_rfl) _ H [8] 1 _ _ (by kernel_rfl) ?_
  repeat (refine aJ rfl (by rfl) (fun _ _ _ _ h=>h) ?_;apply Exists.intro;refine⟨fun W h=>?_,?_⟩;(focus (clear h;go_simp;try rfl));simp only[jj])
  refine aE ?_;clear RK BK H;generalize c.drew=w5 at*;refine Rf.r1 9 rfl (fun K hK=>?_);refine wnt (by rfl) ?_;simp only[cK,bk,aV];refine wp_store_mid 80 _ _ rfl z (j*7) #[.int .i64 (f 0),.int .i64 (f 1),.int .i64 (f 2),.int .i64 (f 3),.int .i64 (f 4),.int .i64 (f 5),.int .i64 i] rfl rfl TH info7s (by simp[Value.oneCell']) ?_;refine hK _ _ trivial (bF (by kernel_rfl)) (fun _ _=>?_);clear hK K
  try simp only[jj]
  refine aL (by kernel_rfl) ?_ _;have Y:=hid (show BoxT (w5.setCells z (j*7) [.int .i64 (f 0),.int .i64 (f 1),.int .i64 (f 2),.int .i64 (f 3),.int .i64 (f 4),.int .i64 (f 5),.int .i64 i]) wb tag V {p with slots:=p.slots.set j (kpS s a4 g i)}∧Kt tag tag w (w5.setCells z (j*7) [.int .i64 (f 0),.int .i64 (f 1),.int .i64 (f 2),.int .i64 (f 3),.int .i64 (f 4),.int .i64 (f 5),.int .i64 i]) from⟨D.1,(aW B5).trans D.2⟩);clear D TH S;generalize w5.setCells z (j*7) [.int .i64 (f 0),.int .i64 (f 1),.int .i64 (f 2),.int .i64 (f 3),.int .i64 (f 4),.int .i64 (f 5),.int .i64 i]=W9 at Y ⊢;go_wp2_with fail
  go_ret
  exact⟨rfl,by rw[P.out];exact Y.1,Y.2⟩
end Go.Proofs.YtaejnmmpddbbjaaGreatDoor.Wd
