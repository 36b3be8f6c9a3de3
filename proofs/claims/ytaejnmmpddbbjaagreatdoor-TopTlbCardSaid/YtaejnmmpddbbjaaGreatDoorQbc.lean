/- Qbc -/
import Derived.BigGuard
import Derived.BigQuiet
import Derived.Test.YtaejnmmpddbbjaaGreatDoorQbb
set_option maxRecDepth 100000
set_option maxHeartbeats 16000000
namespace Go.Proofs.YtaejnmmpddbbjaaGreatDoor
namespace Wd
open Go.RowKit Mem Bw Nums Mmu Hex
def eqK (k:Nat):Int:=[0,5,4,7].getD k 0
def eqP (p:PW) (t:Nat) (N:Nat->Int):PW:=(((((p.task t 11 (N 1)).task t 12 (N 2)).task t 13 (N 3)).task t 18 (N 4)).task t 10 (N 5)).task t 19 (N 6)
theorem yK {W:World} {k:Nat} (hk:k<4):(W.alloc (.cells #[.int .i64 0,.int .i64 5,.int .i64 4,.int .i64 7] 3)).cell? ⟨W.heap.size,k,none⟩=some (.int .i64 (eqK k)):=by
 rw[cD]
 match k,hk with
 |0,_=>rfl
 |1,_=>rfl
 |2,_=>rfl
 |3,_=>rfl
 |_+4,h=>omega
theorem cb.Eu {W:World} {wb:Nat} {tag:Nat->Nat} {V:Nat->Value} {p:PW} (h:cb W wb tag V p) {g cap n:Nat} (a:p.DY.length=n) (e:V 3=.slice (some ⟨g,0,none⟩) n cap) {i k:Nat} (hi:i<n) (hk:k<20) (x:Int):
  cb (W.setCell ⟨g,i*20+k,none⟩ (.int .i64 x)) wb tag V (p.task i k x)∧Kt tag tag W (W.setCell ⟨g,i*20+k,none⟩ (.int .i64 x))∧(∃v,W.cell? ⟨g,i*20+k,none⟩=some v)∧W.frozen? ⟨g,i*20+k,none⟩=false∧(p.task i k x).DY.length=n:=by
 subst a;have:=h.Ei e hi hk x;have e2:p.DY.getD i bl=p.DY[i]:=by rw[aa,ac hi];rfl
 refine⟨?_,this.2,⟨_,h.Er e hi hk⟩,h.Ef e _,am p i k x⟩;unfold PW.task;rw[e2];exact this.1
theorem m3 (wb:Nat) (tag:Nat->Nat) (V:Nat->Value) (p:PW) (ga ca t:Nat) (N:Nat->Int) (w:World) (bt:cb w wb tag V p) (Z:p.Fits) (hl:∀l∈p.D9,l.length<=100) (Q:fu w ga 0 [(t:Int),N 1,N 2,N 3,N 4,N 5,N 6]) (T:tag ga=0)
  (h0:fmE p t 6=0) (S:t<p.DY.length) (hk:∀k,1<=k->k<4->N k≠ -1->fmE p (N k) (eqK k)=0) (h4:0<=N 4) (aW:N 4<p.D6.length) (h5:0<=N 5) (aX:N 5<=3) (h6:0<=N 6) (aY:N 6<=3) (aR:p.DY[t] 9=0):
  Calls Tryz.prog 129 #[.pointer (some ⟨wb,0,none⟩),.slice (some ⟨ga,0,none⟩) 7 ca] w fun r w'=>r=.returned (.int .i64 0)∧cb w' wb tag V (eqP p t N)∧Kt tag tag w w':=by
 have Y:=hid bt;have a0:=Q 0 oS;have a1:=Q 1 oS;have a2:=Q 2 oS;have a3:=Q 3 oS;have a4:=Q 4 oS;have a5:=Q 5 oS;have a6:=Q 6 oS;rw[az] at a0 a1 a2 a3 a4 a5 a6;simp only[aS,bc] at a0 a1 a2 a3 a4 a5 a6;have J:=hid (fun W (h:Kt tag tag w W)=>(⟨h.cell a0 T,h.cell a1 T,h.cell a2 T,h.cell a3 T,h.cell a4 T,h.cell a5 T,h.cell a6 T⟩:_∧_∧_∧_∧_∧_∧_));have KN:=hid (fun W (h:Below w.heap.size w W) k (P:1<=k) (hk:k<4)=>show W.cell? ⟨ga,k,none⟩=some (.int .i64 (N k)) from by
  have aP:k=1∨k=2∨k=3:=oA;rcases aP with rfl|rfl|rfl
  ·exact gA h a1
  ·exact gA h a2
  ·exact gA h a3)
 have c6:=r11 6 bt.r;obtain⟨q6,b6,o6,k6,e6,bb,bk⟩:=(bt.view Z hl).v.D6;obtain⟨m,z,e3⟩:=bt.o.DY.form (by show 0<p.DY.length;omega);rw[e6] at c6;have a7:(p.D6.length:Int)<=1000:=by have:=Z.D6;omega
 have bh:(p.DY.length:Int)<=1000:=by have:=Z.DY;omega
 have C6:=hid (fun W (h:Below w.heap.size w W)=>gA h c6);have aI:=hid (fun W (h:Below w.heap.size w W)=>show Calls Tryz.prog 169 #[.pointer (some ⟨wb,0,none⟩),.int .i64 t,.int .i64 6] W fun r w'=>r=.returned (.int .i64 0)∧W=w' from by have:=gT wb V p t 6 W ((Y.below h).view Z hl);rw[h0] at this;exact this);have aJ:=hid (fun W (h:Below w.heap.size w W) k (P:1<=k) (aD:k<4) (aQ:N k≠ -1)=>show Calls Tryz.prog 169 #[.pointer (some ⟨wb,0,none⟩),.int .i64 (N k),.int .i64 (eqK k)] W fun r w'=>r=.returned (.int .i64 0)∧W=w' from by have:=gT wb V p (N k) (eqK k) W ((Y.below h).view Z hl);rw[hk k P aD aQ] at this;exact this);have am:=hid (fun W:World=>show Calls Tryz.prog 33 #[.int .i64 (N 5),.int .i64 3] W fun e w'=>e=.returned (.bool false)∧w'=W from (Isa.eI (N 5) 3 W).mono fun e w' ⟨P,h2⟩=>⟨by rw[P,show decide (N 5<0∨3<N 5)=false from ax oA],h2.symm⟩);have an:=hid (fun W:World=>show Calls Tryz.prog 33 #[.int .i64 (N 6),.int .i64 3] W fun e w'=>e=.returned (.bool false)∧w'=W from (Isa.eI (N 6) 3 W).mono fun e w' ⟨P,h2⟩=>⟨by rw[P,show decide (N 6<0∨3<N 6)=false from ax oA],h2.symm⟩);have c9:∀W,Below w.heap.size w W->W.cell? ⟨m,t*20+9,none⟩=some (.int .i64 0):=fun W h=>by have:=(Y.below h).Er e3 S (k:=9) oA;rw[aR] at this;exact this
 have C9:=hid c9;have U:=hid e3;have T3:=hid (fun W (h:cb W wb tag V p)=>True.intro);have x:=hid (fun W q (h:cb W wb tag V q)=>show W.cell? ⟨wb,3,none⟩=some (.slice (some ⟨m,0,none⟩) p.DY.length z) from by have:=ah h.r (k:=3) rfl;rw[e3] at this;exact this);have aT:=hid h4;have g4:decide (N 4<0)=false:=ax oA;have aN:decide ((p.D6.length:Int)<=N 4)=false:=ax oA;have bg:(t:Int)<(p.DY.length:Int):=oA;have C:=a0;go_enter Tryz.func129,Tryz.ntmps129
 go_wp2_with fail
 refine (aI.out w (ai _ _)).mono ?_;rintro r w1 ⟨rfl,rfl⟩;go_wp2_with fail
 go_loopw [5,6] (fun e i wr=>∃(k:Nat),1<=k∧k<=4∧e=.int .i64 0∧i=.int .i64 (k:Int)∧Hid (Below w.heap.size w wr)) (fun _ i _=>4 - (intOf i).toNat)
 case atStart=>exact⟨1,oA,oA,rfl,rfl,hid (ai _ _)⟩
 case round=>
  obtain⟨k,ab,aD,rfl,rfl,M⟩:=hrel;by_cases aa:k<4
  ·have a9:(k:Int)<4:=oA;have ba:(k:Int)<7:=oA;have a8:(0:Int)<=(k:Int):=oA;have xk:=KN.out _ M k ab aa;by_cases hm:N k= -1
   ·rw[hm] at xk;go_wp2_with fail
    exact⟨⟨k+1,oA,oA,rfl,by go_num,M⟩,by simp[intOf];omega⟩
   have aE:(N k != -1)=true:=by simpa using hm
   have HC:=hid (fun W (h:Below w.heap.size w W)=>aJ.out W h k ab aa hm);have KX:=hid (fun W (h:Below w.heap.size w W)=>KN.out W h k ab aa);have FA:=hid (fun W:World=>yK (W:=W) aa);generalize N k=y at xk aE HC KX;generalize eqK k=kk at HC FA;go_upto_region 6 with fail
   have d:Hid (Below wr.heap.size wr wr.drew):=hid (aC wr 1);have B4:=hid (btr M d);clear xk aE;refine bj (R:=fun W=>Below w.heap.size w W) [10] [0,1,2,3,4] 6 oK B4 oK oK oK (fun _=>?_)
   repeat (refine Rf.rs ?_ rfl oR (fun W h=>by have P:=KX.out _ h;clear h;go_simp;try rfl);simp only[jj])
   refine aG ?_;generalize wr.drew=s at*;refine bC (R:=fun W=>Below w.heap.size w W) oK _ B4 [6] 5 _ _ oK ?_
   repeat (refine Rf.rs ?_;simp only[jj])
   refine aG ?_;have L:=hid (bal B4 (.cells #[.int .i64 0,.int .i64 5,.int .i64 4,.int .i64 7] 3));have X5:=FA.out s;refine Rf.r1 5 rfl (fun K f=>?_);refine wnt oR ?_;go_simp
   refine f _ (s.alloc (.cells #[.int .i64 0,.int .i64 5,.int .i64 4,.int .i64 7] 3)) trivial (fun _=>L.out) (fun _ _=>?_)
   try simp only[jj]
   generalize s.alloc _=w6 at L X5 ⊢;generalize s.heap.size=nb at X5 ⊢;refine bC (R:=fun W=>Below w.heap.size w W) oK _ L [7] 3 _ _ oK ?_
   repeat (refine Rf.rs ?_;simp only[jj])
   refine aG ?_;refine Rf.r1 8 rfl (fun K f=>?_);refine wnt oR ?_;go_simp
   refine f _ _ trivial (fun _=>L.out) (fun _ _=>?_)
   try simp only[jj]
   refine Rf.r1 9 rfl (fun K f=>?_);refine wnt oR ?_;go_simp
   refine (HC.out _ L).mono ?_;rintro r w7 ⟨rfl,rfl⟩;go_wp2_with fail
   refine f _ _ trivial (fun _=>L.out) (fun _ _=>?_)
   try simp only[jj]
   refine Rf.r1 10 rfl (fun K f=>?_);refine wnt oR ?_;go_simp
   refine f _ _ trivial (bK oK) (fun _ _=>?_)
   try simp only[jj]
   refine aO oK ?_ _;go_wp2_with fail
   exact⟨⟨k+1,oA,oA,rfl,by go_num,L⟩,by simp[intOf];omega⟩
  obtain rfl:k=4:=oA;have K0:=hid (bf (tag:=tag) M);obtain⟨C,D,E,F,G,H,I⟩:=J.out _ K0;have c6:=C6.out _ M;go_upto_region 9 with fail
  refine aZ oK oK ?_
  repeat (first|go_big_quiet_skip|(go_big_quiet_want;go_big_quiet_op;first|go_big_quiet_on|go_big_quiet_call (first|((with_reducible (show Calls _ 33 #[.int .i64 (N 5),_] _ _));refine dM (am.out _))|((with_reducible (show Calls _ 33 #[.int .i64 (N 6),_] _ _));refine dM (an.out _)))))
  refine cy ?_;intro _ ac;obtain⟨nq,ad⟩:=ac;subst ad;have X:=hid (aV M nq);clear K0 C D E F G H I c6 M am an g4 aN;generalize wr.drewN nq=w1 at*;have K1:=hid (bf (tag:=tag) X);obtain⟨C,D,E,F,G,H,I⟩:=J.out _ K1;have c9:=C9.out _ X;have O:=x.out _ _ (Y.below X);go_upto_region 11 with fail
  refine aZ oK oK ?_
  repeat (first|go_big_quiet_skip|(go_big_quiet_want;go_big_quiet_op;first|go_big_quiet_on|go_big_quiet_call (fail)))
  refine cy ?_;intro _ ac;obtain⟨nq,ad⟩:=ac;subst ad;have B2:=hid (aV X nq);clear K1 C D E F G H I c9 O X;generalize w1.drewN nq=w2 at*;have ae:=hid (Y.below B2);have ao:=hid (bf (tag:=tag) B2);have av:=hid (show p.DY.length=p.DY.length from rfl);have d:Hid (Below w2.heap.size w2 w2.drew):=hid (aC w2 1);have b:=hid (ae.below d);have c:=hid (ao.trans (bf (tag:=tag) d));have a:=hid (b.Eu av U S (k:=11) oA (N 1));go_upto_region 13 with fail
  refine bj (R:=fun W=>Kt tag tag w W∧W.cell? ⟨wb,3,none⟩=some (.slice (some ⟨m,0,none⟩) p.DY.length z)) [12] [0,1,2,3,4,5,6,7,8,9] 3 oK ⟨c.out,x.out _ _ b⟩ oK oK oK (fun _=>?_)
  repeat (refine Rf.rs ?_ rfl oR (fun W h=>by obtain⟨C,D,E,F,G,H,I⟩:=J.out _ h.1;have O:=h.2;clear h;go_simp;try rfl);simp only[jj])
  refine aG ?_;refine bC (R:=fun W=>Kt tag tag w W∧W.cell? ⟨wb,3,none⟩=some (.slice (some ⟨m,0,none⟩) p.DY.length z)) oK _ ⟨c.out,x.out _ _ b⟩ [10,11] 1 _ _ oK ?_
  repeat (refine Rf.rs ?_;simp only[jj])
  refine aG ?_;obtain⟨u,B⟩:=a.2.2.1;have A:=a.2.2.2.1;have g:=hid a.1;have j:=hid (c.trans a.2.1);have n:=hid a.2.2.2.2;clear a b c ae ao av d;generalize w2.drew=s at*;refine Rf.r1 12 rfl (fun K f=>?_);refine wnt oR ?_;go_simp
  refine f _ _ trivial (bK oK) (fun _ _=>?_);clear f K B A u
  try simp only[jj]
  refine aO oK ?_ _;generalize s.setCell ⟨m,t*20+11,none⟩ _=y1 at g j ⊢;have af:=g;have ap:=j;have aw:=n;clear g j n;have d:Hid (Below y1.heap.size y1 y1.drew):=hid (aC y1 1);have b:=hid (af.below d);have c:=hid (ap.trans (bf (tag:=tag) d));have a:=hid (b.Eu aw U S (k:=12) oA (N 2));go_upto_region 14 with fail
  refine bj (R:=fun W=>Kt tag tag w W∧W.cell? ⟨wb,3,none⟩=some (.slice (some ⟨m,0,none⟩) p.DY.length z)) [12] [0,1,2,3,4,5,6,7,8,9] 3 oK ⟨c.out,x.out _ _ b⟩ oK oK oK (fun _=>?_)
  repeat (refine Rf.rs ?_ rfl oR (fun W h=>by obtain⟨C,D,E,F,G,H,I⟩:=J.out _ h.1;have O:=h.2;clear h;go_simp;try rfl);simp only[jj])
  refine aG ?_;refine bC (R:=fun W=>Kt tag tag w W∧W.cell? ⟨wb,3,none⟩=some (.slice (some ⟨m,0,none⟩) p.DY.length z)) oK _ ⟨c.out,x.out _ _ b⟩ [10,11] 1 _ _ oK ?_
  repeat (refine Rf.rs ?_;simp only[jj])
  refine aG ?_;obtain⟨u,B⟩:=a.2.2.1;have A:=a.2.2.2.1;have g:=hid a.1;have j:=hid (c.trans a.2.1);have n:=hid a.2.2.2.2;clear a b c af ap aw d;generalize y1.drew=s at*;refine Rf.r1 12 rfl (fun K f=>?_);refine wnt oR ?_;go_simp
  refine f _ _ trivial (bK oK) (fun _ _=>?_);clear f K B A u
  try simp only[jj]
  refine aO oK ?_ _;generalize s.setCell ⟨m,t*20+12,none⟩ _=y2 at g j ⊢;have ag:=g;have aq:=j;have ay:=n;clear g j n;have d:Hid (Below y2.heap.size y2 y2.drew):=hid (aC y2 1);have b:=hid (ag.below d);have c:=hid (aq.trans (bf (tag:=tag) d));have a:=hid (b.Eu ay U S (k:=13) oA (N 3));go_upto_region 15 with fail
  refine bj (R:=fun W=>Kt tag tag w W∧W.cell? ⟨wb,3,none⟩=some (.slice (some ⟨m,0,none⟩) p.DY.length z)) [12] [0,1,2,3,4,5,6,7,8,9] 3 oK ⟨c.out,x.out _ _ b⟩ oK oK oK (fun _=>?_)
  repeat (refine Rf.rs ?_ rfl oR (fun W h=>by obtain⟨C,D,E,F,G,H,I⟩:=J.out _ h.1;have O:=h.2;clear h;go_simp;try rfl);simp only[jj])
  refine aG ?_;refine bC (R:=fun W=>Kt tag tag w W∧W.cell? ⟨wb,3,none⟩=some (.slice (some ⟨m,0,none⟩) p.DY.length z)) oK _ ⟨c.out,x.out _ _ b⟩ [10,11] 1 _ _ oK ?_
  repeat (refine Rf.rs ?_;simp only[jj])
  refine aG ?_;obtain⟨u,B⟩:=a.2.2.1;have A:=a.2.2.2.1;have g:=hid a.1;have j:=hid (c.trans a.2.1);have n:=hid a.2.2.2.2;clear a b c ag aq ay d;generalize y2.drew=s at*;refine Rf.r1 12 rfl (fun K f=>?_);refine wnt oR ?_;go_simp
  refine f _ _ trivial (bK oK) (fun _ _=>?_);clear f K B A u
  try simp only[jj]
  refine aO oK ?_ _;generalize s.setCell ⟨m,t*20+13,none⟩ _=y3 at g j ⊢;have aj:=g;have ar:=j;have aA:=n;clear g j n;have d:Hid (Below y3.heap.size y3 y3.drew):=hid (aC y3 1);have b:=hid (aj.below d);have c:=hid (ar.trans (bf (tag:=tag) d));have a:=hid (b.Eu aA U S (k:=18) oA (N 4));go_upto_region 16 with fail
  refine bj (R:=fun W=>Kt tag tag w W∧W.cell? ⟨wb,3,none⟩=some (.slice (some ⟨m,0,none⟩) p.DY.length z)) [12] [0,1,2,3,4,5,6,7,8,9] 3 oK ⟨c.out,x.out _ _ b⟩ oK oK oK (fun _=>?_)
  repeat (refine Rf.rs ?_ rfl oR (fun W h=>by obtain⟨C,D,E,F,G,H,I⟩:=J.out _ h.1;have O:=h.2;clear h;go_simp;try rfl);simp only[jj])
  refine aG ?_;refine bC (R:=fun W=>Kt tag tag w W∧W.cell? ⟨wb,3,none⟩=some (.slice (some ⟨m,0,none⟩) p.DY.length z)) oK _ ⟨c.out,x.out _ _ b⟩ [10,11] 1 _ _ oK ?_
  repeat (refine Rf.rs ?_;simp only[jj])
  refine aG ?_;obtain⟨u,B⟩:=a.2.2.1;have A:=a.2.2.2.1;have g:=hid a.1;have j:=hid (c.trans a.2.1);have n:=hid a.2.2.2.2;clear a b c aj ar aA d;generalize y3.drew=s at*;refine Rf.r1 12 rfl (fun K f=>?_);refine wnt oR ?_;go_simp
  refine f _ _ trivial (bK oK) (fun _ _=>?_);clear f K B A u
  try simp only[jj]
  refine aO oK ?_ _;generalize s.setCell ⟨m,t*20+18,none⟩ _=y4 at g j ⊢;have al:=g;have au:=j;have aB:=n;clear g j n;have d:Hid (Below y4.heap.size y4 y4.drew):=hid (aC y4 1);have b:=hid (al.below d);have c:=hid (au.trans (bf (tag:=tag) d));have a:=hid (b.Eu aB U S (k:=10) oA (N 5));go_upto_region 17 with fail
  refine bj (R:=fun W=>Kt tag tag w W∧W.cell? ⟨wb,3,none⟩=some (.slice (some ⟨m,0,none⟩) p.DY.length z)) [12] [0,1,2,3,4,5,6,7,8,9] 3 oK ⟨c.out,x.out _ _ b⟩ oK oK oK (fun _=>?_)
  repeat (refine Rf.rs ?_ rfl oR (fun W h=>by obtain⟨C,D,E,F,G,H,I⟩:=J.out _ h.1;have O:=h.2;clear h;go_simp;try rfl);simp only[jj])
  refine aG ?_;refine bC (R:=fun W=>Kt tag tag w W∧W.cell? ⟨wb,3,none⟩=some (.slice (some ⟨m,0,none⟩) p.DY.length z)) oK _ ⟨c.out,x.out _ _ b⟩ [10,11] 1 _ _ oK ?_
  repeat (refine Rf.rs ?_;simp only[jj])
  refine aG ?_;obtain⟨u,B⟩:=a.2.2.1;have A:=a.2.2.2.1;have g:=hid a.1;have j:=hid (c.trans a.2.1);have n:=hid a.2.2.2.2;clear a b c al au aB d;generalize y4.drew=s at*;refine Rf.r1 12 rfl (fun K f=>?_);refine wnt oR ?_;go_simp
  refine f _ _ trivial (bK oK) (fun _ _=>?_);clear f K B A u
  try simp only[jj]
  refine aO oK ?_ _;generalize s.setCell ⟨m,t*20+10,none⟩ _=y5 at g j ⊢;have aF:=g;have aK:=j;have aM:=n;clear g j n;have d:Hid (Below y5.heap.size y5 y5.drew):=hid (aC y5 1);have b:=hid (aF.below d);have c:=hid (aK.trans (bf (tag:=tag) d));have a:=hid (b.Eu aM U S (k:=19) oA (N 6));go_upto_region 18 with fail
  refine bj (R:=fun W=>Kt tag tag w W∧W.cell? ⟨wb,3,none⟩=some (.slice (some ⟨m,0,none⟩) p.DY.length z)) [12] [0,1,2,3,4,5,6,7,8,9] 3 oK ⟨c.out,x.out _ _ b⟩ oK oK oK (fun _=>?_)
  repeat (refine Rf.rs ?_ rfl oR (fun W h=>by obtain⟨C,D,E,F,G,H,I⟩:=J.out _ h.1;have O:=h.2;clear h;go_simp;try rfl);simp only[jj])
  refine aG ?_;refine bC (R:=fun W=>Kt tag tag w W∧W.cell? ⟨wb,3,none⟩=some (.slice (some ⟨m,0,none⟩) p.DY.length z)) oK _ ⟨c.out,x.out _ _ b⟩ [10,11] 1 _ _ oK ?_
  repeat (refine Rf.rs ?_;simp only[jj])
  refine aG ?_;obtain⟨u,B⟩:=a.2.2.1;have A:=a.2.2.2.1;have g:=hid a.1;have j:=hid (c.trans a.2.1);have n:=hid a.2.2.2.2;generalize y5.drew=s at*;refine Rf.r1 12 rfl (fun K f=>?_);refine wnt oR ?_;go_simp
  refine f _ _ trivial (bK oK) (fun _ _=>?_)
  try simp only[jj]
  refine aO oK ?_ _;generalize s.setCell ⟨m,t*20+19,none⟩ _=y6 at g j ⊢;have aH:=g;have aL:=j;have aU:=n;go_wp2_with fail
  go_ret
  exact⟨rfl,aH.out,aL.out⟩
def kpK (s:Nat->Int) (a4:Int) (g:Nat) (k:Nat):Int:=if k=4 then a4 else if k=5 then (if g=0 then s 5 else g) else s k
def kpS (s:Nat->Int) (a4:Int) (g i:Nat) (k:Nat):Int:=if k=6 then i else kpK s a4 g k
theorem qy {n:Nat} {f g:Nat->Int} (h:∀k,k<n->f k=g k):cf n f=cf n g:=by
 apply List.ext_getElem?;intro k;by_cases hk:k<n
 ·rw[dp n f k hk,dp n g k hk,h k hk]
 ·rw[aF (by rw[aA];omega),aF (by rw[aA];omega)]
theorem iM {W:World} {b:Nat} {f:Nat->Int} (h:W.rangeAt b 0 (cf 6 f)) {k:Nat} (hk:k<6) (x:Int):(W.setCell ⟨b,k,none⟩ (.int .i64 x)).rangeAt b 0 (cf 6 (upd f k x)):=fun o v a=>by
 have g:o<6:=by
  have:=(List.getElem?_eq_some_iff.1 a).1
  rwa [aA] at this
 rw[dp 6 _ o g] at a;have c:=h o _ (dp 6 f o g);have d:=h k _ (dp 6 f k hk);rw[az] at c d ⊢;by_cases e:o=k
 ·subst e;rw[<-a];unfold upd;rw[af rfl];exact cR _ _ _ d
 ·rw[<-a,aJ _ _ _ _ (by intro e2;cases e2;exact e rfl),c];unfold upd;rw[ae e]
theorem n9 (wb:Nat) (tag:Nat->Nat) (V:Nat->Value) (p:PW) (i j r g a:Nat) (s:Nat->Int) (w:World) (bt:cb w wb tag V p) (hp:p.Fits) (hl:∀l∈p.D9,l.length<=100) (ag:p.DZ.length=p.kinds.length*16)
  (hb:boE p i j=0) (hi:i<p.DZ.length) (hj:j<p.DZ.length) (hs:p.DZ[i]=s) (h0:s 0≠1) (hr:r<=7) (hg:g<=65535) (ab:g=0∨(0<g∧(s 0=7∨s 0=8)∧s 5=0)) (h4:s 4=a) (ha:a<=7):
  Calls Tryz.prog 13 #[.pointer (some ⟨wb,0,none⟩),.int .i64 i,.int .i64 j,.int .i64 r,.int .i64 g] w fun x w'=>x=.returned (.int .i64 0)∧cb w' wb tag V {p with DZ:=p.DZ.set j (kpS s (Bw.bw 6 a r:Nat) g i)}∧Kt tag tag w w':=by
 have BT:=hid bt;have U:=hid (kI wb V p i j w (bt.view hp hl) ag);rw[hb] at U;obtain⟨z,am,e2⟩:=bt.o.DZ.form (by show 0<p.DZ.length;omega);have c2:w.cell? ⟨wb,2,none⟩=some (V 2):=ah bt.r rfl;rw[e2] at c2;have C2:=hid (fun W (h:Below w.heap.size w W)=>gA h c2);have RI:=hid (show w.rangeAt z (i*7) (cf 6 s) from rM (fun k v hv=>by
  have hk:k<7:=by have:=(List.getElem?_eq_some_iff.1 hv).1;rw[aA] at this;exact this
  have:=BT.Em e2 hi hk;rw[hs] at this;rw[this, <-hv,dp 7 _ k hk]))
 have ao:(p.DZ.length:Int)<=1000:=by have:=hp.DZ;omega
 have al:(i:Int)<(p.DZ.length:Int):=oA;have ac:(j:Int)<(p.DZ.length:Int):=oA;have E2:=hid e2;have n0:(s 0==1)=false:=by simpa using h0
 have B:=hid (fun W:World=>Cpu.kO 6 (.inl rfl) a r oA oA W);have I:=hid (fun W:World=>show Calls Tryz.prog 33 #[.int .i64 r,.int .i64 7] W fun e w'=>e=.returned (.bool false)∧W=w' from (Isa.eI r 7 W).mono fun e w' ⟨O,h2⟩=>⟨by rw[O,show decide ((r:Int)<0∨7<(r:Int))=false from ax oA],h2⟩);have J:=hid (fun W:World=>show Calls Tryz.prog 33 #[.int .i64 g,.int .i64 65535] W fun e w'=>e=.returned (.bool false)∧W=w' from (Isa.eI g 65535 W).mono fun e w' ⟨O,h2⟩=>⟨by rw[O,show decide ((g:Int)<0∨65535<(g:Int))=false from ax oA],h2⟩);have Q:=hid (bal (ai w.heap.size w) (.cells zK 78));have L:=hid (aY w zK 78 w.heap.size 6 rfl oD);have KX:=hid (show Kp (fun k=>k=w.heap.size) (w.alloc (.cells zK 78)) ((w.alloc (.cells zK 78)).setCells w.heap.size 0 (cf 6 s)) from aI (T:=fun k=>k=w.heap.size) (.inl rfl) _ _ _ (aP _ _));have t:=hid (KX.below Q Q.size (fun k hk e=>oA));have m:=hid (World.rangeAt_setCells_same _ w.heap.size 0 (cf 6 s) (by rw[aA];exact L));have y:=hid (World.there_setCells L w.heap.size 0 (cf 6 s));have HG:=hid ab;have H4:=hid h4;clear hb hs h0 ab bt e2 h4 ag;go_enter Tryz.func13,Tryz.ntmps13
 go_wp2_with fail
 refine U.mono ?_;rintro q w1 ⟨rfl,rfl⟩;go_upto_region 5 with (first|((with_reducible refine gld 78 ?_);refine rZ rfl _ rfl z (i*7) rfl (cf 6 s) (aA _ _) RI ?_)|((with_reducible refine gst 78 ?_);refine gv rfl _ _ rfl w.heap.size 0 rfl (cf 6 s) rfl (aA _ _) (bR _ _) L ?_))
 clear KX L Q RI c2 U;generalize World.setCells _ _ _ _=M at t m y ⊢;generalize ad:w.heap.size=d at m y ⊢;have C:=hid ad;clear ad;have P:=hid (rfl:((Bw.bw 6 a r:Nat):Int)=((Bw.bw 6 a r:Nat):Int));obtain⟨a4,Z⟩:∃a4:Int,((Bw.bw 6 a r:Nat):Int)=a4:=⟨_,rfl⟩
 clear P;have P:=hid Z;rw[Z] at B;clear Z;have A:=eo m (dp 6 _ 0 oA);have r4:=eo m (dp 6 _ 4 oA);have G:=eo m (dp 6 _ 5 oA);rw[az] at A r4 G;rw[H4.out] at r4;have f4:=(y.out 4 oA).2;have N:=(y.out 5 oA).2;rw[az] at f4 N;rcases HG.out with aa|⟨gp,aj,h5⟩
 (focus
  have E:decide ((0:Int)<(g:Int))=false:=ax oA;have F:decide (0<g)=false:=ax oA;have n:=hid (show (M.setCell ⟨d,4,none⟩ (.int .i64 a4)).rangeAt d 0 (cf 6 (kpK s a4 g)) from by rw[aa];exact iM m (k:=4) oA a4);have u:=hid (gz t (b:=d) (o:=4) (Nat.le_of_eq C) (.int .i64 a4));clear aa;go_wp2_with fail
  refine (I.out _).mono ?_;rintro q w2 ⟨rfl,rfl⟩;go_wp2_with fail
  refine (J.out _).mono ?_;rintro q w2 ⟨rfl,rfl⟩;go_wp2_with fail
  refine (B.out _).mono ?_;rintro q w2 ⟨rfl,rfl⟩;go_upto_region 14 with fail
  clear E F A r4 G f4 N m y t n0;generalize M.setCell ⟨d,4,none⟩ (.int .i64 a4)=c at n u ⊢)
 rotate_left
 rw[h5] at G;clear h5;rcases aj with h7|h7
 (focus
  rw[h7] at A;have E:decide ((0:Int)<(g:Int))=true:=aD oA;have F:decide (0<g)=true:=aD gp;have n:=hid (show ((M.setCell ⟨d,5,none⟩ (.int .i64 g)).setCell ⟨d,4,none⟩ (.int .i64 a4)).rangeAt d 0 (cf 6 (kpK s a4 g)) from by
   rw[show cf 6 (kpK s a4 g)=cf 6 (upd (upd s 5 g) 4 a4) from qy (fun k hk=>by
    unfold kpK upd;by_cases e4:k=4
    ·rw[af e4,af e4]
    ·rw[ae e4,ae e4];by_cases e5:k=5
     ·rw[af e5,af e5,ae oA]
     ·rw[ae e5,ae e5])]
   exact iM (iM m (k:=5) oA g) (k:=4) oA a4)
  have u:=hid (gz (gz t (b:=d) (o:=5) (Nat.le_of_eq C) (.int .i64 g)) (b:=d) (o:=4) (Nat.le_of_eq C) (.int .i64 a4));clear n0 gp;go_wp2_with fail
  refine (I.out _).mono ?_;rintro q w2 ⟨rfl,rfl⟩;go_wp2_with fail
  refine (J.out _).mono ?_;rintro q w2 ⟨rfl,rfl⟩;go_wp2_with fail
  refine (B.out _).mono ?_;rintro q w2 ⟨rfl,rfl⟩;go_upto_region 14 with fail
  clear E F A r4 G f4 N m y t;generalize World.setCell _ _ _=c at n u ⊢)
 rotate_left
 (focus
  rw[h7] at A;have E:decide ((0:Int)<(g:Int))=true:=aD oA;have F:decide (0<g)=true:=aD gp;have n:=hid (show ((M.setCell ⟨d,5,none⟩ (.int .i64 g)).setCell ⟨d,4,none⟩ (.int .i64 a4)).rangeAt d 0 (cf 6 (kpK s a4 g)) from by
   rw[show cf 6 (kpK s a4 g)=cf 6 (upd (upd s 5 g) 4 a4) from qy (fun k hk=>by
    unfold kpK upd;by_cases e4:k=4
    ·rw[af e4,af e4]
    ·rw[ae e4,ae e4];by_cases e5:k=5
     ·rw[af e5,af e5,ae oA]
     ·rw[ae e5,ae e5])]
   exact iM (iM m (k:=5) oA g) (k:=4) oA a4)
  have u:=hid (gz (gz t (b:=d) (o:=5) (Nat.le_of_eq C) (.int .i64 g)) (b:=d) (o:=4) (Nat.le_of_eq C) (.int .i64 a4));clear n0 gp;go_wp2_with fail
  refine (I.out _).mono ?_;rintro q w2 ⟨rfl,rfl⟩;go_wp2_with fail
  refine (J.out _).mono ?_;rintro q w2 ⟨rfl,rfl⟩;go_wp2_with fail
  refine (B.out _).mono ?_;rintro q w2 ⟨rfl,rfl⟩;go_upto_region 14 with fail
  clear E F A r4 G f4 N m y t;generalize World.setCell _ _ _=c at n u ⊢)
 rotate_left
 rotate_left
 all_goals
  have an:(j:Int)<(p.DZ.length:Int):=ac;clear ac al B I J HG H4;have H:Hid (Below c.heap.size c c.drew):=hid (aC c 1);have B5:=hid (btr u H);have S:=hid (BT.below B5);have X:=S.o.DZ;rw[E2.out] at X;have TH:=hid (X.there (j*7) 7 (by show j*7+7<=p.DZ.length*7;omega));have D:=hid (S.Eo E2 hj (kpS s a4 g i));rw[show cf 7 (kpS s a4 g i)=[.int .i64 (kpK s a4 g 0),.int .i64 (kpK s a4 g 1),.int .i64 (kpK s a4 g 2),.int .i64 (kpK s a4 g 3),.int .i64 (kpK s a4 g 4),.int .i64 (kpK s a4 g 5),.int .i64 i] from rfl] at D;rw[show cf 6 (kpK s a4 g)=[.int .i64 (kpK s a4 g 0),.int .i64 (kpK s a4 g 1),.int .i64 (kpK s a4 g 2),.int .i64 (kpK s a4 g 3),.int .i64 (kpK s a4 g 4),.int .i64 (kpK s a4 g 5)] from rfl] at n;generalize kpK s a4 g=f at n D;have RK:=hid (fun W (h:Below c.heap.size c W)=>dV n h);have BK:=hid (fun W (h:Below c.heap.size c W)=>C2.out W (btr u h));clear X;refine bj (R:=fun W=>Below c.heap.size c W) [9] [0,1,2,3,4,5,6,7] 2 oK H oK oK oK (fun _=>?_)
  iterate 5 (refine Rf.rs ?_ rfl oR (fun W h=>by have O:=BK.out _ h;clear h;go_simp;try rfl);simp only[jj])
  refine Rf.Dq rfl (.agg #[.int .i64 (f 0),.int .i64 (f 1),.int .i64 (f 2),.int .i64 (f 3),.int .i64 (f 4),.int .i64 (f 5)]) (yieldsIf_load_mid oR _ _ rfl _ _ rfl ([.int .i64 (f 0),.int .i64 (f 1),.int .i64 (f 2),.int .i64 (f 3),.int .i64 (f 4),.int .i64 (f 5)]) _ (fun _ h=>RK.out _ h) Tryz.underlying78 rfl (by rw[oy];rfl)) (fun _ _ _ h=>h) ?_;simp only[jj]
  iterate 2 (refine Rf.rs ?_;simp only[jj])
  refine aG ?_;refine bC (R:=fun W=>Below c.heap.size c W) oK _ H [8] 1 _ _ oK ?_
  repeat (refine Rf.rs ?_;simp only[jj])
  refine aG ?_;clear RK BK H;generalize c.drew=w5 at*;refine Rf.r1 9 rfl (fun K hK=>?_);refine wnt oR ?_;simp only[cE,bc,aS];refine wp_store_mid 80 _ _ rfl z (j*7) #[.int .i64 (f 0),.int .i64 (f 1),.int .i64 (f 2),.int .i64 (f 3),.int .i64 (f 4),.int .i64 (f 5),.int .i64 i] rfl rfl TH mr (by simp[Value.oneCell']) ?_;refine hK _ _ trivial (bK oK) (fun _ _=>?_);clear hK K
  try simp only[jj]
  refine aO oK ?_ _;have Y:=hid (show cb (w5.setCells z (j*7) [.int .i64 (f 0),.int .i64 (f 1),.int .i64 (f 2),.int .i64 (f 3),.int .i64 (f 4),.int .i64 (f 5),.int .i64 i]) wb tag V {p with DZ:=p.DZ.set j (kpS s a4 g i)}∧Kt tag tag w (w5.setCells z (j*7) [.int .i64 (f 0),.int .i64 (f 1),.int .i64 (f 2),.int .i64 (f 3),.int .i64 (f 4),.int .i64 (f 5),.int .i64 i]) from⟨D.1,(bf B5).trans D.2⟩);clear D TH S;generalize w5.setCells z (j*7) [.int .i64 (f 0),.int .i64 (f 1),.int .i64 (f 2),.int .i64 (f 3),.int .i64 (f 4),.int .i64 (f 5),.int .i64 i]=W9 at Y ⊢;go_wp2_with fail
  go_ret
  exact⟨rfl,by rw[P.out];exact Y.1,Y.2⟩
