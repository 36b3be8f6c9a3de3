/- Uas -/
import Derived.Test.YtnccmdndkmmhcaaGreatDoorUar
set_option maxRecDepth 100000
set_option maxHeartbeats 16000000
namespace Go.Proofs.YtnccmdndkmmhcaaGreatDoor
namespace Wd
open Go.RowKit Mem Bw Nums Mmu
theorem iG (wb:Nat) (tag:Nat->Nat) (V:Nat->Value) (p:PW) (t:Nat) (x y:Int) (W:World) (bt:cb W wb tag V p) (q:p.Fits) (s:t<p.II.length):
  Calls Tryz.prog 185 #[.pointer (some ⟨wb,0,none⟩),.int .i64 t,.int .i64 x,.int .i64 y] W fun r W'=>r=.returned (.tuple #[])∧cb W' wb tag V ((p.task t 1 x).task t 2 y)∧Kt tag tag W W':=by
 have A:(p.II.length:Int)<=1000:=by have:=q.II;omega
 have B:(t:Int)<(p.II.length:Int):=oA;obtain⟨n,l,m⟩:=bt.o.II.form oA;have a:=hid m;have d:=hid s;have b:=hid bt;have g:=hid (ew tag W);go_enter Tryz.func185,Tryz.ntmps185
 have e:=hid (ap p t 1 x);have k:=bD b a;have C:=b.IS a d (show 1<20 by omega);have w:=b.IT a (t*20+1);obtain⟨b1,q1⟩:=b.task a d (show 1<20 by omega) x;have c:=hid b1;have h:=hid (g.trans q1);go_upto_region 1 with fail
 generalize World.setCell _ _ _=v at*;have e4:=hid (show V 3=.slice (some ⟨n,0,none⟩) (p.task t 1 x).II.length l by rw[e.out];exact a);have k:=bD c a;have D:=c.IS e4 (i:=t) (by rw[e.out];exact d) (show 2<20 by omega);have z:=c.IT e4 (t*20+2);obtain⟨b2,u⟩:=c.task e4 (i:=t) (by rw[e.out];exact d) (show 2<20 by omega) y;have f:=hid b2;have j:=hid (h.trans u);go_wp2_with fail
 exact aH (aF rfl _ _ _) rfl ⟨rfl,f.out,j.out⟩
theorem xS (wb:Nat) (tag:Nat->Nat) (V:Nat->Value) (p:PW) (t:Nat) (W:World) (bt:cb W wb tag V p) (A:p.Fits):
  Calls Tryz.prog 186 #[.pointer (some ⟨wb,0,none⟩),.int .i64 t] W fun r W'=>r=.returned (.tuple #[])∧cb W' wb tag V {p with IJ:=p.IJ.map (noT t)}∧Kt tag tag W W':=by
 have G:(p.IJ.length:Int)<=1000:=by have:=A.IJ;omega
 obtain⟨J,n,cap6,e6,B⟩:=bt.o.IJ.shape;have e:=hid e6;have w:=hid B;have s:=hid bt;go_enter Tryz.func186,Tryz.ntmps186
 go_wp2_with fail
 go_loopw [4] (fun i wr=>∃(k:Nat),k<=p.IJ.length∧i=.int .i64 k∧Hid (cb wr wb tag V {p with IJ:=eY (noT t) k p.IJ})∧Hid (Kt tag tag W wr)) (fun i _=>p.IJ.length - (intOf i).toNat)
 case atStart=>exact⟨0,oA,rfl,hid (by rw[fi];exact s),hid (ew _ _)⟩
 case round=>
  obtain⟨k,hk,rfl,a,f⟩:=hrel;by_cases c:k<p.IJ.length
  ·have H:(k:Int)<(p.IJ.length:Int):=oA;have C:=w.out oA;subst C;have j:k<(eY (noT t) k p.IJ).length:=by rw[cM];exact c
   have q:V 6=.slice (some ⟨n,0,none⟩) (eY (noT t) k p.IJ).length cap6:=by rw[cM];exact e
   have c6:=bD a e;have b:=a.o.IJ;simp only at b;rw[q] at b;have l:=b.int j;have E:=b.frozen k;rw[d9 _ _ _ c j] at l;have h:=hid (eA (noT (t:Int)) k p.IJ c);have m:=hid (d9 (noT (t:Int)) k p.IJ c j);obtain⟨y,D⟩:∃y,p.IJ[k]=y:=⟨_,rfl⟩
   rw[D] at l h m;by_cases d:y=(t:Int)
   ·obtain⟨z,x⟩:=a.I4 q k (-1);have g:=hid (show cb (wr.setCell ⟨n,k,none⟩ (.int .i64 (-1))) wb tag V {p with IJ:=eY (noT t) (k+1) p.IJ} by
     rw[h.out,show noT (t:Int) y= -1 from ag d];exact z)
    have v:=hid (f.trans x);rw[d] at l;go_wp2_with fail
    exact⟨⟨k+1,oA,by go_num,g,v⟩,by simp[intOf];omega⟩
   ·have g:=hid (show cb wr wb tag V {p with IJ:=eY (noT t) (k+1) p.IJ} by
     rw[h.out,show noT (t:Int) y=y from ae d, <-m.out,bV];exact a)
    have I:(y==(t:Int))=false:=by simpa using d
    go_wp2_with fail
    exact⟨⟨k+1,oA,by go_num,g,f⟩,by simp[intOf];omega⟩
  ·obtain rfl:k=p.IJ.length:=oA;have F:¬((p.IJ.length:Int)<(p.IJ.length:Int)):=oA;have c6:=bD a e;have u:=hid (show cb wr wb tag V {p with IJ:=p.IJ.map (noT t)} by rw[<-fF];exact a);go_wp2_with fail
   exact aH (aF rfl _ _ _) rfl ⟨rfl,u.out,f.out⟩
def ssP (p:PW) (t a:Nat) (s:Int):PW:={(({p with IJ:=p.IJ.map (noT t)}:PW).task t 9 s).task t 14 a with lines:=p.lines.set a (p.lines.getD a []++[(t:Int)])}
theorem lq (wb:Nat) (tag:Nat->Nat) (V:Nat->Value) (p0:PW) (t a:Nat) (s:Int) (W:World) (bt:cb W wb tag V p0) (hp:p0.Fits) (ht:t<p0.II.length) (ha:a<p0.lines.length):
  Calls Tryz.prog 184 #[.pointer (some ⟨wb,0,none⟩),.int .i64 t,.int .i64 a,.int .i64 s] W fun r W'=>r=.returned (.tuple #[])∧∃tag',cb W' wb tag' V (ssP p0 t a s)∧Kt tag tag' W W':=by
 have aN:=hid (xS wb tag V p0 t W bt hp);have bL:(p0.lines.length:Int)<=1000:=by have:=hp.lines;omega
 have bJ:(a:Int)<(p0.lines.length:Int):=oA;have bK:(p0.II.length:Int)<=1000:=by have:=hp.II;omega
 have bN:(t:Int)<(p0.II.length:Int):=oA;have aO:=hid (show (p0.lines.getD a []).length<=1000 by rw[aa,ac ha];exact hp.line _ (av ha));have al:=hid ha;obtain⟨g3,bF,e3⟩:=bt.o.II.form oA;have C:=hid e3;have N:=hid ht;obtain⟨p,am⟩:∃p,({p0 with IJ:=p0.IJ.map (noT t)}:PW)=p:=⟨_,rfl⟩
 have ay:=hid am;rw[am] at aN;have el:p0.lines=p.lines:=by rw[<-am]
 have et:p0.II=p.II:=by rw[<-am]
 rw[el] at aO al bL bJ;rw[et] at C N bK bN;have ar:=hid el;go_enter Tryz.func184,Tryz.ntmps184
 go_wp2_with fail
 refine aN.mono ?_;rintro r w0 ⟨rfl,H,h2⟩;have Z:=hid H;have K0:=hid h2;have L1:=hid (ap p t 9 s);have c3:=bD Z C;have xa:=Z.IS C N (show 9<20 by omega);have fa:=Z.IT C (t*20+9);obtain⟨b1,q1⟩:=Z.task C N (show 9<20 by omega) s;have B1:=hid b1;have K1:=hid (K0.trans q1);go_upto_region 2 with fail
 generalize World.setCell _ _ _=W1 at*;have e4:=hid (show V 3=.slice (some ⟨g3,0,none⟩) (p.task t 9 s).II.length bF by rw[L1.out];exact C);have c3:=bD B1 C;have xb:=B1.IS e4 (i:=t) (by rw[L1.out];exact N) (show 14<20 by omega);have fb:=B1.IT e4 (t*20+14);obtain⟨b2,q2⟩:=B1.task e4 (i:=t) (by rw[L1.out];exact N) (show 14<20 by omega) (a:Int);have B2:=hid b2;have K2:=hid (K1.trans q2);go_upto_region 3 with fail
 generalize World.setCell _ _ _=b at*;have B3:=B2;have K3:=K2;obtain⟨f,eL⟩:=B3.o.lines.form;have Q:=B3.o.lines;rw[eL] at Q;obtain⟨u,cu,hu⟩:=Q.at (j:=a) al;obtain⟨zs,an⟩:∃zs,(p.lines).getD a []=zs:=⟨_,rfl⟩
 have bO:InT b tag (12+3*a) 3 1 u (zs.length,dU zs):=by
  have H:InT b tag (12+3*a) 3 1 u (ci (p.lines) a):=hu;unfold ci at H;rw[an] at H;exact H
 have F:=hid (show zs.length<=1000 from by rw[<-an];exact aO);have bT:=hid an;have HU:=hid (dN bO.1);have bS:=hid Q;have M:=hid (show V 4=.slice (some ⟨f,0,none⟩) p.lines.length p.lines.length from eL);have ax:=hid (fun X (h:Below b.heap.size b X)=>show X.frozen? ⟨f,a,none⟩=false from (Q.kp (T:=fun _=>False) (.IM h) (fun _ _=>rfl) (fun _ _ e=>e)).fr a);have l:=hid (fun X (h:Below b.heap.size b X)=>show X.cell? ⟨wb,4,none⟩=some (.slice (some ⟨f,0,none⟩) p.lines.length p.lines.length) by rw[ai (B3.below h).r (k:=4) rfl,M.out]);have g:=hid (fun X (h:Below b.heap.size b X)=>(h.cell (aj _ _ cu)).trans cu);have BD:=hid (aD b 1);have aw:=hid (fun X v (Y:List Int) (hz:Y=zs++[(t:Int)]) (h:Below b.heap.size b X) (m:X.ownsRow b.heap.size 3 1 v Y.length (dU Y))=>show cb (X.setCell ⟨f,a,none⟩ v) wb (gR tag b.heap.size (12+3*a)) V {(p.task t 9 s).task t 14 a with lines:=(p.lines).set a ((p.lines).getD a []++[(t:Int)])}∧Kt tag (gR tag b.heap.size (12+3*a)) W (X.setCell ⟨f,a,none⟩ v) from by
  obtain⟨bM,aX⟩:=Q.put (tag':=gR tag b.heap.size (12+3*a)) (w1:=X) (u:=v) (c:=(Y.length,dU Y)) (j:=a) al (fun j=>oA) (.IM h) (fun k hk=>dO hk) ⟨m.mono (bP _),fun k e=>by
   unfold gR;rw[ae (by have:=(m.lt k e).1;omega)]⟩
  refine⟨B3.lines aX (fun k hk=>dO hk) ?_,K3.trans (Kt.of (tag':=gR tag b.heap.size (12+3*a)) aX (fun k e=>by rcases e with e|⟨j,e⟩<;>omega) (fun k hk=>dO hk))⟩;rw[au,M.out,kz _ _ al,an, <-hz];exact bM)
 refine ei (S:=fun X=>X.cell? ⟨wb,4,none⟩=some (.slice (some ⟨f,0,none⟩) p.lines.length p.lines.length)) (R:=fun X=>X.cell? ⟨f,a,none⟩=some u) [18] oK (l.out _ BD) (g.out _ BD) (fun bI bH=>?_);have q:=hid bI;have n:=hid bH;refine tF 0 (.pointer (some ⟨wb,0,none⟩)) rfl q (fun _=>n.out) ?_;simp only[jj];refine tF 1 (.pointer (some ⟨wb,0,none⟩)) rfl q (fun _=>n.out) ?_;simp only[jj];refine tF 2 (.pointer (some ⟨wb,4,none⟩)) rfl q (fun _=>n.out) ?_;simp only[jj];refine tG 3 (.slice (some ⟨f,0,none⟩) p.lines.length p.lines.length) rfl q (fun _=>n.out) ?_;simp only[jj];refine tF 4 (.int .i64 a) rfl q (fun _=>n.out) ?_;simp only[jj];refine tF 6 (.pointer (some ⟨wb,0,none⟩)) rfl q (fun _=>n.out) ?_;simp only[jj];refine tF 7 (.pointer (some ⟨wb,0,none⟩)) rfl q (fun _=>n.out) ?_;simp only[jj];refine tF 8 (.pointer (some ⟨wb,4,none⟩)) rfl q (fun _=>n.out) ?_;simp only[jj];refine tG 9 (.slice (some ⟨f,0,none⟩) p.lines.length p.lines.length) rfl q (fun _=>n.out) ?_;simp only[jj];refine tF 10 (.int .i64 a) rfl q (fun _=>n.out) ?_;simp only[jj];refine tF 11 (.pointer (some ⟨f,a,none⟩)) rfl q (fun _=>n.out) ?_;simp only[jj];refine eZ (i:=12) (v:=u) rfl oK oK oK oK oK oK (fun _ _ _ h=>h) (Or.inl ⟨oR,fun W h=>by have h3:=h.2;clear h;go_simp⟩) q (fun _=>n.out) ?_;simp only[jj];refine tF 14 (.int .i64 t) rfl q (fun _=>n.out) ?_;simp only[jj];refine dp (rs:=[5,15]) oK oS (di.cons rfl (fun K d=>?_) (di.cons rfl (fun K d=>?_) di.nil))
 ·have Ea:=hid (show (b.alloc (.cells #[] 3)).drew.ownsRow b.heap.size 3 1 (.slice (some ⟨b.heap.size,0,none⟩) 0 0) 0 [] from (dy b #[] 0 (aq _) (bP _) oS));have E:=hid ((bal (af _ b) (.cells #[] 3)).drew);go_simp
  refine d _ _ (l.out _ E) (fun _=>g.out _ E) (fun _ _=>?_)
  try simp only[Act.put,jD,jE,jF]
  generalize World.drew (World.alloc _ _)=G at*;refine dp (rs:=[13,15]) oK oS (di.cons rfl (fun K d=>?_) (di.cons rfl (fun K d=>?_) di.nil))
  ·obtain⟨aI,aB,aA,x,m,w,hg⟩:=im Ea E.size (show ed G u zs from HU.below E) F;have a3:=hid x;have bb:=hid m;have ao:=hid (E.trans w);refine fU _ _ 22 rfl (.slice (some ⟨b.heap.size,0,none⟩) 0 0) u (.slice aI zs.length aB) rfl rfl a3 ?_;refine d _ _ (l.out _ ao) (fun _=>g.out _ ao) (fun _ _=>?_);simp only[jj];refine dp (rs:=[15]) oK oS (di.cons rfl (fun K d=>?_) di.nil);have bu:=hid (cq aA #[.int .i64 t] 3 0);have ab:=hid (bal ao (.cells #[.int .i64 t] 3));have bc:=hid (show (aA.alloc (.cells #[.int .i64 t] 3)).ownsRow b.heap.size 3 1 (.slice aI zs.length aB) zs.length (dU zs) from bb.alloc _);go_simp
   refine d _ _ (l.out _ ab) (fun _=>g.out _ ab) (fun _ _=>?_)
   try simp only[Act.put,jD,jE,jF]
   generalize World.alloc _ _=bU at*;generalize aA.heap.size=bQ at*;refine dp (rs:=[16]) oK oS (di.cons rfl (fun K d=>?_) di.nil);obtain⟨aJ,aC,aP,x,m,w⟩:=kS bc ab.size F bu;have a4:=hid x;have bh:=hid m;have y:=hid (ab.trans w);have bq:=hid (l.out _ y);have bn:=hid (g.out _ y);refine fU _ _ 22 rfl (.slice aI zs.length aB) (.slice (some ⟨bQ,0,none⟩) 1 1) (.slice aJ (zs.length+1) aC) rfl rfl a4 ?_;refine d _ _ (l.out _ y) (fun _=>g.out _ y) (fun _ _=>?_);simp only[jj];refine tF 17 (.pointer (some ⟨f,a,none⟩)) rfl bq (fun _=>bn.out) ?_;simp only[jj];have aV:=l.out _ y;have aU:=g.out _ y;have aW:=ax.out _ y;obtain⟨B,U⟩:=aw.out aP (.slice aJ (zs.length+1) aC) (zs++[(t:Int)]) rfl y bh;have I:=hid B;have O:=hid U;have P:=hid (show (aP.setCell ⟨f,a,none⟩ (.slice aJ (zs.length+1) aC)).cell? ⟨wb,4,none⟩=some (.slice (some ⟨f,0,none⟩) p.lines.length p.lines.length) by rw[ai B.r (k:=4) rfl,M.out]);refine r1 18 rfl (fun K d=>?_);go_simp
   refine d _ _ P (fv oK) (fun _ _=>?_)
   try simp only[Act.put]
   refine ec oK ?_ _;generalize World.setCell _ _ _=W6 at*;go_wp2_with fail
   exact aH (aF rfl _ _ _) rfl ⟨rfl,_,by unfold ssP;rw[ay.out,ar.out];exact I,O.out⟩
  ·have bv:=hid (cq G #[.int .i64 t] 3 0);have J:=hid (bal E (.cells #[.int .i64 t] 3));have a0:=hid (show (G.alloc (.cells #[.int .i64 t] 3)).ownsRow b.heap.size 3 1 (.slice (some ⟨b.heap.size,0,none⟩) 0 0) 0 [] from Ea.alloc _);have a9:=hid (show b.heap.size≠G.heap.size from fun e=>by have H:b.heap.size<G.heap.size:=(Ea.lt _ rfl).2;omega);go_simp
   refine d _ _ (l.out _ J) (fun _=>g.out _ J) (fun _ _=>?_)
   try simp only[Act.put,jD,jE,jF]
   generalize World.alloc _ _=bC at*;generalize G.heap.size=bR at*;refine dp (rs:=[13]) oK oS (di.cons rfl (fun K d=>?_) di.nil);obtain⟨aY,aS,bV,x,m,w,hg⟩:=im a0 J.size (show ed bC u zs from HU.below J) F;have a5:=hid x;have bf:=hid m;have ad:=hid (J.trans w);have bz:=hid (hg.cell bv (fun e=>a9.out (aK e).symm));refine fU _ _ 22 rfl (.slice (some ⟨b.heap.size,0,none⟩) 0 0) u (.slice aY zs.length aS) rfl rfl a5 ?_;refine d _ _ (l.out _ ad) (fun _=>g.out _ ad) (fun _ _=>?_);simp only[jj];refine dp (rs:=[16]) oK oS (di.cons rfl (fun K d=>?_) di.nil);obtain⟨aL,aE,aQ,x,m,w⟩:=kS bf ad.size F bz;have a6:=hid x;have bj:=hid m;have z:=hid (ad.trans w);have br:=hid (l.out _ z);have bo:=hid (g.out _ z);refine fU _ _ 22 rfl (.slice aY zs.length aS) (.slice (some ⟨bR,0,none⟩) 1 1) (.slice aL (zs.length+1) aE) rfl rfl a6 ?_;refine d _ _ (l.out _ z) (fun _=>g.out _ z) (fun _ _=>?_);simp only[jj];refine tF 17 (.pointer (some ⟨f,a,none⟩)) rfl br (fun _=>bo.out) ?_;simp only[jj];have aV:=l.out _ z;have aU:=g.out _ z;have aW:=ax.out _ z;obtain⟨B,U⟩:=aw.out aQ (.slice aL (zs.length+1) aE) (zs++[(t:Int)]) rfl z bj;have I:=hid B;have O:=hid U;have P:=hid (show (aQ.setCell ⟨f,a,none⟩ (.slice aL (zs.length+1) aE)).cell? ⟨wb,4,none⟩=some (.slice (some ⟨f,0,none⟩) p.lines.length p.lines.length) by rw[ai B.r (k:=4) rfl,M.out]);refine r1 18 rfl (fun K d=>?_);go_simp
   refine d _ _ P (fv oK) (fun _ _=>?_);clear d K
   try simp only[Act.put]
   refine ec oK ?_ _;generalize World.setCell _ _ _=W6 at*;go_wp2_with fail
   exact aH (aF rfl _ _ _) rfl ⟨rfl,_,by unfold ssP;rw[ay.out,ar.out];exact I,O.out⟩
 ·have az:=hid (show (b.alloc (.cells #[.int .i64 t] 3)).drew.cell? ⟨b.heap.size,0,none⟩=some (.int .i64 t) from cq b #[.int .i64 t] 3 0);have ag:=hid (show Below b.heap.size b (b.alloc (.cells #[.int .i64 t] 3)).drew from (bal (af _ b) (.cells #[.int .i64 t] 3)).drew);go_simp
  refine d _ _ (l.out _ ag) (fun _=>g.out _ ag) (fun _ _=>?_);clear d K
  try simp only[Act.put,jD,jE,jF]
  generalize World.drew (World.alloc _ _)=D at*;refine dp (rs:=[5]) oK oS (di.cons rfl (fun K d=>?_) di.nil);have a2:=hid (show (D.alloc (.cells #[] 3)).ownsRow b.heap.size 3 1 (.slice (some ⟨D.heap.size,0,none⟩) 0 0) 0 [] from (dy D #[] 0 ag.size (bP _) oS));have L:=hid (show Below b.heap.size b (D.alloc (.cells #[] 3)) from bal ag (.cells #[] 3));have bA:=hid (show (D.alloc (.cells #[] 3)).cell? ⟨b.heap.size,0,none⟩=some (.int .i64 t) from (World.cell?_alloc_lt _ _ _ (aj _ _ az)).trans az);have ba:=hid (show (D.heap.size)≠b.heap.size from fun e=>by have:=aj _ _ az;simp only at this;omega);go_simp
  refine d _ _ (l.out _ L) (fun _=>g.out _ L) (fun _ _=>?_)
  try simp only[Act.put,jD,jE,jF]
  generalize World.alloc _ _=bE at*;generalize D.heap.size=bG at*;refine dp (rs:=[13]) oK oS (di.cons rfl (fun K d=>?_) di.nil);obtain⟨aZ,aT,bW,x,m,w,hg⟩:=im a2 L.size (show ed bE u zs from HU.below L) F;have a7:=hid x;have bg:=hid m;have ah:=hid (L.trans w);have bB:=hid (hg.cell bA (fun e=>ba.out (aK e).symm));refine fU _ _ 22 rfl (.slice (some ⟨bG,0,none⟩) 0 0) u (.slice aZ zs.length aT) rfl rfl a7 ?_;refine d _ _ (l.out _ ah) (fun _=>g.out _ ah) (fun _ _=>?_);simp only[jj];refine dp (rs:=[16]) oK oS (di.cons rfl (fun K d=>?_) di.nil);obtain⟨aM,aG,aR,x,m,w⟩:=kS bg ah.size F bB;have a8:=hid x;have bk:=hid m;have A:=hid (ah.trans w);have bs:=hid (l.out _ A);have bp:=hid (g.out _ A);refine fU _ _ 22 rfl (.slice aZ zs.length aT) (.slice (some ⟨b.heap.size,0,none⟩) 1 1) (.slice aM (zs.length+1) aG) rfl rfl a8 ?_;refine d _ _ (l.out _ A) (fun _=>g.out _ A) (fun _ _=>?_);simp only[jj];refine tF 17 (.pointer (some ⟨f,a,none⟩)) rfl bs (fun _=>bp.out) ?_;simp only[jj];have aV:=l.out _ A;have aU:=g.out _ A;have aW:=ax.out _ A;obtain⟨B,U⟩:=aw.out aR (.slice aM (zs.length+1) aG) (zs++[(t:Int)]) rfl A bk;have I:=hid B;have O:=hid U;have P:=hid (show (aR.setCell ⟨f,a,none⟩ (.slice aM (zs.length+1) aG)).cell? ⟨wb,4,none⟩=some (.slice (some ⟨f,0,none⟩) p.lines.length p.lines.length) by rw[ai B.r (k:=4) rfl,M.out]);refine r1 18 rfl (fun K d=>?_);go_simp
  refine d _ _ P (fv oK) (fun _ _=>?_)
  try simp only[Act.put]
  refine ec oK ?_ _;generalize World.setCell _ _ _=W6 at*;go_wp2_with fail
  exact aH (aF rfl _ _ _) rfl ⟨rfl,_,by unfold ssP;rw[ay.out,ar.out];exact I,O.out⟩
def frP (p:PW) (a t:Nat) (l:List Int):PW:=({p with lines:=p.lines.set a l}:PW).task t 14 (-1)
theorem qG (wb:Nat) (tag:Nat->Nat) (V:Nat->Value) (p:PW) (a:Nat) (i:Bool) (W:World) (bt:cb W wb tag V p) (f:p.Fits) (e:a<p.lines.length) (h:p.lines.getD a []=[]):
  Calls Tryz.prog 183 #[.pointer (some ⟨wb,0,none⟩),.int .i64 a,.bool i] W fun r W'=>r=.returned (.int .i64 (-1))∧W=W':=by
 have m:(p.lines.length:Int)<=1000:=by have:=f.lines;omega
 have l:(a:Int)<(p.lines.length:Int):=oA;obtain⟨k,c⟩:=bt.o.lines.form;have d:=bt.o.lines;rw[c] at d;obtain⟨u,cu,b⟩:=d.at e;unfold ci at b;rw[h] at b;have j:=bD bt c;obtain⟨q,g,cap,rfl, -⟩:=b.shape;simp only[List.length_nil] at cu;go_enter Tryz.func183,Tryz.ntmps183
 go_wp2_with fail
 go_ret
 exact⟨rfl,rfl⟩
theorem tT (wb:Nat) (tag:Nat->Nat) (V:Nat->Value) (p:PW) (a:Nat) (b:Bool) (W:World) (bt:cb W wb tag V p) (f:p.Fits) (e:a<p.lines.length) (t:Nat) (l:List Int) (h:p.lines.getD a []=(t:Int)::l) (v:t<p.II.length) (L:decide (p.II.getD t bl 9=4)≠b):
  Calls Tryz.prog 183 #[.pointer (some ⟨wb,0,none⟩),.int .i64 a,.bool b] W fun r W'=>r=.returned (.int .i64 (-1))∧W=W':=by
 have H:(p.lines.length:Int)<=1000:=by have:=f.lines;omega
 have F:(a:Int)<(p.lines.length:Int):=oA;obtain⟨E,j⟩:=bt.o.lines.form;have m:=bt.o.lines;rw[j] at m;obtain⟨u,cu,c⟩:=m.at e;unfold ci at c;rw[h] at c;have B:=bD bt j;obtain⟨g,cap,rfl⟩:=c.form oS;have J:(((t:Int)::l).length:Int)=(l.length:Int)+1:=oS;have q:=hid (show l.length+1<=1000 by
  have k:=f.line _ (av e);rw[aa,ac e,aT] at h;rw[h] at k;exact k)
 have I:((l.length+1:Nat):Int)<=1000:=by have:=q.out;omega
 have w:=c.int (show 0<((t:Int)::l).length by simp);simp only[dY] at cu;simp only[bh] at w;obtain⟨D,C,d⟩:=bt.o.II.form oA;have z:=hid d;have G:(p.II.length:Int)<=1000:=by have:=f.II;omega
 have M:(t:Int)<(p.II.length:Int):=oA;have A:=bD bt d;have x:=bt.IS d v (show 9<20 by omega);have s:¬(((l.length+1:Nat):Int)=0):=oA;have K:(((l.length+1:Nat):Int)==0)=false:=by simpa using s
 have i:=hid (show (p.II.getD t bl 9==4)= !b by
  rw[show (p.II.getD t bl 9==4)=decide (p.II.getD t bl 9=4) from rfl]
  cases hd:decide (p.II.getD t bl 9=4)<;>cases b<;>simp_all)
 generalize p.II.getD t bl 9=y at x i;have n:=i.out
 cases b with
 |true=>
  simp only[Bool.not_true] at n;go_enter Tryz.func183,Tryz.ntmps183
  go_wp2_with fail
  go_ret
  exact⟨rfl,rfl⟩
 |false=>
  simp only[Bool.not_false] at n;go_enter Tryz.func183,Tryz.ntmps183
  go_wp2_with fail
  go_ret
  exact⟨rfl,rfl⟩
theorem mI (wb:Nat) (tag:Nat->Nat) (V:Nat->Value) (p:PW) (a:Nat) (J:Bool) (W:World) (bt:cb W wb tag V p) (H:p.Fits) (x:a<p.lines.length) (t:Nat) (l:List Int) (I:p.lines.getD a []=(t:Int)::l) (N:t<p.II.length) (hs:decide (p.II.getD t bl 9=4)=J):
  Calls Tryz.prog 183 #[.pointer (some ⟨wb,0,none⟩),.int .i64 a,.bool J] W fun r W'=>r=.returned (.int .i64 t)∧∃tag',cb W' wb tag' V (frP p a t l)∧Kt tag tag' W W':=by
 have aK:(p.lines.length:Int)<=1000:=by have:=H.lines;omega
 have aG:(a:Int)<(p.lines.length:Int):=oA;obtain⟨b,E⟩:=bt.o.lines.form;have F:=bt.o.lines;rw[E] at F;obtain⟨u,cu,n⟩:=F.at x;unfold ci at n;rw[I] at n;have c4:=bD bt E;obtain⟨g,cap,rfl⟩:=n.form oS;have ar:(((t:Int)::l).length:Int)=(l.length:Int)+1:=oS;have Z:=hid (show l.length+1<=1000 by
  have m:=H.line _ (av x);rw[aa,ac x,aT] at I;rw[I] at m;exact m)
 have aL:((l.length+1:Nat):Int)<=1000:=by have:=Z.out;omega
 have x0:=n.int (show 0<((t:Int)::l).length by simp);simp only[dY] at cu;simp only[bh] at x0;obtain⟨g3,az,D⟩:=bt.o.II.form oA;have A:=hid D;have aJ:(p.II.length:Int)<=1000:=by have:=H.II;omega
 have aO:(t:Int)<(p.II.length:Int):=oA;have c3:=bD bt D;have x9:=bt.IS D N (show 9<20 by omega);have aw:¬(((l.length+1:Nat):Int)=0):=oA;have aM:(((l.length+1:Nat):Int)==0)=false:=by simpa using aw
 have M:=hid (show (p.II.getD t bl 9==4)=J from hs);generalize p.II.getD t bl 9=y at x9 M;have aN:=M.out;have U:=hid bt;have ab:=hid F;have ad:=hid N;have Q:=hid x;have L:=hid (show V 4=.slice (some ⟨b,0,none⟩) p.lines.length p.lines.length from E);have P:=hid cu;have aH:l.length+1<=cap:=by
  rcases n.1.2 with ⟨m,_⟩|⟨_,_,_,m,_,_,h2,_⟩
  ·cases m
  ·cases m;exact h2
 have aI:((l.length+1:Nat):Int)<=(cap:Int):=oA;obtain⟨q1,ay⟩:∃q1,(if cap=1 then (some ⟨g,0,none⟩:Option Addr) else some ⟨g,1,none⟩)=q1:=⟨_,rfl⟩
 have aF:(1:Int)<=(l.length:Int)+1:=oA;have HU:=hid (show ed W (.slice q1 l.length (cap - 1)) l from⟨q1,g,1,cap - 1,rfl,fun hl=>by rw[<-ay,ae oA],fun j hj=>by
  have m:=n.int (show j+1<((t:Int)::l).length by simp;omega);rw[Nat.add_comm 1 j];simpa using m⟩)
 have C:=hid (fun X (h:Below W.heap.size W X)=>show X.cell? ⟨wb,4,none⟩=some (.slice (some ⟨b,0,none⟩) p.lines.length p.lines.length) by rw[ai (U.below h).r (k:=4) rfl,L.out]);have B:=hid (fun X (h:Below W.heap.size W X)=>show X.cell? ⟨b,a,none⟩=some (.slice (some ⟨g,0,none⟩) (l.length+1) cap) from (h.cell (aj _ _ P)).trans P);have am:=hid (fun X (h:Below W.heap.size W X)=>show X.frozen? ⟨b,a,none⟩=false from (ab.kp (T:=fun _=>False) (.IM h) (fun _ _=>rfl) (fun _ _ e=>e)).fr a);have O:Hid (Below W.heap.size W W.drew):=hid (aD W 1);have al:=hid (fun X v (h:Below W.heap.size W X) (G:X.ownsRow W.heap.size 3 1 v l.length (dU l))=>show cb (X.setCell ⟨b,a,none⟩ v) wb (gR tag W.heap.size (12+3*a)) V {p with lines:=p.lines.set a l}∧Kt tag (gR tag W.heap.size (12+3*a)) W (X.setCell ⟨b,a,none⟩ v) from by
  obtain⟨ax,ah⟩:=ab.put (tag':=gR tag W.heap.size (12+3*a)) (w1:=X) (u:=v) (c:=(l.length,dU l)) (j:=a) Q (fun j=>oA) (.IM h) (fun k hk=>dO hk) ⟨G.mono (bP _),fun j e=>by
   unfold gR;rw[ae (by have:=(G.lt j e).1;omega)]⟩
  refine⟨U.lines ah (fun k hk=>dO hk) ?_,Kt.of (tag':=gR tag W.heap.size (12+3*a)) ah (fun k e=>by rcases e with e|⟨j,e⟩<;>omega) (fun k hk=>dO hk)⟩;rw[au,L.out,kz _ _ Q];exact ax)
 clear bt H x I E F n hs D N M ar
 cases J
 all_goals
  go_enter Tryz.func183,Tryz.ntmps183
  go_wp2_with fail
  clear c4 cu x0 c3 x9;refine ei (S:=fun X=>X.cell? ⟨wb,4,none⟩=some (.slice (some ⟨b,0,none⟩) p.lines.length p.lines.length)) (R:=fun X=>X.cell? ⟨b,a,none⟩=some (.slice (some ⟨g,0,none⟩) (l.length+1) cap)) [16] oK (C.out _ O) (B.out _ O) (fun ao an=>?_);have f:=hid ao;have d:=hid an;refine tF 0 (.pointer (some ⟨wb,0,none⟩)) rfl f (fun _=>d.out) ?_;simp only[jj];refine tF 1 (.pointer (some ⟨wb,0,none⟩)) rfl f (fun _=>d.out) ?_;simp only[jj];refine tF 2 (.pointer (some ⟨wb,4,none⟩)) rfl f (fun _=>d.out) ?_;simp only[jj];refine tG 3 (.slice (some ⟨b,0,none⟩) p.lines.length p.lines.length) rfl f (fun _=>d.out) ?_;simp only[jj];refine tF 4 (.int .i64 a) rfl f (fun _=>d.out) ?_;simp only[jj];refine tF 6 (.pointer (some ⟨wb,0,none⟩)) rfl f (fun _=>d.out) ?_;simp only[jj];refine tF 7 (.pointer (some ⟨wb,0,none⟩)) rfl f (fun _=>d.out) ?_;simp only[jj];refine tF 8 (.pointer (some ⟨wb,4,none⟩)) rfl f (fun _=>d.out) ?_;simp only[jj];refine tG 9 (.slice (some ⟨b,0,none⟩) p.lines.length p.lines.length) rfl f (fun _=>d.out) ?_;simp only[jj];refine tF 10 (.int .i64 a) rfl f (fun _=>d.out) ?_;simp only[jj];refine tF 11 (.pointer (some ⟨b,a,none⟩)) rfl f (fun _=>d.out) ?_;simp only[jj];refine eZ (i:=12) (v:=.slice (some ⟨g,0,none⟩) (l.length+1) cap) rfl oK oK oK oK oK oK (fun _ _ _ h=>h) (Or.inl ⟨oR,fun W h=>by have h3:=h.2;clear h;go_simp⟩) f (fun _=>d.out) ?_;simp only[jj];refine tF 13 (.slice q1 l.length (cap - 1)) rfl f (fun _=>d.out) ?_;simp only[jj];have E5:=hid (show (W.alloc (.cells #[] 3)).drew.ownsRow W.heap.size 3 1 (.slice (some ⟨W.heap.size,0,none⟩) 0 0) 0 [] from (dy W #[] 0 (aq _) (bP _) oS));have s:=hid ((bal (af _ W) (.cells #[] 3)).drew);refine r1 5 rfl (fun K w=>?_);go_simp
  refine w _ _ (C.out _ s) (fun _=>B.out _ s) (fun _ _=>?_)
  try simp only[Act.put,jD,jE,jF]
  generalize World.drew (World.alloc _ _)=X5 at*;obtain⟨q',c',Y,hr,G,hb, -⟩:=im E5 s.size (HU.below s) (by have:=Z.out;omega);have HR:=hid hr;have HO:=hid G;have q:=hid (s.trans hb);have SY:=hid (C.out _ q);have RY:=hid (B.out _ q);refine r1 14 rfl (fun K w=>?_);refine fU _ _ 22 rfl (.slice (some ⟨W.heap.size,0,none⟩) 0 0) (.slice q1 l.length (cap - 1)) (.slice q' l.length c') rfl rfl HR ?_;refine w _ _ SY (fun _=>RY.out) (fun _ _=>?_);simp only[jj];refine tF 15 (.pointer (some ⟨b,a,none⟩)) rfl SY (fun _=>RY.out) ?_;simp only[jj];have aB:=C.out _ q;have aA:=B.out _ q;have aE:=am.out _ q;obtain⟨ag,ap⟩:=al.out Y _ q HO;have z:=hid ag;have K6:=hid ap;have S6:=hid (show (Y.setCell ⟨b,a,none⟩ (.slice q' l.length c')).cell? ⟨wb,4,none⟩=some (.slice (some ⟨b,0,none⟩) p.lines.length p.lines.length) by rw[ai ag.r (k:=4) rfl,L.out]);refine r1 16 rfl (fun K w=>?_);go_simp
  refine w _ _ S6 (fv oK) (fun _ _=>?_)
  try simp only[Act.put]
  refine ec oK ?_ _;generalize World.setCell _ _ _=W6 at*;have c3:=bD z A;have aP:=z.IS A ad (show 14<20 by omega);have aC:=z.IT A (t*20+14);obtain⟨b7,k7⟩:=z.task A ad (show 14<20 by omega) (-1);have B7:=hid b7;have K7:=hid (K6.trans k7);go_wp2_with fail
  go_ret
  exact⟨rfl,_,B7.out,K7.out⟩
theorem AO {x:Int}:∀{zs:List Int},x∈zs->0<cn x zs
 |[],h=>by cases h
 |y::l,h=>by
  unfold cn ez;simp only[cd,ex];rcases bK.1 h with rfl|h
  ·unfold one;rw[ag rfl];omega
  ·have:=AO h;unfold cn ez at this;omega
theorem iH {p:PW} (h:Snd p) {a:Nat} (j:a<p.lines.length) {z:Int} {l:List Int} (n:p.lines.getD a []=z::l):∃(t:Nat) (g:t<p.kinds.length),z=t∧p.kinds[t]=6∧p.II.getD t bl 14=a:=by
 have e:p.lines[a]=z::l:=by rw[<-n,aa,ac j];rfl
 have c:blB p a (p.kinds.getD a 0) (p.bits.getD a 0) p.lines[a]=false:=h.b6 a j;rw[e] at c;unfold blB at c;rw[eG,List.any_cons,eG] at c;have d:=c.2.1;unfold tB at d;rw[cU,am,am] at d;have b:=d.1.1;have f:=eq_of_beq d.1.2;unfold isB fH at b;by_cases i:0<=z
 ·rw[ag i] at b;obtain⟨t,rfl⟩:∃t:Nat,z=t:=⟨z.toNat,oA⟩
  rw[ah] at b;have k:=eq_of_beq b;obtain⟨g,m⟩:=List.getElem?_eq_some_iff.1 k;have hl:t<p.II.length:=by rw[h.lf.II];exact g
  unfold atV at f;rw[ah,ac hl] at f;refine⟨t,g,rfl,m,?_⟩;rw[aa,ac hl];exact f
 ·rw[ae i] at b
  cases b
theorem rM {p:PW} (h:Snd p) {t a:Nat} (i:t<p.kinds.length) (hk:p.kinds[t]=6) (g:p.II.getD t bl 14=a):isB p a (pl (p.II.getD t bl 9))=true∧cna t p.lines=1∧lvs t p.ready=p.ready∧p.IJ.map (noT t)=p.IJ∧pl (p.II.getD t bl 9)≠0:=by
 obtain⟨_,_,_,b,d⟩:=iY h i hk;unfold srB at b;rw[g] at b;by_cases c:pl (p.II.getD t bl 9)=0
 ·rw[ag c,am] at b;have:=eq_of_beq b.1;omega
 ·rw[ae c,am,am] at b;have j:=eq_of_beq b.1.2;have f:¬p.II.getD t bl 9=1:=fun e=>c (by rw[e];decide);unfold rrB at d;rw[ae f] at d;have k:=eq_of_beq d;exact⟨b.1.1,oA,jI oA,pJ oA,c⟩
theorem AY {p:PW} {a:Nat} {k:Int} (b:a<p.kinds.length) (h:isB p a k=true):p.kinds[a]=k:=by
 unfold isB at h;rw[fZ b] at h;simpa using h
theorem rQ (p:PW) (t i j:Nat) (x y:Int) (a:t<p.II.length) (h:i≠j):(p.task t i x).task t j y=(p.task t j y).task t i x:=by
 unfold PW.task;simp only;rw[jL _ t _ _ a,jL _ t _ _ a,ep,ep,mi _ i j _ _ h]
theorem kX {p:PW} (h:p.Fits) (a t:Nat) (l:List Int) (hl:l.length<=1000):(frP p a t l).Fits:=by
 have b:({p with lines:=p.lines.set a l}:PW).Fits:=⟨h.IL,h.kinds,h.IH,h.II,by show (p.lines.set a l).length<=1000;rw[au];exact h.lines,fun x d=>by
  rcases aZ d with c|c
  ·exact h.line x c
  ·rw[c];exact hl,h.bits,h.IJ,h.ready,h.next,h.IK,h.IQ⟩
 unfold frP;exact⟨b.IL,b.kinds,b.IH,by rw[ap];exact b.II,b.lines,b.line,b.bits,b.IJ,b.ready,b.next,b.IK,b.IQ⟩
theorem fm {p:PW} (h:p.Fits) (t k:Nat) (x:Int):(p.task t k x).Fits:=⟨h.IL,h.kinds,h.IH,by rw[ap];exact h.II,h.lines,h.line,h.bits,h.IJ,h.ready,h.next,h.IK,h.IQ⟩
theorem sD (p:PW) (a t:Nat) (l:List Int) (k:Nat) (b:t<p.II.length) (hk:k≠14):(frP p a t l).II.getD t bl k=p.II.getD t bl k:=by
 unfold frP;exact ia ({p with lines:=p.lines.set a l}:PW) t 14 k (-1) b hk
theorem jT (p:PW) (a t:Nat) (l:List Int):(frP p a t l).II.length=p.II.length:=ap _ t 14 (-1)
theorem jm (p:PW) (a t:Nat) (l:List Int) (x y:Int) (k:Nat) (b:t<p.II.length) (c:k≠1) (d:k≠2) (e:k≠14):(((frP p a t l).task t 1 x).task t 2 y).II.getD t bl k=p.II.getD t bl k:=by
 rw[ia _ t 2 k _ (by rw[ap,jT];exact b) d,ia _ t 1 k _ (by rw[jT];exact b) c,sD p a t l k b e]
