/- Qar -/
import Derived.Test.YtaejnmmpddbbjaaGreatDoorQaq
set_option maxRecDepth 100000
set_option maxHeartbeats 16000000
namespace Go.Proofs.YtaejnmmpddbbjaaGreatDoor
namespace Wd
open Go.RowKit Mem Bw Nums Mmu
theorem hJ (wb:Nat) (tag:Nat->Nat) (V:Nat->Value) (p:PW) (t:Nat) (x y:Int) (W:World) (bt:cb W wb tag V p) (q:p.Fits) (s:t<p.DY.length):
  Calls Tryz.prog 89 #[.pointer (some ⟨wb,0,none⟩),.int .i64 t,.int .i64 x,.int .i64 y] W fun r W'=>r=.returned (.tuple #[])∧cb W' wb tag V ((p.task t 1 x).task t 2 y)∧Kt tag tag W W':=by
 have A:(p.DY.length:Int)<=1000:=by have:=q.DY;omega
 have B:(t:Int)<(p.DY.length:Int):=oA;obtain⟨n,l,m⟩:=bt.o.DY.form oA;have a:=hid m;have d:=hid s;have b:=hid bt;have g:=hid (Kt.refl tag W);go_enter Tryz.func89,Tryz.ntmps89
 have e:=hid (am p t 1 x);have k:=bg b a;have C:=b.Ec a d (show 1<20 by omega);have w:=b.Ef a (t*20+1);obtain⟨b1,q1⟩:=b.task a d (show 1<20 by omega) x;have c:=hid b1;have h:=hid (g.trans q1);go_upto_region 1 with fail
 generalize World.setCell _ _ _=v at*;have e4:=hid (show V 3=.slice (some ⟨n,0,none⟩) (p.task t 1 x).DY.length l by rw[e.out];exact a);have k:=bg c a;have D:=c.Ec e4 (i:=t) (by rw[e.out];exact d) (show 2<20 by omega);have z:=c.Ef e4 (t*20+2);obtain⟨b2,u⟩:=c.task e4 (i:=t) (by rw[e.out];exact d) (show 2<20 by omega) y;have f:=hid b2;have j:=hid (h.trans u);go_wp2_with fail
 exact aX (aK rfl _ _ _) rfl ⟨rfl,f.out,j.out⟩
theorem uE (wb:Nat) (tag:Nat->Nat) (V:Nat->Value) (p:PW) (t:Nat) (W:World) (bt:cb W wb tag V p) (A:p.Fits):
  Calls Tryz.prog 90 #[.pointer (some ⟨wb,0,none⟩),.int .i64 t] W fun r W'=>r=.returned (.tuple #[])∧cb W' wb tag V {p with D6:=p.D6.map (noT t)}∧Kt tag tag W W':=by
 have G:(p.D6.length:Int)<=1000:=by have:=A.D6;omega
 obtain⟨J,n,cap6,e6,B⟩:=bt.o.D6.shape;have e:=hid e6;have w:=hid B;have s:=hid bt;go_enter Tryz.func90,Tryz.ntmps90
 go_wp2_with fail
 go_loopw [4] (fun i wr=>∃(k:Nat),k<=p.D6.length∧i=.int .i64 k∧Hid (cb wr wb tag V {p with D6:=fx (noT t) k p.D6})∧Hid (Kt tag tag W wr)) (fun i _=>p.D6.length - (intOf i).toNat)
 case atStart=>exact⟨0,oA,rfl,hid (by rw[fD];exact s),hid (Kt.refl _ _)⟩
 case round=>
  obtain⟨k,hk,rfl,a,f⟩:=hrel;by_cases c:k<p.D6.length
  ·have H:(k:Int)<(p.D6.length:Int):=oA;have C:=w.out oA;subst C;have j:k<(fx (noT t) k p.D6).length:=by rw[cS];exact c
   have q:V 6=.slice (some ⟨n,0,none⟩) (fx (noT t) k p.D6).length cap6:=by rw[cS];exact e
   have c6:=bg a e;have b:=a.o.D6;simp only at b;rw[q] at b;have l:=b.int j;have E:=b.frozen k;rw[eN _ _ _ c j] at l;have h:=hid (eO (noT (t:Int)) k p.D6 c);have m:=hid (eN (noT (t:Int)) k p.D6 c j);obtain⟨y,D⟩:∃y,p.D6[k]=y:=⟨_,rfl⟩
   rw[D] at l h m;by_cases d:y=(t:Int)
   ·obtain⟨z,x⟩:=a.En q k (-1);have g:=hid (show cb (wr.setCell ⟨n,k,none⟩ (.int .i64 (-1))) wb tag V {p with D6:=fx (noT t) (k+1) p.D6} by
     rw[h.out,show noT (t:Int) y= -1 from af d];exact z)
    have v:=hid (f.trans x);rw[d] at l;go_wp2_with fail
    exact⟨⟨k+1,oA,by go_num,g,v⟩,by simp[intOf];omega⟩
   ·have g:=hid (show cb wr wb tag V {p with D6:=fx (noT t) (k+1) p.D6} by
     rw[h.out,show noT (t:Int) y=y from ae d, <-m.out,cw];exact a)
    have I:(y==(t:Int))=false:=by simpa using d
    go_wp2_with fail
    exact⟨⟨k+1,oA,by go_num,g,f⟩,by simp[intOf];omega⟩
  ·obtain rfl:k=p.D6.length:=oA;have F:¬((p.D6.length:Int)<(p.D6.length:Int)):=oA;have c6:=bg a e;have u:=hid (show cb wr wb tag V {p with D6:=p.D6.map (noT t)} by rw[<-fY];exact a);go_wp2_with fail
   exact aX (aK rfl _ _ _) rfl ⟨rfl,u.out,f.out⟩
def ssP (p:PW) (t a:Nat) (s:Int):PW:={(({p with D6:=p.D6.map (noT t)}:PW).task t 9 s).task t 14 a with lines:=p.lines.set a (p.lines.getD a []++[(t:Int)])}
theorem ke (wb:Nat) (tag:Nat->Nat) (V:Nat->Value) (p0:PW) (t a:Nat) (s:Int) (W:World) (bt:cb W wb tag V p0) (hp:p0.Fits) (ht:t<p0.DY.length) (ha:a<p0.lines.length):
  Calls Tryz.prog 88 #[.pointer (some ⟨wb,0,none⟩),.int .i64 t,.int .i64 a,.int .i64 s] W fun r W'=>r=.returned (.tuple #[])∧∃tag',cb W' wb tag' V (ssP p0 t a s)∧Kt tag tag' W W':=by
 have aM:=hid (uE wb tag V p0 t W bt hp);have bN:(p0.lines.length:Int)<=1000:=by have:=hp.lines;omega
 have bL:(a:Int)<(p0.lines.length:Int):=oA;have bM:(p0.DY.length:Int)<=1000:=by have:=hp.DY;omega
 have bP:(t:Int)<(p0.DY.length:Int):=oA;have aN:=hid (show (p0.lines.getD a []).length<=1000 by rw[aa,ac ha];exact hp.line _ (aw ha));have al:=hid ha;obtain⟨g3,bG,e3⟩:=bt.o.DY.form oA;have C:=hid e3;have N:=hid ht;obtain⟨p,an⟩:∃p,({p0 with D6:=p0.D6.map (noT t)}:PW)=p:=⟨_,rfl⟩
 have ay:=hid an;rw[an] at aM;have el:p0.lines=p.lines:=by rw[<-an]
 have et:p0.DY=p.DY:=by rw[<-an]
 rw[el] at aN al bN bL;rw[et] at C N bM bP;have aq:=hid el;go_enter Tryz.func88,Tryz.ntmps88
 go_wp2_with fail
 refine aM.mono ?_;rintro r w0 ⟨rfl,H,h2⟩;have Z:=hid H;have K0:=hid h2;have L1:=hid (am p t 9 s);have c3:=bg Z C;have xa:=Z.Ec C N (show 9<20 by omega);have fa:=Z.Ef C (t*20+9);obtain⟨b1,q1⟩:=Z.task C N (show 9<20 by omega) s;have B1:=hid b1;have K1:=hid (K0.trans q1);go_upto_region 2 with fail
 generalize World.setCell _ _ _=W1 at*;have e4:=hid (show V 3=.slice (some ⟨g3,0,none⟩) (p.task t 9 s).DY.length bG by rw[L1.out];exact C);have c3:=bg B1 C;have xb:=B1.Ec e4 (i:=t) (by rw[L1.out];exact N) (show 14<20 by omega);have fb:=B1.Ef e4 (t*20+14);obtain⟨b2,q2⟩:=B1.task e4 (i:=t) (by rw[L1.out];exact N) (show 14<20 by omega) (a:Int);have B2:=hid b2;have K2:=hid (K1.trans q2);go_upto_region 3 with fail
 generalize World.setCell _ _ _=b at*;have B3:=B2;have K3:=K2;obtain⟨f,eL⟩:=B3.o.lines.form;have Q:=B3.o.lines;rw[eL] at Q;obtain⟨u,cu,hu⟩:=Q.at (j:=a) al;obtain⟨zs,ao⟩:∃zs,(p.lines).getD a []=zs:=⟨_,rfl⟩
 have bQ:InT b tag (12+3*a) 3 1 u (zs.length,ec zs):=by
  have H:InT b tag (12+3*a) 3 1 u (ci (p.lines) a):=hu;unfold ci at H;rw[ao] at H;exact H
 have F:=hid (show zs.length<=1000 from by rw[<-ao];exact aN);have bU:=hid ao;have HU:=hid (de bQ.1);have bT:=hid Q;have M:=hid (show V 4=.slice (some ⟨f,0,none⟩) p.lines.length p.lines.length from eL);have ax:=hid (fun X (h:Below b.heap.size b X)=>show X.frozen? ⟨f,a,none⟩=false from (Q.kp (T:=fun _=>False) (.Ed h) (fun _ _=>rfl) (fun _ _ e=>e)).fr a);have l:=hid (fun X (h:Below b.heap.size b X)=>show X.cell? ⟨wb,4,none⟩=some (.slice (some ⟨f,0,none⟩) p.lines.length p.lines.length) by rw[ah (B3.below h).r (k:=4) rfl,M.out]);have g:=hid (fun X (h:Below b.heap.size b X)=>(h.cell (aj _ _ cu)).trans cu);have BD:=hid (aC b 1);have av:=hid (fun X v (Y:List Int) (hz:Y=zs++[(t:Int)]) (h:Below b.heap.size b X) (m:X.ownsRow b.heap.size 3 1 v Y.length (ec Y))=>show cb (X.setCell ⟨f,a,none⟩ v) wb (gy tag b.heap.size (12+3*a)) V {(p.task t 9 s).task t 14 a with lines:=(p.lines).set a ((p.lines).getD a []++[(t:Int)])}∧Kt tag (gy tag b.heap.size (12+3*a)) W (X.setCell ⟨f,a,none⟩ v) from by
  obtain⟨bO,aW⟩:=Q.put (tag':=gy tag b.heap.size (12+3*a)) (w1:=X) (u:=v) (c:=(Y.length,ec Y)) (j:=a) al (fun j=>oA) (.Ed h) (fun k hk=>cV hk) ⟨m.mono (bF _),fun k e=>by
   unfold gy;rw[ae (by have:=(m.lt k e).1;omega)]⟩
  refine⟨B3.lines aW (fun k hk=>cV hk) ?_,K3.trans (Kt.of (tag':=gy tag b.heap.size (12+3*a)) aW (fun k e=>by rcases e with e|⟨j,e⟩<;>omega) (fun k hk=>cV hk))⟩;rw[au,M.out,jq _ _ al,ao, <-hz];exact bO)
 refine d7 (S:=fun X=>X.cell? ⟨wb,4,none⟩=some (.slice (some ⟨f,0,none⟩) p.lines.length p.lines.length)) (R:=fun X=>X.cell? ⟨f,a,none⟩=some u) [18] oK (l.out _ BD) (g.out _ BD) (fun bK bI=>?_);have q:=hid bK;have n:=hid bI;refine tF 0 (.pointer (some ⟨wb,0,none⟩)) rfl q (fun _=>n.out) ?_;simp only[jj];refine tF 1 (.pointer (some ⟨wb,0,none⟩)) rfl q (fun _=>n.out) ?_;simp only[jj];refine tF 2 (.pointer (some ⟨wb,4,none⟩)) rfl q (fun _=>n.out) ?_;simp only[jj];refine tG 3 (.slice (some ⟨f,0,none⟩) p.lines.length p.lines.length) rfl q (fun _=>n.out) ?_;simp only[jj];refine tF 4 (.int .i64 a) rfl q (fun _=>n.out) ?_;simp only[jj];refine tF 6 (.pointer (some ⟨wb,0,none⟩)) rfl q (fun _=>n.out) ?_;simp only[jj];refine tF 7 (.pointer (some ⟨wb,0,none⟩)) rfl q (fun _=>n.out) ?_;simp only[jj];refine tF 8 (.pointer (some ⟨wb,4,none⟩)) rfl q (fun _=>n.out) ?_;simp only[jj];refine tG 9 (.slice (some ⟨f,0,none⟩) p.lines.length p.lines.length) rfl q (fun _=>n.out) ?_;simp only[jj];refine tF 10 (.int .i64 a) rfl q (fun _=>n.out) ?_;simp only[jj];refine tF 11 (.pointer (some ⟨f,a,none⟩)) rfl q (fun _=>n.out) ?_;simp only[jj];refine eu (i:=12) (v:=u) rfl oK oK oK oK oK oK (fun _ _ _ h=>h) (Or.inl ⟨oR,fun W h=>by have h3:=h.2;clear h;go_simp⟩) q (fun _=>n.out) ?_;simp only[jj];refine tF 14 (.int .i64 t) rfl q (fun _=>n.out) ?_;simp only[jj];refine dw (rs:=[5,15]) oK oS (di.cons rfl (fun K d=>?_) (di.cons rfl (fun K d=>?_) di.nil))
 ·have Ea:=hid (show (b.alloc (.cells #[] 3)).drew.ownsRow b.heap.size 3 1 (.slice (some ⟨b.heap.size,0,none⟩) 0 0) 0 [] from (dF b #[] 0 (ar _) (bF _) oS));have E:=hid ((bal (ai _ b) (.cells #[] 3)).drew);go_simp
  refine d _ _ (l.out _ E) (fun _=>g.out _ E) (fun _ _=>?_)
  try simp only[Act.put,jD,jE,jF]
  generalize World.drew (World.alloc _ _)=G at*;refine dw (rs:=[13,15]) oK oS (di.cons rfl (fun K d=>?_) (di.cons rfl (fun K d=>?_) di.nil))
  ·obtain⟨aG,aB,aA,x,m,w,hg⟩:=gC Ea E.size (show ey G u zs from HU.below E) F;have a3:=hid x;have bb:=hid m;have ap:=hid (E.trans w);refine ff _ _ 22 rfl (.slice (some ⟨b.heap.size,0,none⟩) 0 0) u (.slice aG zs.length aB) rfl rfl a3 ?_;refine d _ _ (l.out _ ap) (fun _=>g.out _ ap) (fun _ _=>?_);simp only[jj];refine dw (rs:=[15]) oK oS (di.cons rfl (fun K d=>?_) di.nil);have bv:=hid (cD aA #[.int .i64 t] 3 0);have ab:=hid (bal ap (.cells #[.int .i64 t] 3));have bc:=hid (show (aA.alloc (.cells #[.int .i64 t] 3)).ownsRow b.heap.size 3 1 (.slice aG zs.length aB) zs.length (ec zs) from bb.alloc _);go_simp
   refine d _ _ (l.out _ ab) (fun _=>g.out _ ab) (fun _ _=>?_)
   try simp only[Act.put,jD,jE,jF]
   generalize World.alloc _ _=bV at*;generalize aA.heap.size=bR at*;refine dw (rs:=[16]) oK oS (di.cons rfl (fun K d=>?_) di.nil);obtain⟨aI,aD,aO,x,m,w⟩:=jO bc ab.size F bv;have a4:=hid x;have bj:=hid m;have y:=hid (ab.trans w);have br:=hid (l.out _ y);have bo:=hid (g.out _ y);refine ff _ _ 22 rfl (.slice aG zs.length aB) (.slice (some ⟨bR,0,none⟩) 1 1) (.slice aI (zs.length+1) aD) rfl rfl a4 ?_;refine d _ _ (l.out _ y) (fun _=>g.out _ y) (fun _ _=>?_);simp only[jj];refine tF 17 (.pointer (some ⟨f,a,none⟩)) rfl br (fun _=>bo.out) ?_;simp only[jj];have aU:=l.out _ y;have aT:=g.out _ y;have aV:=ax.out _ y;obtain⟨B,U⟩:=av.out aO (.slice aI (zs.length+1) aD) (zs++[(t:Int)]) rfl y bj;have I:=hid B;have O:=hid U;have P:=hid (show (aO.setCell ⟨f,a,none⟩ (.slice aI (zs.length+1) aD)).cell? ⟨wb,4,none⟩=some (.slice (some ⟨f,0,none⟩) p.lines.length p.lines.length) by rw[ah B.r (k:=4) rfl,M.out]);refine r1 18 rfl (fun K d=>?_);go_simp
   refine d _ _ P (eF oK) (fun _ _=>?_)
   try simp only[Act.put]
   refine d5 oK ?_ _;generalize World.setCell _ _ _=W6 at*;go_wp2_with fail
   exact aX (aK rfl _ _ _) rfl ⟨rfl,_,by unfold ssP;rw[ay.out,aq.out];exact I,O.out⟩
  ·have bz:=hid (cD G #[.int .i64 t] 3 0);have J:=hid (bal E (.cells #[.int .i64 t] 3));have a0:=hid (show (G.alloc (.cells #[.int .i64 t] 3)).ownsRow b.heap.size 3 1 (.slice (some ⟨b.heap.size,0,none⟩) 0 0) 0 [] from Ea.alloc _);have a9:=hid (show b.heap.size≠G.heap.size from fun e=>by have H:b.heap.size<G.heap.size:=(Ea.lt _ rfl).2;omega);go_simp
   refine d _ _ (l.out _ J) (fun _=>g.out _ J) (fun _ _=>?_)
   try simp only[Act.put,jD,jE,jF]
   generalize World.alloc _ _=bD at*;generalize G.heap.size=bS at*;refine dw (rs:=[13]) oK oS (di.cons rfl (fun K d=>?_) di.nil);obtain⟨aY,aR,bW,x,m,w,hg⟩:=gC a0 J.size (show ey bD u zs from HU.below J) F;have a5:=hid x;have bf:=hid m;have ad:=hid (J.trans w);have bA:=hid (hg.cell bz (fun e=>a9.out (aH e).symm));refine ff _ _ 22 rfl (.slice (some ⟨b.heap.size,0,none⟩) 0 0) u (.slice aY zs.length aR) rfl rfl a5 ?_;refine d _ _ (l.out _ ad) (fun _=>g.out _ ad) (fun _ _=>?_);simp only[jj];refine dw (rs:=[16]) oK oS (di.cons rfl (fun K d=>?_) di.nil);obtain⟨aJ,aE,aP,x,m,w⟩:=jO bf ad.size F bA;have a6:=hid x;have bk:=hid m;have z:=hid (ad.trans w);have bs:=hid (l.out _ z);have bp:=hid (g.out _ z);refine ff _ _ 22 rfl (.slice aY zs.length aR) (.slice (some ⟨bS,0,none⟩) 1 1) (.slice aJ (zs.length+1) aE) rfl rfl a6 ?_;refine d _ _ (l.out _ z) (fun _=>g.out _ z) (fun _ _=>?_);simp only[jj];refine tF 17 (.pointer (some ⟨f,a,none⟩)) rfl bs (fun _=>bp.out) ?_;simp only[jj];have aU:=l.out _ z;have aT:=g.out _ z;have aV:=ax.out _ z;obtain⟨B,U⟩:=av.out aP (.slice aJ (zs.length+1) aE) (zs++[(t:Int)]) rfl z bk;have I:=hid B;have O:=hid U;have P:=hid (show (aP.setCell ⟨f,a,none⟩ (.slice aJ (zs.length+1) aE)).cell? ⟨wb,4,none⟩=some (.slice (some ⟨f,0,none⟩) p.lines.length p.lines.length) by rw[ah B.r (k:=4) rfl,M.out]);refine r1 18 rfl (fun K d=>?_);go_simp
   refine d _ _ P (eF oK) (fun _ _=>?_);clear d K
   try simp only[Act.put]
   refine d5 oK ?_ _;generalize World.setCell _ _ _=W6 at*;go_wp2_with fail
   exact aX (aK rfl _ _ _) rfl ⟨rfl,_,by unfold ssP;rw[ay.out,aq.out];exact I,O.out⟩
 ·have az:=hid (show (b.alloc (.cells #[.int .i64 t] 3)).drew.cell? ⟨b.heap.size,0,none⟩=some (.int .i64 t) from cD b #[.int .i64 t] 3 0);have af:=hid (show Below b.heap.size b (b.alloc (.cells #[.int .i64 t] 3)).drew from (bal (ai _ b) (.cells #[.int .i64 t] 3)).drew);go_simp
  refine d _ _ (l.out _ af) (fun _=>g.out _ af) (fun _ _=>?_);clear d K
  try simp only[Act.put,jD,jE,jF]
  generalize World.drew (World.alloc _ _)=D at*;refine dw (rs:=[5]) oK oS (di.cons rfl (fun K d=>?_) di.nil);have a2:=hid (show (D.alloc (.cells #[] 3)).ownsRow b.heap.size 3 1 (.slice (some ⟨D.heap.size,0,none⟩) 0 0) 0 [] from (dF D #[] 0 af.size (bF _) oS));have L:=hid (show Below b.heap.size b (D.alloc (.cells #[] 3)) from bal af (.cells #[] 3));have bB:=hid (show (D.alloc (.cells #[] 3)).cell? ⟨b.heap.size,0,none⟩=some (.int .i64 t) from (bJ _ _ _ (aj _ _ az)).trans az);have ba:=hid (show (D.heap.size)≠b.heap.size from fun e=>by have:=aj _ _ az;simp only at this;omega);go_simp
  refine d _ _ (l.out _ L) (fun _=>g.out _ L) (fun _ _=>?_)
  try simp only[Act.put,jD,jE,jF]
  generalize World.alloc _ _=bE at*;generalize D.heap.size=bH at*;refine dw (rs:=[13]) oK oS (di.cons rfl (fun K d=>?_) di.nil);obtain⟨aZ,aS,bX,x,m,w,hg⟩:=gC a2 L.size (show ey bE u zs from HU.below L) F;have a7:=hid x;have bh:=hid m;have ag:=hid (L.trans w);have bC:=hid (hg.cell bB (fun e=>ba.out (aH e).symm));refine ff _ _ 22 rfl (.slice (some ⟨bH,0,none⟩) 0 0) u (.slice aZ zs.length aS) rfl rfl a7 ?_;refine d _ _ (l.out _ ag) (fun _=>g.out _ ag) (fun _ _=>?_);simp only[jj];refine dw (rs:=[16]) oK oS (di.cons rfl (fun K d=>?_) di.nil);obtain⟨aL,aF,aQ,x,m,w⟩:=jO bh ag.size F bC;have a8:=hid x;have bn:=hid m;have A:=hid (ag.trans w);have bu:=hid (l.out _ A);have bq:=hid (g.out _ A);refine ff _ _ 22 rfl (.slice aZ zs.length aS) (.slice (some ⟨b.heap.size,0,none⟩) 1 1) (.slice aL (zs.length+1) aF) rfl rfl a8 ?_;refine d _ _ (l.out _ A) (fun _=>g.out _ A) (fun _ _=>?_);simp only[jj];refine tF 17 (.pointer (some ⟨f,a,none⟩)) rfl bu (fun _=>bq.out) ?_;simp only[jj];have aU:=l.out _ A;have aT:=g.out _ A;have aV:=ax.out _ A;obtain⟨B,U⟩:=av.out aQ (.slice aL (zs.length+1) aF) (zs++[(t:Int)]) rfl A bn;have I:=hid B;have O:=hid U;have P:=hid (show (aQ.setCell ⟨f,a,none⟩ (.slice aL (zs.length+1) aF)).cell? ⟨wb,4,none⟩=some (.slice (some ⟨f,0,none⟩) p.lines.length p.lines.length) by rw[ah B.r (k:=4) rfl,M.out]);refine r1 18 rfl (fun K d=>?_);go_simp
  refine d _ _ P (eF oK) (fun _ _=>?_)
  try simp only[Act.put]
  refine d5 oK ?_ _;generalize World.setCell _ _ _=W6 at*;go_wp2_with fail
  exact aX (aK rfl _ _ _) rfl ⟨rfl,_,by unfold ssP;rw[ay.out,aq.out];exact I,O.out⟩
def frP (p:PW) (a t:Nat) (l:List Int):PW:=({p with lines:=p.lines.set a l}:PW).task t 14 (-1)
theorem oo (wb:Nat) (tag:Nat->Nat) (V:Nat->Value) (p:PW) (a:Nat) (i:Bool) (W:World) (bt:cb W wb tag V p) (f:p.Fits) (e:a<p.lines.length) (h:p.lines.getD a []=[]):
  Calls Tryz.prog 87 #[.pointer (some ⟨wb,0,none⟩),.int .i64 a,.bool i] W fun r W'=>r=.returned (.int .i64 (-1))∧W=W':=by
 have m:(p.lines.length:Int)<=1000:=by have:=f.lines;omega
 have l:(a:Int)<(p.lines.length:Int):=oA;obtain⟨k,c⟩:=bt.o.lines.form;have d:=bt.o.lines;rw[c] at d;obtain⟨u,cu,b⟩:=d.at e;unfold ci at b;rw[h] at b;have j:=bg bt c;obtain⟨q,g,cap,rfl, -⟩:=b.shape;simp only[List.length_nil] at cu;go_enter Tryz.func87,Tryz.ntmps87
 go_wp2_with fail
 go_ret
 exact⟨rfl,rfl⟩
theorem qK (wb:Nat) (tag:Nat->Nat) (V:Nat->Value) (p:PW) (a:Nat) (b:Bool) (W:World) (bt:cb W wb tag V p) (f:p.Fits) (e:a<p.lines.length) (t:Nat) (l:List Int) (h:p.lines.getD a []=(t:Int)::l) (v:t<p.DY.length) (L:decide (p.DY.getD t bl 9=4)≠b):
  Calls Tryz.prog 87 #[.pointer (some ⟨wb,0,none⟩),.int .i64 a,.bool b] W fun r W'=>r=.returned (.int .i64 (-1))∧W=W':=by
 have H:(p.lines.length:Int)<=1000:=by have:=f.lines;omega
 have F:(a:Int)<(p.lines.length:Int):=oA;obtain⟨E,j⟩:=bt.o.lines.form;have m:=bt.o.lines;rw[j] at m;obtain⟨u,cu,c⟩:=m.at e;unfold ci at c;rw[h] at c;have B:=bg bt j;obtain⟨g,cap,rfl⟩:=c.form oS;have J:(((t:Int)::l).length:Int)=(l.length:Int)+1:=oS;have q:=hid (show l.length+1<=1000 by
  have k:=f.line _ (aw e);rw[aa,ac e,aT] at h;rw[h] at k;exact k)
 have I:((l.length+1:Nat):Int)<=1000:=by have:=q.out;omega
 have w:=c.int (show 0<((t:Int)::l).length by simp);simp only[dO] at cu;simp only[aS] at w;obtain⟨D,C,d⟩:=bt.o.DY.form oA;have z:=hid d;have G:(p.DY.length:Int)<=1000:=by have:=f.DY;omega
 have M:(t:Int)<(p.DY.length:Int):=oA;have A:=bg bt d;have x:=bt.Ec d v (show 9<20 by omega);have s:¬(((l.length+1:Nat):Int)=0):=oA;have K:(((l.length+1:Nat):Int)==0)=false:=by simpa using s
 have i:=hid (show (p.DY.getD t bl 9==4)= !b by
  rw[show (p.DY.getD t bl 9==4)=decide (p.DY.getD t bl 9=4) from rfl]
  cases hd:decide (p.DY.getD t bl 9=4)<;>cases b<;>simp_all)
 generalize p.DY.getD t bl 9=y at x i;have n:=i.out
 cases b with
 |true=>
  simp only[Bool.not_true] at n;go_enter Tryz.func87,Tryz.ntmps87
  go_wp2_with fail
  go_ret
  exact⟨rfl,rfl⟩
 |false=>
  simp only[Bool.not_false] at n;go_enter Tryz.func87,Tryz.ntmps87
  go_wp2_with fail
  go_ret
  exact⟨rfl,rfl⟩
theorem ld (wb:Nat) (tag:Nat->Nat) (V:Nat->Value) (p:PW) (a:Nat) (J:Bool) (W:World) (bt:cb W wb tag V p) (H:p.Fits) (x:a<p.lines.length) (t:Nat) (l:List Int) (I:p.lines.getD a []=(t:Int)::l) (N:t<p.DY.length) (hs:decide (p.DY.getD t bl 9=4)=J):
  Calls Tryz.prog 87 #[.pointer (some ⟨wb,0,none⟩),.int .i64 a,.bool J] W fun r W'=>r=.returned (.int .i64 t)∧∃tag',cb W' wb tag' V (frP p a t l)∧Kt tag tag' W W':=by
 have aK:(p.lines.length:Int)<=1000:=by have:=H.lines;omega
 have aG:(a:Int)<(p.lines.length:Int):=oA;obtain⟨b,E⟩:=bt.o.lines.form;have F:=bt.o.lines;rw[E] at F;obtain⟨u,cu,n⟩:=F.at x;unfold ci at n;rw[I] at n;have c4:=bg bt E;obtain⟨g,cap,rfl⟩:=n.form oS;have aq:(((t:Int)::l).length:Int)=(l.length:Int)+1:=oS;have Z:=hid (show l.length+1<=1000 by
  have m:=H.line _ (aw x);rw[aa,ac x,aT] at I;rw[I] at m;exact m)
 have aL:((l.length+1:Nat):Int)<=1000:=by have:=Z.out;omega
 have x0:=n.int (show 0<((t:Int)::l).length by simp);simp only[dO] at cu;simp only[aS] at x0;obtain⟨g3,az,D⟩:=bt.o.DY.form oA;have A:=hid D;have aJ:(p.DY.length:Int)<=1000:=by have:=H.DY;omega
 have aO:(t:Int)<(p.DY.length:Int):=oA;have c3:=bg bt D;have x9:=bt.Ec D N (show 9<20 by omega);have av:¬(((l.length+1:Nat):Int)=0):=oA;have aM:(((l.length+1:Nat):Int)==0)=false:=by simpa using av
 have M:=hid (show (p.DY.getD t bl 9==4)=J from hs);generalize p.DY.getD t bl 9=y at x9 M;have aN:=M.out;have U:=hid bt;have ab:=hid F;have ad:=hid N;have Q:=hid x;have L:=hid (show V 4=.slice (some ⟨b,0,none⟩) p.lines.length p.lines.length from E);have P:=hid cu;have aH:l.length+1<=cap:=by
  rcases n.1.2 with ⟨m,_⟩|⟨_,_,_,m,_,_,h2,_⟩
  ·cases m
  ·cases m;exact h2
 have aI:((l.length+1:Nat):Int)<=(cap:Int):=oA;obtain⟨q1,ay⟩:∃q1,(if cap=1 then (some ⟨g,0,none⟩:Option Addr) else some ⟨g,1,none⟩)=q1:=⟨_,rfl⟩
 have aF:(1:Int)<=(l.length:Int)+1:=oA;have HU:=hid (show ey W (.slice q1 l.length (cap - 1)) l from⟨q1,g,1,cap - 1,rfl,fun hl=>by rw[<-ay,ae oA],fun j hj=>by
  have m:=n.int (show j+1<((t:Int)::l).length by simp;omega);rw[Nat.add_comm 1 j];simpa using m⟩)
 have C:=hid (fun X (h:Below W.heap.size W X)=>show X.cell? ⟨wb,4,none⟩=some (.slice (some ⟨b,0,none⟩) p.lines.length p.lines.length) by rw[ah (U.below h).r (k:=4) rfl,L.out]);have B:=hid (fun X (h:Below W.heap.size W X)=>show X.cell? ⟨b,a,none⟩=some (.slice (some ⟨g,0,none⟩) (l.length+1) cap) from (h.cell (aj _ _ P)).trans P);have am:=hid (fun X (h:Below W.heap.size W X)=>show X.frozen? ⟨b,a,none⟩=false from (ab.kp (T:=fun _=>False) (.Ed h) (fun _ _=>rfl) (fun _ _ e=>e)).fr a);have O:Hid (Below W.heap.size W W.drew):=hid (aC W 1);have al:=hid (fun X v (h:Below W.heap.size W X) (G:X.ownsRow W.heap.size 3 1 v l.length (ec l))=>show cb (X.setCell ⟨b,a,none⟩ v) wb (gy tag W.heap.size (12+3*a)) V {p with lines:=p.lines.set a l}∧Kt tag (gy tag W.heap.size (12+3*a)) W (X.setCell ⟨b,a,none⟩ v) from by
  obtain⟨ax,ag⟩:=ab.put (tag':=gy tag W.heap.size (12+3*a)) (w1:=X) (u:=v) (c:=(l.length,ec l)) (j:=a) Q (fun j=>oA) (.Ed h) (fun k hk=>cV hk) ⟨G.mono (bF _),fun j e=>by
   unfold gy;rw[ae (by have:=(G.lt j e).1;omega)]⟩
  refine⟨U.lines ag (fun k hk=>cV hk) ?_,Kt.of (tag':=gy tag W.heap.size (12+3*a)) ag (fun k e=>by rcases e with e|⟨j,e⟩<;>omega) (fun k hk=>cV hk)⟩;rw[au,L.out,jq _ _ Q];exact ax)
 clear bt H x I E F n hs D N M aq
 cases J
 all_goals
  go_enter Tryz.func87,Tryz.ntmps87
  go_wp2_with fail
  clear c4 cu x0 c3 x9;refine d7 (S:=fun X=>X.cell? ⟨wb,4,none⟩=some (.slice (some ⟨b,0,none⟩) p.lines.length p.lines.length)) (R:=fun X=>X.cell? ⟨b,a,none⟩=some (.slice (some ⟨g,0,none⟩) (l.length+1) cap)) [16] oK (C.out _ O) (B.out _ O) (fun ao an=>?_);have f:=hid ao;have d:=hid an;refine tF 0 (.pointer (some ⟨wb,0,none⟩)) rfl f (fun _=>d.out) ?_;simp only[jj];refine tF 1 (.pointer (some ⟨wb,0,none⟩)) rfl f (fun _=>d.out) ?_;simp only[jj];refine tF 2 (.pointer (some ⟨wb,4,none⟩)) rfl f (fun _=>d.out) ?_;simp only[jj];refine tG 3 (.slice (some ⟨b,0,none⟩) p.lines.length p.lines.length) rfl f (fun _=>d.out) ?_;simp only[jj];refine tF 4 (.int .i64 a) rfl f (fun _=>d.out) ?_;simp only[jj];refine tF 6 (.pointer (some ⟨wb,0,none⟩)) rfl f (fun _=>d.out) ?_;simp only[jj];refine tF 7 (.pointer (some ⟨wb,0,none⟩)) rfl f (fun _=>d.out) ?_;simp only[jj];refine tF 8 (.pointer (some ⟨wb,4,none⟩)) rfl f (fun _=>d.out) ?_;simp only[jj];refine tG 9 (.slice (some ⟨b,0,none⟩) p.lines.length p.lines.length) rfl f (fun _=>d.out) ?_;simp only[jj];refine tF 10 (.int .i64 a) rfl f (fun _=>d.out) ?_;simp only[jj];refine tF 11 (.pointer (some ⟨b,a,none⟩)) rfl f (fun _=>d.out) ?_;simp only[jj];refine eu (i:=12) (v:=.slice (some ⟨g,0,none⟩) (l.length+1) cap) rfl oK oK oK oK oK oK (fun _ _ _ h=>h) (Or.inl ⟨oR,fun W h=>by have h3:=h.2;clear h;go_simp⟩) f (fun _=>d.out) ?_;simp only[jj];refine tF 13 (.slice q1 l.length (cap - 1)) rfl f (fun _=>d.out) ?_;simp only[jj];have E5:=hid (show (W.alloc (.cells #[] 3)).drew.ownsRow W.heap.size 3 1 (.slice (some ⟨W.heap.size,0,none⟩) 0 0) 0 [] from (dF W #[] 0 (ar _) (bF _) oS));have s:=hid ((bal (ai _ W) (.cells #[] 3)).drew);refine r1 5 rfl (fun K w=>?_);go_simp
  refine w _ _ (C.out _ s) (fun _=>B.out _ s) (fun _ _=>?_)
  try simp only[Act.put,jD,jE,jF]
  generalize World.drew (World.alloc _ _)=X5 at*;obtain⟨q',c',Y,hr,G,hb, -⟩:=gC E5 s.size (HU.below s) (by have:=Z.out;omega);have HR:=hid hr;have HO:=hid G;have q:=hid (s.trans hb);have SY:=hid (C.out _ q);have RY:=hid (B.out _ q);refine r1 14 rfl (fun K w=>?_);refine ff _ _ 22 rfl (.slice (some ⟨W.heap.size,0,none⟩) 0 0) (.slice q1 l.length (cap - 1)) (.slice q' l.length c') rfl rfl HR ?_;refine w _ _ SY (fun _=>RY.out) (fun _ _=>?_);simp only[jj];refine tF 15 (.pointer (some ⟨b,a,none⟩)) rfl SY (fun _=>RY.out) ?_;simp only[jj];have aB:=C.out _ q;have aA:=B.out _ q;have aE:=am.out _ q;obtain⟨af,ap⟩:=al.out Y _ q HO;have z:=hid af;have K6:=hid ap;have S6:=hid (show (Y.setCell ⟨b,a,none⟩ (.slice q' l.length c')).cell? ⟨wb,4,none⟩=some (.slice (some ⟨b,0,none⟩) p.lines.length p.lines.length) by rw[ah af.r (k:=4) rfl,L.out]);refine r1 16 rfl (fun K w=>?_);go_simp
  refine w _ _ S6 (eF oK) (fun _ _=>?_)
  try simp only[Act.put]
  refine d5 oK ?_ _;generalize World.setCell _ _ _=W6 at*;have c3:=bg z A;have aP:=z.Ec A ad (show 14<20 by omega);have aD:=z.Ef A (t*20+14);obtain⟨b7,k7⟩:=z.task A ad (show 14<20 by omega) (-1);have B7:=hid b7;have K7:=hid (K6.trans k7);go_wp2_with fail
  go_ret
  exact⟨rfl,_,B7.out,K7.out⟩
