/- Ubd -/
import Derived.Test.YtnccmdndkmmhcaaGreatDoorUbc
set_option maxRecDepth 100000
set_option maxHeartbeats 16000000
namespace Go.Proofs.YtnccmdndkmmhcaaGreatDoor
namespace Wd
open Go.RowKit Mem Bw Nums Mmu
def neW (W:World) (g n:Nat):Nat:=(List.range n).countP fun i=>match W.cell? ⟨g,i*7,none⟩ with|some (.int _ x)=>x !=0|_=>false
theorem uc {W:World} {wb:Nat} {tag:Nat->Nat} {V:Nat->Value} {q:PW} {g cap n:Nat} (bt:cb W wb tag V q) (e:V 2=.slice (some ⟨g,0,none⟩) n cap) (a:q.IH.length=n):neW W g n=neS q.IH:=by
 subst a;unfold neW neS;refine List.countP_congr fun i hi=>?_;rw[bt.Jy e (List.mem_range.1 hi)]
theorem sY {r:Nat->Nat} (m c0 t:Nat) (p:PW) (Q:nds p<m+1) (hi:Inv p) (G:Up r p.IH) (hl:∀l∈p.IK,l.length<=100) (ht:t<p.IH.length):DR 82 c0 t p (rvN (drF (m+1)) t (neS p.IH) p):=by
 intro W wb tag V bt x S;obtain⟨q2,g,cap,e2,u⟩:=bt.o.IH.shape;have aa:=u oA;subst aa;have J:=hid e2;have i:=hid (kF wb V p t W (bt.view hi.fits hl) G);have T:=hid hl;have A:=hid (And.intro x S);obtain⟨P,F⟩:∃P,rvN (drF (m+1)) t (neS p.IH) p=P:=⟨_,rfl⟩
 rw[F];have f:=hid (show nds p<m+1∧Inv p∧Up r p.IH∧∃k,neS p.IH<=k∧rvN (drF (m+1)) t k p=P from⟨Q,hi,G,_,aq _,F⟩);have I:=hid bt;clear u Q hi G hl F bt S e2;go_enter Tryz.func82,Tryz.ntmps82
 go_wp2_with fail
 refine i.mono ?_;rintro y w1 ⟨rfl,rfl⟩;go_wp2_with fail
 clear i x
 go_loopw [3] (fun v wr=>∃(z:Int) (q:PW) (tg:Nat->Nat),v=.int .i64 z∧Hid (z=luF q.IH t q.IH.length)∧Hid (nds q<m+1∧Inv q∧Up r q.IH∧q.IK=p.IK∧q.IH.length=p.IH.length∧∃k,neS q.IH<=k∧rvN (drF (m+1)) t k q=P)∧Hid (cb wr wb tg V q)∧Hid (Kt tag tg W wr)) (fun _ wr=>neW wr g p.IH.length)
 case atStart=>exact⟨_,p,tag,rfl,hid rfl,hid ⟨f.1,f.2.1,f.2.2.1,rfl,rfl,f.2.2.2⟩,I,hid (ew _ _)⟩
 case round=>
  obtain⟨z,q,tg,rfl,B,d,w,h⟩:=hrel;clear f I;have x2:wr.cell? ⟨c0,0,none⟩=some (.int .i64 t):=h.cell A.1 A.2;have L:=hid (h.Jk A.1 A.2);have C:=hid (show (luF q.IH t q.IH.length= -1∧q=P)∨∃j:Nat,luF q.IH t q.IH.length=j∧j<q.IH.length∧(q.IH.getD j eS) 0≠0∧(nds (drF (m+1) q j)<m+1∧Inv (drF (m+1) q j)∧Up r (drF (m+1) q j).IH∧(drF (m+1) q j).IK=p.IK∧(drF (m+1) q j).IH.length=p.IH.length∧∃k,neS (drF (m+1) q j).IH<=k∧rvN (drF (m+1)) t k (drF (m+1) q j)=P)∧neS (drF (m+1) q j).IH<neS q.IH by
   obtain⟨Z,h2,E,h4,h5,k,h6,M⟩:=d.out;rcases iB q.IH t q.IH.length with ⟨-,e⟩|⟨-,j, -,e, -, -⟩
   ·exact .inl ⟨e,by rw[<-M,jv e]⟩
   ·obtain⟨s,n⟩:=sM E e;obtain⟨i1,i2, -⟩:=nV (m+1) q j Z h2 s n;obtain⟨u1,u2⟩:=jY (m+1) q j E;obtain⟨a,b⟩:=Dk E e h6 M;exact .inr ⟨j,e,s,n,⟨oA,i1,u1,(jX _ _ _).trans h4,u2.1.trans h5,b⟩,a⟩)
  rcases C.out with ⟨e,u⟩|⟨j,e,s,n,O,N⟩
  ·obtain rfl:z= -1:=B.trans e;have hb:((-1:Int) != -1)=false:=rfl;have U:=hid u;clear C B d e u x2 L;go_wp2_with fail
   exact aH (aF rfl _ _ _) rfl ⟨rfl,tg,by rw[<-U.out];exact w,h.out⟩
  ·obtain rfl:z=(j:Int):=B.trans e;have hb:((j:Int) != -1)=true:=bne_iff_ne.2 oA;have D:=hid (tM (m+1) q j wr wb tg V d.1 d.2.1 s n w);have c:=hid O;have K:=hid (show neS (drF (m+1) q j).IH<neW wr g p.IH.length by rw[uc w J d.2.2.2.2.1];exact N);generalize drF (m+1) q j=R at D c K;have Y:=hid x2;clear C B d e s n O N w x2;go_wp2_with fail
   refine D.mono ?_;rintro y w2 ⟨rfl,ab,b2,k2⟩;have x4:w2.cell? ⟨c0,0,none⟩=some (.int .i64 t):=k2.cell Y L;have H:=hid b2;have X:=hid (h.trans k2);have i:=hid (kF wb V R t w2 (b2.view c.2.1.fits (by rw[c.2.2.2.1];exact T)) c.2.2.1);clear b2 k2 D h;go_wp2_with fail
   refine i.mono ?_;rintro y w3 ⟨rfl,rfl⟩;clear i;go_wp2_with fail
   refine⟨⟨_,R,ab,rfl,hid rfl,c,H,X⟩,?_⟩;show neW w2 g p.IH.length<neW wr g p.IH.length
   rw[uc H J c.2.2.2.2.1];exact K
theorem Ap {r:Nat->Nat} {m t n j:Nat} {q P:PW} (d:nds q<m+1) (e:Inv q) (f:TL q) (b:Up r q.IH) (g:luF q.IH t q.IH.length=j) (l:neS q.IH<=n) (h:rvN (drR (m+1)) t n q=P):
  (nds (drR (m+1) q j)<m+1∧Inv (drR (m+1) q j)∧TL (drR (m+1) q j)∧Up r (drR (m+1) q j).IH∧(drR (m+1) q j).IH.length=q.IH.length∧∃k,neS (drR (m+1) q j).IH<=k∧rvN (drR (m+1)) t k (drR (m+1) q j)=P)∧neS (drR (m+1) q j).IH<neS q.IH:=by
 obtain⟨hl,c⟩:=sM b g;have i:=uB d e f hl c;obtain⟨i1,i2, -⟩:=(ju (m+1)).1 q j d e hl c;have a:=CM (jY (m+1) q j b).2 (o4 b) c;rw[i];refine⟨⟨oA,i1,(ju (m+1)).2 q j d e hl c f,(jY (m+1) q j b).1,(jY (m+1) q j b).2.1,?_⟩,a⟩
 cases n with
 |zero=>omega
 |succ n=>exact⟨n,oA,by rw[<-h,rG g]⟩
theorem lp (a:Int) (p:PW) (B:p.Fits) (hl:∀l∈p.IK,l.length<=100) (s:Snd p) (W:World) (wb:Nat) (tag:Nat->Nat) (V:Nat->Value) (bt:cb W wb tag V p):
  Calls Tryz.prog 39 #[.pointer (some ⟨wb,0,none⟩),.int .i64 a] W fun x F=>x=.returned (.int .i64 (fh p a))∧∃tag',Kt tag tag' W F∧(fh p a=0->∃V',cb F wb tag' V' (j6 p a))∧(fh p a≠0->F=W):=by
 have u:=hid (mK wb V p a W (bt.view B hl));by_cases d:fh p a=0
 rotate_left
 ·have c:=hid d;have ad:(fh p a !=0)=true:=by simpa using d
  generalize fh p a=x at u c ad ⊢;go_enter Tryz.func39,Tryz.ntmps39
  go_wp2_with fail
  refine u.mono ?_;rintro q w1 ⟨rfl,rfl⟩;go_wp2_with fail
  go_ret
  exact⟨rfl,tag,ew _ _,fun h=>(absurd h c),fun _=>rfl⟩
 obtain⟨t,rfl,ht,n⟩:=mJ d;obtain⟨r,K⟩:=rL s;obtain⟨q2,g,cap,e2,I⟩:=bt.o.IH.shape;have J:=I oA;subst J;have N:=hid e2;have Q:=hid (show j6 p t=rvN (drR (nds p+1)) t (neS p.IH) p by rw[uy s d,Hs B s (dM _) K]);obtain⟨P,G⟩:∃P,rvN (drR (nds p+1)) t (neS p.IH) p=P:=⟨_,rfl⟩
 rw[G] at Q;have f:=hid (show nds p<nds p+1∧Inv p∧TL p∧Up r p.IH∧∃k,neS p.IH<=k∧rvN (drR (nds p+1)) t k p=P from⟨dM _,hZ B s,oH s,K,_,aq _,G⟩);have z:=hid (t8 wb V p t W (bt.view B hl) K);have D:=hid bt;rw[d] at u ⊢;generalize nds p+1=m1 at f G;obtain⟨m,rfl⟩:∃m,m1=m+1:=⟨m1 - 1,by have:=f.1;omega⟩
 go_enter Tryz.func39,Tryz.ntmps39
 go_wp2_with fail
 refine u.mono ?_;rintro q w1 ⟨rfl,rfl⟩;go_wp2_with fail
 refine z.mono ?_;rintro q w1 ⟨v,rfl,hv,d⟩;have HV:=hid hv;replace D:=hid (D.below d);have aa:=hid (bp (tag:=tag) d);go_wp2_with fail
 go_loopw [6] (fun v wr=>∃(q:PW) (tg:Nat->Nat),Hid (ed wr v (mdL q.IH t q.IH.length))∧Hid (nds q<m+1∧Inv q∧TL q∧Up r q.IH∧q.IH.length=p.IH.length∧∃k,neS q.IH<=k∧rvN (drR (m+1)) t k q=P)∧Hid (cb wr wb tg V q)∧Hid (Kt tag tg W wr)) (fun _ wr=>neW wr g p.IH.length)
 case atStart=>exact⟨p,tag,HV,hid ⟨f.1,f.2.1,f.2.2.1,f.2.2.2.1,rfl,f.2.2.2.2⟩,D,aa⟩
 case round=>
  obtain⟨q,tg,w,i,C,O⟩:=hrel;have HC:=hid (show (mdL q.IH t q.IH.length=[]∧q=P)∨∃(L:List Int) (j:Nat),mdL q.IH t q.IH.length=L++[(j:Int)]∧j<q.IH.length∧(q.IH.getD j eS) 0≠0∧(nds (drR (m+1) q j)<m+1∧Inv (drR (m+1) q j)∧TL (drR (m+1) q j)∧Up r (drR (m+1) q j).IH∧(drR (m+1) q j).IH.length=p.IH.length∧∃k,neS (drR (m+1) q j).IH<=k∧rvN (drR (m+1)) t k (drR (m+1) q j)=P)∧neS (drR (m+1) q j).IH<neS q.IH by
   obtain⟨A,S,h3,T,h5,k,h6,U⟩:=i.out;rcases iB q.IH t q.IH.length with ⟨e1,e⟩|⟨L,j,e1,e, -, -⟩
   ·exact .inl ⟨e1,by rw[<-U,jv e]⟩
   ·obtain⟨H,n⟩:=sM T e;obtain⟨⟨a1,a2,a3,a4,a5,a6⟩,b⟩:=Ap A S h3 T e h6 U;exact .inr ⟨L,j,e1,H,n,⟨a1,a2,a3,a4,a5.trans h5,a6⟩,b⟩)
  rcases HC.out with ⟨e,I⟩|⟨L,j,e,H,n,hN,hM⟩
  ·rw[e] at w;obtain⟨qv,R,Z,cv,rfl, -, -⟩:=w.out;have HX:=hid I;have ag:¬((0:Int)<(([]:List Int).length:Int)):=oS;go_wp2_with fail
   go_ret
   exact⟨rfl,tg,O.out,V,by rw[Q.out, <-HX.out];exact C⟩
  ·rw[e] at w;obtain⟨qv,R,Z,cv,rfl,Y,ai⟩:=w.out;have J:=Y oS;subst J;have cl:wr.cell? ⟨R,Z+L.length,none⟩=some (.int .i64 (j:Int)):=by
    have:=ai L.length oS;simpa using this
   have af:((L++[(j:Int)]).length:Int)=(L.length:Int)+1:=oS;have al:(L.length:Int)<=1000:=by
    have A:=xF q.IH t q.IH.length;rw[e,ax] at A;have S:=i.2.1.fits.IH;simp at A;omega
   generalize (L++[(j:Int)]).length=ln at af Y;have ag:(0:Int)<(ln:Int):=oA;have E:=hid (sV (m+1) q j wr wb tg V i.1 i.2.1 i.2.2.1 H C);rw[ae n,ae n] at E;have c:=hid hN;have z:=hid (show neS (drR (m+1) q j).IH<neW wr g p.IH.length by rw[uc C N i.2.2.2.2.1];exact hM);generalize drR (m+1) q j=q' at E c z;go_wp2_with fail
   refine E.mono ?_;rintro y w2 ⟨rfl,aj,b2,k2⟩;have ab:=hid (t8 wb V q' t w2 (b2.view c.2.1.fits c.2.2.1.len) c.2.2.2.1);have B2:=hid b2;have K2:=hid (O.trans k2);go_wp2_with fail
   refine ab.mono ?_;rintro y w3 ⟨v3,rfl,ah,X⟩;have ac:=hid ah;have M:=hid (B2.below X);have K3:=hid (K2.trans (bp X));go_wp2_with fail
   refine⟨⟨q',aj,ac,c,M,K3⟩,?_⟩;show neW w3 g p.IH.length<neW wr g p.IH.length
   rw[uc M N c.2.2.2.2.1];exact z
theorem Gx (a:Array Value) (W:World):(callFunc 82 a).run Tryz.prog W=.ok (.enter 82 a) W:=by
 go_simp
theorem sZ (c1 c2 c0:Nat) (a:Int) (p:PW) (c:p.Fits) (hl:∀l∈p.IK,l.length<=100) (b:Snd p):r5 156 #[ptr c1,ptr c2] (je [(c1,.int .i64 a),(c2,.func (.func 82) #[] #[.pointer (some ⟨c0,0,none⟩)]),(c0,.int .i64 a)]) eV p (j6 p a) (fh p a):=
 vD _ c1 c2 c0 a p (rvN (drF (nds p+1)) a.toNat (neS p.IH) p) _ c hl Gx fun e=>by
  obtain⟨j,rfl,f, -⟩:=mJ e;obtain⟨r,d⟩:=rL b;rw[ah];exact⟨(rH _ p (dM _) (hZ c b) d).1,FR (dM _) (hZ c b) (oH b) d,uy b e,sY (nds p) c0 j p (dM _) (hZ c b) d hl f⟩
theorem Ct (w:World):ed w (.slice none 0 0) []:=⟨none,0,0,0,rfl,fun h=>absurd h (dG _),fun _ a=>absurd a (dG _)⟩
def unL (p:PW) (a:Int):List Int:=if p4 p=true∧fh p a=0 then mdL p.IH a.toNat p.IH.length else []
theorem DE {p:PW} {t m j:Nat} (c:t<=j) (d:j<t+m) (b:j<p.IH.length) (a:p.IH[j] 0≠0):usd p t m=true:=by
 cases h:usd p t m with
 |true=>rfl
 |false=>have:=yJ h b a;omega
theorem AF {p:PW} {t m:Nat} (h:∀j (e:j<p.IH.length),t<=j->j<t+m->p.IH[j] 0=0):usd p t m=false:=by
 unfold usd;rw[bO];intro f d;obtain⟨i,hi⟩:=List.mem_iff_getElem?.1 d;rw[List.getElem?_take] at hi;by_cases a:i<m
 ·rw[ag a,dL] at hi;obtain⟨b,c⟩:=List.getElem?_eq_some_iff.1 hi;have:=h (t+i) b oA oA;rw[c] at this;simp[this]
 ·rw[ae a] at hi
  cases hi
theorem yu {p:PW} {n:Int} (h:fL p n=false):n<0∨(¬(n<0)∧(p.IH.length:Int)<=n):=by
 unfold fL at h;have:=dh h;omega
theorem iw (n k m Q:Int) (p:PW) (M:p.Fits) (hl:∀l∈p.IK,l.length<=100) (P:Snd p) (W:World) (wb:Nat) (tag:Nat->Nat) (V:Nat->Value) (aY:cb W wb tag V p):
  Calls Tryz.prog 38 #[.pointer (some ⟨wb,0,none⟩),.int .i64 n,.int .i64 k,.int .i64 m,.int .i64 Q] W fun r W'=>r=.returned (.int .i64 (mkE p n k m Q))∧∃tag',Kt tag tag' W W'∧(mkE p n k m Q=0->∃V',cb W' wb tag' V' (mkP p n k m Q))∧(mkE p n k m Q≠0->∃V',cb W' wb tag' V' p):=by
 obtain⟨bt,kr⟩:=iK aY;have KR:=hid kr;have T0:=hid (fun x (h:W.heap.size<=x)=>show jd tag W.heap.size x=0 from ae oA);generalize jd tag W.heap.size=tg at*;clear aY kr;have ax:=hid bt;have cK:(p.IH.length:Int)<=1000:=by have:=M.IH;omega
 obtain⟨q2,w,cap2,e2,aO⟩:=bt.o.IH.shape;have c2:W.cell? ⟨wb,2,none⟩=some (.slice q2 p.IH.length cap2):=by rw[ai bt.r (k:=2) rfl,e2]
 by_cases Z:fL p n=true
 rotate_left
 ·have c:=hid (show mkE p n k m Q=2 by
   have d:fh p n=2:=by unfold fh;rw[ae Z]
   have z:clE p n=2:=by unfold clE;rw[d];rfl
   unfold mkE;rw[z];split<;>rfl)
  rcases yu (Bool.eq_false_iff.2 Z) with F|⟨F,d⟩
  all_goals
   clear bt M hl P Z e2 aO;go_enter Tryz.func38,Tryz.ntmps38
   go_wp2_with fail
   go_ret
   exact⟨by rw[c.out];rfl,tg,KR.out,fun h=>(by rw[c.out] at h;cases h),fun _=>⟨V,ax.out⟩⟩
 obtain⟨j,rfl,hj⟩:=fQ Z;have cx:¬((j:Int)<0):=oA;have cy:(j:Int)<(p.IH.length:Int):=oA;by_cases ab:fL p Q=true
 rotate_left
 ·have c:=hid (show mkE p j k m Q=2 by unfold mkE;rw[Bool.eq_false_iff.2 ab];rfl);rcases yu (Bool.eq_false_iff.2 ab) with F|⟨F,d⟩
  all_goals
   clear bt M hl P Z e2 aO ab;go_enter Tryz.func38,Tryz.ntmps38
   go_wp2_with fail
   go_ret
   exact⟨by rw[c.out];rfl,tg,KR.out,fun h=>(by rw[c.out] at h;cases h),fun _=>⟨V,ax.out⟩⟩
 obtain⟨t,rfl,ht⟩:=fQ ab;have cL:¬((t:Int)<0):=oA;have cM:(t:Int)<(p.IH.length:Int):=oA;obtain rfl:=aO oA;have E2:=hid e2;have av:mkE p j k m t=if clE p j=0 then (if ek 2 8 k=true then (if fcE p t m=0 then (if (p.IH.getD j ft) 2 - usV p j<m then 5 else 0) else fcE p t m) else 3) else clE p j:=by unfold mkE;rw[ab,ag rfl,ah,ah]
 have ar:=hid (mK wb V p j W (bt.view M hl));by_cases O:fh p j=0
 rotate_left
 ·have C:clE p j=fh p j:=ae O;have c:=hid (show mkE p j k m t=fh p j by rw[av,ae (by rw[C];exact O),C]);have HN:=hid O;have bH:(fh p j==0)=false:=by simpa using O
  generalize fh p j=x at ar c HN bH;clear bt M hl P Z e2 ab av O C;go_enter Tryz.func38,Tryz.ntmps38
  go_wp2_with fail
  refine ar.mono ?_;rintro q w1 ⟨rfl,rfl⟩;go_wp2_with fail
  go_ret
  exact⟨by rw[c.out];rfl,tg,KR.out,fun h=>absurd (c.symm.trans h) HN,fun _=>⟨V,ax.out⟩⟩
 rw[O] at ar;have aJ:p.IH.getD j ft=p.IH[j]:=by rw[aa,ac hj];rfl
 obtain⟨f,hf⟩:∃f,p.IH[j]=f:=⟨_,rfl⟩
 have C:clE p j=if f 0=1 then 0 else 3:=by unfold clE;rw[ag O,ah,aJ,hf]
 have RJ:=hid (show W.rangeAt w (j*7) (cf 6 f) from oG (by
  have z:=bt.o.IH;rw[e2] at z;have h3:=z.range hj;rw[hf] at h3;exact h3))
 have s:=hid bt;have aF:=hid (aP W zK 32 W.heap.size 6 rfl oD);have aw:=hid (show Below W.heap.size W ((W.alloc (.cells zK 32)).setCells W.heap.size 0 (cf 6 f)) from bT (bal (af W.heap.size W) (.cells zK 32)) (aq _) _ 0);have RK:=hid (World.rangeAt_setCells_same (W.alloc (.cells zK 32)) W.heap.size 0 (cf 6 f) (by rw[ay];exact aF));have TK:=hid (gF (cf 6 f) 0 (W.alloc (.cells zK 32)) (B:=W.heap.size) aF);have J:=hid (T0.out W.heap.size (aq _));have al:=hid (show t/16<p.kinds.length by have:=P.lf.IH;omega);have cz:((t:Int)/16)=((t/16:Nat):Int):=oA;have cA:((t/16:Nat):Int)<(p.kinds.length:Int):=by have:=al.out;omega
 have cB:(p.kinds.length:Int)<=1000:=by have:=M.kinds;omega
 obtain⟨g1,cap1,e1⟩:=bt.o.kinds.form (show 0<p.kinds.length by have:=al.out;omega);have E1:=hid e1;obtain⟨yk,aR⟩:∃y,p.kinds[t/16]=y:=⟨_,rfl⟩
 have bn:=hid (fun X (h:cb X wb tg V p)=>show X.cell? ⟨g1,t/16,none⟩=some (.int .i64 yk) from by
  have z:=h.o.kinds;rw[e1] at z;rw[<-aR];exact z.int al)
 have E:=hid (show fcE p t m=if yk=5 then (if ek 1 (16 - (t:Int)%16) m=true then (if usd p t m.toNat=true then 12 else 0) else 2) else 3 by unfold fcE;rw[jZ (al.out), <-aR];rfl);have D:=hid av;have aT:=hid P;have aS:=hid M;have bW:=hid hl;have ao:=hid C;have HJ:=hid hj;have R:=hid hf;have ap:=hid aJ;have bs:=hid P.lf.IL;have bz:=hid P.lf.IH;have G:=hid ht;have bf:=hid (fun X (h:cb X wb tg V p)=>r6 wb V p j X (h.view M hl));have bB:=hid (fun X (h:cb X wb tg V p) i (hi:i<p.IH.length)=>show X.cell? ⟨w,i*7,none⟩=some (.int .i64 (p.IH[i] 0)) from by have d:=h.I0 e2 hi (show 0<7 by omega);rw[bu] at d;exact d);generalize t/16=tq at*;clear bt M hl P Z ab e1 e2 O aJ hf C av T0 al ht aR;go_enter Tryz.func38,Tryz.ntmps38
 go_wp2_with fail
 refine ar.mono ?_;rintro q w1 ⟨rfl,rfl⟩;go_upto_region 7 with (first|((with_reducible refine gld 32 ?_);refine uO rfl _ rfl w (j*7) rfl (cf 6 f) (ay _ _) RJ ?_)|((with_reducible refine gst 32 ?_);refine gQ rfl _ _ rfl W.heap.size 0 rfl (cf 6 f) rfl (ay _ _) (bQ _ _) aF ?_))
 generalize World.setCells _ _ _ _=W2 at*;obtain⟨kb,aN⟩:∃kb,W.heap.size=kb:=⟨_,rfl⟩
 have bk:=hid aN;rw[aN] at RK TK J ⊢;clear aN c2;have A:=hid (s.below aw);have K2:=hid (KR.trans (.below aw));have c1:W2.cell? ⟨wb,1,none⟩=some (.slice (some ⟨g1,0,none⟩) p.kinds.length cap1):=by rw[ai A.r (k:=1) rfl,E1.out]
 have y0:=ai RK (k:=0) (v:=.int .i64 (f 0)) (dk 6 _ 0 oA);by_cases d:f 0=1
 rotate_left
 ·have c:=hid (show mkE p j k m t=3 by rw[D.out,ao.out,ae d];rfl);have bF:(f 0 !=1)=true:=by simpa using d
  go_wp2_with fail
  go_ret
  exact⟨by rw[c.out];rfl,tg,K2.out,fun h=>(by rw[c.out] at h;cases h),fun _=>⟨V,A.out⟩⟩
 have C:=ao.out;rw[ag d] at C;replace ao:=hid C;replace D:=hid (D.trans (ag C));have bF:(f 0 !=1)=false:=by rw[d];rfl
 clear C;by_cases ad:ek 2 8 k=true
 rotate_left
 ·have c:=hid (show mkE p j k m t=3 by rw[D.out,ae ad]);have bP:k<2∨(¬(k<2)∧8<k):=by
   unfold ek at ad;have:=dh (Bool.eq_false_iff.2 ad);omega
  rcases bP with z|⟨z,h3⟩
  all_goals
   go_wp2_with fail
   go_ret
   exact⟨by rw[c.out];rfl,tg,K2.out,fun h=>(by rw[c.out] at h;cases h),fun _=>⟨V,A.out⟩⟩
 replace D:=hid (D.trans (ag ad));obtain⟨cV,cW⟩:¬(k<2)∧¬(8<k):=by
  unfold ek at ad;have:=aA ad;omega
 have xk:=bn.out _ A;by_cases h5:yk=5
 rotate_left
 ·have c:=hid (show mkE p j k m t=3 by rw[D.out,E.out,ae h5];rfl);have bY:(yk !=5)=true:=by simpa using h5
  go_wp2_with fail
  go_ret
  exact⟨by rw[c.out];rfl,tg,K2.out,fun h=>(by rw[c.out] at h;cases h),fun _=>⟨V,A.out⟩⟩
 subst h5;replace E:=hid (E.trans (ag rfl));obtain⟨tm,bL⟩:∃tm:Int,(t:Int)%16=tm:=⟨_,rfl⟩
 rw[bL] at E;have cP:0<=tm:=oA;have cQ:tm<16:=oA;by_cases aj:ek 1 (16 - tm) m=true
 rotate_left
 ·have c:=hid (show mkE p j k m t=2 by rw[D.out,E.out,ae aj];rfl);have bR:m<1∨(¬(m<1)∧16<m)∨(¬(m<1)∧¬(16<m)∧16<tm+m):=by
   unfold ek at aj;have:=dh (Bool.eq_false_iff.2 aj);omega
  rcases bR with h6|⟨h6,h7⟩|⟨h6,h7,h8⟩
  all_goals
   go_wp2_with fail
   go_ret
   exact⟨by rw[c.out];rfl,tg,K2.out,fun h=>(by rw[c.out] at h;cases h),fun _=>⟨V,A.out⟩⟩
 replace E:=hid (E.trans (ag aj));obtain⟨cX,cY,cZ⟩:¬(m<1)∧¬(16<m)∧¬(16<tm+m):=by
  unfold ek at aj;have:=aA aj;omega
 obtain⟨mn,rfl⟩:∃mn:Nat,m=mn:=⟨m.toNat,oA⟩
 rw[ah] at E;have aG:=hid (show t+mn<=p.IH.length by have:=bz.out;have:=G.out;omega);have cR:(t:Int)+(mn:Int)<=(p.IH.length:Int):=by have:=aG.out;omega
 clear ad aj;go_upto_region 12 with fail
 clear c1 y0 xk
 go_loopw [13] (fun i wr=>∃(a:Nat),t<=a∧a<=t+mn∧i=.int .i64 a∧W2=wr∧Hid (∀x (hx:x<p.IH.length),t<=x->x<a->p.IH[x] 0=0)) (fun i _=>t+mn - (intOf i).toNat)
 case atStart=>exact⟨t,aq _,oA,rfl,rfl,hid (fun x _ d z=>oA)⟩
 case round=>
  obtain⟨a,bG,bZ,rfl,rfl,HN⟩:=hrel;by_cases a9:a<t+mn
  ·have bI:(a:Int)<(t:Int)+(mn:Int):=oA;have a0:a<p.IH.length:=by have:=aG.out;omega
   have cc:(a:Int)<(p.IH.length:Int):=oA;have c2:W2.cell? ⟨wb,2,none⟩=some (.slice (some ⟨w,0,none⟩) p.IH.length cap2):=by rw[ai A.r (k:=2) rfl,E2.out]
   have xa:=bB.out _ A a a0;by_cases F:p.IH[a] 0=0
   ·rw[F] at xa;have bq:=hid (show ∀x (hx:x<p.IH.length),t<=x->x<a+1->p.IH[x] 0=0 from fun x hx d z=>by
     by_cases e:x=a
     ·subst e;exact F
     ·exact HN x hx d oA)
    clear F;go_wp2_with fail
    exact⟨⟨a+1,oA,oA,by go_num,by first|rfl|trivial,bq⟩,by simp[intOf];omega⟩
   ·have HU:=DE (m:=mn) bG a9 a0 F;have c:=hid (show mkE p j k mn t=12 by rw[D.out,E.out,HU];rfl);have bE:(p.IH[a] 0 !=0)=true:=by simpa using F
    generalize p.IH[a] 0=y at xa bE;clear F HU;go_wp2_with fail
    go_ret
    exact⟨by rw[c.out];rfl,tg,K2.out,fun h=>(by rw[c.out] at h;cases h),fun _=>⟨V,A.out⟩⟩
  ·have cp:¬((a:Int)<(t:Int)+(mn:Int)):=oA;have aU:=hid (AF (p:=p) (t:=t) (m:=mn) (fun x hx d z=>HN.out x hx d oA));have a4:fcE p t mn=0:=by rw[E.out,aU.out];rfl
   have aH:=D.out;rw[ag a4,ap.out,R.out] at aH;obtain⟨j',aL,ej, -, -,a2,a8,ba,bM⟩:=BU aT ao;obtain rfl:j'=j:=oA;rw[R.out] at a2 a8 ba;obtain⟨cd,a3⟩:=a2;obtain⟨cC,cD⟩:=a8;obtain⟨cG,cH⟩:=ba;obtain⟨bN,bO⟩:=bM;have bo:=hid (show (p.kinds.length:Int)<=24 by have:=aT.lf.k2;omega);have cg:f 1<=24:=by have:=bo.out;omega
   have cI:(mn:Int)<=16:=oA;have y2:=ai RK (k:=2) (v:=.int .i64 (f 2)) (dk 6 _ 2 oA);have y3:=ai RK (k:=3) (v:=.int .i64 (f 3)) (dk 6 _ 3 oA);have aW:=hid (show usV p j'=if frm p j'=true then f 3 else 0 by unfold usV;rw[ah,ap.out,R.out]);have hB:((mkB p j':Nat):Int)=f 1+usV p j':=by unfold mkB;rw[ah,ap.out,R.out];omega
   have HP:=hid (show mkP p j' k mn t={mkI p j' k (mkB p j') t mn with IH:=(mkI p j' k (mkB p j') t mn).IH.set j' (upd f 3 (usV p j'+mn))} by unfold mkP;rw[ah,ah,ah,ap.out,R.out]);have br:=hid (yJ aU aL (by rw[R.out];omega));have bv:=hid (show ∀i,i<=mn->∀(h:j'<(mkI p j' k (mkB p j') t i).IH.length),(mkI p j' k (mkB p j') t i).IH[j']=f from fun i hi h=>by
    have d:=xI p j' k (mkB p j') t j' i (by have:=br.out;omega);rw[ac h,ac aL,R.out] at d;exact aK d)
   have bV:=hid (fun i=>z9 aS (j':Int) k (mkB p j') t i);have H:=hid (fun i=>mY p (j':Int) k (mkB p j') t i);have az:=hid hB;have aB:=hid aH;have bp:=hid (show f 1+f 2<=(p.kinds.length:Int) from a3);clear aH hB a4 a3;generalize mkB p j'=g at*;go_upto_region 17 with fail
   go_wp2_with fail
   refine (bf.out _ A).mono ?_;rintro q w3 ⟨rfl,rfl⟩
   go_upto_if 114 with fail
   go_cut [14] (fun u wx=>Hid (u=.int .i64 (usV p j'))∧Hid (W2=wx))
   case first=>
    cases a5:frm p j'<;>(rw[a5] at aW;go_wp2_with fail;go_meet;exact⟨hid (by rw[aW.out];rfl),hid rfl⟩)
   case rest=>
   obtain⟨d,z⟩:=hcut;obtain⟨us,an⟩:∃us,usV p j'=us:=⟨_,rfl⟩
   have bX:=hid an;rw[an] at d;obtain rfl:=d.out;obtain rfl:=z.out;have bA:=hid (show 0<=us∧us<=100 by rw[<-an];exact⟨bN,bO⟩);obtain⟨cT,cU⟩:=bA.out;rw[an] at aB az HP;clear d z an;by_cases cm:f 2<us+(mn:Int)
   ·have c:=hid (show mkE p j' k mn t=5 by rw[aB.out,ag oA]);go_wp2_with fail
    go_ret
    exact⟨by rw[c.out];rfl,tg,K2.out,fun h=>(by rw[c.out] at h;cases h),fun _=>⟨V,A.out⟩⟩
   have c:=hid (show mkE p j' k mn t=0 by rw[aB.out,ae oA]);have bg:=hid (show g+mn<=p.kinds.length by have:=az.out;have:=bp.out;omega);have KW:=hid (show Kt tg tg W W2 from .below aw);go_upto_region 22 with fail
   clear y2 y3
   go_loopw [15] (fun i wr=>∃(a:Nat),a<=mn∧i=.int .i64 a∧Hid (cb wr wb tg V (mkI p j' k g t a))∧Hid (Kt tg tg W wr)∧Hid (wr.rangeAt kb 0 (cf 6 f)∧wr.there kb 0 6)) (fun i _=>mn - (intOf i).toNat)
   case atStart=>exact⟨0,oA,rfl,A,KW,hid ⟨RK.out,TK.out⟩⟩
   case round=>
    obtain⟨a,ha,rfl,s,G,U⟩:=hrel;have I:=hid U.1;have Y:=hid U.2;clear U KW;by_cases a9:a<mn
    ·have bI:(a:Int)<(mn:Int):=oA;have y1:=ai I (k:=1) (v:=.int .i64 (f 1)) (dk 6 _ 1 oA);obtain⟨fr,a6⟩:∃fr:Nat,g+a=fr:=⟨_,rfl⟩
     have a5:f 1+us+(a:Int)=(fr:Int):=by have:=az.out;omega
     have bh:=hid a6;obtain⟨ta,bb⟩:∃ta:Nat,t+a=ta:=⟨_,rfl⟩
     have aE:=hid bb;have cj:fr<p.kinds.length:=by have:=bg.out;omega
     have ck:(fr:Int)<(p.kinds.length:Int):=oA;have e1:V 1=.slice (some ⟨g1,0,none⟩) (mkI p j' k g t a).kinds.length cap1:=by rw[(H.out a).1];exact E1
     have c1:wr.cell? ⟨wb,1,none⟩=some (.slice (some ⟨g1,0,none⟩) p.kinds.length cap1):=by rw[ai s.r (k:=1) rfl,E1.out]
     have bc:=(s.Jl e1 fr 1 (by rw[(H.out a).1];omega) 0 oA).2;rw[bu] at bc;obtain⟨yk,bU⟩:∃y,wr.cell? ⟨g1,fr,none⟩=some y:=by
      have d:=(s.Jl e1 fr 1 (by rw[(H.out a).1];omega) 0 oA).1;rw[bu] at d;exact Option.isSome_iff_exists.1 d
     obtain⟨b3,k3⟩:=s.IW e1 fr k;have B3:=hid b3;have K3:=hid (G.trans k3);have R3:=hid (show (wr.setCell ⟨g1,fr,none⟩ (.int .i64 k)).rangeAt kb 0 (cf 6 f) from fun o v hv=>k3.cell (I.out o v hv) J);have T3:=hid (k3.there Y J);clear b3 k3 e1 a6 bb;go_upto_region 27 with fail
     generalize World.setCell _ _ _=W3 at*;clear y1 c1 bc bU s G I Y;generalize wr=c3 at*
     go_loopw [17] (fun i wr=>∃(e:Nat),e<=16∧i=.int .i64 e∧Hid (cb wr wb tg V {mkI p j' k g t a with kinds:=(mkI p j' k g t a).kinds.set fr k,IL:=zr e (mkI p j' k g t a).IL (fr*16)})∧Hid (Kt tg tg W wr)∧Hid (wr.rangeAt kb 0 (cf 6 f)∧wr.there kb 0 6)) (fun i _=>16 - (intOf i).toNat)
     case atStart=>exact⟨0,oA,rfl,hid (by rw[lA];exact B3),K3,hid ⟨R3.out,T3.out⟩⟩
     case round=>
      obtain⟨e,he,rfl,s,G,U⟩:=hrel;have I:=hid U.1;have Y:=hid U.2;clear U B3 K3 R3 T3;by_cases cE:e<16
      ·have cF:(e:Int)<16:=oA;obtain⟨ix,a7⟩:∃ix:Nat,fr*16+e=ix:=⟨_,rfl⟩
       have ct:(fr:Int)*16+(e:Int)=(ix:Int):=oA;have bj:=hid a7;have bJ:p.IL.length=p.kinds.length*16:=bs.out;have cv:ix<p.IL.length:=oA;have cw:(ix:Int)<(p.IL.length:Int):=oA;obtain⟨g0,cap0,e0⟩:=s.o.IL.form (by rw[nE,(H.out a).2.1];omega);have au:V 0=.slice (some ⟨g0,0,none⟩) (zr e (mkI p j' k g t a).IL (fr*16)).length cap0:=e0;rw[nE,(H.out a).2.1] at e0;have c0:wr.cell? ⟨wb,0,none⟩=some (.slice (some ⟨g0,0,none⟩) p.IL.length cap0):=by rw[ai s.r (k:=0) rfl,e0]
       have cJ:(p.IL.length:Int)<=1000:=by have:=aS.IL;omega
       have bS:=(s.Jw au ix 1 (by show ix+1<=(zr e (mkI p j' k g t a).IL (fr*16)).length;rw[nE,(H.out a).2.1];omega) 0 oA).2;rw[bu] at bS;obtain⟨yr,c4⟩:∃y,wr.cell? ⟨g0,ix,none⟩=some y:=by
        have d:=(s.Jw au ix 1 (by show ix+1<=(zr e (mkI p j' k g t a).IL (fr*16)).length;rw[nE,(H.out a).2.1];omega) 0 oA).1;rw[bu] at d;exact Option.isSome_iff_exists.1 d
       obtain⟨b4,k4⟩:=s.IU au ix 0;have B4:=hid (show cb (wr.setCell ⟨g0,ix,none⟩ (.int .i64 0)) wb tg V {mkI p j' k g t a with kinds:=(mkI p j' k g t a).kinds.set fr k,IL:=zr (e+1) (mkI p j' k g t a).IL (fr*16)} by rw[yO,bj.out];exact b4);have K4:=hid (G.trans k4);have R4:=hid (show (wr.setCell ⟨g0,ix,none⟩ (.int .i64 0)).rangeAt kb 0 (cf 6 f) from fun o v hv=>k4.cell (I.out o v hv) J);have bD:=hid (k4.there Y J);clear b4 k4 e0 au a7 bJ;go_wp2_with fail
       exact⟨⟨e+1,oA,by go_num,B4,K4,hid ⟨R4.out,bD.out⟩⟩,by simp[intOf];omega⟩
      ·obtain rfl:e=16:=oA;have cs:¬((16:Int)<16):=oA;have L5:=hid (show ({mkI p j' k g t a with kinds:=(mkI p j' k g t a).kinds.set fr k,IL:=zr 16 (mkI p j' k g t a).IL (fr*16)}:PW).IH.length=p.IH.length from (H.out a).2.2);have aI:V 2=.slice (some ⟨w,0,none⟩) ({mkI p j' k g t a with kinds:=(mkI p j' k g t a).kinds.set fr k,IL:=zr 16 (mkI p j' k g t a).IL (fr*16)}:PW).IH.length cap2:=by rw[L5.out];exact E2
       have bK:ta<p.IH.length:=by have:=aG.out;have:=aE.out;omega
       have cN:(ta:Int)<(p.IH.length:Int):=oA;have cO:(t:Int)+(a:Int)=(ta:Int):=by have:=aE.out;omega
       have c2:wr.cell? ⟨wb,2,none⟩=some (.slice (some ⟨w,0,none⟩) p.IH.length cap2):=by rw[ai s.r (k:=2) rfl,E2.out]
       obtain⟨h6,k6⟩:=s.I1 aI (i:=ta) (by rw[L5.out];exact bK) (nsl k (fr:Int) j');have B6:=hid (show cb (wr.setCells w (ta*7) (cf 7 (nsl k (fr:Int) j'))) wb tg V (mkI p j' k g t (a+1)) by
        show cb _ wb tg V (mk1 (mkI p j' k g t a) j' k g t a)
        unfold mk1;rw[bh.out,aE.out];exact h6)
       have K6:=hid (G.trans k6);have R6:=hid (show (wr.setCells w (ta*7) (cf 7 (nsl k (fr:Int) j'))).rangeAt kb 0 (cf 6 f) from fun o v hv=>k6.cell (I.out o v hv) J);have T6:=hid (k6.there Y J);have bC:=hid (s.Jo aI (ta*7) 7 (by rw[L5.out];omega));clear h6 k6 aI;go_wp2_with (first|((with_reducible refine gst 34 ?_);refine nC rfl _ _ rfl w (ta*7) rfl (cf 7 (nsl k (fr:Int) j')) rfl (ay _ _) (bQ _ _) bC ?_))
       exact⟨⟨a+1,oA,by go_num,B6,K6,hid ⟨R6.out,T6.out⟩⟩,by simp[intOf];omega⟩
    ·obtain rfl:a=mn:=oA;have cq:¬((a:Int)<(a:Int)):=oA;have y3:=ai I (k:=3) (v:=.int .i64 (f 3)) (dk 6 _ 3 oA);have f3:=(Y.out 3 oA).2;rw[aC] at f3;have R7:=hid (yg I (us+a));have B7:=hid (s.kp (T:=fun x=>x=kb) ((aV (fun x=>x=kb) wr).setCell (b:=kb) (o:=3) (.inl rfl) (.int .i64 (us+a))) (fun x _ e=>by rw[e];exact J) (fun _ _=>rfl));have K7:=hid (G.J2 (b:=kb) (o:=3) (by rw[bk.out];exact aq _) (.int .i64 (us+a)));go_upto_region 32 with fail
     generalize World.setCell _ _ _=N at*;clear y3 f3 I Y s G;obtain⟨kf,am⟩:∃kf,upd f 3 (us+(a:Int))=kf:=⟨_,rfl⟩
     rw[am] at R7;have L7:=hid (H.out a).2.2;have he:V 2=.slice (some ⟨w,0,none⟩) (mkI p j' k g t a).IH.length cap2:=by rw[L7.out];exact E2
     have aM:j'<(mkI p j' k g t a).IH.length:=by rw[L7.out];exact aL
     have aQ:=bv.out a (aq _) aM;have BD:Hid (cb N.drew wb tg V (mkI p j' k g t a)):=hid (B7.below (aD N 1));have KD:Hid (Kt tg tg W N.drew):=hid (K7.trans (.below (aD N 1)));have RD:Hid (N.drew.rangeAt kb 0 (cf 6 kf)):=hid (cS R7 (aD N 1));obtain⟨h8,k8⟩:=BD.JM he aM kf (by rw[aQ, <-am];rfl) (fun x hx=>by rw[aQ, <-am];unfold upd;rw[ae oA]);have B8:=hid (show cb (N.drew.setCells w (j'*7) (cf 6 kf)) wb tg V (mkP p j' k a t) by rw[HP.out,am];exact h8);have K8:=hid (KD.trans k8);have R8:=hid (show (N.drew.setCells w (j'*7) (cf 6 kf)).rangeAt kb 0 (cf 6 kf) from fun o v hv=>k8.cell (RD.out o v hv) J);have aX:=hid (BD.Jo he (j'*7) 6 (by rw[L7.out];omega));have KS:=hid (fun X q (h:cb X wb tg V q) (hr:X.rangeAt kb 0 (cf 6 kf))=>show X.cell? ⟨wb,2,none⟩=some (.slice (some ⟨w,0,none⟩) p.IH.length cap2)∧X.rangeAt kb 0 (cf 6 kf) from⟨by rw[ai h.r (k:=2) rfl,E2.out],hr⟩);clear h8 k8 he aM aQ am HP;refine wp_region_held_drew (S:=fun X=>X.cell? ⟨wb,2,none⟩=some (.slice (some ⟨w,0,none⟩) p.IH.length cap2)∧X.rangeAt kb 0 (cf 6 kf)) oK (KS.out _ _ BD RD) (fun aZ=>?_);have L:=hid aZ;clear aZ;refine tk 0 (.pointer (some ⟨wb,0,none⟩)) rfl L ?_;simp only[jj];refine tk 1 (.pointer (some ⟨wb,0,none⟩)) rfl L ?_;simp only[jj];refine tk 2 (.pointer (some ⟨wb,2,none⟩)) rfl L ?_;simp only[jj];refine Mem.tg 3 (.slice (some ⟨w,0,none⟩) p.IH.length cap2) rfl (Or.inl ⟨oR,fun W h=>by have h3:=h.1;clear h;go_simp⟩) L ?_;simp only[jj];refine tk 4 (.int .i64 j') rfl L ?_;simp only[jj];refine Mem.tg 5 (.agg (cf 6 kf).toArray) rfl (yieldsIf_load_mid oR _ _ rfl _ _ rfl (cf 6 kf) _ (fun _ h=>h.2) Tryz.underlying32 rfl (by rw[mM,ay])) L ?_;simp only[jj];refine tk 6 (.pointer (some ⟨w,j'*7,none⟩)) rfl L ?_;simp only[jj];refine tk 7 (.pointer (some ⟨w,j'*7,none⟩)) rfl L ?_;simp only[jj];refine wpAnyH_ready (rs:=[8]) oK oS (AllReadyH.cons rfl (fun K hK=>?_) AllReadyH.nil);refine wp_store_mid 32 _ _ rfl w (j'*7) (cf 6 kf).toArray rfl rfl (by rw[eE,ay];exact aX) (by rw[mM];rfl) (all_oneCell_toArray (bQ 6 _)) ?_;refine hK _ _ (KS.out _ _ B8 R8) (fun _=>?_);clear hK K L
     try simp only[Act.put]
     refine dw oK ?_ _;clear KS BD KD RD B7 K7 R7 aX;generalize World.setCells _ _ _ _=W8 at*;go_wp2_with fail
     go_ret
     exact⟨by rw[c.out];rfl,tg,KR.trans K8,fun _=>⟨V,B8.out⟩,fun h=>absurd (by first|rfl|assumption|exact c) h⟩
theorem nL (n k m a:Int) (p:PW) (i:p.Fits) (hl:∀l∈p.IK,l.length<=100) (j:Snd p) (W:World) (wb:Nat) (tag:Nat->Nat) (V:Nat->Value) (d:cb W wb tag V p):
  Calls Tryz.prog 38 #[.pointer (some ⟨wb,0,none⟩),.int .i64 n,.int .i64 k,.int .i64 m,.int .i64 a] W fun r b=>r=.returned (.int .i64 (mkE p n k m a))∧∃tag',Kt tag tag' W b∧(mkE p n k m a=0->∃c,cb b wb tag' c (mkP p n k m a)):=(iw n k m a p i hl j W wb tag V d).mono fun x b h=>by
 obtain⟨e,o,f,g,_⟩:=h;exact⟨e,o,f,g⟩
