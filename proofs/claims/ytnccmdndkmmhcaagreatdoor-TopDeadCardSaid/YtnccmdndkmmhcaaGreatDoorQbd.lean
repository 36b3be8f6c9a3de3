/- Qbd -/
import Derived.Test.YtnccmdndkmmhcaaGreatDoorQbc
set_option maxRecDepth 100000
set_option maxHeartbeats 16000000
namespace Go.Proofs.YtnccmdndkmmhcaaGreatDoor
namespace Wd
open Go.RowKit Mem Bw Nums Mmu
def neW (W:World) (g n:Nat):Nat:=(List.range n).countP fun i=>match W.cell? ⟨g,i*7,none⟩ with|some (.int _ x)=>x !=0|_=>false
theorem t5 {W:World} {wb:Nat} {tag:Nat->Nat} {V:Nat->Value} {q:PW} {g cap n:Nat} (bt:cb W wb tag V q) (e:V 2=.slice (some ⟨g,0,none⟩) n cap) (a:q.IA.length=n):neW W g n=neS q.IA:=by
 subst a;unfold neW neS;refine List.countP_congr fun i hi=>?_;rw[bt.Jr e (List.mem_range.1 hi)]
theorem sJ {r:Nat->Nat} (m c0 t:Nat) (p:PW) (O:nds p<m+1) (hi:Inv p) (F:Up r p.IA) (hl:∀l∈p.ID,l.length<=100) (ht:t<p.IA.length):DO 82 c0 t p (rvN (drF (m+1)) t (neS p.IA) p):=by
 intro W wb tag V bt x R;obtain⟨q2,g,cap,e2,s⟩:=bt.o.IA.shape;have aa:=s oA;subst aa;have I:=hid e2;have i:=hid (kC wb V p t W (bt.view hi.fits hl) F);have S:=hid hl;have w:=hid (And.intro x R);obtain⟨P,E⟩:∃P,rvN (drF (m+1)) t (neS p.IA) p=P:=⟨_,rfl⟩
 rw[E];have f:=hid (show nds p<m+1∧Inv p∧Up r p.IA∧∃k,neS p.IA<=k∧rvN (drF (m+1)) t k p=P from⟨O,hi,F,_,aq _,E⟩);have H:=hid bt;clear s O hi F hl E bt R e2;go_enter Tryz.func82,Tryz.ntmps82
 go_wp2_with fail
 refine i.mono ?_;rintro y w1 ⟨rfl,rfl⟩;go_wp2_with fail
 clear i x
 go_loopw [3] (fun v wr=>∃(z:Int) (q:PW) (tg:Nat->Nat),v=.int .i64 z∧Hid (z=luF q.IA t q.IA.length)∧Hid (nds q<m+1∧Inv q∧Up r q.IA∧q.ID=p.ID∧q.IA.length=p.IA.length∧∃k,neS q.IA<=k∧rvN (drF (m+1)) t k q=P)∧Hid (cb wr wb tg V q)∧Hid (Kt tag tg W wr)) (fun _ wr=>neW wr g p.IA.length)
 case atStart=>exact⟨_,p,tag,rfl,hid rfl,hid ⟨f.1,f.2.1,f.2.2.1,rfl,rfl,f.2.2.2⟩,H,hid (en _ _)⟩
 case round=>
  obtain⟨z,q,tg,rfl,A,d,u,h⟩:=hrel;clear f H;have x2:wr.cell? ⟨c0,0,none⟩=some (.int .i64 t):=h.cell w.1 w.2;have K:=hid (h.Jd w.1 w.2);have B:=hid (show (luF q.IA t q.IA.length= -1∧q=P)∨∃j:Nat,luF q.IA t q.IA.length=j∧j<q.IA.length∧(q.IA.getD j eS) 0≠0∧(nds (drF (m+1) q j)<m+1∧Inv (drF (m+1) q j)∧Up r (drF (m+1) q j).IA∧(drF (m+1) q j).ID=p.ID∧(drF (m+1) q j).IA.length=p.IA.length∧∃k,neS (drF (m+1) q j).IA<=k∧rvN (drF (m+1)) t k (drF (m+1) q j)=P)∧neS (drF (m+1) q j).IA<neS q.IA by
   obtain⟨Y,Z,D,h4,h5,k,h6,L⟩:=d.out;rcases jW q.IA t q.IA.length with ⟨-,e⟩|⟨-,j, -,e, -, -⟩
   ·exact .inl ⟨e,by rw[<-L,ld e]⟩
   ·obtain⟨n,h0⟩:=sy D e;obtain⟨i1,i2, -⟩:=tx (m+1) q j Y Z n h0;obtain⟨u1,u2⟩:=nv (m+1) q j D;obtain⟨a,b⟩:=Di D e h6 L;exact .inr ⟨j,e,n,h0,⟨oA,i1,u1,(jS _ _ _).trans h4,u2.1.trans h5,b⟩,a⟩)
  rcases B.out with ⟨e,s⟩|⟨j,e,n,h0,N,M⟩
  ·obtain rfl:z= -1:=A.trans e;have hb:((-1:Int) != -1)=false:=rfl;have T:=hid s;clear B A d e s x2 K;go_wp2_with fail
   exact aI (aF rfl _ _ _) rfl ⟨rfl,tg,by rw[<-T.out];exact u,h.out⟩
  ·obtain rfl:z=(j:Int):=A.trans e;have hb:((j:Int) != -1)=true:=bne_iff_ne.2 oA;have C:=hid (tz (m+1) q j wr wb tg V d.1 d.2.1 n h0 u);have c:=hid N;have J:=hid (show neS (drF (m+1) q j).IA<neW wr g p.IA.length by rw[t5 u I d.2.2.2.2.1];exact M);generalize drF (m+1) q j=Q at C c J;have X:=hid x2;clear B A d e n h0 N M u x2;go_wp2_with fail
   refine C.mono ?_;rintro y w2 ⟨rfl,ab,b2,k2⟩;have x4:w2.cell? ⟨c0,0,none⟩=some (.int .i64 t):=k2.cell X K;have G:=hid b2;have U:=hid (h.trans k2);have i:=hid (kC wb V Q t w2 (b2.view c.2.1.fits (by rw[c.2.2.2.1];exact S)) c.2.2.1);clear b2 k2 C h;go_wp2_with fail
   refine i.mono ?_;rintro y w3 ⟨rfl,rfl⟩;clear i;go_wp2_with fail
   refine⟨⟨_,Q,ab,rfl,hid rfl,c,G,U⟩,?_⟩;show neW w2 g p.IA.length<neW wr g p.IA.length
   rw[t5 G I c.2.2.2.2.1];exact J
theorem Ar {r:Nat->Nat} {m t n j:Nat} {q P:PW} (c:nds q<m+1) (d:Inv q) (e:TL q) (b:Up r q.IA) (f:luF q.IA t q.IA.length=j) (i:neS q.IA<=n) (g:rvN (drR (m+1)) t n q=P):
  (nds (drR (m+1) q j)<m+1∧Inv (drR (m+1) q j)∧TL (drR (m+1) q j)∧Up r (drR (m+1) q j).IA∧(drR (m+1) q j).IA.length=q.IA.length∧∃k,neS (drR (m+1) q j).IA<=k∧rvN (drR (m+1)) t k (drR (m+1) q j)=P)∧neS (drR (m+1) q j).IA<neS q.IA:=by
 obtain⟨hl,h0⟩:=sy b f;have h:=uq c d e hl h0;obtain⟨i1,i2, -⟩:=(jq (m+1)).1 q j c d hl h0;have a:=Fu (nv (m+1) q j b).2 (sa b) h0;rw[h];refine⟨⟨oA,i1,(jq (m+1)).2 q j c d hl h0 e,(nv (m+1) q j b).1,(nv (m+1) q j b).2.1,?_⟩,a⟩
 cases n with
 |zero=>omega
 |succ n=>exact⟨n,oA,by rw[<-g,vx f]⟩
theorem kZ (a:Int) (p:PW) (A:p.Fits) (hl:∀l∈p.ID,l.length<=100) (n:Snd p) (W:World) (wb:Nat) (tag:Nat->Nat) (V:Nat->Value) (bt:cb W wb tag V p):
  Calls Tryz.prog 39 #[.pointer (some ⟨wb,0,none⟩),.int .i64 a] W fun x E=>x=.returned (.int .i64 (fF p a))∧∃tag',Kt tag tag' W E∧(fF p a=0->∃V',cb E wb tag' V' (rJ p a))∧(fF p a≠0->E=W):=by
 have s:=hid (mC wb V p a W (bt.view A hl));by_cases d:fF p a=0
 rotate_left
 ·have c:=hid d;have ad:(fF p a !=0)=true:=by simpa using d
  generalize fF p a=x at s c ad ⊢;go_enter Tryz.func39,Tryz.ntmps39
  go_wp2_with fail
  refine s.mono ?_;rintro q w1 ⟨rfl,rfl⟩;go_wp2_with fail
  go_ret
  exact⟨rfl,tag,en _ _,fun h=>(absurd h c),fun _=>rfl⟩
 obtain⟨t,rfl,ht,h0⟩:=oX d;obtain⟨r,J⟩:=yu n;obtain⟨q2,g,cap,e2,H⟩:=bt.o.IA.shape;have I:=H oA;subst I;have M:=hid e2;have O:=hid (show rJ p t=rvN (drR (nds p+1)) t (neS p.IA) p by rw[yi n d,Hn A n (dL _) J]);obtain⟨P,F⟩:∃P,rvN (drR (nds p+1)) t (neS p.IA) p=P:=⟨_,rfl⟩
 rw[F] at O;have f:=hid (show nds p<nds p+1∧Inv p∧TL p∧Up r p.IA∧∃k,neS p.IA<=k∧rvN (drR (nds p+1)) t k p=P from⟨dL _,iz A n,ot n,J,_,aq _,F⟩);have w:=hid (tV wb V p t W (bt.view A hl) J);have C:=hid bt;rw[d] at s ⊢;generalize nds p+1=m1 at f F;obtain⟨m,rfl⟩:∃m,m1=m+1:=⟨m1 - 1,by have:=f.1;omega⟩
 go_enter Tryz.func39,Tryz.ntmps39
 go_wp2_with fail
 refine s.mono ?_;rintro q w1 ⟨rfl,rfl⟩;go_wp2_with fail
 refine w.mono ?_;rintro q w1 ⟨v,rfl,hv,d⟩;have HV:=hid hv;replace C:=hid (C.below d);have aa:=hid (bj (tag:=tag) d);go_wp2_with fail
 go_loopw [6] (fun v wr=>∃(q:PW) (tg:Nat->Nat),Hid (ei wr v (mdL q.IA t q.IA.length))∧Hid (nds q<m+1∧Inv q∧TL q∧Up r q.IA∧q.IA.length=p.IA.length∧∃k,neS q.IA<=k∧rvN (drR (m+1)) t k q=P)∧Hid (cb wr wb tg V q)∧Hid (Kt tag tg W wr)) (fun _ wr=>neW wr g p.IA.length)
 case atStart=>exact⟨p,tag,HV,hid ⟨f.1,f.2.1,f.2.2.1,f.2.2.2.1,rfl,f.2.2.2.2⟩,C,aa⟩
 case round=>
  obtain⟨q,tg,u,i,B,N⟩:=hrel;have HC:=hid (show (mdL q.IA t q.IA.length=[]∧q=P)∨∃(L:List Int) (j:Nat),mdL q.IA t q.IA.length=L++[(j:Int)]∧j<q.IA.length∧(q.IA.getD j eS) 0≠0∧(nds (drR (m+1) q j)<m+1∧Inv (drR (m+1) q j)∧TL (drR (m+1) q j)∧Up r (drR (m+1) q j).IA∧(drR (m+1) q j).IA.length=p.IA.length∧∃k,neS (drR (m+1) q j).IA<=k∧rvN (drR (m+1)) t k (drR (m+1) q j)=P)∧neS (drR (m+1) q j).IA<neS q.IA by
   obtain⟨z,R,h3,S,h5,k,h6,T⟩:=i.out;rcases jW q.IA t q.IA.length with ⟨e1,e⟩|⟨L,j,e1,e, -, -⟩
   ·exact .inl ⟨e1,by rw[<-T,ld e]⟩
   ·obtain⟨G,h0⟩:=sy S e;obtain⟨⟨a1,a2,a3,a4,a5,a6⟩,b⟩:=Ar z R h3 S e h6 T;exact .inr ⟨L,j,e1,G,h0,⟨a1,a2,a3,a4,a5.trans h5,a6⟩,b⟩)
  rcases HC.out with ⟨e,H⟩|⟨L,j,e,G,h0,hN,hM⟩
  ·rw[e] at u;obtain⟨qv,Q,Y,cv,rfl, -, -⟩:=u.out;have HX:=hid H;have ag:¬((0:Int)<(([]:List Int).length:Int)):=oS;go_wp2_with fail
   go_ret
   exact⟨rfl,tg,N.out,V,by rw[O.out, <-HX.out];exact B⟩
  ·rw[e] at u;obtain⟨qv,Q,Y,cv,rfl,X,ai⟩:=u.out;have I:=X oS;subst I;have cl:wr.cell? ⟨Q,Y+L.length,none⟩=some (.int .i64 (j:Int)):=by
    have:=ai L.length oS;simpa using this
   have af:((L++[(j:Int)]).length:Int)=(L.length:Int)+1:=oS;have al:(L.length:Int)<=1000:=by
    have z:=A0 q.IA t q.IA.length;rw[e,ax] at z;have R:=i.2.1.fits.IA;simp at z;omega
   generalize (L++[(j:Int)]).length=ln at af X;have ag:(0:Int)<(ln:Int):=oA;have D:=hid (sH (m+1) q j wr wb tg V i.1 i.2.1 i.2.2.1 G B);rw[ae h0,ae h0] at D;have c:=hid hN;have w:=hid (show neS (drR (m+1) q j).IA<neW wr g p.IA.length by rw[t5 B M i.2.2.2.2.1];exact hM);generalize drR (m+1) q j=Z at D c w;go_wp2_with fail
   refine D.mono ?_;rintro y w2 ⟨rfl,aj,b2,k2⟩;have ab:=hid (tV wb V Z t w2 (b2.view c.2.1.fits c.2.2.1.len) c.2.2.2.1);have B2:=hid b2;have K2:=hid (N.trans k2);go_wp2_with fail
   refine ab.mono ?_;rintro y w3 ⟨v3,rfl,ah,U⟩;have ac:=hid ah;have K:=hid (B2.below U);have K3:=hid (K2.trans (bj U));go_wp2_with fail
   refine⟨⟨Z,aj,ac,c,K,K3⟩,?_⟩;show neW w3 g p.IA.length<neW wr g p.IA.length
   rw[t5 K M c.2.2.2.2.1];exact w
theorem Gr (a:Array Value) (W:World):(callFunc 82 a).run Tryz.prog W=.ok (.enter 82 a) W:=by
 go_simp
theorem sK (c1 c2 c0:Nat) (a:Int) (p:PW) (c:p.Fits) (hl:∀l∈p.ID,l.length<=100) (b:Snd p):rM 156 #[ptr c1,ptr c2] (jc [(c1,.int .i64 a),(c2,.func (.func 82) #[] #[.pointer (some ⟨c0,0,none⟩)]),(c0,.int .i64 a)]) eV p (rJ p a) (fF p a):=
 vC _ c1 c2 c0 a p (rvN (drF (nds p+1)) a.toNat (neS p.IA) p) _ c hl Gr fun e=>by
  obtain⟨j,rfl,f, -⟩:=oX e;obtain⟨r,d⟩:=yu b;rw[ah];exact⟨(qZ _ p (dL _) (iz c b) d).1,FP (dL _) (iz c b) (ot b) d,yi b e,sJ (nds p) c0 j p (dL _) (iz c b) d hl f⟩
theorem DB {p:PW} {t m j:Nat} (b:t<=j) (c:j<t+m) (a:j<p.IA.length) (h0:p.IA[j] 0≠0):usd p t m=true:=by
 cases h:usd p t m with
 |true=>rfl
 |false=>have:=yI h a h0;omega
theorem AH {p:PW} {t m:Nat} (h:∀j (e:j<p.IA.length),t<=j->j<t+m->p.IA[j] 0=0):usd p t m=false:=by
 unfold usd;rw[bP];intro f d;obtain⟨i,hi⟩:=List.mem_iff_getElem?.1 d;rw[List.getElem?_take] at hi;by_cases a:i<m
 ·rw[ag a,dK] at hi;obtain⟨b,c⟩:=List.getElem?_eq_some_iff.1 hi;have:=h (t+i) b oA oA;rw[c] at this;simp[this]
 ·rw[ae a] at hi
  cases hi
theorem yq {p:PW} {n:Int} (h:fN p n=false):n<0∨(¬(n<0)∧(p.IA.length:Int)<=n):=by
 unfold fN at h;have:=dh h;omega
theorem iu (n k m P:Int) (p:PW) (L:p.Fits) (hl:∀l∈p.ID,l.length<=100) (O:Snd p) (W:World) (wb:Nat) (tag:Nat->Nat) (V:Nat->Value) (aX:cb W wb tag V p):
  Calls Tryz.prog 38 #[.pointer (some ⟨wb,0,none⟩),.int .i64 n,.int .i64 k,.int .i64 m,.int .i64 P] W fun r W'=>r=.returned (.int .i64 (mkE p n k m P))∧∃tag',Kt tag tag' W W'∧(mkE p n k m P=0->∃V',cb W' wb tag' V' (mkP p n k m P))∧(mkE p n k m P≠0->∃V',cb W' wb tag' V' p):=by
 obtain⟨bt,kr⟩:=iJ aX;have KR:=hid kr;have T0:=hid (fun x (h:W.heap.size<=x)=>show jb tag W.heap.size x=0 from ae oA);generalize jb tag W.heap.size=tg at*;clear aX kr;have aw:=hid bt;have cJ:(p.IA.length:Int)<=1000:=by have:=L.IA;omega
 obtain⟨q2,w,cap2,e2,aN⟩:=bt.o.IA.shape;have c2:W.cell? ⟨wb,2,none⟩=some (.slice q2 p.IA.length cap2):=by rw[ai bt.r (k:=2) rfl,e2]
 by_cases Y:fN p n=true
 rotate_left
 ·have c:=hid (show mkE p n k m P=2 by
   have d:fF p n=2:=by unfold fF;rw[ae Y]
   have z:clE p n=2:=by unfold clE;rw[d];rfl
   unfold mkE;rw[z];split<;>rfl)
  rcases yq (Bool.eq_false_iff.2 Y) with h0|⟨h0,d⟩
  all_goals
   clear bt L hl O Y e2 aN;go_enter Tryz.func38,Tryz.ntmps38
   go_wp2_with fail
   go_ret
   exact⟨by rw[c.out];rfl,tg,KR.out,fun h=>(by rw[c.out] at h;cases h),fun _=>⟨V,aw.out⟩⟩
 obtain⟨j,rfl,hj⟩:=fT Y;have cw:¬((j:Int)<0):=oA;have cx:(j:Int)<(p.IA.length:Int):=oA;by_cases Z:fN p P=true
 rotate_left
 ·have c:=hid (show mkE p j k m P=2 by unfold mkE;rw[Bool.eq_false_iff.2 Z];rfl);rcases yq (Bool.eq_false_iff.2 Z) with h0|⟨h0,d⟩
  all_goals
   clear bt L hl O Y e2 aN Z;go_enter Tryz.func38,Tryz.ntmps38
   go_wp2_with fail
   go_ret
   exact⟨by rw[c.out];rfl,tg,KR.out,fun h=>(by rw[c.out] at h;cases h),fun _=>⟨V,aw.out⟩⟩
 obtain⟨t,rfl,ht⟩:=fT Z;have cK:¬((t:Int)<0):=oA;have cL:(t:Int)<(p.IA.length:Int):=oA;obtain rfl:=aN oA;have E2:=hid e2;have au:mkE p j k m t=if clE p j=0 then (if ek 2 8 k=true then (if fcE p t m=0 then (if (p.IA.getD j fv) 2 - usV p j<m then 5 else 0) else fcE p t m) else 3) else clE p j:=by unfold mkE;rw[Z,ag rfl,ah,ah]
 have ap:=hid (mC wb V p j W (bt.view L hl));by_cases N:fF p j=0
 rotate_left
 ·have C:clE p j=fF p j:=ae N;have c:=hid (show mkE p j k m t=fF p j by rw[au,ae (by rw[C];exact N),C]);have HN:=hid N;have bG:(fF p j==0)=false:=by simpa using N
  generalize fF p j=x at ap c HN bG;clear bt L hl O Y e2 Z au N C;go_enter Tryz.func38,Tryz.ntmps38
  go_wp2_with fail
  refine ap.mono ?_;rintro q w1 ⟨rfl,rfl⟩;go_wp2_with fail
  go_ret
  exact⟨by rw[c.out];rfl,tg,KR.out,fun h=>absurd (c.symm.trans h) HN,fun _=>⟨V,aw.out⟩⟩
 rw[N] at ap;have aI:p.IA.getD j fv=p.IA[j]:=by rw[aa,ac hj];rfl
 obtain⟨f,hf⟩:∃f,p.IA[j]=f:=⟨_,rfl⟩
 have C:clE p j=if f 0=1 then 0 else 3:=by unfold clE;rw[ag N,ah,aI,hf]
 have RJ:=hid (show W.rangeAt w (j*7) (cf 6 f) from uw (by
  have z:=bt.o.IA;rw[e2] at z;have h3:=z.range hj;rw[hf] at h3;exact h3))
 have s:=hid bt;have aE:=hid (aP W zK 32 W.heap.size 6 rfl oD);have av:=hid (show Below W.heap.size W ((W.alloc (.cells zK 32)).setCells W.heap.size 0 (cf 6 f)) from bR (bal (af W.heap.size W) (.cells zK 32)) (aq _) _ 0);have RK:=hid (World.rangeAt_setCells_same (W.alloc (.cells zK 32)) W.heap.size 0 (cf 6 f) (by rw[ay];exact aE));have TK:=hid (gH (cf 6 f) 0 (W.alloc (.cells zK 32)) (B:=W.heap.size) aE);have I:=hid (T0.out W.heap.size (aq _));have aj:=hid (show t/16<p.kinds.length by have:=O.lf.IA;omega);have cy:((t:Int)/16)=((t/16:Nat):Int):=oA;have cz:((t/16:Nat):Int)<(p.kinds.length:Int):=by have:=aj.out;omega
 have cA:(p.kinds.length:Int)<=1000:=by have:=L.kinds;omega
 obtain⟨g1,cap1,e1⟩:=bt.o.kinds.form (show 0<p.kinds.length by have:=aj.out;omega);have E1:=hid e1;obtain⟨yk,aQ⟩:∃y,p.kinds[t/16]=y:=⟨_,rfl⟩
 have bk:=hid (fun X (h:cb X wb tg V p)=>show X.cell? ⟨g1,t/16,none⟩=some (.int .i64 yk) from by
  have z:=h.o.kinds;rw[e1] at z;rw[<-aQ];exact z.int aj)
 have E:=hid (show fcE p t m=if yk=5 then (if ek 1 (16 - (t:Int)%16) m=true then (if usd p t m.toNat=true then 12 else 0) else 2) else 3 by unfold fcE;rw[jU (aj.out), <-aQ];rfl);have D:=hid au;have aS:=hid O;have aR:=hid L;have bV:=hid hl;have an:=hid C;have HJ:=hid hj;have Q:=hid hf;have ao:=hid aI;have br:=hid O.lf.IE;have bu:=hid O.lf.IA;have F:=hid ht;have bc:=hid (fun X (h:cb X wb tg V p)=>rN wb V p j X (h.view L hl));have bA:=hid (fun X (h:cb X wb tg V p) i (hi:i<p.IA.length)=>show X.cell? ⟨w,i*7,none⟩=some (.int .i64 (p.IA[i] 0)) from by have d:=h.IU e2 hi (show 0<7 by omega);rw[bz] at d;exact d);generalize t/16=tq at*;clear bt L hl O Y Z e1 e2 N aI hf C au T0 aj ht aQ;go_enter Tryz.func38,Tryz.ntmps38
 go_wp2_with fail
 refine ap.mono ?_;rintro q w1 ⟨rfl,rfl⟩;go_upto_region 7 with (first|((with_reducible refine gld 32 ?_);refine uM rfl _ rfl w (j*7) rfl (cf 6 f) (ay _ _) RJ ?_)|((with_reducible refine gst 32 ?_);refine gS rfl _ _ rfl W.heap.size 0 rfl (cf 6 f) rfl (ay _ _) (bQ _ _) aE ?_))
 generalize World.setCells _ _ _ _=W2 at*;obtain⟨kb,aM⟩:∃kb,W.heap.size=kb:=⟨_,rfl⟩
 have bj:=hid aM;rw[aM] at RK TK I ⊢;clear aM c2;have A:=hid (s.below av);have K2:=hid (KR.trans (.below av));have c1:W2.cell? ⟨wb,1,none⟩=some (.slice (some ⟨g1,0,none⟩) p.kinds.length cap1):=by rw[ai A.r (k:=1) rfl,E1.out]
 have y0:=ai RK (k:=0) (v:=.int .i64 (f 0)) (dk 6 _ 0 oA);by_cases d:f 0=1
 rotate_left
 ·have c:=hid (show mkE p j k m t=3 by rw[D.out,an.out,ae d];rfl);have bE:(f 0 !=1)=true:=by simpa using d
  go_wp2_with fail
  go_ret
  exact⟨by rw[c.out];rfl,tg,K2.out,fun h=>(by rw[c.out] at h;cases h),fun _=>⟨V,A.out⟩⟩
 have C:=an.out;rw[ag d] at C;replace an:=hid C;replace D:=hid (D.trans (ag C));have bE:(f 0 !=1)=false:=by rw[d];rfl
 clear C;by_cases ab:ek 2 8 k=true
 rotate_left
 ·have c:=hid (show mkE p j k m t=3 by rw[D.out,ae ab]);have bO:k<2∨(¬(k<2)∧8<k):=by
   unfold ek at ab;have:=dh (Bool.eq_false_iff.2 ab);omega
  rcases bO with z|⟨z,h3⟩
  all_goals
   go_wp2_with fail
   go_ret
   exact⟨by rw[c.out];rfl,tg,K2.out,fun h=>(by rw[c.out] at h;cases h),fun _=>⟨V,A.out⟩⟩
 replace D:=hid (D.trans (ag ab));obtain⟨cT,cU⟩:¬(k<2)∧¬(8<k):=by
  unfold ek at ab;have:=aA ab;omega
 have xk:=bk.out _ A;by_cases h5:yk=5
 rotate_left
 ·have c:=hid (show mkE p j k m t=3 by rw[D.out,E.out,ae h5];rfl);have bX:(yk !=5)=true:=by simpa using h5
  go_wp2_with fail
  go_ret
  exact⟨by rw[c.out];rfl,tg,K2.out,fun h=>(by rw[c.out] at h;cases h),fun _=>⟨V,A.out⟩⟩
 subst h5;replace E:=hid (E.trans (ag rfl));obtain⟨tm,bK⟩:∃tm:Int,(t:Int)%16=tm:=⟨_,rfl⟩
 rw[bK] at E;have cO:0<=tm:=oA;have cP:tm<16:=oA;by_cases ad:ek 1 (16 - tm) m=true
 rotate_left
 ·have c:=hid (show mkE p j k m t=2 by rw[D.out,E.out,ae ad];rfl);have bP:m<1∨(¬(m<1)∧16<m)∨(¬(m<1)∧¬(16<m)∧16<tm+m):=by
   unfold ek at ad;have:=dh (Bool.eq_false_iff.2 ad);omega
  rcases bP with h6|⟨h6,h7⟩|⟨h6,h7,h8⟩
  all_goals
   go_wp2_with fail
   go_ret
   exact⟨by rw[c.out];rfl,tg,K2.out,fun h=>(by rw[c.out] at h;cases h),fun _=>⟨V,A.out⟩⟩
 replace E:=hid (E.trans (ag ad));obtain⟨cV,cX,cY⟩:¬(m<1)∧¬(16<m)∧¬(16<tm+m):=by
  unfold ek at ad;have:=aA ad;omega
 obtain⟨mn,rfl⟩:∃mn:Nat,m=mn:=⟨m.toNat,oA⟩
 rw[ah] at E;have aF:=hid (show t+mn<=p.IA.length by have:=bu.out;have:=F.out;omega);have cQ:(t:Int)+(mn:Int)<=(p.IA.length:Int):=by have:=aF.out;omega
 clear ab ad;go_upto_region 12 with fail
 clear c1 y0 xk
 go_loopw [13] (fun i wr=>∃(a:Nat),t<=a∧a<=t+mn∧i=.int .i64 a∧W2=wr∧Hid (∀x (hx:x<p.IA.length),t<=x->x<a->p.IA[x] 0=0)) (fun i _=>t+mn - (intOf i).toNat)
 case atStart=>exact⟨t,aq _,oA,rfl,rfl,hid (fun x _ d z=>oA)⟩
 case round=>
  obtain⟨a,bF,bY,rfl,rfl,HN⟩:=hrel;by_cases a8:a<t+mn
  ·have bH:(a:Int)<(t:Int)+(mn:Int):=oA;have aZ:a<p.IA.length:=by have:=aF.out;omega
   have bZ:(a:Int)<(p.IA.length:Int):=oA;have c2:W2.cell? ⟨wb,2,none⟩=some (.slice (some ⟨w,0,none⟩) p.IA.length cap2):=by rw[ai A.r (k:=2) rfl,E2.out]
   have xa:=bA.out _ A a aZ;by_cases h0:p.IA[a] 0=0
   ·rw[h0] at xa;have bp:=hid (show ∀x (hx:x<p.IA.length),t<=x->x<a+1->p.IA[x] 0=0 from fun x hx d z=>by
     by_cases e:x=a
     ·subst e;exact h0
     ·exact HN x hx d oA)
    clear h0;go_wp2_with fail
    exact⟨⟨a+1,oA,oA,by go_num,by first|rfl|trivial,bp⟩,by simp[intOf];omega⟩
   ·have HU:=DB (m:=mn) bF a8 aZ h0;have c:=hid (show mkE p j k mn t=12 by rw[D.out,E.out,HU];rfl);have bD:(p.IA[a] 0 !=0)=true:=by simpa using h0
    generalize p.IA[a] 0=y at xa bD;clear h0 HU;go_wp2_with fail
    go_ret
    exact⟨by rw[c.out];rfl,tg,K2.out,fun h=>(by rw[c.out] at h;cases h),fun _=>⟨V,A.out⟩⟩
  ·have cm:¬((a:Int)<(t:Int)+(mn:Int)):=oA;have aT:=hid (AH (p:=p) (t:=t) (m:=mn) (fun x hx d z=>HN.out x hx d oA));have a3:fcE p t mn=0:=by rw[E.out,aT.out];rfl
   have aG:=D.out;rw[ag a3,ao.out,Q.out] at aG;obtain⟨j',aJ,ej, -, -,a0,a7,a9,bL⟩:=BP aS an;obtain rfl:j'=j:=oA;rw[Q.out] at a0 a7 a9;obtain⟨cc,a2⟩:=a0;obtain⟨cB,cC⟩:=a7;obtain⟨cF,cG⟩:=a9;obtain⟨bM,bN⟩:=bL;have bn:=hid (show (p.kinds.length:Int)<=24 by have:=aS.lf.k2;omega);have cd:f 1<=24:=by have:=bn.out;omega
   have cH:(mn:Int)<=16:=oA;have y2:=ai RK (k:=2) (v:=.int .i64 (f 2)) (dk 6 _ 2 oA);have y3:=ai RK (k:=3) (v:=.int .i64 (f 3)) (dk 6 _ 3 oA);have aU:=hid (show usV p j'=if frm p j'=true then f 3 else 0 by unfold usV;rw[ah,ao.out,Q.out]);have hB:((mkB p j':Nat):Int)=f 1+usV p j':=by unfold mkB;rw[ah,ao.out,Q.out];omega
   have HP:=hid (show mkP p j' k mn t={mkI p j' k (mkB p j') t mn with IA:=(mkI p j' k (mkB p j') t mn).IA.set j' (upd f 3 (usV p j'+mn))} by unfold mkP;rw[ah,ah,ah,ao.out,Q.out]);have bq:=hid (yI aT aJ (by rw[Q.out];omega));have bs:=hid (show ∀i,i<=mn->∀(h:j'<(mkI p j' k (mkB p j') t i).IA.length),(mkI p j' k (mkB p j') t i).IA[j']=f from fun i hi h=>by
    have d:=xD p j' k (mkB p j') t j' i (by have:=bq.out;omega);rw[ac h,ac aJ,Q.out] at d;exact aL d)
   have bU:=hid (fun i=>Aa aR (j':Int) k (mkB p j') t i);have G:=hid (fun i=>mN p (j':Int) k (mkB p j') t i);have ax:=hid hB;have az:=hid aG;have bo:=hid (show f 1+f 2<=(p.kinds.length:Int) from a2);clear aG hB a3 a2;generalize mkB p j'=g at*;go_upto_region 17 with fail
   go_wp2_with fail
   refine (bc.out _ A).mono ?_;rintro q w3 ⟨rfl,rfl⟩
   go_upto_if 114 with fail
   go_cut [14] (fun u wx=>Hid (u=.int .i64 (usV p j'))∧Hid (W2=wx))
   case first=>
    cases a4:frm p j'<;>(rw[a4] at aU;go_wp2_with fail;go_meet;exact⟨hid (by rw[aU.out];rfl),hid rfl⟩)
   case rest=>
   obtain⟨d,z⟩:=hcut;obtain⟨us,am⟩:∃us,usV p j'=us:=⟨_,rfl⟩
   have bW:=hid am;rw[am] at d;obtain rfl:=d.out;obtain rfl:=z.out;have bv:=hid (show 0<=us∧us<=100 by rw[<-am];exact⟨bM,bN⟩);obtain⟨cR,cS⟩:=bv.out;rw[am] at az ax HP;clear d z am;by_cases ck:f 2<us+(mn:Int)
   ·have c:=hid (show mkE p j' k mn t=5 by rw[az.out,ag oA]);go_wp2_with fail
    go_ret
    exact⟨by rw[c.out];rfl,tg,K2.out,fun h=>(by rw[c.out] at h;cases h),fun _=>⟨V,A.out⟩⟩
   have c:=hid (show mkE p j' k mn t=0 by rw[az.out,ae oA]);have bf:=hid (show g+mn<=p.kinds.length by have:=ax.out;have:=bo.out;omega);have KW:=hid (show Kt tg tg W W2 from .below av);go_upto_region 22 with fail
   clear y2 y3
   go_loopw [15] (fun i wr=>∃(a:Nat),a<=mn∧i=.int .i64 a∧Hid (cb wr wb tg V (mkI p j' k g t a))∧Hid (Kt tg tg W wr)∧Hid (wr.rangeAt kb 0 (cf 6 f)∧wr.there kb 0 6)) (fun i _=>mn - (intOf i).toNat)
   case atStart=>exact⟨0,oA,rfl,A,KW,hid ⟨RK.out,TK.out⟩⟩
   case round=>
    obtain⟨a,ha,rfl,s,F,R⟩:=hrel;have H:=hid R.1;have U:=hid R.2;clear R KW;by_cases a8:a<mn
    ·have bH:(a:Int)<(mn:Int):=oA;have y1:=ai H (k:=1) (v:=.int .i64 (f 1)) (dk 6 _ 1 oA);obtain⟨fr,a5⟩:∃fr:Nat,g+a=fr:=⟨_,rfl⟩
     have a4:f 1+us+(a:Int)=(fr:Int):=by have:=ax.out;omega
     have bg:=hid a5;obtain⟨ta,ba⟩:∃ta:Nat,t+a=ta:=⟨_,rfl⟩
     have aD:=hid ba;have cg:fr<p.kinds.length:=by have:=bf.out;omega
     have cj:(fr:Int)<(p.kinds.length:Int):=oA;have e1:V 1=.slice (some ⟨g1,0,none⟩) (mkI p j' k g t a).kinds.length cap1:=by rw[(G.out a).1];exact E1
     have c1:wr.cell? ⟨wb,1,none⟩=some (.slice (some ⟨g1,0,none⟩) p.kinds.length cap1):=by rw[ai s.r (k:=1) rfl,E1.out]
     have bb:=(s.Je e1 fr 1 (by rw[(G.out a).1];omega) 0 oA).2;rw[bz] at bb;obtain⟨yk,bT⟩:∃y,wr.cell? ⟨g1,fr,none⟩=some y:=by
      have d:=(s.Je e1 fr 1 (by rw[(G.out a).1];omega) 0 oA).1;rw[bz] at d;exact Option.isSome_iff_exists.1 d
     obtain⟨b3,k3⟩:=s.IM e1 fr k;have B3:=hid b3;have K3:=hid (F.trans k3);have R3:=hid (show (wr.setCell ⟨g1,fr,none⟩ (.int .i64 k)).rangeAt kb 0 (cf 6 f) from fun o v hv=>k3.cell (H.out o v hv) I);have T3:=hid (k3.there U I);clear b3 k3 e1 a5 ba;go_upto_region 27 with fail
     generalize World.setCell _ _ _=W3 at*;clear y1 c1 bb bT s F H U;generalize wr=cZ at*
     go_loopw [17] (fun i wr=>∃(e:Nat),e<=16∧i=.int .i64 e∧Hid (cb wr wb tg V {mkI p j' k g t a with kinds:=(mkI p j' k g t a).kinds.set fr k,IE:=zr e (mkI p j' k g t a).IE (fr*16)})∧Hid (Kt tg tg W wr)∧Hid (wr.rangeAt kb 0 (cf 6 f)∧wr.there kb 0 6)) (fun i _=>16 - (intOf i).toNat)
     case atStart=>exact⟨0,oA,rfl,hid (by rw[lq];exact B3),K3,hid ⟨R3.out,T3.out⟩⟩
     case round=>
      obtain⟨e,he,rfl,s,F,R⟩:=hrel;have H:=hid R.1;have U:=hid R.2;clear R B3 K3 R3 T3;by_cases cD:e<16
      ·have cE:(e:Int)<16:=oA;obtain⟨ix,a6⟩:∃ix:Nat,fr*16+e=ix:=⟨_,rfl⟩
       have cs:(fr:Int)*16+(e:Int)=(ix:Int):=oA;have bh:=hid a6;have bI:p.IE.length=p.kinds.length*16:=br.out;have ct:ix<p.IE.length:=oA;have cv:(ix:Int)<(p.IE.length:Int):=oA;obtain⟨g0,cap0,e0⟩:=s.o.IE.form (by rw[nm,(G.out a).2.1];omega);have ar:V 0=.slice (some ⟨g0,0,none⟩) (zr e (mkI p j' k g t a).IE (fr*16)).length cap0:=e0;rw[nm,(G.out a).2.1] at e0;have c0:wr.cell? ⟨wb,0,none⟩=some (.slice (some ⟨g0,0,none⟩) p.IE.length cap0):=by rw[ai s.r (k:=0) rfl,e0]
       have cI:(p.IE.length:Int)<=1000:=by have:=aR.IE;omega
       have bS:=(s.Jp ar ix 1 (by show ix+1<=(zr e (mkI p j' k g t a).IE (fr*16)).length;rw[nm,(G.out a).2.1];omega) 0 oA).2;rw[bz] at bS;obtain⟨yr,c3⟩:∃y,wr.cell? ⟨g0,ix,none⟩=some y:=by
        have d:=(s.Jp ar ix 1 (by show ix+1<=(zr e (mkI p j' k g t a).IE (fr*16)).length;rw[nm,(G.out a).2.1];omega) 0 oA).1;rw[bz] at d;exact Option.isSome_iff_exists.1 d
       obtain⟨b4,k4⟩:=s.IJ ar ix 0;have B4:=hid (show cb (wr.setCell ⟨g0,ix,none⟩ (.int .i64 0)) wb tg V {mkI p j' k g t a with kinds:=(mkI p j' k g t a).kinds.set fr k,IE:=zr (e+1) (mkI p j' k g t a).IE (fr*16)} by rw[yN,bh.out];exact b4);have K4:=hid (F.trans k4);have R4:=hid (show (wr.setCell ⟨g0,ix,none⟩ (.int .i64 0)).rangeAt kb 0 (cf 6 f) from fun o v hv=>k4.cell (H.out o v hv) I);have bC:=hid (k4.there U I);clear b4 k4 e0 ar a6 bI;go_wp2_with fail
       exact⟨⟨e+1,oA,by go_num,B4,K4,hid ⟨R4.out,bC.out⟩⟩,by simp[intOf];omega⟩
      ·obtain rfl:e=16:=oA;have cq:¬((16:Int)<16):=oA;have L5:=hid (show ({mkI p j' k g t a with kinds:=(mkI p j' k g t a).kinds.set fr k,IE:=zr 16 (mkI p j' k g t a).IE (fr*16)}:PW).IA.length=p.IA.length from (G.out a).2.2);have aH:V 2=.slice (some ⟨w,0,none⟩) ({mkI p j' k g t a with kinds:=(mkI p j' k g t a).kinds.set fr k,IE:=zr 16 (mkI p j' k g t a).IE (fr*16)}:PW).IA.length cap2:=by rw[L5.out];exact E2
       have bJ:ta<p.IA.length:=by have:=aF.out;have:=aD.out;omega
       have cM:(ta:Int)<(p.IA.length:Int):=oA;have cN:(t:Int)+(a:Int)=(ta:Int):=by have:=aD.out;omega
       have c2:wr.cell? ⟨wb,2,none⟩=some (.slice (some ⟨w,0,none⟩) p.IA.length cap2):=by rw[ai s.r (k:=2) rfl,E2.out]
       obtain⟨h6,k6⟩:=s.IV aH (i:=ta) (by rw[L5.out];exact bJ) (nsl k (fr:Int) j');have B6:=hid (show cb (wr.setCells w (ta*7) (cf 7 (nsl k (fr:Int) j'))) wb tg V (mkI p j' k g t (a+1)) by
        show cb _ wb tg V (mk1 (mkI p j' k g t a) j' k g t a)
        unfold mk1;rw[bg.out,aD.out];exact h6)
       have K6:=hid (F.trans k6);have R6:=hid (show (wr.setCells w (ta*7) (cf 7 (nsl k (fr:Int) j'))).rangeAt kb 0 (cf 6 f) from fun o v hv=>k6.cell (H.out o v hv) I);have T6:=hid (k6.there U I);have bB:=hid (s.Jh aH (ta*7) 7 (by rw[L5.out];omega));clear h6 k6 aH;go_wp2_with (first|((with_reducible refine gst 34 ?_);refine ni rfl _ _ rfl w (ta*7) rfl (cf 7 (nsl k (fr:Int) j')) rfl (ay _ _) (bQ _ _) bB ?_))
       exact⟨⟨a+1,oA,by go_num,B6,K6,hid ⟨R6.out,T6.out⟩⟩,by simp[intOf];omega⟩
    ·obtain rfl:a=mn:=oA;have cp:¬((a:Int)<(a:Int)):=oA;have y3:=ai H (k:=3) (v:=.int .i64 (f 3)) (dk 6 _ 3 oA);have f3:=(U.out 3 oA).2;rw[aC] at f3;have R7:=hid (yc H (us+a));have B7:=hid (s.kp (T:=fun x=>x=kb) ((aV (fun x=>x=kb) wr).setCell (b:=kb) (o:=3) (.inl rfl) (.int .i64 (us+a))) (fun x _ e=>by rw[e];exact I) (fun _ _=>rfl));have K7:=hid (F.JV (b:=kb) (o:=3) (by rw[bj.out];exact aq _) (.int .i64 (us+a)));go_upto_region 32 with fail
     generalize World.setCell _ _ _=M at*;clear y3 f3 H U s F;obtain⟨kf,al⟩:∃kf,upd f 3 (us+(a:Int))=kf:=⟨_,rfl⟩
     rw[al] at R7;have L7:=hid (G.out a).2.2;have he:V 2=.slice (some ⟨w,0,none⟩) (mkI p j' k g t a).IA.length cap2:=by rw[L7.out];exact E2
     have aK:j'<(mkI p j' k g t a).IA.length:=by rw[L7.out];exact aJ
     have aO:=bs.out a (aq _) aK;have BD:Hid (cb M.drew wb tg V (mkI p j' k g t a)):=hid (B7.below (aB M 1));have KD:Hid (Kt tg tg W M.drew):=hid (K7.trans (.below (aB M 1)));have RD:Hid (M.drew.rangeAt kb 0 (cf 6 kf)):=hid (cW R7 (aB M 1));obtain⟨h8,k8⟩:=BD.JF he aK kf (by rw[aO, <-al];rfl) (fun x hx=>by rw[aO, <-al];unfold upd;rw[ae oA]);have B8:=hid (show cb (M.drew.setCells w (j'*7) (cf 6 kf)) wb tg V (mkP p j' k a t) by rw[HP.out,al];exact h8);have K8:=hid (KD.trans k8);have R8:=hid (show (M.drew.setCells w (j'*7) (cf 6 kf)).rangeAt kb 0 (cf 6 kf) from fun o v hv=>k8.cell (RD.out o v hv) I);have aW:=hid (BD.Jh he (j'*7) 6 (by rw[L7.out];omega));have KS:=hid (fun X q (h:cb X wb tg V q) (hr:X.rangeAt kb 0 (cf 6 kf))=>show X.cell? ⟨wb,2,none⟩=some (.slice (some ⟨w,0,none⟩) p.IA.length cap2)∧X.rangeAt kb 0 (cf 6 kf) from⟨by rw[ai h.r (k:=2) rfl,E2.out],hr⟩);clear h8 k8 he aK aO al HP;refine wp_region_held_drew (S:=fun X=>X.cell? ⟨wb,2,none⟩=some (.slice (some ⟨w,0,none⟩) p.IA.length cap2)∧X.rangeAt kb 0 (cf 6 kf)) oK (KS.out _ _ BD RD) (fun aY=>?_);have J:=hid aY;clear aY;refine tk 0 (.pointer (some ⟨wb,0,none⟩)) rfl J ?_;simp only[jj];refine tk 1 (.pointer (some ⟨wb,0,none⟩)) rfl J ?_;simp only[jj];refine tk 2 (.pointer (some ⟨wb,2,none⟩)) rfl J ?_;simp only[jj];refine eE 3 (.slice (some ⟨w,0,none⟩) p.IA.length cap2) rfl (Or.inl ⟨oR,fun W h=>by have h3:=h.1;clear h;go_simp⟩) J ?_;simp only[jj];refine tk 4 (.int .i64 j') rfl J ?_;simp only[jj];refine eE 5 (.agg (cf 6 kf).toArray) rfl (yieldsIf_load_mid oR _ _ rfl _ _ rfl (cf 6 kf) _ (fun _ h=>h.2) Tryz.underlying32 rfl (by rw[qy,ay])) J ?_;simp only[jj];refine tk 6 (.pointer (some ⟨w,j'*7,none⟩)) rfl J ?_;simp only[jj];refine tk 7 (.pointer (some ⟨w,j'*7,none⟩)) rfl J ?_;simp only[jj];refine wpAnyH_ready (rs:=[8]) oK oS (AllReadyH.cons rfl (fun K hK=>?_) AllReadyH.nil);refine wp_store_mid 32 _ _ rfl w (j'*7) (cf 6 kf).toArray rfl rfl (by rw[eB,ay];exact aW) (by rw[qy];rfl) (all_oneCell_toArray (bQ 6 _)) ?_;refine hK _ _ (KS.out _ _ B8 R8) (fun _=>?_);clear hK K J
     try simp only[Act.put]
     refine dc oK ?_ _;clear KS BD KD RD B7 K7 R7 aW;generalize World.setCells _ _ _ _=W8 at*;go_wp2_with fail
     go_ret
     exact⟨by rw[c.out];rfl,tg,KR.trans K8,fun _=>⟨V,B8.out⟩,fun h=>absurd (by first|rfl|assumption|exact c) h⟩
theorem nC (n k m a:Int) (p:PW) (i:p.Fits) (hl:∀l∈p.ID,l.length<=100) (j:Snd p) (W:World) (wb:Nat) (tag:Nat->Nat) (V:Nat->Value) (d:cb W wb tag V p):
  Calls Tryz.prog 38 #[.pointer (some ⟨wb,0,none⟩),.int .i64 n,.int .i64 k,.int .i64 m,.int .i64 a] W fun r b=>r=.returned (.int .i64 (mkE p n k m a))∧∃tag',Kt tag tag' W b∧(mkE p n k m a=0->∃c,cb b wb tag' c (mkP p n k m a)):=(iu n k m a p i hl j W wb tag V d).mono fun x b h=>by
 obtain⟨e,o,f,g,_⟩:=h;exact⟨e,o,f,g⟩
