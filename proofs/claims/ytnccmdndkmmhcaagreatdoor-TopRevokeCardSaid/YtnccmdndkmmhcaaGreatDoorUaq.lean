/- Uaq -/
import Derived.Test.YtnccmdndkmmhcaaGreatDoorUap
set_option maxRecDepth 100000
set_option maxHeartbeats 16000000
namespace Go.Proofs.YtnccmdndkmmhcaaGreatDoor
namespace Wd
open Go.RowKit Mem Bw Nums Mmu
theorem yU:∀x y z:Fin 8,anB (x.val:Int) (y.val:Int)=0->anB (y.val:Int) (z.val:Int)=0->anB (x.val:Int) (z.val:Int)=0:=aA oK
theorem Gl {x y z:Int} (c:0<=x∧x<=7) (d:0<=y∧y<=7) (e:0<=z∧z<=7) (a:anB x y=0) (b:anB y z=0):anB x z=0:=by
 have:=yU ⟨x.toNat,oA⟩ ⟨y.toNat,oA⟩ ⟨z.toNat,oA⟩;rw[show (((⟨x.toNat,oA⟩:Fin 8).val:Nat):Int)=x by simp;omega,show (((⟨y.toNat,oA⟩:Fin 8).val:Nat):Int)=y by simp;omega,show (((⟨z.toNat,oA⟩:Fin 8).val:Nat):Int)=z by simp;omega] at this;exact this a b
theorem kA {f s:Nat->Int} (a:f 0≠1):cmB f s=true↔s 0=f 0∧s 1=f 1∧anB (s 4) (f 4)=0∧(f 5=0∨s 5=f 5):=by
 unfold cmB;rw[ae a];simp only[am,cF,bz,and_assoc]
theorem kV {f s:Nat->Int} (a:f 0=1):cmB f s=true↔s 0≠1∧f 1<=s 1∧s 1<=f 1+f 3 - 1:=by
 unfold cmB;rw[ag a,am,bne_iff_ne,bg]
theorem zg {u s i:Nat->Int} (j:0<=u 4∧u 4<=7) (h:0<=s 4∧s 4<=7) (hi:0<=i 4∧i 4<=7) (f:cmB u s=true) (g:cmB s i=true):cmB u i=true:=by
 obtain⟨a,b,c,d⟩:=(kA (oW f)).1 g;by_cases e:u 0=1
 ·rw[kV e] at f ⊢;exact⟨by rw[a];exact f.1,by rw[b];exact f.2.1,by rw[b];exact f.2.2⟩
 ·rw[kA e] at f ⊢;obtain⟨a1,b1,c1,d1⟩:=f;exact⟨a.trans a1,b.trans b1,Gl hi h j c c1,oA⟩
theorem Ky.r4 {D:Nat->Prop} {p:PW} {r:Nat->Nat} (h:Ky D p r) {i:Nat} (hi:p.s i 0≠0):0<=p.s i 4∧p.s i 4<=7:=(mS (h.key i hi).c hi).r
theorem Ky.J6 {D:Nat->Prop} {p:PW} {r:Nat->Nat} (h:Ky D p r) {s:Nat} (o:p.s s 0≠0):Ky D (drA p s) r:=by
 have S:∀i,(drA p s).s i=if i=s then eS else lY s (p.s s 6) (p.s i):=fun i=>jS p s i
 have g:∀i,(drA p s).s i 0≠0->i≠s:=fun i hi e=>hi (by rw[S,ag e];rfl);have L:∀i,i≠s->∀k,k<6->(drA p s).s i k=p.s i k:=fun i hi k hk=>by rw[S,ae hi,sF hk]
 have six:∀i,i≠s->(drA p s).s i 6=if p.s i 6=s then p.s s 6 else p.s i 6:=fun i hi=>by rw[S,ae hi,AU]
 have n0:∀i,(drA p s).s i 0≠0->p.s i 0≠0:=fun i hi=>by rw[<-L i (g i hi) 0 oD];exact hi
 have n1:∀i,i≠s->p.s i 0≠0->(drA p s).s i 0≠0:=fun i a d=>by rw[L i a 0 oD];exact d
 refine h.mv (t:=id) ⟨rfl,fun i hi k hk=>L i (g i hi) k hk,fun i hi=>?_,fun i j _ _ e=>e⟩ (fun i hi=>h.nd i (n0 i hi)) (fun i hi=>?_) (fun i a d b=>?_)
 ·by_cases e:i=s
  ·rw[S,ag e];exact⟨fun k hk=>ae oA,rfl⟩
  ·have B:p.s i 0=0:=by rw[<-L i e 0 oD];exact hi
   obtain⟨a,d⟩:=h.em i B;refine⟨fun k hk=>by rw[L i e k hk];exact a k hk,?_⟩;rw[six i e,d,ae oA]
 ·have e:=g i hi;have E:=n0 i hi;have mk:∀u,u≠s->p.s u 0≠0->cmB (p.s u) (p.s i)=true->r u<r i->∃v:Nat,((u:Nat):Int)=v∧(drA p s).s v 0≠0∧cmB ((drA p s).s v) ((drA p s).s i)=true∧r v<r i:=fun u a d b n=>
   ⟨u,rfl,n1 u a d,by rw[sk (L u a) (L i e)];exact b,n⟩
  rw[six i e];rcases h.up i with a|⟨u,a,d,b,n⟩
  ·rw[a,ae oA];exact .inl rfl
  ·rw[a];by_cases y:u=s
   ·rw[ag oA];rw[y] at b n;rcases h.up s with f|⟨v,f,w,l,z⟩
    ·exact .inl f
    ·rw[f];exact .inr (mk v (fun A=>by rw[A] at z;omega) w (zg (h.r4 w) (h.r4 o) (h.r4 E) l b) oA)
   ·rw[ae oA];exact .inr (mk u y d b n)
 ·have e:=g i a;rw[six i e] at b;by_cases x:p.s i 6=s
  ·rw[ag x] at b
   right
   intro c C;rcases h.up i with f|⟨u,f,w,l,z⟩
   ·omega
   ·obtain rfl:u=s:=oA;by_cases e1:p.s u 0=1
    ·obtain⟨a1,q,F⟩:=(kV e1).1 l;have hk:=mS (h.key u o).c o;have G:=hk.m e1
     cases hx:clI (p.s i 1) (p.s c) with
     |false=>exact hx
     |true=>exact absurd (h.one _ c u hx (jh.2 ⟨e1,q,oA⟩)) (g c C)
    ·obtain⟨a1,q,_⟩:=(kA e1).1 l;show clI (p.s i 1) (p.s c)=false
     rw[q];exact h.gp u o e1 b c
  ·rw[ae x] at b;exact .inl b
theorem Ky.nk {D:Nat->Prop} {p:PW} {r:Nat->Nat} (h:Ky D p r) {b:Nat} (o:b<p.kinds.length) (t:∀i,opn (b:Int) (p.s i)=false):Ky (fun n=>D n∨n=b∧p.k b=5) (nkP p b) r:=by
 have K:∀n,(nkP p b).k n=if n=b then 0 else p.k n:=fun n=>dx o 0 0 n
 refine⟨h.em,fun i hi=>?_,fun i hi=>⟨(h.key i hi).c,?_,?_⟩,h.up,h.one,fun n j=>?_,h.gp⟩
 ·rcases h.nd i hi with a|a
  ·by_cases e:i/16=b
   ·exact .inr (.inr ⟨e,e▸a⟩)
   ·left;rw[K,ae e];exact a
  ·exact .inr (.inl a)
 ·show _<=((p.kinds.set b 0).length:Int)
  rw[au];exact (h.key i hi).le
 ·rcases (h.key i hi).is with a|a
  ·exact .inl a
  ·by_cases e1:p.s i 0=1
   ·exact .inl e1
   obtain⟨f,d,l,m⟩:=fE a;have q:f≠b:=fun e=>by
    have g:opn (b:Int) (p.s i)=true:=gS.2 ⟨hi,e1,by rw[d,e]⟩;rw[t i] at g
    cases g
   right
   show isB (nkP p b) (p.s i 1) (p.s i 0)=true
   rw[d,lg (by show f<(p.kinds.set b 0).length;rw[au];exact l),K,ae q,m];exact beq_self_eq_true _
 ·refine h.us n fun e=>j ?_;rw[K];split
  ·rfl
  ·exact e
theorem FI {p:PW} {k:Int} {b:Nat} (h:gX p k b=false) {D:Nat->Prop} {r:Nat->Nat} (j:Ky D p r) (hk:p.k b=k):∀i,opn (b:Int) (p.s i)=false:=fun i=>by
 cases hx:opn (b:Int) (p.s i) with
 |false=>rfl
 |true=>
  obtain⟨a,c,d⟩:=gS.1 hx;rcases (j.key i a).is with e|e
  ·exact absurd e c
  ·obtain⟨f,l,_,g⟩:=fE e;obtain rfl:f=b:=oA;unfold gX at h;rw[bO] at h;have:=h _ (av (rY a));rw[tb (rY a)] at this;exact absurd (show (p.s i 0==k&&p.s i 1==f)=true by rw[<-g,hk,d];simp) this
abbrev PW.li (p:PW) (a:Nat):List Int:=p.lines.getD a []
abbrev PW.bi (p:PW) (a:Nat):Int:=p.bits.getD a 0
abbrev PW.re (p:PW) (i:Nat):List Int:=p.ready.getD i []
abbrev PW.co (p:PW) (c:Nat):Int:=p.IJ.getD c (-1)
def fOk (p:PW) (k:Nat) (v:Int):Bool:=
 if k<=8∨k=15∨k=16 then wB v else if k=9 then ek 0 6 v else if k=10∨k=19 then ek 0 3 v else if k=18 then ek 0 ((p.IJ.length:Int) - 1) v else if k=11 then fB p v 5 else if k=12 then fB p v 4 else if k=13 then fB p v 7 else true
structure TkA (p:PW):Prop where
 no:∀n,p.k n≠6->∀k,k<20->p.t n k=bl k
 ok:∀n,p.k n=6->∀k,k<20->fOk p k (p.t n k)=true
structure TkO (p:PW):Prop where
 ow:∀n,p.t n 17= -1∨∃u:Nat,p.t n 17=u∧p.t u 9=5∧p.t n 9≠4
 ak:∀u,p.t u 9=5->∃n,p.t n 17=(u:Nat)
 ij:∀n m u:Nat,p.t n 17=u->p.t m 17=u->n=m
structure TkQ (h:Nat->Prop) (p:PW):Prop where
 hk:∀n,h n->p.k n=6
 a1:∀n,p.k n=6->¬h n->pl (p.t n 9)=0->p.t n 14= -1
 la:∀n,p.k n=6->¬h n->pl (p.t n 9)≠0->∃a:Nat,p.t n 14=a∧p.k a=pl (p.t n 9)∧(n:Int)∈p.li a
 ln:∀a z,z∈p.li a->∃n:Nat,z=n∧¬h n∧p.k n=6∧pl (p.t n 9)≠0∧p.t n 14=(a:Nat)
 lu:∀a,(p.li a).Nodup
 lw:∀a n m:Nat,(n:Int)∈p.li a->(m:Int)∈p.li a->(p.t n 9=4↔p.t m 9=4)
 bt:∀a,p.bi a=0∨(p.k a=8∧p.li a=[]∧0<=p.bi a∧p.bi a<=65535)
 rd:∀i z,z∈p.re i->∃n:Nat,z=n∧¬h n∧p.k n=6∧p.t n 9=1∧rdN p n=i
 ru:∀i,(p.re i).Nodup
 cr:∀c,p.co c= -1∨∃n:Nat,p.co c=n∧¬h n∧p.k n=6∧p.t n 9=1∧p.t n 18=(c:Nat)∧(n:Int)∉p.re (rdN p n)
 rq:∀n,p.k n=6->¬h n->p.t n 9=1->(n:Int)∈p.re (rdN p n)∨p.co (p.t n 18).toNat=n
structure Wp (q:PW) (t:Nat):Prop where
 a1:pl (q.t t 9)=0->q.t t 14= -1
 la:pl (q.t t 9)≠0->∃a:Nat,q.t t 14=a∧q.k a=pl (q.t t 9)∧(t:Int)∈q.li a
 ln:∀a,(t:Int)∈q.li a->pl (q.t t 9)≠0∧q.t t 14=(a:Nat)
 lw:∀a m:Nat,(t:Int)∈q.li a->(m:Int)∈q.li a->(q.t t 9=4↔q.t m 9=4)
 rd:∀i,(t:Int)∈q.re i->q.t t 9=1∧rdN q t=i
 cr:∀c,q.co c=t->q.t t 9=1∧q.t t 18=(c:Nat)∧(t:Int)∉q.re (rdN q t)
 rq:q.t t 9=1->(t:Int)∈q.re (rdN q t)∨q.co (q.t t 18).toNat=t
structure Hl (q:PW) (t:Nat):Prop where
 l:∀a,(t:Int)∉q.li a
 r:∀i,(t:Int)∉q.re i
 c:∀c,q.co c≠t
theorem na {p q:PW} {n:Nat} (e8:q.t n 18=p.t n 18) (a:q.t n 10=p.t n 10):rdN q n=rdN p n:=by
 unfold rdN;rw[show q.II.getD n bl 18=p.II.getD n bl 18 from e8,show q.II.getD n bl 10=p.II.getD n bl 10 from a]
theorem TkQ.ch {h o:Nat->Prop} {p q:PW} (x:TkQ h p) (t:Nat) (b:∀n,q.k n=p.k n) (et:∀n,n≠t->∀j,(j=9∨j=10∨j=14∨j=18)->q.t n j=p.t n j) (G:p.k t=6)
  (hh:∀n,n≠t->(o n↔h n)) (F:∀a z,z≠(t:Int)->(z∈q.li a↔z∈p.li a)) (I:∀i z,z≠(t:Int)->(z∈q.re i↔z∈p.re i)) (L:∀c z,z≠(t:Int)->z≠ -1->(q.co c=z↔p.co c=z))
  (c0:∀c,q.co c= -1∨∃n:Nat,q.co c=n) (lu:∀a,(q.li a).Nodup) (ru:∀i,(q.re i).Nodup) (bt:∀a,q.bi a=0∨(q.k a=8∧q.li a=[]∧0<=q.bi a∧q.bi a<=65535)) (w:o t∧Hl q t∨¬o t∧Wp q t):TkQ o q:=by
 have nt:∀{n:Nat},n≠t->(n:Int)≠t:=fun e h=>e oA;have J:∀n,n≠t->rdN q n=rdN p n:=fun n e=>na (et n e 18 oS) (et n e 10 oS);have B:∀n,n≠t->q.t n 9=p.t n 9:=fun n e=>et n e 9 oS;have K:∀n,n≠t->q.t n 14=p.t n 14:=fun n e=>et n e 14 oS;have M:∀n,n≠t->q.t n 18=p.t n 18:=fun n e=>et n e 18 oS;have wp:¬o t->Wp q t:=fun e=>w.elim (fun a=>absurd a.1 e) (fun a=>a.2);have no:∀{A:Prop},(o t->A->False)->A->¬o t:=fun f a e=>f e a;have hl:o t->Hl q t:=fun e=>w.elim (fun a=>a.2) (fun a=>absurd e a.1);refine⟨fun n E=>?_,fun n s u d=>?_,fun n s u d=>?_,fun a z C=>?_,lu,fun a n m E H=>?_,bt,fun i z C=>?_,ru,fun c=>?_,fun n s u d=>?_⟩
 ·rw[b];by_cases e:n=t
  ·rw[e];exact G
  ·exact x.hk n ((hh n e).1 E)
 ·by_cases e:n=t
  ·subst e;exact (wp u).a1 d
  ·rw[B n e] at d;rw[K n e];rw[b] at s;exact x.a1 n s (fun y=>u ((hh n e).2 y)) d
 ·by_cases e:n=t
  ·subst e;exact (wp u).la d
  ·rw[B n e] at d ⊢;rw[K n e];rw[b] at s;obtain⟨a,b1,b2,b3⟩:=x.la n s (fun y=>u ((hh n e).2 y)) d;exact⟨a,b1,(b a).trans b2,(F a n (nt e)).2 b3⟩
 ·by_cases e:z=t
  ·subst e;have v:=no (fun y=>(hl y).l a) C;obtain⟨b1,b2⟩:=(wp v).ln a C;exact⟨t,rfl,v,(b t).trans G,b1,b2⟩
  ·obtain⟨n,rfl,b1,b2,b3,b4⟩:=x.ln a z ((F a z e).1 C);have e2:n≠t:=fun y=>e (by rw[y]);exact⟨n,rfl,fun y=>b1 ((hh n e2).1 y),(b n).trans b2,by rw[B n e2];exact b3,by rw[K n e2];exact b4⟩
 ·by_cases e:n=t
  ·subst e;exact (wp (no (fun y=>(hl y).l a) E)).lw a m E H
  ·by_cases e2:m=t
   ·subst e2;exact ((wp (no (fun y=>(hl y).l a) H)).lw a n H E).symm
   ·rw[B n e,B m e2];exact x.lw a n m ((F a n (nt e)).1 E) ((F a m (nt e2)).1 H)
 ·by_cases e:z=t
  ·subst e;have v:=no (fun y=>(hl y).r i) C;obtain⟨b1,b2⟩:=(wp v).rd i C;exact⟨t,rfl,v,(b t).trans G,b1,b2⟩
  ·obtain⟨n,rfl,b1,b2,b3,b4⟩:=x.rd i z ((I i z e).1 C);have e2:n≠t:=fun y=>e (by rw[y]);exact⟨n,rfl,fun y=>b1 ((hh n e2).1 y),(b n).trans b2,by rw[B n e2];exact b3,by rw[J n e2];exact b4⟩
 ·rcases c0 c with D|⟨n,D⟩
  ·exact .inl D
  ·refine .inr ⟨n,D,?_⟩;by_cases e:n=t
   ·subst e;have v:=no (fun y=>(hl y).c c) D;obtain⟨b1,b2,b3⟩:=(wp v).cr c D;exact⟨v,(b n).trans G,b1,b2,b3⟩
   ·have:=(L c n (nt e) oA).1 D;rcases x.cr c with g|⟨m,S,N,O,P,Q,R⟩
    ·omega
    ·obtain rfl:n=m:=oA;exact⟨fun y=>N ((hh n e).1 y),(b n).trans O,by rw[B n e];exact P,by rw[M n e];exact Q,by rw[J n e];exact fun y=>R ((I _ _ (nt e)).1 y)⟩
 ·by_cases e:n=t
  ·subst e;exact (wp u).rq d
  ·rw[B n e] at d;rw[J n e,M n e];rw[b] at s;rcases x.rq n s (fun y=>u ((hh n e).2 y)) d with g|g
   ·exact .inl ((I _ _ (nt e)).2 g)
   ·exact .inr ((L _ _ (nt e) oA).2 g)
theorem TkQ.hl {h:Nat->Prop} {p:PW} (x:TkQ h p) {t:Nat} (f:h t):Hl p t:=by
 refine⟨fun a e=>?_,fun i e=>?_,fun c e=>?_⟩
 ·obtain⟨n,d,b,_⟩:=x.ln a _ e;exact b (by rwa [show n=t by omega])
 ·obtain⟨n,d,b,_⟩:=x.rd i _ e;exact b (by rwa [show n=t by omega])
 ·rcases x.cr c with g|⟨n,d,b,_⟩
  ·omega
  ·exact b (by rwa [show n=t by omega])
theorem TkQ.wp {h:Nat->Prop} {p:PW} (x:TkQ h p) {t:Nat} (f:p.k t=6) (j:¬h t):Wp p t:=
 ⟨x.a1 t f j,x.la t f j,fun a e=>by
  obtain⟨n,l,_,_,b,d⟩:=x.ln a _ e;obtain rfl:n=t:=oA;exact⟨b,d⟩,fun a m=>x.lw a t m,fun i e=>by
  obtain⟨n,l,_,_,b,d⟩:=x.rd i _ e;obtain rfl:n=t:=oA;exact⟨b,d⟩,fun c e=>by
  rcases x.cr c with g|⟨n,l,_,_,b,d,o⟩
  ·omega
  ·obtain rfl:n=t:=oA;exact⟨b,d,o⟩,x.rq t f j⟩
theorem TkQ.c0 {h:Nat->Prop} {p:PW} (x:TkQ h p) (c:Nat):p.co c= -1∨∃n:Nat,p.co c=n:=(x.cr c).elim .inl fun ⟨n,e,_⟩=>.inr ⟨n,e⟩
theorem TkQ.to {h:Nat->Prop} {p q:PW} (x:TkQ h p) (C:q.kinds=p.kinds) (et:∀n,¬h n->∀j,(j=9∨j=10∨j=14∨j=18)->q.t n j=p.t n j) (D:q.lines=p.lines) (A:q.bits=p.bits) (E:q.ready=p.ready) (B:q.IJ=p.IJ):TkQ h q:=by
 have k:∀n,q.k n=p.k n:=fun n=>by show q.kinds.getD n 0=_;rw[C]
 have l:∀a,q.li a=p.li a:=fun a=>by show q.lines.getD a []=_;rw[D]
 have b:∀a,q.bi a=p.bi a:=fun a=>by show q.bits.getD a 0=_;rw[A]
 have r:∀a,q.re a=p.re a:=fun a=>by show q.ready.getD a []=_;rw[E]
 have c:∀a,q.co a=p.co a:=fun a=>by show q.IJ.getD a (-1)=_;rw[B]
 have w:∀n,¬h n->rdN q n=rdN p n:=fun n e=>na (et n e 18 oS) (et n e 10 oS);refine⟨fun n s=>(k n).trans (x.hk n s),fun n f d o=>?_,fun n f d o=>?_,fun a z u=>?_,fun a=>by rw[l];exact x.lu a,fun a n m s v=>?_,fun a=>by rw[b,k,l];exact x.bt a,fun i z u=>?_,fun i=>by rw[r];exact x.ru i,fun y=>?_,fun n f d o=>?_⟩
 ·rw[et n d 9 oS] at o;rw[k] at f;rw[et n d 14 oS];exact x.a1 n f d o
 ·rw[et n d 9 oS] at o ⊢;rw[k] at f;rw[et n d 14 oS];obtain⟨a,b1,b2,b3⟩:=x.la n f d o;exact⟨a,b1,(k a).trans b2,by rw[l];exact b3⟩
 ·rw[l] at u;obtain⟨n,b1,b2,b3,b4,b5⟩:=x.ln a z u;exact⟨n,b1,b2,(k n).trans b3,by rw[et n b2 9 oS];exact b4,by rw[et n b2 14 oS];exact b5⟩
 ·rw[l] at s v;obtain⟨n',b1,b2,_⟩:=x.ln a _ s;obtain⟨m',c1,c2,_⟩:=x.ln a _ v;obtain rfl:n=n':=oA;obtain rfl:m=m':=oA;rw[et n b2 9 oS,et m c2 9 oS];exact x.lw a n m s v
 ·rw[r] at u;obtain⟨n,b1,b2,b3,b4,b5⟩:=x.rd i z u;exact⟨n,b1,b2,(k n).trans b3,by rw[et n b2 9 oS];exact b4,by rw[w n b2];exact b5⟩
 ·rw[c];rcases x.cr y with g|⟨n,b1,b2,b3,b4,b5,b6⟩
  ·exact .inl g
  ·exact .inr ⟨n,b1,b2,(k n).trans b3,by rw[et n b2 9 oS];exact b4,by rw[et n b2 18 oS];exact b5,by rw[w n b2,r];exact b6⟩
 ·rw[et n d 9 oS] at o;rw[k] at f;rw[et n d 18 oS,w n d,r,c];exact x.rq n f d o
abbrev Nbd (_:Nat):Prop:=False
abbrev Hnd (t n:Nat):Prop:=n=t
theorem qX {p:PW} {a:Nat} (b:a<p.lines.length) (l:List Int) (j:Nat):(p.lines.set a l).getD j []=if j=a then l else p.li j:=dx b l [] j
theorem TkQ.pick {p:PW} (x:TkQ Nbd p) {t:Nat} (g:p.k t=6) {L R:List (List Int)} {C:List Int} (hl:∀a z,z∈L.getD a []↔z∈p.li a∧z≠t) (h:∀a,(L.getD a []).Nodup) (d:∀i z,z∈R.getD i []↔z∈p.re i∧z≠t) (j:∀i,(R.getD i []).Nodup)
  (b:∀c,C.getD c (-1)=if p.co c=t then -1 else p.co c):TkQ (Hnd t) {p with lines:=L,ready:=R,IJ:=C}:=by
 refine x.ch t (fun _=>rfl) (fun _ _ _ _=>rfl) g (fun n e=>⟨fun y=>absurd y e,False.elim⟩) (fun a z e=>(hl a z).trans ⟨fun y=>y.1,fun y=>⟨y,e⟩⟩) (fun a z e=>(d a z).trans ⟨fun y=>y.1,fun y=>⟨y,e⟩⟩) (fun c z e e1=>?_) (fun c=>?_) h j (fun a=>?_) (.inl ⟨rfl,fun a y=>((hl a _).1 y).2 rfl,fun a y=>((d a _).1 y).2 rfl,fun c y=>?_⟩)
 ·show C.getD c (-1)=z↔_
  rw[b];split<;>omega
 ·show C.getD c (-1)= -1∨∃n:Nat,C.getD c (-1)=n
  rw[b];split
  ·exact .inl rfl
  ·exact x.c0 c
 ·rcases x.bt a with e|⟨e1,e2,f⟩
  ·exact .inl e
  ·refine .inr ⟨e1,List.eq_nil_iff_forall_not_mem.2 fun z l=>?_,f⟩;have:=((hl a z).1 l).1;rw[e2] at this
   cases this
 ·have y:C.getD c (-1)=t:=y;rw[b] at y;split at y<;>omega
theorem gH {l:List Int} {t:Int} (h:t∉l) (z:Int):z∈l↔z∈l∧z≠t:=⟨fun y=>⟨y,fun e=>h (e▸y)⟩,fun y=>y.1⟩
theorem so {p:PW} {t:Nat} (h:∀c,p.co c≠t) (c:Nat):p.IJ.getD c (-1)=if p.co c=t then -1 else p.co c:=by rw[ae (h c)]
theorem TkQ.inl {h:Nat->Prop} {p:PW} (x:TkQ h p) {a u:Nat} (l:(u:Int)∈p.li a):¬h u∧p.k u=6∧pl (p.t u 9)≠0∧p.t u 14=(a:Nat)∧(∀i,(u:Int)∉p.re i)∧(∀c,p.co c≠u):=by
 obtain⟨n,m,b,d,f,j⟩:=x.ln a _ l;obtain rfl:u=n:=oA;have g:p.t u 9≠1:=fun e=>f (by rw[e];rfl);have w:=x.wp d b;exact⟨b,d,f,j,fun i e=>g (w.rd i e).1,fun c e=>g (w.cr c e).1⟩
theorem TkQ.front {p:PW} (x:TkQ Nbd p) {a u:Nat} {l:List Int} (e:p.li a=(u:Int)::l):TkQ (Hnd u) {p with lines:=p.lines.set a l}:=by
 have j:(u:Int)∈p.li a:=by rw[e];exact cD ..
 obtain⟨_,f,_,k,g,h⟩:=x.inl j;have d:a<p.lines.length:=by
  rcases cP a p.lines.length with y|y
  ·exact y
  ·have:p.li a=[]:=by show p.lines.getD a []=[];rw[aa,aI y];rfl
   rw[this] at e;cases e
 have c:=x.lu a;rw[e,List.nodup_cons] at c;refine x.pick f (fun b z=>?_) (fun b=>?_) (fun i z=>gH (g i) z) x.ru (so h)
 ·rw[qX d];split
  ·rename_i eb;rw[eb,e,bK];exact⟨fun y=>⟨.inr y,fun e2=>c.1 (e2▸y)⟩,fun y=>y.1.elim (fun e2=>absurd e2 y.2) id⟩
  ·rename_i eb;exact gH (fun y=>by have:=(x.inl y).2.2.2.1;omega) z
 ·rw[qX d];split
  ·exact c.2
  ·exact x.lu b
theorem xP {p:PW} {t:Nat} (c:Nat):(p.IJ.map (noT t)).getD c (-1)=if p.co c=t then -1 else p.co c:=by
 show _=if p.IJ.getD c (-1)=t then -1 else p.IJ.getD c (-1)
 rw[aa,aa,db]
 cases p.IJ[c]? with
 |none=>exact (ae (show ¬(-1:Int)=t by omega)).symm
 |some z=>rfl
theorem TkQ.inc {h:Nat->Prop} {p:PW} (x:TkQ h p) {c t:Nat} (o:p.co c=t):¬h t∧p.k t=6∧p.t t 9=1∧p.t t 18=(c:Nat)∧p.t t 14= -1∧(∀i,(t:Int)∉p.re i)∧(∀a,(t:Int)∉p.li a):=by
 rcases x.cr c with g|⟨n,m,d,f,b,j,l⟩
 ·omega
 ·obtain rfl:t=n:=oA;have w:=x.wp f d;refine⟨d,f,b,j,w.a1 (by rw[b];rfl),fun i e=>l ?_,fun a e=>(w.ln a e).1 (by rw[b];rfl)⟩;rw[(w.rd i e).2];exact e
theorem TkQ.Ke {p:PW} (x:TkQ Nbd p) {c t:Nat} (f:p.co c=t):TkQ (Hnd t) {p with IJ:=p.IJ.map (noT t)}:=by
 obtain⟨_,b,_,_,_,d,e⟩:=x.inc f;exact x.pick b (fun a z=>gH (e a) z) x.lu (fun i z=>gH (d i) z) x.ru xP
theorem TkQ.JT {p:PW} (x:TkQ Nbd p) {c t:Nat} (b:p.co c=t) (hl:c<p.IJ.length):TkQ (Hnd t) {p with IJ:=p.IJ.set c (-1)}:=by
 obtain⟨_,f,_,j,_,g,h⟩:=x.inc b;refine x.pick f (fun a z=>gH (h a) z) x.lu (fun i z=>gH (g i) z) x.ru (fun d=>?_);rw[dx hl];by_cases e:d=c
 ·rw[ag e,e,ag b]
 ·rw[ae e,ae (fun y=>by have:=(x.inc y).2.2.2.1;omega)]
theorem TkQ.inr {h:Nat->Prop} {p:PW} (x:TkQ h p) {i t:Nat} (hi:(t:Int)∈p.re i):¬h t∧p.k t=6∧p.t t 9=1∧rdN p t=i∧p.t t 14= -1∧(∀c,p.co c≠t)∧(∀a,(t:Int)∉p.li a):=by
 obtain⟨n,j,d,f,b,g⟩:=x.rd i _ hi;obtain rfl:t=n:=oA;have w:=x.wp f d;exact⟨d,f,b,g,w.a1 (by rw[b];rfl),fun c e=>(w.cr c e).2.2 (by rw[g];exact hi),fun a e=>(w.ln a e).1 (by rw[b];rfl)⟩
theorem TkQ.Kg {p:PW} (x:TkQ Nbd p) {i t:Nat} {l:List Int} (hi:(t:Int)∈p.re i) (hl:∀z,z∈l↔z∈p.re i∧z≠t) (g:l.Nodup):TkQ (Hnd t) {p with ready:=p.ready.set i l}:=by
 obtain⟨_,c,_,h,_,d,f⟩:=x.inr hi;have b:i<p.ready.length:=by
  rcases cP i p.ready.length with y|y
  ·exact y
  ·have:p.re i=[]:=by show p.ready.getD i []=[];rw[aa,aI y];rfl
   rw[this] at hi;cases hi
 refine x.pick c (fun a z=>gH (f a) z) x.lu (fun j z=>?_) (fun j=>?_) (so d)
 ·rw[dx b];split
  ·rename_i e;rw[e];exact hl z
  ·rename_i e;exact gH (fun y=>by have:=(x.inr y).2.2.2.1;omega) z
 ·rw[dx b];split
  ·exact g
  ·exact x.ru j
theorem sN {t:Int} (ls:List (List Int)) (i:Nat):(lvs t ls).getD i []=(ls.getD i []).filter fun x=> !(x==t):=by
 unfold lvs;rw[aa,aa,db]
 cases ls[i]?<;>rfl
theorem xA {t:Int} (ls:List (List Int)) (i:Nat) (z:Int):z∈(lvs t ls).getD i []↔z∈ls.getD i []∧z≠t:=by
 rw[sN,List.mem_filter];simp
theorem TkQ.JY {p:PW} (x:TkQ Nbd p) {t:Nat} (b:p.k t=6):TkQ (Hnd t) {p with lines:=lvs t p.lines,ready:=lvs t p.ready,IJ:=p.IJ.map (noT t)}:=
 x.pick b (xA _) (fun a=>by rw[sN];exact (x.lu a).filter _) (xA _) (fun a=>by rw[sN];exact (x.ru a).filter _) xP
theorem zF {t:Nat} (n:Nat) (e:n≠t):Nbd n↔Hnd t n:=⟨False.elim,fun y=>e y⟩
theorem TkQ.rest {p:PW} {t:Nat} (x:TkQ (Hnd t) p) (d:p.t t 9=0∨p.t t 9=5) (b:p.t t 14= -1):TkQ Nbd p:=by
 have y:=x.hl rfl;have f:pl (p.t t 9)=0:=by rcases d with e|e<;>rw[e]<;>rfl
 exact x.ch t (fun _=>rfl) (fun _ _ _ _=>rfl) (x.hk t rfl) zF (fun _ _ _=>Iff.rfl) (fun _ _ _=>Iff.rfl) (fun _ _ _ _=>Iff.rfl) x.c0 x.lu x.ru x.bt
  (.inr ⟨id,fun _=>b,fun e=>absurd f e,fun a e=>absurd e (y.l a),fun a _ e=>absurd e (y.l a),fun i e=>absurd e (y.r i),fun c e=>absurd e (y.c c),fun e=>oA⟩)
theorem TkQ.ready {p:PW} {t:Nat} (x:TkQ (Hnd t) p) (d:p.t t 9=1) (h:p.t t 14= -1) (hi:rdN p t<p.ready.length):TkQ Nbd {p with ready:=p.ready.set (rdN p t) (p.re (rdN p t)++[(t:Int)])}:=by
 have y:=x.hl rfl;have m:pl (p.t t 9)=0:=by rw[d];rfl
 have R:∀j,(p.ready.set (rdN p t) (p.re (rdN p t)++[(t:Int)])).getD j []=if j=rdN p t then p.re (rdN p t)++[(t:Int)] else p.re j:=fun j=>dx hi _ _ j
 have M:∀j z,z∈(p.ready.set (rdN p t) (p.re (rdN p t)++[(t:Int)])).getD j []↔z∈p.re j∨j=rdN p t∧z=t:=fun j z=>by
  rw[R];split
  ·rename_i e;rw[dH,dm,e];simp
  ·rename_i e;simp[e]
 refine x.ch t (fun _=>rfl) (fun _ _ _ _=>rfl) (x.hk t rfl) zF (fun _ _ _=>Iff.rfl) (fun i z e=>(M i z).trans ⟨fun g=>g.elim id fun g=>absurd g.2 e,.inl⟩) (fun _ _ _ _=>Iff.rfl) x.c0 x.lu (fun i=>?_) x.bt
  (.inr ⟨id,fun _=>h,fun e=>absurd m e,fun a e=>absurd e (y.l a),fun a _ e=>absurd e (y.l a),fun i e=>?_,fun c e=>absurd e (y.c c),fun _=>.inl ((M _ _).2 (.inr ⟨rfl,rfl⟩))⟩)
 ·show ((p.ready.set _ _).getD i []).Nodup
  rw[R];split
  ·rw[List.nodup_append];exact⟨x.ru _,oS,fun a k b f e=>by rw[dm] at f;exact y.r _ (by rw[<-f, <-e];exact k)⟩
  ·exact x.ru i
 ·rcases (M i t).1 e with g|g
  ·exact absurd g (y.r i)
  ·exact⟨d,g.1.symm⟩
theorem TkQ.core {p:PW} {t c:Nat} (x:TkQ (Hnd t) p) (f:p.t t 9=1) (k:p.t t 14= -1) (b:p.t t 18=c) (m:c<p.IJ.length) (h:p.co c= -1):TkQ Nbd {p with IJ:=p.IJ.set c t}:=by
 have y:=x.hl rfl;have o:pl (p.t t 9)=0:=by rw[f];rfl
 have R:∀j,(p.IJ.set c (t:Int)).getD j (-1)=if j=c then (t:Int) else p.co j:=fun j=>dx m _ _ j
 refine x.ch t (fun _=>rfl) (fun _ _ _ _=>rfl) (x.hk t rfl) zF (fun _ _ _=>Iff.rfl) (fun _ _ _=>Iff.rfl) (fun d z e e1=>?_) (fun d=>?_) x.lu x.ru x.bt
  (.inr ⟨id,fun _=>k,fun e=>absurd o e,fun a e=>absurd e (y.l a),fun a _ e=>absurd e (y.l a),fun i e=>absurd e (y.r i),fun d e=>?_,fun _=>.inr ?_⟩)
 ·show (p.IJ.set c (t:Int)).getD d (-1)=z↔p.co d=z
  rw[R];split
  ·rename_i g;rw[g,h];omega
  ·exact Iff.rfl
 ·show (p.IJ.set c (t:Int)).getD d (-1)= -1∨∃n:Nat,(p.IJ.set c (t:Int)).getD d (-1)=n
  rw[R];split
  ·exact .inr ⟨t,rfl⟩
  ·exact x.c0 d
 ·have e:(p.IJ.set c (t:Int)).getD d (-1)=t:=e;rw[R] at e;split at e
  ·rename_i g;rw[g];exact⟨f,b,y.r _⟩
  ·exact absurd e (y.c d)
 ·show (p.IJ.set c (t:Int)).getD (p.t t 18).toNat (-1)=t
  rw[b,ah,R,ag rfl]
theorem TkQ.line {p:PW} {t a:Nat} (x:TkQ (Hnd t) p) (n:a<p.lines.length) (h:pl (p.t t 9)≠0) (o:p.t t 14=a) (hk:p.k a=pl (p.t t 9)) (f:p.bi a=0) (v:∀m:Nat,(m:Int)∈p.li a->(p.t t 9=4↔p.t m 9=4)):TkQ Nbd {p with lines:=p.lines.set a (p.li a++[(t:Int)])}:=by
 have y:=x.hl rfl;have R:=qX n (p.li a++[(t:Int)]);have M:∀j z,z∈(p.lines.set a (p.li a++[(t:Int)])).getD j []↔z∈p.li j∨j=a∧z=t:=fun j z=>by
  rw[R];split
  ·rename_i e;rw[dH,dm,e];simp
  ·rename_i e;simp[e]
 have u:p.t t 9≠1:=fun e=>h (by rw[e];rfl);refine x.ch t (fun _=>rfl) (fun _ _ _ _=>rfl) (x.hk t rfl) zF (fun i z e=>(M i z).trans ⟨fun g=>g.elim id fun g=>absurd g.2 e,.inl⟩) (fun _ _ _=>Iff.rfl) (fun _ _ _ _=>Iff.rfl) x.c0 (fun i=>?_) x.ru (fun b=>?_)
  (.inr ⟨id,fun e=>absurd e h,fun _=>⟨a,o,hk,(M _ _).2 (.inr ⟨rfl,rfl⟩)⟩,fun b e=>?_,fun b m e1 e2=>?_,fun i e=>absurd e (y.r i),fun c e=>absurd e (y.c c),fun e=>absurd e u⟩)
 ·show ((p.lines.set _ _).getD i []).Nodup
  rw[R];split
  ·rw[List.nodup_append];exact⟨x.lu _,oS,fun a n b f e=>by rw[dm] at f;exact y.l _ (by rw[<-f, <-e];exact n)⟩
  ·exact x.lu i
 ·by_cases e:b=a
  ·rw[e];exact .inl f
  ·rcases x.bt b with g|⟨q,d,s⟩
   ·exact .inl g
   ·refine .inr ⟨q,?_,s⟩;show (p.lines.set _ _).getD b []=[]
    rw[R,ae e];exact d
 ·rcases (M b t).1 e with g|g
  ·exact absurd g (y.l b)
  ·rw[g.1];exact⟨h,o⟩
 ·rcases (M b t).1 e1 with g|g
  ·exact absurd g (y.l b)
  ·rcases (M b m).1 e2 with d|d
   ·rw[g.1] at d;exact v m d
   ·rw[show m=t by omega]
theorem TkQ.bit {h:Nat->Prop} {p:PW} (x:TkQ h p) {a:Nat} {v:Int} (c:a<p.bits.length) (hv:v=0∨p.k a=8∧p.li a=[]∧0<=v∧v<=65535):TkQ h {p with bits:=p.bits.set a v}:=
 ⟨x.hk,x.a1,x.la,x.ln,x.lu,x.lw,fun b=>by
  show (p.bits.set a v).getD b 0=0∨p.k b=8∧p.li b=[]∧0<=(p.bits.set a v).getD b 0∧(p.bits.set a v).getD b 0<=65535
  rw[dx c];split
  ·rename_i e;rw[e];exact hv
  ·exact x.bt b,x.rd,x.ru,x.cr,x.rq⟩
