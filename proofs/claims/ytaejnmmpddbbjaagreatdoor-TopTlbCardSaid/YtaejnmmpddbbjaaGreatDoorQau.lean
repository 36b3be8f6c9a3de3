/- Qau -/
import Derived.Test.YtaejnmmpddbbjaaGreatDoorQat
set_option maxRecDepth 100000
set_option maxHeartbeats 16000000
namespace Go.Proofs.YtaejnmmpddbbjaaGreatDoor
namespace Wd
open Go.RowKit Mem Bw Nums Mmu
theorem Ky.FI {D:Nat->Prop} {p:PW} {r:Nat->Nat} (h:Ky D p r) {u i:Nat} (b:p.s u 0≠0) (c:r u<r i):rkC p r u<rkC p r i:=by
 have _:=h;refine (nY _ _ _ fun x _ a=>?_).2 u (List.mem_range.2 (py b)) ?_ ?_
 ·rw[al] at a ⊢;exact⟨a.1,aD (by have:=ay a.2;omega)⟩
 ·rw[ax oA,Bool.and_false]
 ·rw[aD c,Bool.and_true];exact bne_iff_ne.2 b
theorem Ky.F2 {D:Nat->Prop} {p:PW} {r:Nat->Nat} (h:Ky D p r):Up (rkC p r) p.DZ:=
 ⟨fun i hi=>(h.em i hi).2,fun i=>(h.up i).elim .inl fun ⟨u,a,b,_,d⟩=>.inr ⟨u,a,py b,h.FI b d⟩,fun i=>by
  have:rkC p r i<=(List.range p.DZ.length).length:=List.countP_le_length;rw[List.length_range] at this;omega⟩
theorem fF {p:PW} {k x:Int}:beB p k x=false↔(k=4->x=0∨isB p (x - 32768) 3=true)∧(k=3->x=0∨isB p (x - 32768) 2=true∨isB p (x - 32768 - 16384) 2=true):=by
 unfold beB;by_cases b:k=4
 ·rw[af b];simp only[Bool.and_eq_false_iff,cq,bh];exact⟨fun h=>⟨fun _=>h,fun a=>oA⟩,fun h=>h.1 b⟩
 ·rw[ae b];by_cases a:k=3
  ·rw[af a];simp only[Bool.and_eq_false_iff,cq,bh,or_assoc];exact⟨fun h=>⟨fun c=>absurd c b,fun _=>h⟩,fun h=>h.2 a⟩
  ·rw[ae a];exact⟨fun _=>⟨fun h=>absurd h b,fun h=>absurd h a⟩,fun _=>rfl⟩
theorem nj {p q:PW} {f:Nat} {x:Int} (b:q.kinds=p.kinds.set f x) (d:f<p.kinds.length) {a k:Int} (h:isB p a k=true) (e:a≠f):isB q a k=true:=by
 obtain⟨g,rfl,e2,c⟩:=eU h;rw[jZ (by rw[b,au];exact e2),show q.k g=p.k g by show q.kinds.getD g 0=_;rw[b,dx d,ae oA],c];exact beq_self_eq_true _
theorem jM.FN {p q:PW} (h:jM p) {f:Nat} (c:f<p.kinds.length) (b:q.kinds=p.kinds.set f 0) (j:q.Eb.length=p.Eb.length)
  (l:∀i,i<p.Eb.length->q.Eb.getD i 0=0∨q.Eb.getD i 0=p.Eb.getD i 0∧(q.k (i/16)=3∨q.k (i/16)=4->p.k f=2∨p.k f=3->p.Eb.getD i 0≠32768+f∧p.Eb.getD i 0≠49152+f)):jM q:=by
 have K:∀n,q.k n=if n=f then 0 else p.k n:=fun n=>by show q.kinds.getD n 0=_;rw[b,dx c]
 refine⟨fun x t=>?_,fun i hi=>?_⟩
 ·obtain⟨i,hi,e⟩:=dm t;rw[j] at hi;have e2:q.Eb.getD i 0=x:=by rw[aa,ac (by rw[j];exact hi), <-e];rfl
  rw[<-e2];rcases l i hi with g|⟨g,_⟩
  ·rw[g];decide
  ·rw[g,aa,ac hi];exact h.w _ (aw hi)
 ·rw[j] at hi;have o:=fF.1 (h.e i hi);refine fF.2 ⟨fun s=>?_,fun r=>?_⟩
  ·have hk:p.k (i/16)=4:=by have:=K (i/16);split at this<;>omega
   rcases l i hi with g|⟨g,m⟩
   ·exact .inl g
   ·rw[g];refine (o.1 hk).imp_right fun a=>nj b c a fun e=>?_;obtain⟨n,e1,_,d⟩:=eU a;have:=m (.inr s) (.inr (by rw[show f=n by omega];exact d));omega
  ·have hk:p.k (i/16)=3:=by have:=K (i/16);split at this<;>omega
   rcases l i hi with g|⟨g,m⟩
   ·exact .inl g
   ·rw[g];refine (o.2 hk).imp_right fun a=>a.elim (fun a=>.inl (nj b c a fun e=>?_)) (fun a=>.inr (nj b c a fun e=>?_))<;>
    ·obtain⟨n,e1,_,d⟩:=eU a;have:=m (.inl r) (.inl (by rw[show f=n by omega];exact d));omega
theorem CO (p:PW) (f:Nat):etP (nkP p f) f=nkP (etP p f) f:=by
 unfold etP;rw[show (nkP p f).DY=p.DY from rfl];split<;>rfl
theorem CL (p:PW) (f:Nat):dsP (nkP p f) f=nkP (dsP p f) f:=by
 show ({(p.lines.getD f []).foldl ds1 (nkP p f) with lines:=p.lines.set f [],bits:=p.bits.set f 0}:PW)=nkP {(p.lines.getD f []).foldl ds1 p with lines:=p.lines.set f [],bits:=p.bits.set f 0} f
 rw[fm _ (nkP p f),fm _ p,pK _ (nkP p f) p rfl];rfl
theorem Ci (p:PW) (f:Int) (i:Nat) (hi:i<p.Eb.length):(utP p f).Eb.getD i 0=ut1 p.kinds f i (p.Eb.getD i 0):=by
 show (p.Eb.mapIdx (ut1 p.kinds f)).getD i 0=_
 rw[aa,List.getElem?_mapIdx,ac hi,aa,ac hi];rfl
theorem AB {p:PW} {f:Nat} (r:f<p.kinds.length) (B:jM p) (x:Tk Nbd p) {R:PW}
  (l:R=if p.k f=2∨p.k f=3 then utP (nkP p f) f else if p.k f=4 then fgP 12 (nkP p f) f else if p.k f=5 then fgP 11 (nkP p f) f else if p.k f=6 then etP (nkP p f) f else fgP 13 (dsP (nkP p f) f) f):
  R.kinds=p.kinds.set f 0∧R.DZ=p.DZ∧R.Ee=p.Ee∧R.D9=p.D9∧jM R∧Tk Nbd R:=by
 have rk:∀n,p.k n=6->(p.t n 11=f->p.k f=5)∧(p.t n 12=f->p.k f=4)∧(p.t n 13=f->p.k f=7):=fun n h=>x.refs h;have w:∀{q:PW},q.kinds=p.kinds.set f 0->q.Eb=p.Eb->¬(p.k f=2∨p.k f=3)->jM q:=fun e1 e2 D=>B.FN r e1 (by rw[e2]) fun i _=>.inr ⟨by rw[e2],fun _ y=>absurd y D⟩;split at l
 ·rename_i e;subst l;have m:=x.EE (b:=f) oA;have y:=x.kind (k:=0) r (x.blank oA) (fun n h=>⟨fun g=>by have:=(rk n h).1 g;omega,fun g=>by have:=(rk n h).2.1 g;omega,fun g=>by have:=(rk n h).2.2 g;omega⟩) m.1 m.2;refine⟨rfl,rfl,rfl,rfl,B.FN r rfl (by show (p.Eb.mapIdx _).length=_;simp) fun i hi=>?_,y.same (y.lf.of (e4:=by show (p.Eb.mapIdx _).length=_;simp))⟩;rw[show (utP (nkP p f) f).Eb.getD i 0=ut1 (p.kinds.set f 0) f i (p.Eb.getD i 0) from Ci (nkP p f) f i hi];unfold ut1;split
  ·exact .inl rfl
  ·rename_i g;refine .inr ⟨rfl,fun a _=>?_⟩;have A:=a;exact⟨fun y=>g ⟨A,.inl y⟩,fun y=>g ⟨A,.inr y⟩⟩
 rename_i e23;split at l
 ·rename_i e;subst l;have d:=x.fg (c:=12) oS f;have T:=fun n j=>Cs (p:=p) (c:=12) oS f n j;have m:=x.EE (b:=f) oA;refine⟨rfl,rfl,rfl,rfl,w rfl rfl e23,?_⟩;exact d.kind (k:=0) r (d.blank (show p.k f≠6 by omega)) (fun n h=>⟨fun g=>by rw[T,ae oA] at g;have:=(rk n h).1 g;omega,fun g=>by
   rw[T] at g;split at g
   ·omega
   ·rename_i y;exact y ⟨rfl,g⟩,fun g=>by rw[T,ae oA] at g;have:=(rk n h).2.2 g;omega⟩) m.1 m.2
 rename_i e4;split at l
 ·rename_i e;subst l;have d:=x.fg (c:=11) oS f;have T:=fun n j=>Cs (p:=p) (c:=11) oS f n j;have m:=x.EE (b:=f) oA;refine⟨rfl,rfl,rfl,rfl,w rfl rfl e23,?_⟩;exact d.kind (k:=0) r (d.blank (show p.k f≠6 by omega)) (fun n h=>⟨fun g=>by
   rw[T] at g;split at g
   ·omega
   ·rename_i y;exact y ⟨rfl,g⟩,fun g=>by rw[T,ae oA] at g;have:=(rk n h).2.1 g;omega,fun g=>by rw[T,ae oA] at g;have:=(rk n h).2.2 g;omega⟩) m.1 m.2
 rename_i e5;split at l
 ·rename_i e;rw[CO] at l;subst l;obtain⟨v,K,L,M,N,E,F,G,H⟩:=tA p f;have d:=x.et e;have O:(etP p f).k f=6:=by show (etP p f).kinds.getD f 0=6;rw[v];exact e
  have m:=d.EE (b:=f) oA;refine⟨by show (etP p f).kinds.set f 0=_;rw[v],F,G,H,w (by show (etP p f).kinds.set f 0=_;rw[v]) E e23,?_⟩;have J:=x.tl e;have I:p.t f 17= -1∨∃u:Nat,p.t f 17=u∧u<p.DY.length:=(x.o.ow f).elim .inl fun ⟨u,a,b,_⟩=>.inr ⟨u,a,x.tl (cG fun e=>by rw[x.a.no u e 9 oD] at b;cases b)⟩;exact d.kind (k:=0) (by rw[v];exact r) (fun j _=>by rw[DE J I,af rfl]) (fun n h=>⟨fun g=>by have:=(d.refs h).1 g;omega,fun g=>by have:=(d.refs h).2.1 g;omega,fun g=>by have:=(d.refs h).2.2 g;omega⟩) m.1 m.2
 ·rename_i e6;rw[CL] at l;subst l;have hl:f<p.lines.length:=by rw[x.lf.lines];exact r
  obtain⟨d,l1,b1⟩:=x.ds hl;have s:=ie p f;have dr:=fm (p.lines.getD f []) p;have z:(dsP p f).Eb=p.Eb∧(dsP p f).DZ=p.DZ∧(dsP p f).Ee=p.Ee∧(dsP p f).D9=p.D9:=by
   refine⟨?_,?_,?_,?_⟩
   ·show ((p.lines.getD f []).foldl ds1 p).Eb=_;rw[dr]
   ·show ((p.lines.getD f []).foldl ds1 p).DZ=_;rw[dr]
   ·show ((p.lines.getD f []).foldl ds1 p).Ee=_;rw[dr]
   ·show ((p.lines.getD f []).foldl ds1 p).D9=_;rw[dr]
  have kd:∀n,(dsP p f).k n=p.k n:=fun n=>by show (dsP p f).kinds.getD n 0=_;rw[s]
  have C:=d.fg (c:=13) oS f;have T:=fun n j=>Cs (p:=dsP p f) (c:=13) oS f n j;refine⟨by show (dsP p f).kinds.set f 0=_;rw[s],z.2.1,z.2.2.1,z.2.2.2,w (by show (dsP p f).kinds.set f 0=_;rw[s]) z.1 e23,?_⟩;exact C.kind (k:=0) (show f<(dsP p f).kinds.length by rw[s];exact r) (C.blank (show (dsP p f).k f≠6 by rw[kd];exact e6)) (fun n h=>⟨fun g=>by rw[T,ae oA] at g;have:=(d.refs (show (dsP p f).k n=6 from h)).1 g;rw[kd] at this;omega,fun g=>by rw[T,ae oA] at g;have:=(d.refs (show (dsP p f).k n=6 from h)).2.1 g;rw[kd] at this;omega,fun g=>by
   rw[T] at g;split at g
   ·omega
   ·rename_i y;exact y ⟨rfl,g⟩⟩) l1 b1
theorem uv {p q:PW} {f:Nat} (e:q.kinds=p.kinds.set f 0):nds q<=nds p∧(p.k f=5->nds q+1=nds p):=by
 unfold nds;rw[e];obtain⟨b,c⟩:=jS p.kinds f;refine⟨b,fun h=>c ?_⟩;have a:=hZ (p:=p) (f:=f) oA;rw[ac a,vo a,h]
theorem Md.da {m f:Nat} {D:Nat->Prop} (d:∀p s,Md D p->nds p<m->p.s s 0≠0->Md D (drF m p s)∧nds (drF m p s)<=nds p):∀a p,Md D p->nds p<m->Md D (daF (drF m) f a p)∧nds (daF (drF m) f a p)<=nds p∧∀i,i<a->(daF (drF m) f a p).s (f*16+i) 0=0
 |0,p,h,_=>by rw[gI];exact⟨h,ar _,fun i hi=>oA⟩
 |a+1,p,h,hn=>by
  rw[gH];have g:∀q,Md D q->nds q<=nds p->q.s (f*16+a) 0=0->Md D (daF (drF m) f a q)∧nds (daF (drF m) f a q)<=nds p∧∀i,i<a+1->(daF (drF m) f a q).s (f*16+i) 0=0:=fun q c n j=>by
   obtain⟨k1,k2,k⟩:=Md.da d a q c oA;obtain⟨r,b⟩:=c.keys;refine⟨k1,oA,fun i hi=>?_⟩;by_cases e:i=a
   ·rcases (ti (od m) (f:=f) a q b.F2).2.2 (f*16+a) with g|g
    ·rw[e];exact g.trans j
    ·rw[e];exact g
   ·exact k i oA
  split
  ·rename_i e;exact g p h (ar _) e
  ·rename_i e;obtain⟨k1,k2⟩:=d p (f*16+a) h hn e;obtain⟨r,b⟩:=h.keys;obtain⟨m,rfl⟩:∃l,m=l+1:=⟨m - 1,oA⟩
   exact g _ k1 k2 (tr b.F2)
theorem Md.drop:∀(m:Nat) {D:Nat->Prop} (p:PW) (s:Nat),Md D p->nds p<m->p.s s 0≠0->Md D (drF m p s)∧nds (drF m p s)<=nds p
 |0,_,_,_,_,h,_=>oA
 |m+1,D,p,s,h,d,hs=>by
  obtain⟨r,E⟩:=h.keys;have z:=E.FO hs;have U:LF (drA p s):=h.tk.lf.of (e5:=by show (hnd _ _ (p.DZ.set s eS)).length=_;unfold hnd;simp);have F:=h.tk.same U;have rq:jM (drA p s):=⟨h.Eb.w,h.Eb.e⟩;have L:∀i,i≠s->∀k,k<6->(drA p s).s i k=p.s i k:=fun i hi k hk=>by rw[show (drA p s).s i=_ from mh p s i,ae hi,pR hk]
  have X:∀i,(drA p s).s i 0≠0->i≠s:=fun i hi e=>hi (by rw[show (drA p s).s i=_ from mh p s i,af e];rfl);have Y:=py hs;have G:(p.DZ.getD s eS) 0=p.s s 0:=rfl;unfold drF;split
  ·rename_i c;refine⟨⟨h.ks,h.ds,⟨r,z⟩,fun n d=>?_,rq,F⟩,ar _⟩;obtain⟨i,hi⟩:=h.op n d;obtain⟨i0,i1,i2⟩:=gx.1 hi;by_cases e:i=s
   ·subst e;rcases c with c|c
    ·exact absurd c i1
    ·unfold il at c;obtain⟨g,O,u⟩:=List.any_eq_true.1 c;obtain⟨j,P,rfl⟩:=dm O;rw[sE P,al,bh,bh] at u;exact⟨j,gx.2 ⟨by rw[u.1];exact i0,by rw[u.1];exact i1,by rw[u.2];exact i2⟩⟩
   ·exact⟨i,by rw[iT (L i e 0 oD) (L i e 1 oD)];exact hi⟩
  ·rename_i c;have x:p.s s 0≠1:=fun e=>c (.inl e);have S:il (drA p s) (p.s s 0) (p.s s 1)=false:=by
    cases hx:il (drA p s) (p.s s 0) (p.s s 1) with
    |false=>rfl
    |true=>exact absurd (.inr hx) c
   obtain⟨f,e1,e2,B⟩:=eU ((E.key s hs).is.resolve_left x);have Q:=Bz (p:=drA p s) (k:=p.s s 0) (b:=f) (by rw[<-e1];exact S) z B;have T:(drA p s).k f=p.s s 0:=B;rw[show ((p.DZ.getD s eS) 1).toNat=f by show (p.s s 1).toNat=f;rw[e1];simp,G, <-T];obtain⟨b1,b2,b3,b4,b5,b6⟩:=AB (p:=drA p s) (f:=f) e2 rq F rfl;have W:Op (nkP (drA p s) f):=fun n d=>by
    have K:(nkP (drA p s) f).k n=if n=f then 0 else p.k n:=dx e2 0 0 n
    rw[K] at d;split at d
    ·exact absurd rfl d
    ·rename_i ne;obtain⟨i,hi⟩:=h.op n d;have e:i≠s:=fun e=>ne (by have:=(gx.1 hi).2.2;rw[e,e1] at this;omega);exact⟨i,by rw[show (nkP (drA p s) f).s i=(drA p s).s i from rfl,iT (L i e 0 oD) (L i e 1 oD)];exact hi⟩
   have mk:∀R:PW,R.kinds=p.kinds.set f 0->R.DZ=(drA p s).DZ->R.Ee=p.Ee->jM R->Tk Nbd R->Md (fun n=>D n∨n=f∧p.k f=5) R:=fun R v C H I J=>
    ⟨fun k hk=>by
     rw[v] at hk;rcases ba hk with y|y
     ·exact h.ks k y
     ·rw[y];decide,by rw[H];exact h.ds,⟨r,(z.nk e2 Q).to v C⟩,fun n d=>by
     have:=W n (by show (p.kinds.set f 0).getD n 0≠0;rw[<-v];exact d);obtain⟨i,hi⟩:=this;exact⟨i,by show opn n (R.DZ.getD i eS)=true;rw[C];exact hi⟩,I,J⟩
   by_cases t:(drA p s).k f=5
   ·rw[show lsF (drF m) (drA p s) ((drA p s).k f) f=daF (drF m) f 16 (fgP 11 (nkP (drA p s) f) f) by unfold lsF;rw[t];rfl];rw[ae oA,ae oA,af t] at b1 b2 b3 b5 b6;have l:=mk _ b1 b2 b3 b5 b6;obtain⟨n1,V⟩:=uv (p:=p) (q:=fgP 11 (nkP (drA p s) f) f) b1;have Z:=V t;obtain⟨o,n4,em⟩:=Md.da (f:=f) (fun p s x M N=>Md.drop m p s x M N) 16 _ l oA;refine⟨⟨o.ks,o.ds,?_,o.op,o.Eb,o.tk⟩,oA⟩;obtain⟨A,a⟩:=o.keys;refine⟨A,a.em,fun i hi=>?_,a.key,a.up,a.one,a.us,a.gp⟩;rcases a.nd i hi with g|g|g
    ·exact .inl g
    ·exact .inr g
    ·have:=em (i%16) oA;rw[show f*16+i%16=i by have:=g.1;omega] at this;exact (hi this).elim
   ·have e:lsF (drF m) (drA p s) ((drA p s).k f) f=if (drA p s).k f=2∨(drA p s).k f=3 then utP (nkP (drA p s) f) f else if (drA p s).k f=4 then fgP 12 (nkP (drA p s) f) f else if (drA p s).k f=5 then fgP 11 (nkP (drA p s) f) f else if (drA p s).k f=6 then etP (nkP (drA p s) f) f else fgP 13 (dsP (nkP (drA p s) f) f) f:=by
     unfold lsF;rw[ae t,ae t]
    rw[e];obtain⟨n1,_⟩:=uv (p:=p) b1;have l:=mk _ b1 b2 b3 b5 b6;refine⟨⟨l.ks,l.ds,?_,l.op,l.Eb,l.tk⟩,n1⟩;obtain⟨A,a⟩:=l.keys;exact⟨A,a.em,fun i hi=>(a.nd i hi).elim .inl fun g=>g.elim .inr fun g=>absurd g.2 t,a.key,a.up,a.one,a.us,a.gp⟩
theorem rR {α:Type} {g:α->Nat}:∀(l:List α) (a:Nat),(∀j (b:j<l.length),j≠a->g l[j]=0)->eZ g l=match l[a]? with|some x=>g x|none=>0
 |[],_,_=>by simp[eZ]
 |x::l,0,h=>by
  have:=iW (g:=g) l (fun j b=>h (j+1) (by simp;omega) oA);unfold eZ at this ⊢;rw[bP,ep,this];rfl
 |x::l,a+1,h=>by
  have c:=rR l a (fun j b e=>h (j+1) (by simp;omega) oA);have d:g x=0:=h 0 oS oA;unfold eZ at c ⊢;rw[bP,ep,c,d,az];rfl
theorem s9 {x:Int}:∀{l:List Int},l.Nodup->x∈l->cn x l=1
 |z::l,hn,hx=>by
  rw[List.nodup_cons] at hn;rcases bM.1 hx with e|e
  ·have:=kT (x:=x) (l:=l) (e▸hn.1);unfold cn eZ at this ⊢;rw[bP,ep,this,one,af e.symm]
  ·have:=s9 hn.2 e;unfold cn eZ at this ⊢;rw[bP,ep,this,one,ae (fun (y:z=x)=>hn.1 (y▸e))]
theorem mm {ls:List (List Int)} {j:Nat} (h:j<ls.length):ls[j]=ls.getD j []:=by rw[aa,ac h];rfl
theorem mY {x:Int} {ls:List (List Int)} (h:∀a,x∉ls.getD a []):cna x ls=0:=iW ls fun j b=>kT (by rw[mm b];exact h j)
theorem tb {x:Int} {ls:List (List Int)} {a:Nat} (c:x∈ls.getD a []) (g:(ls.getD a []).Nodup) (h:∀b,b≠a->x∉ls.getD b []):cna x ls=1:=by
 have d:a<ls.length:=by
  rcases cd a ls.length with y|y
  ·exact y
  ·rw[aa,aF y] at c;cases c
 unfold cna;rw[rR ls a fun j f e=>kT (by rw[mm f];exact h j e),ac d];show cn x ls[a]=1
 rw[mm d];exact s9 g c
theorem qM {cs:List Int} {j:Nat} (h:j<cs.length):cs[j]=cs.getD j (-1):=by rw[aa,ac h];rfl
theorem tc {n:Nat} {cs:List Int} (h:∀c,cs.getD c (-1)≠n):cn n cs=0:=kT fun b=>by
 obtain⟨j,a,e⟩:=dm b;exact h j (by rw[<-qM a];exact e)
theorem CI {n:Nat} {cs:List Int} {c:Nat} (a:cs.getD c (-1)=n) (h:∀d,d≠c->cs.getD d (-1)≠n):cn n cs=1:=by
 have hl:c<cs.length:=by
  rcases cd c cs.length with y|y
  ·exact y
  ·rw[aa,aF y] at a;have:(-1:Int)=n:=a;omega
 unfold cn;rw[rR cs c fun j b e=>?_,ac hl]
 ·show one n cs[c]=1
  rw[qM hl,a];exact af rfl
 ·rw[qM b];exact ae (h j e)
theorem Tk.b5 {p:PW} (x:Tk Nbd p):∀k (hk:k<p.DY.length),At p k p.DY[k]=false:=fun n hk=>by
 rw[xf hk];unfold At btB;by_cases r:p.k n=6
 ·rw[af r];have ok:=x.a.ok n r;have w:=x.q.wp r id;have K:=zD fun k hk=>by have:=ok k oA;unfold fOk at this;rwa [af oA] at this
  have H:nfB p (p.t n)=true:=by
   unfold nfB;rw[K,show wB (p.t n 8)=true from ok 8 oD,show wB (p.t n 15)=true from ok 15 oD,show wB (p.t n 16)=true from ok 16 oD,show ed 0 6 (p.t n 9)=true from ok 9 oD,show ed 0 3 (p.t n 10)=true from ok 10 oD,show ed 0 ((p.D6.length:Int) - 1) (p.t n 18)=true from ok 18 oD,show ed 0 3 (p.t n 19)=true from ok 19 oD];rfl
  have E:p.t n 17= -1∨∃u:Nat,p.t n 17=u∧p.k u=6∧u<p.DY.length∧p.t u 9=5∧p.t n 9≠4:=(x.o.ow n).elim .inl fun ⟨u,a,b,c⟩=>by
   have s:=cG fun e=>by rw[x.a.no u e 9 oD] at b;cases b
   exact .inr ⟨u,a,s,x.tl s,b,c⟩
  have G:ffB p (p.t n)=true:=by
   unfold ffB;rw[show fB p (p.t n 11) 5=true from ok 11 oD,show fB p (p.t n 12) 4=true from ok 12 oD,show fB p (p.t n 13) 7=true from ok 13 oD];show fB p (p.t n 17) 6=true
   unfold fB;rcases E with e|⟨u,e,s,hl,_⟩
   ·rw[e];rfl
   ·rw[e,jZ (hZ oA),s];simp
  have C:dbB p n (p.t n)=true:=by
   have I:owB p (p.t n)=true:=by
    unfold owB;rcases E with e|⟨u,e,s,hl,i,F⟩
    ·rw[e];rfl
    ·rw[e,xY hl,xf hl,i,bne_iff_ne.2 F];simp
   unfold dbB;rw[I];by_cases i:p.t n 9=5
   ·rw[af i];obtain⟨m,v⟩:=x.o.ak n i;have D:m<p.DY.length:=by
     rcases cd m p.DY.length with y|y
     ·exact y
     ·have:p.t m=bl:=by show p.DY.getD m bl=bl;rw[aa,aF y];rfl
      rw[this] at v;have:(-1:Int)=n:=v;omega
    rw[rR p.DY m fun j z e=>?_,ac D]
    ·show (true&&((ow (n:Int) p.DY[m]:Nat):Int)==1)=true
     rw[xf D,ow,af v];rfl
    ·rw[xf z];exact ae fun g=>e (x.o.ij j m n g v)
   ·rw[ae i,iW p.DY fun j z=>?_]
    ·rfl
    ·rw[xf z];refine ae fun g=>i ?_;rcases x.o.ow j with e|⟨u,e,h,_⟩
     ·omega
     ·rwa [show n=u by omega]
  have L:srB p n (p.t n)=true:=by
   unfold srB;by_cases f:pl (p.t n 9)=0
   ·rw[af f,w.a1 f,mY fun a e=>(w.ln a e).1 f];rfl
   ·rw[ae f];obtain⟨a,e1,e2,A⟩:=w.la f;have M:p.k a≠0:=by rw[e2];exact f
    rw[e1,jZ (hZ M),e2,ag,tb A (x.q.lu a) (fun b B e=>by have:=(w.ln b e).2;omega),show cn n (p.lines.getD a [])=1 from s9 (x.q.lu a) A];simp
  have J:rrB p n (p.t n)=true:=by
   unfold rrB;by_cases l:p.t n 9=1
   ·rw[af l];rcases w.rq l with e|e
    ·rw[tc fun c g=>(w.cr c g).2.2 e,tb e (x.q.ru _) (fun b B g=>B (w.rd b g).2.symm)];rfl
    ·rw[CI e (fun d C g=>by have:=(w.cr d g).2.1;omega),mY fun a g=>(w.cr _ e).2.2 (by rw[(w.rd a g).2];exact g)];rfl
   ·rw[ae l,tc fun c g=>l (w.cr c g).1,mY fun a g=>l (w.rd a g).1];rfl
  rw[H,G,C,L,J];rfl
 ·rw[ae r,nS.2 (x.a.no n r)];rfl
theorem Tk.b6 {p:PW} (x:Tk Nbd p):∀k (hk:k<p.lines.length),Au p k p.lines[k]=false:=fun k hk=>by
 have F:k<p.kinds.length:=by rw[<-x.lf.lines];exact hk
 have e:p.lines[k]=p.li k:=mm hk;rw[e];have r:∀z,z∈p.li k->∃n:Nat,z=n∧p.k n=6∧n<p.kinds.length∧n<p.DY.length∧p.t n 14=k∧p.k k=pl (p.t n 9)∧pl (p.t n 9)≠0:=fun z c=>by
  obtain⟨n,e1,j,d,b,o⟩:=x.q.ln k z c;obtain⟨a,u,f,_⟩:=x.q.la n d j b;obtain rfl:a=k:=oA;exact⟨n,e1,d,hZ oA,x.tl d,o,f,b⟩
 have E:∀s,pl s≠0->pl s=7∨pl s=8:=fun s h=>by
  unfold pl at h ⊢;split
  ·exact .inl rfl
  ·split
   ·exact .inr rfl
   ·simp_all
 unfold Au blB;have hh:hdB (p.kinds.getD k 0) (p.bits.getD k 0) (p.li k).length=false:=by
  unfold hdB;rw[dU];constructor
  ·cases hl:p.li k with
   |nil=>rfl
   |cons z l=>
    obtain⟨n,_,_,_,_,_,B,C⟩:=r z (by rw[hl];exact cg ..);have:p.kinds.getD k 0=pl (p.t n 9):=B;rw[this];rcases E _ C with g|g<;>rw[g]<;>simp
  ·rcases x.q.bt k with g|⟨u,f,i⟩
   ·rw[show p.bits.getD k 0=0 from g];rfl
   ·rw[show p.kinds.getD k 0=8 from u,f,show wB (p.bits.getD k 0)=true from aD i];simp
 rw[hh,Bool.false_or,bS];intro z c;obtain⟨n,rfl,j,d,b,o,_⟩:=r z c;have A:∀m:Nat,m<p.DY.length->wtB p m=(p.t m 9==4):=fun m v=>by
  unfold wtB;rw[ag,ac v,xf v]
 have D:wtB p (n:Int)=wtB p ((p.li k).getD 0 0):=by
  cases hl:p.li k with
  |nil=>rw[hl] at c;cases c
  |cons y l=>
   have w:y∈p.li k:=by rw[hl];exact cg ..
   obtain⟨m,rfl,_,_,i,_⟩:=r y w;show wtB p n=wtB p m
   rw[A n b,A m i];have:=x.q.lw k n m c w;rw[dy,bh,bh];exact this
 unfold tB;rw[jZ d,j,D,show atV p (n:Int)=k by unfold atV;rw[ag,ac b,xf b];exact o];simp
theorem Tk.F5 {p:PW} (x:Tk Nbd p) {n:Nat} (a:p.k n=6) (d:p.t n 9=1) (c:Int) (e:p.t n 18=c):rdB p n c=true:=by
 have b:=x.tl a;unfold Wd.rdB;rw[jZ (hZ oA),a,ag,ac b,xf b];simp[d,e]
theorem Tk.b7 {p:PW} (x:Tk Nbd p):∀k (hk:k<p.D6.length),Av p k p.D6[k]=false:=fun k hk=>by
 rw[qM hk];unfold Av bcB;rcases x.q.cr k with g|⟨n,a,_,b,c,d,_⟩
 ·rw[show p.D6.getD k (-1)= -1 from g];rfl
 ·rw[show p.D6.getD k (-1)=n from a,x.F5 b c k d];simp
theorem Tk.b8 {p:PW} (x:Tk Nbd p):∀k (hk:k<p.ready.length),Aw p k p.ready[k]=false:=fun k hk=>by
 rw[mm hk];unfold Aw brB;rw[bS];intro z e;obtain⟨n,rfl,_,a,c,d⟩:=x.q.rd k z e;have b:=x.tl a;have g:=x.num a;have f:(p.t n 18*4+p.t n 10).toNat=k:=d;unfold rpB;rw[x.F5 a c ((k:Int)/4) oA,ag,ac b,xf b];have:p.t n 10=(k:Int)%4:=oA;simp[this]
structure TlO (p:PW) (l:List Ent):Prop where
 n:l.length<=4
 t:∀e∈l,eG p e=true
 d:l.Pairwise fun a e=>pg e.1 e.2.1 a=false
theorem TlO.bm {p:PW} {l:List Ent} (h:TlO p l):bmB p l=false:=by
 unfold bmB;rw[ax (by have:=h.n;omega),Bool.false_or,bS];intro j b;have b:=List.mem_range.1 b;rw[ac b];show ¬emB p l j l[j]=true
 unfold emB;rw[h.t _ (aw b)];have:(l.take j).any (pg l[j].1 l[j].2.1)=false:=by
  rw[bS];intro a c;obtain⟨i,hi,rfl⟩:=dm c;rw[bI] at hi;rw[List.getElem_take,List.pairwise_iff_getElem.1 h.d i j oA b oA]
  decide
 rw[this]
 decide
structure Lw (p:PW):Prop where
 m:Md (fun _=>False) p
 tl:∀l∈p.D9,TlO p l
 tm:0<=p.time
theorem Lw.snd {p:PW} (h:Lw p) (i:p.time<=1000000):wZ p=true:=by
 obtain⟨r,j⟩:=h.m.keys;have hk:=j.keys h.m.op;have hl:=h.m.tk.lf;have x:=h.m.tk;have lf:lfB p=true:=A6 (by have:=hl.k1;omega) (by have:=hl.k2;omega) (by have:=hl.c1;omega) (by have:=hl.c2;omega) (by have:=hl.d1;omega) (by have:=hl.d2;omega) (by have:=hl.Eb;omega) (by have:=hl.DZ;omega) (by have:=hl.DY;omega) (by have:=hl.lines;omega) (by have:=hl.bits;omega) (by have:=hl.ready;omega) (by have:=hl.D9;omega);have a0:lk (Ao p) p.Eb=none:=ew (fun k hk=>by unfold Ao nwB wB;rw[aD (h.m.Eb.w _ (aw hk))];rfl);have a1:lk (Ap p) p.kinds=none:=ew (fun k hk=>by
  obtain⟨d,f,g⟩:=h.m.ks _ (aw hk);unfold Ap nkB;rw[aD ⟨d,f⟩,beq_eq_false_iff_ne.2 g];rfl)
 have b:lk (Aq p) p.Ee=none:=ew (fun k hk=>by unfold Aq nd;rw[aD (h.m.ds _ (aw hk))];rfl);have c:lk (Cp p) p.Eb=none:=ew (fun k hk=>by
  have:=h.m.Eb.e k hk;rw[aa,ac hk] at this;exact this)
 have a:lk (vz p) p.D9=none:=ew (fun k hk=>(h.tl _ (aw hk)).bm);unfold wZ wmA;rw[lf,show ed 0 1000000 p.time=true from aD ⟨h.tm,i⟩,Bool.and_self,af rfl,nm,a0,a1,b,ew hk.b3,ew hk.b4,ew x.b5,ew x.b6,ew x.b7,ew x.b8,c,a];rfl
theorem jb {p:PW} {i:Nat} (h:i<p.DZ.length):p.DZ.getD i eE=p.s i:=by
 show _=p.DZ.getD i eS
 rw[aa,aa,ac h];rfl
theorem vW {p:PW} {a:Int} (h:fS p a=0):∃n:Nat,a=n∧n<p.DZ.length∧p.s n 0≠0:=by
 unfold fS at h;split at h
 ·rename_i h1;have:=ay h1;obtain⟨n,rfl⟩:∃n:Nat,a=n:=⟨a.toNat,oA⟩
  have b:n<p.DZ.length:=oA;rw[ag,jb b] at h;split at h
  ·cases h
  ·exact⟨n,rfl,b,by assumption⟩
 ·cases h
theorem DJ {p:PW} {a:Int} (h:opE p a=0):∃n:Nat,a=n∧n<p.DZ.length∧p.s n 0=0∧p.k (n/16)=5:=by
 unfold opE at h;split at h
 ·rename_i h1;have:=ay h1;obtain⟨n,rfl⟩:∃n:Nat,a=n:=⟨a.toNat,oA⟩
  have b:n<p.DZ.length:=oA;rw[ag,jb b] at h;split at h
  ·split at h
   ·exact⟨n,rfl,b,by assumption,by assumption⟩
   ·cases h
  ·cases h
 ·cases h
theorem pk {p q:PW} (C:jM p) (lf:LF p) (r:∀f:Nat,p.k f=4->isB q f 4=true) (l:q.Eb.length=p.Eb.length) (m:∀i,p.k (i/16)=3∨p.k (i/16)=4->p.Eb.getD i 0≠0->q.Eb.getD i 0=p.Eb.getD i 0) {e:Ent} (h:eG p e=true):eG q e=true:=by
 unfold eG at h ⊢;simp only[al,bh,aR] at h ⊢;obtain⟨⟨v,w⟩,⟨b,x⟩,z⟩:=h;obtain⟨s,j,G,c⟩:=eU v;have D:ei q.Eb e.1 (e.2.1*16)=ei p.Eb e.1 (e.2.1*16):=by
  rw[j] at b ⊢;generalize J:e.2.1*16=a at*;unfold ei at b ⊢;rw[l];by_cases c1:¬inb p.Eb.length s a
  ·rw[af c1] at b;cases b
  rw[ae c1] at b ⊢;rw[ae c1];have B:n16 q.Eb=n16 p.Eb:=by unfold n16;rw[l]
  rw[B];by_cases c2:¬isE (e1 p.Eb s a) (n16 p.Eb)
  ·rw[af c2] at b;cases b
  rw[ae c2] at b;by_cases g:¬isE (e2 p.Eb (e1 p.Eb s a%1024) a) (n16 p.Eb)
  ·rw[af g] at b;cases b
  have I:0<=a∧a/256<=15:=oA;have d:¬isE 0 (n16 p.Eb):=by unfold isE;omega
  have E:e1 q.Eb s a=e1 p.Eb s a:=by
   unfold e1;refine m _ (.inr ?_) fun y=>c2 ?_
   ·rw[show ((s:Int)*16+a/256).toNat/16=s by omega];exact c
   ·unfold e1;rw[y];exact d
  rw[E];have F:e2 q.Eb (e1 p.Eb s a%1024) a=e2 p.Eb (e1 p.Eb s a%1024) a:=by
   have A:((s:Int)*16+a/256).toNat<p.Eb.length:=by have:=lf.Eb;omega
   have b1:=(fF.1 (C.e _ A)).1 (by rw[show ((s:Int)*16+a/256).toNat/16=s by omega];exact c);have n0:e1 p.Eb s a≠0:=fun y=>c2 (by rw[y];exact d);obtain⟨t,n,H,u⟩:=eU (b1.resolve_left n0);have n:e1 p.Eb s a - 32768=t:=n;have k2:=lf.k2;have o:e1 p.Eb s a%1024=t:=oA;unfold e2;rw[o];refine m _ (.inl ?_) fun y=>g ?_
   ·rw[show ((t:Int)*16+a/16%16).toNat/16=t by omega];exact u
   ·unfold e2;rw[o,y];exact d
  rw[F]
 rw[D];exact⟨⟨by rw[j];exact r s c,w⟩,⟨b,x⟩,z⟩
theorem TlO.ES {p q:PW} {l:List Ent} (h:TlO p l) (b:∀e,eG p e=true->eG q e=true):TlO q l:=⟨h.n,fun e a=>b e (h.t e a),h.d⟩
theorem TlO.filter {p q:PW} {l:List Ent} (h:TlO p l) {g:Ent->Bool} (b:∀e∈l,g e=true->eG q e=true):TlO q (l.filter g):=
 ⟨aB (dz _ _) h.n,fun e a=>b e (List.mem_filter.1 a).1 (List.mem_filter.1 a).2,h.d.filter _⟩
theorem Lw.DZ {p:PW} (h:Lw p) {S:List (Nat->Int)} (hl:S.length=p.DZ.length) (hk:∃r,Ky (fun _=>False) {p with DZ:=S} r) (c:Op {p with DZ:=S}):Lw {p with DZ:=S}:=
 ⟨⟨h.m.ks,h.m.ds,hk,c,⟨h.m.Eb.w,h.m.Eb.e⟩,h.m.tk.same (h.m.tk.lf.of (e5:=hl))⟩,fun l b=>(h.tl l b).ES fun e a=>(iP (p:=p) (q:={p with DZ:=S}) rfl rfl e).trans a,h.tm⟩
theorem Lw.move {p:PW} (h:Lw p) {a b:Int} (c:boE p a b=0):Lw (mvP p a b):=by
 unfold boE at c;by_cases d:fS p a=0
 ·rw[af d] at c;obtain⟨a,rfl,_,e⟩:=vW d;obtain⟨b,rfl,g,i,f⟩:=DJ c;obtain⟨r,j⟩:=h.m.keys;obtain⟨k1,k2⟩:=j.move e g i f h.m.op;exact h.DZ (by unfold hnd;simp) ⟨_,k1⟩ k2
 ·rw[ae d] at c;exact absurd c d
theorem Lw.add {p:PW} (h:Lw p) {b:Nat} (l:b<p.DZ.length) (j:p.s b 0=0) (g:p.k (b/16)=5) {f:Nat->Int} (q:f 0≠0) (hk:sV p f)
  (v:f 6= -1∨∃u:Nat,f 6=u∧u<p.DZ.length∧p.s u 0≠0∧cmB (p.s u) f=true)
  (o:f 0=1->∀n:Nat,clI n f=true->p.k n=0∧∀i,clI n (p.s i)=false)
  (t:f 0≠1->f 6= -1->∀c,clI (f 1) (p.s c)=false):Lw {p with DZ:=p.DZ.set b f}:=by
 obtain⟨r,w⟩:=h.m.keys;obtain⟨x,k⟩:=(w.keys h.m.op).add l j g q hk v o t;exact h.DZ oS ⟨x,k.em,fun i hi=>.inl (k.nd i hi),k.key,fun i=>(k.up i).elim .inl fun ⟨u,a,_,c,d,e⟩=>.inr ⟨u,a,c,d,e⟩,k.one,k.us,k.gp⟩ fun n g=>by obtain⟨i,_,e⟩:=k.op n g;exact⟨i,e⟩
theorem Lw.copy {p:PW} (h:Lw p) {n m:Nat} {r g:Int} {f:Nat->Int} (q:p.s n 0≠0) (w:p.s n 0≠1) (y:m<p.DZ.length) (z:p.s m 0=0) (A:p.k (m/16)=5) (B:0<=r∧r<=7) (E:0<=g∧g<=65535) (D:g=0∨(p.s n 0=7∨p.s n 0=8)∧p.s n 5=0)
  (a:f 0=p.s n 0) (i:f 1=p.s n 1) (j:f 2=p.s n 2) (u:f 3=p.s n 3) (f4:f 4=bits .and .i64 (p.s n 4) r) (v:f 5=if g=0 then p.s n 5 else g) (x:f 6=n):Lw {p with DZ:=p.DZ.set m f}:=by
 obtain⟨rk,C⟩:=h.m.keys;have ks:=C.key n q;have d:=ll ks.c q;have t:=Ak d.r B;have k1:KIn f:=⟨by rw[a];exact d.k,by rw[i];exact d.b,by rw[j];exact d.l,by rw[i,j];exact d.bl,by rw[a,j,u];exact d.m,by rw[a,j,u];exact d.o,by rw[f4];exact t.2,by
  rw[a,v];have:=d.g;split<;>omega⟩
 refine h.add y z A (by rw[a];exact q) ⟨wj k1,by rw[i,j];exact ks.le,by rw[a,i];exact ks.is⟩ (.inr ⟨n,x,py q,q,?_⟩) (fun e=>absurd (a▸e) w) (fun _ e=>oA);rw[jr w,a,i,f4,v];refine⟨rfl,rfl,t.1,?_⟩;split
 ·exact .inr rfl
 ·omega
theorem Md.D9 {D:Nat->Prop} {p:PW} (h:Md D p) {X:List (List Ent)} (hl:X.length=p.D9.length):Md D {p with D9:=X}:=by
 obtain⟨r,a⟩:=h.keys;exact⟨h.ks,h.ds,⟨r,a.to rfl rfl⟩,h.op,⟨h.Eb.w,h.Eb.e⟩,h.tk.same (h.tk.lf.of (e10:=hl))⟩
theorem Md.F4 {p q:PW} (h:Lw p) (m:Md (fun _=>False) q) (e:q.D9=p.D9) (et:q.time=p.time):Lw (fgt q):=by
 refine⟨m.D9 oS,fun l hl=>?_,by show 0<=q.time;rw[et];exact h.tm⟩;obtain⟨l0,a,rfl⟩:=List.mem_map.1 (show l∈q.D9.map _ from hl);rw[e] at a;refine (h.tl l0 a).filter fun x _ b=>?_;exact (iP (p:=q) (q:=Wd.fgt q) rfl rfl x).trans (by simpa using b)
theorem kV:∀(m:Nat) (p:PW) (s:Nat),(drF m p s).time=p.time
 |0,_,_=>rfl
 |m+1,p,s=>by
  have da:∀f a q,(daF (drF m) f a q).time=q.time:=fun f a=>by
   induction a with
   |zero=>intro q;rw[gI]
   |succ a ih=>
    intro q;rw[gH];split
    ·exact ih q
    ·rw[ih,kV m q]
  have et:∀q t,(etP q t).time=q.time:=fun q t=>by unfold etP;split<;>rfl
  have ds:∀q t,(dsP q t).time=q.time:=fun q t=>by
   show ((q.lines.getD t []).foldl ds1 q).time=_
   rw[fm]
  unfold drF;split
  ·rfl
  ·unfold lsF;split
   ·rfl
   split
   ·rfl
   split
   ·rw[da];rfl
   split
   ·rw[et];rfl
   ·exact ds (nkP (drA p s) _) _
theorem Lw.drop {p:PW} (h:Lw p) (a:Int):Lw (dkP p a):=by
 unfold dkP;split
 ·rename_i e;obtain⟨n,rfl,_,b⟩:=vW e.2;rw[ag];exact Md.F4 h (h.m.drop (nds p+1) p n (Nat.lt_succ_self _) b).1 (jT _ p n) (kV _ p n)
 ·exact h
theorem Md.rv {m t:Nat}:∀(n:Nat) (p:PW),Md (fun _=>False) p->nds p<m->Md (fun _=>False) (rvN (drF m) t n p)∧(rvN (drF m) t n p).D9=p.D9∧(rvN (drF m) t n p).time=p.time
 |0,_,h,_=>⟨h,rfl,rfl⟩
 |n+1,p,h,hn=>by
  obtain⟨r,g⟩:=h.keys;rcases j5 p.DZ t p.DZ.length with ⟨-,e⟩|⟨-,j, -,e, -, -⟩
  ·rw[lJ e];exact⟨h,rfl,rfl⟩
  ·obtain⟨_,d⟩:=uj g.F2 e;obtain⟨f,i⟩:=h.drop m p j hn d;obtain⟨a,b,c⟩:=Md.rv (m:=m) (t:=t) n (drF m p j) f oA;rw[uU e];exact⟨a,b.trans (jT m p j),c.trans (kV m p j)⟩
theorem Lw.Fg {p:PW} (h:Lw p) (a:Int):Lw (xT p a):=by
 unfold xT;split
 ·obtain⟨m,t,s⟩:=Md.rv (t:=a.toNat) (neS p.DZ) p h.m (Nat.lt_succ_self (nds p));exact Md.F4 h m t s
 ·exact h
