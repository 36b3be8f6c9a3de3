/- Uaw -/
import Derived.Deep.RegionHeld3
import Derived.Test.YtnccmdndkmmhcaaGreatDoorUav
set_option maxRecDepth 100000
set_option maxHeartbeats 16000000
namespace Go.Proofs.YtnccmdndkmmhcaaGreatDoor
namespace Wd
open Go.RowKit Mem Bw Nums Mmu
theorem GO {p:PW} {d:Nat} (x:Tk Nbd p):(fkV p d= -1∧∀m:Nat,(m:Int)∈p.li d->p.t m 9=4)∨∃(u:Nat) (l:List Int),fkV p d=u∧p.li d=(u:Int)::l∧p.t u 9≠4:=by
 unfold fkV
 cases hl:p.lines.getD d [] with
 |nil=>
  refine .inl ⟨rfl,fun m b=>?_⟩;rw[show p.li d=[] from hl] at b
  cases b
 |cons z l=>
  have c:z∈p.li d:=by rw[show p.li d=_ from hl];exact cD ..
  obtain⟨u,rfl,_⟩:=x.q.ln d z c;show ((if p.II.getD ((u:Int)).toNat bl 9=4 then -1 else (u:Int))= -1∧_)∨_
  rw[ah];by_cases a:p.t u 9=4
  ·rw[ag a];exact .inl ⟨rfl,fun m b=>(x.q.lw d m u b c).2 a⟩
  ·rw[ae a];exact .inr ⟨u,l,by show (if p.II.getD ((u:Int)).toNat bl 9=4 then -1 else (u:Int))=u;rw[ah];exact ae a,hl,a⟩
theorem Tk.word {h:Nat->Prop} {p:PW} (x:Tk h p) {u:Nat} (b:p.k u=6) {k:Nat} (hk:k<=8∨k=15∨k=16):0<=p.t u k∧p.t u k<=65535:=by
 have:=x.a.ok u b k oA;unfold fOk at this;rw[ag hk] at this;exact aA this
theorem uJ (p:PW) (d t u:Nat) (l:List Int):Rs p (tkQ p d t u l):=by
 unfold tkQ;exact (((((dR p).ls (L:=p.lines.set d l) (R:=p.ready) (B:=p.bits) (C:=p.IJ)).task _ _ _).task _ _ _).task _ _ _).task _ _ _ |>.task _ _ _
theorem Lw.take {p:PW} (h:Lw p) {c t d:Nat} (w:p.co c=t) (A:p.k d=7) (s:p.t t 17= -1):Lw (tkP p t d):=by
 have x:=h.m.tk;obtain⟨_,b,I,_⟩:=x.q.inc w;have E:=x.tl b;obtain⟨b0,G⟩:=x.JP A;unfold tkP;rw[ah,ah];rcases GO (d:=d) x with ⟨e,M⟩|⟨u,l,e,hl,H⟩
 ·rw[ag e];exact h.tk (x.JN w oD oD G oD A b0 (fun m J=>⟨fun _=>M m J,fun _=>rfl⟩) (fun _=>s)) (vB (dR p))
 ·rw[ae oA,e,ah,show (p.lines.getD d []).tail=l by rw[show p.lines.getD d []=_ from hl];rfl];have L:(u:Int)∈p.li d:=by rw[hl];exact cD ..
  obtain⟨_,a,D,_⟩:=x.q.inl L;have f:=x.tl a;have r:p.t u 9≠5:=fun g=>D (by rw[g];rfl);have K:t≠u:=fun g=>D (by rw[<-g,I];rfl);have y:Tk (Hnd u) {p with lines:=p.lines.set d l}:=x.JG (B:=p.bits) (R:=p.ready) (C:=p.IJ) (x.q.front hl);have F:Tk (Hnd u) (tkQ p d t u l):=((((y.Jx b (k:=1) oD (x.word a (k:=16) oD)).Jx b (k:=2) oD (x.word a (k:=15) oD)).Jx a (k:=16) oD (v:=0) oD).Jx a (k:=15) oD (v:=0) oD).at' (-1);have W:∀n j,j≠1->j≠2->j≠15->j≠16->j≠14->(tkQ p d t u l).t n j=p.t n j:=fun n j N O o H r=>by
   unfold tkQ;rw[fV (by rw[ap,ap,ap,ap];exact f),ae oA,fV (by rw[ap,ap,ap];exact f),ae oA,fV (by rw[ap,ap];exact f),ae oA,fV (by rw[ap];exact E),ae oA,fV (p:={p with lines:=p.lines.set d l}) E,ae oA]
  have i:∀n,(tkQ p d t u l).t n 9=p.t n 9:=fun n=>W n 9 oD oD oD oD oD;by_cases o:p.t u 9=3
  ·rw[ag o];exact h.tk (F.ask (u:=t) b K (by rw[i];exact r) (by rw[W t 17 oD oD oD oD oD];exact s) (by rw[i];omega) (by
    unfold tkQ;rw[fV (by rw[ap,ap,ap,ap];exact f),ag ⟨rfl,rfl⟩])) ((uJ p d t u l).task _ _ _ |>.task _ _ _)
  ·rw[ae o];have z:=F.Jd (by rw[i];exact r);rw[na (W u 18 oD oD oD oD oD) (W u 10 oD oD oD oD oD)] at z;exact h.tk z ((uJ p d t u l).wn _ _)
theorem TkO.free {p q:PW} (x:TkO p) {t u:Nat} (h:p.t t 17=u) (b:∀n,q.t n 17=if n=t then -1 else p.t n 17) (e9:∀n,q.t n 9=if n=u then 1 else p.t n 9):TkO q:=by
 refine⟨fun n=>?_,fun w a=>?_,fun n m w c d=>?_⟩
 ·rw[b];split
  ·exact .inl rfl
  ·rename_i e;rcases x.ow n with g|⟨v,f,j,k⟩
   ·exact .inl g
   ·refine .inr ⟨v,f,by rw[e9,ae (fun y:v=u=>e (x.ij n t u (by rw[f,y]) h))];exact j,?_⟩;rw[e9];split
    ·decide
    ·exact k
 ·rw[e9] at a;split at a
  ·cases a
  ·rename_i e;obtain⟨n,i⟩:=x.ak w a;exact⟨n,by rw[b,ae (fun y:n=t=>e (by rw[y,h] at i;omega))];exact i⟩
 ·rw[b] at c d;split at c
  ·omega
  ·split at d
   ·omega
   ·exact x.ij n m w c d
theorem Lw.answer {p:PW} (h:Lw p) {t:Nat} {v:Int} (r:p.k t=6) (s:p.t t 17≠ -1) (hv:0<=v∧v<=65535):Lw (anP p t v):=by
 have x:=h.m.tk;have i:=x.tl r;obtain⟨u,e,f,B⟩:=(x.o.ow t).resolve_left s;have c:=dg fun g=>by rw[x.a.no u g 9 oD] at f;cases f
 have b:=x.tl c;unfold anP;rw[ah,show p.II.getD t bl 17=u from e,ah];have d:u<(((p.task t 17 (-1)).task u 1 0).task u 2 v).II.length:=by rw[ap,ap,ap];exact b
 have W:∀n j,j≠17->j≠1->j≠2->(((p.task t 17 (-1)).task u 1 0).task u 2 v).t n j=p.t n j:=fun n j w z A=>by
  rw[fV (by rw[ap,ap];exact b),ae oA,fV (by rw[ap];exact b),ae oA,fV i,ae oA]
 have l:=na (W u 18 oD oD oD) (W u 10 oD oD oD);have a:=((x.a.JB i r (k:=17) (v:= -1) rfl).JB (by rw[ap];exact b) c (k:=1) (v:=0) rfl).JB (by rw[ap,ap];exact b) c (k:=2) (v:=v) (by show wB v=true;exact az hv);have q:=((x.q.J9 c (.inr f)).to (q:=((p.task t 17 (-1)).task u 1 0).task u 2 v) rfl (fun n _ j C=>W n j oA oA oA) rfl rfl rfl rfl).Jd d (by rw[l];exact (x.num c).2.2);rw[l] at q;have lf:LF (((p.task t 17 (-1)).task u 1 0).task u 2 v):=x.lf.of (e6:=by rw[ap,ap,ap]);refine h.tk ⟨lf.Jd _ _,a.Jd c d,x.o.free (t:=t) (u:=u) e (fun n=>?_) (fun n=>?_),q⟩ ((((dR p).task _ _ _).task _ _ _).task _ _ _ |>.wn _ _)
 ·rw[Bo d,ae oA,ae oA,fV (by rw[ap,ap];exact b),ae oA,fV (by rw[ap];exact b),ae oA,fV i];by_cases g:n=t
  ·rw[ag g,ag ⟨g,rfl⟩]
  ·rw[ae g,ae (fun y=>g y.1)]
 ·rw[Bo d];by_cases g:n=u
  ·rw[ag g,ae oA,ag ⟨g,rfl⟩]
  ·rw[ae g,ae (fun y=>g y.1),ae (fun y=>g y.1),W n 9 oD oD oD]
theorem Lw.ring {p:PW} (h:Lw p) {a:Nat} {g:Int} (c:p.k a=8) (f:0<=g∧g<=65535) (i:0<=bits .or .i64 (p.bi a) g∧bits .or .i64 (p.bi a) g<=65535):Lw (rgP p a g):=by
 have x:=h.m.tk;have e:a<p.bits.length:=by rw[x.lf.bits];exact iN oA
 unfold rgP;rw[ah]
 cases hl:p.lines.getD a [] with
 |nil=>exact h.tk (x.JG (L:=p.lines) (R:=p.ready) (C:=p.IJ) (x.q.bit e (.inr ⟨c,hl,i⟩))) ((dR p).ls (L:=p.lines) (R:=p.ready) (C:=p.IJ))
 |cons z l=>
  have j:z∈p.li a:=by rw[show p.li a=_ from hl];exact cD ..
  obtain⟨u,rfl,_⟩:=x.q.ln a z j;have y:=x.hand (d:=a) (u:=u) (l:=l) hl (b:=0) (v:=g) oD f;show Lw (wnP (((frP p a ((u:Int)).toNat l).task ((u:Int)).toNat 1 0).task ((u:Int)).toNat 2 g) ((u:Int)).toNat (rdN p ((u:Int)).toNat))
  rw[ah];exact h.tk y (vH _ _ _ _ _ _)
theorem Lw.Kd {p:PW} (h:Lw p) {c t a:Nat} (j:p.co c=t) (i:p.k a=8):Lw (hbP p t a):=by
 have x:=h.m.tk;obtain⟨_,f,z,_⟩:=x.q.inc j;have s:a<p.bits.length:=by rw[x.lf.bits];exact iN oA
 have hl:a<p.lines.length:=by rw[x.lf.lines];exact iN oA
 unfold hbP;rw[ah,ah];split
 ·rename_i e;refine h.tk (x.JN j oD oD hl oD i e (fun m u=>⟨fun g=>(by cases g),fun g=>?_⟩) (fun g=>(by cases g))) (vB (dR p));obtain⟨_,o,r,w,_⟩:=x.q.inl u;obtain⟨b,l,d,_⟩:=x.q.la m o id r;rw[g,show b=a by omega,i] at d
  cases d
 ·rename_i e;obtain⟨l,d,n⟩:=(x.q.bt a).resolve_left e;have y:=(x.Jx f (k:=1) (v:=0) oD oD).Jx f (k:=2) oD n;exact h.tk (y.JG (L:=p.lines) (R:=p.ready) (C:=p.IJ) (B:=p.bits.set a 0) (y.q.bit (a:=a) (v:=0) s (.inl rfl)) (e8:=au ..)) ((((dR p).task t 1 0).task t 2 (p.bi a)).ls (L:=p.lines) (R:=p.ready) (C:=p.IJ) (B:=p.bits.set a 0))
theorem yN:∀(n:Nat) (l:List Int) (a j:Nat),a+n<=l.length->(zr n l a).getD j 0=if a<=j∧j<a+n then 0 else l.getD j 0
 |0,l,a,j,_=>by rw[lA,ae oA]
 |n+1,l,a,j,h=>by
  rw[lz,yN n _ _ j (by rw[au];omega),dx oA];split
  ·rw[ag oA]
  ·split
   ·rw[ag oA]
   ·rw[ae oA]
theorem Bu:∀(n:Nat) (l:List Int) (a:Nat) (x:Int),x∈zr n l a->x=0∨x∈l
 |0,l,a,x,h=>by rw[lA] at h;exact .inr h
 |n+1,l,a,x,h=>by
  rw[lz] at h;rcases Bu n _ _ x h with h|h
  ·exact .inl h
  ·rcases aZ h with h|h
   ·exact .inr h
   ·exact .inl h
theorem Fz (k f n:Int):nsl k f n 0=k∧nsl k f n 1=f∧nsl k f n 2=1∧nsl k f n 3=0∧nsl k f n 4=7∧nsl k f n 5=0∧nsl k f n 6=n:=⟨rfl,rfl,rfl,rfl,rfl,rfl,rfl⟩
theorem DC (f:Nat->Int) (k:Nat):upd f k (f k)=f:=funext fun j=>by
 unfold upd;split
 ·rename_i e;rw[e]
 ·rfl
theorem DD (f:Nat->Int) (k:Nat) (x y:Int):upd (upd f k x) k y=upd f k y:=funext fun j=>by
 unfold upd;split<;>rfl
theorem Ar {l:List (Nat->Int)} {i:Nat} (h:i<l.length):l.set i (l.getD i eS)=l:=by
 rw[aa,ac h];exact bV h
def m1 (p:PW) (c:Nat) (k:Int) (b t:Nat):PW:={shP p b k with IH:=(p.IH.set t (nsl k (b:Int) (c:Int))).set c (upd (p.s c) 3 (p.s c 3+1))}
theorem Lw.J7 {p:PW} {c:Nat} {k:Int} {b t:Nat} (h:Lw p) (G:p.s c 0=1) (hb:(b:Int)=p.s c 1+p.s c 3) (hm:p.s c 3<p.s c 2) (hk:2<=k∧k<=8) (ht:t<p.IH.length) (B:p.s t 0=0) (aj:p.k (t/16)=5):Lw (m1 p c k b t):=by
 obtain⟨r,ks⟩:=h.m.keys;have lf:=h.m.tk.lf;have L:p.s c 0≠0:=oA;have ab:=rY L;have kc:=ks.key c L;have H:=mS kc.c L;have km:=H.m G;have Q:b<p.kinds.length:=by have:=kc.le;omega
 have Z:clI (b:Int) (p.s c)=true:=jh.2 ⟨G,oA,oA⟩;have X:=dg fun e=>by
  have:=ks.us b e c;unfold un at this;rw[Z,eH] at this;exact dh this oA
 have Y:c≠t:=fun e=>L (e▸B);obtain⟨n0,n1,T,n3,n4,n5,n6⟩:=Fz k (b:Int) (c:Int);have ai:(m1 p c k b t).IH.length=p.IH.length:=by unfold m1;simp
 generalize v:nsl k (b:Int) (c:Int)=N at*;have E:∀j,j≠3->upd (p.s c) 3 (p.s c 3+1) j=p.s c j:=fun j q=>ae q;have J:upd (p.s c) 3 (p.s c 3+1) 3=p.s c 3+1:=ag rfl;have S:∀j,(m1 p c k b t).s j=if j=c then upd (p.s c) 3 (p.s c 3+1) else if j=t then N else p.s j:=fun j=>by
  unfold m1;rw[v];show ((p.IH.set t N).set c _).getD j eS=_
  rw[dx (by rw[au];exact ab),dx ht]
 have K:∀n,(m1 p c k b t).k n=if n=b then k else p.k n:=fun n=>dx Q k 0 n
 generalize hC:upd (p.s c) 3 (p.s c 3+1)=C at*;have c0:=(E 0 oD).trans G;have c1:=E 1 oD;have c2:=E 2 oD;have R:(m1 p c k b t).kinds.length=p.kinds.length:=au ..;have O:∀a j,isB p a j=true->j≠0->isB (m1 p c k b t) a j=true:=fun a j d z=>pt (f:=b) (x:=k) rfl Q d fun e=>by
  obtain⟨f,e2,_,F⟩:=fE d;rw[show f=b by omega,X] at F;exact z F.symm
 have o:∀j,j≠t->∀i,i≠3->(m1 p c k b t).s j i=p.s j i:=fun j q i hi=>by
  rw[S];split
  ·rename_i e;rw[e];exact E i hi
  ·rfl
 have st:(m1 p c k b t).s t=N:=by rw[S,ae (fun e=>Y e.symm),ag rfl]
 have I:(m1 p c k b t).s c=C:=by rw[S,ag rfl]
 have U:∀(n:Int) j,clI n ((m1 p c k b t).s j)=clI n (p.s j):=fun n j=>by
  by_cases e:j=t
  ·rw[e,st];unfold clI;rw[n0,B,beq_eq_false_iff_ne.2 (show k≠1 by omega)];rfl
  ·exact oV (o j e 0 oD) (o j e 1 oD) (o j e 2 oD)
 have aa:∀j,j≠t->(m1 p c k b t).s j 0≠0->p.s j 0≠0:=fun j e h=>by rw[<-o j e 0 oD];exact h
 have ac:∀u s,p.s u 0≠0->cmB (p.s u) s=true->cmB ((m1 p c k b t).s u) s=true:=fun u s hu d=>by
  by_cases e:u=c
  ·subst e;rw[kV G] at d;rw[I,kV c0,c1,J];exact⟨d.1,d.2.1,oA⟩
  ·rw[S,ae e,ae (fun e:u=t=>hu (e▸B))];exact d
 have ram:(m1 p c k b t).IL=zr 16 p.IL (b*16):=rfl;have kk:Ky (fun _=>False) (m1 p c k b t) (fun j=>if j=t then r c+1 else r j):=by
  refine⟨fun j q=>?_,fun j q=>?_,fun j q=>?_,fun j=>?_,fun n i j hi q=>?_,fun n v i=>?_,fun i d z A c'=>?_⟩
  ·by_cases e:j=t
   ·rw[e,st,n0] at q;omega
   ·have M:p.s j 0=0:=by rw[<-o j e 0 oD];exact q
    have e2:j≠c:=fun e=>L (e▸M);rw[S,ae e2,ae e];exact ks.em j M
  ·left
   have P:p.k (j/16)=5:=by
    by_cases e:j=t
    ·rw[e];exact aj
    ·exact (ks.nd j (aa j e q)).resolve_right id
   rw[K,ae (fun e=>by rw[e] at P;omega)];exact P
  ·by_cases e:j=t
   ·rw[e,st];have:=lf.k2;refine⟨zL ⟨by rw[n0];omega,by rw[n1];omega,by rw[T];decide,by rw[n1,T];omega,fun e=>oA,fun _=>⟨T,n3⟩,by rw[n4];decide,?_⟩,by rw[n1,T,R];omega,.inr ?_⟩
    ·rw[n0,n5];by_cases e:k=7∨k=8
     ·exact .inl ⟨e,oD⟩
     ·exact .inr ⟨e,rfl⟩
    ·rw[n1,n0,lg (by rw[R];exact Q),K,ag rfl];simp
   ·have M:=aa j e q;by_cases e2:j=c
    ·rw[e2,I];refine⟨zL ⟨by rw[c0];decide,by rw[c1];exact H.b,by rw[c2];exact H.l,by rw[c1,c2];exact H.bl,fun _=>by rw[J,c2];omega,fun e=>absurd c0 e,by rw[E 4 oD];exact H.r,by rw[c0,E 5 oD];have:=H.g;rw[G] at this;exact this⟩,by rw[c1,c2,R];exact kc.le,.inl c0⟩
    ·rw[S,ae e2,ae e];have:=ks.key j M;exact⟨this.c,by rw[R];exact this.le,this.is.elim .inl fun g=>.inr (O _ _ g M)⟩
  ·by_cases e:j=t
   ·refine .inr ⟨c,by rw[e,st];exact n6,by rw[I,c0];decide,?_,?_⟩
    ·rw[I,e,st,kV c0,n0,n1,c1,J];omega
    ·rw[ae Y,ag e];omega
   ·rw[o j e 6 oD];rcases ks.up j with d|⟨u,d,A,W,P⟩
    ·exact .inl d
    ·have ah:j≠c:=fun g=>oW W (by rw[g];exact G);refine .inr ⟨u,d,by rw[o u (fun g=>A (g▸B)) 0 oD];exact A,?_,?_⟩
     ·rw[show (m1 p c k b t).s j=p.s j by rw[S,ae ah,ae e]];exact ac u _ A W
     ·rw[ae (fun g:u=t=>A (g▸B)),ae e];exact P
  ·rw[U] at hi q;exact ks.one n i j hi q
  ·rw[K] at v;unfold un;rw[U]
   cases D:clI (n:Int) (p.s i) with
   |false=>rfl
   |true=>
    rw[eH];have hit:i≠t:=fun e=>by have:=(jh.1 D).1;rw[e,B] at this;cases this
    by_cases e:n=b
    ·have ad:=ks.one n i c D (by rw[e];exact Z);rw[ad,I,c1,J];exact aw oA
    ·rw[ae e] at v;have d:=ks.us n v i;unfold un at d;rw[D,eH] at d;have z:=dh d;rw[o i hit 1 oD];by_cases F:i=c
     ·rw[F,I,J];rw[F] at z;exact aw oA
     ·rw[S,ae F,ae hit];exact d
  ·rw[U];by_cases e:i=t
   ·rw[e,st,n6] at A;omega
   ·rw[o i e 0 oD] at d z;rw[o i e 6 oD] at A;rw[o i e 1 oD];exact ks.gp i d z A c'
 have op:Op (m1 p c k b t):=fun n v=>by
  rw[K] at v;by_cases e:n=b
  ·exact⟨t,by rw[st];exact gS.2 ⟨oA,oA,by rw[n1,e]⟩⟩
  ·rw[ae e] at v;obtain⟨i,z⟩:=h.m.op n v;have hit:i≠t:=fun e=>(gS.1 z).1 (e▸B);exact⟨i,by rw[jJ (o i hit 0 oD) (o i hit 1 oD)];exact z⟩
 have hr:=lf.IL;have rg:∀j,(m1 p c k b t).IL.getD j 0=if b*16<=j∧j<b*16+16 then 0 else p.IL.getD j 0:=fun j=>by rw[ram,yN 16 _ _ _ oA]
 have V:(m1 p c k b t).IL.length=p.IL.length:=by rw[ram,nE]
 have nl:=h.m.tk.Jm (b:=b) oA;have tk:=h.m.tk.kind (k:=k) Q (h.m.tk.blank oA) (fun n v=>⟨fun g=>by have:=(h.m.tk.refs v).1 g;omega,fun g=>by have:=(h.m.tk.refs v).2.1 g;omega,fun g=>by have:=(h.m.tk.refs v).2.2 g;omega⟩) nl.1 nl.2;refine⟨⟨fun x D=>?_,h.m.ds,⟨_,kk⟩,op,⟨fun x D=>?_,fun j q=>?_⟩,tk.same (tk.lf.of (e4:=V) (e5:=ai))⟩,fun l hl=>(h.tl l hl).Js fun e he=>rT h.m.IL lf (fun f hf=>O _ _ (by rw[lg (iN oA),hf];rfl) oD) V (fun i hi _=>?_) he,h.tm⟩
 ·rcases aZ (show x∈p.kinds.set b k from D) with d|rfl
  ·exact h.m.ks x d
  ·omega
 ·rcases Bu 16 _ _ x (show x∈zr 16 p.IL (b*16) from D) with d|d
  ·omega
  ·exact h.m.IL.w x d
 ·have af:j<p.IL.length:=by rwa [V] at q
  rw[rg,K];by_cases e:b*16<=j∧j<b*16+16
  ·rw[ag e];exact fY.2 ⟨fun _=>.inl rfl,fun _=>.inl rfl⟩
  ·rw[ae e,ae oA];have g:=fY.1 (h.m.IL.e j af);exact fY.2 ⟨fun a=>(g.1 a).imp_right fun y=>O _ _ y oD,fun a=>(g.2 a).imp_right fun y=>y.elim (fun y=>.inl (O _ _ y oD)) (fun y=>.inr (O _ _ y oD))⟩
 ·rw[rg,ae];intro y;rw[show i/16=b by omega,X] at hi;omega
theorem Lw.free {p:PW} (h:Lw p) {c:Nat} (q:∀i,p.s i 6≠c) {n:Nat} (l:clI n (p.s c)=true):p.k n=0:=by
 obtain⟨r,b⟩:=h.m.keys;have go:∀m i,r i<m->opn (n:Int) (p.s i)=true->False:=by
  intro m
  induction m with
  |zero=>intro i hi;omega
  |succ m ih=>
   intro i hi g;obtain⟨t,v,o⟩:=gS.1 g;rcases b.up i with d|⟨u,d,f,j,w⟩
   ·have:=b.gp i t v d c;rw[o,l] at this
    cases this
   ·by_cases a:p.s u 0=1
    ·rw[kV a,o] at j;have x:=(mS (b.key u f).c f).m a;have:u=c:=b.one n u c (jh.2 ⟨a,oA,oA⟩) l;exact q i (by rw[d,this])
    ·have:=(kA a).1 j;exact ih u oA (gS.2 ⟨f,a,oA⟩)
 exact dg fun e=>by
  obtain⟨i,g⟩:=h.m.op n e;exact go (r i+1) i oA g
theorem Lw.reset {p:PW} {c:Nat} (h:Lw p) (z:p.s c 0=1) (B:∀i,p.s i 6≠c):Lw {p with IH:=p.IH.set c (upd (p.s c) 3 0)}:=by
 obtain⟨r,ks⟩:=h.m.keys;have w:p.s c 0≠0:=oA;have E:=rY w;have kc:=ks.key c w;have o:=mS kc.c w;have S:∀j,PW.s {p with IH:=p.IH.set c (upd (p.s c) 3 0)} j=if j=c then upd (p.s c) 3 0 else p.s j:=fun j=>dx E _ eS j
 have O:∀j k,k≠3->PW.s {p with IH:=p.IH.set c (upd (p.s c) 3 0)} j k=p.s j k:=fun j k hk=>by
  rw[S];split
  ·rename_i e;rw[e];exact ae hk
  ·rfl
 have q:∀j,j≠c->PW.s {p with IH:=p.IH.set c (upd (p.s c) 3 0)} j=p.s j:=fun j a=>by rw[S,ae a]
 have y:∀(n:Int) j,clI n (PW.s {p with IH:=p.IH.set c (upd (p.s c) 3 0)} j)=clI n (p.s j):=fun n j=>oV (O j 0 oD) (O j 1 oD) (O j 2 oD);refine h.IH oS ⟨r,fun j a=>?_,fun j a=>?_,fun j a=>?_,fun j=>?_,fun n i j hi a=>?_,fun n x i=>?_,fun i f t v C=>?_⟩ fun n x=>?_
 ·rw[O j 0 oD] at a;rw[q j fun e=>w (e▸a)];exact ks.em j a
 ·rw[O j 0 oD] at a;exact ks.nd j a
 ·rw[O j 0 oD] at a;by_cases e:j=c
  ·subst e;have d:∀k,k≠3->upd (p.s j) 3 0 k=p.s j k:=fun k hk=>ae hk;rw[S,ag rfl];exact⟨zL ⟨by rw[d 0 oD];exact o.k,by rw[d 1 oD];exact o.b,by rw[d 2 oD];exact o.l,by rw[d 1 oD,d 2 oD];exact o.bl,fun _=>by rw[d 2 oD];have:=o.l;exact⟨Int.le_refl _,by show (0:Int)<=_;omega⟩,fun e=>absurd ((d 0 oD).trans z) e,by rw[d 4 oD];exact o.r,by rw[d 0 oD,d 5 oD];exact o.g⟩,by rw[d 1 oD,d 2 oD];exact kc.le,.inl ((d 0 oD).trans z)⟩
  ·rw[q j e];have:=ks.key j a;exact⟨this.c,this.le,this.is⟩
 ·rw[O j 6 oD];rcases ks.up j with f|⟨u,f,v,A,D⟩
  ·exact .inl f
  ·refine .inr ⟨u,f,by rw[O u 0 oD];exact v,?_,D⟩;rw[q u (fun e=>B j (by rw[f,e])),q j (fun e=>oW A (by rw[e];exact z))];exact A
 ·rw[y] at hi a;exact ks.one n i j hi a
 ·unfold un;rw[y]
  cases hx:clI (n:Int) (p.s i) with
  |false=>rfl
  |true=>
   by_cases e:i=c
   ·subst e;exact absurd (h.free B hx) x
   ·have f:=ks.us n x i;unfold un at f;rw[hx] at f;rw[q i e];exact f
 ·rw[y,O i 1 oD];rw[O i 0 oD] at f t;rw[O i 6 oD] at v;exact ks.gp i f t v C
 ·obtain⟨i,t⟩:=h.m.op n x;exact⟨i,by rw[jJ (O i 0 oD) (O i 1 oD)];exact t⟩
theorem Lw.unused {p:PW} {c b:Nat} (h:Lw p) (a:p.s c 0=1) (f:(b:Int)=p.s c 1+p.s c 3) (g:p.s c 3<p.s c 2):b<p.kinds.length∧p.k b=0:=by
 obtain⟨r,ks⟩:=h.m.keys;have d:p.s c 0≠0:=oA;have kc:=ks.key c d;have i:=(mS kc.c d).m a;refine⟨by have:=kc.le;omega,dg fun e=>?_⟩;have:=ks.us b e c;unfold un at this;rw[jh.2 ⟨a,oA,oA⟩,eH] at this;exact dh this oA
theorem Lw.makes {p:PW} {c t B:Nat} {k u:Int} (h:Lw {p with IH:=p.IH.set c (upd (p.s c) 3 u)}) (o:p.s c 0=1) (hB:(B:Int)=p.s c 1+u) (hk:2<=k∧k<=8) (D:p.k (t/16)=5):∀m:Nat,u+m<=p.s c 2->t%16+m<=16->t+m<=p.IH.length->(∀j,j<m->p.s (t+j) 0=0)->
  Lw {mkI p c k B t m with IH:=(mkI p c k B t m).IH.set c (upd (p.s c) 3 (u+m))}∧(mkI p c k B t m).k (t/16)=5:=by
 have v:p.s c 0≠0:=oA;have C:=rY v;intro m
 induction m with
 |zero=>exact fun _ _ _ _=>⟨by rw[show u+((0:Nat):Int)=u by omega];exact h,D⟩
 |succ m ih=>
  intro H I J i;obtain⟨b0,l⟩:=ih oA oA oA (fun j x=>i j oA);have hl:=(mY p c k B t m).2.2;have r:c<(mkI p c k B t m).IH.length:=by rw[hl];exact C
  have w:c≠t+m:=fun e=>v (by rw[e];exact i m oA);generalize d:({mkI p c k B t m with IH:=(mkI p c k B t m).IH.set c (upd (p.s c) 3 (u+m))}:PW)=q at b0;have g:q.IH=(mkI p c k B t m).IH.set c (upd (p.s c) 3 (u+m)):=by rw[<-d]
  have n:q.s c=upd (p.s c) 3 (u+m):=by show q.IH.getD c eS=_;rw[g,dx r,ag rfl]
  have f:q.s c 3=u+m:=by rw[n];exact ag rfl
  have a:∀j,j≠3->q.s c j=p.s c j:=fun j x=>by rw[n];exact ae x
  have G:q.s (t+m) 0=0:=by
   show (q.IH.getD (t+m) eS) 0=0
   rw[g,dx r,ae (fun e=>w e.symm),aa,xI p c k B t (t+m) m oA, <-aa];exact i m oA
  have E:q.k ((t+m)/16)=5:=by
   rw[show (t+m)/16=t/16 by omega];show q.kinds.getD _ 0=5
   rw[<-d];exact l
  have F:t+m<q.IH.length:=by rw[g,au,hl];omega
  have b1:=b0.J7 (c:=c) (k:=k) (b:=B+m) (t:=t+m) (by rw[a 0 oD];exact o) (by rw[a 1 oD,f];omega) (by rw[f,a 2 oD];omega) hk F G E;have e:m1 q c k (B+m) (t+m)={mkI p c k B t (m+1) with IH:=(mkI p c k B t (m+1)).IH.set c (upd (p.s c) 3 (u+((m+1:Nat):Int)))}:=by
   have z:(q.IH.set (t+m) (nsl k ((B+m:Nat):Int) (c:Int))).set c (upd (q.s c) 3 (q.s c 3+1))=((mkI p c k B t m).IH.set (t+m) (nsl k ((B+m:Nat):Int) (c:Int))).set c (upd (p.s c) 3 (u+((m+1:Nat):Int))):=by
    rw[f,n,DD,g,List.set_comm _ _ w,ep,show u+m+1=u+((m+1:Nat):Int) by omega]
   unfold m1;rw[z, <-d];rfl
  have y:=b0.unused (c:=c) (b:=B+m) (by rw[a 0 oD];exact o) (by rw[a 1 oD,f];omega) (by rw[f,a 2 oD];omega);rw[e] at b1;refine⟨b1,?_⟩;have K:(mkI p c k B t m).k (B+m)=0:=by
   have:q.kinds.getD (B+m) 0=0:=y.2;rw[<-d] at this;exact this
  have A:B+m<(mkI p c k B t m).kinds.length:=by
   have:B+m<q.kinds.length:=y.1;rw[<-d] at this;exact this
  show ((mkI p c k B t m).kinds.set (B+m) k).getD (t/16) 0=5
  rw[dx A,ae (fun e=>by rw[e] at l;omega)];exact l
theorem EI {p:PW} {n:Nat} (h:frm p n=false):∀i,p.s i 6≠n:=fun i e=>by
 unfold frm at h;rw[bO] at h;rcases cP i p.IH.length with a|a
 ·have:=h _ (av a);rw[tb a] at this;exact this (by simpa using e)
 ·rw[FY a] at e;have:(-1:Int)=n:=e;omega
theorem Lw.make {p:PW} {n k m t:Int} (h:Lw p) (a:mkE p n k m t=0):Lw (mkP p n k m t):=by
 unfold mkE at a;split at a
 case isFalse=>cases a
 rename_i h1;obtain⟨t,rfl,A⟩:=(show ∃n:Nat,t=n∧n<p.IH.length from⟨t.toNat,by have:=aA h1;omega,by have:=aA h1;omega⟩);by_cases g:clE p n=0
 case neg=>rw[ae g] at a;exact absurd a g
 rw[ag g] at a;split at a
 case isFalse=>cases a
 rename_i hk;have hk:=aA hk;by_cases d:fcE p (t:Int).toNat m=0
 case neg=>rw[ae d] at a;exact absurd a d
 rw[ag d] at a;split at a
 case isTrue=>cases a
 rename_i hroom;unfold clE at g;by_cases l:fh p n=0
 case neg=>rw[ae l] at g;exact absurd g l
 rw[ag l] at g;obtain⟨c,rfl,i,o⟩:=wX l;rw[ah,jl i] at g;split at g
 case isFalse=>cases g
 rename_i hc;rw[ah] at d;unfold fcE at d;split at d
 case isFalse=>cases d
 rename_i h5;split at d
 case isFalse=>cases d
 rename_i r;have r:=aA r;split at d
 case isTrue=>cases d
 rename_i hus;obtain⟨m,rfl⟩:∃m':Nat,m=m':=⟨m.toNat,oA⟩
 rw[ah] at hus;have z:=h.m.tk.lf.IH;have y:=iN (p:=p) (f:=t/16) (by show p.kinds.getD (t/16) 0≠0;omega);have u:∀j,j<m->p.s (t+j) 0=0:=fun j v=>dg fun e=>hus (by
  unfold usd;have hl:=rY e;refine List.any_eq_true.2 ⟨p.s (t+j),?_,by simpa using e⟩;rw[<-tb hl];refine List.mem_iff_getElem?.2 ⟨j,?_⟩;rw[List.getElem?_take,ag v,dL,ac hl])
 have q:=(h.m.keys.choose_spec).key c o;have x:=(mS q.c o).m hc;have C:=(mS q.c o).b;rw[ah,jl i] at hroom;have w:0<=usV p c∧Lw {p with IH:=p.IH.set c (upd (p.s c) 3 (usV p c))}:=by
  unfold usV;rw[ah,jl i]
  cases hf:frm p c with
  |true=>
   rw[ag rfl,DC,Ar i];exact⟨x.1,h⟩
  |false=>
   rw[ae oD];exact⟨Int.le_refl _,h.reset hc (EI hf)⟩
 have hB:mkB p c=(p.s c 1+usV p c).toNat:=by unfold mkB;rw[ah,jl i]
 unfold mkP;rw[ah,ah,ah,jl i];exact (Lw.makes w.2 hc (B:=mkB p c) (by rw[hB];omega) hk h5 m oA oA oA u).1
end Wd
namespace Hd2
open Go.RowKit Mem
def oa (md:Region.Mode) (ops:Array Oper) (n1 N:Nat):Bool:=
 decide (n1<=ops.size)&&(List.range ops.size).all fun i=>match ops[i]? with
  |none=>true
  |some o=>if i<n1 then o.guard.isNone&&o.after.all (fun e=>decide (e.on<i))&&(match o.dst with|none=>false|some d=>decide (d<N)&&(List.range i).all fun j=>(ops[j]?).bind (·.dst) !=some d)
   else (List.range n1).all fun j=>o.after.any fun e=>Region.binds md e&&e.on==j
def left (listed:Array Bool):Nat->Nat
 |0=>0
 |n+1=>left listed n+(if listed.getD n false=true then 0 else 1)
theorem dx {l:Array Bool} {i j:Nat} (hi:i<l.size):(l.setIfInBounds i true).getD j false=if j=i then true else l.getD j false:=by
 simp only[cV,Array.getElem?_setIfInBounds];by_cases h:i=j
 ·subst h;simp[hi]
 ·have:¬j=i:=fun e=>h e.symm;simp[h,this]
theorem oe {l:Array Bool} {i:Nat} (hi:i<l.size):∀n,n<=i->left (l.setIfInBounds i true) n=left l n
 |0,_=>rfl
 |n+1,h=>by
  have e:¬n=i:=oA;simp only[left];rw[oe hi n oA,dx hi,ae e]
theorem t6 {l:Array Bool} {i:Nat} (hi:i<l.size) (a:l.getD i false=false):∀n,i<n->left (l.setIfInBounds i true) n+1=left l n
 |0,h=>oA
 |n+1,h=>by
  simp only[left];rw[dx hi];by_cases e:n=i
  ·subst e;rw[oe hi n (aq _),ag rfl,a];simp
  ·rw[ae e];have:=t6 hi a n oA;omega
theorem mU {l:Array Bool}:∀n,left l n=0->∀j,j<n->l.getD j false=true
 |0,_,j,hj=>oA
 |n+1,h,j,hj=>by
  simp only[left] at h;by_cases e:j=n
  ·subst e;by_cases hl:l.getD j false=true
   ·exact hl
   ·rw[ae hl] at h;omega
  ·exact mU n oA j oA
theorem og {l:Array Bool}:∀n,left l n≠0->∃j,j<n∧l.getD j false=false∧∀k,k<j->l.getD k false=true
 |0,h=>absurd rfl h
 |n+1,h=>by
  by_cases a:left l n=0
  ·refine⟨n,oA,?_,mU n a⟩;simp only[left,a] at h;by_cases hl:l.getD n false=true
   ·rw[ag hl] at h;exact absurd rfl h
   ·simpa using hl
  ·obtain⟨j,d,b,c⟩:=og n a;exact⟨j,oA,b,c⟩
structure Hd (ops:Array Oper) (n1:Nat) (F:Nat->Bool) (R:Nat->Value->World->Prop) (w0:World) (a0:Act) (listed:Array Bool) (a:Act) (w:World):Prop where
 sz:listed.size=ops.size
 tail:∀i,n1<=i->listed.getD i false=false
 JA:Below w0.heap.size w0 w
 df:a.defers=a0.defers
 ts:a.tmps.size=a0.tmps.size
 Kc:∀i o d,ops[i]? =some o->o.dst=some d->listed.getD i false=true->R i (a.tmps.getD d undef) w
 old:∀s,(∀i o,i<n1->ops[i]? =some o->o.dst≠some s)->a.tmps.getD s undef=a0.tmps.getD s undef
 dj:∀i j o o' d d',ops[i]? =some o->o.dst=some d->ops[j]? =some o'->o'.dst=some d'->listed.getD i false=true->listed.getD j false=true->F i=true->F j=true->i≠j->∀k,(a.tmps.getD d undef).ownBlock=some k->(a.tmps.getD d' undef).ownBlock≠some k
theorem kn {n:Nat} {p:Nat->Bool} (h:(List.range n).all p=true) {i:Nat} (hi:i<n):p i=true:=aU.1 h i (List.mem_range.2 hi)
theorem Hd.Jn {ops:Array Oper} {n1:Nat} {F:Nat->Bool} {R:Nat->Value->World->Prop} {w0:World} {a0:Act} {d:Array Bool} {a:Act} {w:World} (h:Hd ops n1 F R w0 a0 d a w) (s:Nat) (c:((List.range n1).all fun i=>(ops[i]?).bind (·.dst) !=some s)=true):a.eval (.tmp s)=a0.eval (.tmp s):=
 h.old s fun i o hi b e=>by
  have:=kn c hi;rw[b] at this;simp[e] at this
theorem Hd.I5 {ops:Array Oper} {n1:Nat} {F:Nat->Bool} {R:Nat->Value->World->Prop} {w0:World} {a0:Act} {c:Array Bool} {a:Act} {w:World} (h:Hd ops n1 F R w0 a0 c a w) (i d:Nat) (b:(ops[i]?).bind (·.dst)=some d) (hl:c.getD i false=true):R i (a.eval (.tmp d)) w:=by
 cases ho:ops[i]? with
 |none=>rw[ho] at b;cases b
 |some o=>rw[ho] at b;exact h.Kc i o d ho b hl
section
variable {P : Program} {md : Region.Mode} {ops : Array Oper} {Q : Exit -> Act -> World -> Prop} {n1 N : Nat} {F : Nat -> Bool} {R : Nat -> Value -> World -> Prop} {w0 : World} {a0 : Act}
theorem jn (h:oa md ops n1 N=true) {i:Nat} {o:Oper} (k:ops[i]? =some o):
  (i<n1->o.guard=none∧(∀e∈o.after,e.on<i)∧∃d,o.dst=some d∧d<N∧∀j g,j<i->ops[j]? =some g->g.dst≠some d)∧
  (n1<=i->∀j,j<n1->∃e∈o.after,Region.binds md e=true∧e.on=j):=by
 unfold oa at h;rw[am] at h;have hi:=(Array.getElem?_eq_some_iff.1 k).1;have:=kn h.2 hi;rw[k] at this;simp only at this;constructor
 ·intro n;rw[ag n] at this;simp only[am,Option.isNone_iff_eq_none,Array.all_eq_true'] at this;obtain⟨⟨l,m⟩,a⟩:=this;refine⟨l,fun e c=>by simpa using m e c,?_⟩
  cases hd:o.dst with
  |none=>rw[hd] at a;simp at a
  |some d=>
   rw[hd] at a;simp only[am,bg] at a;refine⟨d,rfl,a.1,fun j g f p e=>?_⟩;have:=kn a.2 f;rw[p] at this;simp[e] at this
 ·intro q j f;rw[ae oA] at this;have:=kn this f;rw[Array.any_eq_true'] at this;obtain⟨e,c,b⟩:=this;rw[am] at b;exact⟨e,c,b.1,by simpa using b.2⟩
theorem yi {b:Array Bool} {i:Nat} (h:i∈Region.ready md ops b):∃o,ops[i]? =some o∧i<ops.size∧b.getD i true=false∧∀e∈o.after,Region.binds md e=true->b.getD e.on false=true:=by
 unfold Region.ready at h;obtain⟨f,c⟩:=List.mem_filter.1 h;have hi:=List.mem_range.1 f;rw[am] at c;obtain⟨g,a⟩:=c;have d:=Array.getElem?_eq_getElem hi;rw[d] at a;simp only[Option.map_some,aT,Array.all_eq_true'] at a;refine⟨ops[i],d,hi,by simpa using g,fun e k j=>?_⟩;have:=a e k;simpa [j] using this
theorem mem_ready {listed:Array Bool} {i:Nat} {o:Oper} (a:ops[i]? =some o) (hl:listed.getD i true=false) (b:∀e∈o.after,listed.getD e.on false=true):i∈Region.ready md ops listed:=by
 unfold Region.ready;refine List.mem_filter.2 ⟨List.mem_range.2 (Array.getElem?_eq_some_iff.1 a).1,?_⟩;rw[a,hl];simp only[Bool.not_false,eH,Option.map_some,aT,Array.all_eq_true'];intro e c;simp[b e c]
theorem wT {l:Array Bool} {i:Nat} (h:i<l.size):l.getD i true=l.getD i false:=by
 simp[Array.getD_eq_getD_getElem?,h]
theorem vI (m:oa md ops n1 N=true) (hN:N<=a0.tmps.size) (E:Array Bool) (hE:E.size=ops.size) (ai:∀i,i<ops.size->E.getD i false=decide (i<n1))
  (av:∀i v w w',Below w.heap.size w w'->R i v w->R i v w') (af:∀i v w,F i=true->R i v w->∀k,v.ownBlock=some k->k<w.heap.size)
  (ay:∀i o,i<n1->ops[i]? =some o->∀listed a w,Hd ops n1 F R w0 a0 listed a w->(∀e∈o.after,Region.binds md e=true->listed.getD e.on false=true)->o.wp P a w (fun Y w'=>∃v,Y=a.put o.dst v∧R i v w'∧Below w.heap.size w w'∧(F i=true->∀k,v.ownBlock=some k->w.heap.size<=k)) Q)
  (ap:∀a w,Hd ops n1 F R w0 a0 E a w->wpAny P md ops Q (ops.size - n1) E a w):
  ∀k listed a w,left listed n1=k->Hd ops n1 F R w0 a0 listed a w->wpAny P md ops Q (k+(ops.size - n1)) listed a w:=by
 have aD:n1<=ops.size:=by
  unfold oa at m;rw[am] at m;simpa using m.1
 intro k
 induction k with
 |zero=>
  intro listed a w hk h;have z:listed=E:=by
   apply Array.ext
   ·rw[h.sz,hE]
   ·intro i b h2;have e1:listed.getD i false=listed[i]:=by simp[Array.getD_eq_getD_getElem?,b]
    have e2:E.getD i false=E[i]:=by simp[Array.getD_eq_getD_getElem?,h2]
    rw[<-e1, <-e2,ai i oA];by_cases hi:i<n1
    ·rw[mU n1 hk i hi,az hi]
    ·rw[h.tail i oA,aw hi]
  subst z;rw[aC];exact ap a w h
 |succ k ih=>
  intro listed a w hk h;rw[show k+1+(ops.size - n1)=(k+(ops.size - n1))+1 by omega];obtain⟨j,j1,j2,j3⟩:=og (l:=listed) n1 oA;have hj:j<ops.size:=oA;have ac:j∈Region.ready md ops listed:=by
   have c:=Array.getElem?_eq_getElem hj;refine mem_ready c (by rw[wT (by rw[h.sz];exact hj)];exact j2) fun e z=>?_;exact j3 _ (((jn m c).1 j1).2.1 e z)
  refine⟨fun hr=>by rw[hr] at ac;simp at ac,fun i hi=>?_⟩;obtain⟨o,c,A,hl,hd⟩:=yi hi;rw[wT (by rw[h.sz];exact A)] at hl;have I:i<n1:=by
   rcases cP i n1 with b|b
   ·exact b
   ·obtain⟨e,z,D,ax⟩:=(jn m c).2 b j j1;have:=hd e z D;rw[ax,j2] at this
    cases this
  obtain⟨hg,_,d,f,al,aa⟩:=(jn m c).1 I;unfold wpOp;rw[c];simp only;rw[ag (by unfold Region.wanted;rw[hg])];refine Or.inl (Oper.wp_mono (fun Y w' hv=>?_) (ay i o I c listed a w h hd));obtain⟨v,rfl,hR,D,ab⟩:=hv;refine ih (listed.setIfInBounds i true) (a.put o.dst v) w' (by have:=t6 (by rw[h.sz];exact A) hl n1 I;omega) ?_;have an:d<a.tmps.size:=by
   rw[h.ts];exact aE al hN
  have L:∀s,(a.put o.dst v).tmps.getD s undef=if s=d then v else a.tmps.getD s undef:=by
   intro s;rw[f];simp only[Act.put,cV,Array.getElem?_setIfInBounds];by_cases e:d=s
   ·subst e;simp[an]
   ·have:¬s=d:=fun x=>e x.symm;simp[e,this]
  refine⟨by rw[Array.size_setIfInBounds];exact h.sz,fun n aq=>?_,h.JA.trans (D.mono h.JA.size),by rw[f];exact h.df,by rw[f];simp only[Act.put,Array.size_setIfInBounds];exact h.ts,fun n o' Z J G B=>?_,fun s hs=>?_,fun i1 y X O d1 d2 K H C p ad W U V u k t q=>?_⟩
  ·rw[dx (by rw[h.sz];exact A),ae oA];exact h.tail n aq
  ·rw[dx (by rw[h.sz];exact A)] at B;by_cases e:n=i
   ·subst e;obtain rfl:=aK (c.symm.trans J);obtain rfl:=aK (f.symm.trans G);rw[L,ag rfl];exact hR
   ·rw[ae e] at B;have ar:n<n1:=by
     rcases cP n n1 with b|b
     ·exact b
     ·rw[h.tail n b] at B;cases B
    have u:¬Z=d:=by
     rintro rfl;rcases Nat.lt_or_gt_of_ne e with b|b
     ·exact aa n o' b J G
     ·obtain⟨_,_,d2,p,_,M⟩:=(jn m J).1 ar;obtain rfl:=aK (G.symm.trans p);exact M i o b c f
    rw[L,ae u];exact av _ _ _ _ D (h.Kc n o' Z J G B)
  ·have u:¬s=d:=by
    rintro rfl;exact hs i o I c f
   rw[L,ae u];exact h.old s hs
  ·rw[dx (by rw[h.sz];exact A)] at ad W;have far:∀x S T,ops[x]? =some S->S.dst=some T->(if x=i then true else listed.getD x false)=true->x≠i->listed.getD x false=true∧¬T=d:=fun x S T ah r g M=>by
    rw[ae M] at g;have aB:x<n1:=by
     rcases cP x n1 with b|b
     ·exact b
     ·rw[h.tail x b] at g;cases g
    refine⟨g,?_⟩;rintro rfl;rcases Nat.lt_or_gt_of_ne M with b|b
    ·exact aa x S b ah r
    ·obtain⟨_,_,d3,aj,_,aA⟩:=(jn m ah).1 aB;obtain rfl:=aK (r.symm.trans aj);exact aA i o b c f
   rw[L] at t q;by_cases e1:i1=i
   ·subst e1;obtain rfl:=aK (c.symm.trans K);obtain rfl:=aK (f.symm.trans H);rw[ag rfl] at t;obtain⟨g,r⟩:=far y O d2 C p W (Ne.symm u);rw[ae r] at q;have:=af y _ w V (h.Kc y O d2 C p g) k q;have:=ab U k t;omega
   ·obtain⟨g,r⟩:=far i1 X d1 K H ad e1;rw[ae r] at t;by_cases e2:y=i
    ·subst e2;obtain rfl:=aK (c.symm.trans C);obtain rfl:=aK (f.symm.trans p);rw[ag rfl] at q;have:=af i1 _ w U (h.Kc i1 X d1 K H g) k t;have:=ab V k q;omega
    ·obtain⟨au,ao⟩:=far y O d2 C p W e2;rw[ae ao] at q;exact h.dj i1 y X O d1 d2 K H C p g au U V u k t q
theorem kJ (n k:Nat):(Array.replicate n false).getD k false=false:=by
 rw[cV,Array.getElem?_replicate];split<;>rfl
theorem qV (n:Nat):∀k,k<=n->left (Array.replicate n false) k=k
 |0,_=>rfl
 |k+1,h=>by
  simp only[left];rw[qV n k oA,kJ];simp
theorem DK {id:Nat} {a:Act} {w:World} (q:P.follows .mixedOrders=true) (c:oa .any ops n1 N=true) (m:N<=a.tmps.size) (E:Array Bool) (h:E.size=ops.size) (l:∀i,i<ops.size->E.getD i false=decide (i<n1))
  (r:∀i v w w',Below w.heap.size w w'->R i v w->R i v w') (p:∀i v w,F i=true->R i v w->∀k,v.ownBlock=some k->k<w.heap.size)
  (u:∀i o,i<n1->ops[i]? =some o->∀f b w',Hd ops n1 F R w.drew a f b w'->(∀e∈o.after,Region.binds .any e=true->f.getD e.on false=true)->o.wp P b w' (fun g w2=>∃v,g=b.put o.dst v∧R i v w2∧Below w'.heap.size w' w2∧(F i=true->∀k,v.ownBlock=some k->w'.heap.size<=k)) Q)
  (n:∀b w',Hd ops n1 F R w.drew a E b w'->wpAny P .any ops Q (ops.size - n1) E b w'):(Code.region id ops true).wp P Q a w:=by
 have t:n1<=ops.size:=by
  unfold oa at c;rw[am] at c;simpa using c.1
 refine wp_region_any q ?_;have:=vI c m E h l r p u n n1 (Array.replicate ops.size false) a w.drew (qV ops.size n1 t)
  ⟨oS,fun i _=>kJ _ _,af _ _,rfl,rfl,fun i o d _ _ hl=>(by rw[kJ] at hl;cases hl),fun s _=>rfl,fun i j o y d x _ _ _ _ hl=>(by rw[kJ] at hl;cases hl)⟩
 rw[show n1+(ops.size - n1)=ops.size by omega] at this;exact this
end
