/- Qaw -/
import Derived.Test.YtaejnmmpddbbjaaGreatDoorQav
set_option maxRecDepth 100000
set_option maxHeartbeats 16000000
namespace Go.Proofs.YtaejnmmpddbbjaaGreatDoor
namespace Wd
open Go.RowKit Mem Bw Nums Mmu
theorem Cq {x:Int} {l:List Int} (h:inB x l=true):x∈l:=by
 refine dh fun e=>?_;have:=my e;unfold inB at h;rw[this] at h
 cases h
theorem EV {p:PW} {t:Nat} (h:inB t p.IC=true):∃c,p.co c=t:=by
 obtain⟨c,a,e⟩:=dY (Cq h);exact⟨c,by show p.IC.getD c (-1)=t;rw[aa,ac a];exact e⟩
theorem TkQ.prio {p:PW} (x:TkQ Nbd p) {t:Nat} (f:p.k t=6) (d:t<p.IA.length) (b:∀i,(t:Int)∉p.re i) (v:Int):TkQ Nbd (p.task t 10 v):=by
 have w:=x.wp f id;have e:∀j,j≠10->(p.task t 10 v).t t j=p.t t j:=fun j q=>by rw[gi d,ae (fun y=>q y.2)]
 refine x.ch t (fun _=>rfl) (fun n r j _=>by rw[gi d,ae (fun y=>r y.1)]) f (fun _ _=>Iff.rfl) (fun _ _ _=>Iff.rfl) (fun _ _ _=>Iff.rfl) (fun _ _ _ _=>Iff.rfl) x.c0 x.lu x.ru x.bt (.inr ⟨id,fun g=>?_,fun g=>?_,fun a g=>?_,fun a m l o=>?_,fun i g=>absurd g (b i),fun c g=>?_,fun g=>?_⟩)
 ·rw[e 9 oD] at g;rw[e 14 oD];exact w.a1 g
 ·rw[e 9 oD] at g ⊢;rw[e 14 oD];exact w.la g
 ·rw[e 9 oD,e 14 oD];exact w.ln a g
 ·rw[e 9 oD];by_cases h:m=t
  ·rw[h,e 9 oD]
  ·rw[gi d,ae (fun y=>h y.1)];exact w.lw a m l o
 ·rw[e 9 oD,e 18 oD];exact⟨(w.cr c g).1,(w.cr c g).2.1,b _⟩
 ·rw[e 9 oD] at g;rw[e 18 oD];exact .inr ((w.rq g).resolve_left (b _))
theorem AP {p:PW} {b:Int} (h:0<=b∧b<=3):fOk p 10 b=true:=by
 unfold fOk;rw[ae oA,ae oA,ah oA];exact aA h
theorem Tk.JQ {p:PW} (x:Tk Nbd p) {t:Nat} (f:p.k t=6) {b:Int} (r:0<=b∧b<=3):Tk Nbd (rkP p t b):=by
 have d:=x.tl f;unfold rkP;rw[af];split
 ·rename_i e;have y:Tk (Hnd t) {p with lines:=lvs t p.lines,ready:=lvs t p.ready,IC:=p.IC.map (noT t)}:=x.Jx (B:=p.bits) (x.q.JP f);have z:=((y.Js f (k:=10) (v:=b) (AP r) oD (.inl rfl) oA).at' (-1));have m:(((({p with lines:=lvs t p.lines,ready:=lvs t p.ready,IC:=p.IC.map (noT t)}:PW).task t 10 b).task t 14 (-1)).t t 9)=1:=by
   rw[gi (by rw[ap];exact d),ae oA,gi (p:={p with lines:=lvs t p.lines,ready:=lvs t p.ready,IC:=p.IC.map (noT t)}) d,ae oA];exact e.1
  have A:=z.JS (v:=1) oD oA oD oA;have h:t<((({p with lines:=lvs t p.lines,ready:=lvs t p.ready,IC:=p.IC.map (noT t)}:PW).task t 10 b).task t 14 (-1)).IA.length:=by rw[ap,ap];exact d
  have s:t<(({p with lines:=lvs t p.lines,ready:=lvs t p.ready,IC:=p.IC.map (noT t)}:PW).task t 10 b).IA.length:=by rw[ap];exact d
  have u:=A.JB (by rw[gi h,ah ⟨rfl,rfl⟩]) (by rw[gi h,ae oA,gi s,ah ⟨rfl,rfl⟩]);have l:∀j,j≠9->j≠14->(((({p with lines:=lvs t p.lines,ready:=lvs t p.ready,IC:=p.IC.map (noT t)}:PW).task t 10 b).task t 14 (-1)).task t 9 1).t t j=(p.task t 10 b).t t j:=fun j C D=>by
   rw[gi h,ae oA,gi s,ae oA];rfl
  rw[mW (l 18 oD oD) (l 10 oD oD)] at u;exact u
 ·rename_i e;refine⟨x.lf.of,x.a.Js d f (AP r),x.o.to (fun n=>by rw[gi d,ae oA]) (fun n=>by rw[gi d,ae oA]),x.q.prio f d (fun i hi=>?_) b⟩;obtain⟨_,_,m,_,_,w,_⟩:=x.q.inr hi
  cases hx:inB t p.IC with
  |true=>obtain⟨c,g⟩:=EV hx;exact w c g
  |false=>exact e ⟨m,hx⟩
theorem TkO.stop {p q:PW} (x:TkO p) (t:Nat) (b:∀n,q.t n 17=if p.t n 17=t then -1 else p.t n 17) (e9:∀n,q.t n 9=if n=t then 0 else p.t n 9):TkO q:=by
 have d:∀n (u:Nat),q.t n 17=u->p.t n 17=u∧u≠t:=fun n u h=>by
  rw[b] at h;split at h<;>omega
 refine⟨fun n=>?_,fun u a=>?_,fun n m u j k=>x.ij n m u (d n u j).1 (d m u k).1⟩
 ·rw[b];split
  ·exact .inl rfl
  ·rename_i e;rcases x.ow n with g|⟨u,c,f,i⟩
   ·exact .inl g
   ·refine .inr ⟨u,c,by rw[e9,ae (fun y=>e (by rw[c,y]))];exact f,?_⟩;rw[e9];split
    ·decide
    ·exact i
 ·rw[e9] at a;split at a
  ·cases a
  ·rename_i e;obtain⟨n,l⟩:=x.ak u a;exact⟨n,by rw[b,ae oA];exact l⟩
theorem GY {p:PW} {t:Nat} (n j:Nat):(p.IA.map (nOw t)).getD n bl j=if j=17∧p.t n 17=t then -1 else p.t n j:=by
 have e:(p.IA.map (nOw t)).getD n bl=nOw t (p.t n):=by
  show _=nOw t (p.IA.getD n bl)
  rw[aa,aa,cW]
  cases p.IA[n]? with
  |none=>exact (ae (show ¬bl 17=t from by show ¬(-1:Int)=t;omega)).symm
  |some f=>rfl
 rw[e];unfold nOw;by_cases h:p.t n 17=t
 ·rw[ah h];show (if j=17 then (-1:Int) else p.t n j)=_
  by_cases a:j=17
  ·rw[ah a,ah ⟨a,h⟩]
  ·rw[ae a,ae (fun y=>a y.1)]
 ·rw[ae h,ae (fun y=>h y.2)]
theorem Ic {p:PW} {t:Nat} (a:t<p.IA.length) (n j:Nat):(stP p t).t n j=if n=t∧j=14 then -1 else if n=t∧j=9 then 0 else if j=17∧p.t n 17=t then -1 else p.t n j:=by
 unfold stP;rw[gi (by rw[ap];simpa using a),gi (by simpa using a)];split
 ·rfl
 ·split
  ·rfl
  ·exact GY n j
theorem Tk.stop {p:PW} (x:Tk Nbd p) {t:Nat} (f:p.k t=6):Tk Nbd (stP p t):=by
 have h:=x.tl f;have T:=Ic (p:=p) h;have hl:(stP p t).IA.length=p.IA.length:=by unfold stP;rw[ap,ap];simp
 refine⟨x.lf.of (e6:=hl) (e7:=by show (lvs t p.lines).length=_;simp[lvs]) (e9:=by show (lvs t p.ready).length=_;simp[lvs]) (e2:=by show (p.IC.map _).length=_;simp),⟨fun n c j d=>?_,fun n c j d=>?_⟩,x.o.stop t (fun n=>by rw[T,ae oA,ae oA];simp) (fun n=>by rw[T,ae oA];simp),?_⟩
 ·have g:n≠t:=fun e=>c (e▸f);have b:=x.a.no n c;rw[T,ae (fun y=>g y.1),ae (fun y=>g y.1),b 17 oD,ae (fun y=>by have:(-1:Int)=t:=y.2;omega)];exact b j d
 ·rw[T,qg (q:=stP p t) (p:=p) rfl (by show (p.IC.map _).length=_;simp)];split
  ·rename_i e;rw[e.2];rfl
  ·split
   ·rename_i e;rw[e.2];rfl
   ·split
    ·rename_i e;rw[e.1];rfl
    ·exact x.a.ok n c j d
 ·exact ((x.q.JP f).to (q:=stP p t) rfl (fun n c j d=>by
   rw[T,ae (fun y=>c y.1),ae (fun y=>c y.1),ae oA]) rfl rfl rfl rfl).rest (.inl (by rw[T,ae oA,ah ⟨rfl,rfl⟩])) (by rw[T,ah ⟨rfl,rfl⟩])
theorem Tk.off {p:PW} (x:Tk Nbd p) {c t:Nat} (a:p.co c=t):Tk (Hnd t) {p with IC:=p.IC.map (noT t)}:=x.Jx (L:=p.lines) (B:=p.bits) (R:=p.ready) (x.q.J8 a)
theorem Tk.JG {p:PW} (x:Tk Nbd p) {c t a:Nat} {s:Int} (d:p.co c=t) (w:0<=s∧s<=6) (n:s≠5) (r:a<p.lines.length) (v:pl s≠0) (hk:p.k a=pl s) (u:p.bi a=0) (A:∀m:Nat,(m:Int)∈p.li a->(s=4↔p.t m 9=4)) (j:s=4->p.t t 17= -1):Tk Nbd (ssP p t a s):=by
 obtain⟨_,o,D,_⟩:=x.q.inc d;have h:=x.tl o;have i:t<({p with IC:=p.IC.map (noT t)}:PW).IA.length:=h;have b:t<(({p with IC:=p.IC.map (noT t)}:PW).task t 9 s).IA.length:=by rw[ap];exact h
 have y:=((x.off d).JS w (show p.t t 9≠5 by omega) n j).at' a;have e9:((({p with IC:=p.IC.map (noT t)}:PW).task t 9 s).task t 14 a).t t 9=s:=by rw[gi b,ae oA,gi i,ah ⟨rfl,rfl⟩]
 refine y.Jx (L:=p.lines.set a (p.li a++[(t:Int)])) (B:=p.bits) (R:=p.ready) (C:=p.IC.map (noT t)) (y.q.line r (by rw[e9];exact v) (by rw[gi b,ah ⟨rfl,rfl⟩]) (by rw[e9];exact hk) u (fun m f=>?_)) (e7:=by simp;rfl);rw[e9];have g:m≠t:=fun e=>y.q.hl rfl |>.l a (e▸f)
 rw[gi b,ae (fun z=>g z.1),gi i,ae (fun z=>g z.1)];exact A m f
theorem Tk.hand {p:PW} (x:Tk Nbd p) {d u:Nat} {l:List Int} (e:p.li d=(u:Int)::l) {b v:Int} (f:0<=b∧b<=65535) (m:0<=v∧v<=65535):Tk Nbd (wdP p d u l b v):=by
 have i:(u:Int)∈p.li d:=by rw[e];exact cP ..
 obtain⟨_,a,h,_⟩:=x.q.inl i;have c:=x.tl a;have y:Tk (Hnd u) {p with lines:=p.lines.set d l}:=x.Jx (B:=p.bits) (R:=p.ready) (C:=p.IC) (x.q.front e);have n:=((y.at' (-1)).Jn a (k:=1) oD f).Jn a (k:=2) oD m;have T:∀j,j≠14->j≠1->j≠2->(((frP p d u l).task u 1 b).task u 2 v).t u j=p.t u j:=fun j o r s=>by
  unfold frP;rw[gi (by rw[ap,ap];exact c),ae oA,gi (by rw[ap];exact c),ae oA,gi (p:={p with lines:=p.lines.set d l}) c,ae oA]
 have z:=Tk.I4 (p:=((frP p d u l).task u 1 b).task u 2 v) n (by rw[T 9 oD oD oD];exact fun g=>h (by rw[g];rfl));rw[mW (T 18 oD oD oD) (T 10 oD oD oD)] at z;exact z
theorem TkO.ask {p q:PW} (x:TkO p) {t u:Nat} (r:u≠t) (i:p.t t 9≠5) (o:p.t u 17= -1) (l:p.t u 9≠4) (c:∀n,q.t n 17=if n=u then (t:Int) else p.t n 17) (e9:∀n,q.t n 9=if n=t then 5 else p.t n 9):TkO q:=by
 have no:∀n,p.t n 17≠t:=fun n e=>(x.ow n).elim (fun g=>oA) fun ⟨v,h,d,_⟩=>i (by rwa [show t=v by omega]);refine⟨fun n=>?_,fun w f=>?_,fun n m w a b=>?_⟩
 ·rw[c];split
  ·rename_i e;exact .inr ⟨t,rfl,by rw[e9,ah rfl],by rw[e9,ae oA,e];exact l⟩
  ·rcases x.ow n with g|⟨v,h,d,k⟩
   ·exact .inl g
   ·refine .inr ⟨v,h,by rw[e9,ae (fun (y:v=t)=>i (y▸d))];exact d,?_⟩;rw[e9];split
    ·decide
    ·exact k
 ·rw[e9] at f;split at f
  ·rename_i e;exact⟨u,by rw[c,ah rfl,e]⟩
  ·obtain⟨n,j⟩:=x.ak w f;exact⟨n,by rw[c,ae (fun y=>by rw[y] at j;omega)];exact j⟩
 ·rw[c] at a b;split at a<;>split at b
  ·omega
  ·exact absurd (b.trans a.symm) (no m)
  ·exact absurd (a.trans b.symm) (no n)
  ·exact x.ij n m w a b
theorem Tk.ask {p:PW} {t u:Nat} (x:Tk (Hnd t) p) (b:p.k u=6) (l:u≠t) (h:p.t t 9≠5) (f:p.t u 17= -1) (g:p.t u 9≠4) (e:p.t t 14= -1):Tk Nbd ((p.task t 9 5).task u 17 t):=by
 have c:=x.tl x.hh;have d:=x.tl b;have T:∀n j,((p.task t 9 5).task u 17 t).t n j=if n=u∧j=17 then (t:Int) else if n=t∧j=9 then 5 else p.t n j:=fun n j=>by rw[gi (by rw[ap];exact d),gi c]
 refine⟨x.lf.of (e6:=by rw[ap,ap]),(x.a.Js c x.hh (k:=9) (v:=5) rfl).Js (by rw[ap];exact d) b (k:=17) rfl,x.o.ask l h f g (fun n=>by rw[T];simp) (fun n=>by rw[T,ae oA];simp),?_⟩;exact (x.q.to (q:=(p.task t 9 5).task u 17 t) rfl (fun n i j m=>by rw[T,ae oA,ae (fun y=>i y.1)]) rfl rfl rfl rfl).rest (.inr (by rw[T,ae oA,ah ⟨rfl,rfl⟩])) (by rw[T,ae oA,ae oA];exact e)
theorem Tk.same {h:Nat->Prop} {p q:PW} (x:Tk h p) (lf:LF q) (e1:q.kinds=p.kinds:=by rfl) (e2:q.IA=p.IA:=by rfl) (b:q.lines=p.lines:=by rfl) (e4:q.bits=p.bits:=by rfl) (e5:q.IC=p.IC:=by rfl) (e6:q.ready=p.ready:=by rfl):Tk h q:=by
 have t:∀n,q.t n=p.t n:=fun n=>by show q.IA.getD n bl=_;rw[e2]
 exact⟨lf,x.a.to e1 e2 (by rw[e5]),x.o.to (fun n=>by rw[t]) (fun n=>by rw[t]),x.q.to e1 (fun n _ j _=>by rw[t]) b e4 e6 e5⟩
theorem Ed {p:PW} (h:1<=p.IC.length):∀j,fOk p j (bl j)=true
 |0|1|2|3|4|5|6|7|8|9|10|11|12|13|14|15|16|17|19=>rfl
 |18=>by show dH 0 ((p.IC.length:Int) - 1) 0=true;exact aA oA
 |n+20=>by
  unfold fOk;rw[ae oA,ae oA,ae oA,ae oA,ae oA,ae oA,ae oA]
theorem Ci {p q:PW} (c:q.IC.length=p.IC.length) {j:Nat} {v:Int} (h:fOk p j v=true) (d:∀K,isB p v K=true->(j=11∧K=5∨j=12∧K=4∨j=13∧K=7)->isB q v K=true):fOk q j v=true:=by
 have g:∀K,fG p v K=true->(j=11∧K=5∨j=12∧K=4∨j=13∧K=7)->fG q v K=true:=fun K a b=>by
  unfold fG at a ⊢;rw[cJ] at a ⊢;exact a.elim .inl fun a=>.inr (d K a b)
 unfold fOk at h ⊢;rw[c];split
 ·rename_i e;rwa [ah e] at h
 rename_i e;rw[ae e] at h;split
 ·rename_i e;rwa [ah e] at h
 rename_i e;rw[ae e] at h;split
 ·rename_i e;rwa [ah e] at h
 rename_i e;rw[ae e] at h;split
 ·rename_i e;rwa [ah e] at h
 rename_i e;rw[ae e] at h;split
 ·rename_i e;rw[ah e] at h;exact g 5 h (.inl ⟨e,rfl⟩)
 rename_i e;rw[ae e] at h;split
 ·rename_i e;rw[ah e] at h;exact g 4 h (.inr (.inl ⟨e,rfl⟩))
 rename_i e;rw[ae e] at h;split
 ·rename_i e;rw[ah e] at h;exact g 7 h (.inr (.inr ⟨e,rfl⟩))
 ·rfl
theorem Tk.kind {p:PW} (x:Tk Nbd p) {b:Nat} {k:Int} (G:b<p.kinds.length) (b0:∀j,j<20->p.t b j=bl j) (I:∀n,p.k n=6->p.t n 11≠b∧p.t n 12≠b∧p.t n 13≠b) (hl:p.li b=[]) (hB:p.bi b=0):Tk Nbd {p with kinds:=p.kinds.set b k}:=by
 have K:∀n,PW.k {p with kinds:=p.kinds.set b k} n=if n=b then k else p.k n:=fun n=>dz G k 0 n
 have b9:=b0 9 oD;have D:∀n,p.k n=6->n≠b->PW.k {p with kinds:=p.kinds.set b k} n=6:=fun n h e=>by rw[K,ae e];exact h
 have B:∀n,PW.k {p with kinds:=p.kinds.set b k} n=6->n≠b->p.k n=6:=fun n h e=>by rw[K,ae e] at h;exact h
 refine⟨x.lf.of,⟨fun n u j A=>?_,fun n u j A=>?_⟩,x.o.to (fun _=>rfl) (fun _=>rfl),⟨fun n u=>u.elim,fun n w _ l=>?_,fun n w _ l=>?_,fun a z C=>?_,x.q.lu,x.q.lw,fun a=>?_,fun i z C=>?_,x.q.ru,fun c=>?_,fun n w _ l=>?_⟩⟩
 ·by_cases e:n=b
  ·rw[e];exact b0 j A
  ·rw[K,ae e] at u;exact x.a.no n u j A
 ·by_cases e:n=b
  ·show fOk _ j (p.t n j)=true
   rw[e,b0 j A];exact Ed (p:={p with kinds:=p.kinds.set b k}) x.lf.c1 j
  ·have E:=B n u e;obtain⟨J,M,N⟩:=I n E;show fOk {p with kinds:=p.kinds.set b k} j (p.t n j)=true
   refine Ci (q:={p with kinds:=p.kinds.set b k}) (p:=p) rfl (x.a.ok n E j A) fun L a c=>?_;obtain⟨f,e1,e2,F⟩:=fJ a;have H:f≠b:=fun g=>by
    rw[g] at e1;rcases c with ⟨rfl,_⟩|⟨rfl,_⟩|⟨rfl,_⟩
    ·exact J e1
    ·exact M e1
    ·exact N e1
   rw[e1,lp (p:={p with kinds:=p.kinds.set b k}) (by show f<(p.kinds.set b k).length;simpa using e2),K,ae H,F];exact beq_self_eq_true _
 ·by_cases e:n=b
  ·show p.t n 14= -1
   rw[e];exact b0 14 oD
  ·exact x.q.a1 n (B n w e) id l
 ·have e:n≠b:=fun e=>l (by show pl (p.t n 9)=0;rw[e,b9];rfl);obtain⟨a,r,s,m⟩:=x.q.la n (B n w e) id l;refine⟨a,r,?_,m⟩;rw[K,ae]
  ·exact s
  ·intro y;rw[y,hl] at m
   cases m
 ·obtain⟨n,r,s,m,d,v⟩:=x.q.ln a z C;exact⟨n,r,s,D n m (fun e=>d (by rw[e,b9];rfl)),d,v⟩
 ·by_cases e:a=b
  ·left;show p.bi a=0;rw[e];exact hB
  ·rcases x.q.bt a with g|g
   ·exact .inl g
   ·exact .inr ⟨by rw[K,ae e];exact g.1,g.2⟩
 ·obtain⟨n,r,s,m,d,v⟩:=x.q.rd i z C;exact⟨n,r,s,D n m (fun e=>by rw[e,b9] at d;cases d),d,v⟩
 ·rcases x.q.cr c with g|⟨n,r,s,m,d,v⟩
  ·exact .inl g
  ·exact .inr ⟨n,r,s,D n m (fun e=>by rw[e,b9] at d;cases d),d,v⟩
 ·have e:n≠b:=fun e=>by have l:p.t n 9=1:=l;rw[e,b9] at l;cases l
  exact x.q.rq n (B n w e) id l
theorem Tk.blank {p:PW} (x:Tk Nbd p) {b:Nat} (c:p.k b≠6):∀j,j<20->p.t b j=bl j:=x.a.no b c
theorem Tk.I9 {p:PW} (x:Tk Nbd p) {b:Nat} (h:p.k b≠7∧p.k b≠8):p.li b=[]∧p.bi b=0:=by
 refine⟨List.eq_nil_iff_forall_not_mem.2 fun z f=>?_,(x.q.bt b).elim id fun g=>absurd g.1 h.2⟩;obtain⟨n,rfl,d,e,c,i⟩:=x.q.ln b z f;obtain⟨a,e1,e2,_⟩:=x.q.la n e d c;obtain rfl:a=b:=oA;unfold pl at e2 c;split at e2
 ·exact h.1 e2
 ·split at e2
  ·exact h.2 e2
  ·simp_all
theorem Tk.refs {p:PW} (x:Tk Nbd p) {n:Nat} (b:p.k n=6) {f:Nat}:(p.t n 11=f->p.k f=5)∧(p.t n 12=f->p.k f=4)∧(p.t n 13=f->p.k f=7):=by
 have g:∀v K,fG p v K=true->v=(f:Int)->p.k f=K:=fun v K a e=>by
  unfold fG at a;rw[cJ] at a;rcases a with a|a
  ·have:=eq_of_beq a;omega
  ·obtain⟨c,e1,_,d⟩:=fJ a
   rwa [show f=c by omega]
 exact⟨g _ _ (x.a.ok n b 11 oD),g _ _ (x.a.ok n b 12 oD),g _ _ (x.a.ok n b 13 oD)⟩
theorem Gc {p:PW} {c:Nat} (b:c=11∨c=12∨c=13) (f n j:Nat):(fgP c p f).t n j=if j=c∧p.t n c=f then -1 else p.t n j:=by
 have e:(fgP c p f).t n=fg1 c f (p.t n):=by
  show (p.IA.map (fg1 c f)).getD n bl=fg1 c f (p.IA.getD n bl)
  rw[aa,aa,cW]
  cases p.IA[n]? with
  |none=>
   refine (ae (show ¬bl c=f from ?_)).symm;rcases b with rfl|rfl|rfl<;>(show ¬(-1:Int)=f;omega)
  |some g=>rfl
 rw[e];unfold fg1;by_cases h:p.t n c=f
 ·rw[ah h];show (if j=c then (-1:Int) else p.t n j)=_
  by_cases a:j=c
  ·rw[ah a,ah ⟨a,h⟩]
  ·rw[ae a,ae (fun y=>a y.1)]
 ·rw[ae h,ae (fun y=>h y.2)]
theorem Tk.fg {p:PW} (x:Tk Nbd p) {c:Nat} (g:c=11∨c=12∨c=13) (f:Nat):Tk Nbd (fgP c p f):=by
 have T:=fun n j=>Gc (p:=p) g f n j;refine⟨x.lf.of (e6:=by show (p.IA.map _).length=_;simp),⟨fun n h j d=>?_,fun n h j d=>?_⟩,x.o.to (fun n=>by rw[T,ae oA]) (fun n=>by rw[T,ae oA]),x.q.to rfl (fun n _ j d=>by rw[T,ae oA]) rfl rfl rfl rfl⟩
 ·have b:=x.a.no n h;rw[T,ae,b j d];rintro⟨rfl,e⟩;rw[b j d] at e;rcases g with rfl|rfl|rfl<;>(have e:(-1:Int)=f:=e;omega)
 ·rw[T,qg (q:=fgP c p f) (p:=p) rfl rfl];split
  ·rename_i e;rw[e.1];rcases g with rfl|rfl|rfl<;>rfl
  ·exact x.a.ok n h j d
theorem rY:∀(l:List Int) (p q:PW),p.IA=q.IA->(l.foldl ds1 p).IA=(l.foldl ds1 q).IA
 |[],_,_,h=>h
 |z::l,p,q,h=>by
  rw[ey,ey];refine rY l _ _ ?_;unfold ds1 PW.task;simp only[h]
theorem Tk.Kd {f:Nat}:∀(l:List Int) {p:PW},Tk Nbd p->p.li f=l->Tk Nbd {l.foldl ds1 p with lines:=p.lines.set f []}
 |[],p,x,e=>by
  have h:p.lines.set f []=p.lines:=by
   rcases cU f p.lines.length with y|y
   ·have e2:p.lines[f]=[]:=by rw[<-e];show _=p.lines.getD f [];rw[aa,ac y];rfl
    rw[<-e2,cF]
   ·exact List.set_eq_of_length_le y
  show Tk Nbd {p with lines:=p.lines.set f []}
  rw[h];exact x
 |z::l,p,x,e=>by
  have i:z∈p.li f:=by rw[e];exact cP ..
  obtain⟨u,rfl,_⟩:=x.q.ln f z i;obtain⟨_,m,r,_⟩:=x.q.inl i;have c:=x.tl m;have n:f<p.lines.length:=by
   rcases cU f p.lines.length with y|y
   ·exact y
   ·have:p.li f=[]:=by show p.lines.getD f []=[];rw[aa,aH y];rfl
    rw[this] at e;cases e
  have y:Tk (Hnd u) {p with lines:=p.lines.set f l}:=x.Jx (B:=p.bits) (R:=p.ready) (C:=p.IC) (x.q.front e);have s:p.t u 9≠5:=fun g=>r (by rw[g];rfl);have b:=(y.JS (v:=0) oD s oD (by intro g;cases g)).at' (-1);have d:u<(({p with lines:=p.lines.set f l}:PW).task u 9 0).IA.length:=by rw[ap];exact c
  have w:Tk Nbd ((({p with lines:=p.lines.set f l}:PW).task u 9 0).task u 14 (-1)):=⟨b.lf,b.a,b.o,b.q.rest (.inl (by rw[gi d,ae oA,gi (p:={p with lines:=p.lines.set f l}) c,ah ⟨rfl,rfl⟩])) (by rw[gi d,ah ⟨rfl,rfl⟩])⟩;have j:=Tk.Kd l w (by show (p.lines.set f l).getD f []=l;rw[qD n,ah rfl]);rw[fV] at j ⊢;rw[ey,rY l (ds1 p (u:Int)) ((({p with lines:=p.lines.set f l}:PW).task u 9 0).task u 14 (-1)) (by unfold ds1;rw[af];rfl)];have e2:(p.lines.set f l).set f []=p.lines.set f []:=eC ..;have k:Tk Nbd {p with IA:=(l.foldl ds1 ((({p with lines:=p.lines.set f l}:PW).task u 9 0).task u 14 (-1))).IA,lines:=(p.lines.set f l).set f []}:=j;rw[e2] at k;exact k
theorem Tk.ds {p:PW} (x:Tk Nbd p) {f:Nat} (c:f<p.lines.length):Tk Nbd (dsP p f)∧(dsP p f).li f=[]∧(dsP p f).bi f=0:=by
 have b:f<p.bits.length:=by rw[x.lf.bits, <-x.lf.lines];exact c
 have y:=x.Kd _ rfl (f:=f);have e:=fV (p.li f) p;have d:dsP p f={(p.li f).foldl ds1 p with lines:=p.lines.set f [],bits:=p.bits.set f 0}:=rfl;have g:Tk Nbd {(p.li f).foldl ds1 p with lines:=p.lines.set f [],bits:=p.bits.set f 0}:=by
  rw[e] at y ⊢;exact y.Jx (B:=p.bits.set f 0) (L:=p.lines.set f []) (R:=p.ready) (C:=p.IC) (y.q.bit (a:=f) (v:=0) b (.inl rfl)) (e7:=by simp) (e8:=by simp)
 rw[d];exact⟨g,by show (p.lines.set f []).getD f []=[];rw[qD c,ah rfl],by show (p.bits.set f 0).getD f 0=0;rw[dz b,ah rfl]⟩
theorem TkO.last {p q:PW} (x:TkO p) (t:Nat) (b:∀n,q.t n 17=if n=t∨p.t n 17=t then -1 else p.t n 17) (e9:∀n,q.t n 9=if n=t∨p.t t 17=n then 0 else p.t n 9):TkO q:=by
 have f:∀n (u:Nat),q.t n 17=u->p.t n 17=u∧n≠t∧u≠t:=fun n u h=>by
  rw[b] at h;split at h
  ·omega
  ·rename_i e;exact⟨h,fun y=>e (.inl y),fun y=>e (.inr (by rw[h,y]))⟩
 refine⟨fun n=>?_,fun u a=>?_,fun n m u k l=>x.ij n m u (f n u k).1 (f m u l).1⟩
 ·rw[b];split
  ·exact .inl rfl
  ·rename_i e;rcases x.ow n with g|⟨u,c,i,j⟩
   ·exact .inl g
   ·refine .inr ⟨u,c,?_,?_⟩
    ·rw[e9,ae]
     ·exact i
     ·rintro (y|y)
      ·exact e (.inr (by rw[c,y]))
      ·exact e (.inl (x.ij n t u c y))
    ·rw[e9];split
     ·decide
     ·exact j
 ·rw[e9] at a;split at a
  ·cases a
  ·rename_i e;obtain⟨n,d⟩:=x.ak u a;refine⟨n,?_⟩;rw[b,ae]
   ·exact d
   ·rintro (y|y)
    ·rw[y] at d;exact e (.inr d)
    ·exact e (.inl oA)
theorem Hw {p:PW} {t:Nat} (a:t<p.IA.length) (f:p.t t 17= -1∨∃u:Nat,p.t t 17=u∧u<p.IA.length) (n j:Nat):(etP p t).t n j=if n=t then bl j else if j=9∧p.t t 17=n then 0 else if j=17∧p.t n 17=t then -1 else p.t n j:=by
 have hl:(stP p t).IA.length=p.IA.length:=by unfold stP;rw[ap,ap];simp
 have T:=Ic (p:=p) a;show ((etP p t).IA.getD n bl) j=_
 have d:p.IA.getD t bl 17=p.t t 17:=rfl;unfold etP;rw[d];rcases f with h|⟨u,h,i⟩
 ·rw[ah h];show (((stP p t).IA.set t bl).getD n bl) j=_
  rw[dz (by rw[hl];exact a),h];by_cases e:n=t
  ·rw[ah e,ah e]
  ·rw[ae e,ae e,ae oA];have:=T n j;rw[ae (fun y=>e y.1),ae (fun y=>e y.1)] at this;exact this
 ·rw[ae oA,h,af];show ((((stP p t).task u 9 0).IA.set t bl).getD n bl) j=_
  rw[dz (by rw[ap,hl];exact a)];by_cases e:n=t
  ·rw[ah e,ah e]
  ·rw[ae e,ae e];have b:=gi (p:=stP p t) (t:=u) (by rw[hl];exact i) 9 0 n j;have c:=T n j;rw[ae (fun y=>e y.1),ae (fun y=>e y.1)] at c;rw[c] at b;refine b.trans ?_;by_cases g:n=u∧j=9
   ·rw[ah g,ah oA]
   ·rw[ae g,ae (show ¬(j=9∧(u:Int)=n) by omega)]
theorem EF (p:PW) (t:Nat):(etP p t).IA.length=p.IA.length:=by
 have hl:(stP p t).IA.length=p.IA.length:=by unfold stP;rw[ap,ap];simp
 unfold etP;split
 ·show ((stP p t).IA.set t bl).length=_;rw[au];exact hl
 ·show (((stP p t).task _ 9 0).IA.set t bl).length=_;rw[au,ap];exact hl
theorem vW (p:PW) (t:Nat):(etP p t).kinds=p.kinds∧(etP p t).lines=lvs t p.lines∧(etP p t).ready=lvs t p.ready∧(etP p t).IC=p.IC.map (noT t)∧(etP p t).bits=p.bits∧(etP p t).IE=p.IE∧(etP p t).IB=p.IB∧(etP p t).IF=p.IF∧(etP p t).ID=p.ID:=by
 unfold etP;split<;>exact⟨rfl,rfl,rfl,rfl,rfl,rfl,rfl,rfl,rfl⟩
theorem Tk.et {p:PW} (x:Tk Nbd p) {t:Nat} (A:p.k t=6):Tk Nbd (etP p t):=by
 have f:=x.tl A;have C:p.t t 17= -1∨∃u:Nat,p.t t 17=u∧u<p.IA.length:=(x.o.ow t).elim .inl fun ⟨u,a,b,_⟩=>.inr ⟨u,a,by
  rcases cU u p.IA.length with y|y
  ·exact y
  ·have:p.t u=bl:=by show p.IA.getD u bl=bl;rw[aa,aH y];rfl
   rw[this] at b;cases b⟩
 have T:=Hw f C;obtain⟨e1,e2,l,e4,e5,e6,e7,e8,e9⟩:=vW p t;have c1:=x.lf.c1;refine⟨x.lf.of (by rw[e1]) (by rw[e4];simp) (by rw[e8]) (by rw[e6]) (by rw[e7]) (EF p t) (by rw[e2];simp[lvs]) (by rw[e5]) (by rw[l];simp[lvs]) (by rw[e9]),⟨fun n c j d=>?_,fun n c j d=>?_⟩,x.o.last t (fun n=>?_) (fun n=>?_),?_⟩
 ·have c:p.k n≠6:=by rw[show p.k n=(etP p t).k n by show p.kinds.getD n 0=_;rw[<-e1]];exact c
  have b:=x.a.no n c;have F:n≠t:=fun e=>c (e▸A);rw[T,ae F];split
  ·rename_i e;rw[e.1];rfl
  ·split
   ·rename_i e;rw[e.1];rfl
   ·exact b j d
 ·have c:p.k n=6:=by rw[show p.k n=(etP p t).k n by show p.kinds.getD n 0=_;rw[<-e1]];exact c
  rw[T,qg (q:=etP p t) (p:=p) e1 (by rw[e4];simp)];split
  ·exact Ed c1 j
  ·split
   ·rename_i e;rw[e.1];rfl
   ·split
    ·rename_i e;rw[e.1];rfl
    ·exact x.a.ok n c j d
 ·rw[T];by_cases e:n=t
  ·rw[ah e,ah (.inl e)];rfl
  ·rw[ae e,ae oA];by_cases g:p.t n 17=t
   ·rw[ah ⟨rfl,g⟩,ah (.inr g)]
   ·rw[ae (fun y=>g y.2),ae (fun y=>y.elim e g)]
 ·rw[T];by_cases e:n=t
  ·rw[ah e,ah (.inl e)];rfl
  ·rw[ae e];by_cases g:p.t t 17=n
   ·rw[ah ⟨rfl,g⟩,ah (.inr g)]
   ·rw[ae (fun y=>g y.2),ae oA,ae (fun y=>y.elim e g)]
 ·have y:=x.q.JP A;have z:TkQ (fun n=>n=t∨False) {p with lines:=lvs t p.lines,ready:=lvs t p.ready,IC:=p.IC.map (noT t)}:=by simpa using y
  have m:∀n,n≠t->∀j,j=10∨j=14∨j=18->(etP p t).t n j=p.t n j:=fun n c j d=>by rw[T,ae c,ae oA,ae oA]
  have w:∀n,n≠t->p.t t 17≠n->(etP p t).t n 9=p.t n 9:=fun n c h=>by rw[T,ae c,ae (fun y=>h y.2),ae oA]
  have i:∀j,(etP p t).t t j=bl j:=fun j=>by rw[T,ah rfl]
  rcases C with h|⟨u,h,J⟩
  ·exact (y.to (q:=etP p t) e1 (fun n c j d=>by
    rcases d with rfl|d
    ·exact w n c oA
    ·exact m n c j d) e2 e5 l e4).rest (.inl (i 9)) (i 14)
  ·obtain⟨v,I,r,_⟩:=(x.o.ow t).resolve_left oA;obtain rfl:v=u:=oA;have D:=dh fun e=>by rw[x.a.no v e 9 oD] at r;cases r
   by_cases s:v=t
   ·exact (y.to (q:=etP p t) e1 (fun n c j d=>by
     rcases d with rfl|d
     ·exact w n c oA
     ·exact m n c j d) e2 e5 l e4).rest (.inl (i 9)) (i 14)
   ·have E:=x.q.a1 v D id (by rw[r];rfl);have G:TkQ Nbd ({p with lines:=lvs t p.lines,ready:=lvs t p.ready,IC:=p.IC.map (noT t),IA:=p.IA.set t bl}:PW):=(y.to (q:={p with lines:=lvs t p.lines,ready:=lvs t p.ready,IC:=p.IC.map (noT t),IA:=p.IA.set t bl}) rfl (fun n c j _=>by
     show ((p.IA.set t bl).getD n bl) j=_
     rw[dz f,ae c]) rfl rfl rfl rfl).rest (.inl (by show ((p.IA.set t bl).getD t bl) 9=0;rw[dz f,ah rfl];rfl)) (by show ((p.IA.set t bl).getD t bl) 14= -1;rw[dz f,ah rfl];rfl)
    have B:∀n j,PW.t {p with lines:=lvs t p.lines,ready:=lvs t p.ready,IC:=p.IC.map (noT t),IA:=p.IA.set t bl} n j=if n=t then bl j else p.t n j:=fun n j=>by
     show ((p.IA.set t bl).getD n bl) j=_
     rw[dz f];split<;>rfl
    have H:=G.J2 (t:=v) D (.inr (by rw[B,ae s];exact r));exact (H.to (q:=etP p t) e1 (fun n c j d=>by
     rw[B];by_cases e:n=t
     ·rw[e,i,ah rfl]
     ·rw[ae e];rcases d with rfl|d
      ·exact w n e (fun g=>c (by show n=v;omega))
      ·exact m n e j d) e2 e5 l e4).rest (.inl (by rw[T,ae s,ah ⟨rfl,h⟩])) (by rw[m v s 14 oS];exact E)
structure Md (D:Nat->Prop) (p:PW):Prop where
 ks:∀k∈p.kinds,0<=k∧k<=8∧k≠1
 ds:∀d∈p.IF,0<=d∧d<=3
 keys:∃r,Ky D p r
 op:Op p
 IE:kS p
 tk:Tk Nbd p
theorem Ky.JR {D:Nat->Prop} {p:PW} {r:Nat->Nat} (h:Ky D p r) {u i:Nat} (b:p.s u 0≠0) (c:r u<r i):rkC p r u<rkC p r i:=by
 have _:=h;refine (p6 _ _ _ fun x _ a=>?_).2 u (List.mem_range.2 (rF b)) ?_ ?_
 ·rw[am] at a ⊢;exact⟨a.1,aA (by have:=ay a.2;omega)⟩
 ·rw[aw oA,Bool.and_false]
 ·rw[aA c,Bool.and_true];exact bne_iff_ne.2 b
theorem Ky.Kc {D:Nat->Prop} {p:PW} {r:Nat->Nat} (h:Ky D p r):Up (rkC p r) p.IB:=
 ⟨fun i hi=>(h.em i hi).2,fun i=>(h.up i).elim .inl fun ⟨u,a,b,_,d⟩=>.inr ⟨u,a,rF b,h.JR b d⟩,fun i=>by
  have:rkC p r i<=(List.range p.IB.length).length:=List.countP_le_length;rw[List.length_range] at this;omega⟩
theorem gw {p:PW} {k x:Int}:beB p k x=false↔(k=4->x=0∨isB p (x - 32768) 3=true)∧(k=3->x=0∨isB p (x - 32768) 2=true∨isB p (x - 32768 - 16384) 2=true):=by
 unfold beB;by_cases b:k=4
 ·rw[ah b];simp only[Bool.and_eq_false_iff,cQ,bH];exact⟨fun h=>⟨fun _=>h,fun a=>oA⟩,fun h=>h.1 b⟩
 ·rw[ae b];by_cases a:k=3
  ·rw[ah a];simp only[Bool.and_eq_false_iff,cQ,bH,or_assoc];exact⟨fun h=>⟨fun c=>absurd c b,fun _=>h⟩,fun h=>h.2 a⟩
  ·rw[ae a];exact⟨fun _=>⟨fun h=>absurd h b,fun h=>absurd h a⟩,fun _=>rfl⟩
theorem pf {p q:PW} {f:Nat} {x:Int} (b:q.kinds=p.kinds.set f x) (d:f<p.kinds.length) {a k:Int} (h:isB p a k=true) (e:a≠f):isB q a k=true:=by
 obtain⟨g,rfl,e2,c⟩:=fJ h;rw[lp (by rw[b,au];exact e2),show q.k g=p.k g by show q.kinds.getD g 0=_;rw[b,dz d,ae oA],c];exact beq_self_eq_true _
theorem kS.JX {p q:PW} (h:kS p) {f:Nat} (c:f<p.kinds.length) (b:q.kinds=p.kinds.set f 0) (j:q.IE.length=p.IE.length)
  (l:∀i,i<p.IE.length->q.IE.getD i 0=0∨q.IE.getD i 0=p.IE.getD i 0∧(q.k (i/16)=3∨q.k (i/16)=4->p.k f=2∨p.k f=3->p.IE.getD i 0≠32768+f∧p.IE.getD i 0≠49152+f)):kS q:=by
 have K:∀n,q.k n=if n=f then 0 else p.k n:=fun n=>by show q.kinds.getD n 0=_;rw[b,dz c]
 refine⟨fun x t=>?_,fun i hi=>?_⟩
 ·obtain⟨i,hi,e⟩:=dY t;rw[j] at hi;have e2:q.IE.getD i 0=x:=by rw[aa,ac (by rw[j];exact hi), <-e];rfl
  rw[<-e2];rcases l i hi with g|⟨g,_⟩
  ·rw[g];decide
  ·rw[g,aa,ac hi];exact h.w _ (av hi)
 ·rw[j] at hi;have o:=gw.1 (h.e i hi);refine gw.2 ⟨fun s=>?_,fun r=>?_⟩
  ·have hk:p.k (i/16)=4:=by have:=K (i/16);split at this<;>omega
   rcases l i hi with g|⟨g,m⟩
   ·exact .inl g
   ·rw[g];refine (o.1 hk).imp_right fun a=>pf b c a fun e=>?_;obtain⟨n,e1,_,d⟩:=fJ a;have:=m (.inr s) (.inr (by rw[show f=n by omega];exact d));omega
  ·have hk:p.k (i/16)=3:=by have:=K (i/16);split at this<;>omega
   rcases l i hi with g|⟨g,m⟩
   ·exact .inl g
   ·rw[g];refine (o.2 hk).imp_right fun a=>a.elim (fun a=>.inl (pf b c a fun e=>?_)) (fun a=>.inr (pf b c a fun e=>?_))<;>
    ·obtain⟨n,e1,_,d⟩:=fJ a;have:=m (.inl r) (.inl (by rw[show f=n by omega];exact d));omega
theorem GL (p:PW) (f:Nat):etP (nkP p f) f=nkP (etP p f) f:=by
 unfold etP;rw[show (nkP p f).IA=p.IA from rfl];split<;>rfl
theorem GK (p:PW) (f:Nat):dsP (nkP p f) f=nkP (dsP p f) f:=by
 show ({(p.lines.getD f []).foldl ds1 (nkP p f) with lines:=p.lines.set f [],bits:=p.bits.set f 0}:PW)=nkP {(p.lines.getD f []).foldl ds1 p with lines:=p.lines.set f [],bits:=p.bits.set f 0} f
 rw[fV _ (nkP p f),fV _ p,rY _ (nkP p f) p rfl];rfl
theorem F3 (p:PW) (f:Int) (i:Nat) (hi:i<p.IE.length):(utP p f).IE.getD i 0=ut1 p.kinds f i (p.IE.getD i 0):=by
 show (p.IE.mapIdx (ut1 p.kinds f)).getD i 0=_
 rw[aa,List.getElem?_mapIdx,ac hi,aa,ac hi];rfl
theorem Ej {p:PW} {f:Nat} (r:f<p.kinds.length) (B:kS p) (x:Tk Nbd p) {R:PW}
  (l:R=if p.k f=2∨p.k f=3 then utP (nkP p f) f else if p.k f=4 then fgP 12 (nkP p f) f else if p.k f=5 then fgP 11 (nkP p f) f else if p.k f=6 then etP (nkP p f) f else fgP 13 (dsP (nkP p f) f) f):
  R.kinds=p.kinds.set f 0∧R.IB=p.IB∧R.IF=p.IF∧R.ID=p.ID∧kS R∧Tk Nbd R:=by
 have rk:∀n,p.k n=6->(p.t n 11=f->p.k f=5)∧(p.t n 12=f->p.k f=4)∧(p.t n 13=f->p.k f=7):=fun n h=>x.refs h;have w:∀{q:PW},q.kinds=p.kinds.set f 0->q.IE=p.IE->¬(p.k f=2∨p.k f=3)->kS q:=fun e1 e2 D=>B.JX r e1 (by rw[e2]) fun i _=>.inr ⟨by rw[e2],fun _ y=>absurd y D⟩;split at l
 ·rename_i e;subst l;have m:=x.I9 (b:=f) oA;have y:=x.kind (k:=0) r (x.blank oA) (fun n h=>⟨fun g=>by have:=(rk n h).1 g;omega,fun g=>by have:=(rk n h).2.1 g;omega,fun g=>by have:=(rk n h).2.2 g;omega⟩) m.1 m.2;refine⟨rfl,rfl,rfl,rfl,B.JX r rfl (by show (p.IE.mapIdx _).length=_;simp) fun i hi=>?_,y.same (y.lf.of (e4:=by show (p.IE.mapIdx _).length=_;simp))⟩;rw[show (utP (nkP p f) f).IE.getD i 0=ut1 (p.kinds.set f 0) f i (p.IE.getD i 0) from F3 (nkP p f) f i hi];unfold ut1;split
  ·exact .inl rfl
  ·rename_i g;refine .inr ⟨rfl,fun a _=>?_⟩;have A:=a;exact⟨fun y=>g ⟨A,.inl y⟩,fun y=>g ⟨A,.inr y⟩⟩
 rename_i e23;split at l
 ·rename_i e;subst l;have d:=x.fg (c:=12) oS f;have T:=fun n j=>Gc (p:=p) (c:=12) oS f n j;have m:=x.I9 (b:=f) oA;refine⟨rfl,rfl,rfl,rfl,w rfl rfl e23,?_⟩;exact d.kind (k:=0) r (d.blank (show p.k f≠6 by omega)) (fun n h=>⟨fun g=>by rw[T,ae oA] at g;have:=(rk n h).1 g;omega,fun g=>by
   rw[T] at g;split at g
   ·omega
   ·rename_i y;exact y ⟨rfl,g⟩,fun g=>by rw[T,ae oA] at g;have:=(rk n h).2.2 g;omega⟩) m.1 m.2
 rename_i e4;split at l
 ·rename_i e;subst l;have d:=x.fg (c:=11) oS f;have T:=fun n j=>Gc (p:=p) (c:=11) oS f n j;have m:=x.I9 (b:=f) oA;refine⟨rfl,rfl,rfl,rfl,w rfl rfl e23,?_⟩;exact d.kind (k:=0) r (d.blank (show p.k f≠6 by omega)) (fun n h=>⟨fun g=>by
   rw[T] at g;split at g
   ·omega
   ·rename_i y;exact y ⟨rfl,g⟩,fun g=>by rw[T,ae oA] at g;have:=(rk n h).2.1 g;omega,fun g=>by rw[T,ae oA] at g;have:=(rk n h).2.2 g;omega⟩) m.1 m.2
 rename_i e5;split at l
 ·rename_i e;rw[GL] at l;subst l;obtain⟨v,K,L,M,N,E,F,G,H⟩:=vW p f;have d:=x.et e;have O:(etP p f).k f=6:=by show (etP p f).kinds.getD f 0=6;rw[v];exact e
  have m:=d.I9 (b:=f) oA;refine⟨by show (etP p f).kinds.set f 0=_;rw[v],F,G,H,w (by show (etP p f).kinds.set f 0=_;rw[v]) E e23,?_⟩;have J:=x.tl e;have I:p.t f 17= -1∨∃u:Nat,p.t f 17=u∧u<p.IA.length:=(x.o.ow f).elim .inl fun ⟨u,a,b,_⟩=>.inr ⟨u,a,x.tl (dh fun e=>by rw[x.a.no u e 9 oD] at b;cases b)⟩;exact d.kind (k:=0) (by rw[v];exact r) (fun j _=>by rw[Hw J I,ah rfl]) (fun n h=>⟨fun g=>by have:=(d.refs h).1 g;omega,fun g=>by have:=(d.refs h).2.1 g;omega,fun g=>by have:=(d.refs h).2.2 g;omega⟩) m.1 m.2
 ·rename_i e6;rw[GK] at l;subst l;have hl:f<p.lines.length:=by rw[x.lf.lines];exact r
  obtain⟨d,l1,b1⟩:=x.ds hl;have s:=iV p f;have dr:=fV (p.lines.getD f []) p;have z:(dsP p f).IE=p.IE∧(dsP p f).IB=p.IB∧(dsP p f).IF=p.IF∧(dsP p f).ID=p.ID:=by
   refine⟨?_,?_,?_,?_⟩
   ·show ((p.lines.getD f []).foldl ds1 p).IE=_;rw[dr]
   ·show ((p.lines.getD f []).foldl ds1 p).IB=_;rw[dr]
   ·show ((p.lines.getD f []).foldl ds1 p).IF=_;rw[dr]
   ·show ((p.lines.getD f []).foldl ds1 p).ID=_;rw[dr]
  have kd:∀n,(dsP p f).k n=p.k n:=fun n=>by show (dsP p f).kinds.getD n 0=_;rw[s]
  have C:=d.fg (c:=13) oS f;have T:=fun n j=>Gc (p:=dsP p f) (c:=13) oS f n j;refine⟨by show (dsP p f).kinds.set f 0=_;rw[s],z.2.1,z.2.2.1,z.2.2.2,w (by show (dsP p f).kinds.set f 0=_;rw[s]) z.1 e23,?_⟩;exact C.kind (k:=0) (show f<(dsP p f).kinds.length by rw[s];exact r) (C.blank (show (dsP p f).k f≠6 by rw[kd];exact e6)) (fun n h=>⟨fun g=>by rw[T,ae oA] at g;have:=(d.refs (show (dsP p f).k n=6 from h)).1 g;rw[kd] at this;omega,fun g=>by rw[T,ae oA] at g;have:=(d.refs (show (dsP p f).k n=6 from h)).2.1 g;rw[kd] at this;omega,fun g=>by
   rw[T] at g;split at g
   ·omega
   ·rename_i y;exact y ⟨rfl,g⟩⟩) l1 b1
theorem xu {p q:PW} {f:Nat} (e:q.kinds=p.kinds.set f 0):nds q<=nds p∧(p.k f=5->nds q+1=nds p):=by
 unfold nds;rw[e];obtain⟨b,c⟩:=kY p.kinds f;refine⟨b,fun h=>c ?_⟩;have a:=iS (p:=p) (f:=f) oA;rw[ac a,yI a,h]
theorem Md.da {m f:Nat} {D:Nat->Prop} (d:∀p s,Md D p->nds p<m->p.s s 0≠0->Md D (drF m p s)∧nds (drF m p s)<=nds p):∀a p,Md D p->nds p<m->Md D (daF (drF m) f a p)∧nds (daF (drF m) f a p)<=nds p∧∀i,i<a->(daF (drF m) f a p).s (f*16+i) 0=0
 |0,p,h,_=>by rw[im];exact⟨h,aq _,fun i hi=>oA⟩
 |a+1,p,h,hn=>by
  rw[il];have g:∀q,Md D q->nds q<=nds p->q.s (f*16+a) 0=0->Md D (daF (drF m) f a q)∧nds (daF (drF m) f a q)<=nds p∧∀i,i<a+1->(daF (drF m) f a q).s (f*16+i) 0=0:=fun q c n j=>by
   obtain⟨k1,k2,k⟩:=Md.da d a q c oA;obtain⟨r,b⟩:=c.keys;refine⟨k1,oA,fun i hi=>?_⟩;by_cases e:i=a
   ·rcases (vO (qd m) (f:=f) a q b.Kc).2.2 (f*16+a) with g|g
    ·rw[e];exact g.trans j
    ·rw[e];exact g
   ·exact k i oA
  split
  ·rename_i e;exact g p h (aq _) e
  ·rename_i e;obtain⟨k1,k2⟩:=d p (f*16+a) h hn e;obtain⟨r,b⟩:=h.keys;obtain⟨m,rfl⟩:∃l,m=l+1:=⟨m - 1,oA⟩
   exact g _ k1 k2 (vP b.Kc)
theorem Md.drop:∀(m:Nat) {D:Nat->Prop} (p:PW) (s:Nat),Md D p->nds p<m->p.s s 0≠0->Md D (drF m p s)∧nds (drF m p s)<=nds p
 |0,_,_,_,_,h,_=>oA
 |m+1,D,p,s,h,d,hs=>by
  obtain⟨r,E⟩:=h.keys;have z:=E.JY hs;have U:LF (drA p s):=h.tk.lf.of (e5:=by show (hnd _ _ (p.IB.set s eS)).length=_;unfold hnd;simp);have F:=h.tk.same U;have rq:kS (drA p s):=⟨h.IE.w,h.IE.e⟩;have L:∀i,i≠s->∀k,k<6->(drA p s).s i k=p.s i k:=fun i hi k hk=>by rw[show (drA p s).s i=_ from nT p s i,ae hi,sc hk]
  have X:∀i,(drA p s).s i 0≠0->i≠s:=fun i hi e=>hi (by rw[show (drA p s).s i=_ from nT p s i,ah e];rfl);have Y:=rF hs;have G:(p.IB.getD s eS) 0=p.s s 0:=rfl;unfold drF;split
  ·rename_i c;refine⟨⟨h.ks,h.ds,⟨r,z⟩,fun n d=>?_,rq,F⟩,aq _⟩;obtain⟨i,hi⟩:=h.op n d;obtain⟨i0,i1,i2⟩:=hQ.1 hi;by_cases e:i=s
   ·subst e;rcases c with c|c
    ·exact absurd c i1
    ·unfold i5 at c;obtain⟨g,O,u⟩:=List.any_eq_true.1 c;obtain⟨j,P,rfl⟩:=dY O;rw[vg P,am,bH,bH] at u;exact⟨j,hQ.2 ⟨by rw[u.1];exact i0,by rw[u.1];exact i1,by rw[u.2];exact i2⟩⟩
   ·exact⟨i,by rw[jK (L i e 0 oD) (L i e 1 oD)];exact hi⟩
  ·rename_i c;have x:p.s s 0≠1:=fun e=>c (.inl e);have S:i5 (drA p s) (p.s s 0) (p.s s 1)=false:=by
    cases hx:i5 (drA p s) (p.s s 0) (p.s s 1) with
    |false=>rfl
    |true=>exact absurd (.inr hx) c
   obtain⟨f,e1,e2,B⟩:=fJ ((E.key s hs).is.resolve_left x);have Q:=FF (p:=drA p s) (k:=p.s s 0) (b:=f) (by rw[<-e1];exact S) z B;have T:(drA p s).k f=p.s s 0:=B;rw[show ((p.IB.getD s eS) 1).toNat=f by show (p.s s 1).toNat=f;rw[e1];simp,G, <-T];obtain⟨b1,b2,b3,b4,b5,b6⟩:=Ej (p:=drA p s) (f:=f) e2 rq F rfl;have W:Op (nkP (drA p s) f):=fun n d=>by
    have K:(nkP (drA p s) f).k n=if n=f then 0 else p.k n:=dz e2 0 0 n
    rw[K] at d;split at d
    ·exact absurd rfl d
    ·rename_i ne;obtain⟨i,hi⟩:=h.op n d;have e:i≠s:=fun e=>ne (by have:=(hQ.1 hi).2.2;rw[e,e1] at this;omega);exact⟨i,by rw[show (nkP (drA p s) f).s i=(drA p s).s i from rfl,jK (L i e 0 oD) (L i e 1 oD)];exact hi⟩
   have mk:∀R:PW,R.kinds=p.kinds.set f 0->R.IB=(drA p s).IB->R.IF=p.IF->kS R->Tk Nbd R->Md (fun n=>D n∨n=f∧p.k f=5) R:=fun R v C H I J=>
    ⟨fun k hk=>by
     rw[v] at hk;rcases aP hk with y|y
     ·exact h.ks k y
     ·rw[y];decide,by rw[H];exact h.ds,⟨r,(z.nk e2 Q).to v C⟩,fun n d=>by
     have:=W n (by show (p.kinds.set f 0).getD n 0≠0;rw[<-v];exact d);obtain⟨i,hi⟩:=this;exact⟨i,by show opn n (R.IB.getD i eS)=true;rw[C];exact hi⟩,I,J⟩
   by_cases t:(drA p s).k f=5
   ·rw[show lsF (drF m) (drA p s) ((drA p s).k f) f=daF (drF m) f 16 (fgP 11 (nkP (drA p s) f) f) by unfold lsF;rw[t];rfl];rw[ae oA,ae oA,ah t] at b1 b2 b3 b5 b6;have l:=mk _ b1 b2 b3 b5 b6;obtain⟨n1,V⟩:=xu (p:=p) (q:=fgP 11 (nkP (drA p s) f) f) b1;have Z:=V t;obtain⟨o,n4,em⟩:=Md.da (f:=f) (fun p s x M N=>Md.drop m p s x M N) 16 _ l oA;refine⟨⟨o.ks,o.ds,?_,o.op,o.IE,o.tk⟩,oA⟩;obtain⟨A,a⟩:=o.keys;refine⟨A,a.em,fun i hi=>?_,a.key,a.up,a.one,a.us,a.gp⟩;rcases a.nd i hi with g|g|g
    ·exact .inl g
    ·exact .inr g
    ·have:=em (i%16) oA;rw[show f*16+i%16=i by have:=g.1;omega] at this;exact (hi this).elim
   ·have e:lsF (drF m) (drA p s) ((drA p s).k f) f=if (drA p s).k f=2∨(drA p s).k f=3 then utP (nkP (drA p s) f) f else if (drA p s).k f=4 then fgP 12 (nkP (drA p s) f) f else if (drA p s).k f=5 then fgP 11 (nkP (drA p s) f) f else if (drA p s).k f=6 then etP (nkP (drA p s) f) f else fgP 13 (dsP (nkP (drA p s) f) f) f:=by
     unfold lsF;rw[ae t,ae t]
    rw[e];obtain⟨n1,_⟩:=xu (p:=p) b1;have l:=mk _ b1 b2 b3 b5 b6;refine⟨⟨l.ks,l.ds,?_,l.op,l.IE,l.tk⟩,n1⟩;obtain⟨A,a⟩:=l.keys;exact⟨A,a.em,fun i hi=>(a.nd i hi).elim .inl fun g=>g.elim .inr fun g=>absurd g.2 t,a.key,a.up,a.one,a.us,a.gp⟩
