/- Uau -/
import Derived.Test.YtnccmdndkmmhcaaGreatDoorUat
set_option maxRecDepth 100000
set_option maxHeartbeats 16000000
namespace Go.Proofs.YtnccmdndkmmhcaaGreatDoor
namespace Wd
open Go.RowKit Mem Bw Nums Mmu
theorem xe {x:Int} {l:List Int} (h:inB x l=true):x∈l:=by
 refine dg fun e=>?_;have:=my e;unfold inB at h;rw[this] at h
 cases h
theorem EX {p:PW} {t:Nat} (h:inB t p.IJ=true):∃c,p.co c=t:=by
 obtain⟨c,a,e⟩:=dC (xe h);exact⟨c,by show p.IJ.getD c (-1)=t;rw[aa,ac a];exact e⟩
theorem TkQ.prio {p:PW} (x:TkQ Nbd p) {t:Nat} (f:p.k t=6) (d:t<p.II.length) (b:∀i,(t:Int)∉p.re i) (v:Int):TkQ Nbd (p.task t 10 v):=by
 have w:=x.wp f id;have e:∀j,j≠10->(p.task t 10 v).t t j=p.t t j:=fun j q=>by rw[fV d,ae (fun y=>q y.2)]
 refine x.ch t (fun _=>rfl) (fun n r j _=>by rw[fV d,ae (fun y=>r y.1)]) f (fun _ _=>Iff.rfl) (fun _ _ _=>Iff.rfl) (fun _ _ _=>Iff.rfl) (fun _ _ _ _=>Iff.rfl) x.c0 x.lu x.ru x.bt (.inr ⟨id,fun g=>?_,fun g=>?_,fun a g=>?_,fun a m l o=>?_,fun i g=>absurd g (b i),fun c g=>?_,fun g=>?_⟩)
 ·rw[e 9 oD] at g;rw[e 14 oD];exact w.a1 g
 ·rw[e 9 oD] at g ⊢;rw[e 14 oD];exact w.la g
 ·rw[e 9 oD,e 14 oD];exact w.ln a g
 ·rw[e 9 oD];by_cases h:m=t
  ·rw[h,e 9 oD]
  ·rw[fV d,ae (fun y=>h y.1)];exact w.lw a m l o
 ·rw[e 9 oD,e 18 oD];exact⟨(w.cr c g).1,(w.cr c g).2.1,b _⟩
 ·rw[e 9 oD] at g;rw[e 18 oD];exact .inr ((w.rq g).resolve_left (b _))
theorem AS {p:PW} {b:Int} (h:0<=b∧b<=3):fOk p 10 b=true:=by
 unfold fOk;rw[ae oA,ae oA,ag oA];exact az h
theorem Tk.JZ {p:PW} (x:Tk Nbd p) {t:Nat} (f:p.k t=6) {b:Int} (r:0<=b∧b<=3):Tk Nbd (rkP p t b):=by
 have d:=x.tl f;unfold rkP;rw[ah];split
 ·rename_i e;have y:Tk (Hnd t) {p with lines:=lvs t p.lines,ready:=lvs t p.ready,IJ:=p.IJ.map (noT t)}:=x.JG (B:=p.bits) (x.q.JY f);have z:=((y.JB f (k:=10) (v:=b) (AS r) oD (.inl rfl) oA).at' (-1));have m:(((({p with lines:=lvs t p.lines,ready:=lvs t p.ready,IJ:=p.IJ.map (noT t)}:PW).task t 10 b).task t 14 (-1)).t t 9)=1:=by
   rw[fV (by rw[ap];exact d),ae oA,fV (p:={p with lines:=lvs t p.lines,ready:=lvs t p.ready,IJ:=p.IJ.map (noT t)}) d,ae oA];exact e.1
  have A:=z.J1 (v:=1) oD oA oD oA;have h:t<((({p with lines:=lvs t p.lines,ready:=lvs t p.ready,IJ:=p.IJ.map (noT t)}:PW).task t 10 b).task t 14 (-1)).II.length:=by rw[ap,ap];exact d
  have s:t<(({p with lines:=lvs t p.lines,ready:=lvs t p.ready,IJ:=p.IJ.map (noT t)}:PW).task t 10 b).II.length:=by rw[ap];exact d
  have u:=A.JK (by rw[fV h,ag ⟨rfl,rfl⟩]) (by rw[fV h,ae oA,fV s,ag ⟨rfl,rfl⟩]);have l:∀j,j≠9->j≠14->(((({p with lines:=lvs t p.lines,ready:=lvs t p.ready,IJ:=p.IJ.map (noT t)}:PW).task t 10 b).task t 14 (-1)).task t 9 1).t t j=(p.task t 10 b).t t j:=fun j C D=>by
   rw[fV h,ae oA,fV s,ae oA];rfl
  rw[na (l 18 oD oD) (l 10 oD oD)] at u;exact u
 ·rename_i e;refine⟨x.lf.of,x.a.JB d f (AS r),x.o.to (fun n=>by rw[fV d,ae oA]) (fun n=>by rw[fV d,ae oA]),x.q.prio f d (fun i hi=>?_) b⟩;obtain⟨_,_,m,_,_,w,_⟩:=x.q.inr hi
  cases hx:inB t p.IJ with
  |true=>obtain⟨c,g⟩:=EX hx;exact w c g
  |false=>exact e ⟨m,hx⟩
theorem TkO.stop {p q:PW} (x:TkO p) (t:Nat) (b:∀n,q.t n 17=if p.t n 17=t then -1 else p.t n 17) (e9:∀n,q.t n 9=if n=t then 0 else p.t n 9):TkO q:=by
 have d:∀n (u:Nat),q.t n 17=u->p.t n 17=u∧u≠t:=fun n u h=>by
  rw[b] at h;split at h<;>omega
 refine⟨fun n=>?_,fun u a=>?_,fun n m u j k=>x.ij n m u (d n u j).1 (d m u k).1⟩
 ·rw[b];split
  ·exact .inl rfl
  ·rename_i e;rcases x.ow n with g|⟨u,c,f,i⟩
   ·exact .inl g
   ·refine .inr ⟨u,c,by rw[e9,ae (fun y=>e (by rw[c,y]))];exact f,?_⟩;rw[e9];split
    ·decide
    ·exact i
 ·rw[e9] at a;split at a
  ·cases a
  ·rename_i e;obtain⟨n,l⟩:=x.ak u a;exact⟨n,by rw[b,ae oA];exact l⟩
theorem G4 {p:PW} {t:Nat} (n j:Nat):(p.II.map (nOw t)).getD n bl j=if j=17∧p.t n 17=t then -1 else p.t n j:=by
 have e:(p.II.map (nOw t)).getD n bl=nOw t (p.t n):=by
  show _=nOw t (p.II.getD n bl)
  rw[aa,aa,db]
  cases p.II[n]? with
  |none=>exact (ae (show ¬bl 17=t from by show ¬(-1:Int)=t;omega)).symm
  |some f=>rfl
 rw[e];unfold nOw;by_cases h:p.t n 17=t
 ·rw[ag h];show (if j=17 then (-1:Int) else p.t n j)=_
  by_cases a:j=17
  ·rw[ag a,ag ⟨a,h⟩]
  ·rw[ae a,ae (fun y=>a y.1)]
 ·rw[ae h,ae (fun y=>h y.2)]
theorem Ii {p:PW} {t:Nat} (a:t<p.II.length) (n j:Nat):(stP p t).t n j=if n=t∧j=14 then -1 else if n=t∧j=9 then 0 else if j=17∧p.t n 17=t then -1 else p.t n j:=by
 unfold stP;rw[fV (by rw[ap];simpa using a),fV (by simpa using a)];split
 ·rfl
 ·split
  ·rfl
  ·exact G4 n j
theorem Tk.stop {p:PW} (x:Tk Nbd p) {t:Nat} (f:p.k t=6):Tk Nbd (stP p t):=by
 have h:=x.tl f;have T:=Ii (p:=p) h;have hl:(stP p t).II.length=p.II.length:=by unfold stP;rw[ap,ap];simp
 refine⟨x.lf.of (e6:=hl) (e7:=by show (lvs t p.lines).length=_;simp[lvs]) (e9:=by show (lvs t p.ready).length=_;simp[lvs]) (e2:=by show (p.IJ.map _).length=_;simp),⟨fun n c j d=>?_,fun n c j d=>?_⟩,x.o.stop t (fun n=>by rw[T,ae oA,ae oA];simp) (fun n=>by rw[T,ae oA];simp),?_⟩
 ·have g:n≠t:=fun e=>c (e▸f);have b:=x.a.no n c;rw[T,ae (fun y=>g y.1),ae (fun y=>g y.1),b 17 oD,ae (fun y=>by have:(-1:Int)=t:=y.2;omega)];exact b j d
 ·rw[T,qC (q:=stP p t) (p:=p) rfl (by show (p.IJ.map _).length=_;simp)];split
  ·rename_i e;rw[e.2];rfl
  ·split
   ·rename_i e;rw[e.2];rfl
   ·split
    ·rename_i e;rw[e.1];rfl
    ·exact x.a.ok n c j d
 ·exact ((x.q.JY f).to (q:=stP p t) rfl (fun n c j d=>by
   rw[T,ae (fun y=>c y.1),ae (fun y=>c y.1),ae oA]) rfl rfl rfl rfl).rest (.inl (by rw[T,ae oA,ag ⟨rfl,rfl⟩])) (by rw[T,ag ⟨rfl,rfl⟩])
theorem Tk.off {p:PW} (x:Tk Nbd p) {c t:Nat} (a:p.co c=t):Tk (Hnd t) {p with IJ:=p.IJ.map (noT t)}:=x.JG (L:=p.lines) (B:=p.bits) (R:=p.ready) (x.q.Ke a)
theorem Tk.JN {p:PW} (x:Tk Nbd p) {c t a:Nat} {s:Int} (d:p.co c=t) (w:0<=s∧s<=6) (n:s≠5) (r:a<p.lines.length) (v:pl s≠0) (hk:p.k a=pl s) (u:p.bi a=0) (A:∀m:Nat,(m:Int)∈p.li a->(s=4↔p.t m 9=4)) (j:s=4->p.t t 17= -1):Tk Nbd (ssP p t a s):=by
 obtain⟨_,o,D,_⟩:=x.q.inc d;have h:=x.tl o;have i:t<({p with IJ:=p.IJ.map (noT t)}:PW).II.length:=h;have b:t<(({p with IJ:=p.IJ.map (noT t)}:PW).task t 9 s).II.length:=by rw[ap];exact h
 have y:=((x.off d).J1 w (show p.t t 9≠5 by omega) n j).at' a;have e9:((({p with IJ:=p.IJ.map (noT t)}:PW).task t 9 s).task t 14 a).t t 9=s:=by rw[fV b,ae oA,fV i,ag ⟨rfl,rfl⟩]
 refine y.JG (L:=p.lines.set a (p.li a++[(t:Int)])) (B:=p.bits) (R:=p.ready) (C:=p.IJ.map (noT t)) (y.q.line r (by rw[e9];exact v) (by rw[fV b,ag ⟨rfl,rfl⟩]) (by rw[e9];exact hk) u (fun m f=>?_)) (e7:=by simp;rfl);rw[e9];have g:m≠t:=fun e=>y.q.hl rfl |>.l a (e▸f)
 rw[fV b,ae (fun z=>g z.1),fV i,ae (fun z=>g z.1)];exact A m f
theorem Tk.hand {p:PW} (x:Tk Nbd p) {d u:Nat} {l:List Int} (e:p.li d=(u:Int)::l) {b v:Int} (f:0<=b∧b<=65535) (hv:0<=v∧v<=65535):Tk Nbd (wdP p d u l b v):=by
 have i:(u:Int)∈p.li d:=by rw[e];exact cD ..
 obtain⟨_,a,h,_⟩:=x.q.inl i;have c:=x.tl a;have y:Tk (Hnd u) {p with lines:=p.lines.set d l}:=x.JG (B:=p.bits) (R:=p.ready) (C:=p.IJ) (x.q.front e);have m:=((y.at' (-1)).Jx a (k:=1) oD f).Jx a (k:=2) oD hv;have T:∀j,j≠14->j≠1->j≠2->(((frP p d u l).task u 1 b).task u 2 v).t u j=p.t u j:=fun j n o r=>by
  unfold frP;rw[fV (by rw[ap,ap];exact c),ae oA,fV (by rw[ap];exact c),ae oA,fV (p:={p with lines:=p.lines.set d l}) c,ae oA]
 have z:=Tk.Jd (p:=((frP p d u l).task u 1 b).task u 2 v) m (by rw[T 9 oD oD oD];exact fun g=>h (by rw[g];rfl));rw[na (T 18 oD oD oD) (T 10 oD oD oD)] at z;exact z
theorem TkO.ask {p q:PW} (x:TkO p) {t u:Nat} (r:u≠t) (i:p.t t 9≠5) (o:p.t u 17= -1) (l:p.t u 9≠4) (c:∀n,q.t n 17=if n=u then (t:Int) else p.t n 17) (e9:∀n,q.t n 9=if n=t then 5 else p.t n 9):TkO q:=by
 have no:∀n,p.t n 17≠t:=fun n e=>(x.ow n).elim (fun g=>oA) fun ⟨v,h,d,_⟩=>i (by rwa [show t=v by omega]);refine⟨fun n=>?_,fun w f=>?_,fun n m w a b=>?_⟩
 ·rw[c];split
  ·rename_i e;exact .inr ⟨t,rfl,by rw[e9,ag rfl],by rw[e9,ae oA,e];exact l⟩
  ·rcases x.ow n with g|⟨v,h,d,k⟩
   ·exact .inl g
   ·refine .inr ⟨v,h,by rw[e9,ae (fun (y:v=t)=>i (y▸d))];exact d,?_⟩;rw[e9];split
    ·decide
    ·exact k
 ·rw[e9] at f;split at f
  ·rename_i e;exact⟨u,by rw[c,ag rfl,e]⟩
  ·obtain⟨n,j⟩:=x.ak w f;exact⟨n,by rw[c,ae (fun y=>by rw[y] at j;omega)];exact j⟩
 ·rw[c] at a b;split at a<;>split at b
  ·omega
  ·exact absurd (b.trans a.symm) (no m)
  ·exact absurd (a.trans b.symm) (no n)
  ·exact x.ij n m w a b
theorem Tk.ask {p:PW} {t u:Nat} (x:Tk (Hnd t) p) (b:p.k u=6) (l:u≠t) (h:p.t t 9≠5) (f:p.t u 17= -1) (g:p.t u 9≠4) (e:p.t t 14= -1):Tk Nbd ((p.task t 9 5).task u 17 t):=by
 have c:=x.tl x.hh;have d:=x.tl b;have T:∀n j,((p.task t 9 5).task u 17 t).t n j=if n=u∧j=17 then (t:Int) else if n=t∧j=9 then 5 else p.t n j:=fun n j=>by rw[fV (by rw[ap];exact d),fV c]
 refine⟨x.lf.of (e6:=by rw[ap,ap]),(x.a.JB c x.hh (k:=9) (v:=5) rfl).JB (by rw[ap];exact d) b (k:=17) rfl,x.o.ask l h f g (fun n=>by rw[T];simp) (fun n=>by rw[T,ae oA];simp),?_⟩;exact (x.q.to (q:=(p.task t 9 5).task u 17 t) rfl (fun n i j m=>by rw[T,ae oA,ae (fun y=>i y.1)]) rfl rfl rfl rfl).rest (.inr (by rw[T,ae oA,ag ⟨rfl,rfl⟩])) (by rw[T,ae oA,ae oA];exact e)
theorem Tk.same {h:Nat->Prop} {p q:PW} (x:Tk h p) (lf:LF q) (e1:q.kinds=p.kinds:=by rfl) (e2:q.II=p.II:=by rfl) (b:q.lines=p.lines:=by rfl) (e4:q.bits=p.bits:=by rfl) (e5:q.IJ=p.IJ:=by rfl) (e6:q.ready=p.ready:=by rfl):Tk h q:=by
 have t:∀n,q.t n=p.t n:=fun n=>by show q.II.getD n bl=_;rw[e2]
 exact⟨lf,x.a.to e1 e2 (by rw[e5]),x.o.to (fun n=>by rw[t]) (fun n=>by rw[t]),x.q.to e1 (fun n _ j _=>by rw[t]) b e4 e6 e5⟩
theorem Ee {p:PW} (h:1<=p.IJ.length):∀j,fOk p j (bl j)=true
 |0|1|2|3|4|5|6|7|8|9|10|11|12|13|14|15|16|17|19=>rfl
 |18=>by show ek 0 ((p.IJ.length:Int) - 1) 0=true;exact az oA
 |n+20=>by
  unfold fOk;rw[ae oA,ae oA,ae oA,ae oA,ae oA,ae oA,ae oA]
theorem Cj {p q:PW} (c:q.IJ.length=p.IJ.length) {j:Nat} {v:Int} (h:fOk p j v=true) (d:∀K,isB p v K=true->(j=11∧K=5∨j=12∧K=4∨j=13∧K=7)->isB q v K=true):fOk q j v=true:=by
 have g:∀K,fB p v K=true->(j=11∧K=5∨j=12∧K=4∨j=13∧K=7)->fB q v K=true:=fun K a b=>by
  unfold fB at a ⊢;rw[cF] at a ⊢;exact a.elim .inl fun a=>.inr (d K a b)
 unfold fOk at h ⊢;rw[c];split
 ·rename_i e;rwa [ag e] at h
 rename_i e;rw[ae e] at h;split
 ·rename_i e;rwa [ag e] at h
 rename_i e;rw[ae e] at h;split
 ·rename_i e;rwa [ag e] at h
 rename_i e;rw[ae e] at h;split
 ·rename_i e;rwa [ag e] at h
 rename_i e;rw[ae e] at h;split
 ·rename_i e;rw[ag e] at h;exact g 5 h (.inl ⟨e,rfl⟩)
 rename_i e;rw[ae e] at h;split
 ·rename_i e;rw[ag e] at h;exact g 4 h (.inr (.inl ⟨e,rfl⟩))
 rename_i e;rw[ae e] at h;split
 ·rename_i e;rw[ag e] at h;exact g 7 h (.inr (.inr ⟨e,rfl⟩))
 ·rfl
theorem Tk.kind {p:PW} (x:Tk Nbd p) {b:Nat} {k:Int} (G:b<p.kinds.length) (b0:∀j,j<20->p.t b j=bl j) (I:∀n,p.k n=6->p.t n 11≠b∧p.t n 12≠b∧p.t n 13≠b) (hl:p.li b=[]) (hB:p.bi b=0):Tk Nbd {p with kinds:=p.kinds.set b k}:=by
 have K:∀n,PW.k {p with kinds:=p.kinds.set b k} n=if n=b then k else p.k n:=fun n=>dx G k 0 n
 have b9:=b0 9 oD;have D:∀n,p.k n=6->n≠b->PW.k {p with kinds:=p.kinds.set b k} n=6:=fun n h e=>by rw[K,ae e];exact h
 have B:∀n,PW.k {p with kinds:=p.kinds.set b k} n=6->n≠b->p.k n=6:=fun n h e=>by rw[K,ae e] at h;exact h
 refine⟨x.lf.of,⟨fun n u j A=>?_,fun n u j A=>?_⟩,x.o.to (fun _=>rfl) (fun _=>rfl),⟨fun n u=>u.elim,fun n w _ l=>?_,fun n w _ l=>?_,fun a z C=>?_,x.q.lu,x.q.lw,fun a=>?_,fun i z C=>?_,x.q.ru,fun c=>?_,fun n w _ l=>?_⟩⟩
 ·by_cases e:n=b
  ·rw[e];exact b0 j A
  ·rw[K,ae e] at u;exact x.a.no n u j A
 ·by_cases e:n=b
  ·show fOk _ j (p.t n j)=true
   rw[e,b0 j A];exact Ee (p:={p with kinds:=p.kinds.set b k}) x.lf.c1 j
  ·have E:=B n u e;obtain⟨J,M,N⟩:=I n E;show fOk {p with kinds:=p.kinds.set b k} j (p.t n j)=true
   refine Cj (q:={p with kinds:=p.kinds.set b k}) (p:=p) rfl (x.a.ok n E j A) fun L a c=>?_;obtain⟨f,e1,e2,F⟩:=fE a;have H:f≠b:=fun g=>by
    rw[g] at e1;rcases c with ⟨rfl,_⟩|⟨rfl,_⟩|⟨rfl,_⟩
    ·exact J e1
    ·exact M e1
    ·exact N e1
   rw[e1,lg (p:={p with kinds:=p.kinds.set b k}) (by show f<(p.kinds.set b k).length;simpa using e2),K,ae H,F];exact beq_self_eq_true _
 ·by_cases e:n=b
  ·show p.t n 14= -1
   rw[e];exact b0 14 oD
  ·exact x.q.a1 n (B n w e) id l
 ·have e:n≠b:=fun e=>l (by show pl (p.t n 9)=0;rw[e,b9];rfl);obtain⟨a,r,s,m⟩:=x.q.la n (B n w e) id l;refine⟨a,r,?_,m⟩;rw[K,ae]
  ·exact s
  ·intro y;rw[y,hl] at m
   cases m
 ·obtain⟨n,r,s,m,d,v⟩:=x.q.ln a z C;exact⟨n,r,s,D n m (fun e=>d (by rw[e,b9];rfl)),d,v⟩
 ·by_cases e:a=b
  ·left;show p.bi a=0;rw[e];exact hB
  ·rcases x.q.bt a with g|g
   ·exact .inl g
   ·exact .inr ⟨by rw[K,ae e];exact g.1,g.2⟩
 ·obtain⟨n,r,s,m,d,v⟩:=x.q.rd i z C;exact⟨n,r,s,D n m (fun e=>by rw[e,b9] at d;cases d),d,v⟩
 ·rcases x.q.cr c with g|⟨n,r,s,m,d,v⟩
  ·exact .inl g
  ·exact .inr ⟨n,r,s,D n m (fun e=>by rw[e,b9] at d;cases d),d,v⟩
 ·have e:n≠b:=fun e=>by have l:p.t n 9=1:=l;rw[e,b9] at l;cases l
  exact x.q.rq n (B n w e) id l
theorem Tk.blank {p:PW} (x:Tk Nbd p) {b:Nat} (c:p.k b≠6):∀j,j<20->p.t b j=bl j:=x.a.no b c
theorem Tk.Jm {p:PW} (x:Tk Nbd p) {b:Nat} (h:p.k b≠7∧p.k b≠8):p.li b=[]∧p.bi b=0:=by
 refine⟨List.eq_nil_iff_forall_not_mem.2 fun z f=>?_,(x.q.bt b).elim id fun g=>absurd g.1 h.2⟩;obtain⟨n,rfl,d,e,c,i⟩:=x.q.ln b z f;obtain⟨a,e1,e2,_⟩:=x.q.la n e d c;obtain rfl:a=b:=oA;unfold pl at e2 c;split at e2
 ·exact h.1 e2
 ·split at e2
  ·exact h.2 e2
  ·simp_all
theorem Tk.refs {p:PW} (x:Tk Nbd p) {n:Nat} (b:p.k n=6) {f:Nat}:(p.t n 11=f->p.k f=5)∧(p.t n 12=f->p.k f=4)∧(p.t n 13=f->p.k f=7):=by
 have g:∀v K,fB p v K=true->v=(f:Int)->p.k f=K:=fun v K a e=>by
  unfold fB at a;rw[cF] at a;rcases a with a|a
  ·have:=eq_of_beq a;omega
  ·obtain⟨c,e1,_,d⟩:=fE a
   rwa [show f=c by omega]
 exact⟨g _ _ (x.a.ok n b 11 oD),g _ _ (x.a.ok n b 12 oD),g _ _ (x.a.ok n b 13 oD)⟩
theorem Gg {p:PW} {c:Nat} (b:c=11∨c=12∨c=13) (f n j:Nat):(fgP c p f).t n j=if j=c∧p.t n c=f then -1 else p.t n j:=by
 have e:(fgP c p f).t n=fg1 c f (p.t n):=by
  show (p.II.map (fg1 c f)).getD n bl=fg1 c f (p.II.getD n bl)
  rw[aa,aa,db]
  cases p.II[n]? with
  |none=>
   refine (ae (show ¬bl c=f from ?_)).symm;rcases b with rfl|rfl|rfl<;>(show ¬(-1:Int)=f;omega)
  |some g=>rfl
 rw[e];unfold fg1;by_cases h:p.t n c=f
 ·rw[ag h];show (if j=c then (-1:Int) else p.t n j)=_
  by_cases a:j=c
  ·rw[ag a,ag ⟨a,h⟩]
  ·rw[ae a,ae (fun y=>a y.1)]
 ·rw[ae h,ae (fun y=>h y.2)]
theorem Tk.fg {p:PW} (x:Tk Nbd p) {c:Nat} (g:c=11∨c=12∨c=13) (f:Nat):Tk Nbd (fgP c p f):=by
 have T:=fun n j=>Gg (p:=p) g f n j;refine⟨x.lf.of (e6:=by show (p.II.map _).length=_;simp),⟨fun n h j d=>?_,fun n h j d=>?_⟩,x.o.to (fun n=>by rw[T,ae oA]) (fun n=>by rw[T,ae oA]),x.q.to rfl (fun n _ j d=>by rw[T,ae oA]) rfl rfl rfl rfl⟩
 ·have b:=x.a.no n h;rw[T,ae,b j d];rintro⟨rfl,e⟩;rw[b j d] at e;rcases g with rfl|rfl|rfl<;>(have e:(-1:Int)=f:=e;omega)
 ·rw[T,qC (q:=fgP c p f) (p:=p) rfl rfl];split
  ·rename_i e;rw[e.1];rcases g with rfl|rfl|rfl<;>rfl
  ·exact x.a.ok n h j d
theorem sw:∀(l:List Int) (p q:PW),p.II=q.II->(l.foldl ds1 p).II=(l.foldl ds1 q).II
 |[],_,_,h=>h
 |z::l,p,q,h=>by
  rw[eo,eo];refine sw l _ _ ?_;unfold ds1 PW.task;simp only[h]
theorem Tk.Kj {f:Nat}:∀(l:List Int) {p:PW},Tk Nbd p->p.li f=l->Tk Nbd {l.foldl ds1 p with lines:=p.lines.set f []}
 |[],p,x,e=>by
  have h:p.lines.set f []=p.lines:=by
   rcases cP f p.lines.length with y|y
   ·have e2:p.lines[f]=[]:=by rw[<-e];show _=p.lines.getD f [];rw[aa,ac y];rfl
    rw[<-e2,bV]
   ·exact List.set_eq_of_length_le y
  show Tk Nbd {p with lines:=p.lines.set f []}
  rw[h];exact x
 |z::l,p,x,e=>by
  have i:z∈p.li f:=by rw[e];exact cD ..
  obtain⟨u,rfl,_⟩:=x.q.ln f z i;obtain⟨_,m,r,_⟩:=x.q.inl i;have c:=x.tl m;have n:f<p.lines.length:=by
   rcases cP f p.lines.length with y|y
   ·exact y
   ·have:p.li f=[]:=by show p.lines.getD f []=[];rw[aa,aI y];rfl
    rw[this] at e;cases e
  have y:Tk (Hnd u) {p with lines:=p.lines.set f l}:=x.JG (B:=p.bits) (R:=p.ready) (C:=p.IJ) (x.q.front e);have s:p.t u 9≠5:=fun g=>r (by rw[g];rfl);have b:=(y.J1 (v:=0) oD s oD (by intro g;cases g)).at' (-1);have d:u<(({p with lines:=p.lines.set f l}:PW).task u 9 0).II.length:=by rw[ap];exact c
  have w:Tk Nbd ((({p with lines:=p.lines.set f l}:PW).task u 9 0).task u 14 (-1)):=⟨b.lf,b.a,b.o,b.q.rest (.inl (by rw[fV d,ae oA,fV (p:={p with lines:=p.lines.set f l}) c,ag ⟨rfl,rfl⟩])) (by rw[fV d,ag ⟨rfl,rfl⟩])⟩;have j:=Tk.Kj l w (by show (p.lines.set f l).getD f []=l;rw[qX n,ag rfl]);rw[fT] at j ⊢;rw[eo,sw l (ds1 p (u:Int)) ((({p with lines:=p.lines.set f l}:PW).task u 9 0).task u 14 (-1)) (by unfold ds1;rw[ah];rfl)];have e2:(p.lines.set f l).set f []=p.lines.set f []:=ep ..;have k:Tk Nbd {p with II:=(l.foldl ds1 ((({p with lines:=p.lines.set f l}:PW).task u 9 0).task u 14 (-1))).II,lines:=(p.lines.set f l).set f []}:=j;rw[e2] at k;exact k
theorem Tk.ds {p:PW} (x:Tk Nbd p) {f:Nat} (c:f<p.lines.length):Tk Nbd (dsP p f)∧(dsP p f).li f=[]∧(dsP p f).bi f=0:=by
 have b:f<p.bits.length:=by rw[x.lf.bits, <-x.lf.lines];exact c
 have y:=x.Kj _ rfl (f:=f);have e:=fT (p.li f) p;have d:dsP p f={(p.li f).foldl ds1 p with lines:=p.lines.set f [],bits:=p.bits.set f 0}:=rfl;have g:Tk Nbd {(p.li f).foldl ds1 p with lines:=p.lines.set f [],bits:=p.bits.set f 0}:=by
  rw[e] at y ⊢;exact y.JG (B:=p.bits.set f 0) (L:=p.lines.set f []) (R:=p.ready) (C:=p.IJ) (y.q.bit (a:=f) (v:=0) b (.inl rfl)) (e7:=by simp) (e8:=by simp)
 rw[d];exact⟨g,by show (p.lines.set f []).getD f []=[];rw[qX c,ag rfl],by show (p.bits.set f 0).getD f 0=0;rw[dx b,ag rfl]⟩
theorem TkO.last {p q:PW} (x:TkO p) (t:Nat) (b:∀n,q.t n 17=if n=t∨p.t n 17=t then -1 else p.t n 17) (e9:∀n,q.t n 9=if n=t∨p.t t 17=n then 0 else p.t n 9):TkO q:=by
 have f:∀n (u:Nat),q.t n 17=u->p.t n 17=u∧n≠t∧u≠t:=fun n u h=>by
  rw[b] at h;split at h
  ·omega
  ·rename_i e;exact⟨h,fun y=>e (.inl y),fun y=>e (.inr (by rw[h,y]))⟩
 refine⟨fun n=>?_,fun u a=>?_,fun n m u k l=>x.ij n m u (f n u k).1 (f m u l).1⟩
 ·rw[b];split
  ·exact .inl rfl
  ·rename_i e;rcases x.ow n with g|⟨u,c,i,j⟩
   ·exact .inl g
   ·refine .inr ⟨u,c,?_,?_⟩
    ·rw[e9,ae]
     ·exact i
     ·rintro (y|y)
      ·exact e (.inr (by rw[c,y]))
      ·exact e (.inl (x.ij n t u c y))
    ·rw[e9];split
     ·decide
     ·exact j
 ·rw[e9] at a;split at a
  ·cases a
  ·rename_i e;obtain⟨n,d⟩:=x.ak u a;refine⟨n,?_⟩;rw[b,ae]
   ·exact d
   ·rintro (y|y)
    ·rw[y] at d;exact e (.inr d)
    ·exact e (.inl oA)
theorem Hz {p:PW} {t:Nat} (a:t<p.II.length) (f:p.t t 17= -1∨∃u:Nat,p.t t 17=u∧u<p.II.length) (n j:Nat):(etP p t).t n j=if n=t then bl j else if j=9∧p.t t 17=n then 0 else if j=17∧p.t n 17=t then -1 else p.t n j:=by
 have hl:(stP p t).II.length=p.II.length:=by unfold stP;rw[ap,ap];simp
 have T:=Ii (p:=p) a;show ((etP p t).II.getD n bl) j=_
 have d:p.II.getD t bl 17=p.t t 17:=rfl;unfold etP;rw[d];rcases f with h|⟨u,h,i⟩
 ·rw[ag h];show (((stP p t).II.set t bl).getD n bl) j=_
  rw[dx (by rw[hl];exact a),h];by_cases e:n=t
  ·rw[ag e,ag e]
  ·rw[ae e,ae e,ae oA];have:=T n j;rw[ae (fun y=>e y.1),ae (fun y=>e y.1)] at this;exact this
 ·rw[ae oA,h,ah];show ((((stP p t).task u 9 0).II.set t bl).getD n bl) j=_
  rw[dx (by rw[ap,hl];exact a)];by_cases e:n=t
  ·rw[ag e,ag e]
  ·rw[ae e,ae e];have b:=fV (p:=stP p t) (t:=u) (by rw[hl];exact i) 9 0 n j;have c:=T n j;rw[ae (fun y=>e y.1),ae (fun y=>e y.1)] at c;rw[c] at b;refine b.trans ?_;by_cases g:n=u∧j=9
   ·rw[ag g,ag oA]
   ·rw[ae g,ae (show ¬(j=9∧(u:Int)=n) by omega)]
theorem EF (p:PW) (t:Nat):(etP p t).II.length=p.II.length:=by
 have hl:(stP p t).II.length=p.II.length:=by unfold stP;rw[ap,ap];simp
 unfold etP;split
 ·show ((stP p t).II.set t bl).length=_;rw[au];exact hl
 ·show (((stP p t).task _ 9 0).II.set t bl).length=_;rw[au,ap];exact hl
theorem wF (p:PW) (t:Nat):(etP p t).kinds=p.kinds∧(etP p t).lines=lvs t p.lines∧(etP p t).ready=lvs t p.ready∧(etP p t).IJ=p.IJ.map (noT t)∧(etP p t).bits=p.bits∧(etP p t).IL=p.IL∧(etP p t).IH=p.IH∧(etP p t).IQ=p.IQ∧(etP p t).IK=p.IK:=by
 unfold etP;split<;>exact⟨rfl,rfl,rfl,rfl,rfl,rfl,rfl,rfl,rfl⟩
theorem Tk.et {p:PW} (x:Tk Nbd p) {t:Nat} (A:p.k t=6):Tk Nbd (etP p t):=by
 have f:=x.tl A;have C:p.t t 17= -1∨∃u:Nat,p.t t 17=u∧u<p.II.length:=(x.o.ow t).elim .inl fun ⟨u,a,b,_⟩=>.inr ⟨u,a,by
  rcases cP u p.II.length with y|y
  ·exact y
  ·have:p.t u=bl:=by show p.II.getD u bl=bl;rw[aa,aI y];rfl
   rw[this] at b;cases b⟩
 have T:=Hz f C;obtain⟨e1,e2,l,e4,e5,e6,e7,e8,e9⟩:=wF p t;have c1:=x.lf.c1;refine⟨x.lf.of (by rw[e1]) (by rw[e4];simp) (by rw[e8]) (by rw[e6]) (by rw[e7]) (EF p t) (by rw[e2];simp[lvs]) (by rw[e5]) (by rw[l];simp[lvs]) (by rw[e9]),⟨fun n c j d=>?_,fun n c j d=>?_⟩,x.o.last t (fun n=>?_) (fun n=>?_),?_⟩
 ·have c:p.k n≠6:=by rw[show p.k n=(etP p t).k n by show p.kinds.getD n 0=_;rw[<-e1]];exact c
  have b:=x.a.no n c;have F:n≠t:=fun e=>c (e▸A);rw[T,ae F];split
  ·rename_i e;rw[e.1];rfl
  ·split
   ·rename_i e;rw[e.1];rfl
   ·exact b j d
 ·have c:p.k n=6:=by rw[show p.k n=(etP p t).k n by show p.kinds.getD n 0=_;rw[<-e1]];exact c
  rw[T,qC (q:=etP p t) (p:=p) e1 (by rw[e4];simp)];split
  ·exact Ee c1 j
  ·split
   ·rename_i e;rw[e.1];rfl
   ·split
    ·rename_i e;rw[e.1];rfl
    ·exact x.a.ok n c j d
 ·rw[T];by_cases e:n=t
  ·rw[ag e,ag (.inl e)];rfl
  ·rw[ae e,ae oA];by_cases g:p.t n 17=t
   ·rw[ag ⟨rfl,g⟩,ag (.inr g)]
   ·rw[ae (fun y=>g y.2),ae (fun y=>y.elim e g)]
 ·rw[T];by_cases e:n=t
  ·rw[ag e,ag (.inl e)];rfl
  ·rw[ae e];by_cases g:p.t t 17=n
   ·rw[ag ⟨rfl,g⟩,ag (.inr g)]
   ·rw[ae (fun y=>g y.2),ae oA,ae (fun y=>y.elim e g)]
 ·have y:=x.q.JY A;have z:TkQ (fun n=>n=t∨False) {p with lines:=lvs t p.lines,ready:=lvs t p.ready,IJ:=p.IJ.map (noT t)}:=by simpa using y
  have m:∀n,n≠t->∀j,j=10∨j=14∨j=18->(etP p t).t n j=p.t n j:=fun n c j d=>by rw[T,ae c,ae oA,ae oA]
  have w:∀n,n≠t->p.t t 17≠n->(etP p t).t n 9=p.t n 9:=fun n c h=>by rw[T,ae c,ae (fun y=>h y.2),ae oA]
  have i:∀j,(etP p t).t t j=bl j:=fun j=>by rw[T,ag rfl]
  rcases C with h|⟨u,h,J⟩
  ·exact (y.to (q:=etP p t) e1 (fun n c j d=>by
    rcases d with rfl|d
    ·exact w n c oA
    ·exact m n c j d) e2 e5 l e4).rest (.inl (i 9)) (i 14)
  ·obtain⟨v,I,r,_⟩:=(x.o.ow t).resolve_left oA;obtain rfl:v=u:=oA;have D:=dg fun e=>by rw[x.a.no v e 9 oD] at r;cases r
   by_cases s:v=t
   ·exact (y.to (q:=etP p t) e1 (fun n c j d=>by
     rcases d with rfl|d
     ·exact w n c oA
     ·exact m n c j d) e2 e5 l e4).rest (.inl (i 9)) (i 14)
   ·have E:=x.q.a1 v D id (by rw[r];rfl);have G:TkQ Nbd ({p with lines:=lvs t p.lines,ready:=lvs t p.ready,IJ:=p.IJ.map (noT t),II:=p.II.set t bl}:PW):=(y.to (q:={p with lines:=lvs t p.lines,ready:=lvs t p.ready,IJ:=p.IJ.map (noT t),II:=p.II.set t bl}) rfl (fun n c j _=>by
     show ((p.II.set t bl).getD n bl) j=_
     rw[dx f,ae c]) rfl rfl rfl rfl).rest (.inl (by show ((p.II.set t bl).getD t bl) 9=0;rw[dx f,ag rfl];rfl)) (by show ((p.II.set t bl).getD t bl) 14= -1;rw[dx f,ag rfl];rfl)
    have B:∀n j,PW.t {p with lines:=lvs t p.lines,ready:=lvs t p.ready,IJ:=p.IJ.map (noT t),II:=p.II.set t bl} n j=if n=t then bl j else p.t n j:=fun n j=>by
     show ((p.II.set t bl).getD n bl) j=_
     rw[dx f];split<;>rfl
    have H:=G.J9 (t:=v) D (.inr (by rw[B,ae s];exact r));exact (H.to (q:=etP p t) e1 (fun n c j d=>by
     rw[B];by_cases e:n=t
     ·rw[e,i,ag rfl]
     ·rw[ae e];rcases d with rfl|d
      ·exact w n e (fun g=>c (by show n=v;omega))
      ·exact m n e j d) e2 e5 l e4).rest (.inl (by rw[T,ae s,ag ⟨rfl,h⟩])) (by rw[m v s 14 oS];exact E)
structure Md (D:Nat->Prop) (p:PW):Prop where
 ks:∀k∈p.kinds,0<=k∧k<=8∧k≠1
 ds:∀d∈p.IQ,0<=d∧d<=3
 keys:∃r,Ky D p r
 op:Op p
 IL:kR p
 tk:Tk Nbd p
theorem Ky.J0 {D:Nat->Prop} {p:PW} {r:Nat->Nat} (h:Ky D p r) {u i:Nat} (b:p.s u 0≠0) (c:r u<r i):rkC p r u<rkC p r i:=by
 have _:=h;refine (qn _ _ _ fun x _ a=>?_).2 u (List.mem_range.2 (rY b)) ?_ ?_
 ·rw[am] at a ⊢;exact⟨a.1,az (by have:=aA a.2;omega)⟩
 ·rw[aw oA,Bool.and_false]
 ·rw[az c,Bool.and_true];exact bne_iff_ne.2 b
theorem Ky.Kh {D:Nat->Prop} {p:PW} {r:Nat->Nat} (h:Ky D p r):Up (rkC p r) p.IH:=
 ⟨fun i hi=>(h.em i hi).2,fun i=>(h.up i).elim .inl fun ⟨u,a,b,_,d⟩=>.inr ⟨u,a,rY b,h.J0 b d⟩,fun i=>by
  have:rkC p r i<=(List.range p.IH.length).length:=List.countP_le_length;rw[List.length_range] at this;omega⟩
theorem fY {p:PW} {k x:Int}:beB p k x=false↔(k=4->x=0∨isB p (x - 32768) 3=true)∧(k=3->x=0∨isB p (x - 32768) 2=true∨isB p (x - 32768 - 16384) 2=true):=by
 unfold beB;by_cases b:k=4
 ·rw[ag b];simp only[Bool.and_eq_false_iff,cU,bz];exact⟨fun h=>⟨fun _=>h,fun a=>oA⟩,fun h=>h.1 b⟩
 ·rw[ae b];by_cases a:k=3
  ·rw[ag a];simp only[Bool.and_eq_false_iff,cU,bz,or_assoc];exact⟨fun h=>⟨fun c=>absurd c b,fun _=>h⟩,fun h=>h.2 a⟩
  ·rw[ae a];exact⟨fun _=>⟨fun h=>absurd h b,fun h=>absurd h a⟩,fun _=>rfl⟩
theorem pt {p q:PW} {f:Nat} {x:Int} (b:q.kinds=p.kinds.set f x) (d:f<p.kinds.length) {a k:Int} (h:isB p a k=true) (e:a≠f):isB q a k=true:=by
 obtain⟨g,rfl,e2,c⟩:=fE h;rw[lg (by rw[b,au];exact e2),show q.k g=p.k g by show q.kinds.getD g 0=_;rw[b,dx d,ae oA],c];exact beq_self_eq_true _
theorem kR.J5 {p q:PW} (h:kR p) {f:Nat} (c:f<p.kinds.length) (b:q.kinds=p.kinds.set f 0) (j:q.IL.length=p.IL.length)
  (l:∀i,i<p.IL.length->q.IL.getD i 0=0∨q.IL.getD i 0=p.IL.getD i 0∧(q.k (i/16)=3∨q.k (i/16)=4->p.k f=2∨p.k f=3->p.IL.getD i 0≠32768+f∧p.IL.getD i 0≠49152+f)):kR q:=by
 have K:∀n,q.k n=if n=f then 0 else p.k n:=fun n=>by show q.kinds.getD n 0=_;rw[b,dx c]
 refine⟨fun x t=>?_,fun i hi=>?_⟩
 ·obtain⟨i,hi,e⟩:=dC t;rw[j] at hi;have e2:q.IL.getD i 0=x:=by rw[aa,ac (by rw[j];exact hi), <-e];rfl
  rw[<-e2];rcases l i hi with g|⟨g,_⟩
  ·rw[g];decide
  ·rw[g,aa,ac hi];exact h.w _ (av hi)
 ·rw[j] at hi;have o:=fY.1 (h.e i hi);refine fY.2 ⟨fun s=>?_,fun r=>?_⟩
  ·have hk:p.k (i/16)=4:=by have:=K (i/16);split at this<;>omega
   rcases l i hi with g|⟨g,m⟩
   ·exact .inl g
   ·rw[g];refine (o.1 hk).imp_right fun a=>pt b c a fun e=>?_;obtain⟨n,e1,_,d⟩:=fE a;have:=m (.inr s) (.inr (by rw[show f=n by omega];exact d));omega
  ·have hk:p.k (i/16)=3:=by have:=K (i/16);split at this<;>omega
   rcases l i hi with g|⟨g,m⟩
   ·exact .inl g
   ·rw[g];refine (o.2 hk).imp_right fun a=>a.elim (fun a=>.inl (pt b c a fun e=>?_)) (fun a=>.inr (pt b c a fun e=>?_))<;>
    ·obtain⟨n,e1,_,d⟩:=fE a;have:=m (.inl r) (.inl (by rw[show f=n by omega];exact d));omega
theorem GN (p:PW) (f:Nat):etP (nkP p f) f=nkP (etP p f) f:=by
 unfold etP;rw[show (nkP p f).II=p.II from rfl];split<;>rfl
theorem GM (p:PW) (f:Nat):dsP (nkP p f) f=nkP (dsP p f) f:=by
 show ({(p.lines.getD f []).foldl ds1 (nkP p f) with lines:=p.lines.set f [],bits:=p.bits.set f 0}:PW)=nkP {(p.lines.getD f []).foldl ds1 p with lines:=p.lines.set f [],bits:=p.bits.set f 0} f
 rw[fT _ (nkP p f),fT _ p,sw _ (nkP p f) p rfl];rfl
theorem F8 (p:PW) (f:Int) (i:Nat) (hi:i<p.IL.length):(utP p f).IL.getD i 0=ut1 p.kinds f i (p.IL.getD i 0):=by
 show (p.IL.mapIdx (ut1 p.kinds f)).getD i 0=_
 rw[aa,List.getElem?_mapIdx,ac hi,aa,ac hi];rfl
theorem Ei {p:PW} {f:Nat} (m:f<p.kinds.length) (A:kR p) (x:Tk Nbd p) {R:PW}
  (d:R=if p.k f=2∨p.k f=3 then utP (nkP p f) f else if p.k f=4 then fgP 12 (nkP p f) f else if p.k f=5 then fgP 11 (nkP p f) f else if p.k f=6 then etP (nkP p f) f else fgP 13 (dsP (nkP p f) f) f):
  R.kinds=p.kinds.set f 0∧R.IH=p.IH∧R.IQ=p.IQ∧R.IK=p.IK∧kR R∧Tk Nbd R:=by
 have rk:∀n,p.k n=6->(p.t n 11=f->p.k f=5)∧(p.t n 12=f->p.k f=4)∧(p.t n 13=f->p.k f=7):=fun n h=>x.refs h;have v:∀{q:PW},q.kinds=p.kinds.set f 0->q.IL=p.IL->¬(p.k f=2∨p.k f=3)->kR q:=fun e1 e2 B=>A.J5 m e1 (by rw[e2]) fun i _=>.inr ⟨by rw[e2],fun _ y=>absurd y B⟩;split at d
 ·rename_i e;subst d;have l:=x.Jm (b:=f) oA;have y:=x.kind (k:=0) m (x.blank oA) (fun n h=>⟨fun g=>by have:=(rk n h).1 g;omega,fun g=>by have:=(rk n h).2.1 g;omega,fun g=>by have:=(rk n h).2.2 g;omega⟩) l.1 l.2;refine⟨rfl,rfl,rfl,rfl,A.J5 m rfl (by show (p.IL.mapIdx _).length=_;simp) fun i hi=>?_,y.same (y.lf.of (e4:=by show (p.IL.mapIdx _).length=_;simp))⟩;rw[show (utP (nkP p f) f).IL.getD i 0=ut1 (p.kinds.set f 0) f i (p.IL.getD i 0) from F8 (nkP p f) f i hi];unfold ut1;split
  ·exact .inl rfl
  ·rename_i g;refine .inr ⟨rfl,fun a _=>?_⟩;have z:=a;exact⟨fun y=>g ⟨z,.inl y⟩,fun y=>g ⟨z,.inr y⟩⟩
 rename_i e23;split at d
 ·rename_i e;subst d;have x1:=x.fg (c:=12) oS f;have T:=fun n j=>Gg (p:=p) (c:=12) oS f n j;have l:=x.Jm (b:=f) oA;refine⟨rfl,rfl,rfl,rfl,v rfl rfl e23,?_⟩;exact x1.kind (k:=0) m (x1.blank (show p.k f≠6 by omega)) (fun n h=>⟨fun g=>by rw[T,ae oA] at g;have:=(rk n h).1 g;omega,fun g=>by
   rw[T] at g;split at g
   ·omega
   ·rename_i y;exact y ⟨rfl,g⟩,fun g=>by rw[T,ae oA] at g;have:=(rk n h).2.2 g;omega⟩) l.1 l.2
 rename_i e4;split at d
 ·rename_i e;subst d;have x1:=x.fg (c:=11) oS f;have T:=fun n j=>Gg (p:=p) (c:=11) oS f n j;have l:=x.Jm (b:=f) oA;refine⟨rfl,rfl,rfl,rfl,v rfl rfl e23,?_⟩;exact x1.kind (k:=0) m (x1.blank (show p.k f≠6 by omega)) (fun n h=>⟨fun g=>by
   rw[T] at g;split at g
   ·omega
   ·rename_i y;exact y ⟨rfl,g⟩,fun g=>by rw[T,ae oA] at g;have:=(rk n h).2.1 g;omega,fun g=>by rw[T,ae oA] at g;have:=(rk n h).2.2 g;omega⟩) l.1 l.2
 rename_i e5;split at d
 ·rename_i e;rw[GN] at d;subst d;obtain⟨s,I,J,K,L,C,D,E,F⟩:=wF p f;have x1:=x.et e;have M:(etP p f).k f=6:=by show (etP p f).kinds.getD f 0=6;rw[s];exact e
  have l:=x1.Jm (b:=f) oA;refine⟨by show (etP p f).kinds.set f 0=_;rw[s],D,E,F,v (by show (etP p f).kinds.set f 0=_;rw[s]) C e23,?_⟩;have H:=x.tl e;have G:p.t f 17= -1∨∃u:Nat,p.t f 17=u∧u<p.II.length:=(x.o.ow f).elim .inl fun ⟨u,a,b,_⟩=>.inr ⟨u,a,x.tl (dg fun e=>by rw[x.a.no u e 9 oD] at b;cases b)⟩;exact x1.kind (k:=0) (by rw[s];exact m) (fun j _=>by rw[Hz H G,ag rfl]) (fun n h=>⟨fun g=>by have:=(x1.refs h).1 g;omega,fun g=>by have:=(x1.refs h).2.1 g;omega,fun g=>by have:=(x1.refs h).2.2 g;omega⟩) l.1 l.2
 ·rename_i e6;rw[GM] at d;subst d;have hl:f<p.lines.length:=by rw[x.lf.lines];exact m
  obtain⟨x1,l1,b1⟩:=x.ds hl;have r:=iu p f;have dr:=fT (p.lines.getD f []) p;have w:(dsP p f).IL=p.IL∧(dsP p f).IH=p.IH∧(dsP p f).IQ=p.IQ∧(dsP p f).IK=p.IK:=by
   refine⟨?_,?_,?_,?_⟩
   ·show ((p.lines.getD f []).foldl ds1 p).IL=_;rw[dr]
   ·show ((p.lines.getD f []).foldl ds1 p).IH=_;rw[dr]
   ·show ((p.lines.getD f []).foldl ds1 p).IQ=_;rw[dr]
   ·show ((p.lines.getD f []).foldl ds1 p).IK=_;rw[dr]
  have kd:∀n,(dsP p f).k n=p.k n:=fun n=>by show (dsP p f).kinds.getD n 0=_;rw[r]
  have x2:=x1.fg (c:=13) oS f;have T:=fun n j=>Gg (p:=dsP p f) (c:=13) oS f n j;refine⟨by show (dsP p f).kinds.set f 0=_;rw[r],w.2.1,w.2.2.1,w.2.2.2,v (by show (dsP p f).kinds.set f 0=_;rw[r]) w.1 e23,?_⟩;exact x2.kind (k:=0) (show f<(dsP p f).kinds.length by rw[r];exact m) (x2.blank (show (dsP p f).k f≠6 by rw[kd];exact e6)) (fun n h=>⟨fun g=>by rw[T,ae oA] at g;have:=(x1.refs (show (dsP p f).k n=6 from h)).1 g;rw[kd] at this;omega,fun g=>by rw[T,ae oA] at g;have:=(x1.refs (show (dsP p f).k n=6 from h)).2.1 g;rw[kd] at this;omega,fun g=>by
   rw[T] at g;split at g
   ·omega
   ·rename_i y;exact y ⟨rfl,g⟩⟩) l1 b1
theorem xK {p q:PW} {f:Nat} (e:q.kinds=p.kinds.set f 0):nds q<=nds p∧(p.k f=5->nds q+1=nds p):=by
 unfold nds;rw[e];obtain⟨b,c⟩:=ji p.kinds f;refine⟨b,fun h=>c ?_⟩;have a:=iN (p:=p) (f:=f) oA;rw[ac a,vK a,h]
theorem Md.da {m f:Nat} {D:Nat->Prop} (d:∀p s,Md D p->nds p<m->p.s s 0≠0->Md D (drF m p s)∧nds (drF m p s)<=nds p):∀a p,Md D p->nds p<m->Md D (daF (drF m) f a p)∧nds (daF (drF m) f a p)<=nds p∧∀i,i<a->(daF (drF m) f a p).s (f*16+i) 0=0
 |0,p,h,_=>by rw[gB];exact⟨h,aq _,fun i hi=>oA⟩
 |a+1,p,h,hn=>by
  rw[gA];have g:∀q,Md D q->nds q<=nds p->q.s (f*16+a) 0=0->Md D (daF (drF m) f a q)∧nds (daF (drF m) f a q)<=nds p∧∀i,i<a+1->(daF (drF m) f a q).s (f*16+i) 0=0:=fun q c n j=>by
   obtain⟨k1,k2,k⟩:=Md.da d a q c oA;obtain⟨r,b⟩:=c.keys;refine⟨k1,oA,fun i hi=>?_⟩;by_cases e:i=a
   ·rcases (wj (jY m) (f:=f) a q b.Kh).2.2 (f*16+a) with g|g
    ·rw[e];exact g.trans j
    ·rw[e];exact g
   ·exact k i oA
  split
  ·rename_i e;exact g p h (aq _) e
  ·rename_i e;obtain⟨k1,k2⟩:=d p (f*16+a) h hn e;obtain⟨r,b⟩:=h.keys;obtain⟨m,rfl⟩:∃l,m=l+1:=⟨m - 1,oA⟩
   exact g _ k1 k2 (o4 b.Kh)
theorem Md.drop:∀(m:Nat) {D:Nat->Prop} (p:PW) (s:Nat),Md D p->nds p<m->p.s s 0≠0->Md D (drF m p s)∧nds (drF m p s)<=nds p
 |0,_,_,_,_,h,_=>oA
 |m+1,D,p,s,h,d,hs=>by
  obtain⟨r,E⟩:=h.keys;have z:=E.J6 hs;have U:LF (drA p s):=h.tk.lf.of (e5:=by show (hnd _ _ (p.IH.set s eS)).length=_;unfold hnd;simp);have F:=h.tk.same U;have rq:kR (drA p s):=⟨h.IL.w,h.IL.e⟩;have L:∀i,i≠s->∀k,k<6->(drA p s).s i k=p.s i k:=fun i hi k hk=>by rw[show (drA p s).s i=_ from jS p s i,ae hi,sF hk]
  have X:∀i,(drA p s).s i 0≠0->i≠s:=fun i hi e=>hi (by rw[show (drA p s).s i=_ from jS p s i,ag e];rfl);have Y:=rY hs;have G:(p.IH.getD s eS) 0=p.s s 0:=rfl;unfold drF;split
  ·rename_i c;refine⟨⟨h.ks,h.ds,⟨r,z⟩,fun n d=>?_,rq,F⟩,aq _⟩;obtain⟨i,hi⟩:=h.op n d;obtain⟨i0,i1,i2⟩:=gS.1 hi;by_cases e:i=s
   ·subst e;rcases c with c|c
    ·exact absurd c i1
    ·unfold gX at c;obtain⟨g,O,u⟩:=List.any_eq_true.1 c;obtain⟨j,P,rfl⟩:=dC O;rw[tb P,am,bz,bz] at u;exact⟨j,gS.2 ⟨by rw[u.1];exact i0,by rw[u.1];exact i1,by rw[u.2];exact i2⟩⟩
   ·exact⟨i,by rw[jJ (L i e 0 oD) (L i e 1 oD)];exact hi⟩
  ·rename_i c;have x:p.s s 0≠1:=fun e=>c (.inl e);have S:gX (drA p s) (p.s s 0) (p.s s 1)=false:=by
    cases hx:gX (drA p s) (p.s s 0) (p.s s 1) with
    |false=>rfl
    |true=>exact absurd (.inr hx) c
   obtain⟨f,e1,e2,B⟩:=fE ((E.key s hs).is.resolve_left x);have Q:=FI (p:=drA p s) (k:=p.s s 0) (b:=f) (by rw[<-e1];exact S) z B;have T:(drA p s).k f=p.s s 0:=B;rw[show ((p.IH.getD s eS) 1).toNat=f by show (p.s s 1).toNat=f;rw[e1];simp,G, <-T];obtain⟨b1,b2,b3,b4,b5,b6⟩:=Ei (p:=drA p s) (f:=f) e2 rq F rfl;have W:Op (nkP (drA p s) f):=fun n d=>by
    have K:(nkP (drA p s) f).k n=if n=f then 0 else p.k n:=dx e2 0 0 n
    rw[K] at d;split at d
    ·exact absurd rfl d
    ·rename_i ne;obtain⟨i,hi⟩:=h.op n d;have e:i≠s:=fun e=>ne (by have:=(gS.1 hi).2.2;rw[e,e1] at this;omega);exact⟨i,by rw[show (nkP (drA p s) f).s i=(drA p s).s i from rfl,jJ (L i e 0 oD) (L i e 1 oD)];exact hi⟩
   have mk:∀R:PW,R.kinds=p.kinds.set f 0->R.IH=(drA p s).IH->R.IQ=p.IQ->kR R->Tk Nbd R->Md (fun n=>D n∨n=f∧p.k f=5) R:=fun R v C H I J=>
    ⟨fun k hk=>by
     rw[v] at hk;rcases aZ hk with y|y
     ·exact h.ks k y
     ·rw[y];decide,by rw[H];exact h.ds,⟨r,(z.nk e2 Q).to v C⟩,fun n d=>by
     have:=W n (by show (p.kinds.set f 0).getD n 0≠0;rw[<-v];exact d);obtain⟨i,hi⟩:=this;exact⟨i,by show opn n (R.IH.getD i eS)=true;rw[C];exact hi⟩,I,J⟩
   by_cases t:(drA p s).k f=5
   ·rw[show lsF (drF m) (drA p s) ((drA p s).k f) f=daF (drF m) f 16 (fgP 11 (nkP (drA p s) f) f) by unfold lsF;rw[t];rfl];rw[ae oA,ae oA,ag t] at b1 b2 b3 b5 b6;have l:=mk _ b1 b2 b3 b5 b6;obtain⟨n1,V⟩:=xK (p:=p) (q:=fgP 11 (nkP (drA p s) f) f) b1;have Z:=V t;obtain⟨o,n4,em⟩:=Md.da (f:=f) (fun p s x M N=>Md.drop m p s x M N) 16 _ l oA;refine⟨⟨o.ks,o.ds,?_,o.op,o.IL,o.tk⟩,oA⟩;obtain⟨A,a⟩:=o.keys;refine⟨A,a.em,fun i hi=>?_,a.key,a.up,a.one,a.us,a.gp⟩;rcases a.nd i hi with g|g|g
    ·exact .inl g
    ·exact .inr g
    ·have:=em (i%16) oA;rw[show f*16+i%16=i by have:=g.1;omega] at this;exact (hi this).elim
   ·have e:lsF (drF m) (drA p s) ((drA p s).k f) f=if (drA p s).k f=2∨(drA p s).k f=3 then utP (nkP (drA p s) f) f else if (drA p s).k f=4 then fgP 12 (nkP (drA p s) f) f else if (drA p s).k f=5 then fgP 11 (nkP (drA p s) f) f else if (drA p s).k f=6 then etP (nkP (drA p s) f) f else fgP 13 (dsP (nkP (drA p s) f) f) f:=by
     unfold lsF;rw[ae t,ae t]
    rw[e];obtain⟨n1,_⟩:=xK (p:=p) b1;have l:=mk _ b1 b2 b3 b5 b6;refine⟨⟨l.ks,l.ds,?_,l.op,l.IL,l.tk⟩,n1⟩;obtain⟨A,a⟩:=l.keys;exact⟨A,a.em,fun i hi=>(a.nd i hi).elim .inl fun g=>g.elim .inr fun g=>absurd g.2 t,a.key,a.up,a.one,a.us,a.gp⟩
