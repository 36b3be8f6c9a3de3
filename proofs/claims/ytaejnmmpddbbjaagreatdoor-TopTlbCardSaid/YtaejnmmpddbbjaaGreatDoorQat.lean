/- Qat -/
import Derived.Test.YtaejnmmpddbbjaaGreatDoorQas
set_option maxRecDepth 100000
set_option maxHeartbeats 16000000
namespace Go.Proofs.YtaejnmmpddbbjaaGreatDoor
namespace Wd
open Go.RowKit Mem Bw Nums Mmu
theorem DC (p:PW) (t n:Nat) (a:t<p.DY.length) (b:lvs t p.lines=p.lines) (c:p.D6.map (noT t)=p.D6):wkP p t n=wnP {p with ready:=lvs t p.ready} t n:=by
 unfold wkP wnP lvP PW.task;simp only;rw[kL _ t _ _ a,kL _ t _ _ a,d9,d9,nO _ 14 9 _ _ oD,b,c]
def srE (p:PW) (a:Int):Int:=if thE p a 6=0 then (if p.DY.getD a.toNat bl 9=0 then 0 else 7) else thE p a 6
def srP (p:PW) (a:Int):PW:=wnP p a.toNat (rdN p a.toNat)
def rkE (p:PW) (a b:Int):Int:=if thE p a 6=0 then (if ed 0 3 b then 0 else 2) else thE p a 6
def rkP (p:PW) (a b:Int):PW:=if p.DY.getD a.toNat bl 9=1∧inB a p.D6=false then wkP (p.task a.toNat 10 b) a.toNat (rdN (p.task a.toNat 10 b) a.toNat) else p.task a.toNat 10 b
theorem wT {p:PW} (h:Snd p) {t:Nat} (g:t<p.kinds.length) (hk:p.kinds[t]=6) (c:p.DY.getD t bl 9=1) (d:inB t p.D6=false):lvs t p.lines=p.lines∧cna t p.ready=1∧p.D6.map (noT t)=p.D6:=by
 obtain⟨_,_,_,b,a⟩:=ir h g hk;unfold srB at b;rw[c,af oD,al] at b;unfold rrB at a;rw[c,af rfl] at a;have e:cn t p.D6=0:=by
  unfold inB at d;have:=cH d;omega
 have f:cna t p.lines=0:=by have:=b.2;simpa using this
 have i:=eq_of_beq a;exact⟨iS f,oA,nA e⟩
theorem oV {p:PW} (h:Snd p) {t:Nat} (g:t<p.kinds.length) (hk:p.kinds[t]=6) (f:¬(p.DY.getD t bl 9=1∧inB t p.D6=false)):cna t p.ready=0:=by
 obtain⟨_,_,_,_,a⟩:=ir h g hk;unfold rrB at a;by_cases b:p.DY.getD t bl 9=1
 ·rw[b,af rfl] at a;have d:=eq_of_beq a;have c:¬inB t p.D6=false:=fun e=>f ⟨b,e⟩;unfold inB at c;simp only[decide_eq_false_iff_not,Classical.not_not] at c;omega
 ·rw[ae b] at a;have d:=eq_of_beq a;omega
def rfP (p:PW) (t:Nat) (b:Int):PW:=if 0<cna t p.ready then wnP (({p with ready:=lvs t p.ready}:PW).task t 10 b) t (rdN (p.task t 10 b) t) else ({p with ready:=lvs t p.ready}:PW).task t 10 b
theorem zA {p:PW} (h:Snd p) {t:Nat} (c:t<p.kinds.length) (hk:p.kinds[t]=6) (b:Int):rfP p t b=rkP p t b:=by
 have hl:t<p.DY.length:=by rw[h.lf.DY];exact c
 unfold rfP rkP;rw[ag];by_cases a:p.DY.getD t bl 9=1∧inB t p.D6=false
 ·obtain⟨d,f,e⟩:=wT h c hk a.1 a.2;rw[af oA,af a,DC (p.task t 10 b) t _ (by rw[am];exact hl) d e];rfl
 ·rw[ae a,ae (by rw[oV h c hk a];omega),iS (oV h c hk a)]
theorem jh (vb:Nat) (V:Nat->Value) (p:PW) (f:Int) (w:World) (e:gS w vb V p):
  Calls Tryz.prog 40 #[.pointer (some ⟨vb,0,none⟩),.int .i64 f] w fun r w'=>r=.returned (.int .i64 (thE p f 6))∧w=w':=by
 have c1:=r11 1 e.r;obtain⟨q,b,off,cap,e1,k,l⟩:=e.v.kinds;have hl:(p.kinds.length:Int)<=1000:=by have:=e.f.kinds;omega
 cases h1:frB p f with
 |false=>
  have c:=hid (show thE p f 6=2 by unfold thE;rw[h1];rfl);have i:=cH h1;by_cases m:f<0
  ·clear i;go_enter Tryz.func40,Tryz.ntmps40
   go_wp2_with fail
   go_ret
   exact⟨by rw[c.out];rfl,rfl⟩
  ·have n:(p.kinds.length:Int)<=f:=oA;go_enter Tryz.func40,Tryz.ntmps40
   go_wp2_with fail
   go_ret
   exact⟨by rw[c.out];rfl,rfl⟩
 |true=>
  have o:=ay h1;obtain⟨j,rfl⟩:∃j:Nat,f=j:=⟨f.toNat,oA⟩
  have g:j<p.kinds.length:=oA;have t:(j:Int)<(p.kinds.length:Int):=oA;have n0:¬((j:Int)<0):=oA;have n1:¬((p.kinds.length:Int)<=(j:Int)):=oA;obtain rfl:=k oA;have h:=l j g;have d:=hid (show thE p j 6=if p.kinds[j]=6 then 0 else 3 by
   unfold thE isB;rw[h1,af rfl,gJ g];by_cases a:p.kinds[j]=6
   ·rw[af a,a];rfl
   ·rw[ae a,ae (by simpa using a)])
  generalize p.kinds[j]=z at h d;by_cases a:z=6
  ·subst a;have c:=hid (show thE p j 6=0 by rw[d.out];rfl);go_enter Tryz.func40,Tryz.ntmps40
   go_wp2_with fail
   go_ret
   exact⟨by rw[c.out];rfl,rfl⟩
  ·have c:=hid (show thE p j 6=3 by rw[d.out,ae a]);have s:(z !=6)=true:=by simpa using a
   go_enter Tryz.func40,Tryz.ntmps40
   go_wp2_with fail
   go_ret
   exact⟨by rw[c.out];rfl,rfl⟩
theorem yQ {x:Int} {l:List Int} (h:inB x l=true):x∈l:=by
 refine cG fun e=>?_;have:=kT e;unfold inB at h;rw[this] at h
 cases h
theorem A0 {p:PW} {t:Nat} (h:inB t p.D6=true):∃c,p.co c=t:=by
 obtain⟨c,a,e⟩:=dm (yQ h);exact⟨c,by show p.D6.getD c (-1)=t;rw[aa,ac a];exact e⟩
theorem TkQ.prio {p:PW} (x:TkQ Nbd p) {t:Nat} (f:p.k t=6) (d:t<p.DY.length) (b:∀i,(t:Int)∉p.re i) (v:Int):TkQ Nbd (p.task t 10 v):=by
 have w:=x.wp f id;have e:∀j,j≠10->(p.task t 10 v).t t j=p.t t j:=fun j q=>by rw[fA d,ae (fun y=>q y.2)]
 refine x.ch t (fun _=>rfl) (fun n r j _=>by rw[fA d,ae (fun y=>r y.1)]) f (fun _ _=>Iff.rfl) (fun _ _ _=>Iff.rfl) (fun _ _ _=>Iff.rfl) (fun _ _ _ _=>Iff.rfl) x.c0 x.lu x.ru x.bt (.inr ⟨id,fun g=>?_,fun g=>?_,fun a g=>?_,fun a m l o=>?_,fun i g=>absurd g (b i),fun c g=>?_,fun g=>?_⟩)
 ·rw[e 9 oD] at g;rw[e 14 oD];exact w.a1 g
 ·rw[e 9 oD] at g ⊢;rw[e 14 oD];exact w.la g
 ·rw[e 9 oD,e 14 oD];exact w.ln a g
 ·rw[e 9 oD];by_cases h:m=t
  ·rw[h,e 9 oD]
  ·rw[fA d,ae (fun y=>h y.1)];exact w.lw a m l o
 ·rw[e 9 oD,e 18 oD];exact⟨(w.cr c g).1,(w.cr c g).2.1,b _⟩
 ·rw[e 9 oD] at g;rw[e 18 oD];exact .inr ((w.rq g).resolve_left (b _))
theorem xB {p:PW} {b:Int} (h:0<=b∧b<=3):fOk p 10 b=true:=by
 unfold fOk;rw[ae oA,ae oA,af oA];exact aD h
theorem Tk.FH {p:PW} (x:Tk Nbd p) {t:Nat} (f:p.k t=6) {b:Int} (r:0<=b∧b<=3):Tk Nbd (rkP p t b):=by
 have d:=x.tl f;unfold rkP;rw[ag];split
 ·rename_i e;have y:Tk (Hnd t) {p with lines:=lvs t p.lines,ready:=lvs t p.ready,D6:=p.D6.map (noT t)}:=x.Fj (B:=p.bits) (x.q.FG f);have z:=((y.Fe f (k:=10) (v:=b) (xB r) oD (.inl rfl) oA).at' (-1));have m:(((({p with lines:=lvs t p.lines,ready:=lvs t p.ready,D6:=p.D6.map (noT t)}:PW).task t 10 b).task t 14 (-1)).t t 9)=1:=by
   rw[fA (by rw[am];exact d),ae oA,fA (p:={p with lines:=lvs t p.lines,ready:=lvs t p.ready,D6:=p.D6.map (noT t)}) d,ae oA];exact e.1
  have A:=z.FJ (v:=1) oD oA oD oA;have h:t<((({p with lines:=lvs t p.lines,ready:=lvs t p.ready,D6:=p.D6.map (noT t)}:PW).task t 10 b).task t 14 (-1)).DY.length:=by rw[am,am];exact d
  have s:t<(({p with lines:=lvs t p.lines,ready:=lvs t p.ready,D6:=p.D6.map (noT t)}:PW).task t 10 b).DY.length:=by rw[am];exact d
  have u:=A.Fp (by rw[fA h,af ⟨rfl,rfl⟩]) (by rw[fA h,ae oA,fA s,af ⟨rfl,rfl⟩]);have l:∀j,j≠9->j≠14->(((({p with lines:=lvs t p.lines,ready:=lvs t p.ready,D6:=p.D6.map (noT t)}:PW).task t 10 b).task t 14 (-1)).task t 9 1).t t j=(p.task t 10 b).t t j:=fun j C D=>by
   rw[fA h,ae oA,fA s,ae oA];rfl
  rw[lE (l 18 oD oD) (l 10 oD oD)] at u;exact u
 ·rename_i e;refine⟨x.lf.of,x.a.Fe d f (xB r),x.o.to (fun n=>by rw[fA d,ae oA]) (fun n=>by rw[fA d,ae oA]),x.q.prio f d (fun i hi=>?_) b⟩;obtain⟨_,_,m,_,_,w,_⟩:=x.q.inr hi
  cases hx:inB t p.D6 with
  |true=>obtain⟨c,g⟩:=A0 hx;exact w c g
  |false=>exact e ⟨m,hx⟩
theorem TkO.stop {p q:PW} (x:TkO p) (t:Nat) (b:∀n,q.t n 17=if p.t n 17=t then -1 else p.t n 17) (e9:∀n,q.t n 9=if n=t then 0 else p.t n 9):TkO q:=by
 have d:∀n (u:Nat),q.t n 17=u->p.t n 17=u∧u≠t:=fun n u h=>by
  rw[b] at h;split at h<;>omega
 refine⟨fun n=>?_,fun u a=>?_,fun n m u j k=>x.ij n m u (d n u j).1 (d m u k).1⟩
 ·rw[b];split
  ·exact .inl rfl
  ·rename_i e;rcases x.ow n with g|⟨u,c,f,i⟩
   ·exact .inl g
   ·refine .inr ⟨u,c,by rw[e9,ae (fun y=>e (by rw[c,y]))];exact f,?_⟩;rw[e9];split
    ·decide
    ·exact i
 ·rw[e9] at a;split at a
  ·cases a
  ·rename_i e;obtain⟨n,l⟩:=x.ak u a;exact⟨n,by rw[b,ae oA];exact l⟩
theorem Dd {p:PW} {t:Nat} (n j:Nat):(p.DY.map (nOw t)).getD n bl j=if j=17∧p.t n 17=t then -1 else p.t n j:=by
 have e:(p.DY.map (nOw t)).getD n bl=nOw t (p.t n):=by
  show _=nOw t (p.DY.getD n bl)
  rw[aa,aa,cM]
  cases p.DY[n]? with
  |none=>exact (ae (show ¬bl 17=t from by show ¬(-1:Int)=t;omega)).symm
  |some f=>rfl
 rw[e];unfold nOw;by_cases h:p.t n 17=t
 ·rw[af h];show (if j=17 then (-1:Int) else p.t n j)=_
  by_cases a:j=17
  ·rw[af a,af ⟨a,h⟩]
  ·rw[ae a,ae (fun y=>a y.1)]
 ·rw[ae h,ae (fun y=>h y.2)]
theorem DO {p:PW} {t:Nat} (a:t<p.DY.length) (n j:Nat):(stP p t).t n j=if n=t∧j=14 then -1 else if n=t∧j=9 then 0 else if j=17∧p.t n 17=t then -1 else p.t n j:=by
 unfold stP;rw[fA (by rw[am];simpa using a),fA (by simpa using a)];split
 ·rfl
 ·split
  ·rfl
  ·exact Dd n j
theorem Tk.stop {p:PW} (x:Tk Nbd p) {t:Nat} (f:p.k t=6):Tk Nbd (stP p t):=by
 have h:=x.tl f;have T:=DO (p:=p) h;have hl:(stP p t).DY.length=p.DY.length:=by unfold stP;rw[am,am];simp
 refine⟨x.lf.of (e6:=hl) (e7:=by show (lvs t p.lines).length=_;simp[lvs]) (e9:=by show (lvs t p.ready).length=_;simp[lvs]) (e2:=by show (p.D6.map _).length=_;simp),⟨fun n c j d=>?_,fun n c j d=>?_⟩,x.o.stop t (fun n=>by rw[T,ae oA,ae oA];simp) (fun n=>by rw[T,ae oA];simp),?_⟩
 ·have g:n≠t:=fun e=>c (e▸f);have b:=x.a.no n c;rw[T,ae (fun y=>g y.1),ae (fun y=>g y.1),b 17 oD,ae (fun y=>by have:(-1:Int)=t:=y.2;omega)];exact b j d
 ·rw[T,oh (q:=stP p t) (p:=p) rfl (by show (p.D6.map _).length=_;simp)];split
  ·rename_i e;rw[e.2];rfl
  ·split
   ·rename_i e;rw[e.2];rfl
   ·split
    ·rename_i e;rw[e.1];rfl
    ·exact x.a.ok n c j d
 ·exact ((x.q.FG f).to (q:=stP p t) rfl (fun n c j d=>by
   rw[T,ae (fun y=>c y.1),ae (fun y=>c y.1),ae oA]) rfl rfl rfl rfl).rest (.inl (by rw[T,ae oA,af ⟨rfl,rfl⟩])) (by rw[T,af ⟨rfl,rfl⟩])
theorem Tk.off {p:PW} (x:Tk Nbd p) {c t:Nat} (a:p.co c=t):Tk (Hnd t) {p with D6:=p.D6.map (noT t)}:=x.Fj (L:=p.lines) (B:=p.bits) (R:=p.ready) (x.q.FY a)
theorem Tk.Fv {p:PW} (x:Tk Nbd p) {c t a:Nat} {s:Int} (d:p.co c=t) (w:0<=s∧s<=6) (n:s≠5) (r:a<p.lines.length) (v:pl s≠0) (hk:p.k a=pl s) (u:p.bi a=0) (A:∀m:Nat,(m:Int)∈p.li a->(s=4↔p.t m 9=4)) (j:s=4->p.t t 17= -1):Tk Nbd (ssP p t a s):=by
 obtain⟨_,o,D,_⟩:=x.q.inc d;have h:=x.tl o;have i:t<({p with D6:=p.D6.map (noT t)}:PW).DY.length:=h;have b:t<(({p with D6:=p.D6.map (noT t)}:PW).task t 9 s).DY.length:=by rw[am];exact h
 have y:=((x.off d).FJ w (show p.t t 9≠5 by omega) n j).at' a;have e9:((({p with D6:=p.D6.map (noT t)}:PW).task t 9 s).task t 14 a).t t 9=s:=by rw[fA b,ae oA,fA i,af ⟨rfl,rfl⟩]
 refine y.Fj (L:=p.lines.set a (p.li a++[(t:Int)])) (B:=p.bits) (R:=p.ready) (C:=p.D6.map (noT t)) (y.q.line r (by rw[e9];exact v) (by rw[fA b,af ⟨rfl,rfl⟩]) (by rw[e9];exact hk) u (fun m f=>?_)) (e7:=by simp;rfl);rw[e9];have g:m≠t:=fun e=>y.q.hl rfl |>.l a (e▸f)
 rw[fA b,ae (fun z=>g z.1),fA i,ae (fun z=>g z.1)];exact A m f
theorem Tk.hand {p:PW} (x:Tk Nbd p) {d u:Nat} {l:List Int} (e:p.li d=(u:Int)::l) {b v:Int} (f:0<=b∧b<=65535) (m:0<=v∧v<=65535):Tk Nbd (wdP p d u l b v):=by
 have i:(u:Int)∈p.li d:=by rw[e];exact cg ..
 obtain⟨_,a,h,_⟩:=x.q.inl i;have c:=x.tl a;have y:Tk (Hnd u) {p with lines:=p.lines.set d l}:=x.Fj (B:=p.bits) (R:=p.ready) (C:=p.D6) (x.q.front e);have n:=((y.at' (-1)).EX a (k:=1) oD f).EX a (k:=2) oD m;have T:∀j,j≠14->j≠1->j≠2->(((frP p d u l).task u 1 b).task u 2 v).t u j=p.t u j:=fun j o r s=>by
  unfold frP;rw[fA (by rw[am,am];exact c),ae oA,fA (by rw[am];exact c),ae oA,fA (p:={p with lines:=p.lines.set d l}) c,ae oA]
 have z:=Tk.Ex (p:=((frP p d u l).task u 1 b).task u 2 v) n (by rw[T 9 oD oD oD];exact fun g=>h (by rw[g];rfl));rw[lE (T 18 oD oD oD) (T 10 oD oD oD)] at z;exact z
theorem TkO.ask {p q:PW} (x:TkO p) {t u:Nat} (r:u≠t) (i:p.t t 9≠5) (o:p.t u 17= -1) (l:p.t u 9≠4) (c:∀n,q.t n 17=if n=u then (t:Int) else p.t n 17) (e9:∀n,q.t n 9=if n=t then 5 else p.t n 9):TkO q:=by
 have no:∀n,p.t n 17≠t:=fun n e=>(x.ow n).elim (fun g=>oA) fun ⟨v,h,d,_⟩=>i (by rwa [show t=v by omega]);refine⟨fun n=>?_,fun w f=>?_,fun n m w a b=>?_⟩
 ·rw[c];split
  ·rename_i e;exact .inr ⟨t,rfl,by rw[e9,af rfl],by rw[e9,ae oA,e];exact l⟩
  ·rcases x.ow n with g|⟨v,h,d,k⟩
   ·exact .inl g
   ·refine .inr ⟨v,h,by rw[e9,ae (fun (y:v=t)=>i (y▸d))];exact d,?_⟩;rw[e9];split
    ·decide
    ·exact k
 ·rw[e9] at f;split at f
  ·rename_i e;exact⟨u,by rw[c,af rfl,e]⟩
  ·obtain⟨n,j⟩:=x.ak w f;exact⟨n,by rw[c,ae (fun y=>by rw[y] at j;omega)];exact j⟩
 ·rw[c] at a b;split at a<;>split at b
  ·omega
  ·exact absurd (b.trans a.symm) (no m)
  ·exact absurd (a.trans b.symm) (no n)
  ·exact x.ij n m w a b
theorem Tk.ask {p:PW} {t u:Nat} (x:Tk (Hnd t) p) (b:p.k u=6) (l:u≠t) (h:p.t t 9≠5) (f:p.t u 17= -1) (g:p.t u 9≠4) (e:p.t t 14= -1):Tk Nbd ((p.task t 9 5).task u 17 t):=by
 have c:=x.tl x.hh;have d:=x.tl b;have T:∀n j,((p.task t 9 5).task u 17 t).t n j=if n=u∧j=17 then (t:Int) else if n=t∧j=9 then 5 else p.t n j:=fun n j=>by rw[fA (by rw[am];exact d),fA c]
 refine⟨x.lf.of (e6:=by rw[am,am]),(x.a.Fe c x.hh (k:=9) (v:=5) rfl).Fe (by rw[am];exact d) b (k:=17) rfl,x.o.ask l h f g (fun n=>by rw[T];simp) (fun n=>by rw[T,ae oA];simp),?_⟩;exact (x.q.to (q:=(p.task t 9 5).task u 17 t) rfl (fun n i j m=>by rw[T,ae oA,ae (fun y=>i y.1)]) rfl rfl rfl rfl).rest (.inr (by rw[T,ae oA,af ⟨rfl,rfl⟩])) (by rw[T,ae oA,ae oA];exact e)
theorem Tk.same {h:Nat->Prop} {p q:PW} (x:Tk h p) (lf:LF q) (e1:q.kinds=p.kinds:=by rfl) (e2:q.DY=p.DY:=by rfl) (b:q.lines=p.lines:=by rfl) (e4:q.bits=p.bits:=by rfl) (e5:q.D6=p.D6:=by rfl) (e6:q.ready=p.ready:=by rfl):Tk h q:=by
 have t:∀n,q.t n=p.t n:=fun n=>by show q.DY.getD n bl=_;rw[e2]
 exact⟨lf,x.a.to e1 e2 (by rw[e5]),x.o.to (fun n=>by rw[t]) (fun n=>by rw[t]),x.q.to e1 (fun n _ j _=>by rw[t]) b e4 e6 e5⟩
theorem Ay {p:PW} (h:1<=p.D6.length):∀j,fOk p j (bl j)=true
 |0|1|2|3|4|5|6|7|8|9|10|11|12|13|14|15|16|17|19=>rfl
 |18=>by show ed 0 ((p.D6.length:Int) - 1) 0=true;exact aD oA
 |n+20=>by
  unfold fOk;rw[ae oA,ae oA,ae oA,ae oA,ae oA,ae oA,ae oA]
theorem yG {p q:PW} (c:q.D6.length=p.D6.length) {j:Nat} {v:Int} (h:fOk p j v=true) (d:∀K,isB p v K=true->(j=11∧K=5∨j=12∧K=4∨j=13∧K=7)->isB q v K=true):fOk q j v=true:=by
 have g:∀K,fB p v K=true->(j=11∧K=5∨j=12∧K=4∨j=13∧K=7)->fB q v K=true:=fun K a b=>by
  unfold fB at a ⊢;rw[bT] at a ⊢;exact a.elim .inl fun a=>.inr (d K a b)
 unfold fOk at h ⊢;rw[c];split
 ·rename_i e;rwa [af e] at h
 rename_i e;rw[ae e] at h;split
 ·rename_i e;rwa [af e] at h
 rename_i e;rw[ae e] at h;split
 ·rename_i e;rwa [af e] at h
 rename_i e;rw[ae e] at h;split
 ·rename_i e;rwa [af e] at h
 rename_i e;rw[ae e] at h;split
 ·rename_i e;rw[af e] at h;exact g 5 h (.inl ⟨e,rfl⟩)
 rename_i e;rw[ae e] at h;split
 ·rename_i e;rw[af e] at h;exact g 4 h (.inr (.inl ⟨e,rfl⟩))
 rename_i e;rw[ae e] at h;split
 ·rename_i e;rw[af e] at h;exact g 7 h (.inr (.inr ⟨e,rfl⟩))
 ·rfl
theorem Tk.kind {p:PW} (x:Tk Nbd p) {b:Nat} {k:Int} (G:b<p.kinds.length) (b0:∀j,j<20->p.t b j=bl j) (I:∀n,p.k n=6->p.t n 11≠b∧p.t n 12≠b∧p.t n 13≠b) (hl:p.li b=[]) (hB:p.bi b=0):Tk Nbd {p with kinds:=p.kinds.set b k}:=by
 have K:∀n,PW.k {p with kinds:=p.kinds.set b k} n=if n=b then k else p.k n:=fun n=>dx G k 0 n
 have b9:=b0 9 oD;have D:∀n,p.k n=6->n≠b->PW.k {p with kinds:=p.kinds.set b k} n=6:=fun n h e=>by rw[K,ae e];exact h
 have B:∀n,PW.k {p with kinds:=p.kinds.set b k} n=6->n≠b->p.k n=6:=fun n h e=>by rw[K,ae e] at h;exact h
 refine⟨x.lf.of,⟨fun n u j A=>?_,fun n u j A=>?_⟩,x.o.to (fun _=>rfl) (fun _=>rfl),⟨fun n u=>u.elim,fun n w _ l=>?_,fun n w _ l=>?_,fun a z C=>?_,x.q.lu,x.q.lw,fun a=>?_,fun i z C=>?_,x.q.ru,fun c=>?_,fun n w _ l=>?_⟩⟩
 ·by_cases e:n=b
  ·rw[e];exact b0 j A
  ·rw[K,ae e] at u;exact x.a.no n u j A
 ·by_cases e:n=b
  ·show fOk _ j (p.t n j)=true
   rw[e,b0 j A];exact Ay (p:={p with kinds:=p.kinds.set b k}) x.lf.c1 j
  ·have E:=B n u e;obtain⟨J,M,N⟩:=I n E;show fOk {p with kinds:=p.kinds.set b k} j (p.t n j)=true
   refine yG (q:={p with kinds:=p.kinds.set b k}) (p:=p) rfl (x.a.ok n E j A) fun L a c=>?_;obtain⟨f,e1,e2,F⟩:=eU a;have H:f≠b:=fun g=>by
    rw[g] at e1;rcases c with ⟨rfl,_⟩|⟨rfl,_⟩|⟨rfl,_⟩
    ·exact J e1
    ·exact M e1
    ·exact N e1
   rw[e1,jZ (p:={p with kinds:=p.kinds.set b k}) (by show f<(p.kinds.set b k).length;simpa using e2),K,ae H,F];exact beq_self_eq_true _
 ·by_cases e:n=b
  ·show p.t n 14= -1
   rw[e];exact b0 14 oD
  ·exact x.q.a1 n (B n w e) id l
 ·have e:n≠b:=fun e=>l (by show pl (p.t n 9)=0;rw[e,b9];rfl);obtain⟨a,r,s,m⟩:=x.q.la n (B n w e) id l;refine⟨a,r,?_,m⟩;rw[K,ae]
  ·exact s
  ·intro y;rw[y,hl] at m
   cases m
 ·obtain⟨n,r,s,m,d,v⟩:=x.q.ln a z C;exact⟨n,r,s,D n m (fun e=>d (by rw[e,b9];rfl)),d,v⟩
 ·by_cases e:a=b
  ·left;show p.bi a=0;rw[e];exact hB
  ·rcases x.q.bt a with g|g
   ·exact .inl g
   ·exact .inr ⟨by rw[K,ae e];exact g.1,g.2⟩
 ·obtain⟨n,r,s,m,d,v⟩:=x.q.rd i z C;exact⟨n,r,s,D n m (fun e=>by rw[e,b9] at d;cases d),d,v⟩
 ·rcases x.q.cr c with g|⟨n,r,s,m,d,v⟩
  ·exact .inl g
  ·exact .inr ⟨n,r,s,D n m (fun e=>by rw[e,b9] at d;cases d),d,v⟩
 ·have e:n≠b:=fun e=>by have l:p.t n 9=1:=l;rw[e,b9] at l;cases l
  exact x.q.rq n (B n w e) id l
theorem Tk.blank {p:PW} (x:Tk Nbd p) {b:Nat} (c:p.k b≠6):∀j,j<20->p.t b j=bl j:=x.a.no b c
theorem Tk.EE {p:PW} (x:Tk Nbd p) {b:Nat} (h:p.k b≠7∧p.k b≠8):p.li b=[]∧p.bi b=0:=by
 refine⟨List.eq_nil_iff_forall_not_mem.2 fun z f=>?_,(x.q.bt b).elim id fun g=>absurd g.1 h.2⟩;obtain⟨n,rfl,d,e,c,i⟩:=x.q.ln b z f;obtain⟨a,e1,e2,_⟩:=x.q.la n e d c;obtain rfl:a=b:=oA;unfold pl at e2 c;split at e2
 ·exact h.1 e2
 ·split at e2
  ·exact h.2 e2
  ·simp_all
theorem Tk.refs {p:PW} (x:Tk Nbd p) {n:Nat} (b:p.k n=6) {f:Nat}:(p.t n 11=f->p.k f=5)∧(p.t n 12=f->p.k f=4)∧(p.t n 13=f->p.k f=7):=by
 have g:∀v K,fB p v K=true->v=(f:Int)->p.k f=K:=fun v K a e=>by
  unfold fB at a;rw[bT] at a;rcases a with a|a
  ·have:=eq_of_beq a;omega
  ·obtain⟨c,e1,_,d⟩:=eU a
   rwa [show f=c by omega]
 exact⟨g _ _ (x.a.ok n b 11 oD),g _ _ (x.a.ok n b 12 oD),g _ _ (x.a.ok n b 13 oD)⟩
theorem Cs {p:PW} {c:Nat} (b:c=11∨c=12∨c=13) (f n j:Nat):(fgP c p f).t n j=if j=c∧p.t n c=f then -1 else p.t n j:=by
 have e:(fgP c p f).t n=fg1 c f (p.t n):=by
  show (p.DY.map (fg1 c f)).getD n bl=fg1 c f (p.DY.getD n bl)
  rw[aa,aa,cM]
  cases p.DY[n]? with
  |none=>
   refine (ae (show ¬bl c=f from ?_)).symm;rcases b with rfl|rfl|rfl<;>(show ¬(-1:Int)=f;omega)
  |some g=>rfl
 rw[e];unfold fg1;by_cases h:p.t n c=f
 ·rw[af h];show (if j=c then (-1:Int) else p.t n j)=_
  by_cases a:j=c
  ·rw[af a,af ⟨a,h⟩]
  ·rw[ae a,ae (fun y=>a y.1)]
 ·rw[ae h,ae (fun y=>h y.2)]
theorem Tk.fg {p:PW} (x:Tk Nbd p) {c:Nat} (g:c=11∨c=12∨c=13) (f:Nat):Tk Nbd (fgP c p f):=by
 have T:=fun n j=>Cs (p:=p) g f n j;refine⟨x.lf.of (e6:=by show (p.DY.map _).length=_;simp),⟨fun n h j d=>?_,fun n h j d=>?_⟩,x.o.to (fun n=>by rw[T,ae oA]) (fun n=>by rw[T,ae oA]),x.q.to rfl (fun n _ j d=>by rw[T,ae oA]) rfl rfl rfl rfl⟩
 ·have b:=x.a.no n h;rw[T,ae,b j d];rintro⟨rfl,e⟩;rw[b j d] at e;rcases g with rfl|rfl|rfl<;>(have e:(-1:Int)=f:=e;omega)
 ·rw[T,oh (q:=fgP c p f) (p:=p) rfl rfl];split
  ·rename_i e;rw[e.1];rcases g with rfl|rfl|rfl<;>rfl
  ·exact x.a.ok n h j d
theorem pK:∀(l:List Int) (p q:PW),p.DY=q.DY->(l.foldl ds1 p).DY=(l.foldl ds1 q).DY
 |[],_,_,h=>h
 |z::l,p,q,h=>by
  rw[dL,dL];refine pK l _ _ ?_;unfold ds1 PW.task;simp only[h]
theorem Tk.F3 {f:Nat}:∀(l:List Int) {p:PW},Tk Nbd p->p.li f=l->Tk Nbd {l.foldl ds1 p with lines:=p.lines.set f []}
 |[],p,x,e=>by
  have h:p.lines.set f []=p.lines:=by
   rcases cd f p.lines.length with y|y
   ·have e2:p.lines[f]=[]:=by rw[<-e];show _=p.lines.getD f [];rw[aa,ac y];rfl
    rw[<-e2,cw]
   ·exact List.set_eq_of_length_le y
  show Tk Nbd {p with lines:=p.lines.set f []}
  rw[h];exact x
 |z::l,p,x,e=>by
  have i:z∈p.li f:=by rw[e];exact cg ..
  obtain⟨u,rfl,_⟩:=x.q.ln f z i;obtain⟨_,m,r,_⟩:=x.q.inl i;have c:=x.tl m;have n:f<p.lines.length:=by
   rcases cd f p.lines.length with y|y
   ·exact y
   ·have:p.li f=[]:=by show p.lines.getD f []=[];rw[aa,aF y];rfl
    rw[this] at e;cases e
  have y:Tk (Hnd u) {p with lines:=p.lines.set f l}:=x.Fj (B:=p.bits) (R:=p.ready) (C:=p.D6) (x.q.front e);have s:p.t u 9≠5:=fun g=>r (by rw[g];rfl);have b:=(y.FJ (v:=0) oD s oD (by intro g;cases g)).at' (-1);have d:u<(({p with lines:=p.lines.set f l}:PW).task u 9 0).DY.length:=by rw[am];exact c
  have w:Tk Nbd ((({p with lines:=p.lines.set f l}:PW).task u 9 0).task u 14 (-1)):=⟨b.lf,b.a,b.o,b.q.rest (.inl (by rw[fA d,ae oA,fA (p:={p with lines:=p.lines.set f l}) c,af ⟨rfl,rfl⟩])) (by rw[fA d,af ⟨rfl,rfl⟩])⟩;have j:=Tk.F3 l w (by show (p.lines.set f l).getD f []=l;rw[oF n,af rfl]);rw[fm] at j ⊢;rw[dL,pK l (ds1 p (u:Int)) ((({p with lines:=p.lines.set f l}:PW).task u 9 0).task u 14 (-1)) (by unfold ds1;rw[ag];rfl)];have e2:(p.lines.set f l).set f []=p.lines.set f []:=d9 ..;have k:Tk Nbd {p with DY:=(l.foldl ds1 ((({p with lines:=p.lines.set f l}:PW).task u 9 0).task u 14 (-1))).DY,lines:=(p.lines.set f l).set f []}:=j;rw[e2] at k;exact k
theorem Tk.ds {p:PW} (x:Tk Nbd p) {f:Nat} (c:f<p.lines.length):Tk Nbd (dsP p f)∧(dsP p f).li f=[]∧(dsP p f).bi f=0:=by
 have b:f<p.bits.length:=by rw[x.lf.bits, <-x.lf.lines];exact c
 have y:=x.F3 _ rfl (f:=f);have e:=fm (p.li f) p;have d:dsP p f={(p.li f).foldl ds1 p with lines:=p.lines.set f [],bits:=p.bits.set f 0}:=rfl;have g:Tk Nbd {(p.li f).foldl ds1 p with lines:=p.lines.set f [],bits:=p.bits.set f 0}:=by
  rw[e] at y ⊢;exact y.Fj (B:=p.bits.set f 0) (L:=p.lines.set f []) (R:=p.ready) (C:=p.D6) (y.q.bit (a:=f) (v:=0) b (.inl rfl)) (e7:=by simp) (e8:=by simp)
 rw[d];exact⟨g,by show (p.lines.set f []).getD f []=[];rw[oF c,af rfl],by show (p.bits.set f 0).getD f 0=0;rw[dx b,af rfl]⟩
theorem TkO.last {p q:PW} (x:TkO p) (t:Nat) (b:∀n,q.t n 17=if n=t∨p.t n 17=t then -1 else p.t n 17) (e9:∀n,q.t n 9=if n=t∨p.t t 17=n then 0 else p.t n 9):TkO q:=by
 have f:∀n (u:Nat),q.t n 17=u->p.t n 17=u∧n≠t∧u≠t:=fun n u h=>by
  rw[b] at h;split at h
  ·omega
  ·rename_i e;exact⟨h,fun y=>e (.inl y),fun y=>e (.inr (by rw[h,y]))⟩
 refine⟨fun n=>?_,fun u a=>?_,fun n m u k l=>x.ij n m u (f n u k).1 (f m u l).1⟩
 ·rw[b];split
  ·exact .inl rfl
  ·rename_i e;rcases x.ow n with g|⟨u,c,i,j⟩
   ·exact .inl g
   ·refine .inr ⟨u,c,?_,?_⟩
    ·rw[e9,ae]
     ·exact i
     ·rintro (y|y)
      ·exact e (.inr (by rw[c,y]))
      ·exact e (.inl (x.ij n t u c y))
    ·rw[e9];split
     ·decide
     ·exact j
 ·rw[e9] at a;split at a
  ·cases a
  ·rename_i e;obtain⟨n,d⟩:=x.ak u a;refine⟨n,?_⟩;rw[b,ae]
   ·exact d
   ·rintro (y|y)
    ·rw[y] at d;exact e (.inr d)
    ·exact e (.inl oA)
theorem DE {p:PW} {t:Nat} (a:t<p.DY.length) (f:p.t t 17= -1∨∃u:Nat,p.t t 17=u∧u<p.DY.length) (n j:Nat):(etP p t).t n j=if n=t then bl j else if j=9∧p.t t 17=n then 0 else if j=17∧p.t n 17=t then -1 else p.t n j:=by
 have hl:(stP p t).DY.length=p.DY.length:=by unfold stP;rw[am,am];simp
 have T:=DO (p:=p) a;show ((etP p t).DY.getD n bl) j=_
 have d:p.DY.getD t bl 17=p.t t 17:=rfl;unfold etP;rw[d];rcases f with h|⟨u,h,i⟩
 ·rw[af h];show (((stP p t).DY.set t bl).getD n bl) j=_
  rw[dx (by rw[hl];exact a),h];by_cases e:n=t
  ·rw[af e,af e]
  ·rw[ae e,ae e,ae oA];have:=T n j;rw[ae (fun y=>e y.1),ae (fun y=>e y.1)] at this;exact this
 ·rw[ae oA,h,ag];show ((((stP p t).task u 9 0).DY.set t bl).getD n bl) j=_
  rw[dx (by rw[am,hl];exact a)];by_cases e:n=t
  ·rw[af e,af e]
  ·rw[ae e,ae e];have b:=fA (p:=stP p t) (t:=u) (by rw[hl];exact i) 9 0 n j;have c:=T n j;rw[ae (fun y=>e y.1),ae (fun y=>e y.1)] at c;rw[c] at b;refine b.trans ?_;by_cases g:n=u∧j=9
   ·rw[af g,af oA]
   ·rw[ae g,ae (show ¬(j=9∧(u:Int)=n) by omega)]
theorem AP (p:PW) (t:Nat):(etP p t).DY.length=p.DY.length:=by
 have hl:(stP p t).DY.length=p.DY.length:=by unfold stP;rw[am,am];simp
 unfold etP;split
 ·show ((stP p t).DY.set t bl).length=_;rw[au];exact hl
 ·show (((stP p t).task _ 9 0).DY.set t bl).length=_;rw[au,am];exact hl
theorem tA (p:PW) (t:Nat):(etP p t).kinds=p.kinds∧(etP p t).lines=lvs t p.lines∧(etP p t).ready=lvs t p.ready∧(etP p t).D6=p.D6.map (noT t)∧(etP p t).bits=p.bits∧(etP p t).Eb=p.Eb∧(etP p t).DZ=p.DZ∧(etP p t).Ee=p.Ee∧(etP p t).D9=p.D9:=by
 unfold etP;split<;>exact⟨rfl,rfl,rfl,rfl,rfl,rfl,rfl,rfl,rfl⟩
theorem Tk.et {p:PW} (x:Tk Nbd p) {t:Nat} (A:p.k t=6):Tk Nbd (etP p t):=by
 have f:=x.tl A;have C:p.t t 17= -1∨∃u:Nat,p.t t 17=u∧u<p.DY.length:=(x.o.ow t).elim .inl fun ⟨u,a,b,_⟩=>.inr ⟨u,a,by
  rcases cd u p.DY.length with y|y
  ·exact y
  ·have:p.t u=bl:=by show p.DY.getD u bl=bl;rw[aa,aF y];rfl
   rw[this] at b;cases b⟩
 have T:=DE f C;obtain⟨e1,e2,l,e4,e5,e6,e7,e8,e9⟩:=tA p t;have c1:=x.lf.c1;refine⟨x.lf.of (by rw[e1]) (by rw[e4];simp) (by rw[e8]) (by rw[e6]) (by rw[e7]) (AP p t) (by rw[e2];simp[lvs]) (by rw[e5]) (by rw[l];simp[lvs]) (by rw[e9]),⟨fun n c j d=>?_,fun n c j d=>?_⟩,x.o.last t (fun n=>?_) (fun n=>?_),?_⟩
 ·have c:p.k n≠6:=by rw[show p.k n=(etP p t).k n by show p.kinds.getD n 0=_;rw[<-e1]];exact c
  have b:=x.a.no n c;have F:n≠t:=fun e=>c (e▸A);rw[T,ae F];split
  ·rename_i e;rw[e.1];rfl
  ·split
   ·rename_i e;rw[e.1];rfl
   ·exact b j d
 ·have c:p.k n=6:=by rw[show p.k n=(etP p t).k n by show p.kinds.getD n 0=_;rw[<-e1]];exact c
  rw[T,oh (q:=etP p t) (p:=p) e1 (by rw[e4];simp)];split
  ·exact Ay c1 j
  ·split
   ·rename_i e;rw[e.1];rfl
   ·split
    ·rename_i e;rw[e.1];rfl
    ·exact x.a.ok n c j d
 ·rw[T];by_cases e:n=t
  ·rw[af e,af (.inl e)];rfl
  ·rw[ae e,ae oA];by_cases g:p.t n 17=t
   ·rw[af ⟨rfl,g⟩,af (.inr g)]
   ·rw[ae (fun y=>g y.2),ae (fun y=>y.elim e g)]
 ·rw[T];by_cases e:n=t
  ·rw[af e,af (.inl e)];rfl
  ·rw[ae e];by_cases g:p.t t 17=n
   ·rw[af ⟨rfl,g⟩,af (.inr g)]
   ·rw[ae (fun y=>g y.2),ae oA,ae (fun y=>y.elim e g)]
 ·have y:=x.q.FG A;have z:TkQ (fun n=>n=t∨False) {p with lines:=lvs t p.lines,ready:=lvs t p.ready,D6:=p.D6.map (noT t)}:=by simpa using y
  have m:∀n,n≠t->∀j,j=10∨j=14∨j=18->(etP p t).t n j=p.t n j:=fun n c j d=>by rw[T,ae c,ae oA,ae oA]
  have w:∀n,n≠t->p.t t 17≠n->(etP p t).t n 9=p.t n 9:=fun n c h=>by rw[T,ae c,ae (fun y=>h y.2),ae oA]
  have i:∀j,(etP p t).t t j=bl j:=fun j=>by rw[T,af rfl]
  rcases C with h|⟨u,h,J⟩
  ·exact (y.to (q:=etP p t) e1 (fun n c j d=>by
    rcases d with rfl|d
    ·exact w n c oA
    ·exact m n c j d) e2 e5 l e4).rest (.inl (i 9)) (i 14)
  ·obtain⟨v,I,r,_⟩:=(x.o.ow t).resolve_left oA;obtain rfl:v=u:=oA;have D:=cG fun e=>by rw[x.a.no v e 9 oD] at r;cases r
   by_cases s:v=t
   ·exact (y.to (q:=etP p t) e1 (fun n c j d=>by
     rcases d with rfl|d
     ·exact w n c oA
     ·exact m n c j d) e2 e5 l e4).rest (.inl (i 9)) (i 14)
   ·have E:=x.q.a1 v D id (by rw[r];rfl);have G:TkQ Nbd ({p with lines:=lvs t p.lines,ready:=lvs t p.ready,D6:=p.D6.map (noT t),DY:=p.DY.set t bl}:PW):=(y.to (q:={p with lines:=lvs t p.lines,ready:=lvs t p.ready,D6:=p.D6.map (noT t),DY:=p.DY.set t bl}) rfl (fun n c j _=>by
     show ((p.DY.set t bl).getD n bl) j=_
     rw[dx f,ae c]) rfl rfl rfl rfl).rest (.inl (by show ((p.DY.set t bl).getD t bl) 9=0;rw[dx f,af rfl];rfl)) (by show ((p.DY.set t bl).getD t bl) 14= -1;rw[dx f,af rfl];rfl)
    have B:∀n j,PW.t {p with lines:=lvs t p.lines,ready:=lvs t p.ready,D6:=p.D6.map (noT t),DY:=p.DY.set t bl} n j=if n=t then bl j else p.t n j:=fun n j=>by
     show ((p.DY.set t bl).getD n bl) j=_
     rw[dx f];split<;>rfl
    have H:=G.FT (t:=v) D (.inr (by rw[B,ae s];exact r));exact (H.to (q:=etP p t) e1 (fun n c j d=>by
     rw[B];by_cases e:n=t
     ·rw[e,i,af rfl]
     ·rw[ae e];rcases d with rfl|d
      ·exact w n e (fun g=>c (by show n=v;omega))
      ·exact m n e j d) e2 e5 l e4).rest (.inl (by rw[T,ae s,af ⟨rfl,h⟩])) (by rw[m v s 14 oS];exact E)
structure Md (D:Nat->Prop) (p:PW):Prop where
 ks:∀k∈p.kinds,0<=k∧k<=8∧k≠1
 ds:∀d∈p.Ee,0<=d∧d<=3
 keys:∃r,Ky D p r
 op:Op p
 Eb:jM p
 tk:Tk Nbd p
