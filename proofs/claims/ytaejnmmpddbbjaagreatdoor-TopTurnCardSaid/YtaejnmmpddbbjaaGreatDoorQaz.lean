/- Qaz -/
import Derived.Test.YtaejnmmpddbbjaaGreatDoorQax
import Derived.Test.YtaejnmmpddbbjaaGreatDoorQay
set_option maxRecDepth 100000
set_option maxHeartbeats 16000000
namespace Go.Proofs.YtaejnmmpddbbjaaGreatDoor
namespace Wd
open Go.RowKit Mem Bw Nums Mmu
structure Rs (p q:PW):Prop where
 k:q.kinds=p.kinds
 s:q.IB=p.IB
 r:q.IE=p.IE
 l:q.ID=p.ID
 d:q.IF=p.IF
 t:q.time=p.time
theorem Rs.refl (p:PW):Rs p p:=⟨rfl,rfl,rfl,rfl,rfl,rfl⟩
theorem _root_.Go.Proofs.YtaejnmmpddbbjaaGreatDoor.dU:type_of% @Rs.refl:= @Rs.refl
theorem Rs.task {p q:PW} (h:Rs p q) (t k:Nat) (x:Int):Rs p (q.task t k x):=⟨h.k,h.s,h.r,h.l,h.d,h.t⟩
theorem Rs.wn {p q:PW} (h:Rs p q) (t n:Nat):Rs p (wnP q t n):=⟨h.k,h.s,h.r,h.l,h.d,h.t⟩
theorem Rs.ls {p q:PW} (h:Rs p q) {L R:List (List Int)} {B C:List Int}:Rs p {q with lines:=L,bits:=B,IC:=C,ready:=R}:=⟨h.k,h.s,h.r,h.l,h.d,h.t⟩
theorem Rs.trans {p q r:PW} (h:Rs p q) (g:Rs q r):Rs p r:=⟨g.k.trans h.k,g.s.trans h.s,g.r.trans h.r,g.l.trans h.l,g.d.trans h.d,g.t.trans h.t⟩
theorem Lw.tk {p q:PW} (h:Lw p) (x:Tk Nbd q) (e:Rs p q):Lw q:=by
 obtain⟨e1,e2,b,e4,e5,e6⟩:=e;obtain⟨r,j⟩:=h.m.keys;refine⟨⟨by rw[e1];exact h.m.ks,by rw[e5];exact h.m.ds,⟨r,j.to e1 e2⟩,fun n f=>?_,⟨by rw[b];exact h.m.IE.w,fun i hi=>?_⟩,x⟩,fun l hl=>?_,by rw[e6];exact h.tm⟩
 ·obtain⟨i,hi⟩:=h.m.op n (by show p.kinds.getD n 0≠0;rw[<-e1];exact f);exact⟨i,by show opn n (q.IB.getD i eS)=true;rw[e2];exact hi⟩
 ·rw[b] at hi;have g:=gw.1 (h.m.IE.e i hi);have c:∀a k,isB q a k=isB p a k:=fun a k=>by unfold isB fI;rw[e1]
  rw[show q.k (i/16)=p.k (i/16) by show q.kinds.getD _ 0=_;rw[e1],b];refine gw.2 ?_;rw[c,c,c];exact g
 ·rw[e4] at hl;exact (h.tl l hl).Jk fun e d=>(jz b e1 e).trans d
theorem Ca {l:List Int} (d:l.Nodup) {i:Nat} (hi:i<l.length):(∀z,z∈l.take i++l.drop (i+1)↔z∈l∧z≠l[i])∧(l.take i++l.drop (i+1)).Nodup:=by
 have e:l=l.take i++l[i]::l.drop (i+1):=by rw[<-List.drop_eq_getElem_cons hi,List.take_append_drop]
 have b:=d;rw[e,List.nodup_append,List.nodup_cons] at b;obtain⟨a,⟨b1,b2⟩,c⟩:=b;refine⟨fun z=>?_,?_⟩
 ·have m:z∈l↔z∈l.take i∨z=l[i]∨z∈l.drop (i+1):=by
   conv=>lhs;rw[e]
   rw[dA,bI]
  rw[dA,m];constructor
  ·rintro (y|y)
   ·exact⟨.inl y,fun g=>c z y _ (cP ..) g⟩
   ·exact⟨.inr (.inr y),fun g=>b1 (g▸y)⟩
  ·rintro⟨y|y|y,g⟩
   ·exact .inl y
   ·exact absurd y g
   ·exact .inr y
 ·rw[List.nodup_append];exact⟨a,b2,fun x f y h=>c x f y (List.mem_cons_of_mem _ h)⟩
theorem Tk.Ka {q:PW} (x:Tk Nbd q) {m:Int} {c:Nat} (d:c<q.IC.length) (b:q.co c= -1):∀k,k<=4->Tk Nbd (rnx q m c k)
 |0,_=>x
 |k+1,hk=>by
  unfold Wd.rnx;split
  ·rename_i h;obtain⟨i,e,hi⟩:=zE h;rw[e,af];have j:=av hi;obtain⟨t,et,_,n,o,f⟩:=x.q.rd _ _ j;have g:(t:Int)∈q.re (c*4+k):=by rw[<-et];exact j
   have a:=Ca (x.q.ru (c*4+k)) hi;have y:=x.q.Kb g (fun z=>by rw[<-et];exact a.1 z) a.2;have p:=x.num n;have f:(q.t t 18*4+q.t t 10).toNat=c*4+k:=f;have z:=y.core (c:=c) o (x.q.inr g).2.2.2.2.1 (by show q.t t 18=c;omega) d b;have l:(q.ready.getD (c*4+k) []).getD i 0=t:=by
    rw[aa,ac hi];exact et
   rw[l];exact x.Jx (L:=q.lines) (B:=q.bits) (R:=q.ready.set (c*4+k) ((q.re (c*4+k)).take i++(q.re (c*4+k)).drop (i+1))) (C:=q.IC.set c t) z
  ·exact x.Ka d b k oA
theorem kL {q:PW} {m:Int} {c:Nat}:∀k,Rs q (rnx q m c k)
 |0=>dU q
 |k+1=>by
  unfold Wd.rnx;split
  ·exact (dU q).ls
  ·exact kL k
theorem Lw.settle {p:PW} (h:Lw p) {c:Nat} (a:c<p.IC.length):Lw (rlP p c):=by
 have x:=h.m.tk;unfold rlP;split
 ·rename_i e0;exact h.tk (x.Ka a e0 4 oD) (kL 4)
 split
 ·exact h
 ·rename_i e0 _;obtain⟨t,et⟩:∃t:Nat,p.co c=t:=(x.q.c0 c).resolve_left e0
  rw[show p.IC.getD c (-1)=t from et,af];obtain⟨_,b,d,_⟩:=x.q.inc et;have y:Tk (Hnd t) {p with IC:=p.IC.set c (-1)}:=x.Jx (L:=p.lines) (B:=p.bits) (R:=p.ready) (x.q.JM et a);have z:=y.I4 (show p.t t 9≠5 by omega);exact h.tk (Tk.Ka (q:=wnP {p with IC:=p.IC.set c (-1)} t (rdN p t)) z (by show c<(p.IC.set c (-1)).length;simpa using a) (by show (p.IC.set c (-1)).getD c (-1)= -1;rw[dz a,ah rfl]) 4 oD) (Rs.trans (((dU p).ls (L:=p.lines) (R:=p.ready) (B:=p.bits) (C:=p.IC.set c (-1))).wn t (rdN p t)) (kL 4))
theorem Lw.start {p:PW} (h:Lw p) {t:Nat} (a:p.k t=6) (b:p.t t 9=0):Lw (wnP p t (rdN p t)):=h.tk (h.m.tk.start a b) ((dU p).wn _ _)
theorem Lw.stop {p:PW} (h:Lw p) {t:Nat} (a:p.k t=6):Lw (stP p t):=h.tk (h.m.tk.stop a) ⟨rfl,rfl,rfl,rfl,rfl,rfl⟩
theorem Lw.JQ {p:PW} (h:Lw p) {t:Nat} (a:p.k t=6) {b:Int} (c:0<=b∧b<=3):Lw (rkP p t b):=by
 have y:=h.m.tk.JQ a c;unfold rkP at y ⊢;split
 ·rename_i e;rw[ah e] at y;exact h.tk y ⟨rfl,rfl,rfl,rfl,rfl,rfl⟩
 ·rename_i e;rw[ae e] at y;exact h.tk y ((dU p).task _ _ _)
theorem Lw.Jn {p:PW} (h:Lw p) {t:Nat} (a:p.k t=6) {k:Nat} {v:Int} (hk:k<=8∨k=15∨k=16) (b:0<=v∧v<=65535):Lw (p.task t k v):=h.tk (h.m.tk.Jn a hk b) ((dU p).task _ _ _)
theorem GN {p:PW} {d:Nat} (x:Tk Nbd p):(fsV p d= -1∧∀m:Nat,(m:Int)∈p.li d->p.t m 9≠4)∨∃(u:Nat) (l:List Int),fsV p d=u∧p.li d=(u:Int)::l∧p.t u 9=4:=by
 unfold fsV
 cases hl:p.lines.getD d [] with
 |nil=>
  refine .inl ⟨rfl,fun m b=>?_⟩;rw[show p.li d=[] from hl] at b
  cases b
 |cons z l=>
  have c:z∈p.li d:=by rw[show p.li d=_ from hl];exact cP ..
  obtain⟨u,rfl,_⟩:=x.q.ln d z c;show ((if p.IA.getD ((u:Int)).toNat bl 9=4 then (u:Int) else -1)= -1∧_)∨_
  rw[af];by_cases a:p.t u 9=4
  ·rw[ah a];exact .inr ⟨u,l,by show (if p.IA.getD ((u:Int)).toNat bl 9=4 then (u:Int) else -1)=u;rw[af];exact ah a,hl,a⟩
  ·rw[ae a];exact .inl ⟨rfl,fun m b g=>a ((x.q.lw d m u b c).1 g)⟩
theorem Tk.JI {p:PW} (x:Tk Nbd p) {d:Nat} (a:p.k d=7):p.bi d=0∧d<p.lines.length:=⟨(x.q.bt d).elim id fun g=>by have:=g.1;omega,by rw[x.lf.lines];exact iS oA⟩
theorem vk {p q:PW} (h:Rs p q) {t a:Nat} {s:Int}:Rs p (ssP q t a s):=⟨h.k,h.s,h.r,h.l,h.d,h.t⟩
theorem vp (p:PW) (d u:Nat) (l:List Int) (b v:Int):Rs p (wdP p d u l b v):=by
 unfold wdP frP;exact ((((dU p).ls (L:=p.lines.set d l) (R:=p.ready) (B:=p.bits) (C:=p.IC)).task _ _ _).task _ _ _).task _ _ _ |>.wn _ _
theorem Lw.send {p:PW} (h:Lw p) {c t d:Nat} {b v:Int} {cl:Bool} (r:p.co c=t) (F:p.k d=7) (D:0<=b∧b<=65535) (K:0<=v∧v<=65535):Lw (snP p t d b v cl):=by
 have x:=h.m.tk;obtain⟨_,i,Y,_⟩:=x.q.inc r;have I:=x.tl i;obtain⟨b0,M⟩:=x.JI F;unfold snP;rw[af,af];rcases GN (d:=d) x with ⟨e,Q⟩|⟨u,l,e,hl,A⟩
 ·rw[ah e];have y:=(x.Jn i (k:=15) oD K).Jn i (k:=16) oD D;have T:∀m,((p.task t 15 v).task t 16 b).t m 9=p.t m 9:=fun m=>by rw[gi (by rw[ap];exact I),ae oA,gi I,ae oA]
  have H:pl (if cl then 3 else 2)=7:=by cases cl<;>rfl
  exact h.tk (y.JG (c:=c) (t:=t) (a:=d) (s:=if cl then 3 else 2) r (by cases cl<;>decide) (by cases cl<;>decide) M (by rw[H];decide) (by rw[H];exact F) b0 (fun m O=>by
   rw[T];have:=Q m O;exact⟨fun g=>by cases cl<;>simp at g,fun g=>absurd g this⟩) (by cases cl<;>(intro g;simp at g))) (vk (((dU p).task _ _ _).task _ _ _))
 ·rw[ae oA,e,af,show (p.lines.getD d []).tail=l by rw[show p.lines.getD d []=_ from hl];rfl];have y:=x.hand hl D K
  cases cl with
  |false=>exact h.tk y (vp _ _ _ _ _ _)
  |true=>
   have P:(u:Int)∈p.li d:=by rw[hl];exact cP ..
   obtain⟨_,J,Z,_⟩:=x.q.inl P;have f:=x.tl J;have G:u≠t:=fun g=>by rw[g] at A;omega
   have W:∀n j,j≠1->j≠2->j≠9->j≠14->(wdP p d u l b v).t n j=p.t n j:=fun n j S U V X=>by
    unfold wdP frP;rw[Br (by rw[ap,ap,ap];exact f),ae oA,ae oA,gi (by rw[ap,ap];exact f),ae oA,gi (by rw[ap];exact f),ae oA,gi (p:={p with lines:=p.lines.set d l}) f,ae oA]
   have z:∀n,(wdP p d u l b v).t n 9=if n=u then 1 else p.t n 9:=fun n=>by
    by_cases g:n=u
    ·rw[ah g];unfold wdP frP;rw[Br (by rw[ap,ap,ap];exact f),ae oA,ah ⟨g,rfl⟩]
    ·rw[ae g];unfold wdP frP;rw[Br (by rw[ap,ap,ap];exact f),ae oA,ae oA,gi (by rw[ap,ap];exact f),ae oA,gi (by rw[ap];exact f),ae oA,gi (p:={p with lines:=p.lines.set d l}) f,ae oA]
   have E:=r;have o:=y.off E;have N:=(x.o.ow u).elim id fun ⟨w,_,_,g⟩=>absurd A g;exact h.tk (o.ask (u:=u) J G (show (wdP p d u l b v).t t 9≠5 by rw[z,ae (fun g=>G g.symm)];omega) (show (wdP p d u l b v).t u 17= -1 by rw[W u 17 oD oD oD oD];exact N) (show (wdP p d u l b v).t u 9≠4 by rw[z,ah rfl];decide) (y.q.inc E).2.2.2.2.1) (((vp _ _ _ _ _ _).trans (((dU _).ls (L:=(wdP p d u l b v).lines) (R:=(wdP p d u l b v).ready) (B:=(wdP p d u l b v).bits) (C:=(wdP p d u l b v).IC.map (noT t))))).task _ _ _ |>.task _ _ _)
theorem GM {p:PW} {d:Nat} (x:Tk Nbd p):(fkV p d= -1∧∀m:Nat,(m:Int)∈p.li d->p.t m 9=4)∨∃(u:Nat) (l:List Int),fkV p d=u∧p.li d=(u:Int)::l∧p.t u 9≠4:=by
 unfold fkV
 cases hl:p.lines.getD d [] with
 |nil=>
  refine .inl ⟨rfl,fun m b=>?_⟩;rw[show p.li d=[] from hl] at b
  cases b
 |cons z l=>
  have c:z∈p.li d:=by rw[show p.li d=_ from hl];exact cP ..
  obtain⟨u,rfl,_⟩:=x.q.ln d z c;show ((if p.IA.getD ((u:Int)).toNat bl 9=4 then -1 else (u:Int))= -1∧_)∨_
  rw[af];by_cases a:p.t u 9=4
  ·rw[ah a];exact .inl ⟨rfl,fun m b=>(x.q.lw d m u b c).2 a⟩
  ·rw[ae a];exact .inr ⟨u,l,by show (if p.IA.getD ((u:Int)).toNat bl 9=4 then -1 else (u:Int))=u;rw[af];exact ae a,hl,a⟩
theorem Tk.word {h:Nat->Prop} {p:PW} (x:Tk h p) {u:Nat} (b:p.k u=6) {k:Nat} (hk:k<=8∨k=15∨k=16):0<=p.t u k∧p.t u k<=65535:=by
 have:=x.a.ok u b k oA;unfold fOk at this;rw[ah hk] at this;exact ay this
theorem uu (p:PW) (d t u:Nat) (l:List Int):Rs p (tkQ p d t u l):=by
 unfold tkQ;exact (((((dU p).ls (L:=p.lines.set d l) (R:=p.ready) (B:=p.bits) (C:=p.IC)).task _ _ _).task _ _ _).task _ _ _).task _ _ _ |>.task _ _ _
theorem Lw.take {p:PW} (h:Lw p) {c t d:Nat} (w:p.co c=t) (A:p.k d=7) (s:p.t t 17= -1):Lw (tkP p t d):=by
 have x:=h.m.tk;obtain⟨_,b,I,_⟩:=x.q.inc w;have E:=x.tl b;obtain⟨b0,G⟩:=x.JI A;unfold tkP;rw[af,af];rcases GM (d:=d) x with ⟨e,M⟩|⟨u,l,e,hl,H⟩
 ·rw[ah e];exact h.tk (x.JG w oD oD G oD A b0 (fun m J=>⟨fun _=>M m J,fun _=>rfl⟩) (fun _=>s)) (vk (dU p))
 ·rw[ae oA,e,af,show (p.lines.getD d []).tail=l by rw[show p.lines.getD d []=_ from hl];rfl];have L:(u:Int)∈p.li d:=by rw[hl];exact cP ..
  obtain⟨_,a,D,_⟩:=x.q.inl L;have f:=x.tl a;have r:p.t u 9≠5:=fun g=>D (by rw[g];rfl);have K:t≠u:=fun g=>D (by rw[<-g,I];rfl);have y:Tk (Hnd u) {p with lines:=p.lines.set d l}:=x.Jx (B:=p.bits) (R:=p.ready) (C:=p.IC) (x.q.front hl);have F:Tk (Hnd u) (tkQ p d t u l):=((((y.Jn b (k:=1) oD (x.word a (k:=16) oD)).Jn b (k:=2) oD (x.word a (k:=15) oD)).Jn a (k:=16) oD (v:=0) oD).Jn a (k:=15) oD (v:=0) oD).at' (-1);have W:∀n j,j≠1->j≠2->j≠15->j≠16->j≠14->(tkQ p d t u l).t n j=p.t n j:=fun n j N O o H r=>by
   unfold tkQ;rw[gi (by rw[ap,ap,ap,ap];exact f),ae oA,gi (by rw[ap,ap,ap];exact f),ae oA,gi (by rw[ap,ap];exact f),ae oA,gi (by rw[ap];exact E),ae oA,gi (p:={p with lines:=p.lines.set d l}) E,ae oA]
  have i:∀n,(tkQ p d t u l).t n 9=p.t n 9:=fun n=>W n 9 oD oD oD oD oD;by_cases o:p.t u 9=3
  ·rw[ah o];exact h.tk (F.ask (u:=t) b K (by rw[i];exact r) (by rw[W t 17 oD oD oD oD oD];exact s) (by rw[i];omega) (by
    unfold tkQ;rw[gi (by rw[ap,ap,ap,ap];exact f),ah ⟨rfl,rfl⟩])) ((uu p d t u l).task _ _ _ |>.task _ _ _)
  ·rw[ae o];have z:=F.I4 (by rw[i];exact r);rw[mW (W u 18 oD oD oD oD oD) (W u 10 oD oD oD oD oD)] at z;exact h.tk z ((uu p d t u l).wn _ _)
theorem TkO.free {p q:PW} (x:TkO p) {t u:Nat} (h:p.t t 17=u) (b:∀n,q.t n 17=if n=t then -1 else p.t n 17) (e9:∀n,q.t n 9=if n=u then 1 else p.t n 9):TkO q:=by
 refine⟨fun n=>?_,fun w a=>?_,fun n m w c d=>?_⟩
 ·rw[b];split
  ·exact .inl rfl
  ·rename_i e;rcases x.ow n with g|⟨v,f,j,k⟩
   ·exact .inl g
   ·refine .inr ⟨v,f,by rw[e9,ae (fun y:v=u=>e (x.ij n t u (by rw[f,y]) h))];exact j,?_⟩;rw[e9];split
    ·decide
    ·exact k
 ·rw[e9] at a;split at a
  ·cases a
  ·rename_i e;obtain⟨n,i⟩:=x.ak w a;exact⟨n,by rw[b,ae (fun y:n=t=>e (by rw[y,h] at i;omega))];exact i⟩
 ·rw[b] at c d;split at c
  ·omega
  ·split at d
   ·omega
   ·exact x.ij n m w c d
theorem Lw.answer {p:PW} (h:Lw p) {t:Nat} {v:Int} (r:p.k t=6) (s:p.t t 17≠ -1) (w:0<=v∧v<=65535):Lw (anP p t v):=by
 have x:=h.m.tk;have i:=x.tl r;obtain⟨u,e,f,C⟩:=(x.o.ow t).resolve_left s;have c:=dh fun g=>by rw[x.a.no u g 9 oD] at f;cases f
 have b:=x.tl c;unfold anP;rw[af,show p.IA.getD t bl 17=u from e,af];have d:u<(((p.task t 17 (-1)).task u 1 0).task u 2 v).IA.length:=by rw[ap,ap,ap];exact b
 have W:∀n j,j≠17->j≠1->j≠2->(((p.task t 17 (-1)).task u 1 0).task u 2 v).t n j=p.t n j:=fun n j z A B=>by
  rw[gi (by rw[ap,ap];exact b),ae oA,gi (by rw[ap];exact b),ae oA,gi i,ae oA]
 have l:=mW (W u 18 oD oD oD) (W u 10 oD oD oD);have a:=((x.a.Js i r (k:=17) (v:= -1) rfl).Js (by rw[ap];exact b) c (k:=1) (v:=0) rfl).Js (by rw[ap,ap];exact b) c (k:=2) (v:=v) (by show wB v=true;exact aA w);have q:=((x.q.J2 c (.inr f)).to (q:=((p.task t 17 (-1)).task u 1 0).task u 2 v) rfl (fun n _ j D=>W n j oA oA oA) rfl rfl rfl rfl).I4 d (by rw[l];exact (x.num c).2.2);rw[l] at q;have lf:LF (((p.task t 17 (-1)).task u 1 0).task u 2 v):=x.lf.of (e6:=by rw[ap,ap,ap]);refine h.tk ⟨lf.I4 _ _,a.I4 c d,x.o.free (t:=t) (u:=u) e (fun n=>?_) (fun n=>?_),q⟩ ((((dU p).task _ _ _).task _ _ _).task _ _ _ |>.wn _ _)
 ·rw[Br d,ae oA,ae oA,gi (by rw[ap,ap];exact b),ae oA,gi (by rw[ap];exact b),ae oA,gi i];by_cases g:n=t
  ·rw[ah g,ah ⟨g,rfl⟩]
  ·rw[ae g,ae (fun y=>g y.1)]
 ·rw[Br d];by_cases g:n=u
  ·rw[ah g,ae oA,ah ⟨g,rfl⟩]
  ·rw[ae g,ae (fun y=>g y.1),ae (fun y=>g y.1),W n 9 oD oD oD]
theorem Lw.ring {p:PW} (h:Lw p) {a:Nat} {g:Int} (c:p.k a=8) (f:0<=g∧g<=65535) (i:0<=bits .or .i64 (p.bi a) g∧bits .or .i64 (p.bi a) g<=65535):Lw (rgP p a g):=by
 have x:=h.m.tk;have e:a<p.bits.length:=by rw[x.lf.bits];exact iS oA
 unfold rgP;rw[af]
 cases hl:p.lines.getD a [] with
 |nil=>exact h.tk (x.Jx (L:=p.lines) (R:=p.ready) (C:=p.IC) (x.q.bit e (.inr ⟨c,hl,i⟩))) ((dU p).ls (L:=p.lines) (R:=p.ready) (C:=p.IC))
 |cons z l=>
  have j:z∈p.li a:=by rw[show p.li a=_ from hl];exact cP ..
  obtain⟨u,rfl,_⟩:=x.q.ln a z j;have y:=x.hand (d:=a) (u:=u) (l:=l) hl (b:=0) (v:=g) oD f;show Lw (wnP (((frP p a ((u:Int)).toNat l).task ((u:Int)).toNat 1 0).task ((u:Int)).toNat 2 g) ((u:Int)).toNat (rdN p ((u:Int)).toNat))
  rw[af];exact h.tk y (vp _ _ _ _ _ _)
theorem Lw.J7 {p:PW} (h:Lw p) {c t a:Nat} (j:p.co c=t) (i:p.k a=8):Lw (hbP p t a):=by
 have x:=h.m.tk;obtain⟨_,f,z,_⟩:=x.q.inc j;have s:a<p.bits.length:=by rw[x.lf.bits];exact iS oA
 have hl:a<p.lines.length:=by rw[x.lf.lines];exact iS oA
 unfold hbP;rw[af,af];split
 ·rename_i e;refine h.tk (x.JG j oD oD hl oD i e (fun m u=>⟨fun g=>(by cases g),fun g=>?_⟩) (fun g=>(by cases g))) (vk (dU p));obtain⟨_,o,r,w,_⟩:=x.q.inl u;obtain⟨b,l,d,_⟩:=x.q.la m o id r;rw[g,show b=a by omega,i] at d
  cases d
 ·rename_i e;obtain⟨l,d,n⟩:=(x.q.bt a).resolve_left e;have y:=(x.Jn f (k:=1) (v:=0) oD oD).Jn f (k:=2) oD n;exact h.tk (y.Jx (L:=p.lines) (R:=p.ready) (C:=p.IC) (B:=p.bits.set a 0) (y.q.bit (a:=a) (v:=0) s (.inl rfl)) (e8:=au ..)) ((((dU p).task t 1 0).task t 2 (p.bi a)).ls (L:=p.lines) (R:=p.ready) (C:=p.IC) (B:=p.bits.set a 0))
theorem yE:∀(n:Nat) (l:List Int) (a j:Nat),a+n<=l.length->(zr n l a).getD j 0=if a<=j∧j<a+n then 0 else l.getD j 0
 |0,l,a,j,_=>by rw[lD,ae oA]
 |n+1,l,a,j,h=>by
  rw[lC,yE n _ _ j (by rw[au];omega),dz oA];split
  ·rw[ah oA]
  ·split
   ·rw[ah oA]
   ·rw[ae oA]
theorem Bu:∀(n:Nat) (l:List Int) (a:Nat) (x:Int),x∈zr n l a->x=0∨x∈l
 |0,l,a,x,h=>by rw[lD] at h;exact .inr h
 |n+1,l,a,x,h=>by
  rw[lC] at h;rcases Bu n _ _ x h with h|h
  ·exact .inl h
  ·rcases aP h with h|h
   ·exact .inr h
   ·exact .inl h
theorem Fv (k f n:Int):nsl k f n 0=k∧nsl k f n 1=f∧nsl k f n 2=1∧nsl k f n 3=0∧nsl k f n 4=7∧nsl k f n 5=0∧nsl k f n 6=n:=⟨rfl,rfl,rfl,rfl,rfl,rfl,rfl⟩
theorem Dy (f:Nat->Int) (k:Nat):upd f k (f k)=f:=funext fun j=>by
 unfold upd;split
 ·rename_i e;rw[e]
 ·rfl
theorem Dz (f:Nat->Int) (k:Nat) (x y:Int):upd (upd f k x) k y=upd f k y:=funext fun j=>by
 unfold upd;split<;>rfl
theorem Al {l:List (Nat->Int)} {i:Nat} (h:i<l.length):l.set i (l.getD i eS)=l:=by
 rw[aa,ac h];exact cF h
def m1 (p:PW) (c:Nat) (k:Int) (b t:Nat):PW:={shP p b k with IB:=(p.IB.set t (nsl k (b:Int) (c:Int))).set c (upd (p.s c) 3 (p.s c 3+1))}
theorem Lw.JZ {p:PW} {c:Nat} {k:Int} {b t:Nat} (h:Lw p) (G:p.s c 0=1) (hb:(b:Int)=p.s c 1+p.s c 3) (hm:p.s c 3<p.s c 2) (hk:2<=k∧k<=8) (ht:t<p.IB.length) (B:p.s t 0=0) (aj:p.k (t/16)=5):Lw (m1 p c k b t):=by
 obtain⟨r,ks⟩:=h.m.keys;have lf:=h.m.tk.lf;have L:p.s c 0≠0:=oA;have ab:=rF L;have kc:=ks.key c L;have H:=mN kc.c L;have km:=H.m G;have Q:b<p.kinds.length:=by have:=kc.le;omega
 have Z:clI (b:Int) (p.s c)=true:=jq.2 ⟨G,oA,oA⟩;have X:=dh fun e=>by
  have:=ks.us b e c;unfold un at this;rw[Z,dF] at this;exact dp this oA
 have Y:c≠t:=fun e=>L (e▸B);obtain⟨n0,n1,T,n3,n4,n5,n6⟩:=Fv k (b:Int) (c:Int);have ai:(m1 p c k b t).IB.length=p.IB.length:=by unfold m1;simp
 generalize v:nsl k (b:Int) (c:Int)=N at*;have E:∀j,j≠3->upd (p.s c) 3 (p.s c 3+1) j=p.s c j:=fun j q=>ae q;have J:upd (p.s c) 3 (p.s c 3+1) 3=p.s c 3+1:=ah rfl;have S:∀j,(m1 p c k b t).s j=if j=c then upd (p.s c) 3 (p.s c 3+1) else if j=t then N else p.s j:=fun j=>by
  unfold m1;rw[v];show ((p.IB.set t N).set c _).getD j eS=_
  rw[dz (by rw[au];exact ab),dz ht]
 have K:∀n,(m1 p c k b t).k n=if n=b then k else p.k n:=fun n=>dz Q k 0 n
 generalize hC:upd (p.s c) 3 (p.s c 3+1)=C at*;have c0:=(E 0 oD).trans G;have c1:=E 1 oD;have c2:=E 2 oD;have R:(m1 p c k b t).kinds.length=p.kinds.length:=au ..;have O:∀a j,isB p a j=true->j≠0->isB (m1 p c k b t) a j=true:=fun a j d z=>pf (f:=b) (x:=k) rfl Q d fun e=>by
  obtain⟨f,e2,_,F⟩:=fJ d;rw[show f=b by omega,X] at F;exact z F.symm
 have o:∀j,j≠t->∀i,i≠3->(m1 p c k b t).s j i=p.s j i:=fun j q i hi=>by
  rw[S];split
  ·rename_i e;rw[e];exact E i hi
  ·rfl
 have st:(m1 p c k b t).s t=N:=by rw[S,ae (fun e=>Y e.symm),ah rfl]
 have I:(m1 p c k b t).s c=C:=by rw[S,ah rfl]
 have U:∀(n:Int) j,clI n ((m1 p c k b t).s j)=clI n (p.s j):=fun n j=>by
  by_cases e:j=t
  ·rw[e,st];unfold clI;rw[n0,B,beq_eq_false_iff_ne.2 (show k≠1 by omega)];rfl
  ·exact oL (o j e 0 oD) (o j e 1 oD) (o j e 2 oD)
 have aa:∀j,j≠t->(m1 p c k b t).s j 0≠0->p.s j 0≠0:=fun j e h=>by rw[<-o j e 0 oD];exact h
 have ac:∀u s,p.s u 0≠0->cmB (p.s u) s=true->cmB ((m1 p c k b t).s u) s=true:=fun u s hu d=>by
  by_cases e:u=c
  ·subst e;rw[kX G] at d;rw[I,kX c0,c1,J];exact⟨d.1,d.2.1,oA⟩
  ·rw[S,ae e,ae (fun e:u=t=>hu (e▸B))];exact d
 have ram:(m1 p c k b t).IE=zr 16 p.IE (b*16):=rfl;have kk:Ky (fun _=>False) (m1 p c k b t) (fun j=>if j=t then r c+1 else r j):=by
  refine⟨fun j q=>?_,fun j q=>?_,fun j q=>?_,fun j=>?_,fun n i j hi q=>?_,fun n v i=>?_,fun i d z A c'=>?_⟩
  ·by_cases e:j=t
   ·rw[e,st,n0] at q;omega
   ·have M:p.s j 0=0:=by rw[<-o j e 0 oD];exact q
    have e2:j≠c:=fun e=>L (e▸M);rw[S,ae e2,ae e];exact ks.em j M
  ·left
   have P:p.k (j/16)=5:=by
    by_cases e:j=t
    ·rw[e];exact aj
    ·exact (ks.nd j (aa j e q)).resolve_right id
   rw[K,ae (fun e=>by rw[e] at P;omega)];exact P
  ·by_cases e:j=t
   ·rw[e,st];have:=lf.k2;refine⟨zG ⟨by rw[n0];omega,by rw[n1];omega,by rw[T];decide,by rw[n1,T];omega,fun e=>oA,fun _=>⟨T,n3⟩,by rw[n4];decide,?_⟩,by rw[n1,T,R];omega,.inr ?_⟩
    ·rw[n0,n5];by_cases e:k=7∨k=8
     ·exact .inl ⟨e,oD⟩
     ·exact .inr ⟨e,rfl⟩
    ·rw[n1,n0,lp (by rw[R];exact Q),K,ah rfl];simp
   ·have M:=aa j e q;by_cases e2:j=c
    ·rw[e2,I];refine⟨zG ⟨by rw[c0];decide,by rw[c1];exact H.b,by rw[c2];exact H.l,by rw[c1,c2];exact H.bl,fun _=>by rw[J,c2];omega,fun e=>absurd c0 e,by rw[E 4 oD];exact H.r,by rw[c0,E 5 oD];have:=H.g;rw[G] at this;exact this⟩,by rw[c1,c2,R];exact kc.le,.inl c0⟩
    ·rw[S,ae e2,ae e];have:=ks.key j M;exact⟨this.c,by rw[R];exact this.le,this.is.elim .inl fun g=>.inr (O _ _ g M)⟩
  ·by_cases e:j=t
   ·refine .inr ⟨c,by rw[e,st];exact n6,by rw[I,c0];decide,?_,?_⟩
    ·rw[I,e,st,kX c0,n0,n1,c1,J];omega
    ·rw[ae Y,ah e];omega
   ·rw[o j e 6 oD];rcases ks.up j with d|⟨u,d,A,W,P⟩
    ·exact .inl d
    ·have ag:j≠c:=fun g=>oM W (by rw[g];exact G);refine .inr ⟨u,d,by rw[o u (fun g=>A (g▸B)) 0 oD];exact A,?_,?_⟩
     ·rw[show (m1 p c k b t).s j=p.s j by rw[S,ae ag,ae e]];exact ac u _ A W
     ·rw[ae (fun g:u=t=>A (g▸B)),ae e];exact P
  ·rw[U] at hi q;exact ks.one n i j hi q
  ·rw[K] at v;unfold un;rw[U]
   cases D:clI (n:Int) (p.s i) with
   |false=>rfl
   |true=>
    rw[dF];have hit:i≠t:=fun e=>by have:=(jq.1 D).1;rw[e,B] at this;cases this
    by_cases e:n=b
    ·have ad:=ks.one n i c D (by rw[e];exact Z);rw[ad,I,c1,J];exact aw oA
    ·rw[ae e] at v;have d:=ks.us n v i;unfold un at d;rw[D,dF] at d;have z:=dp d;rw[o i hit 1 oD];by_cases F:i=c
     ·rw[F,I,J];rw[F] at z;exact aw oA
     ·rw[S,ae F,ae hit];exact d
  ·rw[U];by_cases e:i=t
   ·rw[e,st,n6] at A;omega
   ·rw[o i e 0 oD] at d z;rw[o i e 6 oD] at A;rw[o i e 1 oD];exact ks.gp i d z A c'
 have op:Op (m1 p c k b t):=fun n v=>by
  rw[K] at v;by_cases e:n=b
  ·exact⟨t,by rw[st];exact hQ.2 ⟨oA,oA,by rw[n1,e]⟩⟩
  ·rw[ae e] at v;obtain⟨i,z⟩:=h.m.op n v;have hit:i≠t:=fun e=>(hQ.1 z).1 (e▸B);exact⟨i,by rw[jK (o i hit 0 oD) (o i hit 1 oD)];exact z⟩
 have hr:=lf.IE;have rg:∀j,(m1 p c k b t).IE.getD j 0=if b*16<=j∧j<b*16+16 then 0 else p.IE.getD j 0:=fun j=>by rw[ram,yE 16 _ _ _ oA]
 have V:(m1 p c k b t).IE.length=p.IE.length:=by rw[ram,ny]
 have nl:=h.m.tk.I9 (b:=b) oA;have tk:=h.m.tk.kind (k:=k) Q (h.m.tk.blank oA) (fun n v=>⟨fun g=>by have:=(h.m.tk.refs v).1 g;omega,fun g=>by have:=(h.m.tk.refs v).2.1 g;omega,fun g=>by have:=(h.m.tk.refs v).2.2 g;omega⟩) nl.1 nl.2;refine⟨⟨fun x D=>?_,h.m.ds,⟨_,kk⟩,op,⟨fun x D=>?_,fun j q=>?_⟩,tk.same (tk.lf.of (e4:=V) (e5:=ai))⟩,fun l hl=>(h.tl l hl).Jk fun e he=>ry h.m.IE lf (fun f hf=>O _ _ (by rw[lp (iS oA),hf];rfl) oD) V (fun i hi _=>?_) he,h.tm⟩
 ·rcases aP (show x∈p.kinds.set b k from D) with d|rfl
  ·exact h.m.ks x d
  ·omega
 ·rcases Bu 16 _ _ x (show x∈zr 16 p.IE (b*16) from D) with d|d
  ·omega
  ·exact h.m.IE.w x d
 ·have af:j<p.IE.length:=by rwa [V] at q
  rw[rg,K];by_cases e:b*16<=j∧j<b*16+16
  ·rw[ah e];exact gw.2 ⟨fun _=>.inl rfl,fun _=>.inl rfl⟩
  ·rw[ae e,ae oA];have g:=gw.1 (h.m.IE.e j af);exact gw.2 ⟨fun a=>(g.1 a).imp_right fun y=>O _ _ y oD,fun a=>(g.2 a).imp_right fun y=>y.elim (fun y=>.inl (O _ _ y oD)) (fun y=>.inr (O _ _ y oD))⟩
 ·rw[rg,ae];intro y;rw[show i/16=b by omega,X] at hi;omega
theorem Lw.free {p:PW} (h:Lw p) {c:Nat} (q:∀i,p.s i 6≠c) {n:Nat} (l:clI n (p.s c)=true):p.k n=0:=by
 obtain⟨r,b⟩:=h.m.keys;have go:∀m i,r i<m->opn (n:Int) (p.s i)=true->False:=by
  intro m
  induction m with
  |zero=>intro i hi;omega
  |succ m ih=>
   intro i hi g;obtain⟨t,v,o⟩:=hQ.1 g;rcases b.up i with d|⟨u,d,f,j,w⟩
   ·have:=b.gp i t v d c;rw[o,l] at this
    cases this
   ·by_cases a:p.s u 0=1
    ·rw[kX a,o] at j;have x:=(mN (b.key u f).c f).m a;have:u=c:=b.one n u c (jq.2 ⟨a,oA,oA⟩) l;exact q i (by rw[d,this])
    ·have:=(kA a).1 j;exact ih u oA (hQ.2 ⟨f,a,oA⟩)
 exact dh fun e=>by
  obtain⟨i,g⟩:=h.m.op n e;exact go (r i+1) i oA g
theorem Lw.reset {p:PW} {c:Nat} (h:Lw p) (z:p.s c 0=1) (B:∀i,p.s i 6≠c):Lw {p with IB:=p.IB.set c (upd (p.s c) 3 0)}:=by
 obtain⟨r,ks⟩:=h.m.keys;have w:p.s c 0≠0:=oA;have E:=rF w;have kc:=ks.key c w;have o:=mN kc.c w;have S:∀j,PW.s {p with IB:=p.IB.set c (upd (p.s c) 3 0)} j=if j=c then upd (p.s c) 3 0 else p.s j:=fun j=>dz E _ eS j
 have O:∀j k,k≠3->PW.s {p with IB:=p.IB.set c (upd (p.s c) 3 0)} j k=p.s j k:=fun j k hk=>by
  rw[S];split
  ·rename_i e;rw[e];exact ae hk
  ·rfl
 have q:∀j,j≠c->PW.s {p with IB:=p.IB.set c (upd (p.s c) 3 0)} j=p.s j:=fun j a=>by rw[S,ae a]
 have y:∀(n:Int) j,clI n (PW.s {p with IB:=p.IB.set c (upd (p.s c) 3 0)} j)=clI n (p.s j):=fun n j=>oL (O j 0 oD) (O j 1 oD) (O j 2 oD);refine h.IB oS ⟨r,fun j a=>?_,fun j a=>?_,fun j a=>?_,fun j=>?_,fun n i j hi a=>?_,fun n x i=>?_,fun i f t v C=>?_⟩ fun n x=>?_
 ·rw[O j 0 oD] at a;rw[q j fun e=>w (e▸a)];exact ks.em j a
 ·rw[O j 0 oD] at a;exact ks.nd j a
 ·rw[O j 0 oD] at a;by_cases e:j=c
  ·subst e;have d:∀k,k≠3->upd (p.s j) 3 0 k=p.s j k:=fun k hk=>ae hk;rw[S,ah rfl];exact⟨zG ⟨by rw[d 0 oD];exact o.k,by rw[d 1 oD];exact o.b,by rw[d 2 oD];exact o.l,by rw[d 1 oD,d 2 oD];exact o.bl,fun _=>by rw[d 2 oD];have:=o.l;exact⟨Int.le_refl _,by show (0:Int)<=_;omega⟩,fun e=>absurd ((d 0 oD).trans z) e,by rw[d 4 oD];exact o.r,by rw[d 0 oD,d 5 oD];exact o.g⟩,by rw[d 1 oD,d 2 oD];exact kc.le,.inl ((d 0 oD).trans z)⟩
  ·rw[q j e];have:=ks.key j a;exact⟨this.c,this.le,this.is⟩
 ·rw[O j 6 oD];rcases ks.up j with f|⟨u,f,v,A,D⟩
  ·exact .inl f
  ·refine .inr ⟨u,f,by rw[O u 0 oD];exact v,?_,D⟩;rw[q u (fun e=>B j (by rw[f,e])),q j (fun e=>oM A (by rw[e];exact z))];exact A
 ·rw[y] at hi a;exact ks.one n i j hi a
 ·unfold un;rw[y]
  cases hx:clI (n:Int) (p.s i) with
  |false=>rfl
  |true=>
   by_cases e:i=c
   ·subst e;exact absurd (h.free B hx) x
   ·have f:=ks.us n x i;unfold un at f;rw[hx] at f;rw[q i e];exact f
 ·rw[y,O i 1 oD];rw[O i 0 oD] at f t;rw[O i 6 oD] at v;exact ks.gp i f t v C
 ·obtain⟨i,t⟩:=h.m.op n x;exact⟨i,by rw[jK (O i 0 oD) (O i 1 oD)];exact t⟩
theorem Lw.unused {p:PW} {c b:Nat} (h:Lw p) (a:p.s c 0=1) (f:(b:Int)=p.s c 1+p.s c 3) (g:p.s c 3<p.s c 2):b<p.kinds.length∧p.k b=0:=by
 obtain⟨r,ks⟩:=h.m.keys;have d:p.s c 0≠0:=oA;have kc:=ks.key c d;have i:=(mN kc.c d).m a;refine⟨by have:=kc.le;omega,dh fun e=>?_⟩;have:=ks.us b e c;unfold un at this;rw[jq.2 ⟨a,oA,oA⟩,dF] at this;exact dp this oA
theorem Lw.makes {p:PW} {c t B:Nat} {k u:Int} (h:Lw {p with IB:=p.IB.set c (upd (p.s c) 3 u)}) (o:p.s c 0=1) (hB:(B:Int)=p.s c 1+u) (hk:2<=k∧k<=8) (D:p.k (t/16)=5):∀m:Nat,u+m<=p.s c 2->t%16+m<=16->t+m<=p.IB.length->(∀j,j<m->p.s (t+j) 0=0)->
  Lw {mkI p c k B t m with IB:=(mkI p c k B t m).IB.set c (upd (p.s c) 3 (u+m))}∧(mkI p c k B t m).k (t/16)=5:=by
 have v:p.s c 0≠0:=oA;have C:=rF v;intro m
 induction m with
 |zero=>exact fun _ _ _ _=>⟨by rw[show u+((0:Nat):Int)=u by omega];exact h,D⟩
 |succ m ih=>
  intro H I J i;obtain⟨b0,l⟩:=ih oA oA oA (fun j x=>i j oA);have hl:=(mR p c k B t m).2.2;have r:c<(mkI p c k B t m).IB.length:=by rw[hl];exact C
  have w:c≠t+m:=fun e=>v (by rw[e];exact i m oA);generalize d:({mkI p c k B t m with IB:=(mkI p c k B t m).IB.set c (upd (p.s c) 3 (u+m))}:PW)=q at b0;have g:q.IB=(mkI p c k B t m).IB.set c (upd (p.s c) 3 (u+m)):=by rw[<-d]
  have n:q.s c=upd (p.s c) 3 (u+m):=by show q.IB.getD c eS=_;rw[g,dz r,ah rfl]
  have f:q.s c 3=u+m:=by rw[n];exact ah rfl
  have a:∀j,j≠3->q.s c j=p.s c j:=fun j x=>by rw[n];exact ae x
  have G:q.s (t+m) 0=0:=by
   show (q.IB.getD (t+m) eS) 0=0
   rw[g,dz r,ae (fun e=>w e.symm),aa,xq p c k B t (t+m) m oA, <-aa];exact i m oA
  have E:q.k ((t+m)/16)=5:=by
   rw[show (t+m)/16=t/16 by omega];show q.kinds.getD _ 0=5
   rw[<-d];exact l
  have F:t+m<q.IB.length:=by rw[g,au,hl];omega
  have b1:=b0.JZ (c:=c) (k:=k) (b:=B+m) (t:=t+m) (by rw[a 0 oD];exact o) (by rw[a 1 oD,f];omega) (by rw[f,a 2 oD];omega) hk F G E;have e:m1 q c k (B+m) (t+m)={mkI p c k B t (m+1) with IB:=(mkI p c k B t (m+1)).IB.set c (upd (p.s c) 3 (u+((m+1:Nat):Int)))}:=by
   have z:(q.IB.set (t+m) (nsl k ((B+m:Nat):Int) (c:Int))).set c (upd (q.s c) 3 (q.s c 3+1))=((mkI p c k B t m).IB.set (t+m) (nsl k ((B+m:Nat):Int) (c:Int))).set c (upd (p.s c) 3 (u+((m+1:Nat):Int))):=by
    rw[f,n,Dz,g,List.set_comm _ _ w,eC,show u+m+1=u+((m+1:Nat):Int) by omega]
   unfold m1;rw[z, <-d];rfl
  have y:=b0.unused (c:=c) (b:=B+m) (by rw[a 0 oD];exact o) (by rw[a 1 oD,f];omega) (by rw[f,a 2 oD];omega);rw[e] at b1;refine⟨b1,?_⟩;have K:(mkI p c k B t m).k (B+m)=0:=by
   have:q.kinds.getD (B+m) 0=0:=y.2;rw[<-d] at this;exact this
  have A:B+m<(mkI p c k B t m).kinds.length:=by
   have:B+m<q.kinds.length:=y.1;rw[<-d] at this;exact this
  show ((mkI p c k B t m).kinds.set (B+m) k).getD (t/16) 0=5
  rw[dz A,ae (fun e=>by rw[e] at l;omega)];exact l
theorem EI {p:PW} {n:Nat} (h:frm p n=false):∀i,p.s i 6≠n:=fun i e=>by
 unfold frm at h;rw[bR] at h;rcases cU i p.IB.length with a|a
 ·have:=h _ (av a);rw[vg a] at this;exact this (by simpa using e)
 ·rw[FQ a] at e;have:(-1:Int)=n:=e;omega
theorem Lw.make {p:PW} {n k m t:Int} (h:Lw p) (a:mkE p n k m t=0):Lw (mkP p n k m t):=by
 unfold mkE at a;split at a
 case isFalse=>cases a
 rename_i h1;obtain⟨t,rfl,A⟩:=(show ∃n:Nat,t=n∧n<p.IB.length from⟨t.toNat,by have:=ay h1;omega,by have:=ay h1;omega⟩);by_cases g:clE p n=0
 case neg=>rw[ae g] at a;exact absurd a g
 rw[ah g] at a;split at a
 case isFalse=>cases a
 rename_i hk;have hk:=ay hk;by_cases d:fcE p (t:Int).toNat m=0
 case neg=>rw[ae d] at a;exact absurd a d
 rw[ah d] at a;split at a
 case isTrue=>cases a
 rename_i hroom;unfold clE at g;by_cases l:gI p n=0
 case neg=>rw[ae l] at g;exact absurd g l
 rw[ah l] at g;obtain⟨c,rfl,i,o⟩:=zq l;rw[af,jZ i] at g;split at g
 case isFalse=>cases g
 rename_i hc;rw[af] at d;unfold fcE at d;split at d
 case isFalse=>cases d
 rename_i h5;split at d
 case isFalse=>cases d
 rename_i r;have r:=ay r;split at d
 case isTrue=>cases d
 rename_i hus;obtain⟨m,rfl⟩:∃m':Nat,m=m':=⟨m.toNat,oA⟩
 rw[af] at hus;have z:=h.m.tk.lf.IB;have y:=iS (p:=p) (f:=t/16) (by show p.kinds.getD (t/16) 0≠0;omega);have u:∀j,j<m->p.s (t+j) 0=0:=fun j v=>dh fun e=>hus (by
  unfold usd;have hl:=rF e;refine List.any_eq_true.2 ⟨p.s (t+j),?_,by simpa using e⟩;rw[<-vg hl];refine List.mem_iff_getElem?.2 ⟨j,?_⟩;rw[List.getElem?_take,ah v,dQ,ac hl])
 have q:=(h.m.keys.choose_spec).key c o;have x:=(mN q.c o).m hc;have C:=(mN q.c o).b;rw[af,jZ i] at hroom;have w:0<=usV p c∧Lw {p with IB:=p.IB.set c (upd (p.s c) 3 (usV p c))}:=by
  unfold usV;rw[af,jZ i]
  cases hf:frm p c with
  |true=>
   rw[ah rfl,Dy,Al i];exact⟨x.1,h⟩
  |false=>
   rw[ae oD];exact⟨Int.le_refl _,h.reset hc (EI hf)⟩
 have hB:mkB p c=(p.s c 1+usV p c).toNat:=by unfold mkB;rw[af,jZ i]
 unfold mkP;rw[af,af,af,jZ i];exact (Lw.makes w.2 hc (B:=mkB p c) (by rw[hB];omega) hk h5 m oA oA oA u).1
