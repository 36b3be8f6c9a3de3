/- Qav -/
import Derived.Test.YtaejnmmpddbbjaaGreatDoorQau
set_option maxRecDepth 100000
set_option maxHeartbeats 16000000
namespace Go.Proofs.YtaejnmmpddbbjaaGreatDoor
namespace Wd
open Go.RowKit Mem Bw Nums Mmu
def tnV (p:PW):Int:=p.Ee.getD ((p.time/4)%(p.Ee.length:Int)).toNat 0
def dmB (p:PW) (m x:Int):Bool:=p.DY.getD x.toNat bl 19==m
theorem CY {α:Type} {f:α->Bool} {l:List α} (h:0<=ixP f l):∃i:Nat,ixP f l=i∧i<l.length:=by
 unfold ixP at h ⊢;by_cases a:l.findIdx f<l.length
 ·rw[af a];exact⟨_,rfl,a⟩
 ·rw[ae a] at h;omega
theorem zv {ls:List (List Int)} {k:Nat} {x:Int} {n:Nat} (h:∀l∈ls,l.length<=n):∀l∈ls.set k (ls.getD k []++[x]),l.length<=n+1:=fun l hl=>by
 rcases ba hl with a|a
 ·exact aB (h l a) (Nat.le_succ _)
 ·rw[a,av,aa]
  cases e:ls[k]? with
  |none=>simp
  |some l0=>exact Nat.succ_le_succ (h l0 (dG e))
theorem pj {p:PW} (h:p.Fits) (t k:Nat) (x:Int):(p.task t k x).Fits:=⟨h.Eb,h.kinds,h.DZ,by rw[am];exact h.DY,h.lines,h.line,h.bits,h.D6,h.ready,h.next,h.D9,h.Ee⟩
theorem xt {p:PW} (h:p.Fits) (a:∀l∈p.ready,l.length<=50) (t n:Nat):(wnP p t n).Fits:=
 ⟨h.Eb,h.kinds,h.DZ,(pj (pj h t 9 1) t 14 (-1)).DY,h.lines,h.line,h.bits,h.D6,by show (p.ready.set n _).length<=1000;rw[au];exact h.ready,fun l hl=>aB (zv a l hl) oA,h.D9,h.Ee⟩
theorem cb.Eg {W:World} {wb:Nat} {tag:Nat->Nat} {V:Nat->Value} {p:PW} (h:cb W wb tag V p) {g cap:Nat} (e:V 6=.slice (some ⟨g,0,none⟩) p.D6.length cap) {i:Nat} (hi:i<p.D6.length):W.cell? ⟨g,i,none⟩=some (.int .i64 (p.D6.getD i (-1)))∧W.frozen? ⟨g,i,none⟩=false:=by
 have a:=h.o.D6;rw[e] at a;exact⟨by rw[a.int hi,aa,ac hi,aT],a.frozen i⟩
theorem zB {p:PW} (h:Snd p):∀l∈p.ready,∀z∈l,0<=z∧z<(p.DY.length:Int):=by
 intro l hl z i;obtain⟨n,g,rfl⟩:=List.mem_iff_getElem.1 hl;have b:brB p n p.ready[n]=false:=h.b8 n g;unfold brB at b;rw[bS] at b;have e:=b z i;have c:rpB p z ((n:Int)/4) ((n:Int)%4)=true:=by simpa using e
 unfold rpB rdB at c;rw[al,al] at c;have a:=c.1.1;unfold isB eX at a;by_cases d:0<=z
 ·rw[af d] at a;have f:=eq_of_beq a;obtain⟨j,_⟩:=List.getElem?_eq_some_iff.1 f;rw[h.lf.DY];omega
 ·rw[ae d] at a
  cases a
theorem iX (wb:Nat) (tag:Nat->Nat) (V:Nat->Value) (p:PW) (W:World) (bt:cb W wb tag V p) (g:p.Fits) (B:1<=p.Ee.length) (C:0<=p.time∧p.time<=1000000):
  Calls Tryz.prog 80 #[.pointer (some ⟨wb,0,none⟩)] W fun r f=>r=.returned (.int .i64 (tnV p))∧∃n,f=W.drewN n:=by
 have l:=bg bt bt.o.time;obtain⟨s,q,e9⟩:=bt.o.Ee.form oA;have m:=bg bt e9;have c:=bt.o.Ee;rw[e9] at c;have w:(p.Ee.length:Int)<=1000:=by have:=g.Ee;omega
 have A:(p.time).tdiv 4=p.time/4:=bN oA;have h:(p.time/4).tmod (p.Ee.length:Int)=(p.time/4)%(p.Ee.length:Int):=cC oA;have x:0<=(p.time/4)%(p.Ee.length:Int):=Int.emod_nonneg _ oA;have z:(p.time/4)%(p.Ee.length:Int)<(p.Ee.length:Int):=Int.emod_lt_of_pos _ oA;obtain⟨j,d⟩:∃j:Nat,(p.time/4)%(p.Ee.length:Int)=j:=⟨((p.time/4)%(p.Ee.length:Int)).toNat,oA⟩
 have e:j<p.Ee.length:=oA;have v:(j:Int)<(p.Ee.length:Int):=oA;have i:=c.int e;have b:=hid (show tnV p=p.Ee[j] by unfold tnV;rw[d,ag,aa,ac e,aT]);generalize p.Ee[j]=y at i b;rw[d] at h;have E:((p.Ee.length:Int)==0)=false:=by simpa using show ¬((p.Ee.length:Int)=0) by omega
 have F:¬((p.Ee.length:Int)=0):=oA;have t:0<=p.time/4:=oA;have u:p.time/4<=250000:=oA;generalize p.time/4=G at*;go_enter Tryz.func80,Tryz.ntmps80
 go_upto_region 1 with fail
 go_quiet (fail)
 have a:=hid (show ∃n,W.drewN nq=W.drewN n from⟨nq,rfl⟩);generalize D:W.drewN nq=k at a ⊢;go_wp2_with fail
 go_ret
 exact⟨by rw[b.out];rfl,a.out⟩
theorem qw {w:World} {base:Nat} {v:Value} {zs:List Int} (l:w.ownsRow base 3 1 v zs.length (ec zs)) (h:base<=w.heap.size) (hl:zs.length<=1000) {b o c:Nat} {ys:List Int} (B:ys.length<=1000) (s:∀j (a:j<ys.length),w.cell? ⟨b,o+j,none⟩=some (.int .i64 ys[j])):
  ∃q d w',(Builtin.append_ #[22,22] 22 #[v,.slice (some ⟨b,o,none⟩) ys.length c]).run Tryz.prog w=.ok (.slice q (zs.length+ys.length) d) w'∧w'.ownsRow base 3 1 (.slice q (zs.length+ys.length) d) (zs++ys).length (ec (zs++ys))∧Below base w w':=by
 obtain⟨i,hi,A,u,z⟩:=eH jY;obtain⟨C,w',t,g,p,_⟩:=run_append_own (P:=Tryz.prog) w base 22 22 3 i (.int .i64 0) 1 8 Tryz.underlying22 hi A u z rfl oD v zs.length (ec zs) l ⟨b,o,none⟩ ys.length c (ec ys) (by unfold ec;simp) (fun j v a=>by
  unfold ec at a;rw[cM] at a
  cases e:ys[j]? with
  |none=>rw[e] at a;cases a
  |some y=>
   rw[e] at a
   cases a
   obtain⟨n,r⟩:=List.getElem?_eq_some_iff.1 e;have:=s j n;rw[r] at this;by_cases f:j=0
   ·subst f;simpa [Addr.add] using this
   ·simpa [Addr.add,f] using this) (fun x m=>by
  unfold ec at m;obtain⟨y,_,rfl⟩:=List.mem_map.1 m;rfl) (by unfold maxLen;omega) oA h
 obtain⟨q,cap,rfl⟩:=fZ g;have e:ec zs++ec ys=ec (zs++ys):=by unfold ec;simp
 exact⟨q,cap,w',t,by rw[<-e,av];exact g,(ai base w).grown p h (fun k hk=>(l.lt k hk).1)⟩
def rnx (q:PW) (m:Int) (c:Nat):Nat->PW
 |0=>q
 |k+1=>if 0<=ixP (dmB q m) (q.ready.getD (c*4+k) []) then {q with D6:=q.D6.set c ((q.ready.getD (c*4+k) []).getD (ixP (dmB q m) (q.ready.getD (c*4+k) [])).toNat 0),ready:=q.ready.set (c*4+k) ((q.ready.getD (c*4+k) []).take (ixP (dmB q m) (q.ready.getD (c*4+k) [])).toNat++(q.ready.getD (c*4+k) []).drop ((ixP (dmB q m) (q.ready.getD (c*4+k) [])).toNat+1))} else rnx q m c k
def rlP (p:PW) (c:Nat):PW:=if p.D6.getD c (-1)= -1 then rnx p (tnV p) c 4 else if dmB p (tnV p) (p.D6.getD c (-1)) then p else rnx (wnP {p with D6:=p.D6.set c (-1)} (p.D6.getD c (-1)).toNat (rdN p (p.D6.getD c (-1)).toNat)) (tnV p) c 4
structure Rs (p q:PW):Prop where
 k:q.kinds=p.kinds
 s:q.DZ=p.DZ
 r:q.Eb=p.Eb
 l:q.D9=p.D9
 d:q.Ee=p.Ee
 t:q.time=p.time
theorem Rs.refl (p:PW):Rs p p:=⟨rfl,rfl,rfl,rfl,rfl,rfl⟩
theorem _root_.Go.Proofs.YtaejnmmpddbbjaaGreatDoor.db:type_of% @Rs.refl:= @Rs.refl
theorem Rs.task {p q:PW} (h:Rs p q) (t k:Nat) (x:Int):Rs p (q.task t k x):=⟨h.k,h.s,h.r,h.l,h.d,h.t⟩
theorem Rs.wn {p q:PW} (h:Rs p q) (t n:Nat):Rs p (wnP q t n):=⟨h.k,h.s,h.r,h.l,h.d,h.t⟩
theorem Rs.ls {p q:PW} (h:Rs p q) {L R:List (List Int)} {B C:List Int}:Rs p {q with lines:=L,bits:=B,D6:=C,ready:=R}:=⟨h.k,h.s,h.r,h.l,h.d,h.t⟩
theorem Rs.trans {p q r:PW} (h:Rs p q) (g:Rs q r):Rs p r:=⟨g.k.trans h.k,g.s.trans h.s,g.r.trans h.r,g.l.trans h.l,g.d.trans h.d,g.t.trans h.t⟩
theorem Lw.tk {p q:PW} (h:Lw p) (x:Tk Nbd q) (e:Rs p q):Lw q:=by
 obtain⟨e1,e2,b,e4,e5,e6⟩:=e;obtain⟨r,j⟩:=h.m.keys;refine⟨⟨by rw[e1];exact h.m.ks,by rw[e5];exact h.m.ds,⟨r,j.to e1 e2⟩,fun n f=>?_,⟨by rw[b];exact h.m.Eb.w,fun i hi=>?_⟩,x⟩,fun l hl=>?_,by rw[e6];exact h.tm⟩
 ·obtain⟨i,hi⟩:=h.m.op n (by show p.kinds.getD n 0≠0;rw[<-e1];exact f);exact⟨i,by show opn n (q.DZ.getD i eS)=true;rw[e2];exact hi⟩
 ·rw[b] at hi;have g:=fF.1 (h.m.Eb.e i hi);have c:∀a k,isB q a k=isB p a k:=fun a k=>by unfold isB eX;rw[e1]
  rw[show q.k (i/16)=p.k (i/16) by show q.kinds.getD _ 0=_;rw[e1],b];refine fF.2 ?_;rw[c,c,c];exact g
 ·rw[e4] at hl;exact (h.tl l hl).ES fun e d=>(iP b e1 e).trans d
theorem yw {l:List Int} (d:l.Nodup) {i:Nat} (hi:i<l.length):(∀z,z∈l.take i++l.drop (i+1)↔z∈l∧z≠l[i])∧(l.take i++l.drop (i+1)).Nodup:=by
 have e:l=l.take i++l[i]::l.drop (i+1):=by rw[<-List.drop_eq_getElem_cons hi,List.take_append_drop]
 have b:=d;rw[e,List.nodup_append,List.nodup_cons] at b;obtain⟨a,⟨b1,b2⟩,c⟩:=b;refine⟨fun z=>?_,?_⟩
 ·have m:z∈l↔z∈l.take i∨z=l[i]∨z∈l.drop (i+1):=by
   conv=>lhs;rw[e]
   rw[dt,bM]
  rw[dt,m];constructor
  ·rintro (y|y)
   ·exact⟨.inl y,fun g=>c z y _ (cg ..) g⟩
   ·exact⟨.inr (.inr y),fun g=>b1 (g▸y)⟩
  ·rintro⟨y|y|y,g⟩
   ·exact .inl y
   ·exact absurd y g
   ·exact .inr y
 ·rw[List.nodup_append];exact⟨a,b2,fun x f y h=>c x f y (List.mem_cons_of_mem _ h)⟩
theorem Tk.F0 {q:PW} (x:Tk Nbd q) {m:Int} {c:Nat} (d:c<q.D6.length) (b:q.co c= -1):∀k,k<=4->Tk Nbd (rnx q m c k)
 |0,_=>x
 |k+1,hk=>by
  unfold Wd.rnx;split
  ·rename_i h;obtain⟨i,e,hi⟩:=CY h;rw[e,ag];have j:=aw hi;obtain⟨t,et,_,n,o,f⟩:=x.q.rd _ _ j;have g:(t:Int)∈q.re (c*4+k):=by rw[<-et];exact j
   have a:=yw (x.q.ru (c*4+k)) hi;have y:=x.q.F1 g (fun z=>by rw[<-et];exact a.1 z) a.2;have p:=x.num n;have f:(q.t t 18*4+q.t t 10).toNat=c*4+k:=f;have z:=y.core (c:=c) o (x.q.inr g).2.2.2.2.1 (by show q.t t 18=c;omega) d b;have l:(q.ready.getD (c*4+k) []).getD i 0=t:=by
    rw[aa,ac hi];exact et
   rw[l];exact x.Fj (L:=q.lines) (B:=q.bits) (R:=q.ready.set (c*4+k) ((q.re (c*4+k)).take i++(q.re (c*4+k)).drop (i+1))) (C:=q.D6.set c t) z
  ·exact x.F0 d b k oA
theorem jG {q:PW} {m:Int} {c:Nat}:∀k,Rs q (rnx q m c k)
 |0=>db q
 |k+1=>by
  unfold Wd.rnx;split
  ·exact (db q).ls
  ·exact jG k
theorem Lw.settle {p:PW} (h:Lw p) {c:Nat} (a:c<p.D6.length):Lw (rlP p c):=by
 have x:=h.m.tk;unfold rlP;split
 ·rename_i e0;exact h.tk (x.F0 a e0 4 oD) (jG 4)
 split
 ·exact h
 ·rename_i e0 _;obtain⟨t,et⟩:∃t:Nat,p.co c=t:=(x.q.c0 c).resolve_left e0
  rw[show p.D6.getD c (-1)=t from et,ag];obtain⟨_,b,d,_⟩:=x.q.inc et;have y:Tk (Hnd t) {p with D6:=p.D6.set c (-1)}:=x.Fj (L:=p.lines) (B:=p.bits) (R:=p.ready) (x.q.FD et a);have z:=y.Ex (show p.t t 9≠5 by omega);exact h.tk (Tk.F0 (q:=wnP {p with D6:=p.D6.set c (-1)} t (rdN p t)) z (by show c<(p.D6.set c (-1)).length;simpa using a) (by show (p.D6.set c (-1)).getD c (-1)= -1;rw[dx a,af rfl]) 4 oD) (Rs.trans (((db p).ls (L:=p.lines) (R:=p.ready) (B:=p.bits) (C:=p.D6.set c (-1))).wn t (rdN p t)) (jG 4))
theorem Lw.start {p:PW} (h:Lw p) {t:Nat} (a:p.k t=6) (b:p.t t 9=0):Lw (wnP p t (rdN p t)):=h.tk (h.m.tk.start a b) ((db p).wn _ _)
theorem Lw.stop {p:PW} (h:Lw p) {t:Nat} (a:p.k t=6):Lw (stP p t):=h.tk (h.m.tk.stop a) ⟨rfl,rfl,rfl,rfl,rfl,rfl⟩
theorem Lw.FH {p:PW} (h:Lw p) {t:Nat} (a:p.k t=6) {b:Int} (c:0<=b∧b<=3):Lw (rkP p t b):=by
 have y:=h.m.tk.FH a c;unfold rkP at y ⊢;split
 ·rename_i e;rw[af e] at y;exact h.tk y ⟨rfl,rfl,rfl,rfl,rfl,rfl⟩
 ·rename_i e;rw[ae e] at y;exact h.tk y ((db p).task _ _ _)
theorem Lw.EX {p:PW} (h:Lw p) {t:Nat} (a:p.k t=6) {k:Nat} {v:Int} (hk:k<=8∨k=15∨k=16) (b:0<=v∧v<=65535):Lw (p.task t k v):=h.tk (h.m.tk.EX a hk b) ((db p).task _ _ _)
theorem CV {p:PW} {d:Nat} (x:Tk Nbd p):(fsV p d= -1∧∀m:Nat,(m:Int)∈p.li d->p.t m 9≠4)∨∃(u:Nat) (l:List Int),fsV p d=u∧p.li d=(u:Int)::l∧p.t u 9=4:=by
 unfold fsV
 cases hl:p.lines.getD d [] with
 |nil=>
  refine .inl ⟨rfl,fun m b=>?_⟩;rw[show p.li d=[] from hl] at b
  cases b
 |cons z l=>
  have c:z∈p.li d:=by rw[show p.li d=_ from hl];exact cg ..
  obtain⟨u,rfl,_⟩:=x.q.ln d z c;show ((if p.DY.getD ((u:Int)).toNat bl 9=4 then (u:Int) else -1)= -1∧_)∨_
  rw[ag];by_cases a:p.t u 9=4
  ·rw[af a];exact .inr ⟨u,l,by show (if p.DY.getD ((u:Int)).toNat bl 9=4 then (u:Int) else -1)=u;rw[ag];exact af a,hl,a⟩
  ·rw[ae a];exact .inl ⟨rfl,fun m b g=>a ((x.q.lw d m u b c).1 g)⟩
theorem Tk.Fy {p:PW} (x:Tk Nbd p) {d:Nat} (a:p.k d=7):p.bi d=0∧d<p.lines.length:=⟨(x.q.bt d).elim id fun g=>by have:=g.1;omega,by rw[x.lf.lines];exact hZ oA⟩
theorem sH {p q:PW} (h:Rs p q) {t a:Nat} {s:Int}:Rs p (ssP q t a s):=⟨h.k,h.s,h.r,h.l,h.d,h.t⟩
theorem sR (p:PW) (d u:Nat) (l:List Int) (b v:Int):Rs p (wdP p d u l b v):=by
 unfold wdP frP;exact ((((db p).ls (L:=p.lines.set d l) (R:=p.ready) (B:=p.bits) (C:=p.D6)).task _ _ _).task _ _ _).task _ _ _ |>.wn _ _
theorem Lw.send {p:PW} (h:Lw p) {c t d:Nat} {b v:Int} {cl:Bool} (r:p.co c=t) (F:p.k d=7) (D:0<=b∧b<=65535) (K:0<=v∧v<=65535):Lw (snP p t d b v cl):=by
 have x:=h.m.tk;obtain⟨_,i,Y,_⟩:=x.q.inc r;have I:=x.tl i;obtain⟨b0,M⟩:=x.Fy F;unfold snP;rw[ag,ag];rcases CV (d:=d) x with ⟨e,Q⟩|⟨u,l,e,hl,A⟩
 ·rw[af e];have y:=(x.EX i (k:=15) oD K).EX i (k:=16) oD D;have T:∀m,((p.task t 15 v).task t 16 b).t m 9=p.t m 9:=fun m=>by rw[fA (by rw[am];exact I),ae oA,fA I,ae oA]
  have H:pl (if cl then 3 else 2)=7:=by cases cl<;>rfl
  exact h.tk (y.Fv (c:=c) (t:=t) (a:=d) (s:=if cl then 3 else 2) r (by cases cl<;>decide) (by cases cl<;>decide) M (by rw[H];decide) (by rw[H];exact F) b0 (fun m O=>by
   rw[T];have:=Q m O;exact⟨fun g=>by cases cl<;>simp at g,fun g=>absurd g this⟩) (by cases cl<;>(intro g;simp at g))) (sH (((db p).task _ _ _).task _ _ _))
 ·rw[ae oA,e,ag,show (p.lines.getD d []).tail=l by rw[show p.lines.getD d []=_ from hl];rfl];have y:=x.hand hl D K
  cases cl with
  |false=>exact h.tk y (sR _ _ _ _ _ _)
  |true=>
   have P:(u:Int)∈p.li d:=by rw[hl];exact cg ..
   obtain⟨_,J,Z,_⟩:=x.q.inl P;have f:=x.tl J;have G:u≠t:=fun g=>by rw[g] at A;omega
   have W:∀n j,j≠1->j≠2->j≠9->j≠14->(wdP p d u l b v).t n j=p.t n j:=fun n j S U V X=>by
    unfold wdP frP;rw[yf (by rw[am,am,am];exact f),ae oA,ae oA,fA (by rw[am,am];exact f),ae oA,fA (by rw[am];exact f),ae oA,fA (p:={p with lines:=p.lines.set d l}) f,ae oA]
   have z:∀n,(wdP p d u l b v).t n 9=if n=u then 1 else p.t n 9:=fun n=>by
    by_cases g:n=u
    ·rw[af g];unfold wdP frP;rw[yf (by rw[am,am,am];exact f),ae oA,af ⟨g,rfl⟩]
    ·rw[ae g];unfold wdP frP;rw[yf (by rw[am,am,am];exact f),ae oA,ae oA,fA (by rw[am,am];exact f),ae oA,fA (by rw[am];exact f),ae oA,fA (p:={p with lines:=p.lines.set d l}) f,ae oA]
   have E:=r;have o:=y.off E;have N:=(x.o.ow u).elim id fun ⟨w,_,_,g⟩=>absurd A g;exact h.tk (o.ask (u:=u) J G (show (wdP p d u l b v).t t 9≠5 by rw[z,ae (fun g=>G g.symm)];omega) (show (wdP p d u l b v).t u 17= -1 by rw[W u 17 oD oD oD oD];exact N) (show (wdP p d u l b v).t u 9≠4 by rw[z,af rfl];decide) (y.q.inc E).2.2.2.2.1) (((sR _ _ _ _ _ _).trans (((db _).ls (L:=(wdP p d u l b v).lines) (R:=(wdP p d u l b v).ready) (B:=(wdP p d u l b v).bits) (C:=(wdP p d u l b v).D6.map (noT t))))).task _ _ _ |>.task _ _ _)
theorem CR {p:PW} {d:Nat} (x:Tk Nbd p):(fkV p d= -1∧∀m:Nat,(m:Int)∈p.li d->p.t m 9=4)∨∃(u:Nat) (l:List Int),fkV p d=u∧p.li d=(u:Int)::l∧p.t u 9≠4:=by
 unfold fkV
 cases hl:p.lines.getD d [] with
 |nil=>
  refine .inl ⟨rfl,fun m b=>?_⟩;rw[show p.li d=[] from hl] at b
  cases b
 |cons z l=>
  have c:z∈p.li d:=by rw[show p.li d=_ from hl];exact cg ..
  obtain⟨u,rfl,_⟩:=x.q.ln d z c;show ((if p.DY.getD ((u:Int)).toNat bl 9=4 then -1 else (u:Int))= -1∧_)∨_
  rw[ag];by_cases a:p.t u 9=4
  ·rw[af a];exact .inl ⟨rfl,fun m b=>(x.q.lw d m u b c).2 a⟩
  ·rw[ae a];exact .inr ⟨u,l,by show (if p.DY.getD ((u:Int)).toNat bl 9=4 then -1 else (u:Int))=u;rw[ag];exact ae a,hl,a⟩
theorem Tk.word {h:Nat->Prop} {p:PW} (x:Tk h p) {u:Nat} (b:p.k u=6) {k:Nat} (hk:k<=8∨k=15∨k=16):0<=p.t u k∧p.t u k<=65535:=by
 have:=x.a.ok u b k oA;unfold fOk at this;rw[af hk] at this;exact ay this
theorem rV (p:PW) (d t u:Nat) (l:List Int):Rs p (tkQ p d t u l):=by
 unfold tkQ;exact (((((db p).ls (L:=p.lines.set d l) (R:=p.ready) (B:=p.bits) (C:=p.D6)).task _ _ _).task _ _ _).task _ _ _).task _ _ _ |>.task _ _ _
theorem Lw.take {p:PW} (h:Lw p) {c t d:Nat} (w:p.co c=t) (A:p.k d=7) (s:p.t t 17= -1):Lw (tkP p t d):=by
 have x:=h.m.tk;obtain⟨_,b,I,_⟩:=x.q.inc w;have E:=x.tl b;obtain⟨b0,G⟩:=x.Fy A;unfold tkP;rw[ag,ag];rcases CR (d:=d) x with ⟨e,M⟩|⟨u,l,e,hl,H⟩
 ·rw[af e];exact h.tk (x.Fv w oD oD G oD A b0 (fun m J=>⟨fun _=>M m J,fun _=>rfl⟩) (fun _=>s)) (sH (db p))
 ·rw[ae oA,e,ag,show (p.lines.getD d []).tail=l by rw[show p.lines.getD d []=_ from hl];rfl];have L:(u:Int)∈p.li d:=by rw[hl];exact cg ..
  obtain⟨_,a,D,_⟩:=x.q.inl L;have f:=x.tl a;have r:p.t u 9≠5:=fun g=>D (by rw[g];rfl);have K:t≠u:=fun g=>D (by rw[<-g,I];rfl);have y:Tk (Hnd u) {p with lines:=p.lines.set d l}:=x.Fj (B:=p.bits) (R:=p.ready) (C:=p.D6) (x.q.front hl);have F:Tk (Hnd u) (tkQ p d t u l):=((((y.EX b (k:=1) oD (x.word a (k:=16) oD)).EX b (k:=2) oD (x.word a (k:=15) oD)).EX a (k:=16) oD (v:=0) oD).EX a (k:=15) oD (v:=0) oD).at' (-1);have W:∀n j,j≠1->j≠2->j≠15->j≠16->j≠14->(tkQ p d t u l).t n j=p.t n j:=fun n j N O o H r=>by
   unfold tkQ;rw[fA (by rw[am,am,am,am];exact f),ae oA,fA (by rw[am,am,am];exact f),ae oA,fA (by rw[am,am];exact f),ae oA,fA (by rw[am];exact E),ae oA,fA (p:={p with lines:=p.lines.set d l}) E,ae oA]
  have i:∀n,(tkQ p d t u l).t n 9=p.t n 9:=fun n=>W n 9 oD oD oD oD oD;by_cases o:p.t u 9=3
  ·rw[af o];exact h.tk (F.ask (u:=t) b K (by rw[i];exact r) (by rw[W t 17 oD oD oD oD oD];exact s) (by rw[i];omega) (by
    unfold tkQ;rw[fA (by rw[am,am,am,am];exact f),af ⟨rfl,rfl⟩])) ((rV p d t u l).task _ _ _ |>.task _ _ _)
  ·rw[ae o];have z:=F.Ex (by rw[i];exact r);rw[lE (W u 18 oD oD oD oD oD) (W u 10 oD oD oD oD oD)] at z;exact h.tk z ((rV p d t u l).wn _ _)
theorem TkO.free {p q:PW} (x:TkO p) {t u:Nat} (h:p.t t 17=u) (b:∀n,q.t n 17=if n=t then -1 else p.t n 17) (e9:∀n,q.t n 9=if n=u then 1 else p.t n 9):TkO q:=by
 refine⟨fun n=>?_,fun w a=>?_,fun n m w c d=>?_⟩
 ·rw[b];split
  ·exact .inl rfl
  ·rename_i e;rcases x.ow n with g|⟨v,f,j,k⟩
   ·exact .inl g
   ·refine .inr ⟨v,f,by rw[e9,ae (fun y:v=u=>e (x.ij n t u (by rw[f,y]) h))];exact j,?_⟩;rw[e9];split
    ·decide
    ·exact k
 ·rw[e9] at a;split at a
  ·cases a
  ·rename_i e;obtain⟨n,i⟩:=x.ak w a;exact⟨n,by rw[b,ae (fun y:n=t=>e (by rw[y,h] at i;omega))];exact i⟩
 ·rw[b] at c d;split at c
  ·omega
  ·split at d
   ·omega
   ·exact x.ij n m w c d
theorem Lw.answer {p:PW} (h:Lw p) {t:Nat} {v:Int} (r:p.k t=6) (s:p.t t 17≠ -1) (w:0<=v∧v<=65535):Lw (anP p t v):=by
 have x:=h.m.tk;have i:=x.tl r;obtain⟨u,e,f,C⟩:=(x.o.ow t).resolve_left s;have c:=cG fun g=>by rw[x.a.no u g 9 oD] at f;cases f
 have b:=x.tl c;unfold anP;rw[ag,show p.DY.getD t bl 17=u from e,ag];have d:u<(((p.task t 17 (-1)).task u 1 0).task u 2 v).DY.length:=by rw[am,am,am];exact b
 have W:∀n j,j≠17->j≠1->j≠2->(((p.task t 17 (-1)).task u 1 0).task u 2 v).t n j=p.t n j:=fun n j z A B=>by
  rw[fA (by rw[am,am];exact b),ae oA,fA (by rw[am];exact b),ae oA,fA i,ae oA]
 have l:=lE (W u 18 oD oD oD) (W u 10 oD oD oD);have a:=((x.a.Fe i r (k:=17) (v:= -1) rfl).Fe (by rw[am];exact b) c (k:=1) (v:=0) rfl).Fe (by rw[am,am];exact b) c (k:=2) (v:=v) (by show wB v=true;exact aD w);have q:=((x.q.FT c (.inr f)).to (q:=((p.task t 17 (-1)).task u 1 0).task u 2 v) rfl (fun n _ j D=>W n j oA oA oA) rfl rfl rfl rfl).Ex d (by rw[l];exact (x.num c).2.2);rw[l] at q;have lf:LF (((p.task t 17 (-1)).task u 1 0).task u 2 v):=x.lf.of (e6:=by rw[am,am,am]);refine h.tk ⟨lf.Ex _ _,a.Ex c d,x.o.free (t:=t) (u:=u) e (fun n=>?_) (fun n=>?_),q⟩ ((((db p).task _ _ _).task _ _ _).task _ _ _ |>.wn _ _)
 ·rw[yf d,ae oA,ae oA,fA (by rw[am,am];exact b),ae oA,fA (by rw[am];exact b),ae oA,fA i];by_cases g:n=t
  ·rw[af g,af ⟨g,rfl⟩]
  ·rw[ae g,ae (fun y=>g y.1)]
 ·rw[yf d];by_cases g:n=u
  ·rw[af g,ae oA,af ⟨g,rfl⟩]
  ·rw[ae g,ae (fun y=>g y.1),ae (fun y=>g y.1),W n 9 oD oD oD]
theorem Lw.ring {p:PW} (h:Lw p) {a:Nat} {g:Int} (c:p.k a=8) (f:0<=g∧g<=65535) (i:0<=bits .or .i64 (p.bi a) g∧bits .or .i64 (p.bi a) g<=65535):Lw (rgP p a g):=by
 have x:=h.m.tk;have e:a<p.bits.length:=by rw[x.lf.bits];exact hZ oA
 unfold rgP;rw[ag]
 cases hl:p.lines.getD a [] with
 |nil=>exact h.tk (x.Fj (L:=p.lines) (R:=p.ready) (C:=p.D6) (x.q.bit e (.inr ⟨c,hl,i⟩))) ((db p).ls (L:=p.lines) (R:=p.ready) (C:=p.D6))
 |cons z l=>
  have j:z∈p.li a:=by rw[show p.li a=_ from hl];exact cg ..
  obtain⟨u,rfl,_⟩:=x.q.ln a z j;have y:=x.hand (d:=a) (u:=u) (l:=l) hl (b:=0) (v:=g) oD f;show Lw (wnP (((frP p a ((u:Int)).toNat l).task ((u:Int)).toNat 1 0).task ((u:Int)).toNat 2 g) ((u:Int)).toNat (rdN p ((u:Int)).toNat))
  rw[ag];exact h.tk y (sR _ _ _ _ _ _)
theorem Lw.FX {p:PW} (h:Lw p) {c t a:Nat} (j:p.co c=t) (i:p.k a=8):Lw (hbP p t a):=by
 have x:=h.m.tk;obtain⟨_,f,z,_⟩:=x.q.inc j;have s:a<p.bits.length:=by rw[x.lf.bits];exact hZ oA
 have hl:a<p.lines.length:=by rw[x.lf.lines];exact hZ oA
 unfold hbP;rw[ag,ag];split
 ·rename_i e;refine h.tk (x.Fv j oD oD hl oD i e (fun m u=>⟨fun g=>(by cases g),fun g=>?_⟩) (fun g=>(by cases g))) (sH (db p));obtain⟨_,o,r,w,_⟩:=x.q.inl u;obtain⟨b,l,d,_⟩:=x.q.la m o id r;rw[g,show b=a by omega,i] at d
  cases d
 ·rename_i e;obtain⟨l,d,n⟩:=(x.q.bt a).resolve_left e;have y:=(x.EX f (k:=1) (v:=0) oD oD).EX f (k:=2) oD n;exact h.tk (y.Fj (L:=p.lines) (R:=p.ready) (C:=p.D6) (B:=p.bits.set a 0) (y.q.bit (a:=a) (v:=0) s (.inl rfl)) (e8:=au ..)) ((((db p).task t 1 0).task t 2 (p.bi a)).ls (L:=p.lines) (R:=p.ready) (C:=p.D6) (B:=p.bits.set a 0))
