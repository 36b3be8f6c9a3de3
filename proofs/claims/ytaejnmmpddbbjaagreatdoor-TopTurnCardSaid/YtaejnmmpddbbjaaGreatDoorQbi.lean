/- Qbi -/
import Derived.BigGuard
import Derived.BigQuiet
import Derived.Test.YtaejnmmpddbbjaaGreatDoorQbh
import Derived.Test.YtaejnmmpddbbjaaGreatDoorQbg
set_option maxRecDepth 100000
set_option maxHeartbeats 16000000
namespace Go.Proofs.YtaejnmmpddbbjaaGreatDoor
namespace Wd
open Go.RowKit Mem Bw Nums Mmu
theorem oN {x:Int}:∀{zs:List Int},x∈zs->0<cn x zs
 |[],h=>by cases h
 |y::l,h=>by
  unfold cn ec;simp only[aW,ct];rcases bI.1 h with rfl|h
  ·unfold one;rw[ah rfl];omega
  ·have:=oN h;unfold cn ec at this;omega
theorem za {p:PW} (h:Snd p) {t:Nat} (f:t<p.kinds.length) (hk:p.kinds[t]=6) (d:inB t p.IC=true):lvs t p.lines=p.lines∧lvs t p.ready=p.ready∧p.IA.getD t bl 9=1:=by
 obtain⟨_,_,_,c,a⟩:=gW h f hk;unfold inB at d;have g:=ay d;unfold rrB at a;by_cases b:p.IA.getD t bl 9=1
 ·rw[ah b] at a;have e:=eq_of_beq a;unfold srB at c;rw[b,ah oD,am] at c;have i:=eq_of_beq c.2;exact⟨gE oA,gE oA,b⟩
 ·rw[ae b] at a;have e:=eq_of_beq a;omega
theorem DE (p:PW) (t n:Nat) (a:t<p.IA.length):wkP p t n=wnP {p with lines:=lvs t p.lines,ready:=lvs t p.ready,IC:=p.IC.map (noT t)} t n:=by
 unfold wkP wnP lvP PW.task;simp only;rw[jM _ t _ _ a,jM _ t _ _ a,eC,eC,mi _ 14 9 _ _ oD]
theorem yz (f:Nat->Int) (k:Nat):upd f k (f k)=f:=by
 funext j
 unfold upd;by_cases h:j=k
 ·rw[ah h,h]
 ·rw[ae h]
theorem vm (p:PW) (t k:Nat) (a:t<p.IA.length):p.task t k (p.IA.getD t bl k)=p:=by
 unfold PW.task;rw[yz];have e:p.IA.set t (p.IA.getD t bl)=p.IA:=by
  rw[aa,ac a,aG,cF]
 rw[e]
theorem rp (p:PW) (t u k:Nat) (x:Int) (h:u≠t):(p.task u k x).IA.getD t bl=p.IA.getD t bl:=by
 unfold PW.task;rw[aa];show ((p.IA.set u _)[t]?).getD bl=_
 rw[cM h,aa]
theorem xi {t:Int}:∀{zs:List Int} {c:Nat} (b:c<zs.length),zs[c]=t->cn t zs=1->zs.map (noT t)=zs.set c (-1)
 |[],_,b,_,_=>by simp at b
 |z::r,0,_,hx,h=>by
  simp only[aS] at hx;have a:cn t r=0:=by
   unfold cn ec at h ⊢;rw[aW,ct] at h;unfold one at h;rw[ah hx] at h;unfold one;omega
  rw[aW,List.set_cons_zero,kH a,hx];unfold noT;rw[ah rfl]
 |z::r,c+1,b,hx,h=>by
  simp only[aX] at hx;have d:c<r.length:=by simpa using b
  have e:=oN (x:=t) (zs:=r) (by rw[<-hx];exact av d);have a:cn t r=1∧one t z=0:=by
   unfold cn ec at h e ⊢;rw[aW,ct] at h;omega
  have f:noT t z=z:=by
   have:=a.2;unfold one at this;unfold noT;split at this
   ·omega
   ·rename_i hn;rw[ae hn]
  rw[aW,List.set_cons_succ,xi d hx a.1,f]
theorem CI {x:Int} {ls:List (List Int)} {l:List Int} (hl:l∈ls) (c:x∈l):0<cna x ls:=by
 obtain⟨a,b,rfl⟩:=List.mem_iff_getElem.1 hl;exact aF (oN c) (vJ b)
theorem Be {p:PW} (h:Snd p) {u:Nat} {l:List Int} (hl:l∈p.ready) (k:(u:Int)∈l):u<p.IA.length∧cna u p.ready=1∧cna u p.lines=0∧cn u p.IC=0∧p.IA.getD u bl 14= -1:=by
 have o:=CI hl k;obtain⟨n,m,rfl⟩:=List.mem_iff_getElem.1 hl;have c:brB p n p.ready[n]=false:=h.b8 n m;unfold brB at c;rw[bR] at c;have a:rpB p u ((n:Int)/4) ((n:Int)%4)=true:=by simpa using c u k
 unfold rpB rdB at a;rw[am,am] at a;have d:=a.1.1;have f:=a.1.2;unfold isB fI at d;rw[ah oA,af] at d;obtain⟨j,hk⟩:=List.getElem?_eq_some_iff.1 (eq_of_beq d);have i:u<p.IA.length:=by rw[h.lf.IA];exact j
 rw[af,ac i] at f;simp only[am] at f;have e:p.IA.getD u bl=p.IA[u]:=by rw[aa,ac i];rfl
 have e9:p.IA.getD u bl 9=1:=by rw[e];exact eq_of_beq f.1
 obtain⟨_,_,_,b,g⟩:=gW h j hk;unfold rrB at g;rw[ah e9] at g;have q:=eq_of_beq g;unfold srB at b;rw[e9,ah oD,am] at b;have r:=eq_of_beq b.2;exact⟨i,oA,oA,oA,eq_of_beq b.1⟩
theorem Fy {q:PW} {m:Int} {c:Nat} (o:∀l∈q.ready,∀z∈l,0<=z∧z<(q.IA.length:Int)) (H:∀(u:Nat) (l:List Int),l∈q.ready->(u:Int)∈l->dmB q m u=true->u<q.IA.length∧cna u q.ready=1∧lvs u q.lines=q.lines∧q.IC.map (noT u)=q.IC∧q.IA.getD u bl 14= -1):
  ∀k,(nxR q m c k= -1∧rnx q m c k=q)∨∃u:Nat,nxR q m c k=u∧rnx q m c k={lvP q u with IC:=(lvP q u).IC.set c u}
 |0=>.inl ⟨rfl,rfl⟩
 |k+1=>by
  unfold nxR rnx;by_cases h:0<=ixP (dmB q m) (q.ready.getD (c*4+k) [])
  ·rw[ah h,ah h]
   right
   obtain⟨i,g,a⟩:=zE h;have n:dmB q m (q.ready.getD (c*4+k) [])[i]=true:=by
    have y:(q.ready.getD (c*4+k) []).findIdx (dmB q m)=i:=by
     unfold ixP at g;split at g<;>omega
    subst y;exact dR
   rw[g,af];have d:c*4+k<q.ready.length:=by
    apply Classical.byContradiction;intro B;rw[aa,aH oA] at a;simp at a
   have b:q.ready.getD (c*4+k) []=q.ready[c*4+k]:=by rw[aa,ac d];rfl
   have j:=av a;obtain⟨u,f⟩:∃u:Nat,(q.ready.getD (c*4+k) [])[i]=u:=⟨(q.ready.getD (c*4+k) [])[i].toNat,by
    have:=(o _ (by rw[b];exact av d) _ j).1;omega⟩
   rw[f] at n j;obtain⟨p,r,s,t,v⟩:=H u _ (by rw[b];exact av d) j n;have w:lvs (u:Int) q.ready=q.ready.set (c*4+k) ((q.ready.getD (c*4+k) []).take i++(q.ready.getD (c*4+k) []).drop (i+1)):=by
    have A:=xf (x:=(u:Int)) d (i:=i) (by rw[<-b];exact a) (by rw[<-f];simp only[b]) r;rw[b];exact A
   refine⟨u,by rw[aa (l:=q.ready.getD (c*4+k) []),ac a,aG,f],?_⟩;have e:=vm q u 14 p;rw[v] at e;unfold lvP;rw[aa (l:=q.ready.getD (c*4+k) []),ac a,aG,f,e,s,w,t]
  ·rw[ae h,ae h];exact Fy o H k
theorem Bl {q:PW} {m:Int} {c:Nat} (d:∀l∈q.ready,∀z∈l,0<=z∧z<(q.IA.length:Int)) (H:∀(u:Nat) (l:List Int),l∈q.ready->(u:Int)∈l->dmB q m u=true->u<q.IA.length∧cna u q.ready=1∧lvs u q.lines=q.lines∧q.IC.map (noT u)=q.IC∧q.IA.getD u bl 14= -1):snx q m c=rnx q m c 4:=by
 unfold snx;rcases Fy (c:=c) d H 4 with ⟨a,b⟩|⟨u,a,b⟩
 ·rw[ah a,b]
 ·rw[a,ae oA,b,af]
theorem qX {p:PW} (h:Snd p) {c:Nat} (f:c<p.IC.length):slP p c=rlP p c:=by
 unfold slP rlP;rcases Er h f with b|⟨t,q,b,hk⟩
 ·rw[ah b,ah b];exact Bl (ve h) fun u l hl s _=>by
   obtain⟨g,i,j,k,m⟩:=Be h hl s;exact⟨g,i,gE j,kH k,m⟩
 ·have D:¬((t:Int)= -1):=oA;have B:¬(false=true):=oD;rw[b,ae D,ae D,af]
  cases hdm:dmB p (tnV p) t with
  |true=>rw[ah rfl,ah rfl]
  |false=>
   rw[ae B,ae B];have r:t<p.IA.length:=by rw[h.lf.IA];exact q
   have x:p.IC[c]=(t:Int):=by rw[aa,ac f,aG] at b;exact b
   have J:0<cn (t:Int) p.IC:=oN (by rw[<-x];exact av f);have K:inB t p.IC=true:=by unfold inB;exact aA J
   obtain⟨e4,e7,e9⟩:=za h q hk K;have I:cn (t:Int) p.IC=1:=by
    obtain⟨_,_,_,_,o⟩:=gW h q hk;unfold rrB at o;rw[ah e9] at o;have:=eq_of_beq o;omega
   have G:wkP p t (rdN p t)=wnP {p with IC:=p.IC.set c (-1)} t (rdN p t):=by
    rw[DE p t (rdN p t) r,e4,e7,xi f x I]
   rw[G];have E:∀l∈(wnP {p with IC:=p.IC.set c (-1)} t (rdN p t)).ready,∀z∈l,z=(t:Int)∨∃l0∈p.ready,z∈l0:=by
    intro l hl z d;have L:=hl;rcases aP L with a|rfl
    ·exact .inr ⟨l,a,d⟩
    ·rcases dA.1 d with a|a
     ·right
      rw[aa] at a
      cases e:p.ready[rdN p t]? with
      |none=>rw[e] at a;cases a
      |some y=>
       rw[e,aG] at a;exact⟨y,cV e,a⟩
     ·rw[cG] at a;exact .inl a
   have C:(wnP {p with IC:=p.IC.set c (-1)} t (rdN p t)).IA.length=p.IA.length:=by
    show ((({p with IC:=p.IC.set c (-1)}:PW).task t 9 1).task t 14 (-1)).IA.length=_
    rw[ap,ap]
   refine Bl (fun l hl z d=>?_) fun u l hl s A=>?_
   ·rw[C];rcases E l hl z d with rfl|⟨l0,a,n⟩
    ·omega
    ·exact ve h l0 a z n
   ·have F:u≠t:=by
     rintro rfl;have H:dmB (wnP {p with IC:=p.IC.set c (-1)} u (rdN p u)) (tnV p) u=dmB p (tnV p) u:=by
      unfold dmB;rw[af];show (((({p with IC:=p.IC.set c (-1)}:PW).task u 9 1).task u 14 (-1)).IA.getD u bl 19==tnV p)=(p.IA.getD u bl 19==tnV p)
      rw[gQ _ u 14 19 _ (by rw[ap];exact r) oD,gQ ({p with IC:=p.IC.set c (-1)}:PW) u 9 19 1 r oD]
     rw[H,hdm] at A
     cases A
    rcases E l hl u s with a|⟨l0,a,n⟩
    ·omega
    ·obtain⟨g,i,j,k,m⟩:=Be h a n;refine⟨by rw[C];exact g,?_,gE j,?_,?_⟩
     ·show cna u (p.ready.set (rdN p t) (p.ready.getD (rdN p t) []++[(t:Int)]))=1
      rw[sU oA];exact i
     ·show (p.IC.set c (-1)).map (noT u)=p.IC.set c (-1)
      have:∀z∈p.IC.set c (-1),noT u z=z:=fun z v=>by
       unfold noT;rw[ae];rcases aP v with w|w
       ·exact oO k z w
       ·omega
      conv=>rhs;rw[<-List.map_id (p.IC.set c (-1))]
      exact eA fun z v=>this z v
     ·show ((({p with IC:=p.IC.set c (-1)}:PW).task t 9 1).task t 14 (-1)).IA.getD u bl 14= -1
      rw[rp _ u t _ _ (fun e=>F e.symm),rp _ u t _ _ (fun e=>F e.symm)];exact m
def pkE (p:PW) (c:Int):Int:=if dH 0 ((p.IC.length:Int) - 1) c then 0 else 2
theorem rD {p:PW} {c:Int} (h:dH 0 ((p.IC.length:Int) - 1) c=true):∃n:Nat,c=n∧n<p.IC.length:=by
 unfold dH at h;have a:=ay h;exact⟨c.toNat,oA,oA⟩
theorem Dg (p:PW) (c:Nat):(slP p c).ID=p.ID:=by
 unfold slP snx;split
 ·split<;>rfl
 ·split
  ·rfl
  ·split<;>rfl
theorem uS (vb n:Nat) (q:Option Addr) (cap:Nat) (c:Int) (w:World) (c6:w.cell? ⟨vb,6,none⟩=some (.slice q n cap)) (b:(1:Int)<=(n:Int)) (d:(n:Int)<=1000):
  Calls Tryz.prog 26 #[.pointer (some ⟨vb,0,none⟩),.int .i64 c] w fun r w'=>r=.returned (.bool (dH 0 ((n:Int) - 1) c))∧w=w':=by
 have a:=hid (kh c 0 ((n:Int) - 1) w);go_enter Tryz.func26,Tryz.ntmps26
 go_wp2_with fail
 refine a.mono ?_;rintro r w1 ⟨rfl,rfl⟩;go_wp2_with fail
 go_ret
 exact⟨rfl,rfl⟩
theorem xO (c1:Nat) (c:Int) (p:PW) (j:p.Fits) (y:∀l∈p.ready,l.length<=50) (e:Snd p):vt 25 #[ptr c1] (jf [(c1,.int .i64 c)]) eV p (slP p c.toNat) (pkE p c):=by
 intro W wb tag V bt i;have B:=(i (c1,.int .i64 c) oS).1;have A:=hid i;have x:(p.IC.length:Int)<=1000:=by have:=j.IC;omega
 have w:(1:Int)<=(p.IC.length:Int):=by have:=e.lf.c1;omega
 obtain⟨u,t,e6⟩:=bt.o.IC.form (by have:=e.lf.c1;omega);have c6:=bh bt e6;have a:=hid (uS wb p.IC.length (some ⟨u,0,none⟩) t c W c6 w x);have m:=hid bt;unfold ptr;simp only[List.append_toArray,List.cons_append,eI]
 cases hw:dH 0 ((p.IC.length:Int) - 1) c with
 |false=>
  have d:=hid (show pkE p c=2 by unfold pkE;rw[hw];rfl);rw[d.out];rw[hw] at a;go_enter Tryz.func25,Tryz.ntmps25
  go_wp2_with fail
  refine a.mono ?_;rintro q w1 ⟨rfl,rfl⟩;have b:=hid (eO tag W);go_wp2_with fail
  go_ret
  first|exact⟨rfl,tag,b.out⟩|exact⟨rfl,tag,b.out,fun h=>by cases h⟩
 |true=>
  have d:=hid (show pkE p c=0 by unfold pkE;rw[hw];rfl);rw[d.out,Hu];rw[hw] at a;obtain⟨n,rfl,z⟩:=rD hw;rw[af];have s:=hid (fun X (h:di X wb tag V p)=>vh wb tag V p n X h j y e z);go_enter Tryz.func25,Tryz.ntmps25
  go_wp2_with fail
  refine a.mono ?_;rintro q w1 ⟨rfl,rfl⟩;have b:=hid (eO tag W);have r:=m;go_wp2_with fail
  refine (s.out _ r).mono ?_;rintro q w2 ⟨rfl,k,v,k2⟩;have f:=hid v;have g:=hid (b.trans k2);go_wp2_with fail
  go_ret
  first|exact⟨rfl,k,g.out,V,f.out⟩|exact⟨rfl,k,g.out,fun _=>⟨V,f.out⟩⟩
theorem zC {f:Int->Bool} {l:List Int} (h:¬0<=ixP f l):∀z∈l,f z=false:=fun z a=>by
 unfold ixP at h;split at h
 ·omega
 ·rename_i g
  cases e:f z with
  |false=>rfl
  |true=>exact absurd (List.findIdx_lt_length_of_exists ⟨z,a,e⟩) g
theorem zD {f:Int->Bool} {l:List Int} (h:0<=ixP f l):∃z,l.getD (ixP f l).toNat 0=z∧z∈l∧f z=true:=by
 unfold ixP at h ⊢;split at h
 ·rename_i g;rw[ah g,af];refine⟨l[l.findIdx f],by rw[aa,ac g];rfl,av g,dR⟩
 ·omega
theorem pI {q:PW} {m:Int} {c:Nat} (l:c<q.IC.length):∀k,(rnx q m c k=q∧∀j,j<k->∀z∈q.re (c*4+j),dmB q m z=false)∨
  ∃j z,j<k∧z∈q.re (c*4+j)∧dmB q m z=true∧(rnx q m c k).co c=z∧(rnx q m c k).IA=q.IA∧(∀i,j<i->(rnx q m c k).re (c*4+i)=q.re (c*4+i))∧∀i,j<i->i<k->∀y∈q.re (c*4+i),dmB q m y=false
 |0=>.inl ⟨rfl,fun _ h=>oA⟩
 |k+1=>by
  unfold rnx;by_cases h:0<=ixP (dmB q m) (q.ready.getD (c*4+k) [])
  ·obtain⟨z,e,w,v⟩:=zD h;rw[ah h,e];refine .inr ⟨k,z,oA,w,v,?_,rfl,fun i hi=>?_,fun i o f=>oA⟩
   ·show (q.IC.set c z).getD c (-1)=z
    rw[dz l,ah rfl]
   ·show (q.ready.set (c*4+k) _).getD (c*4+i) []=q.ready.getD (c*4+i) []
    rw[aa,cM oA, <-aa]
  ·rw[ae h];have n:=zC h;rcases pI l k with ⟨e,a⟩|⟨j,z,o,f,p,r,s,t,u⟩
   ·refine .inl ⟨e,fun j x y d=>?_⟩;by_cases g:j=k
    ·subst g;exact n y d
    ·exact a j oA y d
   ·refine .inr ⟨j,z,oA,f,p,r,s,t,fun i a b y d=>?_⟩;by_cases g:i=k
    ·subst g;exact n y d
    ·exact u i a oA y d
structure Tn (p q:PW) (c:Nat) (m:Int):Prop where
 t:q.co c= -1∨∃n:Nat,q.co c=n∧n<q.IA.length∧q.t n 19=m∧q.t n 9=1
 z:∀k,k<4->∀z∈q.re (c*4+k),∃n:Nat,z=n∧n<q.IA.length∧(q.t n 19=m->q.co c≠ -1∧(p.co c= -1->(k:Int)<=q.t (q.co c).toNat 10))
theorem Hh {p:PW} (h:Lv p) {c:Nat} (J:c<p.IC.length):Tn p (rlP p c) c (tnV p):=by
 have lw:=h.w.settle J;have x:=lw.m.tk;have own:∀i z,z∈(rlP p c).re i->∃n:Nat,z=n∧n<(rlP p c).IA.length:=fun i z f=>by
  obtain⟨n,e,_,I,_⟩:=x.q.rd i z f;exact⟨n,e,x.tl I⟩
 by_cases r:p.co c= -1
 ·have E:rlP p c=rnx p (tnV p) c 4:=ah r;rcases pI (m:=tnV p) J 4 with ⟨e,a⟩|⟨j,z,Q,G,s,D,H,I,N⟩
  ·rw[E,e] at own ⊢;refine⟨.inl r,fun k hk z f=>?_⟩;obtain⟨n,rfl,L⟩:=own _ z f;refine⟨n,rfl,L,fun g=>?_⟩;have:=a k hk n f;unfold dmB at this;rw[af] at this;simp[show p.IA.getD n bl 19=tnV p from g] at this
  ·obtain⟨n,rfl,_,B,F,U⟩:=h.w.m.tk.q.rd _ z G;rw[E] at own ⊢;have T:∀a b,(rnx p (tnV p) c 4).t a b=p.t a b:=fun a b=>by show (rnx p (tnV p) c 4).IA.getD a bl b=p.IA.getD a bl b;rw[H]
   have V:=h.w.m.tk.num B;have d:p.t n 19=tnV p:=by unfold dmB at s;rw[af] at s;simpa using s
   refine⟨.inr ⟨n,D,by rw[H];exact h.w.m.tk.tl B,by rw[T];exact d,by rw[T];exact F⟩,fun k hk z f=>?_⟩;obtain⟨u,rfl,A⟩:=own _ z f;refine⟨u,rfl,A,fun g=>⟨oA,fun _=>?_⟩⟩;rw[D,af,T];have pr:p.t n 10=(j:Int):=by
    have:(p.t n 18*4+p.t n 10).toNat=c*4+j:=U;obtain⟨⟨a1,Y⟩,⟨b1,b2⟩,_⟩:=V;omega
   rw[pr];by_cases O:j<k
   ·rw[I k O] at f;have:=N k O hk u f;unfold dmB at this;rw[af] at this;rw[T] at g;simp[show p.IA.getD u bl 19=tnV p from g] at this
   ·omega
 ·by_cases C:dmB p (tnV p) (p.IC.getD c (-1))
  ·have E:rlP p c=p:=by unfold rlP;rw[ae r,ah C]
   rw[E] at own ⊢;obtain⟨t,et⟩:∃t:Nat,p.co c=t:=(h.w.m.tk.q.c0 c).resolve_left r
   obtain⟨_,B,F,_⟩:=h.w.m.tk.q.inc et;have d:p.t t 19=tnV p:=by
    unfold dmB at C;rw[show p.IC.getD c (-1)=t from et,af] at C;simpa using C
   refine⟨.inr ⟨t,et,h.w.m.tk.tl B,d,F⟩,fun k hk z f=>?_⟩;obtain⟨u,rfl,A⟩:=own _ z f;exact⟨u,rfl,A,fun _=>⟨r,fun g=>absurd g r⟩⟩
  ·obtain⟨t,et⟩:∃t:Nat,p.co c=t:=(h.w.m.tk.q.c0 c).resolve_left r
   have E:rlP p c=rnx (wnP {p with IC:=p.IC.set c (-1)} t (rdN p t)) (tnV p) c 4:=by
    unfold rlP;rw[ae r,ae C,show p.IC.getD c (-1)=t from et,af]
   generalize M:wnP {p with IC:=p.IC.set c (-1)} t (rdN p t)=q at E;have q1:c<q.IC.length:=by rw[<-M];show c<(p.IC.set c (-1)).length;simpa using J
   have q0:q.co c= -1:=by rw[<-M];show (p.IC.set c (-1)).getD c (-1)= -1;rw[dz J,ah rfl]
   rcases pI (m:=tnV p) q1 4 with ⟨e,a⟩|⟨j,z,Q,G,s,D,H,I,N⟩
   ·rw[E,e] at own ⊢;refine⟨.inl q0,fun k hk z f=>?_⟩;obtain⟨n,rfl,L⟩:=own _ z f;refine⟨n,rfl,L,fun g=>?_⟩;have:=a k hk n f;unfold dmB at this;rw[af] at this;simp[show q.IA.getD n bl 19=tnV p from g] at this
   ·rw[E] at own x ⊢;rcases x.q.cr c with g|⟨n,g,_,B,F,_⟩
    ·obtain⟨u,A,_⟩:∃u:Nat,z=u∧True:=by
      have:z≠ -1:=by
       intro e;rw[e] at G;have X:∀i y,y∈q.re i->y≠ -1:=by
        intro i y K;rw[<-M] at K;have o:y∈(p.ready.set (rdN p t) (p.ready.getD (rdN p t) []++[(t:Int)])).getD i []:=K;rw[aa] at o
        cases ee:(p.ready.set (rdN p t) (p.ready.getD (rdN p t) []++[(t:Int)]))[i]? with
        |none=>rw[ee] at o;cases o
        |some l=>
         rw[ee,aG] at o;rcases aP (cV ee) with hl|hl
         ·obtain⟨v,S,rfl⟩:=List.mem_iff_getElem.1 hl;obtain⟨m,R,_⟩:=h.w.m.tk.q.rd v y (by show y∈p.ready.getD v [];rw[aa,ac S];exact o);omega
         ·rw[hl,dA] at o;rcases o with o|o
          ·obtain⟨m,R,_⟩:=h.w.m.tk.q.rd (rdN p t) y o;omega
          ·have:=cG.1 o;omega
       exact X _ _ G rfl
      rw[D] at g;exact absurd g this
     omega
    ·have d:(rnx q (tnV p) c 4).t n 19=tnV p:=by
      have W:=D.symm.trans g;unfold dmB at s;rw[W,af] at s;show (rnx q (tnV p) c 4).IA.getD n bl 19=tnV p
      rw[H];simpa using s
     refine⟨.inr ⟨n,g,x.tl B,d,F⟩,fun k hk y K=>?_⟩;obtain⟨u,rfl,A⟩:=own _ y K;exact⟨u,rfl,A,fun _=>⟨by rw[g];omega,fun P=>absurd P r⟩⟩
theorem Ho (V:Nat->Value) (p:PW) (w:World) (i:fy w V p) (q:p.Fits) (s:mf p=true) (hk:0<p.kinds.length):
  Calls Tryz.prog 28 #[.agg (cb V)] w fun r w'=>r=.returned (.bool true)∧Below w.heap.size w w':=by
 have f:=hid (nC w V 28);have d:=hid (bal (ag w.heap.size w) (.cells (cb V) 28));have l:=hid (jn V p _ (i.below d) q);have n:=hid s;obtain⟨q1,b1,v,k1,e1,_,_⟩:=i.kinds;have m:=hid e1;have u:(0:Int)<(p.kinds.length:Int):=oA;go_enter Tryz.func28,Tryz.ntmps28
 go_wp2_with (first|((with_reducible refine gld 28 ?_);refine jV rfl _ rfl w.heap.size rfl V f ?_))
 refine l.mono ?_;rintro r w1 ⟨x,rfl,o,g⟩;have t:x=.nilIface:=by
  have a:(wmA p).1=0:=by have:=n.out;unfold mf at this;simpa using this
  rcases o with ⟨h,_⟩|⟨e,c,_,h⟩|⟨e,k,b,c,_,_,_,h⟩
  ·exact h
  ·rw[h] at a;exact absurd a c
  ·rw[h] at a;exact absurd a c
 subst t;have c1:=r11 1 (bj f g);rw[m.out] at c1;have j:=hid (btr d g);go_wp2_with fail
 go_ret
 exact⟨rfl,j.out⟩
theorem Du (V U:Nat->Value) (p q:PW) (w:World) (g:fy w V p) (d:fy w U q) (u:q.Fits) (v:mf q=true) (hk:0<q.kinds.length) (e1:q.kinds.length=p.kinds.length) (e6:q.IC.length=p.IC.length):
  Calls Tryz.prog 10 #[.agg (cb V),.agg (cb U)] w fun r w'=>r=.returned (.bool true)∧Below w.heap.size w w':=by
 have f:=hid (nC w V 28);have e:=hid (bal (ag w.heap.size w) (.cells (cb V) 28));have c:=hid (nC (w.alloc (.cells (cb V) 28)) U 28);have b:=hid (bal (ag _ (w.alloc (.cells (cb V) 28))) (.cells (cb U) 28));have s:=hid (show (w.alloc (.cells (cb V) 28)).heap.size=w.heap.size+1 by simp);rw[s.out] at c;have o:=hid (Ho U q _ ((d.below e).below b) u v hk);obtain⟨q1,b1,A,k1,v1,_,_⟩:=g.kinds;obtain⟨F,b6,C,y,x,_,_⟩:=g.IC;obtain⟨E,b2,B,k2,h,_,_⟩:=d.kinds;obtain⟨G,b7,D,z,i,_,_⟩:=d.IC;rw[e1] at h;rw[e6] at i;have m:=hid v1;have n:=hid x;have k:=hid h;have l:=hid i;go_enter Tryz.func10,Tryz.ntmps10
 go_wp2_with (first|((with_reducible refine gld 28 ?_);refine jV rfl _ rfl (w.heap.size+1) rfl U c ?_))
 refine o.mono ?_;rintro r w1 ⟨rfl,a⟩;have c1:=r11 1 (bj (bj f b) a);have c6:=r11 6 (bj (bj f b) a);have d1:w1.cell? ⟨w.heap.size+1,1,none⟩=some (U 1):=ai (bj c a) rfl;have t:w1.cell? ⟨w.heap.size+1,6,none⟩=some (U 6):=ai (bj c a) rfl;rw[m.out] at c1;rw[n.out] at c6;rw[k.out] at d1;rw[l.out] at t;have j:=hid (btr e (btr b a));go_wp2_with fail
 go_ret
 exact⟨rfl,j.out⟩
end Wd
namespace Wd
open Go.RowKit Mem Bw Nums Mmu Hex
def knB:List ByteArray:=[⟨#[112,97,103,101]⟩,⟨#[116,97,98,108,101]⟩,⟨#[115,112,97,99,101]⟩,⟨#[110,111,100,101]⟩,⟨#[116,97,115,107]⟩,⟨#[100,111,111,114]⟩,⟨#[98,101,108,108]⟩]
def KnW (w:World):Prop:=∃kb ko cap,w.cell? ⟨1,0,none⟩=some (.slice (some ⟨kb,ko,none⟩) 7 cap)∧gg w kb ko knB
theorem KnW.below {w w':World} (h:KnW w) (a:Below w.heap.size w w'):KnW w':=by
 obtain⟨d,e,cap,b,c⟩:=h;exact⟨d,e,cap,hX a b,gg.Jh c a⟩
def kl (p p':PW) (xs:List ByteArray):Prop:=∀(w:World) (wb:Nat) (tag:Nat->Nat) (V:Nat->Value) (b cap:Nat),di w wb tag V p->KnW w->gg w b 0 xs->xs.length<=cap->
 Calls Tryz.prog 73 #[.pointer (some ⟨wb,0,none⟩),.slice (some ⟨b,0,none⟩) xs.length cap] w fun r w'=>r=.returned (.int .i64 0)∧∃tag' V',di w' wb tag' V' p'∧Kt tag tag' w w'
theorem gY {w:World} {b:Nat} {x:ByteArray} {l:List ByteArray} (h:gg w b 0 (x::l)):w.cell? ⟨b,0,none⟩=some (.string x)∧gg w b 1 l:=
 ⟨h 0 oS,fun j a=>by have:=h (j+1) (by simp;omega);rw[show 0+(j+1)=1+j by omega] at this;exact this⟩
theorem fK {tag:Nat->Nat} {c k:Nat} (h:c<=k):jh tag c k=0:=ae oA
theorem Gm {p:PW} {c d e:ByteArray} {s b n:Nat} (P:p.Fits) (hl:∀l∈p.ID,l.length<=100) (O:∀t∈[c,d,e],gz t=true) (M:[c,d,e].map Prs.ig=[(s:Int),(b:Int),(n:Int)])
  (R:p.IB.length=p.kinds.length*16) (Q:s<p.IB.length) (C:opE p s=0) (N:1<=n) (J:b+n<=p.kinds.length) (hk:∀f (hf:f<p.kinds.length),b<=f->f<b+n->p.kinds[f]=0) (K:∀i (hi:i<p.IB.length),p.IB[i] 0≠1):
  kl p {p with IB:=p.IB.set s (clk b n)} [⟨#[99,108,97,121]⟩,c,d,e]:=by
 intro w wb tag V X cap B _ F L;obtain⟨bt,T⟩:=iP B;have Y:=hid (fun x (h:w.heap.size<=x)=>fK (tag:=tag) h);have v:=hid T;have m:=hid bt;generalize jh tag w.heap.size=tg at*;obtain⟨U,G⟩:=gY F;have j:=hid (i4 X 1 (cap - 1) [c,d,e] w G O oS);rw[M] at j;have aa:¬cap=1:=by simp at L;omega
 have A:=hid (fun W (h:Below w.heap.size w W)=>hX h U);have o:=hid (fun W a ca (h:Below w.heap.size w W) (H:gj W a 0 [(s:Int),(b:Int),(n:Int)])=>p5 wb tg V p a ca s b n W (m.below h) P hl H R Q C N J hk K);go_enter Tryz.func73,Tryz.ntmps73
 go_wp2_with fail
 refine j.mono ?_;rintro r w1 ⟨u,rfl,S,k⟩;obtain⟨a,ca,rfl,Z,ab,I⟩:=j5 S oS oS;have g:=hid k;have q:=hid I;have x1:=A.out _ k;go_wp2_with fail
 refine (o.out w1 a ca g q).mono ?_;rintro r w2 ⟨rfl,D,E⟩;have y:=hid D;have z:=hid E;go_wp2_with fail
 go_ret
 exact⟨rfl,tg,V,y.out,v.trans ((bE g).trans z)⟩

theorem BJ {p:PW} {b c d e:ByteArray} {s g f wr:Nat} (Q:p.Fits) (hl:∀l∈p.ID,l.length<=100) (P:∀t∈[b,c,d,e],gz t=true) (O:[b,c,d,e].map Prs.ig=[(s:Int),(g:Int),(f:Int),(wr:Int)]) (D:fmE p s 4=0) (M:g<=255) (U:wr<=1) (L:f<p.kinds.length) (R:p.IE.length=p.kinds.length*16) (hk:p.kinds.getD f 0=3) (X:p.IE.getD (s*16+g/16) 0=0):
  kl p {p with IE:=p.IE.set (s*16+g/16) (32768+(f:Int))} [⟨#[101,110,116,101,114]⟩,b,c,d,e]:=by
 intro w wb tag V xb cap C _ G K;obtain⟨bt,Y⟩:=iP C;have z:=hid (fun x (h:w.heap.size<=x)=>fK (tag:=tag) h);have q:=hid Y;have m:=hid bt;generalize jh tag w.heap.size=tg at*;obtain⟨Z,H⟩:=gY G;have j:=hid (i4 xb 1 (cap - 1) [b,c,d,e] w H P oS);rw[O] at j;have ab:¬cap=1:=by simp at K;omega
 have B:=hid (fun W (h:Below w.heap.size w W)=>hX h Z);have n:=hid (fun W a ca (h:Below w.heap.size w W) (I:gj W a 0 [(s:Int),(g:Int),(f:Int),(wr:Int)]) (S:tg a=0)=>nD wb tg V p a 0 ca s g f wr W (m.below h) Q hl I S D M U L R hk X);go_enter Tryz.func73,Tryz.ntmps73
 go_wp2_with fail
 refine j.mono ?_;rintro r w1 ⟨u,rfl,T,k⟩;obtain⟨a,ca,rfl,aa,N,J⟩:=j5 T oS oS;have A:=hid (z.out a N);have i:=hid k;have o:=hid J;have x1:=B.out _ k;go_wp2_with fail
 refine (n.out w1 a ca i o A).mono ?_;rintro r w2 ⟨rfl,E,F⟩;have v:=hid E;have y:=hid F;go_wp2_with fail
 go_ret
 exact⟨rfl,tg,V,v.out,q.trans ((bE i).trans y)⟩
theorem BH {p:PW} {c d e i:ByteArray} {s g f wr a:Nat} (T:p.Fits) (hl:∀l∈p.ID,l.length<=100) (S:∀t∈[c,d,e,i],gz t=true) (R:[c,d,e,i].map Prs.ig=[(s:Int),(g:Int),(f:Int),(wr:Int)]) (E:fmE p s 4=0) (P:g<=255) (hw:wr<=1) (O:f<p.kinds.length) (Y:p.IE.length=p.kinds.length*16) (hk:p.kinds.getD f 0=2) (hz:p.IE.getD (s*16+g/16) 0=a) (M:0<a) (N:a<=65535) (U:a%1024*16+g%16<p.IE.length) (X:p.IE.getD (a%1024*16+g%16) 0=0):
  kl p {p with IE:=p.IE.set (a%1024*16+g%16) (32768+(wr:Int)*16384+(f:Int))} [⟨#[101,110,116,101,114]⟩,c,d,e,i]:=by
 intro w wb tag V xb cap D _ H L;obtain⟨bt,kr⟩:=iP D;have A:=hid (fun x (h:w.heap.size<=x)=>fK (tag:=tag) h);have v:=hid kr;have n:=hid bt;generalize jh tag w.heap.size=tg at*;obtain⟨x0,I⟩:=gY H;have k:=hid (i4 xb 1 (cap - 1) [c,d,e,i] w I S oS);rw[R] at k;have ab:¬cap=1:=by simp at L;omega
 have C:=hid (fun W (h:Below w.heap.size w W)=>hX h x0);have o:=hid (fun W b ca (h:Below w.heap.size w W) (J:gj W b 0 [(s:Int),(g:Int),(f:Int),(wr:Int)]) (Z:tg b=0)=>oV wb tg V p b 0 ca s g f wr a W (n.below h) T hl J Z E P hw O Y hk hz M N U X);go_enter Tryz.func73,Tryz.ntmps73
 go_wp2_with fail
 refine k.mono ?_;rintro r w1 ⟨u,rfl,hu,m⟩;obtain⟨b,ca,rfl,aa,Q,K⟩:=j5 hu oS oS;have B:=hid (A.out b Q);have j:=hid m;have q:=hid K;have x1:=C.out _ m;go_wp2_with fail
 refine (o.out w1 b ca j q B).mono ?_;rintro r w2 ⟨rfl,F,G⟩;have y:=hid F;have z:=hid G;go_wp2_with fail
 go_ret
 exact⟨rfl,tg,V,y.out,v.trans ((bE j).trans z)⟩
theorem DV {p:PW} {b c d e f g i:ByteArray} {t:Nat} {N:Nat->Int} (Y:p.Fits) (hl:∀l∈p.ID,l.length<=100) (X:∀t∈[b,c,d,e,f,g,i],gz t=true) (U:[b,c,d,e,f,g,i].map Prs.ig=[(t:Int),N 1,N 2,N 3,N 4,N 5,N 6]) (E:fmE p t 6=0) (ht:t<p.IA.length) (hk:∀k,1<=k->k<4->N k≠ -1->fmE p (N k) (eqK k)=0) (H:0<=N 4) (I:N 4<p.IC.length) (J:0<=N 5) (K:N 5<=3) (L:0<=N 6) (M:N 6<=3) (Z:p.IA[t] 9=0):
  kl p (eqP p t N) [⟨#[101,113,117,105,112]⟩,b,c,d,e,f,g,i]:=by
 intro w wb tag V xb cap D _ O S;obtain⟨bt,kr⟩:=iP D;have A:=hid (fun x (h:w.heap.size<=x)=>fK (tag:=tag) h);have v:=hid kr;have o:=hid bt;generalize jh tag w.heap.size=tg at*;obtain⟨x0,P⟩:=gY O;have m:=hid (i4 xb 1 (cap - 1) [b,c,d,e,f,g,i] w P X oS);rw[U] at m;have ac:¬cap=1:=by simp at S;omega
 have C:=hid (fun W (h:Below w.heap.size w W)=>hX h x0);have q:=hid (fun W a ca (h:Below w.heap.size w W) (Q:gj W a 0 [(t:Int),N 1,N 2,N 3,N 4,N 5,N 6]) (aa:tg a=0)=>oW wb tg V p a ca t N W (o.below h) Y hl Q aa E ht hk H I J K L M Z);go_enter Tryz.func73,Tryz.ntmps73
 go_wp2_with fail
 refine m.mono ?_;rintro r w1 ⟨u,rfl,hu,n⟩;obtain⟨a,ca,rfl,ab,T,R⟩:=j5 hu oS oS;have B:=hid (A.out a T);have j:=hid n;have s:=hid R;have x1:=C.out _ n;go_wp2_with fail
 refine (q.out w1 a ca j s B).mono ?_;rintro r w2 ⟨rfl,F,G⟩;have y:=hid F;have z:=hid G;go_wp2_with fail
 go_ret
 exact⟨rfl,tg,V,y.out,v.trans ((bE j).trans z)⟩
theorem Gn {p:PW} {e f m n:ByteArray} {i j r g a:Nat} {s:Nat->Int} (hp:p.Fits) (hl:∀l∈p.ID,l.length<=100) (ac:∀t∈[e,f,m,n],gz t=true) (hm:[e,f,m,n].map Prs.ig=[(i:Int),(j:Int),(r:Int),(g:Int)]) (ad:p.IB.length=p.kinds.length*16) (X:boE p i j=0) (hi:i<p.IB.length) (hj:j<p.IB.length) (hs:p.IB[i]=s) (b:s 0≠1) (hr:r<=7) (Z:g<=65535) (ab:g=0∨(0<g∧(s 0=7∨s 0=8)∧s 5=0)) (P:s 4=a) (T:a<=7):
  kl p {p with IB:=p.IB.set j (kpS s (Bw.bw 6 a r:Nat) g i)} [⟨#[99,111,112,121]⟩,e,f,m,n]:=by
 intro w wb tag V xb cap O _ Q Y;obtain⟨bt,kr⟩:=iP O;have L:=hid (fun x (h:w.heap.size<=x)=>fK (tag:=tag) h);have I:=hid kr;have E:=hid bt;generalize jh tag w.heap.size=tg at*;obtain⟨x0,S⟩:=gY Q;have z:=hid (i4 xb 1 (cap - 1) [e,f,m,n] w S ac oS);rw[hm] at z;have ag:¬cap=1:=by simp at Y;omega
 have N:=hid (fun W (h:Below w.heap.size w W)=>hX h x0);have F:=hid (fun W (h:Below w.heap.size w W)=>p8 wb tg V p i j r g a s W (E.below h) hp hl ad X hi hj hs b hr Z ab P T);go_enter Tryz.func73,Tryz.ntmps73
 go_wp2_with fail
 refine z.mono ?_;rintro r w1 ⟨u,rfl,hu,C⟩;obtain⟨q,ca,rfl,af,aa,U⟩:=j5 hu oS oS;have M:=hid (L.out q aa);have D:=hid C;have G:=hid U;have x1:=N.out _ C;go_upto_region 38 with fail
 have y:=hid (btr D (show Below w1.heap.size w1 w1.drew from aD w1 1));have o:=hid (G.below (show Below w1.heap.size w1 w1.drew from aD w1 1));have ae:=hid (aj _ _ (o.out 0 oS));refine bG (R:=fun W=>gj W q 0 [(i:Int),(j:Int),(r:Int),(g:Int)]) [14] [0,1,2,3,4,5,6,7,8,9,10,11,12] 2 oK o oK oK oK (fun _=>?_)
 repeat (refine Rf.rs ?_ rfl oR (fun W h=>by have b:=h 0 oS;have c:=h 1 oS;have d:=h 2 oS;have B:=h 3 oS;clear h;rw[aC] at b c d B;simp only[aS,aX] at b c d B;go_simp;try rfl);simp only[jj])
 refine aJ ?_;generalize w1.drew=w2 at*;refine Rf.r1 13 rfl (fun K v=>?_);refine wnt oR ?_;go_simp
 refine (F.out w2 y).mono ?_;rintro r w3 ⟨rfl,c,d⟩;have J:=hid c;have A:=hid d;have H:=hid (show gj w3 q 0 [(i:Int),(j:Int),(r:Int),(g:Int)] from fun k hk=>A.cell (o.out k hk) M);go_wp2_with fail
 refine v _ _ trivial (fun _=>H.out) (fun _ _=>?_)
 try simp only[jj]
 refine Rf.r1 14 rfl (fun K v=>?_);refine wnt oR ?_;go_simp
 refine v _ _ trivial (cg oK) (fun _ _=>?_)
 try simp only[jj]
 refine bk oK ?_ _;go_wp2_with fail
 go_ret
 exact⟨rfl,tg,V,J.out,I.trans ((bE y).trans A)⟩
theorem rO {a b:ByteArray} (h:a≠b):(a.toList==b.toList)=false:=by
 rw[ByteArray.toList_eq,ByteArray.toList_eq];refine beq_eq_false_iff_ne.2 fun e=>h (mo e)
theorem Gp {p:PW} {E c d e:ByteArray} {kk:Nat} {n m t:Int} (hp:p.Fits) (hl:∀l∈p.ID,l.length<=100) (hs:Snd p) (ah:kk<knB.length) (hx:knB[kk]=E) (am:∀j (b:j<knB.length),j<kk->knB[j]≠E) (an:∀t∈[c,d,e],gz t=true) (hm:[c,d,e].map Prs.ig=[n,m,t]) (hE:mkE p n (2+(kk:Int)) m t=0):
  kl p (mkP p n (2+(kk:Int)) m t) [⟨#[109,97,107,101]⟩,E,c,d,e]:=by
 intro w wb tag V N cap aa ai z ae;obtain⟨bt,kr⟩:=iP aa;have T0:=hid (fun x (h:w.heap.size<=x)=>fK (tag:=tag) h);have Y:=hid kr;have Q:=hid bt;generalize jh tag w.heap.size=tg at*;obtain⟨x0,au⟩:=gY z;have D:=z 1 oS;have ab:gg w N 2 [c,d,e]:=fun j b=>by have:=z (j+2) (by simp at b ⊢;omega);rw[show 0+(j+2)=2+j by omega] at this;exact this
 have I:=hid (fun W (h:Below w.heap.size w W)=>i4 N 2 (cap - 2) [c,d,e] W (gg.Jh ab h) an oS);rw[hm] at I;have aw:¬cap=2:=by simp at ae;omega
 obtain⟨kb,ko,ay,C,ao⟩:=ai;have G:=hid (fun W (h:Below w.heap.size w W)=>(⟨hX h D,hX h C⟩:_∧_));have Z:=hid (fun W (h:Below w.heap.size w W) j (b:j<knB.length)=>hX h (ao j b));have H:=hid (fun W (h:Below w.heap.size w W)=>nH n (2+(kk:Int)) m t p hp hl hs W wb tg V (Q.below h));rw[hE] at H;have k7:(kk:Int)<7:=by have:knB.length=7:=rfl;omega
 have ax:((kk:Int)==7)=false:=by simp;omega
 have U:=hid am;have X:=hid hx;have aq:=hid ah;go_enter Tryz.func73,Tryz.ntmps73
 go_wp2_with fail
 go_loopw [5] (fun i wr=>∃(j:Nat),j<=kk∧i=.int .i64 (j:Int)∧Hid (Below w.heap.size w wr)) (fun i _=>kk - (intOf i).toNat)
 case atStart=>exact⟨0,oA,rfl,hid (ag _ _)⟩
 case round=>
  obtain⟨j,b,rfl,f⟩:=hrel;obtain⟨D,C⟩:=G.out _ f;have M:j<knB.length:=oA;have j7:(j:Int)<7:=oA;have O:=Z.out _ f j M;by_cases al:j<kk
  ·have hn:=rO (U.out j M al);generalize knB[j]=y at O hn;go_upto_region 5 with fail
   refine bC oK oK ?_
   repeat (first|go_big_quiet_skip|(go_big_quiet_want;go_big_quiet_op;first|go_big_quiet_on|go_big_quiet_call (fail)))
   refine cY ?_;intro _ A;obtain⟨nq,B⟩:=A;subst B;have a:=hid (aE f nq);generalize wr.drewN nq=w3 at*;go_wp2_with fail
   exact⟨⟨j+1,oA,by go_num,a⟩,by simp[intOf];omega⟩
  obtain rfl:j=kk:=oA;rw[X.out] at O;go_upto_region 5 with fail
  refine bC oK oK ?_
  repeat (first|go_big_quiet_skip|(go_big_quiet_want;go_big_quiet_op;first|go_big_quiet_on|go_big_quiet_call (fail)))
  refine cY ?_;intro _ A;obtain⟨nq,B⟩:=A;subst B;have a:=hid (aE f nq);generalize wr.drewN nq=w3 at*;obtain⟨D,C⟩:=G.out _ a;go_wp2_with fail
  refine (I.out _ a).mono ?_;rintro r w1 ⟨u,rfl,hu,ad⟩;obtain⟨s,ca,rfl,av,af,ac⟩:=j5 hu oS oS;have TG:=hid (T0.out s (aB a.size af));have P:=hid (btr a ad);have S:=hid ac;go_upto_region 12 with fail
  have F:=hid (btr P (show Below w1.heap.size w1 w1.drew from aD w1 1));have q:=hid (S.below (show Below w1.heap.size w1 w1.drew from aD w1 1));have ar:=hid (aj _ _ (q.out 0 oS));refine bG (R:=fun W=>gj W s 0 [n,m,t]) [13] [0,1,2,3,4,5,6,7,8,9,10,11] 2 oK q oK oK oK (fun _=>?_)
  repeat (refine Rf.rs ?_ rfl oR (fun W h=>by have L:=h 0 oS;have g:=h 1 oS;have o:=h 2 oS;clear h;rw[aC] at L g o;simp only[aS,aX] at L g o;go_simp;try rfl);simp only[jj])
  refine aJ ?_;generalize w1.drew=w2 at*;refine Rf.r1 12 rfl (fun K v=>?_);refine wnt oR ?_;go_simp
  rw[show IntKind.i64.wrap (2+(j:Int))=2+(j:Int) from bZ _ oA oA];refine (H.out w2 F).mono ?_;rintro r w4 ⟨rfl,ap,g,o⟩;obtain⟨V2,h3⟩:=o trivial;have O1:=hid h3;have J:=hid g;have T:=hid (show gj w4 s 0 [n,m,t] from fun k hk=>J.cell (q.out k hk) TG);go_wp2_with fail
  refine v _ _ trivial (fun _=>T.out) (fun _ _=>?_)
  try simp only[jj]
  refine Rf.r1 13 rfl (fun K v=>?_);refine wnt oR ?_;go_simp
  refine v _ _ trivial (cg oK) (fun _ _=>?_)
  try simp only[jj]
  refine bk oK ?_ _;go_wp2_with fail
  go_ret
  exact⟨rfl,ap,V2,O1.out,Y.trans ((bE F).trans J)⟩
