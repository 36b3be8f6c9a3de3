/- Qan -/
import Derived.Test.YtaejnmmpddbbjaaGreatDoorQam
set_option maxRecDepth 100000
set_option maxHeartbeats 16000000
namespace Go.Proofs.YtaejnmmpddbbjaaGreatDoor
namespace Wd
open Go.RowKit Mem Bw Nums Mmu
theorem jM {α:Type} (l:List α) (t:Nat) (d x:α) (a:t<l.length):(l.set t x).getD t d=x:=by
 rw[aa,dt a];rfl
theorem mi (f:Nat->Int) (i j:Nat) (x y:Int) (h:i≠j):upd (upd f i x) j y=upd (upd f j y) i x:=by
 funext k
 unfold upd;by_cases a:k=j
 ·rw[ah a,ae (fun e=>h (e.symm.trans a)),ah a]
 ·rw[ae a];by_cases b:k=i
  ·rw[ah b,ah b]
  ·rw[ae b,ae b,ae a]
def thE (p:PW) (f k:Int):Int:=if frB p f then (if isB p f k then 0 else 3) else 2
theorem uq {p:PW} {f k:Int} (h:thE p f k=0):∃(t:Nat) (a:t<p.kinds.length),f=t∧p.kinds[t]=k:=by
 unfold thE at h
 cases h1:frB p f with
 |false=>rw[h1] at h;simp at h
 |true=>
  cases h2:isB p f k with
  |false=>rw[h1,h2] at h;simp at h
  |true=>
   unfold frB at h1;have b:=ay h1;obtain⟨t,rfl⟩:∃t:Nat,f=t:=⟨f.toNat,oA⟩
   have a:t<p.kinds.length:=oA;unfold isB at h2;rw[gy a] at h2;exact⟨t,a,rfl,by simpa using h2⟩
theorem gW {p:PW} (h:Snd p) {t:Nat} (b:t<p.kinds.length) (hk:p.kinds[t]=6):
  nfB p (p.IA.getD t bl)=true∧ffB p (p.IA.getD t bl)=true∧dbB p t (p.IA.getD t bl)=true∧srB p t (p.IA.getD t bl)=true∧rrB p t (p.IA.getD t bl)=true:=by
 have hl:t<p.IA.length:=by rw[h.lf.IA];exact b
 have a:btB p t (p.kinds.getD t 0) p.IA[t]=false:=h.b5 t hl;have c:p.IA.getD t bl=p.IA[t]:=by rw[aa,ac hl];rfl
 have d:p.kinds.getD t 0=6:=by rw[aa,ac b,aG];exact hk
 rw[c];unfold btB at a;rw[ah d] at a;simp only[cQ,am] at a;exact⟨a.1.1.1.1,a.1.1.1.2,a.1.1.2,a.1.2,a.2⟩
theorem qL {p:PW} {f:Nat->Int} (h:nfB p f=true):(0<=f 9∧f 9<=6)∧(0<=f 10∧f 10<=3)∧(0<=f 18∧f 18<=(p.IC.length:Int) - 1)∧(0<=f 19∧f 19<=3):=by
 unfold nfB dH at h;simp only[am,bp] at h;exact⟨h.1.1.1.2,h.1.1.2,h.1.2,h.2⟩
theorem oO {x:Int}:∀{zs:List Int},cn x zs=0->∀z∈zs,z≠x
 |[],_,_,h=>by cases h
 |y::l,h0,z,h=>by
  unfold cn ec at h0;simp only[aW,ct] at h0;rcases bI.1 h with rfl|h
  ·intro e;unfold one at h0;rw[ah e] at h0;omega
  ·exact oO (zs:=l) (by unfold cn ec;omega) z h
theorem kD {x:Int} {zs:List Int} (h:cn x zs=0):dM (fun y=>y==x) zs=zs:=by
 unfold dM;rw[List.filter_eq_self];intro a b;simpa using oO h a b
theorem gE {x:Int}:∀{ls:List (List Int)},cna x ls=0->lvs x ls=ls
 |[],_=>rfl
 |l::r,h=>by
  unfold cna ec at h;simp only[aW,ct] at h;have a:lvs x r=r:=gE (by unfold cna ec;omega);unfold lvs at a ⊢;rw[aW,a,kD oA]
theorem kH {x:Int} {zs:List Int} (h:cn x zs=0):zs.map (noT x)=zs:=by
 have:∀z∈zs,noT x z=z:=fun z a=>ae (oO h z a);exact (eA this).trans (List.map_id' zs)
def rdN (p:PW) (t:Nat):Nat:=(p.IA.getD t bl 18*4+p.IA.getD t bl 10).toNat
theorem lN {p:PW} (h:Snd p) {t:Nat} (a:t<p.kinds.length) (hk:p.kinds[t]=6):rdN p t<p.ready.length∧p.IA.getD t bl 18*4+p.IA.getD t bl 10=(rdN p t:Int)∧(0<=p.IA.getD t bl 18∧p.IA.getD t bl 18<=1000)∧(0<=p.IA.getD t bl 10∧p.IA.getD t bl 10<=1000):=by
 obtain⟨b,c,d,_⟩:=qL (gW h a hk).1;have e:=h.lf.c2;unfold rdN;rw[h.lf.ready];omega
theorem gQ (p:PW) (t k j:Nat) (x:Int) (b:t<p.IA.length) (a:j≠k):(p.task t k x).IA.getD t bl j=p.IA.getD t bl j:=by rw[fR p t k j x b,ae a]
abbrev PW.t (p:PW) (n:Nat):Nat->Int:=p.IA.getD n bl
structure kS (p:PW):Prop where
 w:∀x∈p.IE,0<=x∧x<=65535
 e:∀i,i<p.IE.length->beB p (p.k (i/16)) (p.IE.getD i 0)=false
theorem Ap {p:PW} {n:Nat} (h:n<p.IA.length):p.IA[n]=p.t n:=by
 show _=p.IA.getD n bl
 rw[aa,ac h];rfl
theorem my {x:Int} {l:List Int} (h:x∉l):cn x l=0:=jP l (fun j a=>by
 unfold one;rw[ae];intro e;exact h (e▸av a))
def opE (p:PW) (n:Int):Int:=if fT p n then (if p.kinds.getD (n.toNat/16) 0=5 then (if (p.IB.getD n.toNat fC) 0=0 then 0 else 12) else 3) else 2
def boE (p:PW) (a b:Int):Int:=if gI p a=0 then opE p b else gI p a
theorem tV (vb:Nat) (V:Nat->Value) (p:PW) (n:Int) (w:World) (b:ei w vb V p) (hk:p.IB.length=p.kinds.length*16):
  Calls Tryz.prog 76 #[.pointer (some ⟨vb,0,none⟩),.int .i64 n] w fun r w'=>r=.returned (.int .i64 (opE p n))∧w=w':=by
 have c2:=r11 2 b.r;have c1:=r11 1 b.r;obtain⟨K,b2,J,z,e2,o,s⟩:=b.v.IB;obtain⟨q1,b1,I,x,e1,m,q⟩:=b.v.kinds;have H:(p.IB.length:Int)<=1000:=by have:=b.f.IB;omega
 have G:(p.kinds.length:Int)<=1000:=by have:=b.f.kinds;omega
 cases hs:fT p n with
 |false=>
  have a:=hid (show opE p n=2 by unfold opE;rw[hs];rfl);have k:=hid hs;have l:=dp hs;by_cases d:n<0
  ·clear l;go_enter Tryz.func76,Tryz.ntmps76
   go_wp2_with fail
   go_ret
   exact⟨by rw[a.out];rfl,rfl⟩
  ·have B:(p.IB.length:Int)<=n:=oA;go_enter Tryz.func76,Tryz.ntmps76
   go_wp2_with fail
   go_ret
   exact⟨by rw[a.out];rfl,rfl⟩
 |true=>
  obtain⟨j,rfl,g⟩:=gr hs;have k:=hid hs;have D:(j:Int)<(p.IB.length:Int):=oA;obtain rfl:=o oA;have t:=iN (s j g) (dm 7 _ 0 oA);have h:j/16<p.kinds.length:=oA;have E:((j:Int)/16)=((j/16:Nat):Int):=oA;have F:((j/16:Nat):Int)<(p.kinds.length:Int):=oA;obtain rfl:=m oA;have u:=q (j/16) h;have c:=hid (show opE p j=if p.kinds[j/16]=5 then (if p.IB[j] 0=0 then 0 else 12) else 3 by unfold opE;rw[hs,ah rfl,af,jY h,aa,ac g];rfl);generalize p.IB[j] 0=y at t c;generalize p.kinds[j/16]=kd at u c;generalize j/16=i at*;have n0:¬((j:Int)<0):=oA;have n1:¬((p.IB.length:Int)<=(j:Int)):=oA;by_cases e:kd=5
  rotate_left
  ·have a:=hid (show opE p j=3 by rw[c.out,ae e]);have C:(kd !=5)=true:=by simpa using e
   go_enter Tryz.func76,Tryz.ntmps76
   go_wp2_with fail
   go_ret
   exact⟨by rw[a.out];rfl,rfl⟩
  subst e;by_cases d:y=0
  ·subst d;have a:=hid (show opE p j=0 by rw[c.out];rfl);go_enter Tryz.func76,Tryz.ntmps76
   go_wp2_with fail
   go_ret
   exact⟨by rw[a.out];rfl,rfl⟩
  ·have a:=hid (show opE p j=12 by rw[c.out,ah rfl,ae d]);have A:(y !=0)=true:=by simpa using d
   go_enter Tryz.func76,Tryz.ntmps76
   go_wp2_with fail
   go_ret
   exact⟨by rw[a.out];rfl,rfl⟩
theorem lZ (vb:Nat) (V:Nat->Value) (p:PW) (a b:Int) (w:World) (f:ei w vb V p) (hk:p.IB.length=p.kinds.length*16):
  Calls Tryz.prog 32 #[.pointer (some ⟨vb,0,none⟩),.int .i64 a,.int .i64 b] w fun r w'=>r=.returned (.int .i64 (boE p a b))∧w=w':=by
 have d:=hid (mH vb V p a w f);have e:=hid (tV vb V p b w f hk);by_cases h:gI p a=0
 ·have c:=hid (show boE p a b=opE p b from ah h);rw[h] at d;generalize opE p b=x at e c;go_enter Tryz.func32,Tryz.ntmps32
  go_wp2_with fail
  refine d.mono ?_;rintro r w1 ⟨rfl,rfl⟩;go_wp2_with fail
  refine e.mono ?_;rintro r w1 ⟨rfl,rfl⟩;go_wp2_with fail
  go_ret
  exact⟨by rw[c.out];rfl,rfl⟩
 ·have c:=hid (show boE p a b=gI p a from ae h);have g:(gI p a==0)=false:=by simpa using h
  generalize gI p a=x at d c g;go_enter Tryz.func32,Tryz.ntmps32
  go_wp2_with fail
  refine d.mono ?_;rintro r w1 ⟨rfl,rfl⟩;go_wp2_with fail
  go_ret
  exact⟨by rw[c.out];rfl,rfl⟩
theorem Ef {p:PW} {a b:Int} (h:boE p a b=0):∃i j:Nat,a=i∧b=j∧i<p.IB.length∧j<p.IB.length:=by
 unfold boE at h;split at h
 ·rename_i h1;unfold gI at h1;unfold opE at h
  cases ha:fT p a with
  |false=>rw[ha] at h1;simp at h1
  |true=>
   cases hb:fT p b with
   |false=>rw[hb] at h;simp at h
   |true=>
    obtain⟨i,hi,c⟩:=gr ha;obtain⟨j,d,e⟩:=gr hb;exact⟨i,j,hi,d,c,e⟩
 ·rename_i h1;exact absurd h h1
end Wd
namespace Mem
open Go.RowKit
section
variable {P : Program} {md : Region.Mode} {ops : Array Oper} {Q : Exit -> Act -> World -> Prop} {n1 N : Nat} {R : Nat -> Value -> World -> Prop} {w0 : World} {a0 : Act}
end
end Mem
namespace Wd
open Go.RowKit Mem Bw Nums Mmu
def sl (k:Nat):Int:=if k=6 then -1 else 0
def om (f c:Nat) (zs:List Int):PW:=
 {IE:=List.replicate (f*16) 0,kinds:=List.replicate f 0,IB:=List.replicate (f*16) sl,IA:=List.replicate f bl,lines:=List.replicate f [],bits:=List.replicate f 0,IC:=List.replicate c (-1),ready:=List.replicate (c*4) [],ID:=List.replicate c [],IF:=zs,time:=0}
def ndk (k:Nat):Int:=[5,0,1,0,7,0, -1].getD k 0
def wlP (f c:Nat) (zs:List Int):PW:={om f c zs with kinds:=(om f c zs).kinds.set 0 5,IB:=(om f c zs).IB.set 0 ndk}
def clk (b n:Nat) (k:Nat):Int:=[1,(b:Int),(n:Int),0,7,0, -1].getD k 0
theorem dz {α:Type} {l:List α} {i:Nat} (h:i<l.length) (x d:α) (j:Nat):(l.set i x).getD j d=if j=i then x else l.getD j d:=by
 rw[aa,aa];by_cases e:j=i
 ·subst e;rw[ah rfl,dt h];rfl
 ·rw[ae e,cM (fun h=>e h.symm)]
theorem CK {S:List (Nat->Int)} {i:Nat} (h:i<S.length) (a:(S.getD i eS) 0=0) {f:Nat->Int} (b:f 0≠0):nfl (S.set i f)=nfl S+1:=by
 unfold nfl;have e:S[i]=S.getD i eS:=by rw[aa,ac h];rfl
 rw[List.countP_set h,e,a];simp[b]
structure KIn (s:Nat->Int):Prop where
 k:1<=s 0∧s 0<=8
 b:0<=s 1
 l:1<=s 2
 bl:s 1+s 2<=24
 m:s 0=1->0<=s 3∧s 3<=s 2
 o:s 0≠1->s 2=1∧s 3=0
 r:0<=s 4∧s 4<=7
 g:(s 0=7∨s 0=8)∧0<=s 5∧s 5<=65535∨¬(s 0=7∨s 0=8)∧s 5=0
theorem mN {s:Nat->Int} (h:kc s=0) (b:s 0≠0):KIn s:=by
 unfold kc KP.chk at h;split at h
 ·cases h
 split at h
 ·cases h
 split at h
 ·cases h
 split at h
 ·cases h
 rename_i h1 h2 h3 h4;unfold KP.lg at h2;unfold KP.jl at h4;split at h2
 ·exact absurd rfl h2
 rename_i h5;have g:(s 0=7∨s 0=8)∧0<=s 5∧s 5<=65535∨¬(s 0=7∨s 0=8)∧s 5=0:=by
  split at h4
  ·rename_i e;exact .inl ⟨e,by simpa using h4⟩
  ·rename_i e;exact .inr ⟨e,by simpa using h4⟩
 by_cases e:s 0=1
 ·rw[ah e] at h2;have a:0<=s 3∧s 3<=s 2:=by simpa using h2
  exact⟨oA,oA,oA,oA,fun _=>a,fun h=>absurd e h,oA,g⟩
 ·rw[ae e] at h2;have a:s 2=1∧s 3=0:=by simpa using h2
  exact⟨oA,oA,oA,oA,fun h=>absurd h e,fun _=>a,oA,g⟩
theorem zG {s:Nat->Int} (h:KIn s):kc s=0:=by
 obtain⟨k,b,l,bl,m,o,r,g⟩:=h;have c:KP.lg (s 0) (s 1) (s 2) (s 3)=true:=by
  unfold KP.lg;rw[ae oA];by_cases e:s 0=1
  ·rw[ah e];exact aA (m e)
  ·rw[ae e];exact aA (o e)
 have a:KP.jl (s 0) (s 5)=true:=by
  unfold KP.jl;rcases g with ⟨e,h⟩|⟨e,h⟩
  ·rw[ah e];exact aA h
  ·rw[ae e];exact aA h
 unfold kc KP.chk;rw[ae oA,ae oA,c,ae oD,ae oA,a,ae oD]
theorem jq {n:Int} {s:Nat->Int}:clI n s=true↔s 0=1∧s 1<=n∧n<=s 1+s 2 - 1:=by
 unfold clI;rw[am,bH,bp]
theorem hQ {n:Int} {s:Nat->Int}:opn n s=true↔s 0≠0∧s 0≠1∧s 1=n:=by
 unfold opn;rw[am,am,bne_iff_ne,bne_iff_ne,bH,and_assoc]
theorem F2 {n:Int} {s:Nat->Int} (h:clI n s=false):un n s=false:=by unfold un;rw[h];rfl
theorem Keys.add {p:PW} {r:Nat->Nat} (h:Keys p r) {b:Nat} (E:b<p.IB.length) (C:p.s b 0=0) (t:p.k (b/16)=5) {f:Nat->Int} (B:f 0≠0) (hk:vu p f)
  (v:f 6= -1∨∃u:Nat,f 6=u∧u<p.IB.length∧p.s u 0≠0∧cmB (p.s u) f=true)
  (F:f 0=1->∀n:Nat,clI n f=true->p.k n=0∧∀i,clI n (p.s i)=false)
  (G:f 0≠1->f 6= -1->∀c,clI (f 1) (p.s c)=false):∃r',Keys {p with IB:=p.IB.set b f} r':=by
 have S:∀j,PW.s {p with IB:=p.IB.set b f} j=if j=b then f else p.s j:=fun j=>dz E f eS j
 have q:∀u,p.s u 0≠0->u≠b:=fun u d e=>d (e▸C);have H:=mN hk.c B;have w:∀n:Int,clI n f=true->(∀i,clI n (p.s i)=false)∧∃m:Nat,n=m∧p.k m=0:=fun n d=>by
  obtain⟨e1,e2,I⟩:=jq.1 d;obtain⟨m,rfl⟩:∃m:Nat,n=m:=⟨n.toNat,by have:=H.b;omega⟩
  exact⟨(F e1 m d).2,m,rfl,(F e1 m d).1⟩
 refine⟨fun j=>if j=b then (if f 6= -1 then 0 else r (f 6).toNat+1) else r j,fun j a=>?_,fun j a=>?_,fun j a=>?_,fun j=>?_,fun j a=>?_,fun n i j hi a=>?_,fun n t=>?_,fun n t i=>?_,fun i d l g c=>?_⟩
 ·rw[S] at a ⊢;by_cases e:j=b
  ·rw[ah e] at a;exact absurd a B
  ·rw[ae e] at a ⊢;exact h.em j a
 ·rw[S] at a;split at a
  ·rename_i e;rw[e];exact t
  ·exact h.nd j a
 ·rw[S] at a ⊢;by_cases e:j=b
  ·rw[ah e];exact⟨hk.c,hk.le,hk.is⟩
  ·rw[ae e] at a ⊢;have:=h.key j a;exact⟨this.c,this.le,this.is⟩
 ·rw[S];by_cases e:j=b
  ·rw[ah e];rcases v with v|⟨u,d,l,g,o⟩
   ·exact .inl v
   ·refine .inr ⟨u,d,by rw[au];exact l,by rw[S,ae (q u g)];exact g,by rw[S,ae (q u g)];exact o,?_⟩;rw[ae (q u g),ah e,ae oA,d,af];omega
  ·rw[ae e];rcases h.up j with d|⟨u,d,l,g,o,z⟩
   ·exact .inl d
   ·refine .inr ⟨u,d,by rw[au];exact l,by rw[S,ae (q u g)];exact g,by rw[S,ae (q u g)];exact o,?_⟩;rw[ae (q u g),ae e];exact z
 ·rw[S] at a;show _<nfl (p.IB.set b f)
  rw[CK E C B];by_cases e:j=b
  ·rw[ah e];rcases v with v|⟨u,d,l,g,o⟩
   ·rw[ah v];omega
   ·rw[ae oA,d,af];have:=h.rk u g;omega
  ·rw[ae e] at a ⊢;have:=h.rk j a;omega
 ·rw[S] at hi a;by_cases x:i=b<;>by_cases y:j=b
  ·omega
  ·rw[ah x] at hi;rw[ae y,(w n hi).1 j] at a
   cases a
  ·rw[ah y] at a;rw[ae x,(w n a).1 i] at hi
   cases hi
  ·rw[ae x] at hi;rw[ae y] at a;exact h.one n i j hi a
 ·obtain⟨i,d,l⟩:=h.op n t;refine⟨i,by rw[au];exact d,?_⟩;rw[S,ae (q i (hQ.1 l).1)];exact l
 ·rw[S];split
  ·refine F2 ?_
   cases hx:clI (n:Int) f with
   |false=>rfl
   |true=>
    obtain⟨_,m,g,o⟩:=w n hx;obtain rfl:n=m:=oA;exact absurd o t
  ·exact h.us n t i
 ·rw[S] at d l g ⊢;rw[S];by_cases e:i=b
  ·rw[ah e] at d l g ⊢;split
   ·cases hx:clI (f 1) f with
    |false=>rfl
    |true=>exact absurd (jq.1 hx).1 l
   ·exact G l g c
  ·rw[ae e] at d l g ⊢;split
   ·cases hx:clI (p.s i 1) f with
    |false=>rfl
    |true=>
     obtain⟨_,m,o,z⟩:=w _ hx;rcases (h.key i d).is with A|A
     ·exact absurd A l
     ·obtain⟨m2,J,_,D⟩:=fJ A;obtain rfl:m=m2:=oA;rw[z] at D;exact absurd D.symm d
   ·exact h.gp i d l g c
theorem yN:∀x y:Fin 8,anB (bits .and .i64 (x.val:Int) (y.val:Int)) (x.val:Int)=0∧0<=bits .and .i64 (x.val:Int) (y.val:Int)∧bits .and .i64 (x.val:Int) (y.val:Int)<=7:=ay oK
theorem DR {x y:Int} (a:0<=x∧x<=7) (b:0<=y∧y<=7):anB (bits .and .i64 x y) x=0∧0<=bits .and .i64 x y∧bits .and .i64 x y<=7:=by
 have:=yN ⟨x.toNat,oA⟩ ⟨y.toNat,oA⟩;rw[show (((⟨x.toNat,oA⟩:Fin 8).val:Nat):Int)=x by simp;omega,show (((⟨y.toNat,oA⟩:Fin 8).val:Nat):Int)=y by simp;omega] at this;exact this
theorem uO (t x:Int) (l:List Int):dM (fun x=>x==t) (l++[x])=dM (fun x=>x==t) l++(if x=t then [] else [x]):=by
 unfold dM;rw[eE]
 congr 1
 by_cases h:x=t
 ·rw[ah h,eW (by simp[h])];rfl
 ·rw[ae h,List.filter_cons_of_pos (by simp[h])];rfl
theorem ki (v:Value) (l:List Int) (t:Int) (w:World) (N:ed w v l) (hl:l.length<=1000):
  Calls Tryz.prog 43 #[v,.int .i64 t] w fun r w'=>∃u,r=.returned u∧w'.ownsRow w.heap.size 3 1 u (dM (fun x=>x==t) l).length (d6 (dM (fun x=>x==t) l))∧Below w.heap.size w w':=by
 obtain⟨q,b,off,cap,rfl,J,S⟩:=N;have E:=hid J;have G:=hid S;have V:(l.length:Int)<=1000:=oA;go_enter Tryz.func43,Tryz.ntmps43
 go_wp2_with fail
 go_loopw [5,6] (fun u i wr=>∃(k:Nat) (f:Option Addr) (cu:Nat),k<=l.length∧i=.int .i64 k∧u=.slice f (dM (fun x=>x==t) (l.take k)).length cu∧Hid (wr.ownsRow w.heap.size 3 1 (.slice f (dM (fun x=>x==t) (l.take k)).length cu) (dM (fun x=>x==t) (l.take k)).length (d6 (dM (fun x=>x==t) (l.take k))))∧Hid (Below w.heap.size w wr)) (fun _ i _=>l.length - (intOf i).toNat)
 case atStart=>exact⟨0,none,0,oA,rfl,rfl,hid (cO _ _ _ _),hid (ag _ _)⟩
 case round=>
  obtain⟨k,f,cu,hk,rfl,rfl,e,d⟩:=hrel;by_cases A:k<l.length
  ·have W:(k:Int)<(l.length:Int):=oA;have K:=E.out oA;subst K;have s:=G.out k A;have H:=(d.cell (aj _ _ s)).trans s;have p:=hid (bF A);have m:=hid (show (dM (fun x=>x==t) (l.take k)).length<=1000 from aB (dG _ _) (by rw[bL];omega));obtain⟨y,O⟩:∃y,l[k]=y:=⟨_,rfl⟩
   rw[O] at H p;have a:=hid (uO t y (l.take k));rw[<-p.out] at a;generalize dM (fun x=>x==t) (l.take k)=zs at e m a ⊢;by_cases h:y=t
   ·rw[ah h,d9] at a;have R:(y !=t)=false:=by simpa using h
    go_wp2_with fail
    refine⟨⟨k+1,f,cu,oA,by go_num,by rw[a.out],hid (by rw[a.out];exact e),d⟩,by simp[intOf];omega⟩
   ·rw[ae h] at a;have R:(y !=t)=true:=by simpa using h
    have g:=hid (bal (ag wr.heap.size wr) (.cells #[.int .i64 y] 3));have B:=hid (bM wr #[.int .i64 y] 3 0);obtain⟨i0,hi,T,M,Q⟩:=fj j0;obtain⟨X,w',L,z,I,_⟩:=run_append_own (P:=Tryz.prog) (wr.alloc (.cells #[.int .i64 y] 3)) w.heap.size 22 22 3 i0 (.int .i64 0) 1 8 Tryz.underlying22 hi T M Q rfl oD _ _ _ (fO e g) ⟨wr.heap.size,0,none⟩ 1 1 [.int .i64 y] rfl (fun j v c=>by
     match j,c with
     |0,c=>cases c;exact B
     |j+1,c=>simp at c) (DN y) (by have:=m.out;unfold maxLen;omega) (by have:=m.out;omega) (aB d.size g.size)
    obtain⟨o,n,rfl⟩:=eN z;have F:=hid L;have D:=hid (show w'.ownsRow w.heap.size 3 1 (.slice o (zs.length+1) n) (zs++[y]).length (d6 (zs++[y])) by
     rw[ax,show d6 (zs++[y])=d6 zs++[.int .i64 y] by unfold d6;simp];exact z)
    have C:=hid ((btr d g).grown I (aB d.size g.size) (fun j c=>(e.lt j c).1));go_wp2_with (first|(at_builtin;refine fS rfl _ _ 22 rfl (.slice f zs.length cu) (.slice (some ⟨wr.heap.size,0,none⟩) 1 1) (.slice o (zs.length+1) n) rfl rfl F ?_))
    exact⟨⟨k+1,o,n,oA,by go_num,by rw[a.out,ax];rfl,hid (by rw[a.out];have:=D.out;rw[ax] at this ⊢;exact this),C⟩,by simp[intOf];omega⟩
  ·obtain rfl:k=l.length:=oA;have U:¬((l.length:Int)<(l.length:Int)):=oA;rw[cT] at e;rw[cT];go_wp2_with fail
   go_ret
   exact⟨_,rfl,e.out,d.out⟩
def nOw (t:Int) (f:Nat->Int):Nat->Int:=if f 17=t then upd f 17 (-1) else f
def stP (p:PW) (t:Nat):PW:=({p with lines:=lvs t p.lines,ready:=lvs t p.ready,IC:=p.IC.map (noT t),IA:=p.IA.map (nOw t)}:PW).task t 9 0 |>.task t 14 (-1)
theorem ka (wb:Nat) (tag:Nat->Nat) (V:Nat->Value) (p:PW) (t:Nat) (W:World) (bt:di W wb tag V p) (O:p.Fits) (ht:t<p.IA.length):
  Calls Tryz.prog 50 #[.pointer (some ⟨wb,0,none⟩),.int .i64 t] W fun r W'=>r=.returned (.tuple #[])∧∃tag',di W' wb tag' V (stP p t)∧Kt tag tag' W W':=by
 have aV:(p.lines.length:Int)<=1000:=by have:=O.lines;omega
 have aX:(p.ready.length:Int)<=1000:=by have:=O.ready;omega
 have aW:(p.IC.length:Int)<=1000:=by have:=O.IC;omega
 have aU:(p.IA.length:Int)<=1000:=by have:=O.IA;omega
 have am:=hid O.line;have aH:=hid O.next;have B0:=hid bt;have aY:(t:Int)<(p.IA.length:Int):=oA;obtain⟨q6,g6,cap6,e6,aN⟩:=bt.o.IC.shape;obtain⟨U,cap3,M⟩:=bt.o.IA.form oA;have E6:=hid e6;have HQ:=hid aN;have E3:=hid M;have aJ:=hid ht;go_enter Tryz.func50,Tryz.ntmps50
 go_wp2_with fail
 go_loopw [4] (fun i wr=>∃(k:Nat) (tg:Nat->Nat),k<=p.lines.length∧i=.int .i64 k∧Hid (di wr wb tg V {p with lines:=fM (dM fun x=>x==(t:Int)) k p.lines})∧Hid (Kt tag tg W wr)) (fun i _=>p.lines.length - (intOf i).toNat)
 case atStart=>exact⟨0,tag,oA,rfl,hid (by rw[fN];exact B0),hid (eO _ _)⟩
 case round=>
  obtain⟨k,tg,hk,rfl,a,q⟩:=hrel;obtain⟨b,eL⟩:=a.o.lines.form;have z:=hid (eL.trans (dJ (fun m=>Value.slice (some ⟨b,0,none⟩) m m) (dB _ _ _)));have F:=hid (show fE wr tg 6 12 22 3 1 p.lines.length (.slice (some ⟨b,0,none⟩) p.lines.length p.lines.length) (ci (fM (dM fun x=>x==(t:Int)) k p.lines)) by
   have s:=a.o.lines;simp only at s;rw[dB,z.out] at s;exact s)
  have cl:=bh a z;by_cases l:k<p.lines.length
  ·have ay:(k:Int)<(p.lines.length:Int):=oA;go_wp2_with fail
   obtain⟨u,cu,hu⟩:=F.at (j:=k) l;have ag:=hid (show ci (fM (dM fun x=>x==(t:Int)) k p.lines) k=(p.lines[k].length,d6 p.lines[k]) by
    have w:k<(fM (dM fun x=>x==(t:Int)) k p.lines).length:=by rw[dB];exact l
    unfold ci;rw[aa,ac w,aG,ff _ _ _ l w])
   rw[ag.out] at hu;have HU:=hid (dS hu.1);have an:=hid (am.out _ (av l));have af:=hid (fun X (h:Below wr.heap.size wr X)=>(F.kp (T:=fun _=>False) (.IG h) (fun _ _=>rfl) (fun _ _ e=>e)).fr k);have I:=hid (fun X (h:Below wr.heap.size wr X)=>show X.cell? ⟨wb,4,none⟩=some (.slice (some ⟨b,0,none⟩) p.lines.length p.lines.length) by rw[ai (a.below h).r (k:=4) rfl,z.out]);have D:=hid (fun X (h:Below wr.heap.size wr X)=>(h.cell (aj _ _ cu)).trans cu);have C:=hid (aD wr 1);have ad:=hid (fun X v (h:Below wr.heap.size wr X) (A:X.ownsRow wr.heap.size 3 1 v ((dM fun x=>x==(t:Int)) p.lines[k]).length (d6 ((dM fun x=>x==(t:Int)) p.lines[k])))=>show di (X.setCell ⟨b,k,none⟩ v) wb (fX tg wr.heap.size (12+3*k)) V {p with lines:=fM (dM fun x=>x==(t:Int)) (k+1) p.lines}∧Kt tag (fX tg wr.heap.size (12+3*k)) W (X.setCell ⟨b,k,none⟩ v) from by
    obtain⟨az,Z⟩:=F.put (tag':=fX tg wr.heap.size (12+3*k)) (w1:=X) (u:=v) (c:=(((dM fun x=>x==(t:Int)) p.lines[k]).length,d6 ((dM fun x=>x==(t:Int)) p.lines[k]))) (j:=k) l (fun j=>oA) (.IG h) (fun k hk=>dw hk) ⟨A.mono (bN _),fun j e=>by
     unfold fX;rw[ae (by have:=(A.lt j e).1;omega)]⟩
    refine⟨a.lines Z (fun k hk=>dw hk) ?_,q.trans (Kt.of (tag':=fX tg wr.heap.size (12+3*k)) Z (fun k e=>by rcases e with e|⟨j,e⟩<;>omega) (fun k hk=>dw hk))⟩;rw[dB,z.out,fu _ _ _ l,jo _ _ (by rw[dB];exact l)];exact az)
   refine dZ (S:=fun X=>X.cell? ⟨wb,4,none⟩=some (.slice (some ⟨b,0,none⟩) p.lines.length p.lines.length)) (R:=fun X=>X.cell? ⟨b,k,none⟩=some u) [15] oK (I.out _ C) (D.out _ C) (fun aq ao=>?_);have g:=hid aq;have d:=hid ao;refine tF 0 (.pointer (some ⟨wb,0,none⟩)) rfl g (fun _=>d.out) ?_;simp only[jj];refine tF 1 (.pointer (some ⟨wb,0,none⟩)) rfl g (fun _=>d.out) ?_;simp only[jj];refine tF 2 (.pointer (some ⟨wb,4,none⟩)) rfl g (fun _=>d.out) ?_;simp only[jj];refine tG 3 (.slice (some ⟨b,0,none⟩) p.lines.length p.lines.length) rfl g (fun _=>d.out) ?_;simp only[jj];refine tF 4 (.int .i64 k) rfl g (fun _=>d.out) ?_;simp only[jj];refine tF 5 (.pointer (some ⟨wb,0,none⟩)) rfl g (fun _=>d.out) ?_;simp only[jj];refine tF 6 (.pointer (some ⟨wb,0,none⟩)) rfl g (fun _=>d.out) ?_;simp only[jj];refine tF 7 (.pointer (some ⟨wb,4,none⟩)) rfl g (fun _=>d.out) ?_;simp only[jj];refine tG 8 (.slice (some ⟨b,0,none⟩) p.lines.length p.lines.length) rfl g (fun _=>d.out) ?_;simp only[jj];refine tF 9 (.int .i64 k) rfl g (fun _=>d.out) ?_;simp only[jj];refine tF 10 (.pointer (some ⟨b,k,none⟩)) rfl g (fun _=>d.out) ?_;simp only[jj];refine ek (i:=11) (v:=u) rfl oK oK oK oK oK oK (fun _ _ _ h=>h) (Or.inl ⟨oR,fun W h=>by have h3:=h.2;clear h;go_simp⟩) g (fun _=>d.out) ?_;simp only[jj];refine tF 12 (.int .i64 t) rfl g (fun _=>d.out) ?_;simp only[jj];refine r1 13 rfl (fun K J=>?_);go_simp
   refine (ki u p.lines[k] t _ (HU.below C) an).mono ?_;rintro r w1 ⟨v,rfl,A,hb⟩;obtain⟨qv,cv,rfl⟩:=eN A;have n:=hid (btr C hb);have HO:=hid A;go_wp2_with fail
   refine J _ _ (I.out _ n) (fun _=>D.out _ n) (fun _ _=>?_)
   try simp only[Act.put,jD,jE,jF]
   have Q:=hid (I.out _ n);have P:=hid (D.out _ n);refine tF 14 (.pointer (some ⟨b,k,none⟩)) rfl Q (fun _=>P.out) ?_;simp only[jj];have aL:=Q.out;have aK:=P.out;have aM:=af.out _ n;obtain⟨Y,au⟩:=ad.out w1 _ n HO;have B6:=hid Y;have K6:=hid au;have S6:=hid (show (w1.setCell ⟨b,k,none⟩ (.slice qv ((dM fun x=>x==(t:Int)) p.lines[k]).length cv)).cell? ⟨wb,4,none⟩=some (.slice (some ⟨b,0,none⟩) p.lines.length p.lines.length) by rw[ai Y.r (k:=4) rfl,z.out]);refine r1 15 rfl (fun K J=>?_);go_simp
   refine J _ _ S6 (eK oK) (fun _ _=>?_)
   try simp only[Act.put]
   refine dL oK ?_ _;generalize World.setCell _ _ _=W6 at*;go_wp2_with fail
   exact⟨⟨k+1,_,oA,by go_num,B6,K6⟩,by simp[intOf];omega⟩
  ·obtain rfl:k=p.lines.length:=oA;have ar:¬((p.lines.length:Int)<(p.lines.length:Int)):=oA;have BL:=hid (show di wr wb tg V {p with lines:=lvs t p.lines} by unfold lvs;rw[<-gn];exact a);have KL:=q;go_wp2_with fail
   generalize wr=wL at*;generalize tg=aQ at*;have am:=aH
   go_loopw [5] (fun i wr=>∃(k:Nat) (tg:Nat->Nat),k<=p.ready.length∧i=.int .i64 k∧Hid (di wr wb tg V {{p with lines:=lvs t p.lines} with ready:=fM (dM fun x=>x==(t:Int)) k p.ready})∧Hid (Kt tag tg W wr)) (fun i _=>p.ready.length - (intOf i).toNat)
   case atStart=>exact⟨0,aQ,oA,rfl,hid (by rw[fN];exact BL),KL⟩
   case round=>
    obtain⟨k,tg,hk,rfl,a,q⟩:=hrel;obtain⟨b,eL⟩:=a.o.ready.form;have z:=hid (eL.trans (dJ (fun m=>Value.slice (some ⟨b,0,none⟩) m m) (dB _ _ _)));have F:=hid (show fE wr tg 9 13 22 3 1 p.ready.length (.slice (some ⟨b,0,none⟩) p.ready.length p.ready.length) (ci (fM (dM fun x=>x==(t:Int)) k p.ready)) by
     have s:=a.o.ready;simp only at s;rw[dB,z.out] at s;exact s)
    have cl:=bh a z;by_cases l:k<p.ready.length
    ·have ay:(k:Int)<(p.ready.length:Int):=oA;go_wp2_with fail
     obtain⟨u,cu,hu⟩:=F.at (j:=k) l;have ag:=hid (show ci (fM (dM fun x=>x==(t:Int)) k p.ready) k=(p.ready[k].length,d6 p.ready[k]) by
      have w:k<(fM (dM fun x=>x==(t:Int)) k p.ready).length:=by rw[dB];exact l
      unfold ci;rw[aa,ac w,aG,ff _ _ _ l w])
     rw[ag.out] at hu;have HU:=hid (dS hu.1);have an:=hid (am.out _ (av l));have af:=hid (fun X (h:Below wr.heap.size wr X)=>(F.kp (T:=fun _=>False) (.IG h) (fun _ _=>rfl) (fun _ _ e=>e)).fr k);have I:=hid (fun X (h:Below wr.heap.size wr X)=>show X.cell? ⟨wb,7,none⟩=some (.slice (some ⟨b,0,none⟩) p.ready.length p.ready.length) by rw[ai (a.below h).r (k:=7) rfl,z.out]);have D:=hid (fun X (h:Below wr.heap.size wr X)=>(h.cell (aj _ _ cu)).trans cu);have C:=hid (aD wr 1);have ad:=hid (fun X v (h:Below wr.heap.size wr X) (A:X.ownsRow wr.heap.size 3 1 v ((dM fun x=>x==(t:Int)) p.ready[k]).length (d6 ((dM fun x=>x==(t:Int)) p.ready[k])))=>show di (X.setCell ⟨b,k,none⟩ v) wb (fX tg wr.heap.size (13+3*k)) V {{p with lines:=lvs t p.lines} with ready:=fM (dM fun x=>x==(t:Int)) (k+1) p.ready}∧Kt tag (fX tg wr.heap.size (13+3*k)) W (X.setCell ⟨b,k,none⟩ v) from by
      obtain⟨az,Z⟩:=F.put (tag':=fX tg wr.heap.size (13+3*k)) (w1:=X) (u:=v) (c:=(((dM fun x=>x==(t:Int)) p.ready[k]).length,d6 ((dM fun x=>x==(t:Int)) p.ready[k]))) (j:=k) l (fun j=>oA) (.IG h) (fun k hk=>dw hk) ⟨A.mono (bN _),fun j e=>by
       unfold fX;rw[ae (by have:=(A.lt j e).1;omega)]⟩
      refine⟨a.ready Z (fun k hk=>dw hk) ?_,q.trans (Kt.of (tag':=fX tg wr.heap.size (13+3*k)) Z (fun k e=>by rcases e with e|⟨j,e⟩<;>omega) (fun k hk=>dw hk))⟩;rw[dB,z.out,fu _ _ _ l,jo _ _ (by rw[dB];exact l)];exact az)
     refine dZ (S:=fun X=>X.cell? ⟨wb,7,none⟩=some (.slice (some ⟨b,0,none⟩) p.ready.length p.ready.length)) (R:=fun X=>X.cell? ⟨b,k,none⟩=some u) [15] oK (I.out _ C) (D.out _ C) (fun aq ao=>?_);have g:=hid aq;have d:=hid ao;refine tF 0 (.pointer (some ⟨wb,0,none⟩)) rfl g (fun _=>d.out) ?_;simp only[jj];refine tF 1 (.pointer (some ⟨wb,0,none⟩)) rfl g (fun _=>d.out) ?_;simp only[jj];refine tF 2 (.pointer (some ⟨wb,7,none⟩)) rfl g (fun _=>d.out) ?_;simp only[jj];refine tG 3 (.slice (some ⟨b,0,none⟩) p.ready.length p.ready.length) rfl g (fun _=>d.out) ?_;simp only[jj];refine tF 4 (.int .i64 k) rfl g (fun _=>d.out) ?_;simp only[jj];refine tF 5 (.pointer (some ⟨wb,0,none⟩)) rfl g (fun _=>d.out) ?_;simp only[jj];refine tF 6 (.pointer (some ⟨wb,0,none⟩)) rfl g (fun _=>d.out) ?_;simp only[jj];refine tF 7 (.pointer (some ⟨wb,7,none⟩)) rfl g (fun _=>d.out) ?_;simp only[jj];refine tG 8 (.slice (some ⟨b,0,none⟩) p.ready.length p.ready.length) rfl g (fun _=>d.out) ?_;simp only[jj];refine tF 9 (.int .i64 k) rfl g (fun _=>d.out) ?_;simp only[jj];refine tF 10 (.pointer (some ⟨b,k,none⟩)) rfl g (fun _=>d.out) ?_;simp only[jj];refine ek (i:=11) (v:=u) rfl oK oK oK oK oK oK (fun _ _ _ h=>h) (Or.inl ⟨oR,fun W h=>by have h3:=h.2;clear h;go_simp⟩) g (fun _=>d.out) ?_;simp only[jj];refine tF 12 (.int .i64 t) rfl g (fun _=>d.out) ?_;simp only[jj];refine r1 13 rfl (fun K J=>?_);go_simp
     refine (ki u p.ready[k] t _ (HU.below C) an).mono ?_;rintro r w1 ⟨v,rfl,A,hb⟩;obtain⟨qv,cv,rfl⟩:=eN A;have n:=hid (btr C hb);have HO:=hid A;go_wp2_with fail
     refine J _ _ (I.out _ n) (fun _=>D.out _ n) (fun _ _=>?_)
     try simp only[Act.put,jD,jE,jF]
     have Q:=hid (I.out _ n);have P:=hid (D.out _ n);refine tF 14 (.pointer (some ⟨b,k,none⟩)) rfl Q (fun _=>P.out) ?_;simp only[jj];have aL:=Q.out;have aK:=P.out;have aM:=af.out _ n;obtain⟨Y,au⟩:=ad.out w1 _ n HO;have B6:=hid Y;have K6:=hid au;have S6:=hid (show (w1.setCell ⟨b,k,none⟩ (.slice qv ((dM fun x=>x==(t:Int)) p.ready[k]).length cv)).cell? ⟨wb,7,none⟩=some (.slice (some ⟨b,0,none⟩) p.ready.length p.ready.length) by rw[ai Y.r (k:=7) rfl,z.out]);refine r1 15 rfl (fun K J=>?_);go_simp
     refine J _ _ S6 (eK oK) (fun _ _=>?_)
     try simp only[Act.put]
     refine dL oK ?_ _;generalize World.setCell _ _ _=W6 at*;go_wp2_with fail
     exact⟨⟨k+1,_,oA,by go_num,B6,K6⟩,by simp[intOf];omega⟩
    ·obtain rfl:k=p.ready.length:=oA;have ar:¬((p.ready.length:Int)<(p.ready.length:Int)):=oA;have BR:=hid (show di wr wb tg V {p with lines:=lvs t p.lines,ready:=lvs t p.ready} by
      have s:=a.out;rw[show fM (dM fun x=>x==(t:Int)) p.ready.length p.ready=lvs t p.ready from gn _ _] at s;exact s)
     have D:=q;go_wp2_with fail
     generalize wr=wR at*;generalize tg=B at*
     go_loopw [6] (fun i wr=>∃(k:Nat),k<=p.IC.length∧i=.int .i64 k∧Hid (di wr wb B V {p with lines:=lvs t p.lines,ready:=lvs t p.ready,IC:=fM (noT t) k p.IC})∧Hid (Kt tag B W wr)) (fun i _=>p.IC.length - (intOf i).toNat)
     case atStart=>exact⟨0,oA,rfl,hid (by rw[fN];exact BR),D⟩
     case round=>
      obtain⟨k,hk,rfl,a,q⟩:=hrel;by_cases l:k<p.IC.length
      ·have ay:(k:Int)<(p.IC.length:Int):=oA;have aO:=HQ.out oA;subst aO;have w:k<(fM (noT t) k p.IC).length:=by rw[dB];exact l
       have N:V 6=.slice (some ⟨g6,0,none⟩) (fM (noT t) k p.IC).length cap6:=by rw[dB];exact E6
       have c6:=bh a E6;have h2:=a.o.IC;simp only at h2;rw[N] at h2;have xk:=h2.int w;have fk:=h2.frozen k;rw[ff _ _ _ l w] at xk;have H:=hid (fu (noT (t:Int)) k p.IC l);have L:=hid (ff (noT (t:Int)) k p.IC l w);obtain⟨y,hy⟩:∃y,p.IC[k]=y:=⟨_,rfl⟩
       rw[hy] at xk H L;by_cases E:y=(t:Int)
       ·obtain⟨hn,ax⟩:=a.IK N k (-1);have G:=hid (show di (wr.setCell ⟨g6,k,none⟩ (.int .i64 (-1))) wb B V {p with lines:=lvs t p.lines,ready:=lvs t p.ready,IC:=fM (noT t) (k+1) p.IC} by
         rw[H.out,show noT (t:Int) y= -1 from ah E];exact hn)
        have al:=hid (q.trans ax);rw[E] at xk;go_wp2_with fail
        exact⟨⟨k+1,oA,by go_num,G,al⟩,by simp[intOf];omega⟩
       ·have G:=hid (show di wr wb B V {p with lines:=lvs t p.lines,ready:=lvs t p.ready,IC:=fM (noT t) (k+1) p.IC} by
         rw[H.out,show noT (t:Int) y=y from ae E, <-L.out,cF];exact a)
        have aF:(y==(t:Int))=false:=by simpa using E
        go_wp2_with fail
        exact⟨⟨k+1,oA,by go_num,G,q⟩,by simp[intOf];omega⟩
      ·obtain rfl:k=p.IC.length:=oA;have ar:¬((p.IC.length:Int)<(p.IC.length:Int)):=oA;have c6:=bh a E6;have BC:=hid (show di wr wb B V {p with lines:=lvs t p.lines,ready:=lvs t p.ready,IC:=p.IC.map (noT t)} by rw[<-gn];exact a);have KC:=q;go_wp2_with fail
       generalize wr=wC at*;have aE:=hid (show p.IA.length=p.IA.length from rfl)
       go_loopw [7] (fun i wr=>∃(k:Nat),k<=p.IA.length∧i=.int .i64 k∧Hid (di wr wb B V {p with lines:=lvs t p.lines,ready:=lvs t p.ready,IC:=p.IC.map (noT t),IA:=fM (nOw t) k p.IA})∧Hid (Kt tag B W wr)) (fun i _=>p.IA.length - (intOf i).toNat)
       case atStart=>exact⟨0,oA,rfl,hid (by rw[fN];exact BC),KC⟩
       case round=>
        obtain⟨k,hk,rfl,a,q⟩:=hrel;have aB:=hid (show (fM (nOw t) k p.IA).length=p.IA.length from (dB _ _ _).trans aE);have c3:=bh a E3;have N:V 3=.slice (some ⟨U,0,none⟩) (fM (nOw t) k p.IA).length cap3:=by rw[aB.out];exact E3
        by_cases l:k<p.IA.length
        ·have ay:(k:Int)<(p.IA.length:Int):=oA;have aw:k<p.IA.length:=by rw[aE.out];exact l
         have w:k<(fM (nOw t) k p.IA).length:=by rw[aB.out];exact l
         have ab:=a.IY N w (show 17<20 by omega);have aS:=a.II N (k*20+17);simp only[ff (nOw t) k p.IA aw] at ab;have H:=hid (fu (nOw (t:Int)) k p.IA aw);have L:=hid (ff (nOw (t:Int)) k p.IA aw w);obtain⟨f,hf⟩:∃f,p.IA[k]=f:=⟨_,rfl⟩
         rw[hf] at H L ab;by_cases E:f 17=(t:Int)
         ·obtain⟨hn,ax⟩:=a.IM N w (show 17<20 by omega) (-1);have G:=hid (show di (wr.setCell ⟨U,k*20+17,none⟩ (.int .i64 (-1))) wb B V {p with lines:=lvs t p.lines,ready:=lvs t p.ready,IC:=p.IC.map (noT t),IA:=fM (nOw t) (k+1) p.IA} by
           rw[H.out,show nOw (t:Int) f=upd f 17 (-1) from ah E, <-L.out];exact hn)
          have al:=hid (q.trans ax);rw[E] at ab;go_wp2_with fail
          exact⟨⟨k+1,oA,by go_num,G,al⟩,by simp[intOf];omega⟩
         ·have G:=hid (show di wr wb B V {p with lines:=lvs t p.lines,ready:=lvs t p.ready,IC:=p.IC.map (noT t),IA:=fM (nOw t) (k+1) p.IA} by
           rw[H.out,show nOw (t:Int) f=f from ae E, <-L.out,cF];exact a)
          have aF:(f 17==(t:Int))=false:=by simpa using E
          generalize f 17=y at ab aF;go_wp2_with fail
          exact⟨⟨k+1,oA,by go_num,G,q⟩,by simp[intOf];omega⟩
        ·obtain rfl:k=p.IA.length:=oA;have ar:¬((p.IA.length:Int)<(p.IA.length:Int)):=oA;have BT:=hid (show di wr wb B V {p with lines:=lvs t p.lines,ready:=lvs t p.ready,IC:=p.IC.map (noT t),IA:=p.IA.map (nOw t)} by
          have s:=a.out;simp only[gn] at s;exact s)
         have KT:=q;have L0:=hid (show (p.IA.map (nOw t)).length=p.IA.length by simp);have M:V 3=.slice (some ⟨U,0,none⟩) ({p with lines:=lvs t p.lines,ready:=lvs t p.ready,IC:=p.IC.map (noT t),IA:=p.IA.map (nOw t)}:PW).IA.length cap3:=E3.trans (dJ (fun m=>Value.slice (some ⟨U,0,none⟩) m cap3) L0.symm);have aA:t<({p with lines:=lvs t p.lines,ready:=lvs t p.ready,IC:=p.IC.map (noT t),IA:=p.IA.map (nOw t)}:PW).IA.length:=by show t<(p.IA.map (nOw t)).length;rw[L0.out];exact aJ
         have x9:=BT.IH M aA (show 9<20 by omega);have f9:=BT.II M (t*20+9);obtain⟨b1,k1⟩:=BT.task M aA (show 9<20 by omega) 0;have e4:V 3=.slice (some ⟨U,0,none⟩) (({p with lines:=lvs t p.lines,ready:=lvs t p.ready,IC:=p.IC.map (noT t),IA:=p.IA.map (nOw t)}:PW).task t 9 0).IA.length cap3:=by rw[ap];exact M
         have aP:t<(({p with lines:=lvs t p.lines,ready:=lvs t p.ready,IC:=p.IC.map (noT t),IA:=p.IA.map (nOw t)}:PW).task t 9 0).IA.length:=by rw[ap];exact aA
         have B1:=hid b1;have K1:=hid (KT.trans k1);have E4:=hid e4;have aC:=hid aP;go_upto_region 19 with fail
         generalize World.setCell _ _ _=W1 at*;have c3:=bh B1 E3;have aZ:=B1.IH E4 aC (show 14<20 by omega);have aR:=B1.II E4 (t*20+14);obtain⟨b2,k2⟩:=B1.task E4 aC (show 14<20 by omega) (-1);have B2:=hid b2;have K2:=hid (K1.trans k2);go_wp2_with fail
         exact aT (aI rfl _ _ _) rfl ⟨rfl,B,B2.out,K2.out⟩
theorem tK (p:PW) (t:Nat) (h:(Nat->Int)->(Nat->Int)) (a:t<p.IA.length):(p.IA.map h).getD t bl=h (p.IA.getD t bl):=by
 rw[aa,cW,ac a,aa,ac a];rfl
