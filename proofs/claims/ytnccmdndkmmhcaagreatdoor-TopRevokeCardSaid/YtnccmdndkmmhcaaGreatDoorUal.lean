/- Ual -/
import Derived.Test.YtnccmdndkmmhcaaGreatDoorUak
set_option maxRecDepth 100000
set_option maxHeartbeats 16000000
namespace Go.Proofs.YtnccmdndkmmhcaaGreatDoor
namespace Wd
open Go.RowKit Mem Bw Nums Mmu
theorem jL {α:Type} (l:List α) (t:Nat) (d x:α) (a:t<l.length):(l.set t x).getD t d=x:=by
 rw[aa,cQ a];rfl
theorem mi (f:Nat->Int) (i j:Nat) (x y:Int) (h:i≠j):upd (upd f i x) j y=upd (upd f j y) i x:=by
 funext k
 unfold upd;by_cases a:k=j
 ·rw[ag a,ae (fun e=>h (e.symm.trans a)),ag a]
 ·rw[ae a];by_cases b:k=i
  ·rw[ag b,ag b]
  ·rw[ae b,ae b,ae a]
def thE (p:PW) (f k:Int):Int:=if frB p f then (if isB p f k then 0 else 3) else 2
theorem uH {p:PW} {f k:Int} (h:thE p f k=0):∃(t:Nat) (a:t<p.kinds.length),f=t∧p.kinds[t]=k:=by
 unfold thE at h
 cases h1:frB p f with
 |false=>rw[h1] at h;simp at h
 |true=>
  cases h2:isB p f k with
  |false=>rw[h1,h2] at h;simp at h
  |true=>
   unfold frB at h1;have b:=aA h1;obtain⟨t,rfl⟩:∃t:Nat,f=t:=⟨f.toNat,oA⟩
   have a:t<p.kinds.length:=oA;unfold isB at h2;rw[fZ a] at h2;exact⟨t,a,rfl,by simpa using h2⟩
theorem iY {p:PW} (h:Snd p) {t:Nat} (b:t<p.kinds.length) (hk:p.kinds[t]=6):
  nfB p (p.II.getD t bl)=true∧ffB p (p.II.getD t bl)=true∧dbB p t (p.II.getD t bl)=true∧srB p t (p.II.getD t bl)=true∧rrB p t (p.II.getD t bl)=true:=by
 have hl:t<p.II.length:=by rw[h.lf.II];exact b
 have a:btB p t (p.kinds.getD t 0) p.II[t]=false:=h.b5 t hl;have c:p.II.getD t bl=p.II[t]:=by rw[aa,ac hl];rfl
 have d:p.kinds.getD t 0=6:=by rw[aa,ac b,aT];exact hk
 rw[c];unfold btB at a;rw[ag d] at a;simp only[cU,am] at a;exact⟨a.1.1.1.1,a.1.1.1.2,a.1.1.2,a.1.2,a.2⟩
theorem rm {p:PW} {f:Nat->Int} (h:nfB p f=true):(0<=f 9∧f 9<=6)∧(0<=f 10∧f 10<=3)∧(0<=f 18∧f 18<=(p.IJ.length:Int) - 1)∧(0<=f 19∧f 19<=3):=by
 unfold nfB ek at h;simp only[am,bg] at h;exact⟨h.1.1.1.2,h.1.1.2,h.1.2,h.2⟩
theorem sn {x:Int}:∀{zs:List Int},cn x zs=0->∀z∈zs,z≠x
 |[],_,_,h=>by cases h
 |y::l,h0,z,h=>by
  unfold cn ez at h0;simp only[cd,ex] at h0;rcases bK.1 h with rfl|h
  ·intro e;unfold one at h0;rw[ag e] at h0;omega
  ·exact sn (zs:=l) (by unfold cn ez;omega) z h
theorem wW {x:Int} {zs:List Int} (h:cn x zs=0):dz (fun y=>y==x) zs=zs:=by
 unfold dz;rw[List.filter_eq_self];intro a b;simpa using sn h a b
theorem jI {x:Int}:∀{ls:List (List Int)},cna x ls=0->lvs x ls=ls
 |[],_=>rfl
 |l::r,h=>by
  unfold cna ez at h;simp only[cd,ex] at h;have a:lvs x r=r:=jI (by unfold cna ez;omega);unfold lvs at a ⊢;rw[cd,a,wW oA]
theorem pJ {x:Int} {zs:List Int} (h:cn x zs=0):zs.map (noT x)=zs:=by
 have:∀z∈zs,noT x z=z:=fun z a=>ae (sn h z a);exact (eI this).trans (List.map_id' zs)
def rdN (p:PW) (t:Nat):Nat:=(p.II.getD t bl 18*4+p.II.getD t bl 10).toNat
theorem m9 {p:PW} (h:Snd p) {t:Nat} (a:t<p.kinds.length) (hk:p.kinds[t]=6):rdN p t<p.ready.length∧p.II.getD t bl 18*4+p.II.getD t bl 10=(rdN p t:Int)∧(0<=p.II.getD t bl 18∧p.II.getD t bl 18<=1000)∧(0<=p.II.getD t bl 10∧p.II.getD t bl 10<=1000):=by
 obtain⟨b,c,d,_⟩:=rm (iY h a hk).1;have e:=h.lf.c2;unfold rdN;rw[h.lf.ready];omega
theorem ia (p:PW) (t k j:Nat) (x:Int) (b:t<p.II.length) (a:j≠k):(p.task t k x).II.getD t bl j=p.II.getD t bl j:=by rw[gM p t k j x b,ae a]
abbrev PW.t (p:PW) (n:Nat):Nat->Int:=p.II.getD n bl
structure kR (p:PW):Prop where
 w:∀x∈p.IL,0<=x∧x<=65535
 e:∀i,i<p.IL.length->beB p (p.k (i/16)) (p.IL.getD i 0)=false
theorem Aw {p:PW} {n:Nat} (h:n<p.II.length):p.II[n]=p.t n:=by
 show _=p.II.getD n bl
 rw[aa,ac h];rfl
theorem my {x:Int} {l:List Int} (h:x∉l):cn x l=0:=jO l (fun j a=>by
 unfold one;rw[ae];intro e;exact h (e▸av a))
def opE (p:PW) (n:Int):Int:=if fL p n then (if p.kinds.getD (n.toNat/16) 0=5 then (if (p.IH.getD n.toNat ft) 0=0 then 0 else 12) else 3) else 2
def boE (p:PW) (a b:Int):Int:=if fh p a=0 then opE p b else fh p a
theorem um (vb:Nat) (V:Nat->Value) (p:PW) (n:Int) (w:World) (hv:d6 w vb V p) (hk:p.IH.length=p.kinds.length*16):
  Calls Tryz.prog 174 #[.pointer (some ⟨vb,0,none⟩),.int .i64 n] w fun r w'=>r=.returned (.int .i64 (opE p n))∧w=w':=by
 have c2:=r11 2 hv.r;have c1:=r11 1 hv.r;obtain⟨I,b2,H,u,e2,m,q⟩:=hv.v.IH;obtain⟨q1,b1,G,t,e1,l,o⟩:=hv.v.kinds;have F:(p.IH.length:Int)<=1000:=by have:=hv.f.IH;omega
 have E:(p.kinds.length:Int)<=1000:=by have:=hv.f.kinds;omega
 cases hs:fL p n with
 |false=>
  have a:=hid (show opE p n=2 by unfold opE;rw[hs];rfl);have h:=hid hs;have k:=dh hs;by_cases c:n<0
  ·clear k;go_enter Tryz.func174,Tryz.ntmps174
   go_wp2_with fail
   go_ret
   exact⟨by rw[a.out];rfl,rfl⟩
  ·have z:(p.IH.length:Int)<=n:=oA;go_enter Tryz.func174,Tryz.ntmps174
   go_wp2_with fail
   go_ret
   exact⟨by rw[a.out];rfl,rfl⟩
 |true=>
  obtain⟨j,rfl,e⟩:=fQ hs;have h:=hid hs;have B:(j:Int)<(p.IH.length:Int):=oA;obtain rfl:=m oA;have s:=hV (q j e) (dk 7 _ 0 oA);have g:j/16<p.kinds.length:=oA;have C:((j:Int)/16)=((j/16:Nat):Int):=oA;have D:((j/16:Nat):Int)<(p.kinds.length:Int):=oA;obtain rfl:=l oA;have z0:=o (j/16) g;have b:=hid (show opE p j=if p.kinds[j/16]=5 then (if p.IH[j] 0=0 then 0 else 12) else 3 by unfold opE;rw[hs,ag rfl,ah,jZ g,aa,ac e];rfl);generalize p.IH[j] 0=y at s b;generalize p.kinds[j/16]=kd at z0 b;generalize j/16=i at*;have n0:¬((j:Int)<0):=oA;have n1:¬((p.IH.length:Int)<=(j:Int)):=oA;by_cases d:kd=5
  rotate_left
  ·have a:=hid (show opE p j=3 by rw[b.out,ae d]);have A:(kd !=5)=true:=by simpa using d
   go_enter Tryz.func174,Tryz.ntmps174
   go_wp2_with fail
   go_ret
   exact⟨by rw[a.out];rfl,rfl⟩
  subst d;by_cases c:y=0
  ·subst c;have a:=hid (show opE p j=0 by rw[b.out];rfl);go_enter Tryz.func174,Tryz.ntmps174
   go_wp2_with fail
   go_ret
   exact⟨by rw[a.out];rfl,rfl⟩
  ·have a:=hid (show opE p j=12 by rw[b.out,ag rfl,ae c]);have x:(y !=0)=true:=by simpa using c
   go_enter Tryz.func174,Tryz.ntmps174
   go_wp2_with fail
   go_ret
   exact⟨by rw[a.out];rfl,rfl⟩
theorem lX (vb:Nat) (V:Nat->Value) (p:PW) (a b:Int) (w:World) (hv:d6 w vb V p) (hk:p.IH.length=p.kinds.length*16):
  Calls Tryz.prog 116 #[.pointer (some ⟨vb,0,none⟩),.int .i64 a,.int .i64 b] w fun r w'=>r=.returned (.int .i64 (boE p a b))∧w=w':=by
 have d:=hid (mK vb V p a w hv);have e:=hid (um vb V p b w hv hk);by_cases h:fh p a=0
 ·have c:=hid (show boE p a b=opE p b from ag h);rw[h] at d;generalize opE p b=x at e c;go_enter Tryz.func116,Tryz.ntmps116
  go_wp2_with fail
  refine d.mono ?_;rintro r w1 ⟨rfl,rfl⟩;go_wp2_with fail
  refine e.mono ?_;rintro r w1 ⟨rfl,rfl⟩;go_wp2_with fail
  go_ret
  exact⟨by rw[c.out];rfl,rfl⟩
 ·have c:=hid (show boE p a b=fh p a from ae h);have f:(fh p a==0)=false:=by simpa using h
  generalize fh p a=x at d c f;go_enter Tryz.func116,Tryz.ntmps116
  go_wp2_with fail
  refine d.mono ?_;rintro r w1 ⟨rfl,rfl⟩;go_wp2_with fail
  go_ret
  exact⟨by rw[c.out];rfl,rfl⟩
theorem Eg {p:PW} {a b:Int} (h:boE p a b=0):∃i j:Nat,a=i∧b=j∧i<p.IH.length∧j<p.IH.length:=by
 unfold boE at h;split at h
 ·rename_i h1;unfold fh at h1;unfold opE at h
  cases ha:fL p a with
  |false=>rw[ha] at h1;simp at h1
  |true=>
   cases hb:fL p b with
   |false=>rw[hb] at h;simp at h
   |true=>
    obtain⟨i,hi,c⟩:=fQ ha;obtain⟨j,d,e⟩:=fQ hb;exact⟨i,j,hi,d,c,e⟩
 ·rename_i h1;exact absurd h h1
end Wd
namespace Mem
open Go.RowKit
section
variable {P : Program} {md : Region.Mode} {ops : Array Oper} {Q : Exit -> Act -> World -> Prop} {n1 N : Nat} {R : Nat -> Value -> World -> Prop} {w0 : World} {a0 : Act}
end
end Mem
namespace Wd
open Go.RowKit Mem Bw Nums Mmu
def sl (k:Nat):Int:=if k=6 then -1 else 0
def ot (f c:Nat) (zs:List Int):PW:=
 {IL:=List.replicate (f*16) 0,kinds:=List.replicate f 0,IH:=List.replicate (f*16) sl,II:=List.replicate f bl,lines:=List.replicate f [],bits:=List.replicate f 0,IJ:=List.replicate c (-1),ready:=List.replicate (c*4) [],IK:=List.replicate c [],IQ:=zs,time:=0}
def ndk (k:Nat):Int:=[5,0,1,0,7,0, -1].getD k 0
def wlP (f c:Nat) (zs:List Int):PW:={ot f c zs with kinds:=(ot f c zs).kinds.set 0 5,IH:=(ot f c zs).IH.set 0 ndk}
def clk (b n:Nat) (k:Nat):Int:=[1,(b:Int),(n:Int),0,7,0, -1].getD k 0
theorem dx {α:Type} {l:List α} {i:Nat} (h:i<l.length) (x d:α) (j:Nat):(l.set i x).getD j d=if j=i then x else l.getD j d:=by
 rw[aa,aa];by_cases e:j=i
 ·subst e;rw[ag rfl,cQ h];rfl
 ·rw[ae e,cR (fun h=>e h.symm)]
theorem CO {S:List (Nat->Int)} {i:Nat} (h:i<S.length) (a:(S.getD i eS) 0=0) {f:Nat->Int} (b:f 0≠0):nfl (S.set i f)=nfl S+1:=by
 unfold nfl;have e:S[i]=S.getD i eS:=by rw[aa,ac h];rfl
 rw[List.countP_set h,e,a];simp[b]
structure KIn (s:Nat->Int):Prop where
 k:1<=s 0∧s 0<=8
 b:0<=s 1
 l:1<=s 2
 bl:s 1+s 2<=24
 m:s 0=1->0<=s 3∧s 3<=s 2
 o:s 0≠1->s 2=1∧s 3=0
 r:0<=s 4∧s 4<=7
 g:(s 0=7∨s 0=8)∧0<=s 5∧s 5<=65535∨¬(s 0=7∨s 0=8)∧s 5=0
theorem mS {s:Nat->Int} (h:kc s=0) (b:s 0≠0):KIn s:=by
 unfold kc KP.chk at h;split at h
 ·cases h
 split at h
 ·cases h
 split at h
 ·cases h
 split at h
 ·cases h
 rename_i h1 h2 h3 h4;unfold KP.kW at h2;unfold KP.jf at h4;split at h2
 ·exact absurd rfl h2
 rename_i h5;have g:(s 0=7∨s 0=8)∧0<=s 5∧s 5<=65535∨¬(s 0=7∨s 0=8)∧s 5=0:=by
  split at h4
  ·rename_i e;exact .inl ⟨e,by simpa using h4⟩
  ·rename_i e;exact .inr ⟨e,by simpa using h4⟩
 by_cases e:s 0=1
 ·rw[ag e] at h2;have a:0<=s 3∧s 3<=s 2:=by simpa using h2
  exact⟨oA,oA,oA,oA,fun _=>a,fun h=>absurd e h,oA,g⟩
 ·rw[ae e] at h2;have a:s 2=1∧s 3=0:=by simpa using h2
  exact⟨oA,oA,oA,oA,fun h=>absurd h e,fun _=>a,oA,g⟩
theorem zL {s:Nat->Int} (h:KIn s):kc s=0:=by
 obtain⟨k,b,l,bl,m,o,r,g⟩:=h;have c:KP.kW (s 0) (s 1) (s 2) (s 3)=true:=by
  unfold KP.kW;rw[ae oA];by_cases e:s 0=1
  ·rw[ag e];exact az (m e)
  ·rw[ae e];exact az (o e)
 have a:KP.jf (s 0) (s 5)=true:=by
  unfold KP.jf;rcases g with ⟨e,h⟩|⟨e,h⟩
  ·rw[ag e];exact az h
  ·rw[ae e];exact az h
 unfold kc KP.chk;rw[ae oA,ae oA,c,ae oD,ae oA,a,ae oD]
theorem jh {n:Int} {s:Nat->Int}:clI n s=true↔s 0=1∧s 1<=n∧n<=s 1+s 2 - 1:=by
 unfold clI;rw[am,bz,bg]
theorem gS {n:Int} {s:Nat->Int}:opn n s=true↔s 0≠0∧s 0≠1∧s 1=n:=by
 unfold opn;rw[am,am,bne_iff_ne,bne_iff_ne,bz,and_assoc]
theorem F7 {n:Int} {s:Nat->Int} (h:clI n s=false):un n s=false:=by unfold un;rw[h];rfl
theorem Keys.add {p:PW} {r:Nat->Nat} (h:Keys p r) {b:Nat} (E:b<p.IH.length) (C:p.s b 0=0) (t:p.k (b/16)=5) {f:Nat->Int} (B:f 0≠0) (hk:vN p f)
  (v:f 6= -1∨∃u:Nat,f 6=u∧u<p.IH.length∧p.s u 0≠0∧cmB (p.s u) f=true)
  (F:f 0=1->∀n:Nat,clI n f=true->p.k n=0∧∀i,clI n (p.s i)=false)
  (G:f 0≠1->f 6= -1->∀c,clI (f 1) (p.s c)=false):∃r',Keys {p with IH:=p.IH.set b f} r':=by
 have S:∀j,PW.s {p with IH:=p.IH.set b f} j=if j=b then f else p.s j:=fun j=>dx E f eS j
 have q:∀u,p.s u 0≠0->u≠b:=fun u d e=>d (e▸C);have H:=mS hk.c B;have w:∀n:Int,clI n f=true->(∀i,clI n (p.s i)=false)∧∃m:Nat,n=m∧p.k m=0:=fun n d=>by
  obtain⟨e1,e2,I⟩:=jh.1 d;obtain⟨m,rfl⟩:∃m:Nat,n=m:=⟨n.toNat,by have:=H.b;omega⟩
  exact⟨(F e1 m d).2,m,rfl,(F e1 m d).1⟩
 refine⟨fun j=>if j=b then (if f 6= -1 then 0 else r (f 6).toNat+1) else r j,fun j a=>?_,fun j a=>?_,fun j a=>?_,fun j=>?_,fun j a=>?_,fun n i j hi a=>?_,fun n t=>?_,fun n t i=>?_,fun i d l g c=>?_⟩
 ·rw[S] at a ⊢;by_cases e:j=b
  ·rw[ag e] at a;exact absurd a B
  ·rw[ae e] at a ⊢;exact h.em j a
 ·rw[S] at a;split at a
  ·rename_i e;rw[e];exact t
  ·exact h.nd j a
 ·rw[S] at a ⊢;by_cases e:j=b
  ·rw[ag e];exact⟨hk.c,hk.le,hk.is⟩
  ·rw[ae e] at a ⊢;have:=h.key j a;exact⟨this.c,this.le,this.is⟩
 ·rw[S];by_cases e:j=b
  ·rw[ag e];rcases v with v|⟨u,d,l,g,o⟩
   ·exact .inl v
   ·refine .inr ⟨u,d,by rw[au];exact l,by rw[S,ae (q u g)];exact g,by rw[S,ae (q u g)];exact o,?_⟩;rw[ae (q u g),ag e,ae oA,d,ah];omega
  ·rw[ae e];rcases h.up j with d|⟨u,d,l,g,o,z⟩
   ·exact .inl d
   ·refine .inr ⟨u,d,by rw[au];exact l,by rw[S,ae (q u g)];exact g,by rw[S,ae (q u g)];exact o,?_⟩;rw[ae (q u g),ae e];exact z
 ·rw[S] at a;show _<nfl (p.IH.set b f)
  rw[CO E C B];by_cases e:j=b
  ·rw[ag e];rcases v with v|⟨u,d,l,g,o⟩
   ·rw[ag v];omega
   ·rw[ae oA,d,ah];have:=h.rk u g;omega
  ·rw[ae e] at a ⊢;have:=h.rk j a;omega
 ·rw[S] at hi a;by_cases x:i=b<;>by_cases y:j=b
  ·omega
  ·rw[ag x] at hi;rw[ae y,(w n hi).1 j] at a
   cases a
  ·rw[ag y] at a;rw[ae x,(w n a).1 i] at hi
   cases hi
  ·rw[ae x] at hi;rw[ae y] at a;exact h.one n i j hi a
 ·obtain⟨i,d,l⟩:=h.op n t;refine⟨i,by rw[au];exact d,?_⟩;rw[S,ae (q i (gS.1 l).1)];exact l
 ·rw[S];split
  ·refine F7 ?_
   cases hx:clI (n:Int) f with
   |false=>rfl
   |true=>
    obtain⟨_,m,g,o⟩:=w n hx;obtain rfl:n=m:=oA;exact absurd o t
  ·exact h.us n t i
 ·rw[S] at d l g ⊢;rw[S];by_cases e:i=b
  ·rw[ag e] at d l g ⊢;split
   ·cases hx:clI (f 1) f with
    |false=>rfl
    |true=>exact absurd (jh.1 hx).1 l
   ·exact G l g c
  ·rw[ae e] at d l g ⊢;split
   ·cases hx:clI (p.s i 1) f with
    |false=>rfl
    |true=>
     obtain⟨_,m,o,z⟩:=w _ hx;rcases (h.key i d).is with A|A
     ·exact absurd A l
     ·obtain⟨m2,J,_,D⟩:=fE A;obtain rfl:m=m2:=oA;rw[z] at D;exact absurd D.symm d
   ·exact h.gp i d l g c
theorem yV:∀x y:Fin 8,anB (bits .and .i64 (x.val:Int) (y.val:Int)) (x.val:Int)=0∧0<=bits .and .i64 (x.val:Int) (y.val:Int)∧bits .and .i64 (x.val:Int) (y.val:Int)<=7:=aA oK
theorem DW {x y:Int} (a:0<=x∧x<=7) (b:0<=y∧y<=7):anB (bits .and .i64 x y) x=0∧0<=bits .and .i64 x y∧bits .and .i64 x y<=7:=by
 have:=yV ⟨x.toNat,oA⟩ ⟨y.toNat,oA⟩;rw[show (((⟨x.toNat,oA⟩:Fin 8).val:Nat):Int)=x by simp;omega,show (((⟨y.toNat,oA⟩:Fin 8).val:Nat):Int)=y by simp;omega] at this;exact this
theorem vh (t x:Int) (l:List Int):dz (fun x=>x==t) (l++[x])=dz (fun x=>x==t) l++(if x=t then [] else [x]):=by
 unfold dz;rw[eT]
 congr 1
 by_cases h:x=t
 ·rw[ag h,List.filter_cons_of_neg (by simp[h])];rfl
 ·rw[ae h,List.filter_cons_of_pos (by simp[h])];rfl
theorem kg (v:Value) (l:List Int) (t:Int) (w:World) (hv:ed w v l) (hl:l.length<=1000):
  Calls Tryz.prog 125 #[v,.int .i64 t] w fun r w'=>∃u,r=.returned u∧w'.ownsRow w.heap.size 3 1 u (dz (fun x=>x==t) l).length (dU (dz (fun x=>x==t) l))∧Below w.heap.size w w':=by
 obtain⟨q,b,off,cap,rfl,J,R⟩:=hv;have E:=hid J;have G:=hid R;have U:(l.length:Int)<=1000:=oA;go_enter Tryz.func125,Tryz.ntmps125
 go_wp2_with fail
 go_loopw [5,6] (fun u i wr=>∃(k:Nat) (f:Option Addr) (cu:Nat),k<=l.length∧i=.int .i64 k∧u=.slice f (dz (fun x=>x==t) (l.take k)).length cu∧Hid (wr.ownsRow w.heap.size 3 1 (.slice f (dz (fun x=>x==t) (l.take k)).length cu) (dz (fun x=>x==t) (l.take k)).length (dU (dz (fun x=>x==t) (l.take k))))∧Hid (Below w.heap.size w wr)) (fun _ i _=>l.length - (intOf i).toNat)
 case atStart=>exact⟨0,none,0,oA,rfl,rfl,hid (ct _ _ _ _),hid (af _ _)⟩
 case round=>
  obtain⟨k,f,cu,hk,rfl,rfl,e,d⟩:=hrel;by_cases A:k<l.length
  ·have V:(k:Int)<(l.length:Int):=oA;have K:=E.out oA;subst K;have s:=G.out k A;have H:=(d.cell (aj _ _ s)).trans s;have p:=hid (bG A);have m:=hid (show (dz (fun x=>x==t) (l.take k)).length<=1000 from aB (cW _ _) (by rw[bH];omega));obtain⟨y,N⟩:∃y,l[k]=y:=⟨_,rfl⟩
   rw[N] at H p;have a:=hid (vh t y (l.take k));rw[<-p.out] at a;generalize dz (fun x=>x==t) (l.take k)=zs at e m a ⊢;by_cases h:y=t
   ·rw[ag h,dJ] at a;have Q:(y !=t)=false:=by simpa using h
    go_wp2_with fail
    refine⟨⟨k+1,f,cu,oA,by go_num,by rw[a.out],hid (by rw[a.out];exact e),d⟩,by simp[intOf];omega⟩
   ·rw[ae h] at a;have Q:(y !=t)=true:=by simpa using h
    have g:=hid (bal (af wr.heap.size wr) (.cells #[.int .i64 y] 3));have B:=hid (cq wr #[.int .i64 y] 3 0);obtain⟨i0,hi,S,M,O⟩:=fj kD;obtain⟨W,w',L,z,I,_⟩:=run_append_own (P:=Tryz.prog) (wr.alloc (.cells #[.int .i64 y] 3)) w.heap.size 22 22 3 i0 (.int .i64 0) 1 8 Tryz.underlying22 hi S M O rfl oD _ _ _ (fI e g) ⟨wr.heap.size,0,none⟩ 1 1 [.int .i64 y] rfl (fun j v c=>by
     match j,c with
     |0,c=>cases c;exact B
     |j+1,c=>simp at c) (Fb y) (by have:=m.out;unfold maxLen;omega) (by have:=m.out;omega) (aB d.size g.size)
    obtain⟨o,n,rfl⟩:=eJ z;have F:=hid L;have D:=hid (show w'.ownsRow w.heap.size 3 1 (.slice o (zs.length+1) n) (zs++[y]).length (dU (zs++[y])) by
     rw[ax,show dU (zs++[y])=dU zs++[.int .i64 y] by unfold dU;simp];exact z)
    have C:=hid ((btr d g).grown I (aB d.size g.size) (fun j c=>(e.lt j c).1));go_wp2_with (first|(at_builtin;refine fD rfl _ _ 22 rfl (.slice f zs.length cu) (.slice (some ⟨wr.heap.size,0,none⟩) 1 1) (.slice o (zs.length+1) n) rfl rfl F ?_))
    exact⟨⟨k+1,o,n,oA,by go_num,by rw[a.out,ax];rfl,hid (by rw[a.out];have:=D.out;rw[ax] at this ⊢;exact this),C⟩,by simp[intOf];omega⟩
  ·obtain rfl:k=l.length:=oA;have T:¬((l.length:Int)<(l.length:Int)):=oA;rw[cO] at e;rw[cO];go_wp2_with fail
   go_ret
   exact⟨_,rfl,e.out,d.out⟩
def nOw (t:Int) (f:Nat->Int):Nat->Int:=if f 17=t then upd f 17 (-1) else f
def stP (p:PW) (t:Nat):PW:=({p with lines:=lvs t p.lines,ready:=lvs t p.ready,IJ:=p.IJ.map (noT t),II:=p.II.map (nOw t)}:PW).task t 9 0 |>.task t 14 (-1)
theorem j9 (wb:Nat) (tag:Nat->Nat) (V:Nat->Value) (p:PW) (t:Nat) (W:World) (bt:cb W wb tag V p) (O:p.Fits) (ht:t<p.II.length):
  Calls Tryz.prog 132 #[.pointer (some ⟨wb,0,none⟩),.int .i64 t] W fun r W'=>r=.returned (.tuple #[])∧∃tag',cb W' wb tag' V (stP p t)∧Kt tag tag' W W':=by
 have aV:(p.lines.length:Int)<=1000:=by have:=O.lines;omega
 have aX:(p.ready.length:Int)<=1000:=by have:=O.ready;omega
 have aW:(p.IJ.length:Int)<=1000:=by have:=O.IJ;omega
 have aU:(p.II.length:Int)<=1000:=by have:=O.II;omega
 have am:=hid O.line;have aI:=hid O.next;have B0:=hid bt;have aY:(t:Int)<(p.II.length:Int):=oA;obtain⟨q6,g6,cap6,e6,aN⟩:=bt.o.IJ.shape;obtain⟨U,cap3,M⟩:=bt.o.II.form oA;have E6:=hid e6;have HQ:=hid aN;have E3:=hid M;have aJ:=hid ht;go_enter Tryz.func132,Tryz.ntmps132
 go_wp2_with fail
 go_loopw [4] (fun i wr=>∃(k:Nat) (tg:Nat->Nat),k<=p.lines.length∧i=.int .i64 k∧Hid (cb wr wb tg V {p with lines:=eY (dz fun x=>x==(t:Int)) k p.lines})∧Hid (Kt tag tg W wr)) (fun i _=>p.lines.length - (intOf i).toNat)
 case atStart=>exact⟨0,tag,oA,rfl,hid (by rw[fi];exact B0),hid (ew _ _)⟩
 case round=>
  obtain⟨k,tg,hk,rfl,a,q⟩:=hrel;obtain⟨b,eL⟩:=a.o.lines.form;have z:=hid (eL.trans (dF (fun m=>Value.slice (some ⟨b,0,none⟩) m m) (cM _ _ _)));have F:=hid (show fx wr tg 6 12 22 3 1 p.lines.length (.slice (some ⟨b,0,none⟩) p.lines.length p.lines.length) (ci (eY (dz fun x=>x==(t:Int)) k p.lines)) by
   have s:=a.o.lines;simp only at s;rw[cM,z.out] at s;exact s)
  have cl:=bD a z;by_cases l:k<p.lines.length
  ·have ay:(k:Int)<(p.lines.length:Int):=oA;go_wp2_with fail
   obtain⟨u,cu,hu⟩:=F.at (j:=k) l;have ah:=hid (show ci (eY (dz fun x=>x==(t:Int)) k p.lines) k=(p.lines[k].length,dU p.lines[k]) by
    have w:k<(eY (dz fun x=>x==(t:Int)) k p.lines).length:=by rw[cM];exact l
    unfold ci;rw[aa,ac w,aT,d9 _ _ _ l w])
   rw[ah.out] at hu;have HU:=hid (dN hu.1);have an:=hid (am.out _ (av l));have af:=hid (fun X (h:Below wr.heap.size wr X)=>(F.kp (T:=fun _=>False) (.IM h) (fun _ _=>rfl) (fun _ _ e=>e)).fr k);have I:=hid (fun X (h:Below wr.heap.size wr X)=>show X.cell? ⟨wb,4,none⟩=some (.slice (some ⟨b,0,none⟩) p.lines.length p.lines.length) by rw[ai (a.below h).r (k:=4) rfl,z.out]);have D:=hid (fun X (h:Below wr.heap.size wr X)=>(h.cell (aj _ _ cu)).trans cu);have C:=hid (aD wr 1);have ad:=hid (fun X v (h:Below wr.heap.size wr X) (A:X.ownsRow wr.heap.size 3 1 v ((dz fun x=>x==(t:Int)) p.lines[k]).length (dU ((dz fun x=>x==(t:Int)) p.lines[k])))=>show cb (X.setCell ⟨b,k,none⟩ v) wb (gR tg wr.heap.size (12+3*k)) V {p with lines:=eY (dz fun x=>x==(t:Int)) (k+1) p.lines}∧Kt tag (gR tg wr.heap.size (12+3*k)) W (X.setCell ⟨b,k,none⟩ v) from by
    obtain⟨az,Z⟩:=F.put (tag':=gR tg wr.heap.size (12+3*k)) (w1:=X) (u:=v) (c:=(((dz fun x=>x==(t:Int)) p.lines[k]).length,dU ((dz fun x=>x==(t:Int)) p.lines[k]))) (j:=k) l (fun j=>oA) (.IM h) (fun k hk=>dO hk) ⟨A.mono (bP _),fun j e=>by
     unfold gR;rw[ae (by have:=(A.lt j e).1;omega)]⟩
    refine⟨a.lines Z (fun k hk=>dO hk) ?_,q.trans (Kt.of (tag':=gR tg wr.heap.size (12+3*k)) Z (fun k e=>by rcases e with e|⟨j,e⟩<;>omega) (fun k hk=>dO hk))⟩;rw[cM,z.out,eA _ _ _ l,kz _ _ (by rw[cM];exact l)];exact az)
   refine ei (S:=fun X=>X.cell? ⟨wb,4,none⟩=some (.slice (some ⟨b,0,none⟩) p.lines.length p.lines.length)) (R:=fun X=>X.cell? ⟨b,k,none⟩=some u) [15] oK (I.out _ C) (D.out _ C) (fun aq ao=>?_);have g:=hid aq;have d:=hid ao;refine tF 0 (.pointer (some ⟨wb,0,none⟩)) rfl g (fun _=>d.out) ?_;simp only[jj];refine tF 1 (.pointer (some ⟨wb,0,none⟩)) rfl g (fun _=>d.out) ?_;simp only[jj];refine tF 2 (.pointer (some ⟨wb,4,none⟩)) rfl g (fun _=>d.out) ?_;simp only[jj];refine tG 3 (.slice (some ⟨b,0,none⟩) p.lines.length p.lines.length) rfl g (fun _=>d.out) ?_;simp only[jj];refine tF 4 (.int .i64 k) rfl g (fun _=>d.out) ?_;simp only[jj];refine tF 5 (.pointer (some ⟨wb,0,none⟩)) rfl g (fun _=>d.out) ?_;simp only[jj];refine tF 6 (.pointer (some ⟨wb,0,none⟩)) rfl g (fun _=>d.out) ?_;simp only[jj];refine tF 7 (.pointer (some ⟨wb,4,none⟩)) rfl g (fun _=>d.out) ?_;simp only[jj];refine tG 8 (.slice (some ⟨b,0,none⟩) p.lines.length p.lines.length) rfl g (fun _=>d.out) ?_;simp only[jj];refine tF 9 (.int .i64 k) rfl g (fun _=>d.out) ?_;simp only[jj];refine tF 10 (.pointer (some ⟨b,k,none⟩)) rfl g (fun _=>d.out) ?_;simp only[jj];refine eZ (i:=11) (v:=u) rfl oK oK oK oK oK oK (fun _ _ _ h=>h) (Or.inl ⟨oR,fun W h=>by have h3:=h.2;clear h;go_simp⟩) g (fun _=>d.out) ?_;simp only[jj];refine tF 12 (.int .i64 t) rfl g (fun _=>d.out) ?_;simp only[jj];refine r1 13 rfl (fun K J=>?_);go_simp
   refine (kg u p.lines[k] t _ (HU.below C) an).mono ?_;rintro r w1 ⟨v,rfl,A,hb⟩;obtain⟨qv,cv,rfl⟩:=eJ A;have n:=hid (btr C hb);have HO:=hid A;go_wp2_with fail
   refine J _ _ (I.out _ n) (fun _=>D.out _ n) (fun _ _=>?_)
   try simp only[Act.put,jD,jE,jF]
   have Q:=hid (I.out _ n);have P:=hid (D.out _ n);refine tF 14 (.pointer (some ⟨b,k,none⟩)) rfl Q (fun _=>P.out) ?_;simp only[jj];have aL:=Q.out;have aK:=P.out;have aM:=af.out _ n;obtain⟨Y,au⟩:=ad.out w1 _ n HO;have B6:=hid Y;have K6:=hid au;have S6:=hid (show (w1.setCell ⟨b,k,none⟩ (.slice qv ((dz fun x=>x==(t:Int)) p.lines[k]).length cv)).cell? ⟨wb,4,none⟩=some (.slice (some ⟨b,0,none⟩) p.lines.length p.lines.length) by rw[ai Y.r (k:=4) rfl,z.out]);refine r1 15 rfl (fun K J=>?_);go_simp
   refine J _ _ S6 (fv oK) (fun _ _=>?_)
   try simp only[Act.put]
   refine ec oK ?_ _;generalize World.setCell _ _ _=W6 at*;go_wp2_with fail
   exact⟨⟨k+1,_,oA,by go_num,B6,K6⟩,by simp[intOf];omega⟩
  ·obtain rfl:k=p.lines.length:=oA;have ar:¬((p.lines.length:Int)<(p.lines.length:Int)):=oA;have BL:=hid (show cb wr wb tg V {p with lines:=lvs t p.lines} by unfold lvs;rw[<-fF];exact a);have KL:=q;go_wp2_with fail
   generalize wr=wL at*;generalize tg=aQ at*;have am:=aI
   go_loopw [5] (fun i wr=>∃(k:Nat) (tg:Nat->Nat),k<=p.ready.length∧i=.int .i64 k∧Hid (cb wr wb tg V {{p with lines:=lvs t p.lines} with ready:=eY (dz fun x=>x==(t:Int)) k p.ready})∧Hid (Kt tag tg W wr)) (fun i _=>p.ready.length - (intOf i).toNat)
   case atStart=>exact⟨0,aQ,oA,rfl,hid (by rw[fi];exact BL),KL⟩
   case round=>
    obtain⟨k,tg,hk,rfl,a,q⟩:=hrel;obtain⟨b,eL⟩:=a.o.ready.form;have z:=hid (eL.trans (dF (fun m=>Value.slice (some ⟨b,0,none⟩) m m) (cM _ _ _)));have F:=hid (show fx wr tg 9 13 22 3 1 p.ready.length (.slice (some ⟨b,0,none⟩) p.ready.length p.ready.length) (ci (eY (dz fun x=>x==(t:Int)) k p.ready)) by
     have s:=a.o.ready;simp only at s;rw[cM,z.out] at s;exact s)
    have cl:=bD a z;by_cases l:k<p.ready.length
    ·have ay:(k:Int)<(p.ready.length:Int):=oA;go_wp2_with fail
     obtain⟨u,cu,hu⟩:=F.at (j:=k) l;have ah:=hid (show ci (eY (dz fun x=>x==(t:Int)) k p.ready) k=(p.ready[k].length,dU p.ready[k]) by
      have w:k<(eY (dz fun x=>x==(t:Int)) k p.ready).length:=by rw[cM];exact l
      unfold ci;rw[aa,ac w,aT,d9 _ _ _ l w])
     rw[ah.out] at hu;have HU:=hid (dN hu.1);have an:=hid (am.out _ (av l));have af:=hid (fun X (h:Below wr.heap.size wr X)=>(F.kp (T:=fun _=>False) (.IM h) (fun _ _=>rfl) (fun _ _ e=>e)).fr k);have I:=hid (fun X (h:Below wr.heap.size wr X)=>show X.cell? ⟨wb,7,none⟩=some (.slice (some ⟨b,0,none⟩) p.ready.length p.ready.length) by rw[ai (a.below h).r (k:=7) rfl,z.out]);have D:=hid (fun X (h:Below wr.heap.size wr X)=>(h.cell (aj _ _ cu)).trans cu);have C:=hid (aD wr 1);have ad:=hid (fun X v (h:Below wr.heap.size wr X) (A:X.ownsRow wr.heap.size 3 1 v ((dz fun x=>x==(t:Int)) p.ready[k]).length (dU ((dz fun x=>x==(t:Int)) p.ready[k])))=>show cb (X.setCell ⟨b,k,none⟩ v) wb (gR tg wr.heap.size (13+3*k)) V {{p with lines:=lvs t p.lines} with ready:=eY (dz fun x=>x==(t:Int)) (k+1) p.ready}∧Kt tag (gR tg wr.heap.size (13+3*k)) W (X.setCell ⟨b,k,none⟩ v) from by
      obtain⟨az,Z⟩:=F.put (tag':=gR tg wr.heap.size (13+3*k)) (w1:=X) (u:=v) (c:=(((dz fun x=>x==(t:Int)) p.ready[k]).length,dU ((dz fun x=>x==(t:Int)) p.ready[k]))) (j:=k) l (fun j=>oA) (.IM h) (fun k hk=>dO hk) ⟨A.mono (bP _),fun j e=>by
       unfold gR;rw[ae (by have:=(A.lt j e).1;omega)]⟩
      refine⟨a.ready Z (fun k hk=>dO hk) ?_,q.trans (Kt.of (tag':=gR tg wr.heap.size (13+3*k)) Z (fun k e=>by rcases e with e|⟨j,e⟩<;>omega) (fun k hk=>dO hk))⟩;rw[cM,z.out,eA _ _ _ l,kz _ _ (by rw[cM];exact l)];exact az)
     refine ei (S:=fun X=>X.cell? ⟨wb,7,none⟩=some (.slice (some ⟨b,0,none⟩) p.ready.length p.ready.length)) (R:=fun X=>X.cell? ⟨b,k,none⟩=some u) [15] oK (I.out _ C) (D.out _ C) (fun aq ao=>?_);have g:=hid aq;have d:=hid ao;refine tF 0 (.pointer (some ⟨wb,0,none⟩)) rfl g (fun _=>d.out) ?_;simp only[jj];refine tF 1 (.pointer (some ⟨wb,0,none⟩)) rfl g (fun _=>d.out) ?_;simp only[jj];refine tF 2 (.pointer (some ⟨wb,7,none⟩)) rfl g (fun _=>d.out) ?_;simp only[jj];refine tG 3 (.slice (some ⟨b,0,none⟩) p.ready.length p.ready.length) rfl g (fun _=>d.out) ?_;simp only[jj];refine tF 4 (.int .i64 k) rfl g (fun _=>d.out) ?_;simp only[jj];refine tF 5 (.pointer (some ⟨wb,0,none⟩)) rfl g (fun _=>d.out) ?_;simp only[jj];refine tF 6 (.pointer (some ⟨wb,0,none⟩)) rfl g (fun _=>d.out) ?_;simp only[jj];refine tF 7 (.pointer (some ⟨wb,7,none⟩)) rfl g (fun _=>d.out) ?_;simp only[jj];refine tG 8 (.slice (some ⟨b,0,none⟩) p.ready.length p.ready.length) rfl g (fun _=>d.out) ?_;simp only[jj];refine tF 9 (.int .i64 k) rfl g (fun _=>d.out) ?_;simp only[jj];refine tF 10 (.pointer (some ⟨b,k,none⟩)) rfl g (fun _=>d.out) ?_;simp only[jj];refine eZ (i:=11) (v:=u) rfl oK oK oK oK oK oK (fun _ _ _ h=>h) (Or.inl ⟨oR,fun W h=>by have h3:=h.2;clear h;go_simp⟩) g (fun _=>d.out) ?_;simp only[jj];refine tF 12 (.int .i64 t) rfl g (fun _=>d.out) ?_;simp only[jj];refine r1 13 rfl (fun K J=>?_);go_simp
     refine (kg u p.ready[k] t _ (HU.below C) an).mono ?_;rintro r w1 ⟨v,rfl,A,hb⟩;obtain⟨qv,cv,rfl⟩:=eJ A;have n:=hid (btr C hb);have HO:=hid A;go_wp2_with fail
     refine J _ _ (I.out _ n) (fun _=>D.out _ n) (fun _ _=>?_)
     try simp only[Act.put,jD,jE,jF]
     have Q:=hid (I.out _ n);have P:=hid (D.out _ n);refine tF 14 (.pointer (some ⟨b,k,none⟩)) rfl Q (fun _=>P.out) ?_;simp only[jj];have aL:=Q.out;have aK:=P.out;have aM:=af.out _ n;obtain⟨Y,au⟩:=ad.out w1 _ n HO;have B6:=hid Y;have K6:=hid au;have S6:=hid (show (w1.setCell ⟨b,k,none⟩ (.slice qv ((dz fun x=>x==(t:Int)) p.ready[k]).length cv)).cell? ⟨wb,7,none⟩=some (.slice (some ⟨b,0,none⟩) p.ready.length p.ready.length) by rw[ai Y.r (k:=7) rfl,z.out]);refine r1 15 rfl (fun K J=>?_);go_simp
     refine J _ _ S6 (fv oK) (fun _ _=>?_)
     try simp only[Act.put]
     refine ec oK ?_ _;generalize World.setCell _ _ _=W6 at*;go_wp2_with fail
     exact⟨⟨k+1,_,oA,by go_num,B6,K6⟩,by simp[intOf];omega⟩
    ·obtain rfl:k=p.ready.length:=oA;have ar:¬((p.ready.length:Int)<(p.ready.length:Int)):=oA;have BR:=hid (show cb wr wb tg V {p with lines:=lvs t p.lines,ready:=lvs t p.ready} by
      have s:=a.out;rw[show eY (dz fun x=>x==(t:Int)) p.ready.length p.ready=lvs t p.ready from fF _ _] at s;exact s)
     have D:=q;go_wp2_with fail
     generalize wr=wR at*;generalize tg=B at*
     go_loopw [6] (fun i wr=>∃(k:Nat),k<=p.IJ.length∧i=.int .i64 k∧Hid (cb wr wb B V {p with lines:=lvs t p.lines,ready:=lvs t p.ready,IJ:=eY (noT t) k p.IJ})∧Hid (Kt tag B W wr)) (fun i _=>p.IJ.length - (intOf i).toNat)
     case atStart=>exact⟨0,oA,rfl,hid (by rw[fi];exact BR),D⟩
     case round=>
      obtain⟨k,hk,rfl,a,q⟩:=hrel;by_cases l:k<p.IJ.length
      ·have ay:(k:Int)<(p.IJ.length:Int):=oA;have aO:=HQ.out oA;subst aO;have w:k<(eY (noT t) k p.IJ).length:=by rw[cM];exact l
       have N:V 6=.slice (some ⟨g6,0,none⟩) (eY (noT t) k p.IJ).length cap6:=by rw[cM];exact E6
       have c6:=bD a E6;have h2:=a.o.IJ;simp only at h2;rw[N] at h2;have xk:=h2.int w;have fk:=h2.frozen k;rw[d9 _ _ _ l w] at xk;have H:=hid (eA (noT (t:Int)) k p.IJ l);have L:=hid (d9 (noT (t:Int)) k p.IJ l w);obtain⟨y,hy⟩:∃y,p.IJ[k]=y:=⟨_,rfl⟩
       rw[hy] at xk H L;by_cases E:y=(t:Int)
       ·obtain⟨hn,ax⟩:=a.I4 N k (-1);have G:=hid (show cb (wr.setCell ⟨g6,k,none⟩ (.int .i64 (-1))) wb B V {p with lines:=lvs t p.lines,ready:=lvs t p.ready,IJ:=eY (noT t) (k+1) p.IJ} by
         rw[H.out,show noT (t:Int) y= -1 from ag E];exact hn)
        have al:=hid (q.trans ax);rw[E] at xk;go_wp2_with fail
        exact⟨⟨k+1,oA,by go_num,G,al⟩,by simp[intOf];omega⟩
       ·have G:=hid (show cb wr wb B V {p with lines:=lvs t p.lines,ready:=lvs t p.ready,IJ:=eY (noT t) (k+1) p.IJ} by
         rw[H.out,show noT (t:Int) y=y from ae E, <-L.out,bV];exact a)
        have aG:(y==(t:Int))=false:=by simpa using E
        go_wp2_with fail
        exact⟨⟨k+1,oA,by go_num,G,q⟩,by simp[intOf];omega⟩
      ·obtain rfl:k=p.IJ.length:=oA;have ar:¬((p.IJ.length:Int)<(p.IJ.length:Int)):=oA;have c6:=bD a E6;have BC:=hid (show cb wr wb B V {p with lines:=lvs t p.lines,ready:=lvs t p.ready,IJ:=p.IJ.map (noT t)} by rw[<-fF];exact a);have KC:=q;go_wp2_with fail
       generalize wr=wC at*;have aE:=hid (show p.II.length=p.II.length from rfl)
       go_loopw [7] (fun i wr=>∃(k:Nat),k<=p.II.length∧i=.int .i64 k∧Hid (cb wr wb B V {p with lines:=lvs t p.lines,ready:=lvs t p.ready,IJ:=p.IJ.map (noT t),II:=eY (nOw t) k p.II})∧Hid (Kt tag B W wr)) (fun i _=>p.II.length - (intOf i).toNat)
       case atStart=>exact⟨0,oA,rfl,hid (by rw[fi];exact BC),KC⟩
       case round=>
        obtain⟨k,hk,rfl,a,q⟩:=hrel;have aB:=hid (show (eY (nOw t) k p.II).length=p.II.length from (cM _ _ _).trans aE);have c3:=bD a E3;have N:V 3=.slice (some ⟨U,0,none⟩) (eY (nOw t) k p.II).length cap3:=by rw[aB.out];exact E3
        by_cases l:k<p.II.length
        ·have ay:(k:Int)<(p.II.length:Int):=oA;have aw:k<p.II.length:=by rw[aE.out];exact l
         have w:k<(eY (nOw t) k p.II).length:=by rw[aB.out];exact l
         have ab:=a.I3 N w (show 17<20 by omega);have aS:=a.IT N (k*20+17);simp only[d9 (nOw t) k p.II aw] at ab;have H:=hid (eA (nOw (t:Int)) k p.II aw);have L:=hid (d9 (nOw (t:Int)) k p.II aw w);obtain⟨f,hf⟩:∃f,p.II[k]=f:=⟨_,rfl⟩
         rw[hf] at H L ab;by_cases E:f 17=(t:Int)
         ·obtain⟨hn,ax⟩:=a.IV N w (show 17<20 by omega) (-1);have G:=hid (show cb (wr.setCell ⟨U,k*20+17,none⟩ (.int .i64 (-1))) wb B V {p with lines:=lvs t p.lines,ready:=lvs t p.ready,IJ:=p.IJ.map (noT t),II:=eY (nOw t) (k+1) p.II} by
           rw[H.out,show nOw (t:Int) f=upd f 17 (-1) from ag E, <-L.out];exact hn)
          have al:=hid (q.trans ax);rw[E] at ab;go_wp2_with fail
          exact⟨⟨k+1,oA,by go_num,G,al⟩,by simp[intOf];omega⟩
         ·have G:=hid (show cb wr wb B V {p with lines:=lvs t p.lines,ready:=lvs t p.ready,IJ:=p.IJ.map (noT t),II:=eY (nOw t) (k+1) p.II} by
           rw[H.out,show nOw (t:Int) f=f from ae E, <-L.out,bV];exact a)
          have aG:(f 17==(t:Int))=false:=by simpa using E
          generalize f 17=y at ab aG;go_wp2_with fail
          exact⟨⟨k+1,oA,by go_num,G,q⟩,by simp[intOf];omega⟩
        ·obtain rfl:k=p.II.length:=oA;have ar:¬((p.II.length:Int)<(p.II.length:Int)):=oA;have BT:=hid (show cb wr wb B V {p with lines:=lvs t p.lines,ready:=lvs t p.ready,IJ:=p.IJ.map (noT t),II:=p.II.map (nOw t)} by
          have s:=a.out;simp only[fF] at s;exact s)
         have KT:=q;have L0:=hid (show (p.II.map (nOw t)).length=p.II.length by simp);have M:V 3=.slice (some ⟨U,0,none⟩) ({p with lines:=lvs t p.lines,ready:=lvs t p.ready,IJ:=p.IJ.map (noT t),II:=p.II.map (nOw t)}:PW).II.length cap3:=E3.trans (dF (fun m=>Value.slice (some ⟨U,0,none⟩) m cap3) L0.symm);have aA:t<({p with lines:=lvs t p.lines,ready:=lvs t p.ready,IJ:=p.IJ.map (noT t),II:=p.II.map (nOw t)}:PW).II.length:=by show t<(p.II.map (nOw t)).length;rw[L0.out];exact aJ
         have x9:=BT.IS M aA (show 9<20 by omega);have f9:=BT.IT M (t*20+9);obtain⟨b1,k1⟩:=BT.task M aA (show 9<20 by omega) 0;have e4:V 3=.slice (some ⟨U,0,none⟩) (({p with lines:=lvs t p.lines,ready:=lvs t p.ready,IJ:=p.IJ.map (noT t),II:=p.II.map (nOw t)}:PW).task t 9 0).II.length cap3:=by rw[ap];exact M
         have aP:t<(({p with lines:=lvs t p.lines,ready:=lvs t p.ready,IJ:=p.IJ.map (noT t),II:=p.II.map (nOw t)}:PW).task t 9 0).II.length:=by rw[ap];exact aA
         have B1:=hid b1;have K1:=hid (KT.trans k1);have E4:=hid e4;have aC:=hid aP;go_upto_region 19 with fail
         generalize World.setCell _ _ _=W1 at*;have c3:=bD B1 E3;have aZ:=B1.IS E4 aC (show 14<20 by omega);have aR:=B1.IT E4 (t*20+14);obtain⟨b2,k2⟩:=B1.task E4 aC (show 14<20 by omega) (-1);have B2:=hid b2;have K2:=hid (K1.trans k2);go_wp2_with fail
         exact aH (aF rfl _ _ _) rfl ⟨rfl,B,B2.out,K2.out⟩
def stQ (p:PW) (t:Nat):PW:={lvP p t with II:=((lvP p t).task t 9 0).II.map (nOw t)}
theorem xJ (t:Int) (f:Nat->Int) (k:Nat) (x:Int) (hk:k≠17):nOw t (upd f k x)=upd (nOw t f) k x:=by
 unfold nOw;rw[show upd f k x 17=f 17 from ae (fun e=>hk e.symm)];by_cases h:f 17=t
 ·rw[ag h,ag h]
  funext j
  unfold upd;by_cases a:j=17
  ·rw[ag a,ae (fun e=>hk (e.symm.trans a)),ag a]
  ·rw[ae a];by_cases b:j=k
   ·rw[ag b,ag b]
   ·rw[ae b,ae b,ae a]
 ·rw[ae h,ae h]
theorem pG (p:PW) (t:Nat) (h:(Nat->Int)->(Nat->Int)) (a:t<p.II.length):(p.II.map h).getD t bl=h (p.II.getD t bl):=by
 rw[aa,db,ac a,aa,ac a];rfl
theorem F2 (p:PW) (t:Nat) (a:t<p.II.length):stQ p t=stP p t:=by
 have e:((lvP p t).task t 9 0).II.map (nOw t)=(stP p t).II:=by
  unfold stP lvP PW.task;simp only;rw[jL _ t _ _ a,ep,List.map_set,xJ _ _ 9 _ oD,xJ _ _ 14 _ oD];have b:t<(p.II.map (nOw t)).length:=by rw[bL];exact a
  rw[jL _ t _ _ b,ep,pG p t _ a,mi _ 14 9 _ _ oD]
 unfold stQ;rw[e];rfl
theorem Au (wb:Nat) (tag:Nat->Nat) (V:Nat->Value) (p:PW) (t:Nat) (W:World) (bt:cb W wb tag V p) (C:p.Fits) (v:t<p.II.length):
  Calls Tryz.prog 108 #[.pointer (some ⟨wb,0,none⟩),.int .i64 t] W fun r W'=>r=.returned (.tuple #[])∧cb W' wb tag V (stP p t)∧Kt tag tag W W':=by
 rw[<-F2 p t v];have E:=hid (vk wb tag V p t W bt C v);have U:(p.II.length:Int)<=1000:=by have:=C.II;omega
 have Y:(t:Int)<(p.II.length:Int):=oA;obtain⟨c,cap3,G⟩:=bt.o.II.form oA;have g:=hid G;have F:=hid v;have s:=hid (show (lvP p t).II.length=p.II.length from ap p t 14 (-1));have A:=hid ((ap (lvP p t) t 9 0).trans s);clear bt C G v;go_enter Tryz.func108,Tryz.ntmps108
 go_wp2_with fail
 refine E.mono ?_;rintro r w1 ⟨rfl,b,H⟩;have e4:V 3=.slice (some ⟨c,0,none⟩) (lvP p t).II.length cap3:=by rw[s.out];exact g
 have u:w1.cell? ⟨wb,3,none⟩=some (.slice (some ⟨c,0,none⟩) p.II.length cap3):=by rw[ai b.r (k:=3) rfl,g.out]
 have R:=b.IS e4 (i:=t) (by rw[s.out];exact F) (show 9<20 by omega);have P:=b.IT e4 (t*20+9);obtain⟨b2,k2⟩:=b.task e4 (i:=t) (by rw[s.out];exact F) (show 9<20 by omega) 0;have D:=hid (show cb (w1.setCell ⟨c,t*20+9,none⟩ (.int .i64 0)) wb tag V {lvP p t with II:=((lvP p t).task t 9 0).II} from b2);have N:=hid (H.trans k2);clear b H b2 k2 e4 E;go_upto_region 2 with fail
 generalize World.setCell _ _ _=O at*;clear R P u;have u:O.cell? ⟨wb,3,none⟩=some (.slice (some ⟨c,0,none⟩) p.II.length cap3):=by rw[ai D.r (k:=3) rfl,g.out]
 go_wp2_with fail
 clear u
 go_loopw [20] (fun i wr=>∃(k:Nat),k<=p.II.length∧i=.int .i64 k∧Hid (cb wr wb tag V {lvP p t with II:=eY (nOw t) k ((lvP p t).task t 9 0).II})∧Hid (Kt tag tag W wr)) (fun i _=>p.II.length - (intOf i).toNat)
 case atStart=>exact⟨0,oA,rfl,hid (by rw[fi];exact D),N⟩
 case round=>
  obtain⟨k,hk,rfl,a,x⟩:=hrel;have j:=hid (show (eY (nOw t) k ((lvP p t).task t 9 0).II).length=p.II.length from (cM _ _ _).trans A);have u:wr.cell? ⟨wb,3,none⟩=some (.slice (some ⟨c,0,none⟩) p.II.length cap3):=by rw[ai a.r (k:=3) rfl,g.out]
  have d:V 3=.slice (some ⟨c,0,none⟩) (eY (nOw t) k ((lvP p t).task t 9 0).II).length cap3:=by rw[j.out];exact g
  by_cases J:k<p.II.length
  ·have X:(k:Int)<(p.II.length:Int):=oA;have q:k<((lvP p t).task t 9 0).II.length:=by rw[A.out];exact J
   have n:k<(eY (nOw t) k ((lvP p t).task t 9 0).II).length:=by rw[j.out];exact J
   have w:=a.I3 d n (show 17<20 by omega);have S:=a.IT d (k*20+17);simp only[d9 (nOw t) k ((lvP p t).task t 9 0).II q] at w;have l:=hid (eA (nOw (t:Int)) k ((lvP p t).task t 9 0).II q);have h:=hid (d9 (nOw (t:Int)) k ((lvP p t).task t 9 0).II q n);obtain⟨f,B⟩:∃f,((lvP p t).task t 9 0).II[k]=f:=⟨_,rfl⟩
   rw[B] at l h w;by_cases e:f 17=(t:Int)
   ·obtain⟨K,I⟩:=a.IV d n (show 17<20 by omega) (-1);have z:=hid (show cb (wr.setCell ⟨c,k*20+17,none⟩ (.int .i64 (-1))) wb tag V {lvP p t with II:=eY (nOw t) (k+1) ((lvP p t).task t 9 0).II} by
     rw[l.out,show nOw (t:Int) f=upd f 17 (-1) from ag e, <-h.out];exact K)
    have M:=hid (x.trans I);rw[e] at w;clear K I d a e B l h j q n;go_wp2_with fail
    exact⟨⟨k+1,oA,by go_num,z,M⟩,by simp[intOf];omega⟩
   ·have z:=hid (show cb wr wb tag V {lvP p t with II:=eY (nOw t) (k+1) ((lvP p t).task t 9 0).II} by
     rw[l.out,show nOw (t:Int) f=f from ae e, <-h.out,bV];exact a)
    have Q:(f 17==(t:Int))=false:=by simpa using e
    generalize f 17=y at w Q;clear d a e B l h j q n;go_wp2_with fail
    exact⟨⟨k+1,oA,by go_num,z,x⟩,by simp[intOf];omega⟩
  ·obtain rfl:k=p.II.length:=oA;have T:¬((p.II.length:Int)<(p.II.length:Int)):=oA;have L:=hid (show cb wr wb tag V (stQ p t) by
    have b:=a.out;rw[show eY (nOw t) p.II.length ((lvP p t).task t 9 0).II=((lvP p t).task t 9 0).II.map (nOw t) from (dF (fun m=>eY (nOw t) m ((lvP p t).task t 9 0).II) A.symm).trans (fF _ _)] at b;exact b)
   clear a d j;go_wp2_with fail
   exact aH (aF rfl _ _ _) rfl ⟨rfl,L.out,x.out⟩
