/- Qbk -/
import Derived.Deep.RegionHeld3
import Derived.BigQuiet
import Derived.Test.YtnccmdndkmmhcaaGreatDoorQbj
import Derived.Test.YtnccmdndkmmhcaaGreatDoorQbg
set_option maxRecDepth 100000
set_option maxHeartbeats 16000000
namespace Go.Proofs.YtnccmdndkmmhcaaGreatDoor
namespace Wd
open Go.RowKit Mem Bw Nums Mmu
end Wd
namespace Wd
open Go.RowKit Mem Bw Nums Mmu Hex Mad
theorem vS {w:World} {X:Nat->Value} {p:PW} (hv:fp w X p):Below w.heap.size w ((w.alloc (.cells zW 28)).setCells w.heap.size 0 [X 0,X 1,X 2,X 3,X 4,X 5,X 6,X 7,X 8,X 9,X 10])∧((w.alloc (.cells zW 28)).setCells w.heap.size 0 [X 0,X 1,X 2,X 3,X 4,X 5,X 6,X 7,X 8,X 9,X 10]).rangeAt w.heap.size 0 (de X).toList∧((w.alloc (.cells zW 28)).setCells w.heap.size 0 [X 0,X 1,X 2,X 3,X 4,X 5,X 6,X 7,X 8,X 9,X 10]).there w.heap.size 0 11∧fp ((w.alloc (.cells zW 28)).setCells w.heap.size 0 [X 0,X 1,X 2,X 3,X 4,X 5,X 6,X 7,X 8,X 9,X 10]) X p:=by
 have t:=aP w zW 28 w.heap.size 11 rfl oD;have b0:=bal (af w.heap.size w) (.cells zW 28);have k:Kp (fun k=>k=w.heap.size) (w.alloc (.cells zW 28)) ((w.alloc (.cells zW 28)).setCells w.heap.size 0 [X 0,X 1,X 2,X 3,X 4,X 5,X 6,X 7,X 8,X 9,X 10]):=aN (T:=fun k=>k=w.heap.size) (.inl rfl) _ _ _ (aV _ _);have b1:=k.below b0 b0.size (fun k hk e=>oA);exact⟨b1,World.rangeAt_setCells_same _ w.heap.size 0 (de X).toList t,World.there_setCells t _ _ _,hv.below b1⟩
theorem fp.Jb {w:World} {X:Nat->Value} {p:PW} (h:fp w X p):(de X).all (·.oneCell')=true:=by
 simp only[List.all_toArray,List.all_cons,List.all_nil,Bool.and_true,h.IE.one,h.kinds.one,h.IA.one,h.IB.one,h.lines.one,h.bits.one,h.IC.one,h.ready.one,h.ID.one,h.IG.one,eH];rw[h.time];rfl
end Wd
namespace Wd
open Go.RowKit Mem Bw Nums Mmu
theorem lR {α:Type} {l:List α} {f:α->Bool} {d:α} (h:l.all f=true) (a:f d=true) (n:Nat):f (l.getD n d)=true:=by
 rw[aa]
 cases e:l[n]? with
 |none=>exact a
 |some x=>exact aU.1 h x (dZ e)
def dpN (p:PW):Nat->Nat->Nat
 |0,_=>0
 |f+1,i=>if p.s i 6= -1 then 0 else dpN p f (p.s i 6).toNat+1
def ky1 (p:PW) (c i:Nat):Bool:=
 if p.s i 0==0 then (List.range 6).all (fun k=>p.s i k==0)&&p.s i 6== -1
 else p.k (i/16)==5&&kc (p.s i)==0&&decide (p.s i 1+p.s i 2<=(p.kinds.length:Int))&&(p.s i 0==1||isB p (p.s i 1) (p.s i 0))&&(p.s i 6== -1||(decide (0<=p.s i 6)&&p.s (p.s i 6).toNat 0 !=0&&cmB (p.s (p.s i 6).toNat) (p.s i)&&decide (dpN p 8 (p.s i 6).toNat<dpN p 8 i)))&&(p.s i 0 !=1||i==c)&&(p.s i 0==1||p.s i 6 != -1|| !clI (p.s i 1) (p.s c))
def us1 (p:PW) (c n:Nat):Bool:=p.k n==0||(!un n (p.s c)&&(List.range p.IA.length).any fun i=>opn n (p.s i))
def ts1 (p:PW) (n:Nat):Bool:=p.t n 9==0&&p.t n 14== -1&&p.t n 17== -1&&(List.range 20).all fun k=>if p.k n==6 then fOk p k (p.t n k) else p.t n k==bl k
def stB (p:PW) (c:Nat):Bool:=
 ((List.range p.IA.length).all (ky1 p c)&&(List.range p.kinds.length).all (us1 p c))&&((List.range p.kinds.length).all (ts1 p)&&(p.kinds.all fun k=>decide (0<=k∧k<=8∧k≠1))&&p.IG.all fun k=>decide (0<=k∧k<=3))&&((p.lines.all (·.isEmpty)&&p.ready.all (·.isEmpty))&&(p.IC.all (· == -1)&&p.bits.all (· ==0)&&p.ID.all (·.isEmpty)))&&(List.range p.IE.length).all fun i=> !beB p (p.k (i/16)) (p.IE.getD i 0)
theorem xo {p:PW} {i:Nat} (h:p.IA.length<=i):p.s i=eS:=by
 show p.IA.getD i eS=_
 rw[aa,aK h];rfl
theorem Cs {p:PW} {n:Nat} (h:p.kinds.length<=n):p.k n=0:=by
 show p.kinds.getD n 0=_
 rw[aa,aK h];rfl
theorem Fh {p:PW} (c:Nat) (Y:∀x∈p.IE,0<=x∧x<=65535) (lf:LF p) (tm:0<=p.time) (h:stB p c=true):Lw p:=by
 unfold stB at h;simp only[am] at h;obtain⟨⟨⟨⟨r,G⟩,⟨P,Q⟩,S⟩,⟨E,U⟩,⟨V,W⟩,N⟩,O⟩:=h;have K:∀i,p.s i 0≠0->ky1 p c i=true∧i<p.IA.length:=fun i hi=>by
  rcases cO i p.IA.length with e|e
  ·exact⟨aU.1 r i (List.mem_range.2 e),e⟩
  ·rw[xo e] at hi;exact absurd rfl hi
 have q:∀i,p.s i 0≠0->p.k (i/16)=5∧vK p (p.s i)∧(p.s i 6= -1∨∃u:Nat,p.s i 6=u∧p.s u 0≠0∧cmB (p.s u) (p.s i)=true∧dpN p 8 u<dpN p 8 i)∧(p.s i 0=1->i=c)∧(p.s i 0≠1->p.s i 6= -1->clI (p.s i 1) (p.s c)=false):=fun i hi=>by
  have hk:=(K i hi).1;unfold ky1 at hk;rw[ae (by simpa using hi)] at hk;simp only[am,bZ,bu,bne_iff_ne,bf,dF] at hk;obtain⟨⟨⟨⟨⟨⟨a1,y⟩,A⟩,D⟩,I⟩,J⟩,o⟩:=hk;refine⟨a1,⟨y,A,D⟩,I.elim .inl fun b=>.inr ⟨(p.s i 6).toNat,oA,b.1.1.2,b.1.2,b.2⟩,fun e=>J.resolve_left fun f=>f e,fun e f=>?_⟩;rcases o with (o|o)|o
  ·exact absurd o e
  ·exact absurd f o
  ·exact o
 have w:∀n i,clI n (p.s i)=true->i=c:=fun n i hi=>by
  unfold clI at hi;simp only[am,bu] at hi;exact (q i (by rw[hi.1];decide)).2.2.2.1 hi.1
 have F:∀n i,i≠c->clI n (p.s i)=false:=fun n i hi=>by
  cases e:clI n (p.s i) with
  |false=>rfl
  |true=>exact absurd (w n i e) hi
 have T:∀n,p.t n 9=0∧p.t n 14= -1∧p.t n 17= -1∧∀k,k<20->if p.k n=6 then fOk p k (p.t n k)=true else p.t n k=bl k:=fun n=>by
  rcases cO n p.kinds.length with e|e
  ·have:=aU.1 P n (List.mem_range.2 e);unfold ts1 at this;simp only[am,bu] at this;obtain⟨⟨⟨a1,y⟩,A⟩,D⟩:=this;refine⟨a1,y,A,fun k hk=>?_⟩;have:=aU.1 D k (List.mem_range.2 hk);split
   ·rename_i e6
    rwa [ag e6] at this
   ·rename_i e6;rw[ae e6] at this;simpa using this
  ·have et:p.t n=bl:=by
    show p.IB.getD n bl=_
    rw[aa,aK (by have:=lf.IB;omega)];rfl
   rw[et,Cs e];exact⟨rfl,rfl,rfl,fun k _=>by rw[ae oD]⟩
 have L:∀a,p.li a=[]:=fun a=>by have:=lR (d:=[]) E rfl a;simpa using this
 have R:∀a,p.re a=[]:=fun a=>by have:=lR (d:=[]) U rfl a;simpa using this
 have C:∀a,p.co a= -1:=fun a=>by have:=lR (d:= -1) V rfl a;simpa using this
 have B:∀a,p.bi a=0:=fun a=>by have:=lR (d:=0) W rfl a;simpa using this
 refine⟨⟨fun k hk=>aA (aU.1 Q k hk),fun k hk=>aA (aU.1 S k hk),⟨dpN p 8,?_⟩,fun n g=>?_,⟨Y,fun i hi=>by have:=aU.1 O i (List.mem_range.2 hi);simpa using this⟩,⟨lf,⟨fun n g k hk=>by have:=(T n).2.2.2 k hk;rwa [ae g] at this,fun n g k hk=>by have:=(T n).2.2.2 k hk;rwa [ag g] at this⟩,⟨fun n=>.inl (T n).2.2.1,fun u H=>(by rw[(T u).1] at H;cases H),fun n m u g=>(by rw[(T n).2.2.1] at g;omega)⟩,?_⟩⟩,fun l hl=>?_,tm⟩
 ·exact {
   em:=fun i hi=>by
    rcases cO i p.IA.length with e|e
    ·have hk:=aU.1 r i (List.mem_range.2 e);unfold ky1 at hk;rw[ag (by simpa using hi)] at hk;simp only[am,bu] at hk;exact⟨fun k h=>by have:=aU.1 hk.1 k (List.mem_range.2 h);simpa using this,hk.2⟩
    ·rw[xo e];exact⟨fun k h=>by unfold eS;rw[ae oA],rfl⟩
   nd:=fun i hi=>.inl (q i hi).1
   key:=fun i hi=>(q i hi).2.1
   up:=fun i=>by
    by_cases e:p.s i 0=0
    ·refine .inl ?_;rcases cO i p.IA.length with e2|e2
     ·have hk:=aU.1 r i (List.mem_range.2 e2);unfold ky1 at hk;rw[ag (by simpa using e)] at hk;simp only[am,bu] at hk;exact hk.2
     ·rw[xo e2];rfl
    ·exact (q i e).2.2.1
   one:=fun n i j hi X=>(w n i hi).trans (w n j X).symm
   us:=fun n g i=>by
    by_cases e:i=c
    ·subst e;have hl:=Nat.lt_of_not_le fun h=>g (Cs h);have:=aU.1 G n (List.mem_range.2 hl);unfold us1 at this;simp only[bZ,am,bu,dF] at this;exact (this.resolve_left g).1
    ·unfold un;rw[F n i e];rfl
   gp:=fun i hi r E M=>by
    by_cases e:M=c
    ·rw[e];exact (q i hi).2.2.2.2 r E
    ·exact F _ _ e}
 ·have hl:=Nat.lt_of_not_le fun h=>g (Cs h);have:=aU.1 G n (List.mem_range.2 hl);unfold us1 at this;simp only[bZ,am,bu,dF,List.any_eq_true] at this;obtain⟨i,_,hi⟩:=(this.resolve_left g).2;exact⟨i,hi⟩
 ·exact {
   hk:=fun n h=>h.elim
   a1:=fun n _ _ _=>(T n).2.1
   la:=fun n _ _ h=>absurd (by rw[(T n).1];rfl) h
   ln:=fun a z v=>by rw[L a] at v;cases v
   lu:=fun a=>by rw[L a];exact List.nodup_nil
   lw:=fun a n m g=>by rw[L a] at g;cases g
   bt:=fun a=>.inl (B a)
   rd:=fun i z v=>by rw[R i] at v;cases v
   ru:=fun i=>by rw[R i];exact List.nodup_nil
   cr:=fun a=>.inl (C a)
   rq:=fun n _ _ h=>by rw[(T n).1] at h;cases h}
 ·have:l=[]:=by have:=aU.1 N l hl;simpa using this
  subst this;exact⟨oD,(fun _ h=>by cases h),List.Pairwise.nil⟩
theorem Hc (L:Nat->Int) (h:∀i,i<32->0<=L i∧L i<=65535):Lv (p0 L):=
 ⟨Fh 1 (C5 h) (xq oK) (by show (0:Int)<=0;decide) oK,by show (0:Int)<=1000000;decide⟩
end Wd
namespace Wd
open Go.RowKit Mem Bw Nums Mmu Hex
def qK:ByteArray:=⟨#[119,111,114,108,100,32,50,50,32,49,32,48,32,49,32,48,10,99,108,97,121,32,49,32,49,32,49,57,10,109,97,107,101,32,110,111,100,101,32,49,32,49,32,50,10,109,97,107,101,32,115,112,97,99,101,32,49,32,49,32,51,10,109,97,107,101,32,116,97,98,108,101,32,49,32,49,32,52,10,109,97,107,101,32,112,97,103,101,32,49,32,51,32,53,10,109,97,107,101,32,116,97,115,107,32,49,32,51,32,56,10,109,97,107,101,32,100,111,111,114,32,49,32,50,32,49,49,10,109,97,107,101,32,98,101,108,108,32,49,32,49,32,49,51,10,99,111,112,121,32,49,49,32,49,54,32,55,32,57,10,99,111,112,121,32,49,50,32,49,55,32,51,32,48,10,99,111,112,121,32,49,51,32,49,56,32,55,32,52,10,99,111,112,121,32,56,32,49,57,32,55,32,48,10,99,111,112,121,32,53,32,50,48,32,49,32,48,10,101,110,116,101,114,32,50,32,48,32,51,32,48,10,101,110,116,101,114,32,50,32,48,32,52,32,48,10,101,110,116,101,114,32,50,32,49,32,53,32,48,10,101,110,116,101,114,32,50,32,50,32,54,32,49,10,101,113,117,105,112,32,55,32,48,32,50,32,45,32,48,32,49,32,48,10,101,113,117,105,112,32,56,32,49,32,50,32,49,48,32,48,32,49,32,48,10,101,113,117,105,112,32,57,32,49,32,50,32,49,49,32,48,32,51,32,49,10]⟩
def AZ:PW:=wlP 22 1 [0,1,0]
def Fi:PW:={AZ with IA:=AZ.IA.set 1 (clk 1 19)}
def Fj:PW:=mkP Fi 1 (2+((3:Nat):Int)) 1 2
def Fk:PW:=mkP Fj 1 (2+((2:Nat):Int)) 1 3
def Fl:PW:=mkP Fk 1 (2+((1:Nat):Int)) 1 4
def Fm:PW:=mkP Fl 1 (2+((0:Nat):Int)) 3 5
def Fp:PW:=mkP Fm 1 (2+((4:Nat):Int)) 3 8
def Fq:PW:=mkP Fp 1 (2+((5:Nat):Int)) 2 11
def tW:PW:=mkP Fq 1 (2+((6:Nat):Int)) 1 13
def ph:PW:={tW with IA:=tW.IA.set 16 (kpS (tW.IA.getD 11 fv) (Bw.bw 6 ((tW.IA.getD 11 fv) 4).toNat 7:Nat) 9 11)}
def pj:PW:={ph with IA:=ph.IA.set 17 (kpS (ph.IA.getD 12 fv) (Bw.bw 6 ((ph.IA.getD 12 fv) 4).toNat 3:Nat) 0 12)}
def pk:PW:={pj with IA:=pj.IA.set 18 (kpS (pj.IA.getD 13 fv) (Bw.bw 6 ((pj.IA.getD 13 fv) 4).toNat 7:Nat) 4 13)}
def pn:PW:={pk with IA:=pk.IA.set 19 (kpS (pk.IA.getD 8 fv) (Bw.bw 6 ((pk.IA.getD 8 fv) 4).toNat 7:Nat) 0 8)}
def xy:PW:={pn with IA:=pn.IA.set 20 (kpS (pn.IA.getD 5 fv) (Bw.bw 6 ((pn.IA.getD 5 fv) 4).toNat 1:Nat) 0 5)}
def sC:PW:={xy with IE:=xy.IE.set (2*16+0/16) (32768+((3:Nat):Int))}
def sD:PW:={sC with IE:=sC.IE.set ((sC.IE.getD (2*16+0/16) 0).toNat%1024*16+0%16) (32768+((0:Nat):Int)*16384+((4:Nat):Int))}
def sE:PW:={sD with IE:=sD.IE.set ((sD.IE.getD (2*16+1/16) 0).toNat%1024*16+1%16) (32768+((0:Nat):Int)*16384+((5:Nat):Int))}
def CB:PW:={sE with IE:=sE.IE.set ((sE.IE.getD (2*16+2/16) 0).toNat%1024*16+2%16) (32768+((1:Nat):Int)*16384+((6:Nat):Int))}
def CC:PW:=eqP CB 7 (fun k=>[0,0,2,(-1),0,1,0].getD k 0)
def CD:PW:=eqP CC 8 (fun k=>[0,1,2,10,0,1,0].getD k 0)
def CE:PW:=eqP CD 9 (fun k=>[0,1,2,11,0,3,1].getD k 0)
def lP:PW:=CE
theorem CG:fZ (Prs.gB qK) (wlP 22 1 [0,1,0]) (Prs.gB qK).length=lP:=oK
theorem vp:yR (Prs.gB qK) (fZ (Prs.gB qK) (wlP 22 1 [0,1,0])) 22 1 [0,1,0]:=
 um (l:=[⟨#[50,50]⟩,⟨#[49]⟩,⟨#[48]⟩,⟨#[49]⟩,⟨#[48]⟩]) (aA oK) (aA oK) oK oK oD oD oK oD oK oK
end Wd
namespace Wd
open Go.RowKit Mem Bw Nums Mmu Hex Mad
def FJ (L:Nat->Int):List Int:=(lP.IE.take 64++(List.range 32).map L)++lP.IE.drop 96
def m0 (L:Nat->Int):PW:={lP with IE:=FJ L}
theorem qL (zs:List (Int×Int×Int×Int)):cdN lP.IE 64 zs 16=FJ (iQ zs):=oK
theorem Da {L:Nat->Int} (h:∀i,i<32->0<=L i∧L i<=65535):∀x∈FJ L,0<=x∧x<=65535:=by
 have b:lP.IE.all (fun x=>decide (0<=x)&&decide (x<=65535))=true:=oK;rw[aU] at b;intro x a;unfold FJ at a;rw[dH,dH] at a;rcases a with (a|a)|a
 ·have:=b x (List.mem_of_mem_take a);simpa using this
 ·obtain⟨i,hi,rfl⟩:=List.mem_map.1 a;exact h i (List.mem_range.1 hi)
 ·have:=b x (List.mem_of_mem_drop a);simpa using this
theorem GX (L:Nat->Int) (h:∀i,i<32->0<=L i∧L i<=65535):Lv (m0 L):=
 ⟨Fh 1 (Da h) (xq oK) (by show (0:Int)<=0;decide) oK,by show (0:Int)<=1000000;decide⟩
end Wd
namespace Wd
open Go.RowKit Mem Bw Nums Mmu
def Rm (p q:PW):Prop:=Sm p q∧∃X R,q={p with ID:=X,IE:=R}
theorem Rm.refl {p:PW} (h:Lv p):Rm p p:=⟨Sm.refl h,_,_,rfl⟩
theorem Rm.trans {p q r:PW} (h:Rm p q) (g:Rm q r):Rm p r:=by
 obtain⟨a,X,R,rfl⟩:=h;obtain⟨b,Y,T,rfl⟩:=g;exact⟨a.trans b,Y,T,rfl⟩
def Tb (p:PW) (wb:Nat) (tag:Nat->Nat) (V:Nat->Value) (W W':World):Prop:=∃tag' q,Kt tag tag' W W'∧cb W' wb tag' V q∧Rm p q
theorem cb.JP {W:World} {wb:Nat} {tag:Nat->Nat} {V:Nat->Value} {p:PW} (bt:cb W wb tag V p) (h:Lv p):jQ W (V 0) p.IE:=
 ⟨dM bt.o.IE.1,fun z a=>by have:=h.w.m.IE.w z a;omega,by have:=h.w.m.tk.lf.IE;have:=h.w.m.tk.lf.k2;omega⟩
theorem Lv.JQ {p:PW} (h:Lv p) {c:Nat} (a:c<p.ID.length):TlO p (p.ID.getD c []):=h.w.tl _ (by rw[aa,ac a];exact av a)
theorem cb.JE {W W1:World} {wb:Nat} {tag:Nat->Nat} {V:Nat->Value} {p:PW} (bt:cb W wb tag V p) {g c:Nat} (e:V 8=.slice (some ⟨g,0,none⟩) p.ID.length p.ID.length) (f:c<p.ID.length) (a:Below W.heap.size W W1) {v u:Value} {l:List Ent}
  (hv:W.cell? ⟨g,c,none⟩=some v) (y:u=v∧l=p.ID.getD c []∨iC W.heap.size W1 u l):
  ∃tag',cb (W1.setCell ⟨g,c,none⟩ u) wb tag' V {p with ID:=p.ID.set c l}∧Kt tag tag' W (W1.setCell ⟨g,c,none⟩ u):=by
 have LT:jL W tag p.ID.length (.slice (some ⟨g,0,none⟩) p.ID.length p.ID.length) p.ID:=by rw[<-e];exact bt.o.ID
 obtain⟨v',z,t⟩:=LT.at f;obtain rfl:v=v':=aL (hv.symm.trans z);have A:Kp (fun b=>tag b=14+3*c) W W1:=.IF a;have s:InE W1 (gy tag W.heap.size (14+3*c)) (14+3*c) u l:=by
  rcases y with ⟨rfl,rfl⟩|⟨q,b,off,cap,j,m,d,n,B,r⟩
  ·exact t.kp (T:=fun _=>False) (.IF a) (fun k hk=>dB hk) (fun _ _=>id)
  ·obtain⟨h0,rfl⟩:=m;exact .inr ⟨b,off,cap,j,d,by unfold gy;rw[ae oA],aj _ _ (d 0 h0).1,n,r⟩
 obtain⟨w,h⟩:=LT.put f rfl A (fun b a=>dB a) s;refine⟨_,bt.ID h (fun b a=>dB a) (by rw[au,e];exact w),.of h (fun b x=>by rcases x with x|⟨i,x⟩<;>omega) (fun b a=>dB a)⟩
end Wd
namespace Rf
section
variable {P : Program} {ops : Array Oper} {Q : Exit -> Act -> World -> Prop} {md : Region.Mode} {S R : World -> Prop} {fs : List Nat}
theorem iZ (e:Region.noSelect ops=true) (w:World) (d:S w) (c:R w):∀(is:List Nat) (fuel:Nat) (b:Array Bool) (a:Act),tkS md ops fs is b=true->
  rd P ops Q S (fun f=>dJ P md ops Q S R fs fuel (FT b is) f w) is a->dJ P md ops Q S R fs (fuel+is.length) b a w
 |[],_,_,_,_,h=>h
 |i::r,fuel,b,a,hb,h=>by
  unfold tkS at hb;simp only[am,dF] at hb;obtain⟨⟨g,j,k⟩,l⟩:=hb;unfold rd at h
  cases ho:ops[i]? with
  |none=>rw[ho] at h;exact h.elim
  |some o=>
   rw[ho] at h;obtain⟨v,p,m,n⟩:=h;exact ie ho e g j k m p d (fun _=>c) (iZ e w d c r fuel (b.setIfInBounds i true) (a.put o.dst v) l n)
theorem _root_.Go.Proofs.YtnccmdndkmmhcaaGreatDoor.bT:type_of% @iZ:= @iZ
end
end Rf
namespace Wd
open Go.RowKit Mem Bw Nums Mmu
def StR (b2 b3 b4 wb g0 n0 k0 g8 n8 gt nt kt c t:Nat) (v:Value) (s:Int) (W:World):Prop:=
 W.cell? ⟨b2,0,none⟩=some (.pointer (some ⟨wb,0,none⟩))∧W.cell? ⟨b3,0,none⟩=some (.int .i64 (c:Int))∧W.cell? ⟨b4,0,none⟩=some (.int .i64 (t:Int))∧W.cell? ⟨wb,0,none⟩=some (.slice (some ⟨g0,0,none⟩) n0 k0)∧W.cell? ⟨wb,8,none⟩=some (.slice (some ⟨g8,0,none⟩) n8 n8)∧W.cell? ⟨wb,3,none⟩=some (.slice (some ⟨gt,0,none⟩) nt kt)∧W.cell? ⟨g8,c,none⟩=some v∧W.cell? ⟨gt,t*20+12,none⟩=some (.int .i64 s)
theorem cu {b W:World} (h:Below b.heap.size b W) {a:Addr} {v:Value} (e:b.cell? a=some v):W.cell? a=some v:=(h.cell (aj _ _ e)).trans e
theorem StR.below {b2 b3 b4 wb b n0 f d g e nt kt c t:Nat} {v:Value} {s:Int} {W W':World} (h:StR b2 b3 b4 wb b n0 f d g e nt kt c t v s W) (a:Below W.heap.size W W'):StR b2 b3 b4 wb b n0 f d g e nt kt c t v s W':=by
 obtain⟨i,j,k,l,m,n,o,p⟩:=h;exact⟨cu a i,cu a j,cu a k,cu a l,cu a m,cu a n,cu a o,cu a p⟩
theorem H8 {wb:Nat} {tag:Nat->Nat} {V:Nat->Value} {p:PW} {W:World} (bt:cb W wb tag V p) (l:Lv p) {b2 b3 b4 c t:Nat} (j:c<p.ID.length) (n:t<p.kinds.length) (cs:jc [(b2,ptr wb),(b3,.int .i64 (c:Int)),(b4,.int .i64 (t:Int))] tag W):
  ∃a e b d kt v,V 0=.slice (some ⟨a,0,none⟩) p.IE.length e∧V 8=.slice (some ⟨b,0,none⟩) p.ID.length p.ID.length∧V 3=.slice (some ⟨d,0,none⟩) p.IB.length kt∧InE W tag (14+3*c) v (p.ID.getD c [])∧StR b2 b3 b4 wb a p.IE.length e b p.ID.length d p.IB.length kt c t v (p.t t 12) W:=by
 have lf:=l.w.m.tk.lf;obtain⟨a,e,i⟩:∃g cap,V 0=.slice (some ⟨g,0,none⟩) p.IE.length cap:=bt.o.IE.form (by have:=lf.IE;show 0<p.IE.length;omega)
 obtain⟨d,kt,f⟩:∃g cap,V 3=.slice (some ⟨g,0,none⟩) p.IB.length cap:=bt.o.IB.form (by have:=lf.IB;show 0<p.IB.length;omega)
 obtain⟨b,e8⟩:=bt.o.ID.form;have h:=bt.o.ID;rw[e8] at h;obtain⟨v,hv,k⟩:=h.at j;refine⟨a,e,b,d,kt,v,i,e8,f,k,(cs (b2,ptr wb) oS).1,(cs (b3,.int .i64 (c:Int)) oS).1,(cs (b4,.int .i64 (t:Int)) oS).1,?_,?_,?_,hv,bt.IH f (by have:=lf.IB;omega) oD⟩
 ·rw[<-i];exact ai bt.r rfl
 ·rw[<-e8];exact ai bt.r rfl
 ·rw[<-f];exact ai bt.r rfl
theorem iC.below {B:Nat} {w w':World} {v:Value} {l:List Ent} (h:iC B w v l) (d:Below w.heap.size w w'):iC B w' v l:=by
 obtain⟨q,b,off,cap,e,a,c,f,g,i,j⟩:=h;have k:b<w.heap.size:=aj _ _ (c 0 a.1).1;exact⟨q,b,off,cap,e,a,c.below d,f,g,i,fun o=>((Kp.IF (T:=fun _=>False) d).frozen (p:=⟨b,o,none⟩) k id).trans (j o)⟩
theorem Cz (wb:Nat) (tag:Nat->Nat) (V:Nat->Value) (p:PW) (b2 b3 b4 c t:Nat) (a:Int) (w:World) (bt:cb w wb tag V p) (j:Lv p) (I:c<p.ID.length) (Z:p.k t=6) (cs:jc [(b2,ptr wb),(b3,.int .i64 (c:Int)),(b4,.int .i64 (t:Int))] tag w):
  Calls Tryz.prog 127 #[.int .i64 a,ptr b2,ptr b3,ptr b4] w fun r w'=>∃(v:Int) (ok:Bool),r=.returned (.tuple #[.int .i64 v,.bool ok])∧(0<=v∧v<=65535)∧Tb p wb tag V w w':=by
 have ht:=iM (p:=p) (f:=t) (by rw[Z];decide);obtain⟨A,J,B,gt,kt,v,Y,e8,e3,ag,hr⟩:=H8 bt j I ht cs;obtain⟨L,hL⟩:∃L,iR p.IE (p.ID.getD c []) (p.t t 12) a false=L:=⟨_,rfl⟩
 have TL:=j.JQ I;have hs:fA p (p.t t 12) 4=true:=j.w.m.tk.a.ok t Z 12 oD;have Q:=hid (xw j.w TL (wr:=false) (a:=a) hs);obtain⟨x,l',e⟩:=L;rw[hL] at Q;have lf:=j.w.m.tk.lf;have z:=hid (show Below w.heap.size w w.drew from aB w 1);have W:=bt.JP j;rw[Y] at W;have ae:=(ag.JK (by have:=TL.n;omega)).1;obtain⟨F,E,kv,ev⟩:∃q n k,v=.slice q n k:=by obtain⟨q,b,off,cap,h,_⟩:=ae;exact⟨_,_,_,h⟩
 subst ev;have T:=n9 (.slice (some ⟨A,0,none⟩) p.IE.length J) (.slice F E kv) p.IE (p.ID.getD c []) (p.t t 12) a false w.drew (W.below z) (ae.below z);rw[hL] at T;have LK:=hid T;have P:=hid bt;have CS:=hid cs;have y:=hid j;have E0:=hid Y;have E8:=hid e8;have HC:=hid I;have H1:=hid hr;have i:=hid (hr.below z);have ax:(c:Int)<(p.ID.length:Int):=oA;have aF:(t:Int)<(p.IB.length:Int):=by have:=lf.IB;omega
 have ay:(p.ID.length:Int)<=1000:=by have:=lf.ID;have:=lf.c2;omega
 have aG:(p.IB.length:Int)<=1000:=by have:=lf.IB;have:=lf.k2;omega
 have aw:(0:Int)<=(c:Int):=oA;have aE:(0:Int)<=(t:Int):=oA;generalize p.t t 12=s at*;clear bt cs j Y e8 e3 ag hr hL T lf W ae hs TL ht I Z;unfold ptr;go_enter Tryz.func127,Tryz.ntmps127
 go_wp2_with fail
 refine Rf.ed (S:=StR b2 b3 b4 wb A p.IE.length J B p.ID.length gt p.IB.length kt c t (.slice F E kv) s) (R:=fun _=>True) [] oK i trivial (fun _ _=>?_);generalize w.drew=w1 at*;refine bT oK _ i trivial [0,4,8,11,15] 23 _ _ oK ?_
 repeat (refine Rf.rs ?_;simp only[jj])
 refine aM ?_;refine bT oK _ i trivial [1,2,5,6,12,13,19] 16 _ _ oK ?_
 repeat (refine Rf.rs ?_;simp only[jj])
 refine aM ?_;refine bT oK _ i trivial [3,7,14] 13 _ _ oK ?_
 repeat (refine Rf.rs ?_;simp only[jj])
 refine aM ?_;refine bT oK _ i trivial [9,16,17] 10 _ _ oK ?_
 repeat (refine Rf.rs ?_;simp only[jj])
 refine aM ?_;refine bT oK _ i trivial [10,18] 8 _ _ oK ?_
 repeat (refine Rf.rs ?_;simp only[jj])
 refine aM ?_;refine Rf.r1 20 rfl (fun K C=>?_);refine wnt oR ?_;go_simp
 refine LK.mono ?_;rintro r w2 ⟨u,rfl,hT,hb⟩;have G:=hid (i.below hb);have N:=hid (btr z hb);have T2:=hid (fun (h0:e=0)=>show _∨_ from (hT h0).elim Or.inl fun g=>Or.inr (g.low z.size));clear hT hb LK i;go_wp2_with fail
 refine C _ _ G (fun _=>trivial) (fun _ _=>?_);clear C K
 try simp only[jj]
 refine bT oK _ G trivial [21,22,23,24,25,26,27] 0 _ _ oK ?_
 repeat (refine Rf.rs ?_;simp only[jj])
 refine aM ?_;refine bc oK ?_ _;by_cases h0:e=0
 ·subst h0;obtain⟨ah,f,ab,hx,am⟩:=Q.out rfl;have X:=hid (T2.out rfl);have HX:=hid hx;have hk:=ab;obtain⟨d,D⟩:∃d:Nat,d=f*16+(a%16).toNat:=⟨_,rfl⟩
  have an:x=(d:Int):=oA;subst an;have af:d<p.IE.length:=by
   have:=iM (p:=p) (f:=f) (by rw[ab];decide);have:=y.w.m.tk.lf.IE;omega
  have HD:=hid af;have aA:(d:Int)<(p.IE.length:Int):=oA;have az:(0:Int)<=(d:Int):=oA;have aD:(p.IE.length:Int)<=1000:=by have:=y.w.m.tk.lf.IE;have:=y.w.m.tk.lf.k2;omega
  have aq:=hid (show d/16=f∧p.k f=2 by omega);have HL:=hid ah;obtain⟨qu,nu,ku,hu⟩:∃q n k,u=.slice q n k:=by
   rcases X.out with g|g
   ·exact⟨_,_,_,g.1⟩
   ·obtain⟨q,b,off,cap,h,_⟩:=g;exact⟨_,_,_,h⟩
  subst hu;clear hx af ab hk ah D am T2 Q;go_upto_region 4 with fail
  have O:=hid (show Below w2.heap.size w2 w2.drew from aB w2 1);have B3:=hid (btr N O);have U:=hid (G.below O);have FZ:=hid (show w2.drew.frozen? ⟨B,c,none⟩=false from by
   have h2:=(P.below B3).o.ID;rw[E8.out] at h2;exact h2.fr c)
  have PT:=hid (P.JE E8 HC B3 (v:=.slice F E kv) (u:=.slice qu nu ku) (l:=l') H1.2.2.2.2.2.2.1 (X.elim .inl fun g=>.inr (iC.below g O)));refine bI (R:=StR b2 b3 b4 wb A p.IE.length J B p.ID.length gt p.IB.length kt c t (.slice F E kv) s) [7] [0,1,2,3,4,5,6] 1 oK U oK oK oK (fun _=>?_);generalize w2.drew=w3 at*
  repeat (refine Rf.rs ?_;simp only[jj])
  refine aM ?_;refine Rf.r1 7 rfl (fun K C=>?_);have y4:w3.cell? ⟨B,c,none⟩=some (.slice F E kv):=U.2.2.2.2.2.2.1;have fz:=FZ.out;go_simp
  refine C _ _ trivial (bX oK) (fun _ _=>?_);clear C K y4 fz
  try simp only[jj]
  refine bc oK ?_ _;obtain⟨ap,H,ad⟩:=PT.out;generalize w3.setCell ⟨B,c,none⟩ (Value.slice qu nu ku)=M at*;have y0:M.cell? ⟨b2,0,none⟩=some (.pointer (some ⟨wb,0,none⟩)):=((CS.kt ad) (b2,ptr wb) oS).1;have y1:M.cell? ⟨wb,0,none⟩=some (.slice (some ⟨A,0,none⟩) p.IE.length J):=by rw[<-E0.out];exact ai H.r rfl
  obtain⟨y2,aj⟩:M.cell? ⟨A,d,none⟩=some (.int .i64 (p.IE.getD d 0))∧0<=p.IE.getD d 0∧p.IE.getD d 0<=65535:=by
   have D:=HD.out;obtain⟨q,b,o,k,e,hq,ao⟩:=dM H.o.IE.1;rw[E0.out] at e
   cases e
   have h9:=hq (by show 0<p.IE.length;omega)
   cases h9
   have h8:=ao d D;rw[aC] at h8;rw[aa,ac D];exact⟨h8,y.w.m.IE.w _ (av D)⟩
  have al:=hid (show Tb p wb tag V w M from⟨ap,_,ad,H,y.JK HL,_,_,rfl⟩);have HR:=hid aj;clear aj H ad PT U FZ H1 X G;generalize p.IE.getD d 0=vv at*;go_wp2_with fail
  refine ar (v:=.tuple #[.int .i64 vv,.bool true]) (by simp[results,Tryz.results127,go_sem]) rfl ⟨vv,true,rfl,HR.out,al.out⟩
 ·have au:(e==0)=false:=by simp[h0]
  go_wp2_with fail
  refine ar (v:=.tuple #[.int .i64 0,.bool false]) (by simp[results,Tryz.results127,go_sem]) rfl ⟨0,false,rfl,oD,tag,p,bj N,P.below N,Rm.refl y⟩
theorem Aw (wb:Nat) (tag:Nat->Nat) (V:Nat->Value) (p:PW) (b2 b3 b4 c t:Nat) (a:Int) (v0:Int) (ag:0<=v0∧v0<=65535) (w:World) (bt:cb w wb tag V p) (A:Lv p) (P:c<p.ID.length) (h6:p.k t=6) (cs:jc [(b2,ptr wb),(b3,.int .i64 (c:Int)),(b4,.int .i64 (t:Int))] tag w):
  Calls Tryz.prog 129 #[.int .i64 a,.int .i64 v0,ptr b2,ptr b3,ptr b4] w fun r w'=>∃ok:Bool,r=.returned (.bool ok)∧Tb p wb tag V w w':=by
 have ht:=iM (p:=p) (f:=t) (by rw[h6];decide);obtain⟨B,Q,G,gt,kt,v,e0,e8,e3,ae,hr⟩:=H8 bt A P ht cs;obtain⟨L,hL⟩:∃L,iR p.IE (p.ID.getD c []) (p.t t 12) a true=L:=⟨_,rfl⟩
 have TL:=A.JQ P;have hs:fA p (p.t t 12) 4=true:=A.w.m.tk.a.ok t h6 12 oD;have Y:=hid (xw A.w TL (wr:=true) (a:=a) hs);obtain⟨x,l',e⟩:=L;rw[hL] at Y;have lf:=A.w.m.tk.lf;have E:=hid (show Below w.heap.size w w.drew from aB w 1);have RI:=bt.JP A;rw[e0] at RI;have ac:=(ae.JK (by have:=TL.n;omega)).1;obtain⟨J,I,kv,ev⟩:∃q n k,v=.slice q n k:=by obtain⟨q,b,off,cap,h,_⟩:=ac;exact⟨_,_,_,h⟩
 subst ev;have Z:=n9 (.slice (some ⟨B,0,none⟩) p.IE.length Q) (.slice J I kv) p.IE (p.ID.getD c []) (p.t t 12) a true w.drew (RI.below E) (ac.below E);rw[hL] at Z;have LK:=hid Z;have W:=hid bt;have CS:=hid cs;have F:=hid A;have X:=hid e0;have E8:=hid e8;have HC:=hid P;have H1:=hid hr;have j:=hid (hr.below E);have aw:(c:Int)<(p.ID.length:Int):=oA;have aE:(t:Int)<(p.IB.length:Int):=by have:=lf.IB;omega
 have ax:(p.ID.length:Int)<=1000:=by have:=lf.ID;have:=lf.c2;omega
 have aF:(p.IB.length:Int)<=1000:=by have:=lf.IB;have:=lf.k2;omega
 have av:(0:Int)<=(c:Int):=oA;have aD:(0:Int)<=(t:Int):=oA;generalize p.t t 12=s at*;clear bt cs A e0 e8 e3 ae hr hL Z lf RI ac hs TL ht P h6;unfold ptr;go_enter Tryz.func129,Tryz.ntmps129
 go_wp2_with fail
 refine Rf.ed (S:=StR b2 b3 b4 wb B p.IE.length Q G p.ID.length gt p.IB.length kt c t (.slice J I kv) s) (R:=fun _=>True) [] oK j trivial (fun _ _=>?_);generalize w.drew=w1 at*;refine bT oK _ j trivial [0,4,8,11,15] 23 _ _ oK ?_
 repeat (refine Rf.rs ?_;simp only[jj])
 refine aM ?_;refine bT oK _ j trivial [1,2,5,6,12,13,19] 16 _ _ oK ?_
 repeat (refine Rf.rs ?_;simp only[jj])
 refine aM ?_;refine bT oK _ j trivial [3,7,14] 13 _ _ oK ?_
 repeat (refine Rf.rs ?_;simp only[jj])
 refine aM ?_;refine bT oK _ j trivial [9,16,17] 10 _ _ oK ?_
 repeat (refine Rf.rs ?_;simp only[jj])
 refine aM ?_;refine bT oK _ j trivial [10,18] 8 _ _ oK ?_
 repeat (refine Rf.rs ?_;simp only[jj])
 refine aM ?_;refine Rf.r1 20 rfl (fun K H=>?_);refine wnt oR ?_;go_simp
 refine LK.mono ?_;rintro r w2 ⟨u,rfl,hT,hb⟩;have N:=hid (j.below hb);have T:=hid (btr E hb);have T2:=hid (fun (h0:e=0)=>show _∨_ from (hT h0).elim Or.inl fun g=>Or.inr (g.low E.size));clear hT hb LK j;go_wp2_with fail
 refine H _ _ N (fun _=>trivial) (fun _ _=>?_);clear H K
 try simp only[jj]
 refine bT oK _ N trivial [21,22,23,24,25,26,27] 0 _ _ oK ?_
 repeat (refine Rf.rs ?_;simp only[jj])
 refine aM ?_;refine bc oK ?_ _;by_cases h0:e=0
 ·subst h0;obtain⟨af,f,aa,hx,al⟩:=Y.out rfl;have T3:=hid (T2.out rfl);have HX:=hid hx;have hk:=aa;obtain⟨d,hd⟩:∃d:Nat,d=f*16+(a%16).toNat:=⟨_,rfl⟩
  have am:x=(d:Int):=oA;subst am;have ad:d<p.IE.length:=by
   have:=iM (p:=p) (f:=f) (by rw[aa];decide);have:=F.w.m.tk.lf.IE;omega
  have HD:=hid ad;have az:(d:Int)<(p.IE.length:Int):=oA;have ay:(0:Int)<=(d:Int):=oA;have aA:(p.IE.length:Int)<=1000:=by have:=F.w.m.tk.lf.IE;have:=F.w.m.tk.lf.k2;omega
  have C:=hid (show d/16=f∧p.k f=2 by omega);have HL:=hid af;obtain⟨qu,nu,ku,hu⟩:∃q n k,u=.slice q n k:=by
   rcases T3.out with g|g
   ·exact⟨_,_,_,g.1⟩
   ·obtain⟨q,b,off,cap,h,_⟩:=g;exact⟨_,_,_,h⟩
  subst hu;clear hx ad aa hk af hd al T2 Y;go_upto_region 4 with fail
  have U:=hid (show Below w2.heap.size w2 w2.drew from aB w2 1);have B3:=hid (btr T U);have R3:=hid (N.below U);have FZ:=hid (show w2.drew.frozen? ⟨G,c,none⟩=false from by
   have D:=(W.below B3).o.ID;rw[E8.out] at D;exact D.fr c)
  have PT:=hid (W.JE E8 HC B3 (v:=.slice J I kv) (u:=.slice qu nu ku) (l:=l') H1.2.2.2.2.2.2.1 (T3.elim .inl fun g=>.inr (iC.below g U)));refine bI (R:=StR b2 b3 b4 wb B p.IE.length Q G p.ID.length gt p.IB.length kt c t (.slice J I kv) s) [7] [0,1,2,3,4,5,6] 1 oK R3 oK oK oK (fun _=>?_);generalize w2.drew=w3 at*
  repeat (refine Rf.rs ?_;simp only[jj])
  refine aM ?_;refine Rf.r1 7 rfl (fun K H=>?_);have y4:w3.cell? ⟨G,c,none⟩=some (.slice J I kv):=R3.2.2.2.2.2.2.1;have fz:=FZ.out;go_simp
  refine H _ _ trivial (bX oK) (fun _ _=>?_);clear H K y4 fz
  try simp only[jj]
  refine bc oK ?_ _;obtain⟨ap,O,ab⟩:=PT.out;generalize w3.setCell ⟨G,c,none⟩ (Value.slice qu nu ku)=M at*;have y0:M.cell? ⟨b2,0,none⟩=some (.pointer (some ⟨wb,0,none⟩)):=((CS.kt ab) (b2,ptr wb) oS).1;have y1:M.cell? ⟨wb,0,none⟩=some (.slice (some ⟨B,0,none⟩) p.IE.length Q):=by rw[<-X.out];exact ai O.r rfl
  obtain⟨y2,aq⟩:(∃z:Int,M.cell? ⟨B,d,none⟩=some (.int .i64 z))∧M.frozen? ⟨B,d,none⟩=false:=by
   have hd:=HD.out;have D:=O.o.IE;rw[X.out] at D;obtain⟨q,b,o,k,e,hq,an⟩:=dM D.1
   cases e
   have h9:=hq (by show 0<p.IE.length;omega)
   cases h9
   have h8:=an d hd;rw[aC] at h8;exact⟨⟨_,h8⟩,D.frozen d⟩
  obtain⟨z0,y2⟩:=y2;have ah:=hid (show Tb p wb tag V w (M.setCell ⟨B,d,none⟩ (.int .i64 v0)) from by
   obtain⟨aj,ao⟩:=O.IJ X d v0;have s1:=F.JK (c:=c) HL;have s2:=s1.w.word (i:=d) (v:=v0) HD ag (gf.2 ⟨fun y=>by rw[C.1] at y;have:=C.2;have y:p.k f=4:=y;omega,fun y=>by rw[C.1] at y;have:=C.2;have y:p.k f=3:=y;omega⟩) (fun y=>by rw[C.1] at y;have:=C.2;have y:p.k f=3∨p.k f=4:=y;omega);exact⟨ap,_,ab.trans ao,aj,s1.trans s2,_,_,rfl⟩)
  clear O ab PT R3 FZ H1 T3 N ag;go_wp2_with fail
  refine ar (v:=.bool true) (by simp[results,Tryz.results129,go_sem]) rfl ⟨true,rfl,ah.out⟩
 ·have au:(e==0)=false:=by simp[h0]
  go_wp2_with fail
  refine ar (v:=.bool false) (by simp[results,Tryz.results129,go_sem]) rfl ⟨false,rfl,tag,p,bj T,W.below T,Rm.refl F⟩
