/- Ubk -/
import Derived.Maps.AppendAt
import Derived.Deep.RegionHeld3
import Derived.BigQuiet
import Derived.Test.YtnccmdndkmmhcaaGreatDoorUbj
set_option maxRecDepth 100000
set_option maxHeartbeats 16000000
namespace Go.Proofs.YtnccmdndkmmhcaaGreatDoor
namespace Wd
open Go.RowKit Mem Bw Nums Mmu
theorem lW {α:Type} {l:List α} {f:α->Bool} {d:α} (h:l.all f=true) (a:f d=true) (n:Nat):f (l.getD n d)=true:=by
 rw[aa]
 cases e:l[n]? with
 |none=>exact a
 |some x=>exact aU.1 h x (ef e)
def dpN (p:PW):Nat->Nat->Nat
 |0,_=>0
 |f+1,i=>if p.s i 6= -1 then 0 else dpN p f (p.s i 6).toNat+1
def ky1 (p:PW) (c i:Nat):Bool:=
 if p.s i 0==0 then (List.range 6).all (fun k=>p.s i k==0)&&p.s i 6== -1
 else p.k (i/16)==5&&kc (p.s i)==0&&decide (p.s i 1+p.s i 2<=(p.kinds.length:Int))&&(p.s i 0==1||isB p (p.s i 1) (p.s i 0))&&(p.s i 6== -1||(decide (0<=p.s i 6)&&p.s (p.s i 6).toNat 0 !=0&&cmB (p.s (p.s i 6).toNat) (p.s i)&&decide (dpN p 8 (p.s i 6).toNat<dpN p 8 i)))&&(p.s i 0 !=1||i==c)&&(p.s i 0==1||p.s i 6 != -1|| !clI (p.s i 1) (p.s c))
def us1 (p:PW) (c n:Nat):Bool:=p.k n==0||(!un n (p.s c)&&(List.range p.IH.length).any fun i=>opn n (p.s i))
def ts1 (p:PW) (n:Nat):Bool:=p.t n 9==0&&p.t n 14== -1&&p.t n 17== -1&&(List.range 20).all fun k=>if p.k n==6 then fOk p k (p.t n k) else p.t n k==bl k
def stB (p:PW) (c:Nat):Bool:=
 ((List.range p.IH.length).all (ky1 p c)&&(List.range p.kinds.length).all (us1 p c))&&((List.range p.kinds.length).all (ts1 p)&&(p.kinds.all fun k=>decide (0<=k∧k<=8∧k≠1))&&p.IQ.all fun k=>decide (0<=k∧k<=3))&&((p.lines.all (·.isEmpty)&&p.ready.all (·.isEmpty))&&(p.IJ.all (· == -1)&&p.bits.all (· ==0)&&p.IK.all (·.isEmpty)))&&(List.range p.IL.length).all fun i=> !beB p (p.k (i/16)) (p.IL.getD i 0)
theorem xt {p:PW} {i:Nat} (h:p.IH.length<=i):p.s i=eS:=by
 show p.IH.getD i eS=_
 rw[aa,aI h];rfl
theorem Cu {p:PW} {n:Nat} (h:p.kinds.length<=n):p.k n=0:=by
 show p.kinds.getD n 0=_
 rw[aa,aI h];rfl
theorem Fk {p:PW} (c:Nat) (Y:∀x∈p.IL,0<=x∧x<=65535) (lf:LF p) (tm:0<=p.time) (h:stB p c=true):Lw p:=by
 unfold stB at h;simp only[am] at h;obtain⟨⟨⟨⟨r,G⟩,⟨P,Q⟩,S⟩,⟨E,U⟩,⟨V,W⟩,N⟩,O⟩:=h;have K:∀i,p.s i 0≠0->ky1 p c i=true∧i<p.IH.length:=fun i hi=>by
  rcases cP i p.IH.length with e|e
  ·exact⟨aU.1 r i (List.mem_range.2 e),e⟩
  ·rw[xt e] at hi;exact absurd rfl hi
 have q:∀i,p.s i 0≠0->p.k (i/16)=5∧vN p (p.s i)∧(p.s i 6= -1∨∃u:Nat,p.s i 6=u∧p.s u 0≠0∧cmB (p.s u) (p.s i)=true∧dpN p 8 u<dpN p 8 i)∧(p.s i 0=1->i=c)∧(p.s i 0≠1->p.s i 6= -1->clI (p.s i 1) (p.s c)=false):=fun i hi=>by
  have hk:=(K i hi).1;unfold ky1 at hk;rw[ae (by simpa using hi)] at hk;simp only[am,cF,bz,bne_iff_ne,bg,dD] at hk;obtain⟨⟨⟨⟨⟨⟨a1,y⟩,A⟩,D⟩,I⟩,J⟩,o⟩:=hk;refine⟨a1,⟨y,A,D⟩,I.elim .inl fun b=>.inr ⟨(p.s i 6).toNat,oA,b.1.1.2,b.1.2,b.2⟩,fun e=>J.resolve_left fun f=>f e,fun e f=>?_⟩;rcases o with (o|o)|o
  ·exact absurd o e
  ·exact absurd f o
  ·exact o
 have w:∀n i,clI n (p.s i)=true->i=c:=fun n i hi=>by
  unfold clI at hi;simp only[am,bz] at hi;exact (q i (by rw[hi.1];decide)).2.2.2.1 hi.1
 have F:∀n i,i≠c->clI n (p.s i)=false:=fun n i hi=>by
  cases e:clI n (p.s i) with
  |false=>rfl
  |true=>exact absurd (w n i e) hi
 have T:∀n,p.t n 9=0∧p.t n 14= -1∧p.t n 17= -1∧∀k,k<20->if p.k n=6 then fOk p k (p.t n k)=true else p.t n k=bl k:=fun n=>by
  rcases cP n p.kinds.length with e|e
  ·have:=aU.1 P n (List.mem_range.2 e);unfold ts1 at this;simp only[am,bz] at this;obtain⟨⟨⟨a1,y⟩,A⟩,D⟩:=this;refine⟨a1,y,A,fun k hk=>?_⟩;have:=aU.1 D k (List.mem_range.2 hk);split
   ·rename_i e6
    rwa [ag e6] at this
   ·rename_i e6;rw[ae e6] at this;simpa using this
  ·have et:p.t n=bl:=by
    show p.II.getD n bl=_
    rw[aa,aI (by have:=lf.II;omega)];rfl
   rw[et,Cu e];exact⟨rfl,rfl,rfl,fun k _=>by rw[ae oD]⟩
 have L:∀a,p.li a=[]:=fun a=>by have:=lW (d:=[]) E rfl a;simpa using this
 have R:∀a,p.re a=[]:=fun a=>by have:=lW (d:=[]) U rfl a;simpa using this
 have C:∀a,p.co a= -1:=fun a=>by have:=lW (d:= -1) V rfl a;simpa using this
 have B:∀a,p.bi a=0:=fun a=>by have:=lW (d:=0) W rfl a;simpa using this
 refine⟨⟨fun k hk=>aA (aU.1 Q k hk),fun k hk=>aA (aU.1 S k hk),⟨dpN p 8,?_⟩,fun n g=>?_,⟨Y,fun i hi=>by have:=aU.1 O i (List.mem_range.2 hi);simpa using this⟩,⟨lf,⟨fun n g k hk=>by have:=(T n).2.2.2 k hk;rwa [ae g] at this,fun n g k hk=>by have:=(T n).2.2.2 k hk;rwa [ag g] at this⟩,⟨fun n=>.inl (T n).2.2.1,fun u H=>(by rw[(T u).1] at H;cases H),fun n m u g=>(by rw[(T n).2.2.1] at g;omega)⟩,?_⟩⟩,fun l hl=>?_,tm⟩
 ·exact {
   em:=fun i hi=>by
    rcases cP i p.IH.length with e|e
    ·have hk:=aU.1 r i (List.mem_range.2 e);unfold ky1 at hk;rw[ag (by simpa using hi)] at hk;simp only[am,bz] at hk;exact⟨fun k h=>by have:=aU.1 hk.1 k (List.mem_range.2 h);simpa using this,hk.2⟩
    ·rw[xt e];exact⟨fun k h=>by unfold eS;rw[ae oA],rfl⟩
   nd:=fun i hi=>.inl (q i hi).1
   key:=fun i hi=>(q i hi).2.1
   up:=fun i=>by
    by_cases e:p.s i 0=0
    ·refine .inl ?_;rcases cP i p.IH.length with e2|e2
     ·have hk:=aU.1 r i (List.mem_range.2 e2);unfold ky1 at hk;rw[ag (by simpa using e)] at hk;simp only[am,bz] at hk;exact hk.2
     ·rw[xt e2];rfl
    ·exact (q i e).2.2.1
   one:=fun n i j hi X=>(w n i hi).trans (w n j X).symm
   us:=fun n g i=>by
    by_cases e:i=c
    ·subst e;have hl:=Nat.lt_of_not_le fun h=>g (Cu h);have:=aU.1 G n (List.mem_range.2 hl);unfold us1 at this;simp only[cF,am,bz,dD] at this;exact (this.resolve_left g).1
    ·unfold un;rw[F n i e];rfl
   gp:=fun i hi r E M=>by
    by_cases e:M=c
    ·rw[e];exact (q i hi).2.2.2.2 r E
    ·exact F _ _ e}
 ·have hl:=Nat.lt_of_not_le fun h=>g (Cu h);have:=aU.1 G n (List.mem_range.2 hl);unfold us1 at this;simp only[cF,am,bz,dD,List.any_eq_true] at this;obtain⟨i,_,hi⟩:=(this.resolve_left g).2;exact⟨i,hi⟩
 ·exact {
   hk:=fun n h=>h.elim
   a1:=fun n _ _ _=>(T n).2.1
   la:=fun n _ _ h=>absurd (by rw[(T n).1];rfl) h
   ln:=fun a z v=>by rw[L a] at v;cases v
   lu:=fun a=>by rw[L a];exact List.nodup_nil
   lw:=fun a n m g=>by rw[L a] at g;cases g
   bt:=fun a=>.inl (B a)
   rd:=fun i z v=>by rw[R i] at v;cases v
   ru:=fun i=>by rw[R i];exact List.nodup_nil
   cr:=fun a=>.inl (C a)
   rq:=fun n _ _ h=>by rw[(T n).1] at h;cases h}
 ·have:l=[]:=by have:=aU.1 N l hl;simpa using this
  subst this;exact⟨oD,(fun _ h=>by cases h),List.Pairwise.nil⟩
theorem Hi (L:Nat->Int) (h:∀i,i<32->0<=L i∧L i<=65535):Lv (p0 L):=
 ⟨Fk 1 (Db h) (xv oK) (by show (0:Int)<=0;decide) oK,by show (0:Int)<=1000000;decide⟩
end Wd
namespace Wd
open Go.RowKit Mem Bw Nums Mmu Hex
def rf:ByteArray:=⟨#[119,111,114,108,100,32,50,50,32,49,32,48,32,49,32,48,10,99,108,97,121,32,49,32,49,32,49,57,10,109,97,107,101,32,110,111,100,101,32,49,32,49,32,50,10,109,97,107,101,32,115,112,97,99,101,32,49,32,49,32,51,10,109,97,107,101,32,116,97,98,108,101,32,49,32,49,32,52,10,109,97,107,101,32,112,97,103,101,32,49,32,51,32,53,10,109,97,107,101,32,116,97,115,107,32,49,32,51,32,56,10,109,97,107,101,32,100,111,111,114,32,49,32,50,32,49,49,10,109,97,107,101,32,98,101,108,108,32,49,32,49,32,49,51,10,99,111,112,121,32,49,49,32,49,54,32,55,32,57,10,99,111,112,121,32,49,50,32,49,55,32,51,32,48,10,99,111,112,121,32,49,51,32,49,56,32,55,32,52,10,99,111,112,121,32,56,32,49,57,32,55,32,48,10,99,111,112,121,32,53,32,50,48,32,49,32,48,10,101,110,116,101,114,32,50,32,48,32,51,32,48,10,101,110,116,101,114,32,50,32,48,32,52,32,48,10,101,110,116,101,114,32,50,32,49,32,53,32,48,10,101,110,116,101,114,32,50,32,50,32,54,32,49,10,101,113,117,105,112,32,55,32,48,32,50,32,45,32,48,32,49,32,48,10,101,113,117,105,112,32,56,32,49,32,50,32,49,48,32,48,32,49,32,48,10,101,113,117,105,112,32,57,32,49,32,50,32,49,49,32,48,32,51,32,49,10]⟩
def A0:PW:=wlP 22 1 [0,1,0]
def Fl:PW:={A0 with IH:=A0.IH.set 1 (clk 1 19)}
def Fm:PW:=mkP Fl 1 (2+((3:Nat):Int)) 1 2
def Fp:PW:=mkP Fm 1 (2+((2:Nat):Int)) 1 3
def Fq:PW:=mkP Fp 1 (2+((1:Nat):Int)) 1 4
def Fs:PW:=mkP Fq 1 (2+((0:Nat):Int)) 3 5
def Ft:PW:=mkP Fs 1 (2+((4:Nat):Int)) 3 8
def Fu:PW:=mkP Ft 1 (2+((5:Nat):Int)) 2 11
def t9:PW:=mkP Fu 1 (2+((6:Nat):Int)) 1 13
def pC:PW:={t9 with IH:=t9.IH.set 16 (kpS (t9.IH.getD 11 ft) (Bw.bw 6 ((t9.IH.getD 11 ft) 4).toNat 7:Nat) 9 11)}
def pD:PW:={pC with IH:=pC.IH.set 17 (kpS (pC.IH.getD 12 ft) (Bw.bw 6 ((pC.IH.getD 12 ft) 4).toNat 3:Nat) 0 12)}
def pE:PW:={pD with IH:=pD.IH.set 18 (kpS (pD.IH.getD 13 ft) (Bw.bw 6 ((pD.IH.getD 13 ft) 4).toNat 7:Nat) 4 13)}
def pF:PW:={pE with IH:=pE.IH.set 19 (kpS (pE.IH.getD 8 ft) (Bw.bw 6 ((pE.IH.getD 8 ft) 4).toNat 7:Nat) 0 8)}
def xB:PW:={pF with IH:=pF.IH.set 20 (kpS (pF.IH.getD 5 ft) (Bw.bw 6 ((pF.IH.getD 5 ft) 4).toNat 1:Nat) 0 5)}
def sP:PW:={xB with IL:=xB.IL.set (2*16+0/16) (32768+((3:Nat):Int))}
def sQ:PW:={sP with IL:=sP.IL.set ((sP.IL.getD (2*16+0/16) 0).toNat%1024*16+0%16) (32768+((0:Nat):Int)*16384+((4:Nat):Int))}
def sR:PW:={sQ with IL:=sQ.IL.set ((sQ.IL.getD (2*16+1/16) 0).toNat%1024*16+1%16) (32768+((0:Nat):Int)*16384+((5:Nat):Int))}
def CD:PW:={sR with IL:=sR.IL.set ((sR.IL.getD (2*16+2/16) 0).toNat%1024*16+2%16) (32768+((1:Nat):Int)*16384+((6:Nat):Int))}
def CE:PW:=eqP CD 7 (fun k=>[0,0,2,(-1),0,1,0].getD k 0)
def CG:PW:=eqP CE 8 (fun k=>[0,1,2,10,0,1,0].getD k 0)
def CH:PW:=eqP CG 9 (fun k=>[0,1,2,11,0,3,1].getD k 0)
def lU:PW:=CH
theorem CI:fX (Prs.gy rf) (wlP 22 1 [0,1,0]) (Prs.gy rf).length=lU:=oK
theorem vq:yS (Prs.gy rf) (fX (Prs.gy rf) (wlP 22 1 [0,1,0])) 22 1 [0,1,0]:=
 uw (l:=[⟨#[50,50]⟩,⟨#[49]⟩,⟨#[48]⟩,⟨#[49]⟩,⟨#[48]⟩]) (aA oK) (aA oK) oK oK oD oD oK oD oK oK
end Wd
namespace Wd
open Go.RowKit Mem Bw Nums Mmu Hex Mad
def FK (L:Nat->Int):List Int:=(lU.IL.take 64++(List.range 32).map L)++lU.IL.drop 96
def m0 (L:Nat->Int):PW:={lU with IL:=FK L}
theorem rh (zs:List (Int×Int×Int×Int)):cdN lU.IL 64 zs 16=FK (iR zs):=oK
theorem Dc {L:Nat->Int} (h:∀i,i<32->0<=L i∧L i<=65535):∀x∈FK L,0<=x∧x<=65535:=by
 have b:lU.IL.all (fun x=>decide (0<=x)&&decide (x<=65535))=true:=oK;rw[aU] at b;intro x a;unfold FK at a;rw[dH,dH] at a;rcases a with (a|a)|a
 ·have:=b x (List.mem_of_mem_take a);simpa using this
 ·obtain⟨i,hi,rfl⟩:=List.mem_map.1 a;exact h i (List.mem_range.1 hi)
 ·have:=b x (List.mem_of_mem_drop a);simpa using this
theorem G3 (L:Nat->Int) (h:∀i,i<32->0<=L i∧L i<=65535):Lv (m0 L):=
 ⟨Fk 1 (Dc h) (xv oK) (by show (0:Int)<=0;decide) oK,by show (0:Int)<=1000000;decide⟩
end Wd
namespace Mmu
open Go.RowKit Mem Bw Nums
theorem wQ (v:Value) (l:List Ent) (s p:Int) (w:World) (hv:jb w v l):
  Calls Tryz.prog 178 #[v,.int .i64 s,.int .i64 p] w fun r w'=>r=.returned (iF (jc l s p))∧Below w.heap.size w w':=by
 obtain⟨q,b,off,cap,rfl,K,N,hl⟩:=hv;have H:=hid K;have I:=hid N;have T:(l.length:Int)<=100:=oA;have d:=hid (bal (af w.heap.size w) (.cells #[.int .i64 0,.int .i64 0,.int .i64 0,.bool false] 40));have D:=hid (cq w #[.int .i64 0,.int .i64 0,.int .i64 0,.bool false] 40);have a:=hid (hQ w);go_enter Tryz.func178,Tryz.ntmps178
 go_wp2_with fail
 generalize World.alloc _ _=W at d D a ⊢
 go_loopw [8] (fun i wr=>∃k:Nat,k<=l.length∧i=.int .i64 k∧Hid (∀j (c:j<l.length),j<k->pg s p l[j]=false)∧W=wr) (fun i _=>l.length - (intOf i).toNat)
 case atStart=>exact⟨0,oA,rfl,fun j _ h=>oA,rfl⟩
 case round=>
  obtain⟨k,hk,rfl,B,rfl⟩:=hrel;have E:=D.out;have z0:=a.out 0 oD;have U:=a.out 1 oD;have V:=a.out 2 oD;have X:=a.out 3 oD;by_cases C:k<l.length
  ·have g:(k:Int)<(l.length:Int):=oA;have S:¬((k:Int)<0):=oA;have L:=H.out oA;subst L;obtain⟨c0,c1,c2,F⟩:=(I.below d) k C;have f:=hid (show pg s p l[k]=true->jc l s p=(l[k],true) from fun M=>
    tP C ((List.findIdx_eq C).2 ⟨M,fun j c=>B.out j oA c⟩))
   have n:=hid (show pg s p l[k]=false->∀j (c:j<l.length),j<k+1->pg s p l[j]=false from fun J j c R=>by
    by_cases e:j=k
    ·subst e;exact J
    ·exact B j c oA)
   generalize l[k]=e at c0 c1 c2 F f n;obtain⟨x,y,z,u⟩:=e;simp only at c0 c1 c2 F;by_cases t:x=s
   ·subst t;have O:(x==x)=true:=oS;by_cases A:y=p
    ·subst A;have P:(y==y)=true:=oS;have G:=hid (f.out (by simp[pg]));go_wp2_with fail
     have o:=jA (v0:=.int .i64 x) (v1:=.int .i64 y) (v2:=.int .i64 z) (v3:=.bool u) E;refine ar (v:=iF ((x,y,z,u),true)) (by simp[iF,results,Tryz.results178,go_sem,o]) rfl ⟨by rw[G.out],?_⟩;exact iq (iq (iq (iq d (aq _) _) (aq _) _) (aq _) _) (aq _) _
    ·have P:(y==p)=false:=by simpa using A
     have m:=hid (n.out (by simp[pg,A]));go_wp2_with fail
     exact⟨⟨k+1,oA,by go_num,m,by trivial⟩,by simp[intOf];omega⟩
   ·have O:(x==s)=false:=by simpa using t
    have m:=hid (n.out (by simp[pg,t]));go_wp2_with fail
    exact⟨⟨k+1,oA,by go_num,m,by trivial⟩,by simp[intOf];omega⟩
  ·obtain rfl:k=l.length:=oA;have Q:¬((l.length:Int)<(l.length:Int)):=oA;have f:=hid (wO (l:=l) (s:=s) (p:=p) (by
    intro g;have:=List.findIdx_getElem (w:=g);rw[B.out _ g g] at this
    cases this))
   go_wp2_with fail
   have o:=jA (v0:=.int .i64 0) (v1:=.int .i64 0) (v2:=.int .i64 0) (v3:=.bool false) E;refine ar (v:=iF ((0,0,0,false),false)) (by simp[iF,results,Tryz.results178,go_sem,o]) rfl ⟨by rw[f.out],?_⟩;exact iq (iq (iq (iq d (aq _) _) (aq _) _) (aq _) _) (aq _) _
def lr (s p:Int) (e:Ent):Bool:=e.1 !=s||(decide (0<=p)&&e.2.1 !=p)
def ik (l:List Ent) (s p:Int):List Ent:=l.filter (lr s p)
theorem o5 (l:List Ent) (s p:Int):(ik l s p).length<=l.length:=cW _ _
theorem wm {l:List Ent} {s p:Int} {k:Nat} (h:k<l.length):ik (l.take (k+1)) s p=ik (l.take k) s p++(if lr s p l[k]=true then [l[k]] else []):=by
 unfold ik;rw[bG h,eT];by_cases a:lr s p l[k]=true
 ·rw[ag a,List.filter_cons_of_pos a];rfl
 ·rw[ae a,List.filter_cons_of_neg a];rfl
theorem iQ (v:Value) (l:List Ent) (s p:Int) (w:World) (hv:jb w v l):
  Calls Tryz.prog 228 #[v,.int .i64 s,.int .i64 p] w fun r w'=>∃u,r=.returned u∧w'.ownsRow w.heap.size 40 4 u (ik l s p).length (fo (ik l s p))∧Below w.heap.size w w':=by
 obtain⟨i0,hi,I,J,K⟩:=fj mN;obtain⟨q,b,off,cap,rfl,O,Q,hl⟩:=hv;have M:=hid O;have N:=hid Q;have Z:(l.length:Int)<=100:=oA;go_enter Tryz.func228,Tryz.ntmps228
 go_wp2_with fail
 go_loopw [7,8] (fun u i wr=>∃(k:Nat) (m:List Ent),k<=l.length∧i=.int .i64 k∧Hid (m=ik (l.take k) s p)∧Hid (wr.ownsRow w.heap.size 40 4 u m.length (fo m))∧Hid (Below w.heap.size w wr)) (fun _ i _=>l.length - (intOf i).toNat)
 case atStart=>exact⟨0,[],oA,rfl,hid rfl,hid (ct _ _ _ _),hid (af _ _)⟩
 case round=>
  obtain⟨k,m,hk,rfl,g,c,a⟩:=hrel;have hm:m.length<=100:=by
   rw[g.out];exact aB (o5 _ _ _) (by rw[bH];omega)
  by_cases H:k<l.length
  ·have aa:(k:Int)<(l.length:Int):=oA;have Y:¬((k:Int)<0):=oA;have P:=M.out oA;subst P;obtain⟨c0,c1,c2,G⟩:=(N.below a) k H;have t:=hid (wm (s:=s) (p:=p) H);generalize l[k]=e at c0 c1 c2 G t;obtain⟨x,y,z,u⟩:=e;simp only at c0 c1 c2 G;have F:=hid (show lr s p (x,y,z,u)=true->m++[(x,y,z,u)]=ik (l.take (k+1)) s p from fun h=>by rw[t.out,ag h,g.out]);have E:=hid (show lr s p (x,y,z,u)=false->m=ik (l.take (k+1)) s p from fun h=>by rw[t.out,ae (by rw[h];decide),g.out,dJ]);have W:=hid (show lr s p (x,y,z,u)=true->True from fun _=>trivial);by_cases C:x=s
   ·subst C;have R:(x !=x)=false:=oS;by_cases j:0<=p
    ·have T:=j;by_cases D:y=p
     ·subst D;have S:(y !=y)=false:=oS;have o:=hid (E.out (by simp[lr]));go_wp2_with fail
      exact⟨⟨k+1,m,oA,by go_num,o,c,a⟩,by simp[intOf];omega⟩
     ·have S:(y !=p)=true:=by simpa using D
      have A:=hid (F.out (by simp[lr,D,j]));go_wp2_with (at_builtin;refine aY _ rfl _ _ 38 rfl w.heap.size 40 i0 (.agg #[.int .i64 0,.int .i64 0,.int .i64 0,.bool false]) 4 32 Tryz.underlying38 hi I J K rfl oD _ _ _ rfl (c.alloc _) ⟨_,0,none⟩ 1 1 [.int .i64 x,.int .i64 y,.int .i64 z,.bool u] rfl rfl (hU _ _ _ _ _ _) (fO _ _ _ _) (by unfold maxLen;omega) oA (by have:=a.size;simp;omega) ?_;intro U V f d _;have n:=hid ((bal a _).grown d (by have:=a.size;simp;omega) (fun k hk=>(c.lt k hk).1));have B:=hid f;clear f d)
      refine⟨⟨k+1,m++[(x,y,z,u)],oA,by go_num,A,hid ?_,n⟩,by simp[intOf];omega⟩;rw[gz,ax];exact B
    ·have T:=j;have o:=hid (E.out (by simp[lr,j]));go_wp2_with fail
     exact⟨⟨k+1,m,oA,by go_num,o,c,a⟩,by simp[intOf];omega⟩
   ·have R:(x !=s)=true:=by simpa using C
    have A:=hid (F.out (by simp[lr,C]));go_wp2_with (at_builtin;refine aY _ rfl _ _ 38 rfl w.heap.size 40 i0 (.agg #[.int .i64 0,.int .i64 0,.int .i64 0,.bool false]) 4 32 Tryz.underlying38 hi I J K rfl oD _ _ _ rfl (c.alloc _) ⟨_,0,none⟩ 1 1 [.int .i64 x,.int .i64 y,.int .i64 z,.bool u] rfl rfl (hU _ _ _ _ _ _) (fO _ _ _ _) (by unfold maxLen;omega) oA (by have:=a.size;simp;omega) ?_;intro U V f d _;have n:=hid ((bal a _).grown d (by have:=a.size;simp;omega) (fun k hk=>(c.lt k hk).1));have B:=hid f;clear f d)
    refine⟨⟨k+1,m++[(x,y,z,u)],oA,by go_num,A,hid ?_,n⟩,by simp[intOf];omega⟩;rw[gz,ax];exact B
  ·obtain rfl:k=l.length:=oA;have X:¬((l.length:Int)<(l.length:Int)):=oA;have L:=hid (show m=ik l s p by rw[g.out,cO]);go_wp2_with fail
   go_ret
   refine⟨_,rfl,?_,a.out⟩;rw[<-L.out];exact c
end Mmu
namespace Mmu
open Go.RowKit Mem Bw Nums
-- from MmuClone.tpl
theorem jq {w:World} {B a e size n:Nat} {v:Value} {xs:List Value} (h:w.ownsRow B e size v n xs) (hB:a<=B):w.ownsRow a e size v n xs:=by
 refine⟨h.1,?_⟩;rcases h.2 with b|⟨g,cap,c,d,b,f⟩
 ·exact .inl b
 ·exact .inr ⟨g,cap,c,d,oA,f⟩
theorem gv {P:Program} {ops:Array Oper} {o:Oper} {a:Act} {w:World} {K:Act->World->Prop} {Q:Exit->Act->World->Prop} {E:Prop}
  (D:o.guard=none) (s x:Operand) (t:TypeId) (G:o.op=Op.call {callee:=Callee.builtin Builtin.append,args:=#[s,x],argTypes:=#[t,t]})
  (B:Nat) (e:TypeId) (i:TypeInfo) (z:Value) (size bytes:Nat) (g:P.underlying t=some (.slice e)) (k:P.info? e=some i) (l:i.zero=some z) (p:i.size=size) (q:i.bytes=bytes) (r:z.cells.size=size) (y:0<size)
  (v:Value) (n:Nat) (xs:List Value) (J:a.eval s=v) (H:w.ownsRow B e size v n xs)
  (f:Addr) (m c:Nat) (b:List Value) (M:a.eval x=.slice (some f) m c) (F:b.length=m*size) (C:∀j u,b[j]? =some u->w.cell? (f.add j)=some u) (h:∀u∈b,u.oneCell'=true)
  (b1:n+m<=maxLen) (b2:(n+m)*bytes<=140737488355328) (hB:B<=w.heap.size)
  (A:∀d w',w'.ownsRow B e size d (n+m) (xs++b)->w.grownBy w' v.ownBlock->K (a.put o.dst d) w'):
  if Region.wanted o (yielded ops a.tmps)=true then Oper.wp P o a w K Q else E:=by
 have L:Region.wanted o (yielded ops a.tmps)=true:=by simp[Region.wanted,D]
 rw[ag L];obtain⟨d,w',I,N,O,_⟩:=run_append_own (P:=P) w B t o.type e i z size bytes g k l p q r y v n xs H f m c b F C h b1 b2 hB;unfold Oper.wp;simp[execOp,G,resolve,invoke,builtin,J,M,I,Result.andThen];exact A d w' N O
def lS (l:List Ent):List Ent:=l.drop (l.length - 4)
def sA (l:List Ent) (e:Ent):List Ent:=lS (ik l e.1 e.2.1++[e])
theorem qS (l:List Ent):(lS l).length<=4:=by
 unfold lS;rw[List.length_drop];omega
theorem zj (l:List Ent) (s p:Int) (h:p<0):ik l s (-1)=ik l s p:=by
 unfold ik
 congr 1
 funext e
 have:¬(0<=p):=oA;simp[lr,this]
def iD (B:Nat) (w:World) (v:Value) (l:List Ent):Prop:=∃q b off cap,v=.slice q l.length cap∧(0<l.length∧q=some ⟨b,off,none⟩)∧gx w b off l∧l.length<=100∧B<=b∧l.length<=cap∧∀o,w.frozen? ⟨b,o,none⟩=false
theorem iD.low {B a:Nat} {w:World} {v:Value} {l:List Ent} (h:iD B w v l) (hB:a<=B):iD a w v l:=by
 obtain⟨q,b,off,cap,c,d,e,f,g,i⟩:=h;exact⟨q,b,off,cap,c,d,e,f,aB hB g,i⟩
theorem Ah {w:World} {B:Nat} {v:Value} {m:List Ent} (h:w.ownsRow B 40 4 v m.length (fo m)) (l:0<m.length):
  ∃g cap,v=.slice (some ⟨g,0,none⟩) m.length cap∧m.length<=cap∧B<=g∧(∀k,k<=m.length->gx w g (k*4) (m.drop k))∧∀o,w.frozen? ⟨g,o,none⟩=false:=by
 rcases h.2 with ⟨rfl,a⟩|⟨g,cap,i,rfl,a,n,d,_⟩
 ·omega
 ·refine⟨g,cap,rfl,d,a,fun k hk j e=>?_,h.frozenAt⟩;rw[List.length_drop] at e;have f:k+j<m.length:=oA;obtain⟨b,e1,e2,c⟩:=kx m (k+j) f;rw[show k*4+j*4=(k+j)*4 by omega,List.getElem_drop];rw[h.cellAt ((k+j)*4) oA,h.cellAt ((k+j)*4+1) oA,h.cellAt ((k+j)*4+2) oA,h.cellAt ((k+j)*4+3) oA];exact⟨b,e1,e2,c⟩
theorem AA {w:World} {B g cap:Nat} {m:List Ent} (c:0<m.length) (hB:B<=g) (a:(lS m).length<=cap) (h:gx w g ((m.length - 4)*4) (m.drop (m.length - 4))) (b:∀o,w.frozen? ⟨g,o,none⟩=false):iD B w (.slice (some ⟨g,(m.length - 4)*4,none⟩) (m.length - (m.length - 4)) cap) (lS m):=by
 refine⟨some ⟨g,(m.length - 4)*4,none⟩,g,(m.length - 4)*4,cap,?_,⟨by unfold lS;rw[List.length_drop];omega,rfl⟩,h,aB (qS m) oD,hB,a,b⟩;unfold lS;rw[List.length_drop]
theorem ou {W w1:World} {a b c d:Value} {e:TypeId} (f:Below (W.alloc (.cells #[a,b,c,d] e)).heap.size (W.alloc (.cells #[a,b,c,d] e)) w1):∀(j:Nat) (x:Value),[a,b,c,d][j]? =some x->w1.cell? ((⟨W.heap.size,0,none⟩:Addr).add j)=some x:=by
 intro j x h;have:=hU W a b c d e j x h;rw[tE] at this ⊢;exact (f.cell (aj _ _ this)).trans this
def Ib:Value->Nat
 | .slice _ n _=>n
 |_=>0
theorem vc (v:Value) (l:List Ent) (a:Int) (e1:Int) (e2:Int) (d:Bool) (w:World) (hv:jb w v l):
  Calls Tryz.prog 179 #[v,.agg #[.int .i64 a,.int .i64 e1,.int .i64 e2,.bool d]] w fun r w'=>∃u,r=.returned u∧iD w.heap.size w' u (sA l (a,e1,e2,d))∧Below w.heap.size w w':=by
 obtain⟨i0,hi,J,K,L⟩:=fj mN;have hl:l.length<=100:=by obtain⟨_,_,_,_,_,_,_,h⟩:=hv;exact h
 have H:=hid hv;have B:=hid (bal (af w.heap.size w) (.cells #[.int .i64 a,.int .i64 e1,.int .i64 e2,.bool d] 40));have C:=hid (cq w #[.int .i64 a,.int .i64 e1,.int .i64 e2,.bool d] 40);have I:=hid (show (w.alloc (.cells #[.int .i64 a,.int .i64 e1,.int .i64 e2,.bool d] 40)).heap.size=w.heap.size+1 by simp);obtain⟨i,O⟩:∃W,W=w.alloc (.cells #[.int .i64 a,.int .i64 e1,.int .i64 e2,.bool d] 40):=⟨_,rfl⟩
 rw[<-O] at B C I;have HW:=hid O;have L0:=o5 l a e1;have S:(ik l a e1).length+1<=maxLen:=by unfold maxLen;omega
 have T:((ik l a e1).length+1)*32<=140737488355328:=oA;clear O;go_enter Tryz.func179,Tryz.ntmps179
 go_upto_region 1 with fail
 rw[<-HW.out];go_cut [5] (fun x wx=>∃m:List Ent,Hid (m=ik l a e1++[(a,e1,e2,d)])∧Hid (wx.ownsRow i.heap.size 40 4 x m.length (fo m))∧Hid (Below i.heap.size i wx))
 case first=>
  have f:=hid (aD i 1);have j:=hid (show ∀W,Below i.heap.size i W->W.cell? ⟨w.heap.size,0,none⟩=some (.int .i64 a)∧W.cell? ⟨w.heap.size,1,none⟩=some (.int .i64 e1)∧W.cell? ⟨w.heap.size,2,none⟩=some (.int .i64 e2)∧W.cell? ⟨w.heap.size,3,none⟩=some (.bool d) from fun W b=>by
   have y:w.heap.size<i.heap.size:=by have:=I.out;omega
   exact⟨(b.cell y).trans (C.out 0),(b.cell y).trans (C.out 1),(b.cell y).trans (C.out 2),(b.cell y).trans (C.out 3)⟩)
  go_region_held3 (fun W=>W.cell? ⟨w.heap.size,0,none⟩=some (.int .i64 a)∧W.cell? ⟨w.heap.size,1,none⟩=some (.int .i64 e1)∧W.cell? ⟨w.heap.size,2,none⟩=some (.int .i64 e2)∧W.cell? ⟨w.heap.size,3,none⟩=some (.bool d))
   (first
    |exact j _ A
    |exact j _ (bal e _)
    |exact j _ e
    |exact j _ (bal f _)
    |exact j _ f)
   (first
    |(refine gv rfl (.tmp 11) (.tmp 13) 38 rfl i.heap.size 40 i0 (.agg #[.int .i64 0,.int .i64 0,.int .i64 0,.bool false]) 4 32 Tryz.underlying38 hi J K L rfl oD _ _ _ rfl n ⟨_,0,none⟩ 1 1 [.int .i64 a,.int .i64 e1,.int .i64 e2,.bool d] rfl rfl N (fO _ _ _ _) S T e.size ?_;intro P Q t s;have A:=hid (e.grown s e.size (fun k hk=>(n.lt k hk).1));have G:=hid t;clear t s)
    |(refine gv rfl (.tmp 11) (.tmp 13) 38 rfl i.heap.size 40 i0 (.agg #[.int .i64 0,.int .i64 0,.int .i64 0,.bool false]) 4 32 Tryz.underlying38 hi J K L rfl oD _ _ _ rfl (n.alloc _) ⟨_,0,none⟩ 1 1 [.int .i64 a,.int .i64 e1,.int .i64 e2,.bool d] rfl rfl (hU _ _ _ _ _ _) (fO _ _ _ _) S T (bal e _).size ?_;intro P Q t s;have A:=hid ((bal e _).grown s (bal e _).size (fun k hk=>(n.lt k hk).1));have G:=hid t;clear t s)
    |(go_at_call 228;refine (iQ v l a e1 _ (H.below (btr B f))).mono ?_;rintro r w1 ⟨u,rfl,q,b⟩;have e:=hid (btr f b);have n:=hid (jq q f.size);clear q b)
    |(go_at_call 228;refine (iQ v l a e1 _ (H.below (btr B (bal f _)))).mono ?_;rintro r w1 ⟨u,rfl,q,b⟩;have e:=hid (btr (bal f _) b);have n:=hid (jq q (bal f _).size);have N:=hid (ou b);clear q b))
  all_goals (go_wp2_with fail;go_meet;exact⟨_,hid rfl,hid (by rw[gz,ax];exact G),A⟩)
 case rest=>
  obtain⟨m,F,M,z⟩:=hcut;have S1:=hid (show w.heap.size<wc.heap.size by have:=I.out;have:=z.size;omega);have D:=hid (fun o=>(z.cell (p:=⟨w.heap.size,o,none⟩) (by have:=I.out;simp only;omega)).trans (C.out o));have c1:=D.out 1;have R:=hid (btr B z)
  go_upto_if 17 with fail
  go_cut [5] (fun x wx=>∃m:List Ent,Hid (m=ik l a e1++[(a,e1,e2,d)])∧Hid (wx.ownsRow i.heap.size 40 4 x m.length (fo m))∧Hid (Below i.heap.size i wx))
  case first=>
   by_cases he:e1<0
   ·have N0:=o5 l a (-1);have U:(ik l a (-1)).length+1<=maxLen:=by unfold maxLen;omega
    have V:((ik l a (-1)).length+1)*32<=140737488355328:=oA;go_wp2_with fail
    have f:=hid (aD wc 1);have j:=hid (show ∀W,Below wc.heap.size wc W->W.cell? ⟨w.heap.size,0,none⟩=some (.int .i64 a)∧W.cell? ⟨w.heap.size,1,none⟩=some (.int .i64 e1)∧W.cell? ⟨w.heap.size,2,none⟩=some (.int .i64 e2)∧W.cell? ⟨w.heap.size,3,none⟩=some (.bool d) from fun W b=>by
     have y:w.heap.size<wc.heap.size:=by have:=S1.out;omega
     exact⟨(b.cell y).trans (D.out 0),(b.cell y).trans (D.out 1),(b.cell y).trans (D.out 2),(b.cell y).trans (D.out 3)⟩)
    go_region_held3 (fun W=>W.cell? ⟨w.heap.size,0,none⟩=some (.int .i64 a)∧W.cell? ⟨w.heap.size,1,none⟩=some (.int .i64 e1)∧W.cell? ⟨w.heap.size,2,none⟩=some (.int .i64 e2)∧W.cell? ⟨w.heap.size,3,none⟩=some (.bool d))
     (first
      |exact j _ A
      |exact j _ (bal e _)
      |exact j _ e
      |exact j _ (bal f _)
      |exact j _ f)
     (first
      |(refine gv rfl (.tmp 21) (.tmp 23) 38 rfl wc.heap.size 40 i0 (.agg #[.int .i64 0,.int .i64 0,.int .i64 0,.bool false]) 4 32 Tryz.underlying38 hi J K L rfl oD _ _ _ rfl n ⟨_,0,none⟩ 1 1 [.int .i64 a,.int .i64 e1,.int .i64 e2,.bool d] rfl rfl N (fO _ _ _ _) U V e.size ?_;intro P Q t s;have A:=hid (e.grown s e.size (fun k hk=>(n.lt k hk).1));have G:=hid t;clear t s)
      |(refine gv rfl (.tmp 21) (.tmp 23) 38 rfl wc.heap.size 40 i0 (.agg #[.int .i64 0,.int .i64 0,.int .i64 0,.bool false]) 4 32 Tryz.underlying38 hi J K L rfl oD _ _ _ rfl (n.alloc _) ⟨_,0,none⟩ 1 1 [.int .i64 a,.int .i64 e1,.int .i64 e2,.bool d] rfl rfl (hU _ _ _ _ _ _) (fO _ _ _ _) U V (bal e _).size ?_;intro P Q t s;have A:=hid ((bal e _).grown s (bal e _).size (fun k hk=>(n.lt k hk).1));have G:=hid t;clear t s)
      |(go_at_call 228;refine (iQ v l a (-1) _ (H.below (btr R f))).mono ?_;rintro r w1 ⟨u,rfl,q,b⟩;have e:=hid (btr f b);have n:=hid (jq q f.size);clear q b)
      |(go_at_call 228;refine (iQ v l a (-1) _ (H.below (btr R (bal f _)))).mono ?_;rintro r w1 ⟨u,rfl,q,b⟩;have e:=hid (btr (bal f _) b);have n:=hid (jq q (bal f _).size);have N:=hid (ou b);clear q b))
    all_goals (go_wp2_with fail;go_meet;exact⟨ik l a (-1)++[(a,e1,e2,d)],hid (by rw[zj l a e1 he]),hid (by rw[gz,ax];exact jq G z.size),hid (btr z A)⟩)
   ·go_wp2_with fail
    go_meet
    exact⟨_,F,M,z⟩
  case rest=>
   obtain⟨m,F,M,z⟩:=hcut;have X:0<m.length:=by rw[F.out,ax];simp
   have ag:m.length<=101:=by rw[F.out,ax];simp;omega
   obtain⟨g,cap,rfl,ad,hg,hE,hz⟩:=Ah M X;have HR:=hid (show sA l (a,e1,e2,d)=lS m by rw[F.out];rfl);have Y:=hid (show ∀c,(lS m).length<=c->iD w.heap.size wc (.slice (some ⟨g,(m.length - 4)*4,none⟩) (m.length - (m.length - 4)) c) (lS m) from fun c hc=>AA X (aB B.size hg) hc (hE (m.length - 4) oA) hz);have Z:=hid (btr B z);go_wp2_with fail
   go_loopw [5] (fun x wr=>∃k:Nat,k<=m.length - 4∧x=.slice (some ⟨g,k*4,none⟩) (m.length - k) (cap - k)∧Hid (wc=wr)) (fun x _=>Ib x)
   case atStart=>exact⟨0,oA,oS,hid rfl⟩
   case round=>
    obtain⟨k,hk,rfl,aa⟩:=hrel;obtain rfl:=aa.out;by_cases ae:4<m.length - k
    ·have ab:4<((m.length - k:Nat):Int):=oA;have ac:m.length - k<=cap - k:=oA;have e1:k*4+4=(k+1)*4:=oA;have e2:m.length - k - 1=m.length - (k+1):=oA;have d:cap - k - 1=cap - (k+1):=oA;have E:=hid (show (Value.slice (some ⟨g,k*4+4,none⟩) (m.length - k - 1) (cap - k - 1))=Value.slice (some ⟨g,(k+1)*4,none⟩) (m.length - (k+1)) (cap - (k+1)) by rw[e1,e2,d]);clear e1 e2 d;go_wp2_with fail
     exact⟨⟨k+1,oA,E.out,hid trivial⟩,by simp only[Ib];omega⟩
    ·obtain rfl:k=m.length - 4:=oA;have ab:¬4<((m.length - (m.length - 4):Nat):Int):=oA;go_wp2_with fail
     go_ret
     refine⟨_,rfl,?_,Z.out⟩;rw[HR.out];exact Y _ (by unfold lS;rw[List.length_drop];omega)
def pQ (zs:List Int) (l:List Ent) (s a:Int):Ent×List Ent×Int:=
 if (jc l s (a/16)).2=true then ((jc l s (a/16)).1,l,0)
 else if (en zs s a).2.2=0 then ((s,a/16,(en zs s a).1,(en zs s a).2.1),sA l (s,a/16,(en zs s a).1,(en zs s a).2.1),0)
 else ((0,0,0,false),[],(en zs s a).2.2)
theorem rA {zs:List Int} {l:List Ent} {s a:Int} {e:Ent} (h:jc l s (a/16)=(e,true)):pQ zs l s a=(e,l,0):=by
 unfold pQ;rw[h,ag rfl]
theorem Bd {zs:List Int} {l:List Ent} {s a:Int} {e:Ent} {t k:Int} {b:Bool} (h:jc l s (a/16)=(e,false)) (c:en zs s a=(t,b,k)) (hk:k≠0):pQ zs l s a=((0,0,0,false),[],k):=by
 unfold pQ;rw[h,ae Bool.false_ne_true,c,ae hk]
theorem yj {zs:List Int} {l:List Ent} {s a:Int} {e:Ent} {t:Int} {b:Bool} (h:jc l s (a/16)=(e,false)) (c:en zs s a=(t,b,0)):pQ zs l s a=((s,a/16,t,b),sA l (s,a/16,t,b),0):=by
 unfold pQ;rw[h,ae Bool.false_ne_true,c,ag rfl]
def lT (z a:Int):Int:=wrap64 (wrap64 (z*16)+a%16)
def iS (zs:List Int) (l:List Ent) (s a:Int) (wr:Bool):Int×List Ent×Int:=
 if ¬inb zs.length s a then (0,[],2)
 else if (pQ zs l s a).2.2≠0 then (0,[],(pQ zs l s a).2.2)
 else if wr=true∧(pQ zs l s a).1.2.2.2=false then (0,[],4)
 else (lT (pQ zs l s a).1.2.2.1 a,(pQ zs l s a).2.1,0)
theorem vp {zs:List Int} {l:List Ent} {s a:Int} {wr:Bool} (h:¬inb zs.length s a):iS zs l s a wr=(0,[],2):=by
 unfold iS;rw[ag h]
theorem zS {zs:List Int} {l m:List Ent} {s a k:Int} {wr:Bool} {e:Ent} (h:inb zs.length s a) (b:pQ zs l s a=(e,m,k)) (hk:k≠0):iS zs l s a wr=(0,[],k):=by
 unfold iS;rw[ae (fun c=>c h),b,ag hk]
theorem oi {zs:List Int} {l m:List Ent} {s a x y z:Int} (h:inb zs.length s a) (b:pQ zs l s a=((x,y,z,false),m,0)):iS zs l s a true=(0,[],4):=by
 unfold iS;rw[ae (fun c=>c h),b,ae (fun c=>c rfl),ag ⟨rfl,rfl⟩]
theorem pz {zs:List Int} {l m:List Ent} {s a x y z:Int} {wr b:Bool} (h:inb zs.length s a) (i:pQ zs l s a=((x,y,z,b),m,0)) (g:wr=false∨b=true):iS zs l s a wr=(lT z a,m,0):=by
 unfold iS;rw[ae (fun c=>c h),i,ae (fun c=>c rfl),ae];rintro⟨f,d⟩;simp only at d;rcases g with e|e
 ·rw[e] at f;cases f
 ·rw[e] at d;cases d
theorem yL {zs:List Int} {s a:Int} (h:inb zs.length s a):(en zs s a).2.2=0∨(en zs s a).2.2=9:=by
 unfold en;rw[ae (fun c=>c h)];split
 ·exact .inr rfl
 ·split
  ·exact .inr rfl
  ·exact .inl rfl
theorem oj (q v:Value) (zs:List Int) (l:List Ent) (s a:Int) (wr:Bool) (w:World) (K:Go.Proofs.YtnccmdndkmmhcaaGreatDoor.Wd.jW w q zs) (hv:jb w v l):
  Calls Tryz.prog 128 #[q,v,.int .i64 s,.int .i64 a,.bool wr] w fun r w'=>∃u,r=.returned (.tuple #[.int .i64 (iS zs l s a wr).1,u,.int .i64 (iS zs l s a wr).2.2])∧((iS zs l s a wr).2.2=0->(u=v∧(iS zs l s a wr).2.1=l)∨iD w.heap.size w' u (iS zs l s a wr).2.1)∧Below w.heap.size w w':=by
 have B:=hid hv;have E:=hid K;by_cases j:inb zs.length s a
 ·have e:=hid j;have a0:=j.2.2.2.2.1;have a1:=j.2.2.2.2.2;obtain⟨g,n⟩:∃g,en zs s a=g:=⟨_,rfl⟩
  have o:=yL j;rw[n] at o;obtain⟨t,b,k⟩:=g;simp only at o;go_enter Tryz.func128,Tryz.ntmps128
  go_wp2_with fail
  refine (Go.Proofs.YtnccmdndkmmhcaaGreatDoor.Wd.lP q zs s a w E).mono ?_;rintro r w0 ⟨rfl,rfl⟩;rw[n];simp only;have L:(k==2)=false:=by rcases o with rfl|rfl<;>rfl
  go_wp2_with fail
  refine (wQ v l s (a/16) w B).mono ?_;rintro r w1 ⟨rfl,D⟩;have G:=hid D;obtain⟨f,m⟩:∃f,jc l s (a/16)=f:=⟨_,rfl⟩
  rw[m];obtain⟨⟨x,y,z,u⟩,ok⟩:=f;unfold iF;have d:=hid (bal G (.cells #[.int .i64 x,.int .i64 y,.int .i64 z,.bool u] 40))
  cases ok with
  |true=>
   have C:=hid (B.below d);have i:=rA (zs:=zs) m
   cases wr with
   |false=>
    have c:=hid (pz (wr:=false) e i (Or.inl rfl));go_wp2_with fail
    refine ar (v:=.tuple #[.int .i64 (lT z a),v,.int .i64 0]) (by simp[lT,results,Tryz.results128,go_sem]) rfl ⟨v,by rw[c.out],fun _=>.inl ⟨rfl,by rw[c.out]⟩,d.out⟩
   |true=>
    cases u with
    |false=>
     have c:=hid (oi e i);go_wp2_with fail
     refine ar (v:=.tuple #[.int .i64 0,.slice none 0 0,.int .i64 4]) (by simp[results,Tryz.results128,go_sem]) rfl ⟨_,by rw[c.out],fun h=>(by rw[c.out] at h;cases h),d.out⟩
    |true=>
     have c:=hid (pz (wr:=true) e i (Or.inr rfl));go_wp2_with fail
     refine ar (v:=.tuple #[.int .i64 (lT z a),v,.int .i64 0]) (by simp[lT,results,Tryz.results128,go_sem]) rfl ⟨v,by rw[c.out],fun _=>.inl ⟨rfl,by rw[c.out]⟩,d.out⟩
  |false=>
   rcases o with rfl|rfl
   ·have i:=yj m n;have C:=hid (B.below d);go_wp2_with fail
    generalize World.alloc _ _=I at d C ⊢;refine (vc v l s (a/16) t b I C).mono ?_;rintro r M ⟨p,rfl,J,D⟩;have F:=hid (J.low d.size);have A:=hid (btr d D)
    cases wr with
    |false=>
     have c:=hid (pz (wr:=false) e i (Or.inl rfl));go_wp2_with fail
     refine ar (v:=.tuple #[.int .i64 (lT t a),p,.int .i64 0]) (by simp[lT,results,Tryz.results128,go_sem]) rfl ⟨p,by rw[c.out],fun _=>.inr (by rw[c.out];exact F),A.out⟩
    |true=>
     cases b with
     |false=>
      have c:=hid (oi e i);go_wp2_with fail
      refine ar (v:=.tuple #[.int .i64 0,.slice none 0 0,.int .i64 4]) (by simp[results,Tryz.results128,go_sem]) rfl ⟨_,by rw[c.out],fun h=>(by rw[c.out] at h;cases h),A.out⟩
     |true=>
      have c:=hid (pz (wr:=true) e i (Or.inr rfl));go_wp2_with fail
      refine ar (v:=.tuple #[.int .i64 (lT t a),p,.int .i64 0]) (by simp[lT,results,Tryz.results128,go_sem]) rfl ⟨p,by rw[c.out],fun _=>.inr (by rw[c.out];exact F),A.out⟩
   ·have c:=hid (zS (wr:=wr) e (Bd m n oD) oD);go_wp2_with fail
    refine ar (v:=.tuple #[.int .i64 0,.slice none 0 0,.int .i64 9]) (by simp[results,Tryz.results128,go_sem]) rfl ⟨_,by rw[c.out],fun h=>(by rw[c.out] at h;cases h),d.out⟩
 ·have c:=hid (vp (l:=l) (wr:=wr) j);have H:=hid (iZ j);go_enter Tryz.func128,Tryz.ntmps128
  go_wp2_with fail
  refine (Go.Proofs.YtnccmdndkmmhcaaGreatDoor.Wd.lP q zs s a w E).mono ?_;rintro r w0 ⟨rfl,rfl⟩;rw[H.out];go_wp2_with fail
  refine ar (v:=.tuple #[.int .i64 0,.slice none 0 0,.int .i64 2]) (by simp[results,Tryz.results128,go_sem]) rfl ⟨_,by rw[c.out],fun h=>(by rw[c.out] at h;cases h),af _ _⟩
