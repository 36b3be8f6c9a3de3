/- Qbl -/
import Derived.Test.YtaejnmmpddbbjaaGreatDoorQbk
import Derived.Test.YtaejnmmpddbbjaaGreatDoorQbf
set_option maxRecDepth 100000
set_option maxHeartbeats 16000000
namespace Go.Proofs.YtaejnmmpddbbjaaGreatDoor
namespace Wd
open Go.RowKit Mem Bw Nums Mmu Hex Mad
def q0 (q:Int×Int×Int×Int):Int:=q.1*256+q.2.1*16+q.2.2.1
def q1 (q:Int×Int×Int×Int):Int:=q.2.2.2
theorem zw {q:Int×Int×Int×Int} (h:lX q):(0<=q0 q∧q0 q<=65535)∧0<=q1 q∧q1 q<=65535:=by
 obtain⟨a,b,c,d⟩:=h;unfold q0 q1;omega
theorem pF (q:Int×Int×Int×Int) (w:World) (h:lX q):
  Calls Tryz.prog 75 #[.agg #[.int .i64 q.1,.int .i64 q.2.1,.int .i64 q.2.2.1,.int .i64 q.2.2.2]] w fun e w'=>e=.returned (.agg #[.int .i64 (q0 q),.int .i64 (q1 q)])∧Below w.heap.size w w':=by
 obtain⟨o,a,b,i⟩:=q;obtain⟨⟨c,d⟩,⟨a0,a1⟩,⟨b0,b1⟩,i0,i1⟩:=h;simp only at c d a0 a1 b0 b1 i0 i1 ⊢;have hi:¬i<0:=oA;have e1:=bZ _ oA oA;have e2:=bZ _ oA oA;have f:=bZ _ oA oA;have e4:=bZ _ oA oA;go_enter Tryz.func75,Tryz.ntmps75
 go_wp2
 exact aq (v:=.agg #[.int .i64 (o*256+a*16+b),.int .i64 i]) (by simp[results,Tryz.results75,go_sem]) rfl ⟨rfl,bal (bal (ai _ _) _) _⟩
def cdN (ram:List Int) (a:Nat) (zs:List (Int×Int×Int×Int)):Nat->List Int
 |0=>ram
 |k+1=>((cdN ram a zs k).set (a+2*k) (q0 (zs.getD k (0,0,0,0)))).set (a+2*k+1) (q1 (zs.getD k (0,0,0,0)))
theorem s7 (ram:List Int) (a:Nat) (zs:List (Int×Int×Int×Int)):∀k,(cdN ram a zs k).length=ram.length
 |0=>rfl
 |k+1=>by rw[cdN,au,au,s7 ram a zs k]
theorem qA (wb:Nat) (tag:Nat->Nat) (V:Nat->Value) (p:PW) (f F lc:Nat) (zs:List (Int×Int×Int×Int)) (w:World) (ax:cb w wb tag V p) (hp:p.Fits) (hI:yi w F 0 zs) (ay:tag F=0) (hz:zs.length<=16) (hg:∀q∈zs,lX q) (hf:f*16+2*zs.length<=p.Eb.length) (aq:0<p.Eb.length):
  Calls Tryz.prog 30 #[.pointer (some ⟨wb,0,none⟩),.int .i64 f,.slice (some ⟨F,0,none⟩) zs.length lc] w fun r w'=>r=.returned (.tuple #[])∧∃tag',cb w' wb tag' V {p with Eb:=cdN p.Eb (f*16) zs zs.length}∧Kt tag tag' w w':=by
 obtain⟨bt,kr⟩:=hV ax;have TN:=hid (fun x (h:w.heap.size<=x)=>eW (tag:=tag) h);have LT:=hid (show ∀k,k<w.heap.size->iD tag w.heap.size k=tag k from fun k h=>jg h);have KR:=hid kr;have BT:=hid bt;have ap:=hid ay;generalize iD tag w.heap.size=tg at*;have aH:=hp.Eb;have aI:(p.Eb.length:Int)<=1000:=oA;have aJ:(zs.length:Int)<=16:=oA;have B:=hid hI;have HG:=hid hg;have HF:=hid hf;obtain⟨a,ea⟩:∃a,f*16=a:=⟨_,rfl⟩
 have EA:=hid ea;rw[ea];have aB:a+2*zs.length<=p.Eb.length:=oA;have fa:(f:Int)*16=(a:Int):=oA;have FA:=hid fa;obtain⟨c,cap0,e0⟩:∃c cap0,V 0=.slice (some ⟨c,0,none⟩) p.Eb.length cap0:=BT.o.Eb.form (show 0<p.Eb.length from aq)
 have G:=hid e0;have H:=hid (fun W q (h:cb W wb tg V q)=>show W.cell? ⟨wb,0,none⟩=some (.slice (some ⟨c,0,none⟩) p.Eb.length cap0) from by have:=ah h.r (k:=0) rfl;rw[e0] at this;exact this);have aD:(f:Int)*16<=1000:=oA;clear hI hg hf ea fa e0;go_enter Tryz.func30,Tryz.ntmps30
 go_wp2_with fail
 go_loopw [6] (fun i wr=>∃k:Nat,k<=zs.length∧i=.int .i64 (k:Int)∧Hid (cb wr wb tg V {p with Eb:=cdN p.Eb a zs k})∧Hid (Kt tg tg w wr)) (fun i _=>zs.length - (intOf i).toNat)
 case atStart=>exact⟨0,oA,rfl,BT,hid (Kt.refl _ _)⟩
 case round=>
  obtain⟨k,hk,rfl,N,v⟩:=hrel;by_cases y:k<zs.length
  rotate_left
  ·obtain rfl:k=zs.length:=oA;have aE:¬((zs.length:Int)<(zs.length:Int)):=oA;go_wp2_with fail
   exact aX (aK rfl _ _ _) rfl ⟨rfl,tg,N.out,KR.trans v⟩
  have aF:(k:Int)<(zs.length:Int):=oA;have TL:=hid (show tg F=0 from by rw[LT.out F (aj _ _ (B.out k y).1)];exact ap);have x0:=v.cell (B.out k y).1 TL;have x1:=v.cell (B.out k y).2.1 TL;have x2:=v.cell (B.out k y).2.2.1 TL;have x3:=v.cell (B.out k y).2.2.2 TL;rw[az] at x0 x1 x2 x3;have GQ:=hid (HG.out zs[k] (aw y));have QD:=hid (show zs.getD k (0,0,0,0)=zs[k] by rw[aa,ac y];rfl);generalize zs[k]=q at*;go_wp2_with fail
  refine (pF q wr GQ).mono ?_;rintro r w2 ⟨rfl,hb⟩;have ab:=hid (N.below hb);have U:=hid (v.trans (bf (tag:=tg) hb));have GE:=hid (show w.heap.size<=w2.heap.size from U.k.size);clear hb x0 x1 x2 x3 N v;have t:=hid (show (w2.alloc (.cells #[.int .i64 (q0 q),.int .i64 (q1 q)] 128)).cell? ⟨w2.heap.size,0,none⟩=some (.int .i64 (q0 q))∧(w2.alloc (.cells #[.int .i64 (q0 q),.int .i64 (q1 q)] 128)).cell? ⟨w2.heap.size,1,none⟩=some (.int .i64 (q1 q)) from⟨by rw[cD];rfl,by rw[cD];rfl⟩);have M:=hid (show Below w2.heap.size w2 (w2.alloc (.cells #[.int .i64 (q0 q),.int .i64 (q1 q)] 128)) from bal (ai _ _) _);have E:=hid (TN.out w2.heap.size GE);have ad:=hid (ab.below M);have ae:=hid (U.trans (bf (tag:=tg) M));have af:(cdN p.Eb a zs k).length=p.Eb.length:=s7 _ _ _ _;have X:=hid af;clear ab U M af;go_upto_region 4 with fail
  generalize w2.alloc _=n at t ad ae ⊢;generalize w2.heap.size=b at t E ⊢;have e:Hid (Below n.heap.size n n.drew):=hid (aC n 1);have j:=hid (ad.below e);have T:=hid (ae.trans (bf (tag:=tg) e));have l:=hid (show n.drew.cell? ⟨b,0,none⟩=some (.int .i64 (q0 q))∧n.drew.cell? ⟨b,1,none⟩=some (.int .i64 (q1 q)) from⟨gA e t.1,gA e t.2⟩);obtain⟨d,L⟩:∃d,a+2*k=d:=⟨_,rfl⟩
  have hd:(d:Int)<(p.Eb.length:Int):=oA;have J:(f:Int)*16+2*(k:Int)=(d:Int):=by have:=FA.out;omega
  have O:=hid J;have P:=hid L;have m:=hid (j.Ek (g:=c) (cap:=cap0) (by rw[show ({p with Eb:=(cdN p.Eb a zs k)}:PW).Eb.length=p.Eb.length from X];exact G) d (q0 q));have s:=j.o.Eb;rw[G.out,show ({p with Eb:=(cdN p.Eb a zs k)}:PW).Eb.length=p.Eb.length from X] at s;have S:=hid (Option.isSome_iff_exists.1 (s.there d 1 oA 0 oA).1);have Q:=hid (s.frozen d);clear s J L
  skip
  refine bj (R:=fun W=>W.cell? ⟨wb,0,none⟩=some (.slice (some ⟨c,0,none⟩) p.Eb.length cap0)∧W.cell? ⟨b,0,none⟩=some (.int .i64 (q0 q))∧W.cell? ⟨b,1,none⟩=some (.int .i64 (q1 q))) [12] [0,1,2,3,4,5,6,7,8,9,10] 2 oK ⟨H.out _ _ j,l.out⟩ oK oK oK (fun _=>?_)
  repeat (refine Rf.rs ?_;simp only[jj])
  refine aG ?_
  try simp only[show IntKind.i64.wrap ((f:Int)*16)=(f:Int)*16 from bZ _ oA oA,show IntKind.i64.wrap (2*(k:Int))=2*(k:Int) from bZ _ oA oA,show IntKind.i64.wrap ((f:Int)*16+2*(k:Int))=(f:Int)*16+2*(k:Int) from bZ _ oA oA]
  rw[O.out];refine bC (R:=fun W=>W.cell? ⟨wb,0,none⟩=some (.slice (some ⟨c,0,none⟩) p.Eb.length cap0)∧W.cell? ⟨b,0,none⟩=some (.int .i64 (q0 q))∧W.cell? ⟨b,1,none⟩=some (.int .i64 (q1 q))) oK _ ⟨H.out _ _ j,l.out⟩ [11] 1 _ _ oK ?_
  repeat (refine Rf.rs ?_;simp only[jj])
  refine aG ?_;obtain⟨u,hu⟩:=S.out;rw[bG] at hu;have fz:=Q.out;have A:=hid m.1;have C:=hid (T.trans m.2);have D:=hid (show (n.drew.setCell ⟨c,d,none⟩ (.int .i64 (q0 q))).cell? ⟨b,0,none⟩=some (.int .i64 (q0 q))∧(n.drew.setCell ⟨c,d,none⟩ (.int .i64 (q0 q))).cell? ⟨b,1,none⟩=some (.int .i64 (q1 q)) from⟨m.2.cell l.1 E,m.2.cell l.2 E⟩);have Z:=hid (show ((cdN p.Eb a zs k).set d (q0 q)).length=p.Eb.length by rw[au];exact X);generalize n.drew=v5 at*;refine Rf.r1 12 rfl (fun K hK=>?_);refine wnt oR ?_;go_simp
  refine hK _ _ trivial (bK oK) (fun _ _=>?_)
  try simp only[jj]
  refine aO oK ?_ _;generalize v5.setCell ⟨c,d,none⟩ _=z at A C D ⊢;have ag:=A;have ar:=C;have Y:=Z;have t:=D;have am:=P;generalize d=I at*;have e:=hid (aC z 1);have j:=hid (ag.below e);have T:=hid (ar.trans (bf (tag:=tg) e));have l:=hid (show z.drew.cell? ⟨b,0,none⟩=some (.int .i64 (q0 q))∧z.drew.cell? ⟨b,1,none⟩=some (.int .i64 (q1 q)) from⟨gA e t.1,gA e t.2⟩);obtain⟨d,L⟩:∃d,a+2*k+1=d:=⟨_,rfl⟩
  have hd:(d:Int)<(p.Eb.length:Int):=oA;have J:(f:Int)*16+2*(k:Int)+1=(d:Int):=by have:=FA.out;omega
  have O:=hid J;have P:=hid L;have m:=hid (j.Ek (g:=c) (cap:=cap0) (by rw[show ({p with Eb:=((cdN p.Eb a zs k).set I (q0 q))}:PW).Eb.length=p.Eb.length from Y];exact G) d (q1 q));have s:=j.o.Eb;rw[G.out,show ({p with Eb:=((cdN p.Eb a zs k).set I (q0 q))}:PW).Eb.length=p.Eb.length from Y] at s;have S:=hid (Option.isSome_iff_exists.1 (s.there d 1 oA 0 oA).1);have Q:=hid (s.frozen d);go_upto_region 5 with fail
  refine bj (R:=fun W=>W.cell? ⟨wb,0,none⟩=some (.slice (some ⟨c,0,none⟩) p.Eb.length cap0)∧W.cell? ⟨b,0,none⟩=some (.int .i64 (q0 q))∧W.cell? ⟨b,1,none⟩=some (.int .i64 (q1 q))) [13] [0,1,2,3,4,5,6,7,8,9,10,11] 2 oK ⟨H.out _ _ j,l.out⟩ oK oK oK (fun _=>?_)
  repeat (refine Rf.rs ?_;simp only[jj])
  refine aG ?_
  try simp only[show IntKind.i64.wrap ((f:Int)*16)=(f:Int)*16 from bZ _ oA oA,show IntKind.i64.wrap (2*(k:Int))=2*(k:Int) from bZ _ oA oA,show IntKind.i64.wrap ((f:Int)*16+2*(k:Int))=(f:Int)*16+2*(k:Int) from bZ _ oA oA,show IntKind.i64.wrap ((f:Int)*16+2*(k:Int)+1)=(f:Int)*16+2*(k:Int)+1 from bZ _ oA oA]
  rw[O.out];refine bC (R:=fun W=>W.cell? ⟨wb,0,none⟩=some (.slice (some ⟨c,0,none⟩) p.Eb.length cap0)∧W.cell? ⟨b,0,none⟩=some (.int .i64 (q0 q))∧W.cell? ⟨b,1,none⟩=some (.int .i64 (q1 q))) oK _ ⟨H.out _ _ j,l.out⟩ [12] 1 _ _ oK ?_
  repeat (refine Rf.rs ?_;simp only[jj])
  refine aG ?_;obtain⟨u,hu⟩:=S.out;rw[bG] at hu;have fz:=Q.out;have A:=hid m.1;have C:=hid (T.trans m.2);have D:=hid (show (z.drew.setCell ⟨c,d,none⟩ (.int .i64 (q1 q))).cell? ⟨b,0,none⟩=some (.int .i64 (q0 q))∧(z.drew.setCell ⟨c,d,none⟩ (.int .i64 (q1 q))).cell? ⟨b,1,none⟩=some (.int .i64 (q1 q)) from⟨m.2.cell l.1 E,m.2.cell l.2 E⟩);have Z:=hid (show (((cdN p.Eb a zs k).set I (q0 q)).set d (q1 q)).length=p.Eb.length by rw[au];exact Y);generalize z.drew=v5 at*;refine Rf.r1 13 rfl (fun K hK=>?_);refine wnt oR ?_;go_simp
  refine hK _ _ trivial (bK oK) (fun _ _=>?_)
  try simp only[jj]
  refine aO oK ?_ _;generalize v5.setCell ⟨c,d,none⟩ _=y4 at A C D ⊢;have al:=A;have av:=C;have aA:=Z;have t:=D;have an:=P;generalize d=d4 at*;go_wp2_with fail
  have ao:=hid (show cdN p.Eb a zs (k+1)=((cdN p.Eb a zs k).set I (q0 q)).set d4 (q1 q) from by rw[cdN,QD.out,an.out,am.out]);exact⟨⟨k+1,oA,by go_num,hid (by rw[ao.out];exact al),av⟩,by simp[intOf];omega⟩
end Wd
namespace Wd
def Bs:PW:=wlP 24 2 [0]
def Df:PW:={Bs with DZ:=Bs.DZ.set 1 (clk 1 20)}
def Dg:PW:=mkP Df 1 (2+((3:Nat):Int)) 1 2
def Dh:PW:=mkP Dg 1 (2+((2:Nat):Int)) 1 3
def Di:PW:=mkP Dh 1 (2+((1:Nat):Int)) 1 4
def Dj:PW:=mkP Di 1 (2+((0:Nat):Int)) 4 5
def Dk:PW:=mkP Dj 1 (2+((4:Nat):Int)) 2 9
def Dl:PW:=mkP Dk 1 (2+((5:Nat):Int)) 1 11
def wD:PW:=mkP Dl 1 (2+((6:Nat):Int)) 1 12
def ri:PW:={wD with DZ:=wD.DZ.set 16 (kpS (wD.DZ.getD 11 eE) (Bw.bw 6 ((wD.DZ.getD 11 eE) 4).toNat 7:Nat) 5 11)}
def rj:PW:={ri with DZ:=ri.DZ.set 17 (kpS (ri.DZ.getD 12 eE) (Bw.bw 6 ((ri.DZ.getD 12 eE) 4).toNat 7:Nat) 2 12)}
def rl:PW:={rj with DZ:=rj.DZ.set 18 (kpS (rj.DZ.getD 10 eE) (Bw.bw 6 ((rj.DZ.getD 10 eE) 4).toNat 7:Nat) 0 10)}
def rm:PW:={rl with DZ:=rl.DZ.set 19 (kpS (rl.DZ.getD 7 eE) (Bw.bw 6 ((rl.DZ.getD 7 eE) 4).toNat 3:Nat) 0 7)}
def rp:PW:={rm with DZ:=rm.DZ.set 20 (kpS (rm.DZ.getD 3 eE) (Bw.bw 6 ((rm.DZ.getD 3 eE) 4).toNat 7:Nat) 0 3)}
def ry:PW:={rp with DZ:=rp.DZ.set 21 (kpS (rp.DZ.getD 4 eE) (Bw.bw 6 ((rp.DZ.getD 4 eE) 4).toNat 7:Nat) 0 4)}
def rz:PW:={ry with DZ:=ry.DZ.set 22 (kpS (ry.DZ.getD 2 eE) (Bw.bw 6 ((ry.DZ.getD 2 eE) 4).toNat 7:Nat) 0 2)}
def xQ:PW:={rz with DZ:=rz.DZ.set 23 (kpS (rz.DZ.getD 9 eE) (Bw.bw 6 ((rz.DZ.getD 9 eE) 4).toNat 6:Nat) 0 9)}
def uF:PW:={xQ with Eb:=xQ.Eb.set (2*16+0/16) (32768+((3:Nat):Int))}
def uG:PW:={uF with Eb:=uF.Eb.set ((uF.Eb.getD (2*16+0/16) 0).toNat%1024*16+0%16) (32768+((0:Nat):Int)*16384+((4:Nat):Int))}
def uH:PW:={uG with Eb:=uG.Eb.set ((uG.Eb.getD (2*16+1/16) 0).toNat%1024*16+1%16) (32768+((0:Nat):Int)*16384+((5:Nat):Int))}
def Bt:PW:={uH with Eb:=uH.Eb.set ((uH.Eb.getD (2*16+2/16) 0).toNat%1024*16+2%16) (32768+((1:Nat):Int)*16384+((6:Nat):Int))}
def Bu:PW:=eqP Bt 8 (fun k=>[0,0,2,(-1),0,1,0].getD k 0)
def Bv:PW:=eqP Bu 9 (fun k=>[0,1,2,10,1,2,0].getD k 0)
def sT:PW:=Bv
theorem zm:DV=sT:=oK
end Wd
namespace Wd
open Go.RowKit Mem Bw Nums Mmu Hex Mad
def BF (L:Nat->Int):List Int:=(sT.Eb.take 64++(List.range 32).map L)++sT.Eb.drop 96
def p0 (L:Nat->Int):PW:={sT with Eb:=BF L}
def ig (zs:List (Int×Int×Int×Int)) (i:Nat):Int:=if i%2=0 then q0 (zs.getD (i/2) (0,0,0,0)) else q1 (zs.getD (i/2) (0,0,0,0))
theorem nZ (zs:List (Int×Int×Int×Int)):cdN sT.Eb 64 zs 16=BF (ig zs):=oK
theorem zx {L:Nat->Int} (h:∀i,i<32->0<=L i∧L i<=65535):∀x∈BF L,0<=x∧x<=65535:=by
 have b:sT.Eb.all (fun x=>decide (0<=x)&&decide (x<=65535))=true:=oK;rw[aN] at b;intro x a;unfold BF at a;rw[dt,dt] at a;rcases a with (a|a)|a
 ·have:=b x (List.mem_of_mem_take a);simpa using this
 ·obtain⟨i,hi,rfl⟩:=List.mem_map.1 a;exact h i (List.mem_range.1 hi)
 ·have:=b x (List.mem_of_mem_drop a);simpa using this
theorem mA {zs:List (Int×Int×Int×Int)} (b:zs.length=16) (a:∀q∈zs,lX q):∀i,i<32->0<=ig zs i∧ig zs i<=65535:=fun i hi=>by
 have hk:i/2<zs.length:=oA;have:=zw (a zs[i/2] (aw hk));unfold ig;rw[aa,ac hk];simp only[aT];split
 ·exact this.1
 ·exact this.2
end Wd
namespace Wd
open Go.RowKit Mem Bw Nums Mmu
theorem kH {α:Type} {l:List α} {f:α->Bool} {d:α} (h:l.all f=true) (a:f d=true) (n:Nat):f (l.getD n d)=true:=by
 rw[aa]
 cases e:l[n]? with
 |none=>exact a
 |some x=>exact aN.1 h x (dG e)
def dpN (p:PW):Nat->Nat->Nat
 |0,_=>0
 |f+1,i=>if p.s i 6= -1 then 0 else dpN p f (p.s i 6).toNat+1
def ky1 (p:PW) (c i:Nat):Bool:=
 if p.s i 0==0 then (List.range 6).all (fun k=>p.s i k==0)&&p.s i 6== -1
 else p.k (i/16)==5&&kc (p.s i)==0&&decide (p.s i 1+p.s i 2<=(p.kinds.length:Int))&&(p.s i 0==1||isB p (p.s i 1) (p.s i 0))&&(p.s i 6== -1||(decide (0<=p.s i 6)&&p.s (p.s i 6).toNat 0 !=0&&cmB (p.s (p.s i 6).toNat) (p.s i)&&decide (dpN p 8 (p.s i 6).toNat<dpN p 8 i)))&&(p.s i 0 !=1||i==c)&&(p.s i 0==1||p.s i 6 != -1|| !clI (p.s i 1) (p.s c))
def us1 (p:PW) (c n:Nat):Bool:=p.k n==0||(!un n (p.s c)&&(List.range p.DZ.length).any fun i=>opn n (p.s i))
def ts1 (p:PW) (n:Nat):Bool:=p.t n 9==0&&p.t n 14== -1&&p.t n 17== -1&&(List.range 20).all fun k=>if p.k n==6 then fOk p k (p.t n k) else p.t n k==bl k
def stB (p:PW) (c:Nat):Bool:=
 ((List.range p.DZ.length).all (ky1 p c)&&(List.range p.kinds.length).all (us1 p c))&&((List.range p.kinds.length).all (ts1 p)&&(p.kinds.all fun k=>decide (0<=k∧k<=8∧k≠1))&&p.Ee.all fun k=>decide (0<=k∧k<=3))&&((p.lines.all (·.isEmpty)&&p.ready.all (·.isEmpty))&&(p.D6.all (· == -1)&&p.bits.all (· ==0)&&p.D9.all (·.isEmpty)))&&(List.range p.Eb.length).all fun i=> !beB p (p.k (i/16)) (p.Eb.getD i 0)
theorem ub {p:PW} {i:Nat} (h:p.DZ.length<=i):p.s i=eS:=by
 show p.DZ.getD i eS=_
 rw[aa,aF h];rfl
theorem yU {p:PW} {n:Nat} (h:p.kinds.length<=n):p.k n=0:=by
 show p.kinds.getD n 0=_
 rw[aa,aF h];rfl
theorem Ba {p:PW} (c:Nat) (Y:∀x∈p.Eb,0<=x∧x<=65535) (lf:LF p) (tm:0<=p.time) (h:stB p c=true):Lw p:=by
 unfold stB at h;simp only[al] at h;obtain⟨⟨⟨⟨r,G⟩,⟨P,Q⟩,S⟩,⟨E,U⟩,⟨V,W⟩,N⟩,O⟩:=h;have K:∀i,p.s i 0≠0->ky1 p c i=true∧i<p.DZ.length:=fun i hi=>by
  rcases cd i p.DZ.length with e|e
  ·exact⟨aN.1 r i (List.mem_range.2 e),e⟩
  ·rw[ub e] at hi;exact absurd rfl hi
 have q:∀i,p.s i 0≠0->p.k (i/16)=5∧sV p (p.s i)∧(p.s i 6= -1∨∃u:Nat,p.s i 6=u∧p.s u 0≠0∧cmB (p.s u) (p.s i)=true∧dpN p 8 u<dpN p 8 i)∧(p.s i 0=1->i=c)∧(p.s i 0≠1->p.s i 6= -1->clI (p.s i 1) (p.s c)=false):=fun i hi=>by
  have hk:=(K i hi).1;unfold ky1 at hk;rw[ae (by simpa using hi)] at hk;simp only[al,bT,bh,bne_iff_ne,aR,dh] at hk;obtain⟨⟨⟨⟨⟨⟨a1,y⟩,A⟩,D⟩,I⟩,J⟩,o⟩:=hk;refine⟨a1,⟨y,A,D⟩,I.elim .inl fun b=>.inr ⟨(p.s i 6).toNat,oA,b.1.1.2,b.1.2,b.2⟩,fun e=>J.resolve_left fun f=>f e,fun e f=>?_⟩;rcases o with (o|o)|o
  ·exact absurd o e
  ·exact absurd f o
  ·exact o
 have w:∀n i,clI n (p.s i)=true->i=c:=fun n i hi=>by
  unfold clI at hi;simp only[al,bh] at hi;exact (q i (by rw[hi.1];decide)).2.2.2.1 hi.1
 have F:∀n i,i≠c->clI n (p.s i)=false:=fun n i hi=>by
  cases e:clI n (p.s i) with
  |false=>rfl
  |true=>exact absurd (w n i e) hi
 have T:∀n,p.t n 9=0∧p.t n 14= -1∧p.t n 17= -1∧∀k,k<20->if p.k n=6 then fOk p k (p.t n k)=true else p.t n k=bl k:=fun n=>by
  rcases cd n p.kinds.length with e|e
  ·have:=aN.1 P n (List.mem_range.2 e);unfold ts1 at this;simp only[al,bh] at this;obtain⟨⟨⟨a1,y⟩,A⟩,D⟩:=this;refine⟨a1,y,A,fun k hk=>?_⟩;have:=aN.1 D k (List.mem_range.2 hk);split
   ·rename_i e6
    rwa [af e6] at this
   ·rename_i e6;rw[ae e6] at this;simpa using this
  ·have et:p.t n=bl:=by
    show p.DY.getD n bl=_
    rw[aa,aF (by have:=lf.DY;omega)];rfl
   rw[et,yU e];exact⟨rfl,rfl,rfl,fun k _=>by rw[ae oD]⟩
 have L:∀a,p.li a=[]:=fun a=>by have:=kH (d:=[]) E rfl a;simpa using this
 have R:∀a,p.re a=[]:=fun a=>by have:=kH (d:=[]) U rfl a;simpa using this
 have C:∀a,p.co a= -1:=fun a=>by have:=kH (d:= -1) V rfl a;simpa using this
 have B:∀a,p.bi a=0:=fun a=>by have:=kH (d:=0) W rfl a;simpa using this
 refine⟨⟨fun k hk=>ay (aN.1 Q k hk),fun k hk=>ay (aN.1 S k hk),⟨dpN p 8,?_⟩,fun n g=>?_,⟨Y,fun i hi=>by have:=aN.1 O i (List.mem_range.2 hi);simpa using this⟩,⟨lf,⟨fun n g k hk=>by have:=(T n).2.2.2 k hk;rwa [ae g] at this,fun n g k hk=>by have:=(T n).2.2.2 k hk;rwa [af g] at this⟩,⟨fun n=>.inl (T n).2.2.1,fun u H=>(by rw[(T u).1] at H;cases H),fun n m u g=>(by rw[(T n).2.2.1] at g;omega)⟩,?_⟩⟩,fun l hl=>?_,tm⟩
 ·exact {
   em:=fun i hi=>by
    rcases cd i p.DZ.length with e|e
    ·have hk:=aN.1 r i (List.mem_range.2 e);unfold ky1 at hk;rw[af (by simpa using hi)] at hk;simp only[al,bh] at hk;exact⟨fun k h=>by have:=aN.1 hk.1 k (List.mem_range.2 h);simpa using this,hk.2⟩
    ·rw[ub e];exact⟨fun k h=>by unfold eS;rw[ae oA],rfl⟩
   nd:=fun i hi=>.inl (q i hi).1
   key:=fun i hi=>(q i hi).2.1
   up:=fun i=>by
    by_cases e:p.s i 0=0
    ·refine .inl ?_;rcases cd i p.DZ.length with e2|e2
     ·have hk:=aN.1 r i (List.mem_range.2 e2);unfold ky1 at hk;rw[af (by simpa using e)] at hk;simp only[al,bh] at hk;exact hk.2
     ·rw[ub e2];rfl
    ·exact (q i e).2.2.1
   one:=fun n i j hi X=>(w n i hi).trans (w n j X).symm
   us:=fun n g i=>by
    by_cases e:i=c
    ·subst e;have hl:=Nat.lt_of_not_le fun h=>g (yU h);have:=aN.1 G n (List.mem_range.2 hl);unfold us1 at this;simp only[bT,al,bh,dh] at this;exact (this.resolve_left g).1
    ·unfold un;rw[F n i e];rfl
   gp:=fun i hi r E M=>by
    by_cases e:M=c
    ·rw[e];exact (q i hi).2.2.2.2 r E
    ·exact F _ _ e}
 ·have hl:=Nat.lt_of_not_le fun h=>g (yU h);have:=aN.1 G n (List.mem_range.2 hl);unfold us1 at this;simp only[bT,al,bh,dh,List.any_eq_true] at this;obtain⟨i,_,hi⟩:=(this.resolve_left g).2;exact⟨i,hi⟩
 ·exact {
   hk:=fun n h=>h.elim
   a1:=fun n _ _ _=>(T n).2.1
   la:=fun n _ _ h=>absurd (by rw[(T n).1];rfl) h
   ln:=fun a z v=>by rw[L a] at v;cases v
   lu:=fun a=>by rw[L a];exact List.nodup_nil
   lw:=fun a n m g=>by rw[L a] at g;cases g
   bt:=fun a=>.inl (B a)
   rd:=fun i z v=>by rw[R i] at v;cases v
   ru:=fun i=>by rw[R i];exact List.nodup_nil
   cr:=fun a=>.inl (C a)
   rq:=fun n _ _ h=>by rw[(T n).1] at h;cases h}
 ·have:l=[]:=by have:=aN.1 N l hl;simpa using this
  subst this;exact⟨oD,(fun _ h=>by cases h),List.Pairwise.nil⟩
theorem Dp (L:Nat->Int) (h:∀i,i<32->0<=L i∧L i<=65535):Lv (p0 L):=
 ⟨Ba 1 (zx h) (uc oK) (by show (0:Int)<=0;decide) oK,by show (0:Int)<=1000000;decide⟩
end Wd
namespace Wd
open Go.RowKit Mem Bw Nums Mmu Hex
def oI:ByteArray:=⟨#[119,111,114,108,100,32,50,50,32,49,32,48,32,49,32,48,10,99,108,97,121,32,49,32,49,32,49,57,10,109,97,107,101,32,110,111,100,101,32,49,32,49,32,50,10,109,97,107,101,32,115,112,97,99,101,32,49,32,49,32,51,10,109,97,107,101,32,116,97,98,108,101,32,49,32,49,32,52,10,109,97,107,101,32,112,97,103,101,32,49,32,51,32,53,10,109,97,107,101,32,116,97,115,107,32,49,32,51,32,56,10,109,97,107,101,32,100,111,111,114,32,49,32,50,32,49,49,10,109,97,107,101,32,98,101,108,108,32,49,32,49,32,49,51,10,99,111,112,121,32,49,49,32,49,54,32,55,32,57,10,99,111,112,121,32,49,50,32,49,55,32,51,32,48,10,99,111,112,121,32,49,51,32,49,56,32,55,32,52,10,99,111,112,121,32,56,32,49,57,32,55,32,48,10,99,111,112,121,32,53,32,50,48,32,49,32,48,10,101,110,116,101,114,32,50,32,48,32,51,32,48,10,101,110,116,101,114,32,50,32,48,32,52,32,48,10,101,110,116,101,114,32,50,32,49,32,53,32,48,10,101,110,116,101,114,32,50,32,50,32,54,32,49,10,101,113,117,105,112,32,55,32,48,32,50,32,45,32,48,32,49,32,48,10,101,113,117,105,112,32,56,32,49,32,50,32,49,48,32,48,32,49,32,48,10,101,113,117,105,112,32,57,32,49,32,50,32,49,49,32,48,32,51,32,49,10]⟩
def xL:PW:=wlP 22 1 [0,1,0]
def Bb:PW:={xL with DZ:=xL.DZ.set 1 (clk 1 19)}
def Bc:PW:=mkP Bb 1 (2+((3:Nat):Int)) 1 2
def Bd:PW:=mkP Bc 1 (2+((2:Nat):Int)) 1 3
def Be:PW:=mkP Bd 1 (2+((1:Nat):Int)) 1 4
def Bf:PW:=mkP Be 1 (2+((0:Nat):Int)) 3 5
def Bg:PW:=mkP Bf 1 (2+((4:Nat):Int)) 3 8
def Bh:PW:=mkP Bg 1 (2+((5:Nat):Int)) 2 11
def qX:PW:=mkP Bh 1 (2+((6:Nat):Int)) 1 13
def nr:PW:={qX with DZ:=qX.DZ.set 16 (kpS (qX.DZ.getD 11 eE) (Bw.bw 6 ((qX.DZ.getD 11 eE) 4).toNat 7:Nat) 9 11)}
def ns:PW:={nr with DZ:=nr.DZ.set 17 (kpS (nr.DZ.getD 12 eE) (Bw.bw 6 ((nr.DZ.getD 12 eE) 4).toNat 3:Nat) 0 12)}
def nv:PW:={ns with DZ:=ns.DZ.set 18 (kpS (ns.DZ.getD 13 eE) (Bw.bw 6 ((ns.DZ.getD 13 eE) 4).toNat 7:Nat) 4 13)}
def ny:PW:={nv with DZ:=nv.DZ.set 19 (kpS (nv.DZ.getD 8 eE) (Bw.bw 6 ((nv.DZ.getD 8 eE) 4).toNat 7:Nat) 0 8)}
def um:PW:={ny with DZ:=ny.DZ.set 20 (kpS (ny.DZ.getD 5 eE) (Bw.bw 6 ((ny.DZ.getD 5 eE) 4).toNat 1:Nat) 0 5)}
def pY:PW:={um with Eb:=um.Eb.set (2*16+0/16) (32768+((3:Nat):Int))}
def pZ:PW:={pY with Eb:=pY.Eb.set ((pY.Eb.getD (2*16+0/16) 0).toNat%1024*16+0%16) (32768+((0:Nat):Int)*16384+((4:Nat):Int))}
def p5:PW:={pZ with Eb:=pZ.Eb.set ((pZ.Eb.getD (2*16+1/16) 0).toNat%1024*16+1%16) (32768+((0:Nat):Int)*16384+((5:Nat):Int))}
def zd:PW:={p5 with Eb:=p5.Eb.set ((p5.Eb.getD (2*16+2/16) 0).toNat%1024*16+2%16) (32768+((1:Nat):Int)*16384+((6:Nat):Int))}
def ze:PW:=eqP zd 7 (fun k=>[0,0,2,(-1),0,1,0].getD k 0)
def zf:PW:=eqP ze 8 (fun k=>[0,1,2,10,0,1,0].getD k 0)
def zg:PW:=eqP zf 9 (fun k=>[0,1,2,11,0,3,1].getD k 0)
def kG:PW:=zg
theorem zh:fE (Prs.fT oI) (wlP 22 1 [0,1,0]) (Prs.fT oI).length=kG:=oK
theorem sy:vq (Prs.fT oI) (fE (Prs.fT oI) (wlP 22 1 [0,1,0])) 22 1 [0,1,0]:=
 rI (l:=[⟨#[50,50]⟩,⟨#[49]⟩,⟨#[48]⟩,⟨#[49]⟩,⟨#[48]⟩]) (ay oK) (ay oK) oK oK oD oD oK oD oK oK
end Wd
namespace Wd
open Go.RowKit Mem Bw Nums Mmu Hex Mad
def BH (L:Nat->Int):List Int:=(kG.Eb.take 64++(List.range 32).map L)++kG.Eb.drop 96
def m0 (L:Nat->Int):PW:={kG with Eb:=BH L}
theorem oJ (zs:List (Int×Int×Int×Int)):cdN kG.Eb 64 zs 16=BH (ig zs):=oK
theorem zy {L:Nat->Int} (h:∀i,i<32->0<=L i∧L i<=65535):∀x∈BH L,0<=x∧x<=65535:=by
 have b:kG.Eb.all (fun x=>decide (0<=x)&&decide (x<=65535))=true:=oK;rw[aN] at b;intro x a;unfold BH at a;rw[dt,dt] at a;rcases a with (a|a)|a
 ·have:=b x (List.mem_of_mem_take a);simpa using this
 ·obtain⟨i,hi,rfl⟩:=List.mem_map.1 a;exact h i (List.mem_range.1 hi)
 ·have:=b x (List.mem_of_mem_drop a);simpa using this
theorem Db (L:Nat->Int) (h:∀i,i<32->0<=L i∧L i<=65535):Lv (m0 L):=
 ⟨Ba 1 (zy h) (uc oK) (by show (0:Int)<=0;decide) oK,by show (0:Int)<=1000000;decide⟩
theorem zC (w:World) (hk:KnW w):Calls Tryz.prog 29 #[.string xP] w fun r w'=>∃X tag,r=.returned (.tuple #[.agg (dk X),.agg #[.int .i64 0,.int .i64 (-1)]])∧fK w' tag X sT∧(∀k,k<w.heap.size->tag k=0)∧Below w.heap.size w w':=by
 have:=jA xP _ 24 2 [0] w (ay oK) uI hk;rw[show fE (Prs.fT xP) (wlP 24 2 [0]) (Prs.fT xP).length=sT from zm] at this;exact this
theorem fK.up {w w':World} {tag:Nat->Nat} {X:Nat->Value} {p:PW} (h:fK w tag X p) (b:Below w.heap.size w w'):fK w' (iD tag w.heap.size) X p:=by
 have hk:Kp (fun _=>False) w w':=.Ed b;have a:∀k,k<w.heap.size->iD tag w.heap.size k=tag k:=fun k h=>jg h;exact⟨h.Eb.kp hk a (fun _ _=>id),h.kinds.kp hk a (fun _ _=>id),h.DZ.kp hk a (fun _ _=>id),h.DY.kp hk a (fun _ _=>id),h.lines.kp hk a (fun _ _=>id),h.bits.kp hk a (fun _ _=>id),h.D6.kp hk a (fun _ _=>id),h.ready.kp hk a (fun _ _=>id),h.D9.kp hk a (fun _ _=>id),h.Ee.kp hk a (fun _ _=>id),h.time⟩
