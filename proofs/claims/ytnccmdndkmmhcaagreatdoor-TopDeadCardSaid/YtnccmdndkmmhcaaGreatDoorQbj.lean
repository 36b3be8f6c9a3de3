/- Qbj -/
import Derived.Test.YtnccmdndkmmhcaaGreatDoorQbi
set_option maxRecDepth 100000
set_option maxHeartbeats 16000000
namespace Go.Proofs.YtnccmdndkmmhcaaGreatDoor
namespace Wd
def FC:PW:=wlP 24 2 [0]
def G0:PW:={FC with IA:=FC.IA.set 1 (clk 1 20)}
def G1:PW:=mkP G0 1 (2+((3:Nat):Int)) 1 2
def G3:PW:=mkP G1 1 (2+((2:Nat):Int)) 1 3
def G4:PW:=mkP G3 1 (2+((1:Nat):Int)) 1 4
def G5:PW:=mkP G4 1 (2+((0:Nat):Int)) 4 5
def G8:PW:=mkP G5 1 (2+((4:Nat):Int)) 2 9
def G9:PW:=mkP G8 1 (2+((5:Nat):Int)) 1 11
def Ac:PW:=mkP G9 1 (2+((6:Nat):Int)) 1 12
def t6:PW:={Ac with IA:=Ac.IA.set 16 (kpS (Ac.IA.getD 11 fv) (Bw.bw 6 ((Ac.IA.getD 11 fv) 4).toNat 7:Nat) 5 11)}
def t7:PW:={t6 with IA:=t6.IA.set 17 (kpS (t6.IA.getD 12 fv) (Bw.bw 6 ((t6.IA.getD 12 fv) 4).toNat 7:Nat) 2 12)}
def t8:PW:={t7 with IA:=t7.IA.set 18 (kpS (t7.IA.getD 10 fv) (Bw.bw 6 ((t7.IA.getD 10 fv) 4).toNat 7:Nat) 0 10)}
def t9:PW:={t8 with IA:=t8.IA.set 19 (kpS (t8.IA.getD 7 fv) (Bw.bw 6 ((t8.IA.getD 7 fv) 4).toNat 3:Nat) 0 7)}
def ua:PW:={t9 with IA:=t9.IA.set 20 (kpS (t9.IA.getD 3 fv) (Bw.bw 6 ((t9.IA.getD 3 fv) 4).toNat 7:Nat) 0 3)}
def ub:PW:={ua with IA:=ua.IA.set 21 (kpS (ua.IA.getD 4 fv) (Bw.bw 6 ((ua.IA.getD 4 fv) 4).toNat 7:Nat) 0 4)}
def uc:PW:={ub with IA:=ub.IA.set 22 (kpS (ub.IA.getD 2 fv) (Bw.bw 6 ((ub.IA.getD 2 fv) 4).toNat 7:Nat) 0 2)}
def Ba:PW:={uc with IA:=uc.IA.set 23 (kpS (uc.IA.getD 9 fv) (Bw.bw 6 ((uc.IA.getD 9 fv) 4).toNat 6:Nat) 0 9)}
def xO:PW:={Ba with IE:=Ba.IE.set (2*16+0/16) (32768+((3:Nat):Int))}
def xP:PW:={xO with IE:=xO.IE.set ((xO.IE.getD (2*16+0/16) 0).toNat%1024*16+0%16) (32768+((0:Nat):Int)*16384+((4:Nat):Int))}
def xQ:PW:={xP with IE:=xP.IE.set ((xP.IE.getD (2*16+1/16) 0).toNat%1024*16+1%16) (32768+((0:Nat):Int)*16384+((5:Nat):Int))}
def FD:PW:={xQ with IE:=xQ.IE.set ((xQ.IE.getD (2*16+2/16) 0).toNat%1024*16+2%16) (32768+((1:Nat):Int)*16384+((6:Nat):Int))}
def FE:PW:=eqP FD 8 (fun k=>[0,0,2,(-1),0,1,0].getD k 0)
def FF:PW:=eqP FE 9 (fun k=>[0,1,2,10,1,2,0].getD k 0)
def vI:PW:=FF
theorem CM:Iu=vI:=oK
end Wd
namespace Wd
open Go.RowKit Mem Bw Nums Mmu Hex Mad
def FI (L:Nat->Int):List Int:=(vI.IE.take 64++(List.range 32).map L)++vI.IE.drop 96
def p0 (L:Nat->Int):PW:={vI with IE:=FI L}
def iQ (zs:List (Int×Int×Int×Int)) (i:Nat):Int:=if i%2=0 then q0 (zs.getD (i/2) (0,0,0,0)) else q1 (zs.getD (i/2) (0,0,0,0))
theorem p4 (zs:List (Int×Int×Int×Int)):cdN vI.IE 64 zs 16=FI (iQ zs):=oK
theorem C5 {L:Nat->Int} (h:∀i,i<32->0<=L i∧L i<=65535):∀x∈FI L,0<=x∧x<=65535:=by
 have b:vI.IE.all (fun x=>decide (0<=x)&&decide (x<=65535))=true:=oK;rw[aU] at b;intro x a;unfold FI at a;rw[dH,dH] at a;rcases a with (a|a)|a
 ·have:=b x (List.mem_of_mem_take a);simpa using this
 ·obtain⟨i,hi,rfl⟩:=List.mem_map.1 a;exact h i (List.mem_range.1 hi)
 ·have:=b x (List.mem_of_mem_drop a);simpa using this
theorem nY {zs:List (Int×Int×Int×Int)} (b:zs.length=16) (a:∀q∈zs,np q):∀i,i<32->0<=iQ zs i∧iQ zs i<=65535:=fun i hi=>by
 have hk:i/2<zs.length:=oA;have:=CZ (a zs[i/2] (av hk));unfold iQ;rw[aa,ac hk];simp only[aR];split
 ·exact this.1
 ·exact this.2
theorem Dd (w:World) (hk:KnW w):Calls Tryz.prog 113 #[.string A3] w fun r w'=>∃X tag,r=.returned (.tuple #[.agg (de X),.agg #[.int .i64 0,.int .i64 (-1)]])∧fV w' tag X vI∧(∀k,k<w.heap.size->tag k=0)∧Below w.heap.size w w':=by
 have:=kF A3 _ 24 2 [0] w (aA oK) xR hk;rw[show fZ (Prs.gB A3) (wlP 24 2 [0]) (Prs.gB A3).length=vI from CM] at this;exact this
theorem fV.up {w w':World} {tag:Nat->Nat} {X:Nat->Value} {p:PW} (h:fV w tag X p) (b:Below w.heap.size w w'):fV w' (jb tag w.heap.size) X p:=by
 have hk:Kp (fun _=>False) w w':=.IF b;have a:∀k,k<w.heap.size->jb tag w.heap.size k=tag k:=fun k h=>j5 h;exact⟨h.IE.kp hk a (fun _ _=>id),h.kinds.kp hk a (fun _ _=>id),h.IA.kp hk a (fun _ _=>id),h.IB.kp hk a (fun _ _=>id),h.lines.kp hk a (fun _ _=>id),h.bits.kp hk a (fun _ _=>id),h.IC.kp hk a (fun _ _=>id),h.ready.kp hk a (fun _ _=>id),h.ID.kp hk a (fun _ _=>id),h.IG.kp hk a (fun _ _=>id),h.time⟩
end Wd
namespace Wd
open Go.RowKit Mem Bw Nums Mmu
theorem ri (wb:Nat) (tg:Nat->Nat) (V:Nat->Value) (p:PW) (c:Nat) (W:World) (bt:cb W wb tg V p) (hp:p.Fits) (P:Snd p) (hc:c<p.IC.length) (hz:p.IC.getD c (-1)= -1):
  Calls Tryz.prog 126 #[.pointer (some ⟨wb,0,none⟩),.int .i64 c] W fun r W'=>r=.returned (.tuple #[])∧∃tag',cb W' wb tag' V (rlP p c)∧Kt tg tag' W W':=by
 have cs:(p.IC.length:Int)<=1000:=by have:=hp.IC;omega
 have bX:(c:Int)<(p.IC.length:Int):=oA;have bY:(c:Int)<=1000:=oA;have cv:(p.ready.length:Int)<=1000:=by have:=hp.ready;omega
 obtain⟨q,aD,e6⟩:=bt.o.IC.form oA;have E6:=hid e6;obtain⟨C,eR⟩:=bt.o.ready.form;have H:=hid eR;obtain⟨m,hm⟩:∃m,tnV p=m:=⟨_,rfl⟩
 have br:=hid hm;have aU:=hid (show rlP p c=rnx p m c 4 by unfold rlP;rw[ag hz,hm]);have bc:=hid hz;have a8:=hid hp;have bp:=hid (show c*4+4<=p.ready.length by rw[P.lf.ready];omega);have a7:=hid P.lf.d1;have bq:=hid (show 0<=p.time∧p.time<=1000000 by have h:=P.tm;unfold ek at h;simpa using h);have aJ:=E6;have aS:=hid hc;obtain⟨g3,bT,e3⟩:=bt.o.IB.form (by rw[P.lf.IB];have:=P.lf.k1;omega);have aO:=hid e3;have cp:(p.IB.length:Int)<=1000:=by have:=hp.IB;omega
 have ba:=hid (fun (n:Nat) (J:n<p.ready.length)=>show (p.ready.getD n []).length<=1000 by rw[aa,ac J];exact hp.next _ (av J));have bv:=hid (fun (n:Nat) (J:n<p.ready.length)=>show ∀z∈p.ready.getD n [],0<=z∧z<(p.IB.length:Int) by rw[aa,ac J];exact Dc P _ (av J));have B:=hid bt;have aA:=hid (en tg W);have c6:=bk bt e6;have x6:W.cell? ⟨q,c,none⟩=some (.int .i64 (-1)):=by rw[(bt.IL e6 hc).1,hz]
 go_enter Tryz.func126,Tryz.ntmps126
 go_upto_region 1 with fail
 go_quiet (fail)
 have B3:=hid (B.below (aG (af W.heap.size W) nq));have K3:=hid (aA.trans (.below (aG (af W.heap.size W) nq)));generalize World.drewN _ _=w2 at*;have B:=B3;have aA:=K3;generalize bW:w2=F at*;have ay:=hid (fun Y (h:cb Y wb tg V (p))=>jJ wb tg V (p) Y h a8 a7 bq);rw[br.out] at ay;have c6:=bk B E6;have x6:F.cell? ⟨q,c,none⟩=some (.int .i64 (-1)):=by rw[(B.IL aJ aS).1,bc.out]
 go_wp2_with fail
 go_loopw [5] (fun i wr=>∃(k:Nat) (x:Int),k<=4∧Hid (x=(k:Int) - 1)∧i=.int .i64 x∧Hid (Below F.heap.size F wr∧rnx (p) m c 4=rnx (p) m c k)) (fun i _=>(intOf i+1).toNat)
 case atStart=>exact⟨4,3,oA,hid rfl,rfl,hid ⟨af _ _,rfl⟩⟩
 case round=>
  obtain⟨k,x,hk,HX,rfl,HH⟩:=hrel;have G:=hid HH.1;have HV:=hid HH.2;by_cases h0:0<=x
  ·obtain⟨j,rfl⟩:∃j:Nat,x=j:=⟨x.toNat,oA⟩
   obtain rfl:k=j+1:=by have:=HX.out;omega
   obtain⟨n,J⟩:∃n:Nat,c*4+j=n:=⟨_,rfl⟩
   have cg:(c:Int)*4+(j:Int)=(n:Int):=oA;have aH:n<(p).ready.length:=by have:=bp.out;omega
   have cx:(n:Int)<((p).ready.length:Int):=oA;have aK:=hid aH;have aL:=hid (show rnx (p) m c 4=if 0<=ixP (dmB (p) m) ((p).ready.getD n []) then {p with IC:=(p).IC.set c (((p).ready.getD n []).getD (ixP (dmB (p) m) ((p).ready.getD n [])).toNat 0),ready:=(p).ready.set n (((p).ready.getD n []).take (ixP (dmB (p) m) ((p).ready.getD n [])).toNat++((p).ready.getD n []).drop ((ixP (dmB (p) m) ((p).ready.getD n [])).toNat+1))} else rnx (p) m c j by rw[HV.out, <-J];rfl);have aE:=(B.below G).o.ready;rw[H.out] at aE;obtain⟨u,cu,hu⟩:=aE.at aH;unfold ci at hu;have bu:=hid hu.2;have bK:=dM hu.1;obtain⟨qu,d,g,rfl,bJ⟩:=hu.shape;have bs:=hid bK;have c7:=bk (B.below G) H;have cm:(j:Int)<=3:=oA;have aw:=hid (ba.out n aH);have bb:=hid (bv.out n aH);have HQ:=hid bJ;have aP:=hid (show ((p).ready.getD n []).length<=g by
    rcases hu.1.2 with ⟨N,D⟩|⟨_,_,_,N,_,_,D,_⟩
    ·simp only at D;omega
    ·cases N;exact D)
   generalize ct:(p).ready.getD n []=l at*;have cq:(l.length:Int)<=1000:=by have:=aw.out;omega
   generalize wr=wo at*;go_wp2_with fail
   go_loopw [7] (fun i wr=>∃(i':Nat),i'<=l.length∧i=.int .i64 i'∧Hid (Below wo.heap.size wo wr∧∀j (a:j<l.length),j<i'->dmB (p) m l[j]=false)) (fun i _=>l.length - (intOf i).toNat)
   case atStart=>exact⟨0,oA,rfl,hid ⟨af _ _,fun j _ h=>oA⟩⟩
   case round=>
    obtain⟨i,hi,rfl,HH⟩:=hrel;have U:=hid HH.1;have HN:=hid HH.2;by_cases an:i<l.length
    ·have cw:(i:Int)<(l.length:Int):=oA;have bI:=HQ.out oA;subst bI;have al:=hid ((B.below G).below U);have ad:=hid (show ∀j (a:j<l.length),wr.cell? ⟨d,j,none⟩=some (.int .i64 l[j]) from fun j a=>by
      obtain⟨q2,b2,o2,bR,e2,bH,bO⟩:=bs.below U
      cases e2
      have O:=bH oA
      cases O
      have:=bO j a;rw[aC] at this;exact this)
     have ax:=hid (bb.out _ (av an));have ck:=ad.out i an;obtain⟨y,hy⟩:∃y,l[i]=y:=⟨_,rfl⟩
     rw[hy] at ck ax;have HY:=hid hy;obtain⟨y',bL⟩:∃y':Nat,y=y':=⟨y.toNat,by have:=ax.1;omega⟩
     subst bL;have bM:=ax.2;have c3:=bk al aO;have a4:=al.IH aO (i:=y') oA (show 19<20 by omega);have M:=hid (show dmB (p) m y'=((p).IB.getD y' bl 19==m) by unfold dmB;rw[ah]);generalize (p).IB.getD y' bl 19=z at a4 M;by_cases a3:z=m
     ·subst a3;rw[beq_self_eq_true] at M;have az:=hid (show ixP (dmB (p) z) l=i by
       have N:l.findIdx (dmB (p) z)=i:=by
        rw[List.findIdx_eq an];exact⟨by rw[HY.out];exact M,fun j a=>HN.out j oA a⟩
       unfold ixP;rw[N,ag an])
      have aT:=hid (show rnx (p) z c 4={p with IC:=(p).IC.set c y',ready:=(p).ready.set n (l.take i++l.drop (i+1))} by
       rw[aL.out,az.out,ag oA,ah,aa (l:=l),ac an,aR,HY.out])
      go_upto_region 12 with fail
      go_quiet (first|(go_at_call 177;refine Calls.quiet_of (ay.out _ (al.below (aB wr _)))))
      have BY:=hid (al.below (aG (af wr.heap.size wr) nq));have KY:=hid (show Kt tg tg F (wr.drewN nq) from .below (btr (btr G U) (aG (af wr.heap.size wr) nq)));have aV:(wr.drewN nq).cell? ⟨d,i,none⟩=some (.int .i64 y'):=ck;have aN:=hid (show ∀j (a:j<l.length),(wr.drewN nq).cell? ⟨d,j,none⟩=some (.int .i64 l[j]) from fun j a=>ad.out j a);clear ck c3 a4 ad;have ad:=aN;generalize World.drewN _ _=s at*;have bg:=hid (show d≠q from fun e=>by
       have N:=bu.out d rfl;have D:=B.o.IC;rw[E6.out] at D;have O:=D.2 q rfl;rw[e] at N;omega)
      clear ay aN az aL HN;obtain⟨y,a2⟩:∃y:Int,(y':Int)=y:=⟨_,rfl⟩
      rw[a2] at aV aT;clear a2 HY ax bM M;go_upto_region 13 with fail
      have c6:s.cell? ⟨wb,6,none⟩=some (.slice (some ⟨q,0,none⟩) p.IC.length aD):=by rw[ai BY.r (k:=6) rfl,E6.out]
      have Q:Hid (Below s.heap.size s s.drew):=hid (aB s 1);obtain⟨x6,f6⟩:=(BY.below Q).IL aJ aS;obtain⟨b7,k7⟩:=(BY.below Q).IS aJ c y;have B7:=hid (show cb (s.setCell ⟨q,c,none⟩ (.int .i64 y)).drew wb tg V {p with IC:=(p).IC.set c y} from b7);have K7:=hid (show Kt tg tg F (s.setCell ⟨q,c,none⟩ (.int .i64 y)).drew from (KY.trans (.below Q)).trans k7);have S7:=hid (show (s.setCell ⟨q,c,none⟩ (.int .i64 y)).drew.cell? ⟨wb,6,none⟩=some (.slice (some ⟨q,0,none⟩) p.IC.length aD) by rw[ai B7.r (k:=6) rfl,E6.out]);have C7:=hid (show ∀j (a:j<l.length),(s.setCell ⟨q,c,none⟩ (.int .i64 y)).drew.cell? ⟨d,j,none⟩=some (.int .i64 l[j]) from fun j a=>(World.cell?_setCell_far s ⟨q,c,none⟩ ⟨d,j,none⟩ _ (fun e=>bg.out e.symm)).trans (ad.out j a));clear b7 k7;refine ed (S:=fun X=>X.cell? ⟨wb,6,none⟩=some (.slice (some ⟨q,0,none⟩) p.IC.length aD)) (R:=fun X=>X.cell? ⟨d,i,none⟩=some (.int .i64 y)) [10] oK c6 aV (fun bB bA=>?_);have A:=hid bB;have t:=hid bA;refine tF 0 (.pointer (some ⟨wb,0,none⟩)) rfl A (fun _=>t.out) ?_;simp only[jj];refine tF 1 (.pointer (some ⟨wb,0,none⟩)) rfl A (fun _=>t.out) ?_;simp only[jj];refine tF 2 (.pointer (some ⟨wb,6,none⟩)) rfl A (fun _=>t.out) ?_;simp only[jj];refine tG 3 (.slice (some ⟨q,0,none⟩) p.IC.length aD) rfl A (fun _=>t.out) ?_;simp only[jj];refine tF 4 (.int .i64 c) rfl A (fun _=>t.out) ?_;simp only[jj];refine tF 5 (.slice (some ⟨d,0,none⟩) l.length g) rfl A (fun _=>t.out) ?_;simp only[jj];refine tF 6 (.int .i64 i) rfl A (fun _=>t.out) ?_;simp only[jj];refine tF 7 (.pointer (some ⟨d,i,none⟩)) rfl A (fun _=>t.out) ?_;simp only[jj];refine ez (i:=8) (v:=.int .i64 y) rfl oK oK oK oK oK oK (fun _ _ _ h=>h) (Or.inl ⟨oR,fun W h=>by have O:=h.2;clear h;go_simp⟩) A (fun _=>t.out) ?_;simp only[jj];refine tF 9 (.pointer (some ⟨q,c,none⟩)) rfl A (fun _=>t.out) ?_;simp only[jj];refine r1 10 rfl (fun K E=>?_);go_simp
      refine E _ _ S7 (fx oK) (fun _ _=>?_)
      try simp only[Act.put]
      refine dS oK ?_ _;generalize World.drew (World.setCell _ _ _)=b at*;go_upto_region 14 with fail
      have bQ:=hid H.out;have aE:=B7.o.ready;have aM:fB b tg 9 13 22 3 1 (p).ready.length (.slice (some ⟨C,0,none⟩) (p).ready.length (p).ready.length) (ci (p).ready):=by rw[<-H.out];exact aE
      have a6:=hid (fun X (h:Below b.heap.size b X)=>(aM.kp (T:=fun _=>False) (.IF h) (fun _ _=>rfl) (fun _ _ e=>e)).fr n);have KS:=hid (fun X (h:Below b.heap.size b X)=>show X.cell? ⟨wb,7,none⟩=some (.slice (some ⟨C,0,none⟩) (p).ready.length (p).ready.length) by rw[ai (B7.below h).r (k:=7) rfl,H.out]);obtain⟨u1,aW, -⟩:=aM.at aK.out;have KR:=hid (fun X (h:Below b.heap.size b X)=>(h.cell (aj _ _ aW)).trans aW);have a5:=hid (fun X v (zz:List Int) (h:Below b.heap.size b X) (L:X.ownsRow b.heap.size 3 1 v zz.length (d6 zz))=>show cb (X.setCell ⟨C,n,none⟩ v) wb (gy tg b.heap.size (13+3*n)) V {p with IC:=(p).IC.set c y,ready:=(p).ready.set n zz}∧Kt tg (gy tg b.heap.size (13+3*n)) F (X.setCell ⟨C,n,none⟩ v) from by
       obtain⟨bG,aZ⟩:=aM.put (tag':=gy tg b.heap.size (13+3*n)) (w1:=X) (u:=v) (c:=(zz.length,d6 zz)) (j:=n) aK (fun j=>oA) (.IF h) (fun k hk=>dB hk) ⟨L.mono (bN _),fun k e=>by
        unfold gy;rw[ae (by have:=(L.lt k e).1;omega)]⟩
       refine⟨B7.ready aZ (fun k hk=>dB hk) ?_,K7.trans (Kt.of (tag':=gy tg b.heap.size (13+3*n)) aZ (fun k e=>by rcases e with e|⟨j,e⟩<;>omega) (fun k hk=>dB hk))⟩;rw[au,H.out,jM _ _ aK];exact bG)
      obtain⟨q1,a0⟩:∃q1,(if g=i+1 then (some ⟨d,0,none⟩:Option Addr) else some ⟨d,i+1,none⟩)=q1:=⟨_,rfl⟩
      have Q:=hid (aB b 1);have bZ:¬(g<i):=by have:=aP.out;omega
      have cc:¬((l.length:Int)<(i:Int)+1):=oA;have cd:(0:Int)<=(i:Int)+1:=oA;have cy:((i:Int)+1).toNat=i+1:=oA;refine wp_region_held_drew (S:=fun X=>X.cell? ⟨wb,7,none⟩=some (.slice (some ⟨C,0,none⟩) (p).ready.length (p).ready.length)) oK (KS.out _ Q) (fun bz=>?_);have f:=hid bz;refine tk 0 (.pointer (some ⟨wb,0,none⟩)) rfl f ?_;simp only[jj];refine tk 1 (.pointer (some ⟨wb,0,none⟩)) rfl f ?_;simp only[jj];refine tk 2 (.pointer (some ⟨wb,7,none⟩)) rfl f ?_;simp only[jj];refine eE 3 (.slice (some ⟨C,0,none⟩) (p).ready.length (p).ready.length) rfl (Or.inl ⟨oR,fun W h=>by have O:=h;clear h;go_simp⟩) f ?_;simp only[jj];refine tk 4 (.int .i64 c) rfl f ?_;simp only[jj];refine eE 5 (.int .i64 (c*4)) rfl (Or.inl ⟨oR,fun W h=>by clear h;go_simp;exact bS _ oA oA⟩) f ?_;simp only[jj];refine tk 6 (.int .i64 j) rfl f ?_;simp only[jj];refine eE 7 (.int .i64 n) rfl (Or.inl ⟨oR,fun W h=>by clear h;go_simp;exact bS _ oA oA⟩) f ?_;simp only[jj];refine tk 9 (.slice (some ⟨d,0,none⟩) l.length g) rfl f ?_;simp only[jj];refine tk 10 (.int .i64 i) rfl f ?_;simp only[jj];refine tk 11 (.slice (some ⟨d,0,none⟩) i g) rfl f ?_;simp only[jj];refine tk 13 (.slice (some ⟨d,0,none⟩) l.length g) rfl f ?_;simp only[jj];refine tk 14 (.int .i64 i) rfl f ?_;simp only[jj];refine eE 15 (.int .i64 ((i:Int)+1)) rfl (Or.inl ⟨oR,fun W h=>by clear h;go_simp;exact bS _ oA oA⟩) f ?_;simp only[jj];refine tk 16 (.slice q1 (l.length - (i+1)) (g - (i+1))) rfl f ?_;simp only[jj];have I:=hid (show (l.take i).length=i by rw[bD];omega);have am:=hid (show (l.drop (i+1)).length=l.length - (i+1) by rw[eJ]);obtain⟨o1,bF,bC⟩:∃o1,q1=some ⟨d,o1,none⟩∧∀j (a:j<(l.drop (i+1)).length),b.cell? ⟨d,o1+j,none⟩=some (.int .i64 (l.drop (i+1))[j]):=by
       by_cases aY:g=i+1
       ·exact⟨0,by rw[<-a0,ag aY],fun j a=>by have:=aP.out;rw[am.out] at a;omega⟩
       ·exact⟨i+1,by rw[<-a0,ae aY],fun j a=>by
         rw[List.getElem_drop];exact C7 (i+1+j) (by rw[am.out] at a;omega)⟩
      have aQ:=hid bC;have a9:=hid (show ei b (.slice (some ⟨d,0,none⟩) i g) (l.take i) from⟨some ⟨d,0,none⟩,d,0,g,by rw[I.out],fun _=>rfl,fun j a=>by
       rw[List.getElem_take,aC];exact C7 j (by rw[I.out] at a;omega)⟩)
      subst bF;have E8:=hid (show (b.alloc (.cells #[] 3)).drew.ownsRow b.heap.size 3 1 (.slice (some ⟨b.heap.size,0,none⟩) 0 0) 0 [] from (dt b #[] 0 (aq _) (bN _) oS));have ao:=hid ((bal (af _ b) (.cells #[] 3)).drew);refine wpAnyH_ready (rs:=[8]) oK oS (AllReadyH.cons rfl (fun K E=>?_) AllReadyH.nil);go_simp
      refine E _ _ (KS.out _ ao) (fun _=>?_)
      try simp only[Act.put,jD,jE,jF]
      generalize World.drew (World.alloc _ _)=X5 at*;obtain⟨q2,c2,Z,hr,L,hb, -⟩:=gY E8 ao.size (a9.below ao) (by rw[I.out];have:=aw.out;omega);have bh:=hid L;rw[I.out] at hr;have bn:=hid hr;have ap:=hid (ao.trans hb);refine wpAnyH_ready (rs:=[12]) oK oS (AllReadyH.cons rfl (fun K E=>?_) AllReadyH.nil);refine fO _ _ 22 rfl (.slice (some ⟨b.heap.size,0,none⟩) 0 0) (.slice (some ⟨d,0,none⟩) i g) (.slice q2 i c2) rfl rfl bn ?_;refine E _ _ (KS.out _ ap) (fun _=>?_);simp only[jj];obtain⟨q3,c3,Z2,hr,L,hb⟩:=tj (c:=g - (i+1)) bh ap.size (by rw[I.out];have:=aw.out;omega) (ys:=l.drop (i+1)) (by rw[am.out];have:=aw.out;omega) (fun j a=>(ap.cell (aj _ _ (aQ.out j a))).trans (aQ.out j a));rw[I.out,am.out] at hr;have bo:=hid hr;rw[I.out,am.out] at L;have bj:=hid L;have ab:=hid (ap.trans hb);refine wpAnyH_ready (rs:=[17]) oK oS (AllReadyH.cons rfl (fun K E=>?_) AllReadyH.nil);refine fO _ _ 22 rfl (.slice q2 i c2) (.slice (some ⟨d,o1,none⟩) (l.length - (i+1)) (g - (i+1))) (.slice q3 (i+(l.length - (i+1))) c3) rfl rfl bo ?_;refine E _ _ (KS.out _ ab) (fun _=>?_);simp only[jj];refine tk 18 (.pointer (some ⟨C,n,none⟩)) rfl (KS.out _ ab) ?_;simp only[jj];have bU:=KR.out _ ab;have bV:=a6.out _ ab;obtain⟨aX,bE⟩:=a5.out Z2 _ _ ab bj;have B9:=hid aX;have K9:=hid bE;have S9:=hid (show (Z2.setCell ⟨C,n,none⟩ (.slice q3 (i+(l.length - (i+1))) c3)).cell? ⟨wb,7,none⟩=some (.slice (some ⟨C,0,none⟩) (p).ready.length (p).ready.length) by rw[ai aX.r (k:=7) rfl,H.out]);refine wpAnyH_ready (rs:=[19]) oK oS (AllReadyH.cons rfl (fun K E=>?_) AllReadyH.nil);go_simp
      refine E _ _ S9 (fun _=>?_)
      try simp only[Act.put]
      refine dc oK ?_ _;generalize World.setCell _ _ _=Z9 at*;go_wp2_with fail
      exact ar (aF rfl _ _ _) rfl ⟨rfl,_,by rw[aU.out,aT.out];exact B9,aA.trans K9⟩
     ·have bP:(z==m)=false:=by simpa using a3
      rw[bP] at M;go_upto_region 12 with fail
      go_quiet (first|(go_at_call 177;refine Calls.quiet_of (ay.out _ (al.below (aB wr _)))))
      have bf:=hid (show Below wo.heap.size wo (wr.drewN nq)∧∀j (a:j<l.length),j<i+1->dmB (p) m l[j]=false from⟨btr U (aG (af wr.heap.size wr) nq),fun j a h=>by
       by_cases e:j=i
       ·subst e;rw[HY.out];exact M
       ·exact HN j a oA⟩)
      generalize World.drewN _ _=s at*;go_wp2_with fail
      exact⟨⟨i+1,oA,by go_num,bf⟩,by simp[intOf];omega⟩
    ·obtain rfl:i=l.length:=oA;have cj:¬((l.length:Int)<(l.length:Int)):=oA;have az:=hid (show ixP (dmB (p) m) l= -1 by
      unfold ixP;rw[ae];intro h;have D:=eC (w:=h);have O:=HN.out _ h h;rw[O] at D
      cases D)
     have HR:=hid (show Below F.heap.size F wr∧rnx (p) m c 4=rnx (p) m c j from⟨btr G U,by rw[aL.out,ae (by rw[az.out];decide)]⟩);go_wp2_with fail
     exact⟨⟨j,(j:Int) - 1,oA,hid rfl,by go_num,HR⟩,by simp[intOf]⟩
  ·have cz:=h0;obtain rfl:k=0:=by have:=HX.out;omega
   have HR:=hid (show rnx (p) m c 4=p by rw[HV.out];rfl);go_wp2_with fail
   exact aI (aF rfl _ _ _) rfl ⟨rfl,tg,by rw[aU.out,HR.out];exact B.below G,aA.trans (.below G)⟩
theorem rj (wb:Nat) (tag:Nat->Nat) (V:Nat->Value) (p:PW) (c t:Nat) (W:World) (bt:cb W wb tag V p) (d:p.Fits) (e:Snd p) (n:c<p.IC.length) (z:t<p.kinds.length) (f:p.IC.getD c (-1)=t) (a:dmB p (tnV p) t=true):
  Calls Tryz.prog 126 #[.pointer (some ⟨wb,0,none⟩),.int .i64 c] W fun r W'=>r=.returned (.tuple #[])∧∃tag',cb W' wb tag' V (rlP p c)∧Kt tag tag' W W':=by
 have K:(p.IC.length:Int)<=1000:=by have:=d.IC;omega
 have H:(c:Int)<(p.IC.length:Int):=oA;have I:(c:Int)<=1000:=oA;obtain⟨l,F,e6⟩:=bt.o.IC.form oA;have i:=hid e6;obtain⟨m,q⟩:∃m,tnV p=m:=⟨_,rfl⟩
 have A:t<p.IB.length:=by rw[e.lf.IB];exact z
 have M:(t:Int)<(p.IB.length:Int):=oA;have J:(p.IB.length:Int)<=1000:=by have:=d.IB;omega
 obtain⟨G,E,k⟩:=bt.o.IB.form oA;have v:=hid (show 0<=p.time∧p.time<=1000000 by have h:=e.tm;unfold ek at h;simpa using h);have j:=hid (fun Y (h:cb Y wb tag V p)=>jJ wb tag V p Y h d e.lf.d1 v);rw[q] at j;have c6:=bk bt e6;have C:W.cell? ⟨l,c,none⟩=some (.int .i64 t):=by rw[(bt.IL e6 n).1,f]
 have D:=bk bt k;have B:=bt.IH k A (show 19<20 by omega);have L:(0:Int)<=(t:Int):=oA;have g:=hid bt;have u:=hid (show rlP p c=p by unfold rlP;rw[f,ae oA,a,ag rfl]);rw[q] at a;unfold dmB at a;rw[ah] at a;have y:=eq_of_beq a;rw[y] at B;have s:=hid n;have w:=hid f;go_enter Tryz.func126,Tryz.ntmps126
 go_upto_region 1 with fail
 go_quiet (first|(go_at_call 177;refine Calls.quiet_of (j.out _ (g.below (aB W _)))))
 have b:=hid (g.below (aG (af W.heap.size W) nq));have x:=hid (show Kt tag tag W (W.drewN nq) from .below (aG (af W.heap.size W) nq));generalize World.drewN _ _=w1 at*;have c6:=bk b i;have C:w1.cell? ⟨l,c,none⟩=some (.int .i64 t):=by rw[(b.IL i s).1,w.out]
 go_wp2_with fail
 exact ar (aF rfl _ _ _) rfl ⟨rfl,tag,by rw[u.out];exact b,x.out⟩
theorem sN (wb:Nat) (tag:Nat->Nat) (V:Nat->Value) (p:PW) (c t:Nat) (W:World) (bt:cb W wb tag V p) (A:p.Fits) (J:∀l∈p.ready,l.length<=50) (M:Snd p) (hc:c<p.IC.length) (ht:t<p.kinds.length) (hk:p.kinds[t]=6) (hz:p.IC.getD c (-1)=t) (al:dmB p (tnV p) t=false):
  Calls Tryz.prog 126 #[.pointer (some ⟨wb,0,none⟩),.int .i64 c] W fun r W'=>r=.returned (.tuple #[])∧∃tag',cb W' wb tag' V (rlP p c)∧Kt tag tag' W W':=by
 have cH:(p.IC.length:Int)<=1000:=by have:=A.IC;omega
 have cw:(c:Int)<(p.IC.length:Int):=oA;have cx:(c:Int)<=1000:=oA;obtain⟨g,ay,e6⟩:=bt.o.IC.form oA;have P:=hid e6;obtain⟨m,hm⟩:∃m,tnV p=m:=⟨_,rfl⟩
 have bg:t<p.IB.length:=by rw[M.lf.IB];exact ht
 have cN:(t:Int)<(p.IB.length:Int):=oA;have cE:(p.IB.length:Int)<=1000:=by have:=A.IB;omega
 obtain⟨g3,a6,e3⟩:=bt.o.IB.form oA;have aK:=hid (show 0<=p.time∧p.time<=1000000 by have h:=M.tm;unfold ek at h;simpa using h);have ab:=hid (fun Y (h:cb Y wb tag V p)=>jJ wb tag V p Y h A M.lf.d1 aK);rw[hm] at ab;have c6:=bk bt e6;have x6:W.cell? ⟨g,c,none⟩=some (.int .i64 t):=by rw[(bt.IL e6 hc).1,hz]
 have c3:=bk bt e3;have aO:=bt.IH e3 bg (show 19<20 by omega);have cM:(0:Int)<=(t:Int):=oA;have B0:=hid bt;obtain⟨r1,r2,r3,r4⟩:=mS M ht hk;obtain⟨q,E⟩:∃q,wnP {p with IC:=p.IC.set c (-1)} t (rdN p t)=q:=⟨_,rfl⟩
 have a2:=hid (show rlP p c=rnx q m c 4 by unfold rlP;rw[hz,ae oA,al,ae oD,ah,hm,E]);rw[hm] at al;unfold dmB at al;rw[ah] at al;have bR:¬(p.IB.getD t bl 19=m):=by simpa using al
 generalize p.IB.getD t bl 19=z at aO bR al;have bp:=hid hc;have bb:({p with IC:=p.IC.set c (-1)}:PW).Fits:=⟨A.IE,A.kinds,A.IA,A.IB,A.lines,A.line,A.bits,by show (p.IC.set c (-1)).length<=1000;rw[au];exact A.IC,A.ready,A.next,A.ID,A.IG⟩;have a4:=hid (fun X (h:cb X wb tag V {p with IC:=p.IC.set c (-1)})=>gP wb tag V {p with IC:=p.IC.set c (-1)} t (rdN p t) X h bb bg r1 r3 r4 r2);rw[E] at a4;have a3:=hid (show q.IB.length=p.IB.length by rw[<-E];show ((({p with IC:=p.IC.set c (-1)}:PW).task t 9 1).task t 14 (-1)).IB.length=_;rw[ap,ap]);have aY:=hid (show q.ready.length=p.ready.length by rw[<-E];show (p.ready.set _ _).length=_;rw[au]);have aw:=hid (show q.IC.length=p.IC.length by rw[<-E];show (p.IC.set _ _).length=_;rw[au]);have bI:=hid (show tnV q=m by rw[<-E];exact hm);have bv:=hid (show q.IC.getD c (-1)= -1 by rw[<-E];show (p.IC.set c (-1)).getD c (-1)= -1;rw[aa,cP hc];rfl);have aE:=hid (show q.Fits by rw[<-E];exact AJ bb J t (rdN p t));have bH:=hid (show c*4+4<=q.ready.length by rw[aY.out,M.lf.ready];omega);have bq:=hid (show 1<=q.IG.length by rw[<-E];exact M.lf.d1);have aK:=hid (show 0<=q.time∧q.time<=1000000 by rw[<-E];exact aK);have aP:=hid (show V 6=.slice (some ⟨g,0,none⟩) q.IC.length ay by rw[aw.out];exact e6);have aX:=hid (show c<q.IC.length by rw[aw.out];exact hc);obtain⟨F,eR⟩:=bt.o.ready.form;have Q:=hid (show V 7=.slice (some ⟨F,0,none⟩) q.ready.length q.ready.length by rw[aY.out];exact eR);have cJ:(q.ready.length:Int)<=1000:=by have:=aE.ready;omega
 have cF:(q.IB.length:Int)<=1000:=by have:=aE.IB;omega
 have aV:=hid (show V 3=.slice (some ⟨g3,0,none⟩) q.IB.length a6 by rw[a3.out];exact e3);have bs:=hid (fun (n:Nat) (J:n<q.ready.length)=>show (q.ready.getD n []).length<=1000 by rw[aa,ac J];exact aE.next _ (av J));have bG:=hid (show ∀l∈q.ready,∀z∈l,0<=z∧z<(q.IB.length:Int) by
  rw[a3.out, <-E];intro l hl z D;have bU:=hl;rcases aZ bU with f|rfl
  ·exact Dc M l f z D
  ·rcases dH.1 D with f|f
   ·rw[aa] at f
    cases e:p.ready[rdN p t]? with
    |none=>rw[e] at f;cases f
    |some y=>
     rw[e,aR] at f;exact Dc M y (dZ e) z f
   ·rw[dm] at f;omega)
 have bL:=hid (fun (n:Nat) (J:n<q.ready.length)=>show ∀z∈q.ready.getD n [],0<=z∧z<(q.IB.length:Int) by rw[aa,ac J];exact bG _ (av J));go_enter Tryz.func126,Tryz.ntmps126
 go_upto_region 1 with fail
 go_quiet (first|(go_at_call 177;refine Calls.quiet_of (ab.out _ (B0.below (aB W _)))))
 have B1:=hid (B0.below (aG (af W.heap.size W) nq));have K1:=hid (show Kt tag tag W (W.drewN nq) from .below (aG (af W.heap.size W) nq));generalize World.drewN _ _=w1 at*;have c6:=bk B1 P;obtain⟨x6,f6⟩:=B1.IL P bp;obtain⟨b2,k2⟩:=B1.IS P c (-1);have B5:=hid b2;have K5:=hid (K1.trans k2);go_upto_region 3 with fail
 generalize World.setCell _ _ _=w2 at*;go_wp2_with fail
 refine (a4.out _ B5).mono ?_;rintro r w3 ⟨rfl,tg,D,f⟩;have N:=hid D;have a5:=hid (K5.trans f);generalize cv:w3=L at*;have ab:=hid (fun Y (h:cb Y wb tg V (q))=>jJ wb tg V (q) Y h aE bq aK);rw[bI.out] at ab;have c6:=bk N P;have x6:L.cell? ⟨g,c,none⟩=some (.int .i64 (-1)):=by rw[(N.IL aP aX).1,bv.out]
 go_wp2_with fail
 go_loopw [5] (fun i wr=>∃(k:Nat) (x:Int),k<=4∧Hid (x=(k:Int) - 1)∧i=.int .i64 x∧Hid (Below L.heap.size L wr∧rnx (q) m c 4=rnx (q) m c k)) (fun i _=>(intOf i+1).toNat)
 case atStart=>exact⟨4,3,oA,hid rfl,rfl,hid ⟨af _ _,rfl⟩⟩
 case round=>
  obtain⟨k,x,hk,HX,rfl,HH⟩:=hrel;have O:=hid HH.1;have HV:=hid HH.2;by_cases h0:0<=x
  ·obtain⟨j,rfl⟩:∃j:Nat,x=j:=⟨x.toNat,oA⟩
   obtain rfl:k=j+1:=by have:=HX.out;omega
   obtain⟨n,J⟩:∃n:Nat,c*4+j=n:=⟨_,rfl⟩
   have cB:(c:Int)*4+(j:Int)=(n:Int):=oA;have aN:n<(q).ready.length:=by have:=bH.out;omega
   have cL:(n:Int)<((q).ready.length:Int):=oA;have aQ:=hid aN;have aS:=hid (show rnx (q) m c 4=if 0<=ixP (dmB (q) m) ((q).ready.getD n []) then {q with IC:=(q).IC.set c (((q).ready.getD n []).getD (ixP (dmB (q) m) ((q).ready.getD n [])).toNat 0),ready:=(q).ready.set n (((q).ready.getD n []).take (ixP (dmB (q) m) ((q).ready.getD n [])).toNat++((q).ready.getD n []).drop ((ixP (dmB (q) m) ((q).ready.getD n [])).toNat+1))} else rnx (q) m c j by rw[HV.out, <-J];rfl);have aM:=(N.below O).o.ready;rw[Q.out] at aM;obtain⟨u,cu,hu⟩:=aM.at aN;unfold ci at hu;have bK:=hid hu.2;have cc:=dM hu.1;obtain⟨qu,d,B,rfl,bZ⟩:=hu.shape;have bJ:=hid cc;have c7:=bk (N.below O) Q;have cD:(j:Int)<=3:=oA;have aH:=hid (bs.out n aN);have bu:=hid (bL.out n aN);have HQ:=hid bZ;have aW:=hid (show ((q).ready.getD n []).length<=B by
    rcases hu.1.2 with ⟨D,f⟩|⟨_,_,_,D,_,_,f,_⟩
    ·simp only at f;omega
    ·cases D;exact f)
   generalize cI:(q).ready.getD n []=l at*;have cG:(l.length:Int)<=1000:=by have:=aH.out;omega
   generalize wr=wo at*;go_wp2_with fail
   go_loopw [7] (fun i wr=>∃(i':Nat),i'<=l.length∧i=.int .i64 i'∧Hid (Below wo.heap.size wo wr∧∀j (a:j<l.length),j<i'->dmB (q) m l[j]=false)) (fun i _=>l.length - (intOf i).toNat)
   case atStart=>exact⟨0,oA,rfl,hid ⟨af _ _,fun j _ h=>oA⟩⟩
   case round=>
    obtain⟨i,hi,rfl,HH⟩:=hrel;have BI:=hid HH.1;have HN:=hid HH.2;by_cases az:i<l.length
    ·have cK:(i:Int)<(l.length:Int):=oA;have bY:=HQ.out oA;subst bY;have ao:=hid ((N.below O).below BI);have an:=hid (show ∀j (a:j<l.length),wr.cell? ⟨d,j,none⟩=some (.int .i64 l[j]) from fun j a=>by
      obtain⟨q2,b2,o2,cq,e2,bX,cj⟩:=bJ.below BI
      cases e2
      have h3:=bX oA
      cases h3
      have:=cj j a;rw[aC] at this;exact this)
     have aJ:=hid (bu.out _ (av az));have ck:=an.out i az;obtain⟨y,hy⟩:∃y,l[i]=y:=⟨_,rfl⟩
     rw[hy] at ck aJ;have HY:=hid hy;clear hy;obtain⟨y',cd⟩:∃y':Nat,y=y':=⟨y.toNat,by have:=aJ.1;omega⟩
     subst cd;have cg:(y':Int)<((q).IB.length:Int):=aJ.2;have c3:wr.cell? ⟨wb,3,none⟩=some (.slice (some ⟨g3,0,none⟩) (q).IB.length a6):=by rw[ai ao.r (k:=3) rfl,aV.out]
     have aO:=ao.IH aV (i:=y') oA (show 19<20 by omega);have ad:=hid (show dmB (q) m y'=((q).IB.getD y' bl 19==m) by unfold dmB;rw[ah]);generalize (q).IB.getD y' bl 19=z at aO ad;by_cases bj:z=m
     ·subst bj;rw[beq_self_eq_true] at ad;have aL:=hid (show ixP (dmB (q) z) l=i by
       have D:l.findIdx (dmB (q) z)=i:=by
        rw[List.findIdx_eq az];exact⟨by rw[HY.out];exact ad,fun j a=>HN.out j oA a⟩
       unfold ixP;rw[D,ag az])
      have a0:=hid (show rnx (q) z c 4={q with IC:=(q).IC.set c y',ready:=(q).ready.set n (l.take i++l.drop (i+1))} by
       rw[aS.out,aL.out,ag oA,ah,aa (l:=l),ac az,aR,HY.out])
      go_upto_region 12 with fail
      go_quiet (first|(go_at_call 177;refine Calls.quiet_of (ab.out _ (ao.below (aB wr _)))))
      have BY:=hid (ao.below (aG (af wr.heap.size wr) nq));have KY:=hid (show Kt tg tg L (wr.drewN nq) from .below (btr (btr O BI) (aG (af wr.heap.size wr) nq)));have a7:(wr.drewN nq).cell? ⟨d,i,none⟩=some (.int .i64 y'):=ck;have aU:=hid (show ∀j (a:j<l.length),(wr.drewN nq).cell? ⟨d,j,none⟩=some (.int .i64 l[j]) from fun j a=>an.out j a);clear ck c3 aO an;have an:=aU;generalize World.drewN _ _=C at*;have bA:=hid (show d≠g from fun e=>by
       have D:=bK.out d rfl;have f:=N.o.IC;rw[P.out] at f;have h3:=f.2 g rfl;rw[e] at D;omega)
      clear ab aU aL aS HN;obtain⟨y,bh⟩:∃y:Int,(y':Int)=y:=⟨_,rfl⟩
      rw[bh] at a7 a0;clear bh HY aJ cg ad;go_upto_region 13 with fail
      have c6:C.cell? ⟨wb,6,none⟩=some (.slice (some ⟨g,0,none⟩) p.IC.length ay):=by rw[ai BY.r (k:=6) rfl,P.out]
      have BD:Hid (Below C.heap.size C C.drew):=hid (aB C 1);obtain⟨x6,f6⟩:=(BY.below BD).IL aP aX;obtain⟨b7,k7⟩:=(BY.below BD).IS aP c y;have B7:=hid (show cb (C.setCell ⟨g,c,none⟩ (.int .i64 y)).drew wb tg V {q with IC:=(q).IC.set c y} from b7);have K7:=hid (show Kt tg tg L (C.setCell ⟨g,c,none⟩ (.int .i64 y)).drew from (KY.trans (.below BD)).trans k7);have S7:=hid (show (C.setCell ⟨g,c,none⟩ (.int .i64 y)).drew.cell? ⟨wb,6,none⟩=some (.slice (some ⟨g,0,none⟩) p.IC.length ay) by rw[ai B7.r (k:=6) rfl,P.out]);have C7:=hid (show ∀j (a:j<l.length),(C.setCell ⟨g,c,none⟩ (.int .i64 y)).drew.cell? ⟨d,j,none⟩=some (.int .i64 l[j]) from fun j a=>(World.cell?_setCell_far C ⟨g,c,none⟩ ⟨d,j,none⟩ _ (fun e=>bA.out e.symm)).trans (an.out j a));clear b7 k7;refine ed (S:=fun X=>X.cell? ⟨wb,6,none⟩=some (.slice (some ⟨g,0,none⟩) p.IC.length ay)) (R:=fun X=>X.cell? ⟨d,i,none⟩=some (.int .i64 y)) [10] oK c6 a7 (fun bP bO=>?_);have H:=hid bP;have G:=hid bO;refine tF 0 (.pointer (some ⟨wb,0,none⟩)) rfl H (fun _=>G.out) ?_;simp only[jj];refine tF 1 (.pointer (some ⟨wb,0,none⟩)) rfl H (fun _=>G.out) ?_;simp only[jj];refine tF 2 (.pointer (some ⟨wb,6,none⟩)) rfl H (fun _=>G.out) ?_;simp only[jj];refine tG 3 (.slice (some ⟨g,0,none⟩) p.IC.length ay) rfl H (fun _=>G.out) ?_;simp only[jj];refine tF 4 (.int .i64 c) rfl H (fun _=>G.out) ?_;simp only[jj];refine tF 5 (.slice (some ⟨d,0,none⟩) l.length B) rfl H (fun _=>G.out) ?_;simp only[jj];refine tF 6 (.int .i64 i) rfl H (fun _=>G.out) ?_;simp only[jj];refine tF 7 (.pointer (some ⟨d,i,none⟩)) rfl H (fun _=>G.out) ?_;simp only[jj];refine ez (i:=8) (v:=.int .i64 y) rfl oK oK oK oK oK oK (fun _ _ _ h=>h) (Or.inl ⟨oR,fun W h=>by have h3:=h.2;clear h;go_simp⟩) H (fun _=>G.out) ?_;simp only[jj];refine tF 9 (.pointer (some ⟨g,c,none⟩)) rfl H (fun _=>G.out) ?_;simp only[jj];refine Wd.r1 10 rfl (fun K I=>?_);go_simp
      refine I _ _ S7 (fx oK) (fun _ _=>?_)
      try simp only[Act.put]
      refine dS oK ?_ _;generalize World.drew (World.setCell _ _ _)=b at*;go_upto_region 14 with fail
      have cp:=hid Q.out;have aM:=B7.o.ready;have aT:fB b tg 9 13 22 3 1 (q).ready.length (.slice (some ⟨F,0,none⟩) (q).ready.length (q).ready.length) (ci (q).ready):=by rw[<-Q.out];exact aM
      have bo:=hid (fun X (h:Below b.heap.size b X)=>(aT.kp (T:=fun _=>False) (.IF h) (fun _ _=>rfl) (fun _ _ e=>e)).fr n);have KS:=hid (fun X (h:Below b.heap.size b X)=>show X.cell? ⟨wb,7,none⟩=some (.slice (some ⟨F,0,none⟩) (q).ready.length (q).ready.length) by rw[ai (B7.below h).r (k:=7) rfl,Q.out]);obtain⟨u1,a8, -⟩:=aT.at aQ.out;have KR:=hid (fun X (h:Below b.heap.size b X)=>(h.cell (aj _ _ a8)).trans a8);have bn:=hid (fun X v (zz:List Int) (h:Below b.heap.size b X) (ho:X.ownsRow b.heap.size 3 1 v zz.length (d6 zz))=>show cb (X.setCell ⟨F,n,none⟩ v) wb (gy tg b.heap.size (13+3*n)) V {q with IC:=(q).IC.set c y,ready:=(q).ready.set n zz}∧Kt tg (gy tg b.heap.size (13+3*n)) L (X.setCell ⟨F,n,none⟩ v) from by
       obtain⟨bW,bc⟩:=aT.put (tag':=gy tg b.heap.size (13+3*n)) (w1:=X) (u:=v) (c:=(zz.length,d6 zz)) (j:=n) aQ (fun j=>oA) (.IF h) (fun k hk=>dB hk) ⟨ho.mono (bN _),fun k e=>by
        unfold gy;rw[ae (by have:=(ho.lt k e).1;omega)]⟩
       refine⟨B7.ready bc (fun k hk=>dB hk) ?_,K7.trans (Kt.of (tag':=gy tg b.heap.size (13+3*n)) bc (fun k e=>by rcases e with e|⟨j,e⟩<;>omega) (fun k hk=>dB hk))⟩;rw[au,Q.out,jM _ _ aQ];exact bW)
      obtain⟨q1,bf⟩:∃q1,(if B=i+1 then (some ⟨d,0,none⟩:Option Addr) else some ⟨d,i+1,none⟩)=q1:=⟨_,rfl⟩
      have BD:=hid (aB b 1);have cy:¬(B<i):=by have:=aW.out;omega
      have cz:¬((l.length:Int)<(i:Int)+1):=oA;have cA:(0:Int)<=(i:Int)+1:=oA;have cO:((i:Int)+1).toNat=i+1:=oA;refine wp_region_held_drew (S:=fun X=>X.cell? ⟨wb,7,none⟩=some (.slice (some ⟨F,0,none⟩) (q).ready.length (q).ready.length)) oK (KS.out _ BD) (fun bM=>?_);have s:=hid bM;refine tk 0 (.pointer (some ⟨wb,0,none⟩)) rfl s ?_;simp only[jj];refine tk 1 (.pointer (some ⟨wb,0,none⟩)) rfl s ?_;simp only[jj];refine tk 2 (.pointer (some ⟨wb,7,none⟩)) rfl s ?_;simp only[jj];refine eE 3 (.slice (some ⟨F,0,none⟩) (q).ready.length (q).ready.length) rfl (Or.inl ⟨oR,fun W h=>by have h3:=h;clear h;go_simp⟩) s ?_;simp only[jj];refine tk 4 (.int .i64 c) rfl s ?_;simp only[jj];refine eE 5 (.int .i64 (c*4)) rfl (Or.inl ⟨oR,fun W h=>by clear h;go_simp;exact bS _ oA oA⟩) s ?_;simp only[jj];refine tk 6 (.int .i64 j) rfl s ?_;simp only[jj];refine eE 7 (.int .i64 n) rfl (Or.inl ⟨oR,fun W h=>by clear h;go_simp;exact bS _ oA oA⟩) s ?_;simp only[jj];refine tk 9 (.slice (some ⟨d,0,none⟩) l.length B) rfl s ?_;simp only[jj];refine tk 10 (.int .i64 i) rfl s ?_;simp only[jj];refine tk 11 (.slice (some ⟨d,0,none⟩) i B) rfl s ?_;simp only[jj];refine tk 13 (.slice (some ⟨d,0,none⟩) l.length B) rfl s ?_;simp only[jj];refine tk 14 (.int .i64 i) rfl s ?_;simp only[jj];refine eE 15 (.int .i64 ((i:Int)+1)) rfl (Or.inl ⟨oR,fun W h=>by clear h;go_simp;exact bS _ oA oA⟩) s ?_;simp only[jj];refine tk 16 (.slice q1 (l.length - (i+1)) (B - (i+1))) rfl s ?_;simp only[jj];have U:=hid (show (l.take i).length=i by rw[bD];omega);have ax:=hid (show (l.drop (i+1)).length=l.length - (i+1) by rw[eJ]);obtain⟨o1,bV,bQ⟩:∃o1,q1=some ⟨d,o1,none⟩∧∀j (a:j<(l.drop (i+1)).length),b.cell? ⟨d,o1+j,none⟩=some (.int .i64 (l.drop (i+1))[j]):=by
       by_cases ba:B=i+1
       ·exact⟨0,by rw[<-bf,ag ba],fun j a=>by have:=aW.out;rw[ax.out] at a;omega⟩
       ·exact⟨i+1,by rw[<-bf,ae ba],fun j a=>by
         rw[List.getElem_drop];exact C7 (i+1+j) (by rw[ax.out] at a;omega)⟩
      have aw:=hid bQ;have br:=hid (show ei b (.slice (some ⟨d,0,none⟩) i B) (l.take i) from⟨some ⟨d,0,none⟩,d,0,B,by rw[U.out],fun _=>rfl,fun j a=>by
       rw[List.getElem_take,aC];exact C7 j (by rw[U.out] at a;omega)⟩)
      subst bV;have E8:=hid (show (b.alloc (.cells #[] 3)).drew.ownsRow b.heap.size 3 1 (.slice (some ⟨b.heap.size,0,none⟩) 0 0) 0 [] from (dt b #[] 0 (aq _) (bN _) oS));have aA:=hid ((bal (af _ b) (.cells #[] 3)).drew);refine wpAnyH_ready (rs:=[8]) oK oS (AllReadyH.cons rfl (fun K I=>?_) AllReadyH.nil);go_simp
      refine I _ _ (KS.out _ aA) (fun _=>?_)
      try simp only[Act.put,jD,jE,jF]
      generalize World.drew (World.alloc _ _)=X5 at*;obtain⟨q2,c2,Z,hr,ho,hb, -⟩:=gY E8 aA.size (br.below aA) (by rw[U.out];have:=aH.out;omega);have bB:=hid ho;rw[U.out] at hr;have bE:=hid hr;have aD:=hid (aA.trans hb);refine wpAnyH_ready (rs:=[12]) oK oS (AllReadyH.cons rfl (fun K I=>?_) AllReadyH.nil);refine fO _ _ 22 rfl (.slice (some ⟨b.heap.size,0,none⟩) 0 0) (.slice (some ⟨d,0,none⟩) i B) (.slice q2 i c2) rfl rfl bE ?_;refine I _ _ (KS.out _ aD) (fun _=>?_);simp only[jj];obtain⟨q3,c3,Z2,hr,ho,hb⟩:=tj (c:=B - (i+1)) bB aD.size (by rw[U.out];have:=aH.out;omega) (ys:=l.drop (i+1)) (by rw[ax.out];have:=aH.out;omega) (fun j a=>(aD.cell (aj _ _ (aw.out j a))).trans (aw.out j a));rw[U.out,ax.out] at hr;have bF:=hid hr;rw[U.out,ax.out] at ho;have bC:=hid ho;have am:=hid (aD.trans hb);refine wpAnyH_ready (rs:=[17]) oK oS (AllReadyH.cons rfl (fun K I=>?_) AllReadyH.nil);refine fO _ _ 22 rfl (.slice q2 i c2) (.slice (some ⟨d,o1,none⟩) (l.length - (i+1)) (B - (i+1))) (.slice q3 (i+(l.length - (i+1))) c3) rfl rfl bF ?_;refine I _ _ (KS.out _ am) (fun _=>?_);simp only[jj];refine tk 18 (.pointer (some ⟨F,n,none⟩)) rfl (KS.out _ am) ?_;simp only[jj];have cs:=KR.out _ am;have ct:=bo.out _ am;obtain⟨a9,bT⟩:=bn.out Z2 _ _ am bC;have B9:=hid a9;have K9:=hid bT;have S9:=hid (show (Z2.setCell ⟨F,n,none⟩ (.slice q3 (i+(l.length - (i+1))) c3)).cell? ⟨wb,7,none⟩=some (.slice (some ⟨F,0,none⟩) (q).ready.length (q).ready.length) by rw[ai a9.r (k:=7) rfl,Q.out]);refine wpAnyH_ready (rs:=[19]) oK oS (AllReadyH.cons rfl (fun K I=>?_) AllReadyH.nil);go_simp
      refine I _ _ S9 (fun _=>?_)
      try simp only[Act.put]
      refine dc oK ?_ _;generalize World.setCell _ _ _=Z9 at*;go_wp2_with fail
      exact ar (aF rfl _ _ _) rfl ⟨rfl,_,by rw[a2.out,a0.out];exact B9,a5.trans K9⟩
     ·have cm:(z==m)=false:=by simpa using bj
      rw[cm] at ad;go_upto_region 12 with fail
      go_quiet (first|(go_at_call 177;refine Calls.quiet_of (ab.out _ (ao.below (aB wr _)))))
      have bz:=hid (show Below wo.heap.size wo (wr.drewN nq)∧∀j (a:j<l.length),j<i+1->dmB (q) m l[j]=false from⟨btr BI (aG (af wr.heap.size wr) nq),fun j a h=>by
       by_cases e:j=i
       ·subst e;rw[HY.out];exact ad
       ·exact HN j a oA⟩)
      generalize World.drewN _ _=C at*;go_wp2_with fail
      exact⟨⟨i+1,oA,by go_num,bz⟩,by simp[intOf];omega⟩
    ·obtain rfl:i=l.length:=oA;have cC:¬((l.length:Int)<(l.length:Int)):=oA;have aL:=hid (show ixP (dmB (q) m) l= -1 by
      unfold ixP;rw[ae];intro h;have f:=eC (w:=h);have h3:=HN.out _ h h;rw[h3] at f
      cases f)
     have HR:=hid (show Below L.heap.size L wr∧rnx (q) m c 4=rnx (q) m c j from⟨btr O BI,by rw[aS.out,ae (by rw[aL.out];decide)]⟩);go_wp2_with fail
     exact⟨⟨j,(j:Int) - 1,oA,hid rfl,by go_num,HR⟩,by simp[intOf]⟩
  ·have cQ:=h0;obtain rfl:k=0:=by have:=HX.out;omega
   have HR:=hid (show rnx (q) m c 4=q by rw[HV.out];rfl);go_wp2_with fail
   exact aI (aF rfl _ _ _) rfl ⟨rfl,tg,by rw[a2.out,HR.out];exact N.below O,a5.trans (.below O)⟩
