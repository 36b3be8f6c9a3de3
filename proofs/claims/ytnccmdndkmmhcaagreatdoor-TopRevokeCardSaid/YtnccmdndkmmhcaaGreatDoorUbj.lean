/- Ubj -/
import Derived.Deep.RegionHeld3
import Derived.Test.YtnccmdndkmmhcaaGreatDoorUbi
set_option maxRecDepth 100000
set_option maxHeartbeats 16000000
namespace Go.Proofs.YtnccmdndkmmhcaaGreatDoor
namespace Wd
def FE:PW:=wlP 24 2 [0]
def G8:PW:={FE with IH:=FE.IH.set 1 (clk 1 20)}
def G9:PW:=mkP G8 1 (2+((3:Nat):Int)) 1 2
def Ha:PW:=mkP G9 1 (2+((2:Nat):Int)) 1 3
def Hb:PW:=mkP Ha 1 (2+((1:Nat):Int)) 1 4
def Hc:PW:=mkP Hb 1 (2+((0:Nat):Int)) 4 5
def He:PW:=mkP Hc 1 (2+((4:Nat):Int)) 2 9
def Hf:PW:=mkP He 1 (2+((5:Nat):Int)) 1 11
def Ab:PW:=mkP Hf 1 (2+((6:Nat):Int)) 1 12
def ue:PW:={Ab with IH:=Ab.IH.set 16 (kpS (Ab.IH.getD 11 ft) (Bw.bw 6 ((Ab.IH.getD 11 ft) 4).toNat 7:Nat) 5 11)}
def uf:PW:={ue with IH:=ue.IH.set 17 (kpS (ue.IH.getD 12 ft) (Bw.bw 6 ((ue.IH.getD 12 ft) 4).toNat 7:Nat) 2 12)}
def ug:PW:={uf with IH:=uf.IH.set 18 (kpS (uf.IH.getD 10 ft) (Bw.bw 6 ((uf.IH.getD 10 ft) 4).toNat 7:Nat) 0 10)}
def uh:PW:={ug with IH:=ug.IH.set 19 (kpS (ug.IH.getD 7 ft) (Bw.bw 6 ((ug.IH.getD 7 ft) 4).toNat 3:Nat) 0 7)}
def ui:PW:={uh with IH:=uh.IH.set 20 (kpS (uh.IH.getD 3 ft) (Bw.bw 6 ((uh.IH.getD 3 ft) 4).toNat 7:Nat) 0 3)}
def uj:PW:={ui with IH:=ui.IH.set 21 (kpS (ui.IH.getD 4 ft) (Bw.bw 6 ((ui.IH.getD 4 ft) 4).toNat 7:Nat) 0 4)}
def uk:PW:={uj with IH:=uj.IH.set 22 (kpS (uj.IH.getD 2 ft) (Bw.bw 6 ((uj.IH.getD 2 ft) 4).toNat 7:Nat) 0 2)}
def Ba:PW:={uk with IH:=uk.IH.set 23 (kpS (uk.IH.getD 9 ft) (Bw.bw 6 ((uk.IH.getD 9 ft) 4).toNat 6:Nat) 0 9)}
def xT:PW:={Ba with IL:=Ba.IL.set (2*16+0/16) (32768+((3:Nat):Int))}
def xU:PW:={xT with IL:=xT.IL.set ((xT.IL.getD (2*16+0/16) 0).toNat%1024*16+0%16) (32768+((0:Nat):Int)*16384+((4:Nat):Int))}
def xV:PW:={xU with IL:=xU.IL.set ((xU.IL.getD (2*16+1/16) 0).toNat%1024*16+1%16) (32768+((0:Nat):Int)*16384+((5:Nat):Int))}
def FF:PW:={xV with IL:=xV.IL.set ((xV.IL.getD (2*16+2/16) 0).toNat%1024*16+2%16) (32768+((1:Nat):Int)*16384+((6:Nat):Int))}
def FG:PW:=eqP FF 8 (fun k=>[0,0,2,(-1),0,1,0].getD k 0)
def FH:PW:=eqP FG 9 (fun k=>[0,1,2,10,1,2,0].getD k 0)
def vL:PW:=FH
theorem CW:IB=vL:=oK
end Wd
namespace Wd
open Go.RowKit Mem Bw Nums Mmu Hex Mad
def FJ (L:Nat->Int):List Int:=(vL.IL.take 64++(List.range 32).map L)++vL.IL.drop 96
def p0 (L:Nat->Int):PW:={vL with IL:=FJ L}
def iR (zs:List (Int×Int×Int×Int)) (i:Nat):Int:=if i%2=0 then q0 (zs.getD (i/2) (0,0,0,0)) else q1 (zs.getD (i/2) (0,0,0,0))
theorem qo (zs:List (Int×Int×Int×Int)):cdN vL.IL 64 zs 16=FJ (iR zs):=oK
theorem Db {L:Nat->Int} (h:∀i,i<32->0<=L i∧L i<=65535):∀x∈FJ L,0<=x∧x<=65535:=by
 have b:vL.IL.all (fun x=>decide (0<=x)&&decide (x<=65535))=true:=oK;rw[aU] at b;intro x a;unfold FJ at a;rw[dH,dH] at a;rcases a with (a|a)|a
 ·have:=b x (List.mem_of_mem_take a);simpa using this
 ·obtain⟨i,hi,rfl⟩:=List.mem_map.1 a;exact h i (List.mem_range.1 hi)
 ·have:=b x (List.mem_of_mem_drop a);simpa using this
theorem oh {zs:List (Int×Int×Int×Int)} (b:zs.length=16) (a:∀q∈zs,nF q):∀i,i<32->0<=iR zs i∧iR zs i<=65535:=fun i hi=>by
 have hk:i/2<zs.length:=oA;have:=Da (a zs[i/2] (av hk));unfold iR;rw[aa,ac hk];simp only[aT];split
 ·exact this.1
 ·exact this.2
theorem Df (w:World) (hk:KnW w):Calls Tryz.prog 113 #[.string A3] w fun r w'=>∃X tag,r=.returned (.tuple #[.agg (de X),.agg #[.int .i64 0,.int .i64 (-1)]])∧fS w' tag X vL∧(∀k,k<w.heap.size->tag k=0)∧Below w.heap.size w w':=by
 have:=kI A3 _ 24 2 [0] w (aA oK) xW hk;rw[show fX (Prs.gy A3) (wlP 24 2 [0]) (Prs.gy A3).length=vL from CW] at this;exact this
theorem fS.up {w w':World} {tag:Nat->Nat} {X:Nat->Value} {p:PW} (h:fS w tag X p) (b:Below w.heap.size w w'):fS w' (jd tag w.heap.size) X p:=by
 have hk:Kp (fun _=>False) w w':=.IM b;have a:∀k,k<w.heap.size->jd tag w.heap.size k=tag k:=fun k h=>ka h;exact⟨h.IL.kp hk a (fun _ _=>id),h.kinds.kp hk a (fun _ _=>id),h.IH.kp hk a (fun _ _=>id),h.II.kp hk a (fun _ _=>id),h.lines.kp hk a (fun _ _=>id),h.bits.kp hk a (fun _ _=>id),h.IJ.kp hk a (fun _ _=>id),h.ready.kp hk a (fun _ _=>id),h.IK.kp hk a (fun _ _=>id),h.IQ.kp hk a (fun _ _=>id),h.time⟩
end Wd
namespace Wd
open Go.RowKit Mem Bw Nums Mmu
theorem oF (wb:Nat) (tag:Nat->Nat) (V:Nat->Value) (p:PW) (c:Nat) (W:World) (bt:cb W wb tag V p) (g:p.Fits) (D:Snd p) (hc:c<p.IJ.length) (h:p.IJ.getD c (-1)= -1∨∃(t:Nat) (ht:t<p.kinds.length),(∀l∈p.ready,l.length<=50)∧p.kinds[t]=6∧p.IJ.getD c (-1)=t∧dmB p (tnV p) t=false):
  Calls Tryz.prog 126 #[.pointer (some ⟨wb,0,none⟩),.int .i64 c] W fun r W'=>r=.returned (.tuple #[])∧∃tag',cb W' wb tag' V (rlP p c)∧Kt tag tag' W W':=by
 rcases h with hz|⟨t,ht,B,hk,hz,am⟩
 case' inl=>
  rename (Nat->Nat)=>tg
  rename PW=>q
  have cc:(q.IJ.length:Int)<=1000:=by have:=g.IJ;omega
  have bS:(c:Int)<(q.IJ.length:Int):=oA;have bT:(c:Int)<=1000:=oA;have cd:(q.ready.length:Int)<=1000:=by have:=g.ready;omega
  obtain⟨s,U,e6⟩:=bt.o.IJ.form oA;have N:=hid e6;obtain⟨G,eR⟩:=bt.o.ready.form;have Q:=hid eR;obtain⟨m,hm⟩:∃m,tnV q=m:=⟨_,rfl⟩
  have bc:=hid hm;have aV:=hid (show rlP q c=rnx q m c 4 by unfold rlP;rw[ag hz,hm]);have a6:=hid hz;have ay:=hid g;have a9:=hid (show c*4+4<=q.ready.length by rw[D.lf.ready];omega);have a4:=hid D.lf.d1;have aA:=hid (show 0<=q.time∧q.time<=1000000 by have h:=D.tm;unfold ek at h;simpa using h);have aL:=N;have aK:=hid hc;obtain⟨g3,aX,e3⟩:=bt.o.II.form (by rw[D.lf.II];have:=D.lf.k1;omega);have aS:=hid e3;have bY:(q.II.length:Int)<=1000:=by have:=g.II;omega
  have a5:=hid (fun (n:Nat) (B:n<q.ready.length)=>show (q.ready.getD n []).length<=1000 by rw[aa,ac B];exact g.next _ (av B));have bg:=hid (fun (n:Nat) (B:n<q.ready.length)=>show ∀z∈q.ready.getD n [],0<=z∧z<(q.II.length:Int) by rw[aa,ac B];exact De D _ (av B));have J:=hid bt;have aB:=hid (ew tg W);have c6:=bD bt e6;have x6:W.cell? ⟨s,c,none⟩=some (.int .i64 (-1)):=by rw[(bt.IY e6 hc).1,hz]
  go_enter Tryz.func126,Tryz.ntmps126
  go_upto_region 1 with fail
  go_quiet (fail)
  have B3:=hid (J.below (aG (af W.heap.size W) nq));have K3:=hid (aB.trans (.below (aG (af W.heap.size W) nq)));generalize World.drewN _ _=w2 at*;have J:=B3;have aB:=K3;generalize bR:w2=O at*;obtain⟨E,EN,a7⟩:∃E:Nat,Hid (V 6=.slice (some ⟨s,0,none⟩) E U)∧Hid (c<E):=⟨_,N,aK⟩
 case' inr=>
  have cc:(p.IJ.length:Int)<=1000:=by have:=g.IJ;omega
  have bS:(c:Int)<(p.IJ.length:Int):=oA;have bT:(c:Int)<=1000:=oA;obtain⟨s,U,e6⟩:=bt.o.IJ.form oA;have N:=hid e6;obtain⟨m,hm⟩:∃m,tnV p=m:=⟨_,rfl⟩
  have br:t<p.II.length:=by rw[D.lf.II];exact ht
  have cP:(t:Int)<(p.II.length:Int):=oA;have bY:(p.II.length:Int)<=1000:=by have:=g.II;omega
  obtain⟨g3,aX,e3⟩:=bt.o.II.form oA;have aA:=hid (show 0<=p.time∧p.time<=1000000 by have h:=D.tm;unfold ek at h;simpa using h);have ad:=hid (fun Y (h:cb Y wb tag V p)=>lx wb tag V p Y h g D.lf.d1 aA);rw[hm] at ad;have c6:=bD bt e6;have x6:W.cell? ⟨s,c,none⟩=some (.int .i64 t):=by rw[(bt.IY e6 hc).1,hz]
  have c3:=bD bt e3;have aR:=bt.IS e3 br (show 19<20 by omega);have cO:(0:Int)<=(t:Int):=oA;have B0:=hid bt;obtain⟨r1,r2,r3,r4⟩:=m9 D ht hk;obtain⟨q,I⟩:∃q,wnP {p with IJ:=p.IJ.set c (-1)} t (rdN p t)=q:=⟨_,rfl⟩
  have aV:=hid (show rlP p c=rnx q m c 4 by unfold rlP;rw[hz,ae oA,am,ae oD,ah,hm,I]);rw[hm] at am;unfold dmB at am;rw[ah] at am;have bV:¬(p.II.getD t bl 19=m):=by simpa using am
  generalize p.II.getD t bl 19=z at aR bV am;have a2:=hid hc;have bo:({p with IJ:=p.IJ.set c (-1)}:PW).Fits:=⟨g.IL,g.kinds,g.IH,g.II,g.lines,g.line,g.bits,by show (p.IJ.set c (-1)).length<=1000;rw[au];exact g.IJ,g.ready,g.next,g.IK,g.IQ⟩;have bf:=hid (fun X (h:cb X wb tag V {p with IJ:=p.IJ.set c (-1)})=>gN wb tag V {p with IJ:=p.IJ.set c (-1)} t (rdN p t) X h bo br r1 r3 r4 r2);rw[I] at bf;have bb:=hid (show q.II.length=p.II.length by rw[<-I];show ((({p with IJ:=p.IJ.set c (-1)}:PW).task t 9 1).task t 14 (-1)).II.length=_;rw[ap,ap]);have a8:=hid (show q.ready.length=p.ready.length by rw[<-I];show (p.ready.set _ _).length=_;rw[au]);have ax:=hid (show q.IJ.length=p.IJ.length by rw[<-I];show (p.IJ.set _ _).length=_;rw[au]);have bc:=hid (show tnV q=m by rw[<-I];exact hm);have a6:=hid (show q.IJ.getD c (-1)= -1 by rw[<-I];show (p.IJ.set c (-1)).getD c (-1)= -1;rw[aa,cQ hc];rfl);have ay:=hid (show q.Fits by rw[<-I];exact AH bo B t (rdN p t));have a9:=hid (show c*4+4<=q.ready.length by rw[a8.out,D.lf.ready];omega);have a4:=hid (show 1<=q.IQ.length by rw[<-I];exact D.lf.d1);have aA:=hid (show 0<=q.time∧q.time<=1000000 by rw[<-I];exact aA);have aL:=hid (show V 6=.slice (some ⟨s,0,none⟩) q.IJ.length U by rw[ax.out];exact e6);have aK:=hid (show c<q.IJ.length by rw[ax.out];exact hc);obtain⟨G,eR⟩:=bt.o.ready.form;have Q:=hid (show V 7=.slice (some ⟨G,0,none⟩) q.ready.length q.ready.length by rw[a8.out];exact eR);have cd:(q.ready.length:Int)<=1000:=by have:=ay.ready;omega
  have cJ:(q.II.length:Int)<=1000:=by have:=ay.II;omega
  have aS:=hid (show V 3=.slice (some ⟨g3,0,none⟩) q.II.length aX by rw[bb.out];exact e3);have a5:=hid (fun (n:Nat) (B:n<q.ready.length)=>show (q.ready.getD n []).length<=1000 by rw[aa,ac B];exact ay.next _ (av B));have bK:=hid (show ∀l∈q.ready,∀z∈l,0<=z∧z<(q.II.length:Int) by
   rw[bb.out, <-I];intro l hl z H;have bX:=hl;rcases aZ bX with f|rfl
   ·exact De D l f z H
   ·rcases dH.1 H with f|f
    ·rw[aa] at f
     cases e:p.ready[rdN p t]? with
     |none=>rw[e] at f;cases f
     |some y=>
      rw[e,aT] at f;exact De D y (ef e) z f
    ·rw[dm] at f;omega)
  have bg:=hid (fun (n:Nat) (B:n<q.ready.length)=>show ∀z∈q.ready.getD n [],0<=z∧z<(q.II.length:Int) by rw[aa,ac B];exact bK _ (av B));go_enter Tryz.func126,Tryz.ntmps126
  go_upto_region 1 with fail
  go_quiet (first|(go_at_call 177;refine Calls.quiet_of (ad.out _ (B0.below (aD W _)))))
  have B1:=hid (B0.below (aG (af W.heap.size W) nq));have K1:=hid (show Kt tag tag W (W.drewN nq) from .below (aG (af W.heap.size W) nq));generalize World.drewN _ _=w1 at*;have c6:=bD B1 N;obtain⟨x6,f6⟩:=B1.IY N a2;obtain⟨b2,k2⟩:=B1.I4 N c (-1);have B5:=hid b2;have K5:=hid (K1.trans k2);go_upto_region 3 with fail
  generalize World.setCell _ _ _=w2 at*;go_wp2_with fail
  refine (bf.out _ B5).mono ?_;rintro r w3 ⟨rfl,tg,H,f⟩;have J:=hid H;have aB:=hid (K5.trans f);generalize bR:w3=O at*;obtain⟨E,EN,a7⟩:∃E:Nat,Hid (V 6=.slice (some ⟨s,0,none⟩) E U)∧Hid (c<E):=⟨_,N,a2⟩
 all_goals
  have ad:=hid (fun Y (h:cb Y wb tg V (q))=>lx wb tg V (q) Y h ay a4 aA);rw[bc.out] at ad;have c6:=bD J N;have x6:O.cell? ⟨s,c,none⟩=some (.int .i64 (-1)):=by rw[(J.IY aL aK).1,a6.out]
  go_wp2_with fail
  go_loopw [5] (fun i wr=>∃(k:Nat) (x:Int),k<=4∧Hid (x=(k:Int) - 1)∧i=.int .i64 x∧Hid (Below O.heap.size O wr∧rnx (q) m c 4=rnx (q) m c k)) (fun i _=>(intOf i+1).toNat)
  case atStart=>exact⟨4,3,oA,hid rfl,rfl,hid ⟨af _ _,rfl⟩⟩
  case round=>
   obtain⟨k,x,hk,HX,rfl,HH⟩:=hrel;have BB:=hid HH.1;have HV:=hid HH.2;by_cases h0:0<=x
   ·obtain⟨j,rfl⟩:∃j:Nat,x=j:=⟨x.toNat,oA⟩
    obtain rfl:k=j+1:=by have:=HX.out;omega
    obtain⟨n,B⟩:∃n:Nat,c*4+j=n:=⟨_,rfl⟩
    have cG:(c:Int)*4+(j:Int)=(n:Int):=oA;have aQ:n<(q).ready.length:=by have:=a9.out;omega
    have cN:(n:Int)<((q).ready.length:Int):=oA;have aU:=hid aQ;have aW:=hid (show rnx (q) m c 4=if 0<=ixP (dmB (q) m) ((q).ready.getD n []) then {q with IJ:=(q).IJ.set c (((q).ready.getD n []).getD (ixP (dmB (q) m) ((q).ready.getD n [])).toNat 0),ready:=(q).ready.set n (((q).ready.getD n []).take (ixP (dmB (q) m) ((q).ready.getD n [])).toNat++((q).ready.getD n []).drop ((ixP (dmB (q) m) ((q).ready.getD n [])).toNat+1))} else rnx (q) m c j by rw[HV.out, <-B];rfl);have aP:=(J.below BB).o.ready;rw[Q.out] at aP;obtain⟨u,cu,hu⟩:=aP.at aQ;unfold ci at hu;have bM:=hid hu.2;have cs:=dN hu.1;obtain⟨qu,d,C,rfl,cq⟩:=hu.shape;have bL:=hid cs;have c7:=bD (J.below BB) Q;have cI:(j:Int)<=3:=oA;have aM:=hid (a5.out n aQ);have bB:=hid (bg.out n aQ);have HQ:=hid cq;have a3:=hid (show ((q).ready.getD n []).length<=C by
     rcases hu.1.2 with ⟨H,f⟩|⟨_,_,_,H,_,_,f,_⟩
     ·simp only at f;omega
     ·cases H;exact f)
    generalize cL:(q).ready.getD n []=l at*;have cK:(l.length:Int)<=1000:=by have:=aM.out;omega
    generalize wr=wo at*;go_wp2_with fail
    go_loopw [7] (fun i wr=>∃(i':Nat),i'<=l.length∧i=.int .i64 i'∧Hid (Below wo.heap.size wo wr∧∀j (a:j<l.length),j<i'->dmB (q) m l[j]=false)) (fun i _=>l.length - (intOf i).toNat)
    case atStart=>exact⟨0,oA,rfl,hid ⟨af _ _,fun j _ h=>oA⟩⟩
    case round=>
     obtain⟨i,hi,rfl,HH⟩:=hrel;have BI:=hid HH.1;have HN:=hid HH.2;by_cases aE:i<l.length
     ·have cM:(i:Int)<(l.length:Int):=oA;have cp:=HQ.out oA;subst cp;have aw:=hid ((J.below BB).below BI);have ao:=hid (show ∀j (a:j<l.length),wr.cell? ⟨d,j,none⟩=some (.int .i64 l[j]) from fun j a=>by
       obtain⟨q2,b2,o2,cz,e2,cm,cw⟩:=bL.below BI
       cases e2
       have h3:=cm oA
       cases h3
       have:=cw j a;rw[aC] at this;exact this)
      have aN:=hid (bB.out _ (av aE));have ck:=ao.out i aE;obtain⟨y,hy⟩:∃y,l[i]=y:=⟨_,rfl⟩
      rw[hy] at ck aN;have HY:=hid hy;clear hy;obtain⟨y',ct⟩:∃y':Nat,y=y':=⟨y.toNat,by have:=aN.1;omega⟩
      subst ct;have cv:(y':Int)<((q).II.length:Int):=aN.2;have c3:wr.cell? ⟨wb,3,none⟩=some (.slice (some ⟨g3,0,none⟩) (q).II.length aX):=by rw[ai aw.r (k:=3) rfl,aS.out]
      have aR:=aw.IS aS (i:=y') oA (show 19<20 by omega);have al:=hid (show dmB (q) m y'=((q).II.getD y' bl 19==m) by unfold dmB;rw[ah]);generalize (q).II.getD y' bl 19=z at aR al;by_cases bu:z=m
      ·subst bu;rw[beq_self_eq_true] at al;have aO:=hid (show ixP (dmB (q) z) l=i by
        have H:l.findIdx (dmB (q) z)=i:=by
         rw[List.findIdx_eq aE];exact⟨by rw[HY.out];exact al,fun j a=>HN.out j oA a⟩
        unfold ixP;rw[H,ag aE])
       have ba:=hid (show rnx (q) z c 4={q with IJ:=(q).IJ.set c y',ready:=(q).ready.set n (l.take i++l.drop (i+1))} by
        rw[aW.out,aO.out,ag oA,ah,aa (l:=l),ac aE,aT,HY.out])
       go_upto_region 12 with fail
       go_quiet (first|(go_at_call 177;refine Calls.quiet_of (ad.out _ (aw.below (aD wr _)))))
       have BY:=hid (aw.below (aG (af wr.heap.size wr) nq));have KY:=hid (show Kt tg tg O (wr.drewN nq) from .below (btr (btr BB BI) (aG (af wr.heap.size wr) nq)));have bh:(wr.drewN nq).cell? ⟨d,i,none⟩=some (.int .i64 y'):=ck;have a0:=hid (show ∀j (a:j<l.length),(wr.drewN nq).cell? ⟨d,j,none⟩=some (.int .i64 l[j]) from fun j a=>ao.out j a);clear ck c3 aR ao;have ao:=a0;generalize World.drewN _ _=F at*;have bE:=hid (show d≠s from fun e=>by
        have H:=bM.out d rfl;have f:=J.o.IJ;rw[N.out] at f;have h3:=f.2 s rfl;rw[e] at H;omega)
       clear ad a0 aO aW HN;obtain⟨y,bs⟩:∃y:Int,(y':Int)=y:=⟨_,rfl⟩
       rw[bs] at bh ba;clear bs HY aN cv al;go_upto_region 13 with fail
       have cF:(c:Int)<(E:Int):=by have:=a7.out;omega
       have c6:F.cell? ⟨wb,6,none⟩=some (.slice (some ⟨s,0,none⟩) E U):=by rw[ai BY.r (k:=6) rfl,EN.out]
       have BD:Hid (Below F.heap.size F F.drew):=hid (aD F 1);obtain⟨x6,f6⟩:=(BY.below BD).IY aL aK;obtain⟨b7,k7⟩:=(BY.below BD).I4 aL c y;have B7:=hid (show cb (F.setCell ⟨s,c,none⟩ (.int .i64 y)).drew wb tg V {q with IJ:=(q).IJ.set c y} from b7);have K7:=hid (show Kt tg tg O (F.setCell ⟨s,c,none⟩ (.int .i64 y)).drew from (KY.trans (.below BD)).trans k7);have S7:=hid (show (F.setCell ⟨s,c,none⟩ (.int .i64 y)).drew.cell? ⟨wb,6,none⟩=some (.slice (some ⟨s,0,none⟩) E U) by rw[ai B7.r (k:=6) rfl,EN.out]);have C7:=hid (show ∀j (a:j<l.length),(F.setCell ⟨s,c,none⟩ (.int .i64 y)).drew.cell? ⟨d,j,none⟩=some (.int .i64 l[j]) from fun j a=>(World.cell?_setCell_far F ⟨s,c,none⟩ ⟨d,j,none⟩ _ (fun e=>bE.out e.symm)).trans (ao.out j a));clear b7 k7;refine ei (S:=fun X=>X.cell? ⟨wb,6,none⟩=some (.slice (some ⟨s,0,none⟩) E U)) (R:=fun X=>X.cell? ⟨d,i,none⟩=some (.int .i64 y)) [10] oK c6 bh (fun bQ bO=>?_);have M:=hid bQ;have L:=hid bO;refine tF 0 (.pointer (some ⟨wb,0,none⟩)) rfl M (fun _=>L.out) ?_;simp only[jj];refine tF 1 (.pointer (some ⟨wb,0,none⟩)) rfl M (fun _=>L.out) ?_;simp only[jj];refine tF 2 (.pointer (some ⟨wb,6,none⟩)) rfl M (fun _=>L.out) ?_;simp only[jj];refine tG 3 (.slice (some ⟨s,0,none⟩) E U) rfl M (fun _=>L.out) ?_;simp only[jj];refine tF 4 (.int .i64 c) rfl M (fun _=>L.out) ?_;simp only[jj];refine tF 5 (.slice (some ⟨d,0,none⟩) l.length C) rfl M (fun _=>L.out) ?_;simp only[jj];refine tF 6 (.int .i64 i) rfl M (fun _=>L.out) ?_;simp only[jj];refine tF 7 (.pointer (some ⟨d,i,none⟩)) rfl M (fun _=>L.out) ?_;simp only[jj];refine eZ (i:=8) (v:=.int .i64 y) rfl oK oK oK oK oK oK (fun _ _ _ h=>h) (Or.inl ⟨oR,fun W h=>by have h3:=h.2;clear h;go_simp⟩) M (fun _=>L.out) ?_;simp only[jj];refine tF 9 (.pointer (some ⟨s,c,none⟩)) rfl M (fun _=>L.out) ?_;simp only[jj];refine Wd.r1 10 rfl (fun K P=>?_);go_simp
       refine P _ _ S7 (fv oK) (fun _ _=>?_)
       try simp only[Act.put]
       refine ec oK ?_ _;generalize World.drew (World.setCell _ _ _)=b at*;go_upto_region 14 with fail
       have cy:=hid Q.out;have aP:=B7.o.ready;have aY:fx b tg 9 13 22 3 1 (q).ready.length (.slice (some ⟨G,0,none⟩) (q).ready.length (q).ready.length) (ci (q).ready):=by rw[<-Q.out];exact aP
       have bz:=hid (fun X (h:Below b.heap.size b X)=>(aY.kp (T:=fun _=>False) (.IM h) (fun _ _=>rfl) (fun _ _ e=>e)).fr n);have KS:=hid (fun X (h:Below b.heap.size b X)=>show X.cell? ⟨wb,7,none⟩=some (.slice (some ⟨G,0,none⟩) (q).ready.length (q).ready.length) by rw[ai (B7.below h).r (k:=7) rfl,Q.out]);obtain⟨u1,bj, -⟩:=aY.at aU.out;have KR:=hid (fun X (h:Below b.heap.size b X)=>(h.cell (aj _ _ bj)).trans bj);have bv:=hid (fun X v (zz:List Int) (h:Below b.heap.size b X) (ho:X.ownsRow b.heap.size 3 1 v zz.length (dU zz))=>show cb (X.setCell ⟨G,n,none⟩ v) wb (gR tg b.heap.size (13+3*n)) V {q with IJ:=(q).IJ.set c y,ready:=(q).ready.set n zz}∧Kt tg (gR tg b.heap.size (13+3*n)) O (X.setCell ⟨G,n,none⟩ v) from by
        obtain⟨cj,bp⟩:=aY.put (tag':=gR tg b.heap.size (13+3*n)) (w1:=X) (u:=v) (c:=(zz.length,dU zz)) (j:=n) aU (fun j=>oA) (.IM h) (fun k hk=>dO hk) ⟨ho.mono (bP _),fun k e=>by
         unfold gR;rw[ae (by have:=(ho.lt k e).1;omega)]⟩
        refine⟨B7.ready bp (fun k hk=>dO hk) ?_,K7.trans (Kt.of (tag':=gR tg b.heap.size (13+3*n)) bp (fun k e=>by rcases e with e|⟨j,e⟩<;>omega) (fun k hk=>dO hk))⟩;rw[au,Q.out,kz _ _ aU];exact cj)
       obtain⟨q1,bq⟩:∃q1,(if C=i+1 then (some ⟨d,0,none⟩:Option Addr) else some ⟨d,i+1,none⟩)=q1:=⟨_,rfl⟩
       have BD:=hid (aD b 1);have cC:¬(C<i):=by have:=a3.out;omega
       have cD:¬((l.length:Int)<(i:Int)+1):=oA;have cE:(0:Int)<=(i:Int)+1:=oA;have cR:((i:Int)+1).toNat=i+1:=oA;refine wp_region_held_drew (S:=fun X=>X.cell? ⟨wb,7,none⟩=some (.slice (some ⟨G,0,none⟩) (q).ready.length (q).ready.length)) oK (KS.out _ BD) (fun bN=>?_);have A:=hid bN;refine tk 0 (.pointer (some ⟨wb,0,none⟩)) rfl A ?_;simp only[jj];refine tk 1 (.pointer (some ⟨wb,0,none⟩)) rfl A ?_;simp only[jj];refine tk 2 (.pointer (some ⟨wb,7,none⟩)) rfl A ?_;simp only[jj];refine Mem.tg 3 (.slice (some ⟨G,0,none⟩) (q).ready.length (q).ready.length) rfl (Or.inl ⟨oR,fun W h=>by have h3:=h;clear h;go_simp⟩) A ?_;simp only[jj];refine tk 4 (.int .i64 c) rfl A ?_;simp only[jj];refine Mem.tg 5 (.int .i64 (c*4)) rfl (Or.inl ⟨oR,fun W h=>by clear h;go_simp;exact bZ _ oA oA⟩) A ?_;simp only[jj];refine tk 6 (.int .i64 j) rfl A ?_;simp only[jj];refine Mem.tg 7 (.int .i64 n) rfl (Or.inl ⟨oR,fun W h=>by clear h;go_simp;exact bZ _ oA oA⟩) A ?_;simp only[jj];refine tk 9 (.slice (some ⟨d,0,none⟩) l.length C) rfl A ?_;simp only[jj];refine tk 10 (.int .i64 i) rfl A ?_;simp only[jj];refine tk 11 (.slice (some ⟨d,0,none⟩) i C) rfl A ?_;simp only[jj];refine tk 13 (.slice (some ⟨d,0,none⟩) l.length C) rfl A ?_;simp only[jj];refine tk 14 (.int .i64 i) rfl A ?_;simp only[jj];refine Mem.tg 15 (.int .i64 ((i:Int)+1)) rfl (Or.inl ⟨oR,fun W h=>by clear h;go_simp;exact bZ _ oA oA⟩) A ?_;simp only[jj];refine tk 16 (.slice q1 (l.length - (i+1)) (C - (i+1))) rfl A ?_;simp only[jj];have ab:=hid (show (l.take i).length=i by rw[bH];omega);have az:=hid (show (l.drop (i+1)).length=l.length - (i+1) by rw[List.length_drop]);obtain⟨o1,cg,bU⟩:∃o1,q1=some ⟨d,o1,none⟩∧∀j (a:j<(l.drop (i+1)).length),b.cell? ⟨d,o1+j,none⟩=some (.int .i64 (l.drop (i+1))[j]):=by
        by_cases bn:C=i+1
        ·exact⟨0,by rw[<-bq,ag bn],fun j a=>by have:=a3.out;rw[az.out] at a;omega⟩
        ·exact⟨i+1,by rw[<-bq,ae bn],fun j a=>by
          rw[List.getElem_drop];exact C7 (i+1+j) (by rw[az.out] at a;omega)⟩
       have ax:=hid bU;have bA:=hid (show ed b (.slice (some ⟨d,0,none⟩) i C) (l.take i) from⟨some ⟨d,0,none⟩,d,0,C,by rw[ab.out],fun _=>rfl,fun j a=>by
        rw[List.getElem_take,aC];exact C7 j (by rw[ab.out] at a;omega)⟩)
       subst cg;have E8:=hid (show (b.alloc (.cells #[] 3)).drew.ownsRow b.heap.size 3 1 (.slice (some ⟨b.heap.size,0,none⟩) 0 0) 0 [] from (dy b #[] 0 (aq _) (bP _) oS));have aI:=hid ((bal (af _ b) (.cells #[] 3)).drew);refine wpAnyH_ready (rs:=[8]) oK oS (AllReadyH.cons rfl (fun K P=>?_) AllReadyH.nil);go_simp
       refine P _ _ (KS.out _ aI) (fun _=>?_)
       try simp only[Act.put,jD,jE,jF]
       generalize World.drew (World.alloc _ _)=X5 at*;obtain⟨q2,c2,Z,hr,ho,hb, -⟩:=im E8 aI.size (bA.below aI) (by rw[ab.out];have:=aM.out;omega);have bF:=hid ho;rw[ab.out] at hr;have bI:=hid hr;have aJ:=hid (aI.trans hb);refine wpAnyH_ready (rs:=[12]) oK oS (AllReadyH.cons rfl (fun K P=>?_) AllReadyH.nil);refine fU _ _ 22 rfl (.slice (some ⟨b.heap.size,0,none⟩) 0 0) (.slice (some ⟨d,0,none⟩) i C) (.slice q2 i c2) rfl rfl bI ?_;refine P _ _ (KS.out _ aJ) (fun _=>?_);simp only[jj];obtain⟨q3,c3,Z2,hr,ho,hb⟩:=yW (c:=C - (i+1)) bF aJ.size (by rw[ab.out];have:=aM.out;omega) (ys:=l.drop (i+1)) (by rw[az.out];have:=aM.out;omega) (fun j a=>(aJ.cell (aj _ _ (ax.out j a))).trans (ax.out j a));rw[ab.out,az.out] at hr;have bJ:=hid hr;rw[ab.out,az.out] at ho;have bG:=hid ho;have an:=hid (aJ.trans hb);refine wpAnyH_ready (rs:=[17]) oK oS (AllReadyH.cons rfl (fun K P=>?_) AllReadyH.nil);refine fU _ _ 22 rfl (.slice q2 i c2) (.slice (some ⟨d,o1,none⟩) (l.length - (i+1)) (C - (i+1))) (.slice q3 (i+(l.length - (i+1))) c3) rfl rfl bJ ?_;refine P _ _ (KS.out _ an) (fun _=>?_);simp only[jj];refine tk 18 (.pointer (some ⟨G,n,none⟩)) rfl (KS.out _ an) ?_;simp only[jj];have cA:=KR.out _ an;have cB:=bz.out _ an;obtain⟨bk,bW⟩:=bv.out Z2 _ _ an bG;have B9:=hid bk;have K9:=hid bW;have S9:=hid (show (Z2.setCell ⟨G,n,none⟩ (.slice q3 (i+(l.length - (i+1))) c3)).cell? ⟨wb,7,none⟩=some (.slice (some ⟨G,0,none⟩) (q).ready.length (q).ready.length) by rw[ai bk.r (k:=7) rfl,Q.out]);refine wpAnyH_ready (rs:=[19]) oK oS (AllReadyH.cons rfl (fun K P=>?_) AllReadyH.nil);go_simp
       refine P _ _ S9 (fun _=>?_)
       try simp only[Act.put]
       refine dw oK ?_ _;generalize World.setCell _ _ _=Z9 at*;go_wp2_with fail
       exact ar (aF rfl _ _ _) rfl ⟨rfl,_,by rw[aV.out,ba.out];exact B9,aB.trans K9⟩
      ·have cx:(z==m)=false:=by simpa using bu
       rw[cx] at al;go_upto_region 12 with fail
       go_quiet (first|(go_at_call 177;refine Calls.quiet_of (ad.out _ (aw.below (aD wr _)))))
       have bC:=hid (show Below wo.heap.size wo (wr.drewN nq)∧∀j (a:j<l.length),j<i+1->dmB (q) m l[j]=false from⟨btr BI (aG (af wr.heap.size wr) nq),fun j a h=>by
        by_cases e:j=i
        ·subst e;rw[HY.out];exact al
        ·exact HN j a oA⟩)
       generalize World.drewN _ _=F at*;go_wp2_with fail
       exact⟨⟨i+1,oA,by go_num,bC⟩,by simp[intOf];omega⟩
     ·obtain rfl:i=l.length:=oA;have cH:¬((l.length:Int)<(l.length:Int)):=oA;have aO:=hid (show ixP (dmB (q) m) l= -1 by
       unfold ixP;rw[ae];intro h;have f:=List.findIdx_getElem (w:=h);have h3:=HN.out _ h h;rw[h3] at f
       cases f)
      have HR:=hid (show Below O.heap.size O wr∧rnx (q) m c 4=rnx (q) m c j from⟨btr BB BI,by rw[aW.out,ae (by rw[aO.out];decide)]⟩);go_wp2_with fail
      exact⟨⟨j,(j:Int) - 1,oA,hid rfl,by go_num,HR⟩,by simp[intOf]⟩
   ·have cS:=h0;obtain rfl:k=0:=by have:=HX.out;omega
    have HR:=hid (show rnx (q) m c 4=q by rw[HV.out];rfl);go_wp2_with fail
    exact aH (aF rfl _ _ _) rfl ⟨rfl,tg,by rw[aV.out,HR.out];exact J.below BB,aB.trans (.below BB)⟩
theorem rJ (wb:Nat) (tg:Nat->Nat) (V:Nat->Value) (p:PW) (c:Nat) (W:World) (bt:cb W wb tg V p) (b:p.Fits) (d:Snd p) (a:c<p.IJ.length) (e:p.IJ.getD c (-1)= -1):
  Calls Tryz.prog 126 #[.pointer (some ⟨wb,0,none⟩),.int .i64 c] W fun r W'=>r=.returned (.tuple #[])∧∃tag',cb W' wb tag' V (rlP p c)∧Kt tg tag' W W':=oF wb tg V p c W bt b d a (.inl e)
theorem rK (wb:Nat) (tag:Nat->Nat) (V:Nat->Value) (p:PW) (c t:Nat) (W:World) (bt:cb W wb tag V p) (d:p.Fits) (e:Snd p) (n:c<p.IJ.length) (z:t<p.kinds.length) (f:p.IJ.getD c (-1)=t) (a:dmB p (tnV p) t=true):
  Calls Tryz.prog 126 #[.pointer (some ⟨wb,0,none⟩),.int .i64 c] W fun r W'=>r=.returned (.tuple #[])∧∃tag',cb W' wb tag' V (rlP p c)∧Kt tag tag' W W':=by
 have K:(p.IJ.length:Int)<=1000:=by have:=d.IJ;omega
 have H:(c:Int)<(p.IJ.length:Int):=oA;have I:(c:Int)<=1000:=oA;obtain⟨l,F,e6⟩:=bt.o.IJ.form oA;have i:=hid e6;obtain⟨m,q⟩:∃m,tnV p=m:=⟨_,rfl⟩
 have A:t<p.II.length:=by rw[e.lf.II];exact z
 have M:(t:Int)<(p.II.length:Int):=oA;have J:(p.II.length:Int)<=1000:=by have:=d.II;omega
 obtain⟨G,E,k⟩:=bt.o.II.form oA;have v:=hid (show 0<=p.time∧p.time<=1000000 by have h:=e.tm;unfold ek at h;simpa using h);have j:=hid (fun Y (h:cb Y wb tag V p)=>lx wb tag V p Y h d e.lf.d1 v);rw[q] at j;have c6:=bD bt e6;have C:W.cell? ⟨l,c,none⟩=some (.int .i64 t):=by rw[(bt.IY e6 n).1,f]
 have D:=bD bt k;have B:=bt.IS k A (show 19<20 by omega);have L:(0:Int)<=(t:Int):=oA;have g:=hid bt;have u:=hid (show rlP p c=p by unfold rlP;rw[f,ae oA,a,ag rfl]);rw[q] at a;unfold dmB at a;rw[ah] at a;have y:=eq_of_beq a;rw[y] at B;have s:=hid n;have w:=hid f;go_enter Tryz.func126,Tryz.ntmps126
 go_upto_region 1 with fail
 go_quiet (first|(go_at_call 177;refine Calls.quiet_of (j.out _ (g.below (aD W _)))))
 have b:=hid (g.below (aG (af W.heap.size W) nq));have x:=hid (show Kt tag tag W (W.drewN nq) from .below (aG (af W.heap.size W) nq));generalize World.drewN _ _=w1 at*;have c6:=bD b i;have C:w1.cell? ⟨l,c,none⟩=some (.int .i64 t):=by rw[(b.IY i s).1,w.out]
 go_wp2_with fail
 exact ar (aF rfl _ _ _) rfl ⟨rfl,tag,by rw[u.out];exact b,x.out⟩
theorem tf (wb:Nat) (tag:Nat->Nat) (V:Nat->Value) (p:PW) (c t:Nat) (W:World) (bt:cb W wb tag V p) (e:p.Fits) (d:∀l∈p.ready,l.length<=50) (f:Snd p) (a:c<p.IJ.length) (g:t<p.kinds.length) (hk:p.kinds[t]=6) (h:p.IJ.getD c (-1)=t) (b:dmB p (tnV p) t=false):
  Calls Tryz.prog 126 #[.pointer (some ⟨wb,0,none⟩),.int .i64 c] W fun r W'=>r=.returned (.tuple #[])∧∃tag',cb W' wb tag' V (rlP p c)∧Kt tag tag' W W':=oF wb tag V p c W bt e f a (.inr ⟨t,g,d,hk,h,b⟩)
end Wd
namespace Wd
open Go.RowKit Mem Bw Nums Mmu Hex Mad
theorem vV {w:World} {X:Nat->Value} {p:PW} (hv:eu w X p):Below w.heap.size w ((w.alloc (.cells zW 28)).setCells w.heap.size 0 [X 0,X 1,X 2,X 3,X 4,X 5,X 6,X 7,X 8,X 9,X 10])∧((w.alloc (.cells zW 28)).setCells w.heap.size 0 [X 0,X 1,X 2,X 3,X 4,X 5,X 6,X 7,X 8,X 9,X 10]).rangeAt w.heap.size 0 (de X).toList∧((w.alloc (.cells zW 28)).setCells w.heap.size 0 [X 0,X 1,X 2,X 3,X 4,X 5,X 6,X 7,X 8,X 9,X 10]).there w.heap.size 0 11∧eu ((w.alloc (.cells zW 28)).setCells w.heap.size 0 [X 0,X 1,X 2,X 3,X 4,X 5,X 6,X 7,X 8,X 9,X 10]) X p:=by
 have t:=aP w zW 28 w.heap.size 11 rfl oD;have b0:=bal (af w.heap.size w) (.cells zW 28);have k:Kp (fun k=>k=w.heap.size) (w.alloc (.cells zW 28)) ((w.alloc (.cells zW 28)).setCells w.heap.size 0 [X 0,X 1,X 2,X 3,X 4,X 5,X 6,X 7,X 8,X 9,X 10]):=aM (T:=fun k=>k=w.heap.size) (.inl rfl) _ _ _ (aV _ _);have b1:=k.below b0 b0.size (fun k hk e=>oA);exact⟨b1,World.rangeAt_setCells_same _ w.heap.size 0 (de X).toList t,World.there_setCells t _ _ _,hv.below b1⟩
theorem eu.Ji {w:World} {X:Nat->Value} {p:PW} (h:eu w X p):(de X).all (·.oneCell')=true:=by
 simp only[List.all_toArray,List.all_cons,List.all_nil,Bool.and_true,h.IL.one,h.kinds.one,h.IH.one,h.II.one,h.lines.one,h.bits.one,h.IJ.one,h.ready.one,h.IK.one,h.IQ.one,eH];rw[h.time];rfl
