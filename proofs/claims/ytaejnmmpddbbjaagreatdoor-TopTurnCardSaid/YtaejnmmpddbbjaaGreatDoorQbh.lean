/- Qbh -/
import Derived.Test.YtaejnmmpddbbjaaGreatDoorQay
set_option maxRecDepth 100000
set_option maxHeartbeats 16000000
namespace Go.Proofs.YtaejnmmpddbbjaaGreatDoor
namespace Wd
open Go.RowKit Mem Bw Nums Mmu
theorem qY (wb:Nat) (tg:Nat->Nat) (V:Nat->Value) (p:PW) (c:Nat) (W:World) (bt:di W wb tg V p) (hp:p.Fits) (P:Snd p) (hc:c<p.IC.length) (hz:p.IC.getD c (-1)= -1):
  Calls Tryz.prog 44 #[.pointer (some ⟨wb,0,none⟩),.int .i64 c] W fun r W'=>r=.returned (.tuple #[])∧∃tag',di W' wb tag' V (rlP p c)∧Kt tg tag' W W':=by
 have cs:(p.IC.length:Int)<=1000:=by have:=hp.IC;omega
 have bW:(c:Int)<(p.IC.length:Int):=oA;have bX:(c:Int)<=1000:=oA;have cv:(p.ready.length:Int)<=1000:=by have:=hp.ready;omega
 obtain⟨q,aB,e6⟩:=bt.o.IC.form oA;have E6:=hid e6;obtain⟨C,eR⟩:=bt.o.ready.form;have H:=hid eR;obtain⟨m,hm⟩:∃m,tnV p=m:=⟨_,rfl⟩
 have br:=hid hm;have aU:=hid (show rlP p c=rnx p m c 4 by unfold rlP;rw[ah hz,hm]);have bc:=hid hz;have a8:=hid hp;have bp:=hid (show c*4+4<=p.ready.length by rw[P.lf.ready];omega);have a7:=hid P.lf.d1;have bq:=hid (show 0<=p.time∧p.time<=1000000 by have h:=P.tm;unfold dH at h;simpa using h);have aJ:=E6;have aR:=hid hc;obtain⟨g3,bS,e3⟩:=bt.o.IA.form (by rw[P.lf.IA];have:=P.lf.k1;omega);have aO:=hid e3;have cp:(p.IA.length:Int)<=1000:=by have:=hp.IA;omega
 have ba:=hid (fun (n:Nat) (J:n<p.ready.length)=>show (p.ready.getD n []).length<=1000 by rw[aa,ac J];exact hp.next _ (av J));have bv:=hid (fun (n:Nat) (J:n<p.ready.length)=>show ∀z∈p.ready.getD n [],0<=z∧z<(p.IA.length:Int) by rw[aa,ac J];exact ve P _ (av J));have B:=hid bt;have aA:=hid (eO tg W);have c6:=bh bt e6;have x6:W.cell? ⟨q,c,none⟩=some (.int .i64 (-1)):=by rw[(bt.IJ e6 hc).1,hz]
 go_enter Tryz.func44,Tryz.ntmps44
 go_upto_region 1 with fail
 go_quiet (fail)
 have B3:=hid (B.below (aE (ag W.heap.size W) nq));have K3:=hid (aA.trans (.below (aE (ag W.heap.size W) nq)));generalize World.drewN _ _=w2 at*;have B:=B3;have aA:=K3;generalize bV:w2=F at*;have ay:=hid (fun Y (h:di Y wb tg V (p))=>jQ wb tg V (p) Y h a8 a7 bq);rw[br.out] at ay;have c6:=bh B E6;have x6:F.cell? ⟨q,c,none⟩=some (.int .i64 (-1)):=by rw[(B.IJ aJ aR).1,bc.out]
 go_wp2_with fail
 go_loopw [5] (fun i wr=>∃(k:Nat) (x:Int),k<=4∧Hid (x=(k:Int) - 1)∧i=.int .i64 x∧Hid (Below F.heap.size F wr∧rnx (p) m c 4=rnx (p) m c k)) (fun i _=>(intOf i+1).toNat)
 case atStart=>exact⟨4,3,oA,hid rfl,rfl,hid ⟨ag _ _,rfl⟩⟩
 case round=>
  obtain⟨k,x,hk,HX,rfl,HH⟩:=hrel;have G:=hid HH.1;have HV:=hid HH.2;by_cases h0:0<=x
  ·obtain⟨j,rfl⟩:∃j:Nat,x=j:=⟨x.toNat,oA⟩
   obtain rfl:k=j+1:=by have:=HX.out;omega
   obtain⟨n,J⟩:∃n:Nat,c*4+j=n:=⟨_,rfl⟩
   have cg:(c:Int)*4+(j:Int)=(n:Int):=oA;have aH:n<(p).ready.length:=by have:=bp.out;omega
   have cx:(n:Int)<((p).ready.length:Int):=oA;have aK:=hid aH;have aL:=hid (show rnx (p) m c 4=if 0<=ixP (dmB (p) m) ((p).ready.getD n []) then {p with IC:=(p).IC.set c (((p).ready.getD n []).getD (ixP (dmB (p) m) ((p).ready.getD n [])).toNat 0),ready:=(p).ready.set n (((p).ready.getD n []).take (ixP (dmB (p) m) ((p).ready.getD n [])).toNat++((p).ready.getD n []).drop ((ixP (dmB (p) m) ((p).ready.getD n [])).toNat+1))} else rnx (p) m c j by rw[HV.out, <-J];rfl);have aF:=(B.below G).o.ready;rw[H.out] at aF;obtain⟨u,cu,hu⟩:=aF.at aH;unfold ci at hu;have bu:=hid hu.2;have bJ:=dS hu.1;obtain⟨qu,d,g,rfl,bI⟩:=hu.shape;have bs:=hid bJ;have c7:=bh (B.below G) H;have cm:(j:Int)<=3:=oA;have aw:=hid (ba.out n aH);have bb:=hid (bv.out n aH);have HQ:=hid bI;have aP:=hid (show ((p).ready.getD n []).length<=g by
    rcases hu.1.2 with ⟨N,D⟩|⟨_,_,_,N,_,_,D,_⟩
    ·simp only at D;omega
    ·cases N;exact D)
   generalize ct:(p).ready.getD n []=l at*;have cq:(l.length:Int)<=1000:=by have:=aw.out;omega
   generalize wr=wo at*;go_wp2_with fail
   go_loopw [7] (fun i wr=>∃(i':Nat),i'<=l.length∧i=.int .i64 i'∧Hid (Below wo.heap.size wo wr∧∀j (a:j<l.length),j<i'->dmB (p) m l[j]=false)) (fun i _=>l.length - (intOf i).toNat)
   case atStart=>exact⟨0,oA,rfl,hid ⟨ag _ _,fun j _ h=>oA⟩⟩
   case round=>
    obtain⟨i,hi,rfl,HH⟩:=hrel;have U:=hid HH.1;have HN:=hid HH.2;by_cases an:i<l.length
    ·have cw:(i:Int)<(l.length:Int):=oA;have bH:=HQ.out oA;subst bH;have al:=hid ((B.below G).below U);have ad:=hid (show ∀j (a:j<l.length),wr.cell? ⟨d,j,none⟩=some (.int .i64 l[j]) from fun j a=>by
      obtain⟨q2,b2,o2,bR,e2,bG,bO⟩:=bs.below U
      cases e2
      have O:=bG oA
      cases O
      have:=bO j a;rw[aC] at this;exact this)
     have ax:=hid (bb.out _ (av an));have ck:=ad.out i an;obtain⟨y,hy⟩:∃y,l[i]=y:=⟨_,rfl⟩
     rw[hy] at ck ax;have HY:=hid hy;obtain⟨y',bK⟩:∃y':Nat,y=y':=⟨y.toNat,by have:=ax.1;omega⟩
     subst bK;have bM:=ax.2;have c3:=bh al aO;have a4:=al.IH aO (i:=y') oA (show 19<20 by omega);have M:=hid (show dmB (p) m y'=((p).IA.getD y' bl 19==m) by unfold dmB;rw[af]);generalize (p).IA.getD y' bl 19=z at a4 M;by_cases a3:z=m
     ·subst a3;rw[beq_self_eq_true] at M;have az:=hid (show ixP (dmB (p) z) l=i by
       have N:l.findIdx (dmB (p) z)=i:=by
        rw[List.findIdx_eq an];exact⟨by rw[HY.out];exact M,fun j a=>HN.out j oA a⟩
       unfold ixP;rw[N,ah an])
      have aS:=hid (show rnx (p) z c 4={p with IC:=(p).IC.set c y',ready:=(p).ready.set n (l.take i++l.drop (i+1))} by
       rw[aL.out,az.out,ah oA,af,aa (l:=l),ac an,aG,HY.out])
      go_upto_region 12 with fail
      go_quiet (first|(go_at_call 80;refine Calls.quiet_of (ay.out _ (al.below (aD wr _)))))
      have BY:=hid (al.below (aE (ag wr.heap.size wr) nq));have KY:=hid (show Kt tg tg F (wr.drewN nq) from .below (btr (btr G U) (aE (ag wr.heap.size wr) nq)));have aV:(wr.drewN nq).cell? ⟨d,i,none⟩=some (.int .i64 y'):=ck;have aN:=hid (show ∀j (a:j<l.length),(wr.drewN nq).cell? ⟨d,j,none⟩=some (.int .i64 l[j]) from fun j a=>ad.out j a);clear ck c3 a4 ad;have ad:=aN;generalize World.drewN _ _=s at*;have bg:=hid (show d≠q from fun e=>by
       have N:=bu.out d rfl;have D:=B.o.IC;rw[E6.out] at D;have O:=D.2 q rfl;rw[e] at N;omega)
      clear ay aN az aL HN;obtain⟨y,a2⟩:∃y:Int,(y':Int)=y:=⟨_,rfl⟩
      rw[a2] at aV aS;clear a2 HY ax bM M;go_upto_region 13 with fail
      have c6:s.cell? ⟨wb,6,none⟩=some (.slice (some ⟨q,0,none⟩) p.IC.length aB):=by rw[ai BY.r (k:=6) rfl,E6.out]
      have Q:Hid (Below s.heap.size s s.drew):=hid (aD s 1);obtain⟨x6,f6⟩:=(BY.below Q).IJ aJ aR;obtain⟨b7,k7⟩:=(BY.below Q).IK aJ c y;have B7:=hid (show di (s.setCell ⟨q,c,none⟩ (.int .i64 y)).drew wb tg V {p with IC:=(p).IC.set c y} from b7);have K7:=hid (show Kt tg tg F (s.setCell ⟨q,c,none⟩ (.int .i64 y)).drew from (KY.trans (.below Q)).trans k7);have S7:=hid (show (s.setCell ⟨q,c,none⟩ (.int .i64 y)).drew.cell? ⟨wb,6,none⟩=some (.slice (some ⟨q,0,none⟩) p.IC.length aB) by rw[ai B7.r (k:=6) rfl,E6.out]);have C7:=hid (show ∀j (a:j<l.length),(s.setCell ⟨q,c,none⟩ (.int .i64 y)).drew.cell? ⟨d,j,none⟩=some (.int .i64 l[j]) from fun j a=>(World.cell?_setCell_far s ⟨q,c,none⟩ ⟨d,j,none⟩ _ (fun e=>bg.out e.symm)).trans (ad.out j a));clear b7 k7;refine dZ (S:=fun X=>X.cell? ⟨wb,6,none⟩=some (.slice (some ⟨q,0,none⟩) p.IC.length aB)) (R:=fun X=>X.cell? ⟨d,i,none⟩=some (.int .i64 y)) [10] oK c6 aV (fun bB bA=>?_);have A:=hid bB;have t:=hid bA;refine tF 0 (.pointer (some ⟨wb,0,none⟩)) rfl A (fun _=>t.out) ?_;simp only[jj];refine tF 1 (.pointer (some ⟨wb,0,none⟩)) rfl A (fun _=>t.out) ?_;simp only[jj];refine tF 2 (.pointer (some ⟨wb,6,none⟩)) rfl A (fun _=>t.out) ?_;simp only[jj];refine tG 3 (.slice (some ⟨q,0,none⟩) p.IC.length aB) rfl A (fun _=>t.out) ?_;simp only[jj];refine tF 4 (.int .i64 c) rfl A (fun _=>t.out) ?_;simp only[jj];refine tF 5 (.slice (some ⟨d,0,none⟩) l.length g) rfl A (fun _=>t.out) ?_;simp only[jj];refine tF 6 (.int .i64 i) rfl A (fun _=>t.out) ?_;simp only[jj];refine tF 7 (.pointer (some ⟨d,i,none⟩)) rfl A (fun _=>t.out) ?_;simp only[jj];refine ek (i:=8) (v:=.int .i64 y) rfl oK oK oK oK oK oK (fun _ _ _ h=>h) (Or.inl ⟨oR,fun W h=>by have O:=h.2;clear h;go_simp⟩) A (fun _=>t.out) ?_;simp only[jj];refine tF 9 (.pointer (some ⟨q,c,none⟩)) rfl A (fun _=>t.out) ?_;simp only[jj];refine r1 10 rfl (fun K E=>?_);go_simp
      refine E _ _ S7 (eK oK) (fun _ _=>?_)
      try simp only[Act.put]
      refine dL oK ?_ _;generalize World.drew (World.setCell _ _ _)=b at*;go_upto_region 14 with fail
      have bQ:=hid H.out;have aF:=B7.o.ready;have aM:fE b tg 9 13 22 3 1 (p).ready.length (.slice (some ⟨C,0,none⟩) (p).ready.length (p).ready.length) (ci (p).ready):=by rw[<-H.out];exact aF
      have a6:=hid (fun X (h:Below b.heap.size b X)=>(aM.kp (T:=fun _=>False) (.IG h) (fun _ _=>rfl) (fun _ _ e=>e)).fr n);have KS:=hid (fun X (h:Below b.heap.size b X)=>show X.cell? ⟨wb,7,none⟩=some (.slice (some ⟨C,0,none⟩) (p).ready.length (p).ready.length) by rw[ai (B7.below h).r (k:=7) rfl,H.out]);obtain⟨u1,aW, -⟩:=aM.at aK.out;have KR:=hid (fun X (h:Below b.heap.size b X)=>(h.cell (aj _ _ aW)).trans aW);have a5:=hid (fun X v (zz:List Int) (h:Below b.heap.size b X) (L:X.ownsRow b.heap.size 3 1 v zz.length (d6 zz))=>show di (X.setCell ⟨C,n,none⟩ v) wb (fX tg b.heap.size (13+3*n)) V {p with IC:=(p).IC.set c y,ready:=(p).ready.set n zz}∧Kt tg (fX tg b.heap.size (13+3*n)) F (X.setCell ⟨C,n,none⟩ v) from by
       obtain⟨bF,aZ⟩:=aM.put (tag':=fX tg b.heap.size (13+3*n)) (w1:=X) (u:=v) (c:=(zz.length,d6 zz)) (j:=n) aK (fun j=>oA) (.IG h) (fun k hk=>dw hk) ⟨L.mono (bN _),fun k e=>by
        unfold fX;rw[ae (by have:=(L.lt k e).1;omega)]⟩
       refine⟨B7.ready aZ (fun k hk=>dw hk) ?_,K7.trans (Kt.of (tag':=fX tg b.heap.size (13+3*n)) aZ (fun k e=>by rcases e with e|⟨j,e⟩<;>omega) (fun k hk=>dw hk))⟩;rw[au,H.out,jo _ _ aK];exact bF)
      obtain⟨q1,a0⟩:∃q1,(if g=i+1 then (some ⟨d,0,none⟩:Option Addr) else some ⟨d,i+1,none⟩)=q1:=⟨_,rfl⟩
      have Q:=hid (aD b 1);have bY:¬(g<i):=by have:=aP.out;omega
      have cc:¬((l.length:Int)<(i:Int)+1):=oA;have cd:(0:Int)<=(i:Int)+1:=oA;have cy:((i:Int)+1).toNat=i+1:=oA;refine wp_region_held_drew (S:=fun X=>X.cell? ⟨wb,7,none⟩=some (.slice (some ⟨C,0,none⟩) (p).ready.length (p).ready.length)) oK (KS.out _ Q) (fun bz=>?_);have f:=hid bz;refine tk 0 (.pointer (some ⟨wb,0,none⟩)) rfl f ?_;simp only[jj];refine tk 1 (.pointer (some ⟨wb,0,none⟩)) rfl f ?_;simp only[jj];refine tk 2 (.pointer (some ⟨wb,7,none⟩)) rfl f ?_;simp only[jj];refine eT 3 (.slice (some ⟨C,0,none⟩) (p).ready.length (p).ready.length) rfl (Or.inl ⟨oR,fun W h=>by have O:=h;clear h;go_simp⟩) f ?_;simp only[jj];refine tk 4 (.int .i64 c) rfl f ?_;simp only[jj];refine eT 5 (.int .i64 (c*4)) rfl (Or.inl ⟨oR,fun W h=>by clear h;go_simp;exact bZ _ oA oA⟩) f ?_;simp only[jj];refine tk 6 (.int .i64 j) rfl f ?_;simp only[jj];refine eT 7 (.int .i64 n) rfl (Or.inl ⟨oR,fun W h=>by clear h;go_simp;exact bZ _ oA oA⟩) f ?_;simp only[jj];refine tk 9 (.slice (some ⟨d,0,none⟩) l.length g) rfl f ?_;simp only[jj];refine tk 10 (.int .i64 i) rfl f ?_;simp only[jj];refine tk 11 (.slice (some ⟨d,0,none⟩) i g) rfl f ?_;simp only[jj];refine tk 13 (.slice (some ⟨d,0,none⟩) l.length g) rfl f ?_;simp only[jj];refine tk 14 (.int .i64 i) rfl f ?_;simp only[jj];refine eT 15 (.int .i64 ((i:Int)+1)) rfl (Or.inl ⟨oR,fun W h=>by clear h;go_simp;exact bZ _ oA oA⟩) f ?_;simp only[jj];refine tk 16 (.slice q1 (l.length - (i+1)) (g - (i+1))) rfl f ?_;simp only[jj];have I:=hid (show (l.take i).length=i by rw[bL];omega);have am:=hid (show (l.drop (i+1)).length=l.length - (i+1) by rw[eU]);obtain⟨o1,bE,bC⟩:∃o1,q1=some ⟨d,o1,none⟩∧∀j (a:j<(l.drop (i+1)).length),b.cell? ⟨d,o1+j,none⟩=some (.int .i64 (l.drop (i+1))[j]):=by
       by_cases aY:g=i+1
       ·exact⟨0,by rw[<-a0,ah aY],fun j a=>by have:=aP.out;rw[am.out] at a;omega⟩
       ·exact⟨i+1,by rw[<-a0,ae aY],fun j a=>by
         rw[List.getElem_drop];exact C7 (i+1+j) (by rw[am.out] at a;omega)⟩
      have aQ:=hid bC;have a9:=hid (show ed b (.slice (some ⟨d,0,none⟩) i g) (l.take i) from⟨some ⟨d,0,none⟩,d,0,g,by rw[I.out],fun _=>rfl,fun j a=>by
       rw[List.getElem_take,aC];exact C7 j (by rw[I.out] at a;omega)⟩)
      subst bE;have E8:=hid (show (b.alloc (.cells #[] 3)).drew.ownsRow b.heap.size 3 1 (.slice (some ⟨b.heap.size,0,none⟩) 0 0) 0 [] from (du b #[] 0 (aq _) (bN _) oS));have ao:=hid ((bal (ag _ b) (.cells #[] 3)).drew);refine wpAnyH_ready (rs:=[8]) oK oS (AllReadyH.cons rfl (fun K E=>?_) AllReadyH.nil);go_simp
      refine E _ _ (KS.out _ ao) (fun _=>?_)
      try simp only[Act.put,jD,jE,jF]
      generalize World.drew (World.alloc _ _)=X5 at*;obtain⟨q2,c2,Z,hr,L,hb, -⟩:=hY E8 ao.size (a9.below ao) (by rw[I.out];have:=aw.out;omega);have bj:=hid L;rw[I.out] at hr;have bn:=hid hr;have ap:=hid (ao.trans hb);refine wpAnyH_ready (rs:=[12]) oK oS (AllReadyH.cons rfl (fun K E=>?_) AllReadyH.nil);refine fL _ _ 22 rfl (.slice (some ⟨b.heap.size,0,none⟩) 0 0) (.slice (some ⟨d,0,none⟩) i g) (.slice q2 i c2) rfl rfl bn ?_;refine E _ _ (KS.out _ ap) (fun _=>?_);simp only[jj];obtain⟨q3,c3,Z2,hr,L,hb⟩:=sR (c:=g - (i+1)) bj ap.size (by rw[I.out];have:=aw.out;omega) (ys:=l.drop (i+1)) (by rw[am.out];have:=aw.out;omega) (fun j a=>(ap.cell (aj _ _ (aQ.out j a))).trans (aQ.out j a));rw[I.out,am.out] at hr;have bo:=hid hr;rw[I.out,am.out] at L;have bk:=hid L;have ab:=hid (ap.trans hb);refine wpAnyH_ready (rs:=[17]) oK oS (AllReadyH.cons rfl (fun K E=>?_) AllReadyH.nil);refine fL _ _ 22 rfl (.slice q2 i c2) (.slice (some ⟨d,o1,none⟩) (l.length - (i+1)) (g - (i+1))) (.slice q3 (i+(l.length - (i+1))) c3) rfl rfl bo ?_;refine E _ _ (KS.out _ ab) (fun _=>?_);simp only[jj];refine tk 18 (.pointer (some ⟨C,n,none⟩)) rfl (KS.out _ ab) ?_;simp only[jj];have bT:=KR.out _ ab;have bU:=a6.out _ ab;obtain⟨aX,bD⟩:=a5.out Z2 _ _ ab bk;have B9:=hid aX;have K9:=hid bD;have S9:=hid (show (Z2.setCell ⟨C,n,none⟩ (.slice q3 (i+(l.length - (i+1))) c3)).cell? ⟨wb,7,none⟩=some (.slice (some ⟨C,0,none⟩) (p).ready.length (p).ready.length) by rw[ai aX.r (k:=7) rfl,H.out]);refine wpAnyH_ready (rs:=[19]) oK oS (AllReadyH.cons rfl (fun K E=>?_) AllReadyH.nil);go_simp
      refine E _ _ S9 (fun _=>?_)
      try simp only[Act.put]
      refine dK oK ?_ _;generalize World.setCell _ _ _=Z9 at*;go_wp2_with fail
      exact ar (aI rfl _ _ _) rfl ⟨rfl,_,by rw[aU.out,aS.out];exact B9,aA.trans K9⟩
     ·have bP:(z==m)=false:=by simpa using a3
      rw[bP] at M;go_upto_region 12 with fail
      go_quiet (first|(go_at_call 80;refine Calls.quiet_of (ay.out _ (al.below (aD wr _)))))
      have bf:=hid (show Below wo.heap.size wo (wr.drewN nq)∧∀j (a:j<l.length),j<i+1->dmB (p) m l[j]=false from⟨btr U (aE (ag wr.heap.size wr) nq),fun j a h=>by
       by_cases e:j=i
       ·subst e;rw[HY.out];exact M
       ·exact HN j a oA⟩)
      generalize World.drewN _ _=s at*;go_wp2_with fail
      exact⟨⟨i+1,oA,by go_num,bf⟩,by simp[intOf];omega⟩
    ·obtain rfl:i=l.length:=oA;have cj:¬((l.length:Int)<(l.length:Int)):=oA;have az:=hid (show ixP (dmB (p) m) l= -1 by
      unfold ixP;rw[ae];intro h;have D:=dR (w:=h);have O:=HN.out _ h h;rw[O] at D
      cases D)
     have HR:=hid (show Below F.heap.size F wr∧rnx (p) m c 4=rnx (p) m c j from⟨btr G U,by rw[aL.out,ae (by rw[az.out];decide)]⟩);go_wp2_with fail
     exact⟨⟨j,(j:Int) - 1,oA,hid rfl,by go_num,HR⟩,by simp[intOf]⟩
  ·have cz:=h0;obtain rfl:k=0:=by have:=HX.out;omega
   have HR:=hid (show rnx (p) m c 4=p by rw[HV.out];rfl);go_wp2_with fail
   exact aT (aI rfl _ _ _) rfl ⟨rfl,tg,by rw[aU.out,HR.out];exact B.below G,aA.trans (.below G)⟩
theorem qZ (wb:Nat) (tag:Nat->Nat) (V:Nat->Value) (p:PW) (c t:Nat) (W:World) (bt:di W wb tag V p) (d:p.Fits) (e:Snd p) (n:c<p.IC.length) (z:t<p.kinds.length) (f:p.IC.getD c (-1)=t) (a:dmB p (tnV p) t=true):
  Calls Tryz.prog 44 #[.pointer (some ⟨wb,0,none⟩),.int .i64 c] W fun r W'=>r=.returned (.tuple #[])∧∃tag',di W' wb tag' V (rlP p c)∧Kt tag tag' W W':=by
 have K:(p.IC.length:Int)<=1000:=by have:=d.IC;omega
 have H:(c:Int)<(p.IC.length:Int):=oA;have I:(c:Int)<=1000:=oA;obtain⟨l,F,e6⟩:=bt.o.IC.form oA;have i:=hid e6;obtain⟨m,q⟩:∃m,tnV p=m:=⟨_,rfl⟩
 have A:t<p.IA.length:=by rw[e.lf.IA];exact z
 have M:(t:Int)<(p.IA.length:Int):=oA;have J:(p.IA.length:Int)<=1000:=by have:=d.IA;omega
 obtain⟨G,E,k⟩:=bt.o.IA.form oA;have v:=hid (show 0<=p.time∧p.time<=1000000 by have h:=e.tm;unfold dH at h;simpa using h);have j:=hid (fun Y (h:di Y wb tag V p)=>jQ wb tag V p Y h d e.lf.d1 v);rw[q] at j;have c6:=bh bt e6;have C:W.cell? ⟨l,c,none⟩=some (.int .i64 t):=by rw[(bt.IJ e6 n).1,f]
 have D:=bh bt k;have B:=bt.IH k A (show 19<20 by omega);have L:(0:Int)<=(t:Int):=oA;have g:=hid bt;have u:=hid (show rlP p c=p by unfold rlP;rw[f,ae oA,a,ah rfl]);rw[q] at a;unfold dmB at a;rw[af] at a;have y:=eq_of_beq a;rw[y] at B;have s:=hid n;have w:=hid f;go_enter Tryz.func44,Tryz.ntmps44
 go_upto_region 1 with fail
 go_quiet (first|(go_at_call 80;refine Calls.quiet_of (j.out _ (g.below (aD W _)))))
 have b:=hid (g.below (aE (ag W.heap.size W) nq));have x:=hid (show Kt tag tag W (W.drewN nq) from .below (aE (ag W.heap.size W) nq));generalize World.drewN _ _=w1 at*;have c6:=bh b i;have C:w1.cell? ⟨l,c,none⟩=some (.int .i64 t):=by rw[(b.IJ i s).1,w.out]
 go_wp2_with fail
 exact ar (aI rfl _ _ _) rfl ⟨rfl,tag,by rw[u.out];exact b,x.out⟩
theorem sB (wb:Nat) (tag:Nat->Nat) (V:Nat->Value) (p:PW) (c t:Nat) (W:World) (bt:di W wb tag V p) (A:p.Fits) (J:∀l∈p.ready,l.length<=50) (M:Snd p) (hc:c<p.IC.length) (ht:t<p.kinds.length) (hk:p.kinds[t]=6) (hz:p.IC.getD c (-1)=t) (al:dmB p (tnV p) t=false):
  Calls Tryz.prog 44 #[.pointer (some ⟨wb,0,none⟩),.int .i64 c] W fun r W'=>r=.returned (.tuple #[])∧∃tag',di W' wb tag' V (rlP p c)∧Kt tag tag' W W':=by
 have cI:(p.IC.length:Int)<=1000:=by have:=A.IC;omega
 have cw:(c:Int)<(p.IC.length:Int):=oA;have cx:(c:Int)<=1000:=oA;obtain⟨g,ay,e6⟩:=bt.o.IC.form oA;have P:=hid e6;obtain⟨m,hm⟩:∃m,tnV p=m:=⟨_,rfl⟩
 have bg:t<p.IA.length:=by rw[M.lf.IA];exact ht
 have cO:(t:Int)<(p.IA.length:Int):=oA;have cE:(p.IA.length:Int)<=1000:=by have:=A.IA;omega
 obtain⟨g3,a6,e3⟩:=bt.o.IA.form oA;have aK:=hid (show 0<=p.time∧p.time<=1000000 by have h:=M.tm;unfold dH at h;simpa using h);have ab:=hid (fun Y (h:di Y wb tag V p)=>jQ wb tag V p Y h A M.lf.d1 aK);rw[hm] at ab;have c6:=bh bt e6;have x6:W.cell? ⟨g,c,none⟩=some (.int .i64 t):=by rw[(bt.IJ e6 hc).1,hz]
 have c3:=bh bt e3;have aO:=bt.IH e3 bg (show 19<20 by omega);have cN:(0:Int)<=(t:Int):=oA;have B0:=hid bt;obtain⟨r1,r2,r3,r4⟩:=lN M ht hk;obtain⟨q,E⟩:∃q,wnP {p with IC:=p.IC.set c (-1)} t (rdN p t)=q:=⟨_,rfl⟩
 have a2:=hid (show rlP p c=rnx q m c 4 by unfold rlP;rw[hz,ae oA,al,ae oD,af,hm,E]);rw[hm] at al;unfold dmB at al;rw[af] at al;have bR:¬(p.IA.getD t bl 19=m):=by simpa using al
 generalize p.IA.getD t bl 19=z at aO bR al;have bp:=hid hc;have bb:({p with IC:=p.IC.set c (-1)}:PW).Fits:=⟨A.IE,A.kinds,A.IB,A.IA,A.lines,A.line,A.bits,by show (p.IC.set c (-1)).length<=1000;rw[au];exact A.IC,A.ready,A.next,A.ID,A.IF⟩;have a4:=hid (fun X (h:di X wb tag V {p with IC:=p.IC.set c (-1)})=>gZ wb tag V {p with IC:=p.IC.set c (-1)} t (rdN p t) X h bb bg r1 r3 r4 r2);rw[E] at a4;have a3:=hid (show q.IA.length=p.IA.length by rw[<-E];show ((({p with IC:=p.IC.set c (-1)}:PW).task t 9 1).task t 14 (-1)).IA.length=_;rw[ap,ap]);have aZ:=hid (show q.ready.length=p.ready.length by rw[<-E];show (p.ready.set _ _).length=_;rw[au]);have aw:=hid (show q.IC.length=p.IC.length by rw[<-E];show (p.IC.set _ _).length=_;rw[au]);have bH:=hid (show tnV q=m by rw[<-E];exact hm);have bv:=hid (show q.IC.getD c (-1)= -1 by rw[<-E];show (p.IC.set c (-1)).getD c (-1)= -1;rw[aa,dt hc];rfl);have aF:=hid (show q.Fits by rw[<-E];exact AF bb J t (rdN p t));have bG:=hid (show c*4+4<=q.ready.length by rw[aZ.out,M.lf.ready];omega);have bq:=hid (show 1<=q.IF.length by rw[<-E];exact M.lf.d1);have aK:=hid (show 0<=q.time∧q.time<=1000000 by rw[<-E];exact aK);have aQ:=hid (show V 6=.slice (some ⟨g,0,none⟩) q.IC.length ay by rw[aw.out];exact e6);have aY:=hid (show c<q.IC.length by rw[aw.out];exact hc);obtain⟨F,eR⟩:=bt.o.ready.form;have Q:=hid (show V 7=.slice (some ⟨F,0,none⟩) q.ready.length q.ready.length by rw[aZ.out];exact eR);have cK:(q.ready.length:Int)<=1000:=by have:=aF.ready;omega
 have cF:(q.IA.length:Int)<=1000:=by have:=aF.IA;omega
 have aW:=hid (show V 3=.slice (some ⟨g3,0,none⟩) q.IA.length a6 by rw[a3.out];exact e3);have bs:=hid (fun (n:Nat) (J:n<q.ready.length)=>show (q.ready.getD n []).length<=1000 by rw[aa,ac J];exact aF.next _ (av J));have bF:=hid (show ∀l∈q.ready,∀z∈l,0<=z∧z<(q.IA.length:Int) by
  rw[a3.out, <-E];intro l hl z D;have bT:=hl;rcases aP bT with f|rfl
  ·exact ve M l f z D
  ·rcases dA.1 D with f|f
   ·rw[aa] at f
    cases e:p.ready[rdN p t]? with
    |none=>rw[e] at f;cases f
    |some y=>
     rw[e,aG] at f;exact ve M y (cV e) z f
   ·rw[cG] at f;omega)
 have bK:=hid (fun (n:Nat) (J:n<q.ready.length)=>show ∀z∈q.ready.getD n [],0<=z∧z<(q.IA.length:Int) by rw[aa,ac J];exact bF _ (av J));go_enter Tryz.func44,Tryz.ntmps44
 go_upto_region 1 with fail
 go_quiet (first|(go_at_call 80;refine Calls.quiet_of (ab.out _ (B0.below (aD W _)))))
 have B1:=hid (B0.below (aE (ag W.heap.size W) nq));have K1:=hid (show Kt tag tag W (W.drewN nq) from .below (aE (ag W.heap.size W) nq));generalize World.drewN _ _=w1 at*;have c6:=bh B1 P;obtain⟨x6,f6⟩:=B1.IJ P bp;obtain⟨b2,k2⟩:=B1.IK P c (-1);have B5:=hid b2;have K5:=hid (K1.trans k2);go_upto_region 3 with fail
 generalize World.setCell _ _ _=w2 at*;go_wp2_with fail
 refine (a4.out _ B5).mono ?_;rintro r w3 ⟨rfl,tg,D,f⟩;have N:=hid D;have a5:=hid (K5.trans f);generalize cv:w3=L at*;have ab:=hid (fun Y (h:di Y wb tg V (q))=>jQ wb tg V (q) Y h aF bq aK);rw[bH.out] at ab;have c6:=bh N P;have x6:L.cell? ⟨g,c,none⟩=some (.int .i64 (-1)):=by rw[(N.IJ aQ aY).1,bv.out]
 go_wp2_with fail
 go_loopw [5] (fun i wr=>∃(k:Nat) (x:Int),k<=4∧Hid (x=(k:Int) - 1)∧i=.int .i64 x∧Hid (Below L.heap.size L wr∧rnx (q) m c 4=rnx (q) m c k)) (fun i _=>(intOf i+1).toNat)
 case atStart=>exact⟨4,3,oA,hid rfl,rfl,hid ⟨ag _ _,rfl⟩⟩
 case round=>
  obtain⟨k,x,hk,HX,rfl,HH⟩:=hrel;have O:=hid HH.1;have HV:=hid HH.2;by_cases h0:0<=x
  ·obtain⟨j,rfl⟩:∃j:Nat,x=j:=⟨x.toNat,oA⟩
   obtain rfl:k=j+1:=by have:=HX.out;omega
   obtain⟨n,J⟩:∃n:Nat,c*4+j=n:=⟨_,rfl⟩
   have cB:(c:Int)*4+(j:Int)=(n:Int):=oA;have aN:n<(q).ready.length:=by have:=bG.out;omega
   have cM:(n:Int)<((q).ready.length:Int):=oA;have aR:=hid aN;have aS:=hid (show rnx (q) m c 4=if 0<=ixP (dmB (q) m) ((q).ready.getD n []) then {q with IC:=(q).IC.set c (((q).ready.getD n []).getD (ixP (dmB (q) m) ((q).ready.getD n [])).toNat 0),ready:=(q).ready.set n (((q).ready.getD n []).take (ixP (dmB (q) m) ((q).ready.getD n [])).toNat++((q).ready.getD n []).drop ((ixP (dmB (q) m) ((q).ready.getD n [])).toNat+1))} else rnx (q) m c j by rw[HV.out, <-J];rfl);have aM:=(N.below O).o.ready;rw[Q.out] at aM;obtain⟨u,cu,hu⟩:=aM.at aN;unfold ci at hu;have bJ:=hid hu.2;have cc:=dS hu.1;obtain⟨qu,d,B,rfl,bY⟩:=hu.shape;have bI:=hid cc;have c7:=bh (N.below O) Q;have cD:(j:Int)<=3:=oA;have aH:=hid (bs.out n aN);have bu:=hid (bK.out n aN);have HQ:=hid bY;have aX:=hid (show ((q).ready.getD n []).length<=B by
    rcases hu.1.2 with ⟨D,f⟩|⟨_,_,_,D,_,_,f,_⟩
    ·simp only at f;omega
    ·cases D;exact f)
   generalize cJ:(q).ready.getD n []=l at*;have cH:(l.length:Int)<=1000:=by have:=aH.out;omega
   generalize wr=wo at*;go_wp2_with fail
   go_loopw [7] (fun i wr=>∃(i':Nat),i'<=l.length∧i=.int .i64 i'∧Hid (Below wo.heap.size wo wr∧∀j (a:j<l.length),j<i'->dmB (q) m l[j]=false)) (fun i _=>l.length - (intOf i).toNat)
   case atStart=>exact⟨0,oA,rfl,hid ⟨ag _ _,fun j _ h=>oA⟩⟩
   case round=>
    obtain⟨i,hi,rfl,HH⟩:=hrel;have BI:=hid HH.1;have HN:=hid HH.2;by_cases az:i<l.length
    ·have cL:(i:Int)<(l.length:Int):=oA;have bX:=HQ.out oA;subst bX;have ao:=hid ((N.below O).below BI);have an:=hid (show ∀j (a:j<l.length),wr.cell? ⟨d,j,none⟩=some (.int .i64 l[j]) from fun j a=>by
      obtain⟨q2,b2,o2,cq,e2,bW,cj⟩:=bI.below BI
      cases e2
      have h3:=bW oA
      cases h3
      have:=cj j a;rw[aC] at this;exact this)
     have aJ:=hid (bu.out _ (av az));have ck:=an.out i az;obtain⟨y,hy⟩:∃y,l[i]=y:=⟨_,rfl⟩
     rw[hy] at ck aJ;have HY:=hid hy;clear hy;obtain⟨y',cd⟩:∃y':Nat,y=y':=⟨y.toNat,by have:=aJ.1;omega⟩
     subst cd;have cg:(y':Int)<((q).IA.length:Int):=aJ.2;have c3:wr.cell? ⟨wb,3,none⟩=some (.slice (some ⟨g3,0,none⟩) (q).IA.length a6):=by rw[ai ao.r (k:=3) rfl,aW.out]
     have aO:=ao.IH aW (i:=y') oA (show 19<20 by omega);have ad:=hid (show dmB (q) m y'=((q).IA.getD y' bl 19==m) by unfold dmB;rw[af]);generalize (q).IA.getD y' bl 19=z at aO ad;by_cases bk:z=m
     ·subst bk;rw[beq_self_eq_true] at ad;have aL:=hid (show ixP (dmB (q) z) l=i by
       have D:l.findIdx (dmB (q) z)=i:=by
        rw[List.findIdx_eq az];exact⟨by rw[HY.out];exact ad,fun j a=>HN.out j oA a⟩
       unfold ixP;rw[D,ah az])
      have a0:=hid (show rnx (q) z c 4={q with IC:=(q).IC.set c y',ready:=(q).ready.set n (l.take i++l.drop (i+1))} by
       rw[aS.out,aL.out,ah oA,af,aa (l:=l),ac az,aG,HY.out])
      go_upto_region 12 with fail
      go_quiet (first|(go_at_call 80;refine Calls.quiet_of (ab.out _ (ao.below (aD wr _)))))
      have BY:=hid (ao.below (aE (ag wr.heap.size wr) nq));have KY:=hid (show Kt tg tg L (wr.drewN nq) from .below (btr (btr O BI) (aE (ag wr.heap.size wr) nq)));have a7:(wr.drewN nq).cell? ⟨d,i,none⟩=some (.int .i64 y'):=ck;have aV:=hid (show ∀j (a:j<l.length),(wr.drewN nq).cell? ⟨d,j,none⟩=some (.int .i64 l[j]) from fun j a=>an.out j a);clear ck c3 aO an;have an:=aV;generalize World.drewN _ _=C at*;have bA:=hid (show d≠g from fun e=>by
       have D:=bJ.out d rfl;have f:=N.o.IC;rw[P.out] at f;have h3:=f.2 g rfl;rw[e] at D;omega)
      clear ab aV aL aS HN;obtain⟨y,bj⟩:∃y:Int,(y':Int)=y:=⟨_,rfl⟩
      rw[bj] at a7 a0;clear bj HY aJ cg ad;go_upto_region 13 with fail
      have c6:C.cell? ⟨wb,6,none⟩=some (.slice (some ⟨g,0,none⟩) p.IC.length ay):=by rw[ai BY.r (k:=6) rfl,P.out]
      have BD:Hid (Below C.heap.size C C.drew):=hid (aD C 1);obtain⟨x6,f6⟩:=(BY.below BD).IJ aQ aY;obtain⟨b7,k7⟩:=(BY.below BD).IK aQ c y;have B7:=hid (show di (C.setCell ⟨g,c,none⟩ (.int .i64 y)).drew wb tg V {q with IC:=(q).IC.set c y} from b7);have K7:=hid (show Kt tg tg L (C.setCell ⟨g,c,none⟩ (.int .i64 y)).drew from (KY.trans (.below BD)).trans k7);have S7:=hid (show (C.setCell ⟨g,c,none⟩ (.int .i64 y)).drew.cell? ⟨wb,6,none⟩=some (.slice (some ⟨g,0,none⟩) p.IC.length ay) by rw[ai B7.r (k:=6) rfl,P.out]);have C7:=hid (show ∀j (a:j<l.length),(C.setCell ⟨g,c,none⟩ (.int .i64 y)).drew.cell? ⟨d,j,none⟩=some (.int .i64 l[j]) from fun j a=>(World.cell?_setCell_far C ⟨g,c,none⟩ ⟨d,j,none⟩ _ (fun e=>bA.out e.symm)).trans (an.out j a));clear b7 k7;refine dZ (S:=fun X=>X.cell? ⟨wb,6,none⟩=some (.slice (some ⟨g,0,none⟩) p.IC.length ay)) (R:=fun X=>X.cell? ⟨d,i,none⟩=some (.int .i64 y)) [10] oK c6 a7 (fun bP bO=>?_);have H:=hid bP;have G:=hid bO;refine tF 0 (.pointer (some ⟨wb,0,none⟩)) rfl H (fun _=>G.out) ?_;simp only[jj];refine tF 1 (.pointer (some ⟨wb,0,none⟩)) rfl H (fun _=>G.out) ?_;simp only[jj];refine tF 2 (.pointer (some ⟨wb,6,none⟩)) rfl H (fun _=>G.out) ?_;simp only[jj];refine tG 3 (.slice (some ⟨g,0,none⟩) p.IC.length ay) rfl H (fun _=>G.out) ?_;simp only[jj];refine tF 4 (.int .i64 c) rfl H (fun _=>G.out) ?_;simp only[jj];refine tF 5 (.slice (some ⟨d,0,none⟩) l.length B) rfl H (fun _=>G.out) ?_;simp only[jj];refine tF 6 (.int .i64 i) rfl H (fun _=>G.out) ?_;simp only[jj];refine tF 7 (.pointer (some ⟨d,i,none⟩)) rfl H (fun _=>G.out) ?_;simp only[jj];refine ek (i:=8) (v:=.int .i64 y) rfl oK oK oK oK oK oK (fun _ _ _ h=>h) (Or.inl ⟨oR,fun W h=>by have h3:=h.2;clear h;go_simp⟩) H (fun _=>G.out) ?_;simp only[jj];refine tF 9 (.pointer (some ⟨g,c,none⟩)) rfl H (fun _=>G.out) ?_;simp only[jj];refine Wd.r1 10 rfl (fun K I=>?_);go_simp
      refine I _ _ S7 (eK oK) (fun _ _=>?_)
      try simp only[Act.put]
      refine dL oK ?_ _;generalize World.drew (World.setCell _ _ _)=b at*;go_upto_region 14 with fail
      have cp:=hid Q.out;have aM:=B7.o.ready;have aU:fE b tg 9 13 22 3 1 (q).ready.length (.slice (some ⟨F,0,none⟩) (q).ready.length (q).ready.length) (ci (q).ready):=by rw[<-Q.out];exact aM
      have bo:=hid (fun X (h:Below b.heap.size b X)=>(aU.kp (T:=fun _=>False) (.IG h) (fun _ _=>rfl) (fun _ _ e=>e)).fr n);have KS:=hid (fun X (h:Below b.heap.size b X)=>show X.cell? ⟨wb,7,none⟩=some (.slice (some ⟨F,0,none⟩) (q).ready.length (q).ready.length) by rw[ai (B7.below h).r (k:=7) rfl,Q.out]);obtain⟨u1,a8, -⟩:=aU.at aR.out;have KR:=hid (fun X (h:Below b.heap.size b X)=>(h.cell (aj _ _ a8)).trans a8);have bn:=hid (fun X v (zz:List Int) (h:Below b.heap.size b X) (ho:X.ownsRow b.heap.size 3 1 v zz.length (d6 zz))=>show di (X.setCell ⟨F,n,none⟩ v) wb (fX tg b.heap.size (13+3*n)) V {q with IC:=(q).IC.set c y,ready:=(q).ready.set n zz}∧Kt tg (fX tg b.heap.size (13+3*n)) L (X.setCell ⟨F,n,none⟩ v) from by
       obtain⟨bV,bc⟩:=aU.put (tag':=fX tg b.heap.size (13+3*n)) (w1:=X) (u:=v) (c:=(zz.length,d6 zz)) (j:=n) aR (fun j=>oA) (.IG h) (fun k hk=>dw hk) ⟨ho.mono (bN _),fun k e=>by
        unfold fX;rw[ae (by have:=(ho.lt k e).1;omega)]⟩
       refine⟨B7.ready bc (fun k hk=>dw hk) ?_,K7.trans (Kt.of (tag':=fX tg b.heap.size (13+3*n)) bc (fun k e=>by rcases e with e|⟨j,e⟩<;>omega) (fun k hk=>dw hk))⟩;rw[au,Q.out,jo _ _ aR];exact bV)
      obtain⟨q1,bf⟩:∃q1,(if B=i+1 then (some ⟨d,0,none⟩:Option Addr) else some ⟨d,i+1,none⟩)=q1:=⟨_,rfl⟩
      have BD:=hid (aD b 1);have cy:¬(B<i):=by have:=aX.out;omega
      have cz:¬((l.length:Int)<(i:Int)+1):=oA;have cA:(0:Int)<=(i:Int)+1:=oA;have cP:((i:Int)+1).toNat=i+1:=oA;refine wp_region_held_drew (S:=fun X=>X.cell? ⟨wb,7,none⟩=some (.slice (some ⟨F,0,none⟩) (q).ready.length (q).ready.length)) oK (KS.out _ BD) (fun bM=>?_);have s:=hid bM;refine tk 0 (.pointer (some ⟨wb,0,none⟩)) rfl s ?_;simp only[jj];refine tk 1 (.pointer (some ⟨wb,0,none⟩)) rfl s ?_;simp only[jj];refine tk 2 (.pointer (some ⟨wb,7,none⟩)) rfl s ?_;simp only[jj];refine eT 3 (.slice (some ⟨F,0,none⟩) (q).ready.length (q).ready.length) rfl (Or.inl ⟨oR,fun W h=>by have h3:=h;clear h;go_simp⟩) s ?_;simp only[jj];refine tk 4 (.int .i64 c) rfl s ?_;simp only[jj];refine eT 5 (.int .i64 (c*4)) rfl (Or.inl ⟨oR,fun W h=>by clear h;go_simp;exact bZ _ oA oA⟩) s ?_;simp only[jj];refine tk 6 (.int .i64 j) rfl s ?_;simp only[jj];refine eT 7 (.int .i64 n) rfl (Or.inl ⟨oR,fun W h=>by clear h;go_simp;exact bZ _ oA oA⟩) s ?_;simp only[jj];refine tk 9 (.slice (some ⟨d,0,none⟩) l.length B) rfl s ?_;simp only[jj];refine tk 10 (.int .i64 i) rfl s ?_;simp only[jj];refine tk 11 (.slice (some ⟨d,0,none⟩) i B) rfl s ?_;simp only[jj];refine tk 13 (.slice (some ⟨d,0,none⟩) l.length B) rfl s ?_;simp only[jj];refine tk 14 (.int .i64 i) rfl s ?_;simp only[jj];refine eT 15 (.int .i64 ((i:Int)+1)) rfl (Or.inl ⟨oR,fun W h=>by clear h;go_simp;exact bZ _ oA oA⟩) s ?_;simp only[jj];refine tk 16 (.slice q1 (l.length - (i+1)) (B - (i+1))) rfl s ?_;simp only[jj];have U:=hid (show (l.take i).length=i by rw[bL];omega);have ax:=hid (show (l.drop (i+1)).length=l.length - (i+1) by rw[eU]);obtain⟨o1,bU,bQ⟩:∃o1,q1=some ⟨d,o1,none⟩∧∀j (a:j<(l.drop (i+1)).length),b.cell? ⟨d,o1+j,none⟩=some (.int .i64 (l.drop (i+1))[j]):=by
       by_cases ba:B=i+1
       ·exact⟨0,by rw[<-bf,ah ba],fun j a=>by have:=aX.out;rw[ax.out] at a;omega⟩
       ·exact⟨i+1,by rw[<-bf,ae ba],fun j a=>by
         rw[List.getElem_drop];exact C7 (i+1+j) (by rw[ax.out] at a;omega)⟩
      have aw:=hid bQ;have br:=hid (show ed b (.slice (some ⟨d,0,none⟩) i B) (l.take i) from⟨some ⟨d,0,none⟩,d,0,B,by rw[U.out],fun _=>rfl,fun j a=>by
       rw[List.getElem_take,aC];exact C7 j (by rw[U.out] at a;omega)⟩)
      subst bU;have E8:=hid (show (b.alloc (.cells #[] 3)).drew.ownsRow b.heap.size 3 1 (.slice (some ⟨b.heap.size,0,none⟩) 0 0) 0 [] from (du b #[] 0 (aq _) (bN _) oS));have aA:=hid ((bal (ag _ b) (.cells #[] 3)).drew);refine wpAnyH_ready (rs:=[8]) oK oS (AllReadyH.cons rfl (fun K I=>?_) AllReadyH.nil);go_simp
      refine I _ _ (KS.out _ aA) (fun _=>?_)
      try simp only[Act.put,jD,jE,jF]
      generalize World.drew (World.alloc _ _)=X5 at*;obtain⟨q2,c2,Z,hr,ho,hb, -⟩:=hY E8 aA.size (br.below aA) (by rw[U.out];have:=aH.out;omega);have bB:=hid ho;rw[U.out] at hr;have bD:=hid hr;have aB:=hid (aA.trans hb);refine wpAnyH_ready (rs:=[12]) oK oS (AllReadyH.cons rfl (fun K I=>?_) AllReadyH.nil);refine fL _ _ 22 rfl (.slice (some ⟨b.heap.size,0,none⟩) 0 0) (.slice (some ⟨d,0,none⟩) i B) (.slice q2 i c2) rfl rfl bD ?_;refine I _ _ (KS.out _ aB) (fun _=>?_);simp only[jj];obtain⟨q3,c3,Z2,hr,ho,hb⟩:=sR (c:=B - (i+1)) bB aB.size (by rw[U.out];have:=aH.out;omega) (ys:=l.drop (i+1)) (by rw[ax.out];have:=aH.out;omega) (fun j a=>(aB.cell (aj _ _ (aw.out j a))).trans (aw.out j a));rw[U.out,ax.out] at hr;have bE:=hid hr;rw[U.out,ax.out] at ho;have bC:=hid ho;have am:=hid (aB.trans hb);refine wpAnyH_ready (rs:=[17]) oK oS (AllReadyH.cons rfl (fun K I=>?_) AllReadyH.nil);refine fL _ _ 22 rfl (.slice q2 i c2) (.slice (some ⟨d,o1,none⟩) (l.length - (i+1)) (B - (i+1))) (.slice q3 (i+(l.length - (i+1))) c3) rfl rfl bE ?_;refine I _ _ (KS.out _ am) (fun _=>?_);simp only[jj];refine tk 18 (.pointer (some ⟨F,n,none⟩)) rfl (KS.out _ am) ?_;simp only[jj];have cs:=KR.out _ am;have ct:=bo.out _ am;obtain⟨a9,bS⟩:=bn.out Z2 _ _ am bC;have B9:=hid a9;have K9:=hid bS;have S9:=hid (show (Z2.setCell ⟨F,n,none⟩ (.slice q3 (i+(l.length - (i+1))) c3)).cell? ⟨wb,7,none⟩=some (.slice (some ⟨F,0,none⟩) (q).ready.length (q).ready.length) by rw[ai a9.r (k:=7) rfl,Q.out]);refine wpAnyH_ready (rs:=[19]) oK oS (AllReadyH.cons rfl (fun K I=>?_) AllReadyH.nil);go_simp
      refine I _ _ S9 (fun _=>?_)
      try simp only[Act.put]
      refine dK oK ?_ _;generalize World.setCell _ _ _=Z9 at*;go_wp2_with fail
      exact ar (aI rfl _ _ _) rfl ⟨rfl,_,by rw[a2.out,a0.out];exact B9,a5.trans K9⟩
     ·have cm:(z==m)=false:=by simpa using bk
      rw[cm] at ad;go_upto_region 12 with fail
      go_quiet (first|(go_at_call 80;refine Calls.quiet_of (ab.out _ (ao.below (aD wr _)))))
      have bz:=hid (show Below wo.heap.size wo (wr.drewN nq)∧∀j (a:j<l.length),j<i+1->dmB (q) m l[j]=false from⟨btr BI (aE (ag wr.heap.size wr) nq),fun j a h=>by
       by_cases e:j=i
       ·subst e;rw[HY.out];exact ad
       ·exact HN j a oA⟩)
      generalize World.drewN _ _=C at*;go_wp2_with fail
      exact⟨⟨i+1,oA,by go_num,bz⟩,by simp[intOf];omega⟩
    ·obtain rfl:i=l.length:=oA;have cC:¬((l.length:Int)<(l.length:Int)):=oA;have aL:=hid (show ixP (dmB (q) m) l= -1 by
      unfold ixP;rw[ae];intro h;have f:=dR (w:=h);have h3:=HN.out _ h h;rw[h3] at f
      cases f)
     have HR:=hid (show Below L.heap.size L wr∧rnx (q) m c 4=rnx (q) m c j from⟨btr O BI,by rw[aS.out,ae (by rw[aL.out];decide)]⟩);go_wp2_with fail
     exact⟨⟨j,(j:Int) - 1,oA,hid rfl,by go_num,HR⟩,by simp[intOf]⟩
  ·have cQ:=h0;obtain rfl:k=0:=by have:=HX.out;omega
   have HR:=hid (show rnx (q) m c 4=q by rw[HV.out];rfl);go_wp2_with fail
   exact aT (aI rfl _ _ _) rfl ⟨rfl,tg,by rw[a2.out,HR.out];exact N.below O,a5.trans (.below O)⟩
