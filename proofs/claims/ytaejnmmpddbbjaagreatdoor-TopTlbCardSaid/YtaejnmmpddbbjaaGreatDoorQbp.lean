/- Qbp -/
import Derived.Test.YtaejnmmpddbbjaaGreatDoorQav
set_option maxRecDepth 100000
set_option maxHeartbeats 16000000
namespace Go.Proofs.YtaejnmmpddbbjaaGreatDoor
namespace Wd
open Go.RowKit Mem Bw Nums Mmu
theorem o8 (wb:Nat) (tg:Nat->Nat) (V:Nat->Value) (p:PW) (c:Nat) (W:World) (bt:cb W wb tg V p) (hp:p.Fits) (P:Snd p) (hc:c<p.D6.length) (hz:p.D6.getD c (-1)= -1):
  Calls Tryz.prog 44 #[.pointer (some ⟨wb,0,none⟩),.int .i64 c] W fun r W'=>r=.returned (.tuple #[])∧∃tag',cb W' wb tag' V (rlP p c)∧Kt tg tag' W W':=by
 have cs:(p.D6.length:Int)<=1000:=by have:=hp.D6;omega
 have bW:(c:Int)<(p.D6.length:Int):=oA;have bX:(c:Int)<=1000:=oA;have cv:(p.ready.length:Int)<=1000:=by have:=hp.ready;omega
 obtain⟨q,aD,e6⟩:=bt.o.D6.form oA;have E6:=hid e6;obtain⟨C,eR⟩:=bt.o.ready.form;have H:=hid eR;obtain⟨m,hm⟩:∃m,tnV p=m:=⟨_,rfl⟩
 have br:=hid hm;have aR:=hid (show rlP p c=rnx p m c 4 by unfold rlP;rw[af hz,hm]);have bc:=hid hz;have a8:=hid hp;have bp:=hid (show c*4+4<=p.ready.length by rw[P.lf.ready];omega);have a7:=hid P.lf.d1;have bq:=hid (show 0<=p.time∧p.time<=1000000 by have h:=P.tm;unfold ed at h;simpa using h);have aG:=E6;have aP:=hid hc;obtain⟨g3,bS,e3⟩:=bt.o.DY.form (by rw[P.lf.DY];have:=P.lf.k1;omega);have aM:=hid e3;have cp:(p.DY.length:Int)<=1000:=by have:=hp.DY;omega
 have ba:=hid (fun (n:Nat) (J:n<p.ready.length)=>show (p.ready.getD n []).length<=1000 by rw[aa,ac J];exact hp.next _ (aw J));have bv:=hid (fun (n:Nat) (J:n<p.ready.length)=>show ∀z∈p.ready.getD n [],0<=z∧z<(p.DY.length:Int) by rw[aa,ac J];exact zB P _ (aw J));have B:=hid bt;have aB:=hid (Kt.refl tg W);have c6:=bg bt e6;have x6:W.cell? ⟨q,c,none⟩=some (.int .i64 (-1)):=by rw[(bt.Eg e6 hc).1,hz]
 go_enter Tryz.func44,Tryz.ntmps44
 go_upto_region 1 with fail
 go_quiet (fail)
 have B3:=hid (B.below (aV (ai W.heap.size W) nq));have K3:=hid (aB.trans (.below (aV (ai W.heap.size W) nq)));generalize World.drewN _ _=w2 at*;have B:=B3;have aB:=K3;generalize bV:w2=F at*;have ay:=hid (fun Y (h:cb Y wb tg V (p))=>iX wb tg V (p) Y h a8 a7 bq);rw[br.out] at ay;have c6:=bg B E6;have x6:F.cell? ⟨q,c,none⟩=some (.int .i64 (-1)):=by rw[(B.Eg aG aP).1,bc.out]
 go_wp2_with fail
 go_loopw [5] (fun i wr=>∃(k:Nat) (x:Int),k<=4∧Hid (x=(k:Int) - 1)∧i=.int .i64 x∧Hid (Below F.heap.size F wr∧rnx (p) m c 4=rnx (p) m c k)) (fun i _=>(intOf i+1).toNat)
 case atStart=>exact⟨4,3,oA,hid rfl,rfl,hid ⟨ai _ _,rfl⟩⟩
 case round=>
  obtain⟨k,x,hk,HX,rfl,HH⟩:=hrel;have G:=hid HH.1;have HV:=hid HH.2;by_cases h0:0<=x
  ·obtain⟨j,rfl⟩:∃j:Nat,x=j:=⟨x.toNat,oA⟩
   obtain rfl:k=j+1:=by have:=HX.out;omega
   obtain⟨n,J⟩:∃n:Nat,c*4+j=n:=⟨_,rfl⟩
   have cg:(c:Int)*4+(j:Int)=(n:Int):=oA;have aF:n<(p).ready.length:=by have:=bp.out;omega
   have cx:(n:Int)<((p).ready.length:Int):=oA;have aH:=hid aF;have aI:=hid (show rnx (p) m c 4=if 0<=ixP (dmB (p) m) ((p).ready.getD n []) then {p with D6:=(p).D6.set c (((p).ready.getD n []).getD (ixP (dmB (p) m) ((p).ready.getD n [])).toNat 0),ready:=(p).ready.set n (((p).ready.getD n []).take (ixP (dmB (p) m) ((p).ready.getD n [])).toNat++((p).ready.getD n []).drop ((ixP (dmB (p) m) ((p).ready.getD n [])).toNat+1))} else rnx (p) m c j by rw[HV.out, <-J];rfl);have aE:=(B.below G).o.ready;rw[H.out] at aE;obtain⟨u,cu,hu⟩:=aE.at aF;unfold ci at hu;have bu:=hid hu.2;have bL:=de hu.1;obtain⟨qu,d,g,rfl,bK⟩:=hu.shape;have bs:=hid bL;have c7:=bg (B.below G) H;have cm:(j:Int)<=3:=oA;have av:=hid (ba.out n aF);have bb:=hid (bv.out n aF);have HQ:=hid bK;have aN:=hid (show ((p).ready.getD n []).length<=g by
    rcases hu.1.2 with ⟨N,D⟩|⟨_,_,_,N,_,_,D,_⟩
    ·simp only at D;omega
    ·cases N;exact D)
   generalize ct:(p).ready.getD n []=l at*;have cq:(l.length:Int)<=1000:=by have:=av.out;omega
   generalize wr=wo at*;go_wp2_with fail
   go_loopw [7] (fun i wr=>∃(i':Nat),i'<=l.length∧i=.int .i64 i'∧Hid (Below wo.heap.size wo wr∧∀j (a:j<l.length),j<i'->dmB (p) m l[j]=false)) (fun i _=>l.length - (intOf i).toNat)
   case atStart=>exact⟨0,oA,rfl,hid ⟨ai _ _,fun j _ h=>oA⟩⟩
   case round=>
    obtain⟨i,hi,rfl,HH⟩:=hrel;have U:=hid HH.1;have HN:=hid HH.2;by_cases an:i<l.length
    ·have cw:(i:Int)<(l.length:Int):=oA;have bJ:=HQ.out oA;subst bJ;have al:=hid ((B.below G).below U);have ad:=hid (show ∀j (a:j<l.length),wr.cell? ⟨d,j,none⟩=some (.int .i64 l[j]) from fun j a=>by
      obtain⟨q2,b2,o2,bR,e2,bH,bO⟩:=bs.below U
      cases e2
      have O:=bH oA
      cases O
      have:=bO j a;rw[az] at this;exact this)
     have ax:=hid (bb.out _ (aw an));have ck:=ad.out i an;obtain⟨y,hy⟩:∃y,l[i]=y:=⟨_,rfl⟩
     rw[hy] at ck ax;have HY:=hid hy;obtain⟨y',bM⟩:∃y':Nat,y=y':=⟨y.toNat,by have:=ax.1;omega⟩
     subst bM;have bN:=ax.2;have c3:=bg al aM;have a4:=al.Ec aM (i:=y') oA (show 19<20 by omega);have M:=hid (show dmB (p) m y'=((p).DY.getD y' bl 19==m) by unfold dmB;rw[ag]);generalize (p).DY.getD y' bl 19=z at a4 M;by_cases a3:z=m
     ·subst a3;rw[beq_self_eq_true] at M;have aA:=hid (show ixP (dmB (p) z) l=i by
       have N:l.findIdx (dmB (p) z)=i:=by
        rw[List.findIdx_eq an];exact⟨by rw[HY.out];exact M,fun j a=>HN.out j oA a⟩
       unfold ixP;rw[N,af an])
      have aQ:=hid (show rnx (p) z c 4={p with D6:=(p).D6.set c y',ready:=(p).ready.set n (l.take i++l.drop (i+1))} by
       rw[aI.out,aA.out,af oA,ag,aa (l:=l),ac an,aT,HY.out])
      go_upto_region 12 with fail
      go_quiet (first|(go_at_call 80;refine Calls.quiet_of (ay.out _ (al.below (aC wr _)))))
      have BY:=hid (al.below (aV (ai wr.heap.size wr) nq));have KY:=hid (show Kt tg tg F (wr.drewN nq) from .below (btr (btr G U) (aV (ai wr.heap.size wr) nq)));have aS:(wr.drewN nq).cell? ⟨d,i,none⟩=some (.int .i64 y'):=ck;have aL:=hid (show ∀j (a:j<l.length),(wr.drewN nq).cell? ⟨d,j,none⟩=some (.int .i64 l[j]) from fun j a=>ad.out j a);clear ck c3 a4 ad;have ad:=aL;generalize World.drewN _ _=s at*;have bh:=hid (show d≠q from fun e=>by
       have N:=bu.out d rfl;have D:=B.o.D6;rw[E6.out] at D;have O:=D.2 q rfl;rw[e] at N;omega)
      clear ay aL aA aI HN;obtain⟨y,a2⟩:∃y:Int,(y':Int)=y:=⟨_,rfl⟩
      rw[a2] at aS aQ;clear a2 HY ax bN M;go_upto_region 13 with fail
      have c6:s.cell? ⟨wb,6,none⟩=some (.slice (some ⟨q,0,none⟩) p.D6.length aD):=by rw[ah BY.r (k:=6) rfl,E6.out]
      have Q:Hid (Below s.heap.size s s.drew):=hid (aC s 1);obtain⟨x6,f6⟩:=(BY.below Q).Eg aG aP;obtain⟨b7,k7⟩:=(BY.below Q).En aG c y;have B7:=hid (show cb (s.setCell ⟨q,c,none⟩ (.int .i64 y)).drew wb tg V {p with D6:=(p).D6.set c y} from b7);have K7:=hid (show Kt tg tg F (s.setCell ⟨q,c,none⟩ (.int .i64 y)).drew from (KY.trans (.below Q)).trans k7);have S7:=hid (show (s.setCell ⟨q,c,none⟩ (.int .i64 y)).drew.cell? ⟨wb,6,none⟩=some (.slice (some ⟨q,0,none⟩) p.D6.length aD) by rw[ah B7.r (k:=6) rfl,E6.out]);have C7:=hid (show ∀j (a:j<l.length),(s.setCell ⟨q,c,none⟩ (.int .i64 y)).drew.cell? ⟨d,j,none⟩=some (.int .i64 l[j]) from fun j a=>(World.cell?_setCell_far s ⟨q,c,none⟩ ⟨d,j,none⟩ _ (fun e=>bh.out e.symm)).trans (ad.out j a));clear b7 k7;refine d7 (S:=fun X=>X.cell? ⟨wb,6,none⟩=some (.slice (some ⟨q,0,none⟩) p.D6.length aD)) (R:=fun X=>X.cell? ⟨d,i,none⟩=some (.int .i64 y)) [10] oK c6 aS (fun bB bA=>?_);have A:=hid bB;have t:=hid bA;refine tF 0 (.pointer (some ⟨wb,0,none⟩)) rfl A (fun _=>t.out) ?_;simp only[jj];refine tF 1 (.pointer (some ⟨wb,0,none⟩)) rfl A (fun _=>t.out) ?_;simp only[jj];refine tF 2 (.pointer (some ⟨wb,6,none⟩)) rfl A (fun _=>t.out) ?_;simp only[jj];refine tG 3 (.slice (some ⟨q,0,none⟩) p.D6.length aD) rfl A (fun _=>t.out) ?_;simp only[jj];refine tF 4 (.int .i64 c) rfl A (fun _=>t.out) ?_;simp only[jj];refine tF 5 (.slice (some ⟨d,0,none⟩) l.length g) rfl A (fun _=>t.out) ?_;simp only[jj];refine tF 6 (.int .i64 i) rfl A (fun _=>t.out) ?_;simp only[jj];refine tF 7 (.pointer (some ⟨d,i,none⟩)) rfl A (fun _=>t.out) ?_;simp only[jj];refine eu (i:=8) (v:=.int .i64 y) rfl oK oK oK oK oK oK (fun _ _ _ h=>h) (Or.inl ⟨oR,fun W h=>by have O:=h.2;clear h;go_simp⟩) A (fun _=>t.out) ?_;simp only[jj];refine tF 9 (.pointer (some ⟨q,c,none⟩)) rfl A (fun _=>t.out) ?_;simp only[jj];refine r1 10 rfl (fun K E=>?_);go_simp
      refine E _ _ S7 (eF oK) (fun _ _=>?_)
      try simp only[Act.put]
      refine d5 oK ?_ _;generalize World.drew (World.setCell _ _ _)=b at*;go_upto_region 14 with fail
      have bQ:=hid H.out;have aE:=B7.o.ready;have aJ:fy b tg 9 13 22 3 1 (p).ready.length (.slice (some ⟨C,0,none⟩) (p).ready.length (p).ready.length) (ci (p).ready):=by rw[<-H.out];exact aE
      have a6:=hid (fun X (h:Below b.heap.size b X)=>(aJ.kp (T:=fun _=>False) (.Ed h) (fun _ _=>rfl) (fun _ _ e=>e)).fr n);have KS:=hid (fun X (h:Below b.heap.size b X)=>show X.cell? ⟨wb,7,none⟩=some (.slice (some ⟨C,0,none⟩) (p).ready.length (p).ready.length) by rw[ah (B7.below h).r (k:=7) rfl,H.out]);obtain⟨u1,aU, -⟩:=aJ.at aH.out;have KR:=hid (fun X (h:Below b.heap.size b X)=>(h.cell (aj _ _ aU)).trans aU);have a5:=hid (fun X v (zz:List Int) (h:Below b.heap.size b X) (L:X.ownsRow b.heap.size 3 1 v zz.length (ec zz))=>show cb (X.setCell ⟨C,n,none⟩ v) wb (gy tg b.heap.size (13+3*n)) V {p with D6:=(p).D6.set c y,ready:=(p).ready.set n zz}∧Kt tg (gy tg b.heap.size (13+3*n)) F (X.setCell ⟨C,n,none⟩ v) from by
       obtain⟨bG,aZ⟩:=aJ.put (tag':=gy tg b.heap.size (13+3*n)) (w1:=X) (u:=v) (c:=(zz.length,ec zz)) (j:=n) aH (fun j=>oA) (.Ed h) (fun k hk=>cV hk) ⟨L.mono (bF _),fun k e=>by
        unfold gy;rw[ae (by have:=(L.lt k e).1;omega)]⟩
       refine⟨B7.ready aZ (fun k hk=>cV hk) ?_,K7.trans (Kt.of (tag':=gy tg b.heap.size (13+3*n)) aZ (fun k e=>by rcases e with e|⟨j,e⟩<;>omega) (fun k hk=>cV hk))⟩;rw[au,H.out,jq _ _ aH];exact bG)
      obtain⟨q1,a0⟩:∃q1,(if g=i+1 then (some ⟨d,0,none⟩:Option Addr) else some ⟨d,i+1,none⟩)=q1:=⟨_,rfl⟩
      have Q:=hid (aC b 1);have bY:¬(g<i):=by have:=aN.out;omega
      have cc:¬((l.length:Int)<(i:Int)+1):=oA;have cd:(0:Int)<=(i:Int)+1:=oA;have cy:((i:Int)+1).toNat=i+1:=oA;refine wp_region_held_drew (S:=fun X=>X.cell? ⟨wb,7,none⟩=some (.slice (some ⟨C,0,none⟩) (p).ready.length (p).ready.length)) oK (KS.out _ Q) (fun bz=>?_);have f:=hid bz;refine tk 0 (.pointer (some ⟨wb,0,none⟩)) rfl f ?_;simp only[jj];refine tk 1 (.pointer (some ⟨wb,0,none⟩)) rfl f ?_;simp only[jj];refine tk 2 (.pointer (some ⟨wb,7,none⟩)) rfl f ?_;simp only[jj];refine dW 3 (.slice (some ⟨C,0,none⟩) (p).ready.length (p).ready.length) rfl (Or.inl ⟨oR,fun W h=>by have O:=h;clear h;go_simp⟩) f ?_;simp only[jj];refine tk 4 (.int .i64 c) rfl f ?_;simp only[jj];refine dW 5 (.int .i64 (c*4)) rfl (Or.inl ⟨oR,fun W h=>by clear h;go_simp;exact bZ _ oA oA⟩) f ?_;simp only[jj];refine tk 6 (.int .i64 j) rfl f ?_;simp only[jj];refine dW 7 (.int .i64 n) rfl (Or.inl ⟨oR,fun W h=>by clear h;go_simp;exact bZ _ oA oA⟩) f ?_;simp only[jj];refine tk 9 (.slice (some ⟨d,0,none⟩) l.length g) rfl f ?_;simp only[jj];refine tk 10 (.int .i64 i) rfl f ?_;simp only[jj];refine tk 11 (.slice (some ⟨d,0,none⟩) i g) rfl f ?_;simp only[jj];refine tk 13 (.slice (some ⟨d,0,none⟩) l.length g) rfl f ?_;simp only[jj];refine tk 14 (.int .i64 i) rfl f ?_;simp only[jj];refine dW 15 (.int .i64 ((i:Int)+1)) rfl (Or.inl ⟨oR,fun W h=>by clear h;go_simp;exact bZ _ oA oA⟩) f ?_;simp only[jj];refine tk 16 (.slice q1 (l.length - (i+1)) (g - (i+1))) rfl f ?_;simp only[jj];have I:=hid (show (l.take i).length=i by rw[bI];omega);have am:=hid (show (l.drop (i+1)).length=l.length - (i+1) by rw[dD]);obtain⟨o1,bE,bC⟩:∃o1,q1=some ⟨d,o1,none⟩∧∀j (a:j<(l.drop (i+1)).length),b.cell? ⟨d,o1+j,none⟩=some (.int .i64 (l.drop (i+1))[j]):=by
       by_cases aY:g=i+1
       ·exact⟨0,by rw[<-a0,af aY],fun j a=>by have:=aN.out;rw[am.out] at a;omega⟩
       ·exact⟨i+1,by rw[<-a0,ae aY],fun j a=>by
         rw[List.getElem_drop];exact C7 (i+1+j) (by rw[am.out] at a;omega)⟩
      have aO:=hid bC;have a9:=hid (show ey b (.slice (some ⟨d,0,none⟩) i g) (l.take i) from⟨some ⟨d,0,none⟩,d,0,g,by rw[I.out],fun _=>rfl,fun j a=>by
       rw[List.getElem_take,az];exact C7 j (by rw[I.out] at a;omega)⟩)
      subst bE;have E8:=hid (show (b.alloc (.cells #[] 3)).drew.ownsRow b.heap.size 3 1 (.slice (some ⟨b.heap.size,0,none⟩) 0 0) 0 [] from (dF b #[] 0 (ar _) (bF _) oS));have ao:=hid ((bal (ai _ b) (.cells #[] 3)).drew);refine wpAnyH_ready (rs:=[8]) oK oS (AllReadyH.cons rfl (fun K E=>?_) AllReadyH.nil);go_simp
      refine E _ _ (KS.out _ ao) (fun _=>?_)
      try simp only[Act.put,jD,jE,jF]
      generalize World.drew (World.alloc _ _)=X5 at*;obtain⟨q2,c2,Z,hr,L,hb, -⟩:=gC E8 ao.size (a9.below ao) (by rw[I.out];have:=av.out;omega);have bj:=hid L;rw[I.out] at hr;have bn:=hid hr;have ap:=hid (ao.trans hb);refine wpAnyH_ready (rs:=[12]) oK oS (AllReadyH.cons rfl (fun K E=>?_) AllReadyH.nil);refine ff _ _ 22 rfl (.slice (some ⟨b.heap.size,0,none⟩) 0 0) (.slice (some ⟨d,0,none⟩) i g) (.slice q2 i c2) rfl rfl bn ?_;refine E _ _ (KS.out _ ap) (fun _=>?_);simp only[jj];obtain⟨q3,c3,Z2,hr,L,hb⟩:=qw (c:=g - (i+1)) bj ap.size (by rw[I.out];have:=av.out;omega) (ys:=l.drop (i+1)) (by rw[am.out];have:=av.out;omega) (fun j a=>(ap.cell (aj _ _ (aO.out j a))).trans (aO.out j a));rw[I.out,am.out] at hr;have bo:=hid hr;rw[I.out,am.out] at L;have bk:=hid L;have ab:=hid (ap.trans hb);refine wpAnyH_ready (rs:=[17]) oK oS (AllReadyH.cons rfl (fun K E=>?_) AllReadyH.nil);refine ff _ _ 22 rfl (.slice q2 i c2) (.slice (some ⟨d,o1,none⟩) (l.length - (i+1)) (g - (i+1))) (.slice q3 (i+(l.length - (i+1))) c3) rfl rfl bo ?_;refine E _ _ (KS.out _ ab) (fun _=>?_);simp only[jj];refine tk 18 (.pointer (some ⟨C,n,none⟩)) rfl (KS.out _ ab) ?_;simp only[jj];have bT:=KR.out _ ab;have bU:=a6.out _ ab;obtain⟨aW,bD⟩:=a5.out Z2 _ _ ab bk;have B9:=hid aW;have K9:=hid bD;have S9:=hid (show (Z2.setCell ⟨C,n,none⟩ (.slice q3 (i+(l.length - (i+1))) c3)).cell? ⟨wb,7,none⟩=some (.slice (some ⟨C,0,none⟩) (p).ready.length (p).ready.length) by rw[ah aW.r (k:=7) rfl,H.out]);refine wpAnyH_ready (rs:=[19]) oK oS (AllReadyH.cons rfl (fun K E=>?_) AllReadyH.nil);go_simp
      refine E _ _ S9 (fun _=>?_)
      try simp only[Act.put]
      refine dN oK ?_ _;generalize World.setCell _ _ _=Z9 at*;go_wp2_with fail
      exact aq (aK rfl _ _ _) rfl ⟨rfl,_,by rw[aR.out,aQ.out];exact B9,aB.trans K9⟩
     ·have bP:(z==m)=false:=by simpa using a3
      rw[bP] at M;go_upto_region 12 with fail
      go_quiet (first|(go_at_call 80;refine Calls.quiet_of (ay.out _ (al.below (aC wr _)))))
      have bf:=hid (show Below wo.heap.size wo (wr.drewN nq)∧∀j (a:j<l.length),j<i+1->dmB (p) m l[j]=false from⟨btr U (aV (ai wr.heap.size wr) nq),fun j a h=>by
       by_cases e:j=i
       ·subst e;rw[HY.out];exact M
       ·exact HN j a oA⟩)
      generalize World.drewN _ _=s at*;go_wp2_with fail
      exact⟨⟨i+1,oA,by go_num,bf⟩,by simp[intOf];omega⟩
    ·obtain rfl:i=l.length:=oA;have cj:¬((l.length:Int)<(l.length:Int)):=oA;have aA:=hid (show ixP (dmB (p) m) l= -1 by
      unfold ixP;rw[ae];intro h;have D:=dS (w:=h);have O:=HN.out _ h h;rw[O] at D
      cases D)
     have HR:=hid (show Below F.heap.size F wr∧rnx (p) m c 4=rnx (p) m c j from⟨btr G U,by rw[aI.out,ae (by rw[aA.out];decide)]⟩);go_wp2_with fail
     exact⟨⟨j,(j:Int) - 1,oA,hid rfl,by go_num,HR⟩,by simp[intOf]⟩
  ·have cz:=h0;obtain rfl:k=0:=by have:=HX.out;omega
   have HR:=hid (show rnx (p) m c 4=p by rw[HV.out];rfl);go_wp2_with fail
   exact aX (aK rfl _ _ _) rfl ⟨rfl,tg,by rw[aR.out,HR.out];exact B.below G,aB.trans (.below G)⟩
theorem o9 (wb:Nat) (tag:Nat->Nat) (V:Nat->Value) (p:PW) (c t:Nat) (W:World) (bt:cb W wb tag V p) (d:p.Fits) (e:Snd p) (n:c<p.D6.length) (z:t<p.kinds.length) (f:p.D6.getD c (-1)=t) (a:dmB p (tnV p) t=true):
  Calls Tryz.prog 44 #[.pointer (some ⟨wb,0,none⟩),.int .i64 c] W fun r W'=>r=.returned (.tuple #[])∧∃tag',cb W' wb tag' V (rlP p c)∧Kt tag tag' W W':=by
 have K:(p.D6.length:Int)<=1000:=by have:=d.D6;omega
 have H:(c:Int)<(p.D6.length:Int):=oA;have I:(c:Int)<=1000:=oA;obtain⟨l,F,e6⟩:=bt.o.D6.form oA;have i:=hid e6;obtain⟨m,q⟩:∃m,tnV p=m:=⟨_,rfl⟩
 have A:t<p.DY.length:=by rw[e.lf.DY];exact z
 have M:(t:Int)<(p.DY.length:Int):=oA;have J:(p.DY.length:Int)<=1000:=by have:=d.DY;omega
 obtain⟨G,E,k⟩:=bt.o.DY.form oA;have v:=hid (show 0<=p.time∧p.time<=1000000 by have h:=e.tm;unfold ed at h;simpa using h);have j:=hid (fun Y (h:cb Y wb tag V p)=>iX wb tag V p Y h d e.lf.d1 v);rw[q] at j;have c6:=bg bt e6;have C:W.cell? ⟨l,c,none⟩=some (.int .i64 t):=by rw[(bt.Eg e6 n).1,f]
 have D:=bg bt k;have B:=bt.Ec k A (show 19<20 by omega);have L:(0:Int)<=(t:Int):=oA;have g:=hid bt;have u:=hid (show rlP p c=p by unfold rlP;rw[f,ae oA,a,af rfl]);rw[q] at a;unfold dmB at a;rw[ag] at a;have y:=eq_of_beq a;rw[y] at B;have s:=hid n;have w:=hid f;go_enter Tryz.func44,Tryz.ntmps44
 go_upto_region 1 with fail
 go_quiet (first|(go_at_call 80;refine Calls.quiet_of (j.out _ (g.below (aC W _)))))
 have b:=hid (g.below (aV (ai W.heap.size W) nq));have x:=hid (show Kt tag tag W (W.drewN nq) from .below (aV (ai W.heap.size W) nq));generalize World.drewN _ _=w1 at*;have c6:=bg b i;have C:w1.cell? ⟨l,c,none⟩=some (.int .i64 t):=by rw[(b.Eg i s).1,w.out]
 go_wp2_with fail
 exact aq (aK rfl _ _ _) rfl ⟨rfl,tag,by rw[u.out];exact b,x.out⟩
theorem qe (wb:Nat) (tag:Nat->Nat) (V:Nat->Value) (p:PW) (c t:Nat) (W:World) (bt:cb W wb tag V p) (A:p.Fits) (J:∀l∈p.ready,l.length<=50) (M:Snd p) (hc:c<p.D6.length) (ht:t<p.kinds.length) (hk:p.kinds[t]=6) (hz:p.D6.getD c (-1)=t) (al:dmB p (tnV p) t=false):
  Calls Tryz.prog 44 #[.pointer (some ⟨wb,0,none⟩),.int .i64 c] W fun r W'=>r=.returned (.tuple #[])∧∃tag',cb W' wb tag' V (rlP p c)∧Kt tag tag' W W':=by
 have cI:(p.D6.length:Int)<=1000:=by have:=A.D6;omega
 have cx:(c:Int)<(p.D6.length:Int):=oA;have cy:(c:Int)<=1000:=oA;obtain⟨g,ay,e6⟩:=bt.o.D6.form oA;have P:=hid e6;obtain⟨m,hm⟩:∃m,tnV p=m:=⟨_,rfl⟩
 have bh:t<p.DY.length:=by rw[M.lf.DY];exact ht
 have cP:(t:Int)<(p.DY.length:Int):=oA;have cF:(p.DY.length:Int)<=1000:=by have:=A.DY;omega
 obtain⟨g3,a5,e3⟩:=bt.o.DY.form oA;have aH:=hid (show 0<=p.time∧p.time<=1000000 by have h:=M.tm;unfold ed at h;simpa using h);have ab:=hid (fun Y (h:cb Y wb tag V p)=>iX wb tag V p Y h A M.lf.d1 aH);rw[hm] at ab;have c6:=bg bt e6;have x6:W.cell? ⟨g,c,none⟩=some (.int .i64 t):=by rw[(bt.Eg e6 hc).1,hz]
 have c3:=bg bt e3;have aM:=bt.Ec e3 bh (show 19<20 by omega);have cO:(0:Int)<=(t:Int):=oA;have B0:=hid bt;obtain⟨r1,r2,r3,r4⟩:=lD M ht hk;obtain⟨q,E⟩:∃q,wnP {p with D6:=p.D6.set c (-1)} t (rdN p t)=q:=⟨_,rfl⟩
 have a0:=hid (show rlP p c=rnx q m c 4 by unfold rlP;rw[hz,ae oA,al,ae oD,ag,hm,E]);rw[hm] at al;unfold dmB at al;rw[ag] at al;have bR:¬(p.DY.getD t bl 19=m):=by simpa using al
 generalize p.DY.getD t bl 19=z at aM bR al;have bp:=hid hc;have bb:({p with D6:=p.D6.set c (-1)}:PW).Fits:=⟨A.Eb,A.kinds,A.DZ,A.DY,A.lines,A.line,A.bits,by show (p.D6.set c (-1)).length<=1000;rw[au];exact A.D6,A.ready,A.next,A.D9,A.Ee⟩;have a3:=hid (fun X (h:cb X wb tag V {p with D6:=p.D6.set c (-1)})=>gn wb tag V {p with D6:=p.D6.set c (-1)} t (rdN p t) X h bb bh r1 r3 r4 r2);rw[E] at a3;have a2:=hid (show q.DY.length=p.DY.length by rw[<-E];show ((({p with D6:=p.D6.set c (-1)}:PW).task t 9 1).task t 14 (-1)).DY.length=_;rw[am,am]);have aY:=hid (show q.ready.length=p.ready.length by rw[<-E];show (p.ready.set _ _).length=_;rw[au]);have av:=hid (show q.D6.length=p.D6.length by rw[<-E];show (p.D6.set _ _).length=_;rw[au]);have bJ:=hid (show tnV q=m by rw[<-E];exact hm);have bv:=hid (show q.D6.getD c (-1)= -1 by rw[<-E];show (p.D6.set c (-1)).getD c (-1)= -1;rw[aa,cJ hc];rfl);have aE:=hid (show q.Fits by rw[<-E];exact xt bb J t (rdN p t));have bH:=hid (show c*4+4<=q.ready.length by rw[aY.out,M.lf.ready];omega);have bq:=hid (show 1<=q.Ee.length by rw[<-E];exact M.lf.d1);have aH:=hid (show 0<=q.time∧q.time<=1000000 by rw[<-E];exact aH);have aN:=hid (show V 6=.slice (some ⟨g,0,none⟩) q.D6.length ay by rw[av.out];exact e6);have aW:=hid (show c<q.D6.length by rw[av.out];exact hc);obtain⟨F,eR⟩:=bt.o.ready.form;have Q:=hid (show V 7=.slice (some ⟨F,0,none⟩) q.ready.length q.ready.length by rw[aY.out];exact eR);have cL:(q.ready.length:Int)<=1000:=by have:=aE.ready;omega
 have cG:(q.DY.length:Int)<=1000:=by have:=aE.DY;omega
 have aS:=hid (show V 3=.slice (some ⟨g3,0,none⟩) q.DY.length a5 by rw[a2.out];exact e3);have bs:=hid (fun (n:Nat) (J:n<q.ready.length)=>show (q.ready.getD n []).length<=1000 by rw[aa,ac J];exact aE.next _ (aw J));have bG:=hid (show ∀l∈q.ready,∀z∈l,0<=z∧z<(q.DY.length:Int) by
  rw[a2.out, <-E];intro l hl z D;have bT:=hl;rcases ba bT with f|rfl
  ·exact zB M l f z D
  ·rcases dt.1 D with f|f
   ·rw[aa] at f
    cases e:p.ready[rdN p t]? with
    |none=>rw[e] at f;cases f
    |some y=>
     rw[e,aT] at f;exact zB M y (dG e) z f
   ·rw[bU] at f;omega)
 have bM:=hid (fun (n:Nat) (J:n<q.ready.length)=>show ∀z∈q.ready.getD n [],0<=z∧z<(q.DY.length:Int) by rw[aa,ac J];exact bG _ (aw J));go_enter Tryz.func44,Tryz.ntmps44
 go_upto_region 1 with fail
 go_quiet (first|(go_at_call 80;refine Calls.quiet_of (ab.out _ (B0.below (aC W _)))))
 have B1:=hid (B0.below (aV (ai W.heap.size W) nq));have K1:=hid (show Kt tag tag W (W.drewN nq) from .below (aV (ai W.heap.size W) nq));generalize World.drewN _ _=w1 at*;have c6:=bg B1 P;obtain⟨x6,f6⟩:=B1.Eg P bp;obtain⟨b2,k2⟩:=B1.En P c (-1);have B5:=hid b2;have K5:=hid (K1.trans k2);go_upto_region 3 with fail
 generalize World.setCell _ _ _=w2 at*;go_wp2_with fail
 refine (a3.out _ B5).mono ?_;rintro r w3 ⟨rfl,tg,D,f⟩;have N:=hid D;have a4:=hid (K5.trans f);generalize cw:w3=L at*;have ab:=hid (fun Y (h:cb Y wb tg V (q))=>iX wb tg V (q) Y h aE bq aH);rw[bJ.out] at ab;have c6:=bg N P;have x6:L.cell? ⟨g,c,none⟩=some (.int .i64 (-1)):=by rw[(N.Eg aN aW).1,bv.out]
 go_wp2_with fail
 go_loopw [5] (fun i wr=>∃(k:Nat) (x:Int),k<=4∧Hid (x=(k:Int) - 1)∧i=.int .i64 x∧Hid (Below L.heap.size L wr∧rnx (q) m c 4=rnx (q) m c k)) (fun i _=>(intOf i+1).toNat)
 case atStart=>exact⟨4,3,oA,hid rfl,rfl,hid ⟨ai _ _,rfl⟩⟩
 case round=>
  obtain⟨k,x,hk,HX,rfl,HH⟩:=hrel;have O:=hid HH.1;have HV:=hid HH.2;by_cases h0:0<=x
  ·obtain⟨j,rfl⟩:∃j:Nat,x=j:=⟨x.toNat,oA⟩
   obtain rfl:k=j+1:=by have:=HX.out;omega
   obtain⟨n,J⟩:∃n:Nat,c*4+j=n:=⟨_,rfl⟩
   have cC:(c:Int)*4+(j:Int)=(n:Int):=oA;have aL:n<(q).ready.length:=by have:=bH.out;omega
   have cN:(n:Int)<((q).ready.length:Int):=oA;have aO:=hid aL;have aP:=hid (show rnx (q) m c 4=if 0<=ixP (dmB (q) m) ((q).ready.getD n []) then {q with D6:=(q).D6.set c (((q).ready.getD n []).getD (ixP (dmB (q) m) ((q).ready.getD n [])).toNat 0),ready:=(q).ready.set n (((q).ready.getD n []).take (ixP (dmB (q) m) ((q).ready.getD n [])).toNat++((q).ready.getD n []).drop ((ixP (dmB (q) m) ((q).ready.getD n [])).toNat+1))} else rnx (q) m c j by rw[HV.out, <-J];rfl);have aJ:=(N.below O).o.ready;rw[Q.out] at aJ;obtain⟨u,cu,hu⟩:=aJ.at aL;unfold ci at hu;have bL:=hid hu.2;have cd:=de hu.1;obtain⟨qu,d,B,rfl,cc⟩:=hu.shape;have bK:=hid cd;have c7:=bg (N.below O) Q;have cE:(j:Int)<=3:=oA;have aF:=hid (bs.out n aL);have bu:=hid (bM.out n aL);have HQ:=hid cc;have aU:=hid (show ((q).ready.getD n []).length<=B by
    rcases hu.1.2 with ⟨D,f⟩|⟨_,_,_,D,_,_,f,_⟩
    ·simp only at f;omega
    ·cases D;exact f)
   generalize cK:(q).ready.getD n []=l at*;have cH:(l.length:Int)<=1000:=by have:=aF.out;omega
   generalize wr=wo at*;go_wp2_with fail
   go_loopw [7] (fun i wr=>∃(i':Nat),i'<=l.length∧i=.int .i64 i'∧Hid (Below wo.heap.size wo wr∧∀j (a:j<l.length),j<i'->dmB (q) m l[j]=false)) (fun i _=>l.length - (intOf i).toNat)
   case atStart=>exact⟨0,oA,rfl,hid ⟨ai _ _,fun j _ h=>oA⟩⟩
   case round=>
    obtain⟨i,hi,rfl,HH⟩:=hrel;have BI:=hid HH.1;have HN:=hid HH.2;by_cases aA:i<l.length
    ·have cM:(i:Int)<(l.length:Int):=oA;have bY:=HQ.out oA;subst bY;have ap:=hid ((N.below O).below BI);have ao:=hid (show ∀j (a:j<l.length),wr.cell? ⟨d,j,none⟩=some (.int .i64 l[j]) from fun j a=>by
      obtain⟨q2,b2,o2,cs,e2,bX,cm⟩:=bK.below BI
      cases e2
      have h3:=bX oA
      cases h3
      have:=cm j a;rw[az] at this;exact this)
     have aG:=hid (bu.out _ (aw aA));have ck:=ao.out i aA;obtain⟨y,hy⟩:∃y,l[i]=y:=⟨_,rfl⟩
     rw[hy] at ck aG;have HY:=hid hy;clear hy;obtain⟨y',cg⟩:∃y':Nat,y=y':=⟨y.toNat,by have:=aG.1;omega⟩
     subst cg;have cj:(y':Int)<((q).DY.length:Int):=aG.2;have c3:wr.cell? ⟨wb,3,none⟩=some (.slice (some ⟨g3,0,none⟩) (q).DY.length a5):=by rw[ah ap.r (k:=3) rfl,aS.out]
     have aM:=ap.Ec aS (i:=y') oA (show 19<20 by omega);have ad:=hid (show dmB (q) m y'=((q).DY.getD y' bl 19==m) by unfold dmB;rw[ag]);generalize (q).DY.getD y' bl 19=z at aM ad;by_cases bk:z=m
     ·subst bk;rw[beq_self_eq_true] at ad;have aI:=hid (show ixP (dmB (q) z) l=i by
       have D:l.findIdx (dmB (q) z)=i:=by
        rw[List.findIdx_eq aA];exact⟨by rw[HY.out];exact ad,fun j a=>HN.out j oA a⟩
       unfold ixP;rw[D,af aA])
      have aZ:=hid (show rnx (q) z c 4={q with D6:=(q).D6.set c y',ready:=(q).ready.set n (l.take i++l.drop (i+1))} by
       rw[aP.out,aI.out,af oA,ag,aa (l:=l),ac aA,aT,HY.out])
      go_upto_region 12 with fail
      go_quiet (first|(go_at_call 80;refine Calls.quiet_of (ab.out _ (ap.below (aC wr _)))))
      have BY:=hid (ap.below (aV (ai wr.heap.size wr) nq));have KY:=hid (show Kt tg tg L (wr.drewN nq) from .below (btr (btr O BI) (aV (ai wr.heap.size wr) nq)));have a6:(wr.drewN nq).cell? ⟨d,i,none⟩=some (.int .i64 y'):=ck;have aR:=hid (show ∀j (a:j<l.length),(wr.drewN nq).cell? ⟨d,j,none⟩=some (.int .i64 l[j]) from fun j a=>ao.out j a);clear ck c3 aM ao;have ao:=aR;generalize World.drewN _ _=C at*;have bA:=hid (show d≠g from fun e=>by
       have D:=bL.out d rfl;have f:=N.o.D6;rw[P.out] at f;have h3:=f.2 g rfl;rw[e] at D;omega)
      clear ab aR aI aP HN;obtain⟨y,bj⟩:∃y:Int,(y':Int)=y:=⟨_,rfl⟩
      rw[bj] at a6 aZ;clear bj HY aG cj ad;go_upto_region 13 with fail
      have c6:C.cell? ⟨wb,6,none⟩=some (.slice (some ⟨g,0,none⟩) p.D6.length ay):=by rw[ah BY.r (k:=6) rfl,P.out]
      have BD:Hid (Below C.heap.size C C.drew):=hid (aC C 1);obtain⟨x6,f6⟩:=(BY.below BD).Eg aN aW;obtain⟨b7,k7⟩:=(BY.below BD).En aN c y;have B7:=hid (show cb (C.setCell ⟨g,c,none⟩ (.int .i64 y)).drew wb tg V {q with D6:=(q).D6.set c y} from b7);have K7:=hid (show Kt tg tg L (C.setCell ⟨g,c,none⟩ (.int .i64 y)).drew from (KY.trans (.below BD)).trans k7);have S7:=hid (show (C.setCell ⟨g,c,none⟩ (.int .i64 y)).drew.cell? ⟨wb,6,none⟩=some (.slice (some ⟨g,0,none⟩) p.D6.length ay) by rw[ah B7.r (k:=6) rfl,P.out]);have C7:=hid (show ∀j (a:j<l.length),(C.setCell ⟨g,c,none⟩ (.int .i64 y)).drew.cell? ⟨d,j,none⟩=some (.int .i64 l[j]) from fun j a=>(World.cell?_setCell_far C ⟨g,c,none⟩ ⟨d,j,none⟩ _ (fun e=>bA.out e.symm)).trans (ao.out j a));clear b7 k7;refine d7 (S:=fun X=>X.cell? ⟨wb,6,none⟩=some (.slice (some ⟨g,0,none⟩) p.D6.length ay)) (R:=fun X=>X.cell? ⟨d,i,none⟩=some (.int .i64 y)) [10] oK c6 a6 (fun bP bO=>?_);have H:=hid bP;have G:=hid bO;refine tF 0 (.pointer (some ⟨wb,0,none⟩)) rfl H (fun _=>G.out) ?_;simp only[jj];refine tF 1 (.pointer (some ⟨wb,0,none⟩)) rfl H (fun _=>G.out) ?_;simp only[jj];refine tF 2 (.pointer (some ⟨wb,6,none⟩)) rfl H (fun _=>G.out) ?_;simp only[jj];refine tG 3 (.slice (some ⟨g,0,none⟩) p.D6.length ay) rfl H (fun _=>G.out) ?_;simp only[jj];refine tF 4 (.int .i64 c) rfl H (fun _=>G.out) ?_;simp only[jj];refine tF 5 (.slice (some ⟨d,0,none⟩) l.length B) rfl H (fun _=>G.out) ?_;simp only[jj];refine tF 6 (.int .i64 i) rfl H (fun _=>G.out) ?_;simp only[jj];refine tF 7 (.pointer (some ⟨d,i,none⟩)) rfl H (fun _=>G.out) ?_;simp only[jj];refine eu (i:=8) (v:=.int .i64 y) rfl oK oK oK oK oK oK (fun _ _ _ h=>h) (Or.inl ⟨oR,fun W h=>by have h3:=h.2;clear h;go_simp⟩) H (fun _=>G.out) ?_;simp only[jj];refine tF 9 (.pointer (some ⟨g,c,none⟩)) rfl H (fun _=>G.out) ?_;simp only[jj];refine Wd.r1 10 rfl (fun K I=>?_);go_simp
      refine I _ _ S7 (eF oK) (fun _ _=>?_)
      try simp only[Act.put]
      refine d5 oK ?_ _;generalize World.drew (World.setCell _ _ _)=b at*;go_upto_region 14 with fail
      have cq:=hid Q.out;have aJ:=B7.o.ready;have aQ:fy b tg 9 13 22 3 1 (q).ready.length (.slice (some ⟨F,0,none⟩) (q).ready.length (q).ready.length) (ci (q).ready):=by rw[<-Q.out];exact aJ
      have bo:=hid (fun X (h:Below b.heap.size b X)=>(aQ.kp (T:=fun _=>False) (.Ed h) (fun _ _=>rfl) (fun _ _ e=>e)).fr n);have KS:=hid (fun X (h:Below b.heap.size b X)=>show X.cell? ⟨wb,7,none⟩=some (.slice (some ⟨F,0,none⟩) (q).ready.length (q).ready.length) by rw[ah (B7.below h).r (k:=7) rfl,Q.out]);obtain⟨u1,a7, -⟩:=aQ.at aO.out;have KR:=hid (fun X (h:Below b.heap.size b X)=>(h.cell (aj _ _ a7)).trans a7);have bn:=hid (fun X v (zz:List Int) (h:Below b.heap.size b X) (ho:X.ownsRow b.heap.size 3 1 v zz.length (ec zz))=>show cb (X.setCell ⟨F,n,none⟩ v) wb (gy tg b.heap.size (13+3*n)) V {q with D6:=(q).D6.set c y,ready:=(q).ready.set n zz}∧Kt tg (gy tg b.heap.size (13+3*n)) L (X.setCell ⟨F,n,none⟩ v) from by
       obtain⟨bW,bc⟩:=aQ.put (tag':=gy tg b.heap.size (13+3*n)) (w1:=X) (u:=v) (c:=(zz.length,ec zz)) (j:=n) aO (fun j=>oA) (.Ed h) (fun k hk=>cV hk) ⟨ho.mono (bF _),fun k e=>by
        unfold gy;rw[ae (by have:=(ho.lt k e).1;omega)]⟩
       refine⟨B7.ready bc (fun k hk=>cV hk) ?_,K7.trans (Kt.of (tag':=gy tg b.heap.size (13+3*n)) bc (fun k e=>by rcases e with e|⟨j,e⟩<;>omega) (fun k hk=>cV hk))⟩;rw[au,Q.out,jq _ _ aO];exact bW)
      obtain⟨q1,bf⟩:∃q1,(if B=i+1 then (some ⟨d,0,none⟩:Option Addr) else some ⟨d,i+1,none⟩)=q1:=⟨_,rfl⟩
      have BD:=hid (aC b 1);have cz:¬(B<i):=by have:=aU.out;omega
      have cA:¬((l.length:Int)<(i:Int)+1):=oA;have cB:(0:Int)<=(i:Int)+1:=oA;have cQ:((i:Int)+1).toNat=i+1:=oA;refine wp_region_held_drew (S:=fun X=>X.cell? ⟨wb,7,none⟩=some (.slice (some ⟨F,0,none⟩) (q).ready.length (q).ready.length)) oK (KS.out _ BD) (fun bN=>?_);have s:=hid bN;refine tk 0 (.pointer (some ⟨wb,0,none⟩)) rfl s ?_;simp only[jj];refine tk 1 (.pointer (some ⟨wb,0,none⟩)) rfl s ?_;simp only[jj];refine tk 2 (.pointer (some ⟨wb,7,none⟩)) rfl s ?_;simp only[jj];refine dW 3 (.slice (some ⟨F,0,none⟩) (q).ready.length (q).ready.length) rfl (Or.inl ⟨oR,fun W h=>by have h3:=h;clear h;go_simp⟩) s ?_;simp only[jj];refine tk 4 (.int .i64 c) rfl s ?_;simp only[jj];refine dW 5 (.int .i64 (c*4)) rfl (Or.inl ⟨oR,fun W h=>by clear h;go_simp;exact bZ _ oA oA⟩) s ?_;simp only[jj];refine tk 6 (.int .i64 j) rfl s ?_;simp only[jj];refine dW 7 (.int .i64 n) rfl (Or.inl ⟨oR,fun W h=>by clear h;go_simp;exact bZ _ oA oA⟩) s ?_;simp only[jj];refine tk 9 (.slice (some ⟨d,0,none⟩) l.length B) rfl s ?_;simp only[jj];refine tk 10 (.int .i64 i) rfl s ?_;simp only[jj];refine tk 11 (.slice (some ⟨d,0,none⟩) i B) rfl s ?_;simp only[jj];refine tk 13 (.slice (some ⟨d,0,none⟩) l.length B) rfl s ?_;simp only[jj];refine tk 14 (.int .i64 i) rfl s ?_;simp only[jj];refine dW 15 (.int .i64 ((i:Int)+1)) rfl (Or.inl ⟨oR,fun W h=>by clear h;go_simp;exact bZ _ oA oA⟩) s ?_;simp only[jj];refine tk 16 (.slice q1 (l.length - (i+1)) (B - (i+1))) rfl s ?_;simp only[jj];have U:=hid (show (l.take i).length=i by rw[bI];omega);have ax:=hid (show (l.drop (i+1)).length=l.length - (i+1) by rw[dD]);obtain⟨o1,bV,bQ⟩:∃o1,q1=some ⟨d,o1,none⟩∧∀j (a:j<(l.drop (i+1)).length),b.cell? ⟨d,o1+j,none⟩=some (.int .i64 (l.drop (i+1))[j]):=by
       by_cases a9:B=i+1
       ·exact⟨0,by rw[<-bf,af a9],fun j a=>by have:=aU.out;rw[ax.out] at a;omega⟩
       ·exact⟨i+1,by rw[<-bf,ae a9],fun j a=>by
         rw[List.getElem_drop];exact C7 (i+1+j) (by rw[ax.out] at a;omega)⟩
      have av:=hid bQ;have br:=hid (show ey b (.slice (some ⟨d,0,none⟩) i B) (l.take i) from⟨some ⟨d,0,none⟩,d,0,B,by rw[U.out],fun _=>rfl,fun j a=>by
       rw[List.getElem_take,az];exact C7 j (by rw[U.out] at a;omega)⟩)
      subst bV;have E8:=hid (show (b.alloc (.cells #[] 3)).drew.ownsRow b.heap.size 3 1 (.slice (some ⟨b.heap.size,0,none⟩) 0 0) 0 [] from (dF b #[] 0 (ar _) (bF _) oS));have aB:=hid ((bal (ai _ b) (.cells #[] 3)).drew);refine wpAnyH_ready (rs:=[8]) oK oS (AllReadyH.cons rfl (fun K I=>?_) AllReadyH.nil);go_simp
      refine I _ _ (KS.out _ aB) (fun _=>?_)
      try simp only[Act.put,jD,jE,jF]
      generalize World.drew (World.alloc _ _)=X5 at*;obtain⟨q2,c2,Z,hr,ho,hb, -⟩:=gC E8 aB.size (br.below aB) (by rw[U.out];have:=aF.out;omega);have bB:=hid ho;rw[U.out] at hr;have bD:=hid hr;have aD:=hid (aB.trans hb);refine wpAnyH_ready (rs:=[12]) oK oS (AllReadyH.cons rfl (fun K I=>?_) AllReadyH.nil);refine ff _ _ 22 rfl (.slice (some ⟨b.heap.size,0,none⟩) 0 0) (.slice (some ⟨d,0,none⟩) i B) (.slice q2 i c2) rfl rfl bD ?_;refine I _ _ (KS.out _ aD) (fun _=>?_);simp only[jj];obtain⟨q3,c3,Z2,hr,ho,hb⟩:=qw (c:=B - (i+1)) bB aD.size (by rw[U.out];have:=aF.out;omega) (ys:=l.drop (i+1)) (by rw[ax.out];have:=aF.out;omega) (fun j a=>(aD.cell (aj _ _ (av.out j a))).trans (av.out j a));rw[U.out,ax.out] at hr;have bE:=hid hr;rw[U.out,ax.out] at ho;have bC:=hid ho;have an:=hid (aD.trans hb);refine wpAnyH_ready (rs:=[17]) oK oS (AllReadyH.cons rfl (fun K I=>?_) AllReadyH.nil);refine ff _ _ 22 rfl (.slice q2 i c2) (.slice (some ⟨d,o1,none⟩) (l.length - (i+1)) (B - (i+1))) (.slice q3 (i+(l.length - (i+1))) c3) rfl rfl bE ?_;refine I _ _ (KS.out _ an) (fun _=>?_);simp only[jj];refine tk 18 (.pointer (some ⟨F,n,none⟩)) rfl (KS.out _ an) ?_;simp only[jj];have ct:=KR.out _ an;have cv:=bo.out _ an;obtain⟨a8,bS⟩:=bn.out Z2 _ _ an bC;have B9:=hid a8;have K9:=hid bS;have S9:=hid (show (Z2.setCell ⟨F,n,none⟩ (.slice q3 (i+(l.length - (i+1))) c3)).cell? ⟨wb,7,none⟩=some (.slice (some ⟨F,0,none⟩) (q).ready.length (q).ready.length) by rw[ah a8.r (k:=7) rfl,Q.out]);refine wpAnyH_ready (rs:=[19]) oK oS (AllReadyH.cons rfl (fun K I=>?_) AllReadyH.nil);go_simp
      refine I _ _ S9 (fun _=>?_)
      try simp only[Act.put]
      refine dN oK ?_ _;generalize World.setCell _ _ _=Z9 at*;go_wp2_with fail
      exact aq (aK rfl _ _ _) rfl ⟨rfl,_,by rw[a0.out,aZ.out];exact B9,a4.trans K9⟩
     ·have cp:(z==m)=false:=by simpa using bk
      rw[cp] at ad;go_upto_region 12 with fail
      go_quiet (first|(go_at_call 80;refine Calls.quiet_of (ab.out _ (ap.below (aC wr _)))))
      have bz:=hid (show Below wo.heap.size wo (wr.drewN nq)∧∀j (a:j<l.length),j<i+1->dmB (q) m l[j]=false from⟨btr BI (aV (ai wr.heap.size wr) nq),fun j a h=>by
       by_cases e:j=i
       ·subst e;rw[HY.out];exact ad
       ·exact HN j a oA⟩)
      generalize World.drewN _ _=C at*;go_wp2_with fail
      exact⟨⟨i+1,oA,by go_num,bz⟩,by simp[intOf];omega⟩
    ·obtain rfl:i=l.length:=oA;have cD:¬((l.length:Int)<(l.length:Int)):=oA;have aI:=hid (show ixP (dmB (q) m) l= -1 by
      unfold ixP;rw[ae];intro h;have f:=dS (w:=h);have h3:=HN.out _ h h;rw[h3] at f
      cases f)
     have HR:=hid (show Below L.heap.size L wr∧rnx (q) m c 4=rnx (q) m c j from⟨btr O BI,by rw[aP.out,ae (by rw[aI.out];decide)]⟩);go_wp2_with fail
     exact⟨⟨j,(j:Int) - 1,oA,hid rfl,by go_num,HR⟩,by simp[intOf]⟩
  ·have cR:=h0;obtain rfl:k=0:=by have:=HX.out;omega
   have HR:=hid (show rnx (q) m c 4=q by rw[HV.out];rfl);go_wp2_with fail
   exact aX (aK rfl _ _ _) rfl ⟨rfl,tg,by rw[a0.out,HR.out];exact N.below O,a4.trans (.below O)⟩
