/- Qbg -/
import Derived.Test.YtaejnmmpddbbjaaGreatDoorQaz
import Derived.Test.YtaejnmmpddbbjaaGreatDoorQbf
set_option maxRecDepth 100000
set_option maxHeartbeats 16000000
namespace Go.Proofs.YtaejnmmpddbbjaaGreatDoor
namespace Wd
open Go.RowKit Mem Bw Nums Mmu
theorem DA {p:PW} {t m j:Nat} (c:t<=j) (d:j<t+m) (b:j<p.IB.length) (a:p.IB[j] 0≠0):usd p t m=true:=by
 cases h:usd p t m with
 |true=>rfl
 |false=>have:=yA h b a;omega
theorem AB {p:PW} {t m:Nat} (h:∀j (e:j<p.IB.length),t<=j->j<t+m->p.IB[j] 0=0):usd p t m=false:=by
 unfold usd;rw[bR];intro f d;obtain⟨i,hi⟩:=List.mem_iff_getElem?.1 d;rw[List.getElem?_take] at hi;by_cases a:i<m
 ·rw[ah a,dQ] at hi;obtain⟨b,c⟩:=List.getElem?_eq_some_iff.1 hi;have:=h (t+i) b oA oA;rw[c] at this;simp[this]
 ·rw[ae a] at hi
  cases hi
theorem yg {p:PW} {n:Int} (h:fT p n=false):n<0∨(¬(n<0)∧(p.IB.length:Int)<=n):=by
 unfold fT at h;have:=dp h;omega
theorem iD (n k m Q:Int) (p:PW) (M:p.Fits) (hl:∀l∈p.ID,l.length<=100) (P:Snd p) (W:World) (wb:Nat) (tag:Nat->Nat) (V:Nat->Value) (aY:di W wb tag V p):
  Calls Tryz.prog 16 #[.pointer (some ⟨wb,0,none⟩),.int .i64 n,.int .i64 k,.int .i64 m,.int .i64 Q] W fun r W'=>r=.returned (.int .i64 (mkE p n k m Q))∧∃tag',Kt tag tag' W W'∧(mkE p n k m Q=0->∃V',di W' wb tag' V' (mkP p n k m Q))∧(mkE p n k m Q≠0->∃V',di W' wb tag' V' p):=by
 obtain⟨bt,kr⟩:=iP aY;have KR:=hid kr;have T0:=hid (fun x (h:W.heap.size<=x)=>show jh tag W.heap.size x=0 from ae oA);generalize jh tag W.heap.size=tg at*;clear aY kr;have ax:=hid bt;have cK:(p.IB.length:Int)<=1000:=by have:=M.IB;omega
 obtain⟨q2,w,cap2,e2,aO⟩:=bt.o.IB.shape;have c2:W.cell? ⟨wb,2,none⟩=some (.slice q2 p.IB.length cap2):=by rw[ai bt.r (k:=2) rfl,e2]
 by_cases Z:fT p n=true
 rotate_left
 ·have c:=hid (show mkE p n k m Q=2 by
   have d:gI p n=2:=by unfold gI;rw[ae Z]
   have z:clE p n=2:=by unfold clE;rw[d];rfl
   unfold mkE;rw[z];split<;>rfl)
  rcases yg (Bool.eq_false_iff.2 Z) with F|⟨F,d⟩
  all_goals
   clear bt M hl P Z e2 aO;go_enter Tryz.func16,Tryz.ntmps16
   go_wp2_with fail
   go_ret
   exact⟨by rw[c.out];rfl,tg,KR.out,fun h=>(by rw[c.out] at h;cases h),fun _=>⟨V,ax.out⟩⟩
 obtain⟨j,rfl,hj⟩:=gr Z;have cw:¬((j:Int)<0):=oA;have cx:(j:Int)<(p.IB.length:Int):=oA;by_cases ab:fT p Q=true
 rotate_left
 ·have c:=hid (show mkE p j k m Q=2 by unfold mkE;rw[Bool.eq_false_iff.2 ab];rfl);rcases yg (Bool.eq_false_iff.2 ab) with F|⟨F,d⟩
  all_goals
   clear bt M hl P Z e2 aO ab;go_enter Tryz.func16,Tryz.ntmps16
   go_wp2_with fail
   go_ret
   exact⟨by rw[c.out];rfl,tg,KR.out,fun h=>(by rw[c.out] at h;cases h),fun _=>⟨V,ax.out⟩⟩
 obtain⟨t,rfl,ht⟩:=gr ab;have cL:¬((t:Int)<0):=oA;have cM:(t:Int)<(p.IB.length:Int):=oA;obtain rfl:=aO oA;have E2:=hid e2;have av:mkE p j k m t=if clE p j=0 then (if dH 2 8 k=true then (if fcE p t m=0 then (if (p.IB.getD j fC) 2 - usV p j<m then 5 else 0) else fcE p t m) else 3) else clE p j:=by unfold mkE;rw[ab,ah rfl,af,af]
 have ar:=hid (mH wb V p j W (bt.view M hl));by_cases O:gI p j=0
 rotate_left
 ·have C:clE p j=gI p j:=ae O;have c:=hid (show mkE p j k m t=gI p j by rw[av,ae (by rw[C];exact O),C]);have HN:=hid O;have bG:(gI p j==0)=false:=by simpa using O
  generalize gI p j=x at ar c HN bG;clear bt M hl P Z e2 ab av O C;go_enter Tryz.func16,Tryz.ntmps16
  go_wp2_with fail
  refine ar.mono ?_;rintro q w1 ⟨rfl,rfl⟩;go_wp2_with fail
  go_ret
  exact⟨by rw[c.out];rfl,tg,KR.out,fun h=>absurd (c.symm.trans h) HN,fun _=>⟨V,ax.out⟩⟩
 rw[O] at ar;have aJ:p.IB.getD j fC=p.IB[j]:=by rw[aa,ac hj];rfl
 obtain⟨f,hf⟩:∃f,p.IB[j]=f:=⟨_,rfl⟩
 have C:clE p j=if f 0=1 then 0 else 3:=by unfold clE;rw[ah O,af,aJ,hf]
 have RJ:=hid (show W.rangeAt w (j*7) (cf 6 f) from uc (by
  have z:=bt.o.IB;rw[e2] at z;have h3:=z.range hj;rw[hf] at h3;exact h3))
 have s:=hid bt;have aF:=hid (aR W zK 78 W.heap.size 6 rfl oD);have aw:=hid (show Below W.heap.size W ((W.alloc (.cells zK 78)).setCells W.heap.size 0 (cf 6 f)) from bX (bal (ag W.heap.size W) (.cells zK 78)) (aq _) _ 0);have RK:=hid (World.rangeAt_setCells_same (W.alloc (.cells zK 78)) W.heap.size 0 (cf 6 f) (by rw[az];exact aF));have TK:=hid (gS (cf 6 f) 0 (W.alloc (.cells zK 78)) (B:=W.heap.size) aF);have J:=hid (T0.out W.heap.size (aq _));have al:=hid (show t/16<p.kinds.length by have:=P.lf.IB;omega);have cy:((t:Int)/16)=((t/16:Nat):Int):=oA;have cz:((t/16:Nat):Int)<(p.kinds.length:Int):=by have:=al.out;omega
 have cA:(p.kinds.length:Int)<=1000:=by have:=M.kinds;omega
 obtain⟨g1,cap1,e1⟩:=bt.o.kinds.form (show 0<p.kinds.length by have:=al.out;omega);have E1:=hid e1;obtain⟨yk,aQ⟩:∃y,p.kinds[t/16]=y:=⟨_,rfl⟩
 have bn:=hid (fun X (h:di X wb tg V p)=>show X.cell? ⟨g1,t/16,none⟩=some (.int .i64 yk) from by
  have z:=h.o.kinds;rw[e1] at z;rw[<-aQ];exact z.int al)
 have E:=hid (show fcE p t m=if yk=5 then (if dH 1 (16 - (t:Int)%16) m=true then (if usd p t m.toNat=true then 12 else 0) else 2) else 3 by unfold fcE;rw[jY (al.out), <-aQ];rfl);have D:=hid av;have aT:=hid P;have aS:=hid M;have bU:=hid hl;have ao:=hid C;have HJ:=hid hj;have R:=hid hf;have ap:=hid aJ;have bs:=hid P.lf.IE;have bv:=hid P.lf.IB;have G:=hid ht;have bf:=hid (fun X (h:di X wb tg V p)=>rH wb V p j X (h.view M hl));have bA:=hid (fun X (h:di X wb tg V p) i (hi:i<p.IB.length)=>show X.cell? ⟨w,i*7,none⟩=some (.int .i64 (p.IB[i] 0)) from by have d:=h.IU e2 hi (show 0<7 by omega);rw[bO] at d;exact d);generalize t/16=tq at*;clear bt M hl P Z ab e1 e2 O aJ hf C av T0 al ht aQ;go_enter Tryz.func16,Tryz.ntmps16
 go_wp2_with fail
 refine ar.mono ?_;rintro q w1 ⟨rfl,rfl⟩;go_upto_region 7 with (first|((with_reducible refine gld 78 ?_);refine uA rfl _ rfl w (j*7) rfl (cf 6 f) (az _ _) RJ ?_)|((with_reducible refine gst 78 ?_);refine hJ rfl _ _ rfl W.heap.size 0 rfl (cf 6 f) rfl (az _ _) (cC _ _) aF ?_))
 generalize World.setCells _ _ _ _=W2 at*;obtain⟨kb,aN⟩:∃kb,W.heap.size=kb:=⟨_,rfl⟩
 have bk:=hid aN;rw[aN] at RK TK J ⊢;clear aN c2;have A:=hid (s.below aw);have K2:=hid (KR.trans (.below aw));have c1:W2.cell? ⟨wb,1,none⟩=some (.slice (some ⟨g1,0,none⟩) p.kinds.length cap1):=by rw[ai A.r (k:=1) rfl,E1.out]
 have y0:=ai RK (k:=0) (v:=.int .i64 (f 0)) (dm 6 _ 0 oA);by_cases d:f 0=1
 rotate_left
 ·have c:=hid (show mkE p j k m t=3 by rw[D.out,ao.out,ae d];rfl);have bE:(f 0 !=1)=true:=by simpa using d
  go_wp2_with fail
  go_ret
  exact⟨by rw[c.out];rfl,tg,K2.out,fun h=>(by rw[c.out] at h;cases h),fun _=>⟨V,A.out⟩⟩
 have C:=ao.out;rw[ah d] at C;replace ao:=hid C;replace D:=hid (D.trans (ah C));have bE:(f 0 !=1)=false:=by rw[d];rfl
 clear C;by_cases ad:dH 2 8 k=true
 rotate_left
 ·have c:=hid (show mkE p j k m t=3 by rw[D.out,ae ad]);have bP:k<2∨(¬(k<2)∧8<k):=by
   unfold dH at ad;have:=dp (Bool.eq_false_iff.2 ad);omega
  rcases bP with z|⟨z,h3⟩
  all_goals
   go_wp2_with fail
   go_ret
   exact⟨by rw[c.out];rfl,tg,K2.out,fun h=>(by rw[c.out] at h;cases h),fun _=>⟨V,A.out⟩⟩
 replace D:=hid (D.trans (ah ad));obtain⟨cU,cV⟩:¬(k<2)∧¬(8<k):=by
  unfold dH at ad;have:=ay ad;omega
 have xk:=bn.out _ A;by_cases h5:yk=5
 rotate_left
 ·have c:=hid (show mkE p j k m t=3 by rw[D.out,E.out,ae h5];rfl);have bW:(yk !=5)=true:=by simpa using h5
  go_wp2_with fail
  go_ret
  exact⟨by rw[c.out];rfl,tg,K2.out,fun h=>(by rw[c.out] at h;cases h),fun _=>⟨V,A.out⟩⟩
 subst h5;replace E:=hid (E.trans (ah rfl));obtain⟨tm,bK⟩:∃tm:Int,(t:Int)%16=tm:=⟨_,rfl⟩
 rw[bK] at E;have cP:0<=tm:=oA;have cQ:tm<16:=oA;by_cases aj:dH 1 (16 - tm) m=true
 rotate_left
 ·have c:=hid (show mkE p j k m t=2 by rw[D.out,E.out,ae aj];rfl);have bQ:m<1∨(¬(m<1)∧16<m)∨(¬(m<1)∧¬(16<m)∧16<tm+m):=by
   unfold dH at aj;have:=dp (Bool.eq_false_iff.2 aj);omega
  rcases bQ with h6|⟨h6,h7⟩|⟨h6,h7,h8⟩
  all_goals
   go_wp2_with fail
   go_ret
   exact⟨by rw[c.out];rfl,tg,K2.out,fun h=>(by rw[c.out] at h;cases h),fun _=>⟨V,A.out⟩⟩
 replace E:=hid (E.trans (ah aj));obtain⟨cW,cX,cY⟩:¬(m<1)∧¬(16<m)∧¬(16<tm+m):=by
  unfold dH at aj;have:=ay aj;omega
 obtain⟨mn,rfl⟩:∃mn:Nat,m=mn:=⟨m.toNat,oA⟩
 rw[af] at E;have aG:=hid (show t+mn<=p.IB.length by have:=bv.out;have:=G.out;omega);have cR:(t:Int)+(mn:Int)<=(p.IB.length:Int):=by have:=aG.out;omega
 clear ad aj;go_upto_region 12 with fail
 clear c1 y0 xk
 go_loopw [13] (fun i wr=>∃(a:Nat),t<=a∧a<=t+mn∧i=.int .i64 a∧W2=wr∧Hid (∀x (hx:x<p.IB.length),t<=x->x<a->p.IB[x] 0=0)) (fun i _=>t+mn - (intOf i).toNat)
 case atStart=>exact⟨t,aq _,oA,rfl,rfl,hid (fun x _ d z=>oA)⟩
 case round=>
  obtain⟨a,bF,bY,rfl,rfl,HN⟩:=hrel;by_cases a9:a<t+mn
  ·have bH:(a:Int)<(t:Int)+(mn:Int):=oA;have a0:a<p.IB.length:=by have:=aG.out;omega
   have bZ:(a:Int)<(p.IB.length:Int):=oA;have c2:W2.cell? ⟨wb,2,none⟩=some (.slice (some ⟨w,0,none⟩) p.IB.length cap2):=by rw[ai A.r (k:=2) rfl,E2.out]
   have xa:=bA.out _ A a a0;by_cases F:p.IB[a] 0=0
   ·rw[F] at xa;have bq:=hid (show ∀x (hx:x<p.IB.length),t<=x->x<a+1->p.IB[x] 0=0 from fun x hx d z=>by
     by_cases e:x=a
     ·subst e;exact F
     ·exact HN x hx d oA)
    clear F;go_wp2_with fail
    exact⟨⟨a+1,oA,oA,by go_num,by first|rfl|trivial,bq⟩,by simp[intOf];omega⟩
   ·have HU:=DA (m:=mn) bF a9 a0 F;have c:=hid (show mkE p j k mn t=12 by rw[D.out,E.out,HU];rfl);have bD:(p.IB[a] 0 !=0)=true:=by simpa using F
    generalize p.IB[a] 0=y at xa bD;clear F HU;go_wp2_with fail
    go_ret
    exact⟨by rw[c.out];rfl,tg,K2.out,fun h=>(by rw[c.out] at h;cases h),fun _=>⟨V,A.out⟩⟩
  ·have cm:¬((a:Int)<(t:Int)+(mn:Int)):=oA;have aU:=hid (AB (p:=p) (t:=t) (m:=mn) (fun x hx d z=>HN.out x hx d oA));have a4:fcE p t mn=0:=by rw[E.out,aU.out];rfl
   have aH:=D.out;rw[ah a4,ap.out,R.out] at aH;obtain⟨j',aK,ej, -, -,a2,a8,ba,bL⟩:=BV aT ao;obtain rfl:j'=j:=oA;rw[R.out] at a2 a8 ba;obtain⟨cc,a3⟩:=a2;obtain⟨cB,cD⟩:=a8;obtain⟨cG,cH⟩:=ba;obtain⟨bM,bN⟩:=bL;have bo:=hid (show (p.kinds.length:Int)<=24 by have:=aT.lf.k2;omega);have cd:f 1<=24:=by have:=bo.out;omega
   have cI:(mn:Int)<=16:=oA;have y2:=ai RK (k:=2) (v:=.int .i64 (f 2)) (dm 6 _ 2 oA);have y3:=ai RK (k:=3) (v:=.int .i64 (f 3)) (dm 6 _ 3 oA);have aW:=hid (show usV p j'=if frm p j'=true then f 3 else 0 by unfold usV;rw[af,ap.out,R.out]);have hB:((mkB p j':Nat):Int)=f 1+usV p j':=by unfold mkB;rw[af,ap.out,R.out];omega
   have HP:=hid (show mkP p j' k mn t={mkI p j' k (mkB p j') t mn with IB:=(mkI p j' k (mkB p j') t mn).IB.set j' (upd f 3 (usV p j'+mn))} by unfold mkP;rw[af,af,af,ap.out,R.out]);have br:=hid (yA aU aK (by rw[R.out];omega));have bu:=hid (show ∀i,i<=mn->∀(h:j'<(mkI p j' k (mkB p j') t i).IB.length),(mkI p j' k (mkB p j') t i).IB[j']=f from fun i hi h=>by
    have d:=xq p j' k (mkB p j') t j' i (by have:=br.out;omega);rw[ac h,ac aK,R.out] at d;exact aL d)
   have bT:=hid (fun i=>zP aS (j':Int) k (mkB p j') t i);have H:=hid (fun i=>mR p (j':Int) k (mkB p j') t i);have aA:=hid hB;have aB:=hid aH;have bp:=hid (show f 1+f 2<=(p.kinds.length:Int) from a3);clear aH hB a4 a3;generalize mkB p j'=g at*;go_upto_region 17 with fail
   go_wp2_with fail
   refine (bf.out _ A).mono ?_;rintro q w3 ⟨rfl,rfl⟩
   go_upto_if 114 with fail
   go_cut [14] (fun u wx=>Hid (u=.int .i64 (usV p j'))∧Hid (W2=wx))
   case first=>
    cases a5:frm p j'<;>(rw[a5] at aW;go_wp2_with fail;go_meet;exact⟨hid (by rw[aW.out];rfl),hid rfl⟩)
   case rest=>
   obtain⟨d,z⟩:=hcut;obtain⟨us,an⟩:∃us,usV p j'=us:=⟨_,rfl⟩
   have bV:=hid an;rw[an] at d;obtain rfl:=d.out;obtain rfl:=z.out;have bz:=hid (show 0<=us∧us<=100 by rw[<-an];exact⟨bM,bN⟩);obtain⟨cS,cT⟩:=bz.out;rw[an] at aB aA HP;clear d z an;by_cases ck:f 2<us+(mn:Int)
   ·have c:=hid (show mkE p j' k mn t=5 by rw[aB.out,ah oA]);go_wp2_with fail
    go_ret
    exact⟨by rw[c.out];rfl,tg,K2.out,fun h=>(by rw[c.out] at h;cases h),fun _=>⟨V,A.out⟩⟩
   have c:=hid (show mkE p j' k mn t=0 by rw[aB.out,ae oA]);have bg:=hid (show g+mn<=p.kinds.length by have:=aA.out;have:=bp.out;omega);have KW:=hid (show Kt tg tg W W2 from .below aw);go_upto_region 22 with fail
   clear y2 y3
   go_loopw [15] (fun i wr=>∃(a:Nat),a<=mn∧i=.int .i64 a∧Hid (di wr wb tg V (mkI p j' k g t a))∧Hid (Kt tg tg W wr)∧Hid (wr.rangeAt kb 0 (cf 6 f)∧wr.there kb 0 6)) (fun i _=>mn - (intOf i).toNat)
   case atStart=>exact⟨0,oA,rfl,A,KW,hid ⟨RK.out,TK.out⟩⟩
   case round=>
    obtain⟨a,ha,rfl,s,G,U⟩:=hrel;have I:=hid U.1;have Y:=hid U.2;clear U KW;by_cases a9:a<mn
    ·have bH:(a:Int)<(mn:Int):=oA;have y1:=ai I (k:=1) (v:=.int .i64 (f 1)) (dm 6 _ 1 oA);obtain⟨fr,a6⟩:∃fr:Nat,g+a=fr:=⟨_,rfl⟩
     have a5:f 1+us+(a:Int)=(fr:Int):=by have:=aA.out;omega
     have bh:=hid a6;obtain⟨ta,bb⟩:∃ta:Nat,t+a=ta:=⟨_,rfl⟩
     have aE:=hid bb;have cg:fr<p.kinds.length:=by have:=bg.out;omega
     have cj:(fr:Int)<(p.kinds.length:Int):=oA;have e1:V 1=.slice (some ⟨g1,0,none⟩) (mkI p j' k g t a).kinds.length cap1:=by rw[(H.out a).1];exact E1
     have c1:wr.cell? ⟨wb,1,none⟩=some (.slice (some ⟨g1,0,none⟩) p.kinds.length cap1):=by rw[ai s.r (k:=1) rfl,E1.out]
     have bc:=(s.I8 e1 fr 1 (by rw[(H.out a).1];omega) 0 oA).2;rw[bO] at bc;obtain⟨yk,bS⟩:∃y,wr.cell? ⟨g1,fr,none⟩=some y:=by
      have d:=(s.I8 e1 fr 1 (by rw[(H.out a).1];omega) 0 oA).1;rw[bO] at d;exact Option.isSome_iff_exists.1 d
     obtain⟨b3,k3⟩:=s.IL e1 fr k;have B3:=hid b3;have K3:=hid (G.trans k3);have R3:=hid (show (wr.setCell ⟨g1,fr,none⟩ (.int .i64 k)).rangeAt kb 0 (cf 6 f) from fun o v hv=>k3.cell (I.out o v hv) J);have T3:=hid (k3.there Y J);clear b3 k3 e1 a6 bb;go_upto_region 27 with fail
     generalize World.setCell _ _ _=W3 at*;clear y1 c1 bc bS s G I Y;generalize wr=cZ at*
     go_loopw [17] (fun i wr=>∃(e:Nat),e<=16∧i=.int .i64 e∧Hid (di wr wb tg V {mkI p j' k g t a with kinds:=(mkI p j' k g t a).kinds.set fr k,IE:=zr e (mkI p j' k g t a).IE (fr*16)})∧Hid (Kt tg tg W wr)∧Hid (wr.rangeAt kb 0 (cf 6 f)∧wr.there kb 0 6)) (fun i _=>16 - (intOf i).toNat)
     case atStart=>exact⟨0,oA,rfl,hid (by rw[lD];exact B3),K3,hid ⟨R3.out,T3.out⟩⟩
     case round=>
      obtain⟨e,he,rfl,s,G,U⟩:=hrel;have I:=hid U.1;have Y:=hid U.2;clear U B3 K3 R3 T3;by_cases cE:e<16
      ·have cF:(e:Int)<16:=oA;obtain⟨ix,a7⟩:∃ix:Nat,fr*16+e=ix:=⟨_,rfl⟩
       have cs:(fr:Int)*16+(e:Int)=(ix:Int):=oA;have bj:=hid a7;have bI:p.IE.length=p.kinds.length*16:=bs.out;have ct:ix<p.IE.length:=oA;have cv:(ix:Int)<(p.IE.length:Int):=oA;obtain⟨g0,cap0,e0⟩:=s.o.IE.form (by rw[ny,(H.out a).2.1];omega);have au:V 0=.slice (some ⟨g0,0,none⟩) (zr e (mkI p j' k g t a).IE (fr*16)).length cap0:=e0;rw[ny,(H.out a).2.1] at e0;have c0:wr.cell? ⟨wb,0,none⟩=some (.slice (some ⟨g0,0,none⟩) p.IE.length cap0):=by rw[ai s.r (k:=0) rfl,e0]
       have cJ:(p.IE.length:Int)<=1000:=by have:=aS.IE;omega
       have bR:=(s.Jm au ix 1 (by show ix+1<=(zr e (mkI p j' k g t a).IE (fr*16)).length;rw[ny,(H.out a).2.1];omega) 0 oA).2;rw[bO] at bR;obtain⟨yr,c3⟩:∃y,wr.cell? ⟨g0,ix,none⟩=some y:=by
        have d:=(s.Jm au ix 1 (by show ix+1<=(zr e (mkI p j' k g t a).IE (fr*16)).length;rw[ny,(H.out a).2.1];omega) 0 oA).1;rw[bO] at d;exact Option.isSome_iff_exists.1 d
       obtain⟨b4,k4⟩:=s.IS au ix 0;have B4:=hid (show di (wr.setCell ⟨g0,ix,none⟩ (.int .i64 0)) wb tg V {mkI p j' k g t a with kinds:=(mkI p j' k g t a).kinds.set fr k,IE:=zr (e+1) (mkI p j' k g t a).IE (fr*16)} by rw[yF,bj.out];exact b4);have K4:=hid (G.trans k4);have R4:=hid (show (wr.setCell ⟨g0,ix,none⟩ (.int .i64 0)).rangeAt kb 0 (cf 6 f) from fun o v hv=>k4.cell (I.out o v hv) J);have bC:=hid (k4.there Y J);clear b4 k4 e0 au a7 bI;go_wp2_with fail
       exact⟨⟨e+1,oA,by go_num,B4,K4,hid ⟨R4.out,bC.out⟩⟩,by simp[intOf];omega⟩
      ·obtain rfl:e=16:=oA;have cq:¬((16:Int)<16):=oA;have L5:=hid (show ({mkI p j' k g t a with kinds:=(mkI p j' k g t a).kinds.set fr k,IE:=zr 16 (mkI p j' k g t a).IE (fr*16)}:PW).IB.length=p.IB.length from (H.out a).2.2);have aI:V 2=.slice (some ⟨w,0,none⟩) ({mkI p j' k g t a with kinds:=(mkI p j' k g t a).kinds.set fr k,IE:=zr 16 (mkI p j' k g t a).IE (fr*16)}:PW).IB.length cap2:=by rw[L5.out];exact E2
       have bJ:ta<p.IB.length:=by have:=aG.out;have:=aE.out;omega
       have cN:(ta:Int)<(p.IB.length:Int):=oA;have cO:(t:Int)+(a:Int)=(ta:Int):=by have:=aE.out;omega
       have c2:wr.cell? ⟨wb,2,none⟩=some (.slice (some ⟨w,0,none⟩) p.IB.length cap2):=by rw[ai s.r (k:=2) rfl,E2.out]
       obtain⟨h6,k6⟩:=s.IV aI (i:=ta) (by rw[L5.out];exact bJ) (nsl k (fr:Int) j');have B6:=hid (show di (wr.setCells w (ta*7) (cf 7 (nsl k (fr:Int) j'))) wb tg V (mkI p j' k g t (a+1)) by
        show di _ wb tg V (mk1 (mkI p j' k g t a) j' k g t a)
        unfold mk1;rw[bh.out,aE.out];exact h6)
       have K6:=hid (G.trans k6);have R6:=hid (show (wr.setCells w (ta*7) (cf 7 (nsl k (fr:Int) j'))).rangeAt kb 0 (cf 6 f) from fun o v hv=>k6.cell (I.out o v hv) J);have T6:=hid (k6.there Y J);have bB:=hid (s.Jc aI (ta*7) 7 (by rw[L5.out];omega));clear h6 k6 aI;go_wp2_with (first|((with_reducible refine gst 80 ?_);refine rE rfl _ _ rfl w (ta*7) rfl (cf 7 (nsl k (fr:Int) j')) rfl (az _ _) (cC _ _) bB ?_))
       exact⟨⟨a+1,oA,by go_num,B6,K6,hid ⟨R6.out,T6.out⟩⟩,by simp[intOf];omega⟩
    ·obtain rfl:a=mn:=oA;have cp:¬((a:Int)<(a:Int)):=oA;have y3:=ai I (k:=3) (v:=.int .i64 (f 3)) (dm 6 _ 3 oA);have f3:=(Y.out 3 oA).2;rw[aC] at f3;have R7:=hid (xT I (us+a));have B7:=hid (s.kp (T:=fun x=>x=kb) ((aV (fun x=>x=kb) wr).setCell (b:=kb) (o:=3) (.inl rfl) (.int .i64 (us+a))) (fun x _ e=>by rw[e];exact J) (fun _ _=>rfl));have K7:=hid (G.JT (b:=kb) (o:=3) (by rw[bk.out];exact aq _) (.int .i64 (us+a)));go_upto_region 32 with fail
     generalize World.setCell _ _ _=N at*;clear y3 f3 I Y s G;obtain⟨kf,am⟩:∃kf,upd f 3 (us+(a:Int))=kf:=⟨_,rfl⟩
     rw[am] at R7;have L7:=hid (H.out a).2.2;have he:V 2=.slice (some ⟨w,0,none⟩) (mkI p j' k g t a).IB.length cap2:=by rw[L7.out];exact E2
     have aM:j'<(mkI p j' k g t a).IB.length:=by rw[L7.out];exact aK
     have aP:=bu.out a (aq _) aM;have BD:Hid (di N.drew wb tg V (mkI p j' k g t a)):=hid (B7.below (aD N 1));have KD:Hid (Kt tg tg W N.drew):=hid (K7.trans (.below (aD N 1)));have RD:Hid (N.drew.rangeAt kb 0 (cf 6 kf)):=hid (dN R7 (aD N 1));obtain⟨h8,k8⟩:=BD.JF he aM kf (by rw[aP, <-am];rfl) (fun x hx=>by rw[aP, <-am];unfold upd;rw[ae oA]);have B8:=hid (show di (N.drew.setCells w (j'*7) (cf 6 kf)) wb tg V (mkP p j' k a t) by rw[HP.out,am];exact h8);have K8:=hid (KD.trans k8);have R8:=hid (show (N.drew.setCells w (j'*7) (cf 6 kf)).rangeAt kb 0 (cf 6 kf) from fun o v hv=>k8.cell (RD.out o v hv) J);have aX:=hid (BD.Jc he (j'*7) 6 (by rw[L7.out];omega));have KS:=hid (fun X q (h:di X wb tg V q) (hr:X.rangeAt kb 0 (cf 6 kf))=>show X.cell? ⟨wb,2,none⟩=some (.slice (some ⟨w,0,none⟩) p.IB.length cap2)∧X.rangeAt kb 0 (cf 6 kf) from⟨by rw[ai h.r (k:=2) rfl,E2.out],hr⟩);clear h8 k8 he aM aP am HP;refine wp_region_held_drew (S:=fun X=>X.cell? ⟨wb,2,none⟩=some (.slice (some ⟨w,0,none⟩) p.IB.length cap2)∧X.rangeAt kb 0 (cf 6 kf)) oK (KS.out _ _ BD RD) (fun aZ=>?_);have L:=hid aZ;clear aZ;refine tk 0 (.pointer (some ⟨wb,0,none⟩)) rfl L ?_;simp only[jj];refine tk 1 (.pointer (some ⟨wb,0,none⟩)) rfl L ?_;simp only[jj];refine tk 2 (.pointer (some ⟨wb,2,none⟩)) rfl L ?_;simp only[jj];refine eT 3 (.slice (some ⟨w,0,none⟩) p.IB.length cap2) rfl (Or.inl ⟨oR,fun W h=>by have h3:=h.1;clear h;go_simp⟩) L ?_;simp only[jj];refine tk 4 (.int .i64 j') rfl L ?_;simp only[jj];refine eT 5 (.agg (cf 6 kf).toArray) rfl (yieldsIf_load_mid oR _ _ rfl _ _ rfl (cf 6 kf) _ (fun _ h=>h.2) Tryz.underlying78 rfl (by rw[qp,az])) L ?_;simp only[jj];refine tk 6 (.pointer (some ⟨w,j'*7,none⟩)) rfl L ?_;simp only[jj];refine tk 7 (.pointer (some ⟨w,j'*7,none⟩)) rfl L ?_;simp only[jj];refine wpAnyH_ready (rs:=[8]) oK oS (AllReadyH.cons rfl (fun K hK=>?_) AllReadyH.nil);refine wp_store_mid 78 _ _ rfl w (j'*7) (cf 6 kf).toArray rfl rfl (by rw[List.size_toArray,az];exact aX) (by rw[qp];rfl) (all_oneCell_toArray (cC 6 _)) ?_;refine hK _ _ (KS.out _ _ B8 R8) (fun _=>?_);clear hK K L
     try simp only[Act.put]
     refine dK oK ?_ _;clear KS BD KD RD B7 K7 R7 aX;generalize World.setCells _ _ _ _=W8 at*;go_wp2_with fail
     go_ret
     exact⟨by rw[c.out];rfl,tg,KR.trans K8,fun _=>⟨V,B8.out⟩,fun h=>absurd (by first|rfl|assumption|exact c) h⟩
theorem nH (n k m a:Int) (p:PW) (i:p.Fits) (hl:∀l∈p.ID,l.length<=100) (j:Snd p) (W:World) (wb:Nat) (tag:Nat->Nat) (V:Nat->Value) (d:di W wb tag V p):
  Calls Tryz.prog 16 #[.pointer (some ⟨wb,0,none⟩),.int .i64 n,.int .i64 k,.int .i64 m,.int .i64 a] W fun r b=>r=.returned (.int .i64 (mkE p n k m a))∧∃tag',Kt tag tag' W b∧(mkE p n k m a=0->∃c,di b wb tag' c (mkP p n k m a)):=(iD n k m a p i hl j W wb tag V d).mono fun x b h=>by
 obtain⟨e,o,f,g,_⟩:=h;exact⟨e,o,f,g⟩
theorem A2:∀(k:Nat) (l:List Int),l.Nodup->(∀z∈l,∃t:Nat,t<k∧z=t)->l.length<=k
 |0,[],_,_=>aq _
 |0,z::l,_,h=>by obtain⟨t,f,_⟩:=h z oS;omega
 |k+1,l,hn,h=>by
  have d:=A2 k (l.erase (k:Int)) (hn.erase _) (fun z c=>by
   obtain⟨t,a,b⟩:=h z (List.mem_of_mem_erase c);refine⟨t,?_,b⟩;have:t≠k:=fun e=>by rw[b,e] at c;exact hn.not_mem_erase c
   omega)
  rw[List.length_erase] at d;split at d<;>omega
theorem Lw.Jt {p:PW} (h:Lw p):(∀l∈p.lines,l.length<=24)∧∀l∈p.ready,l.length<=24:=by
 have x:=h.m.tk;have k24:=x.lf.k2;have g:∀{ls:List (List Int)},(∀a z,z∈ls.getD a []->∃n:Nat,z=n∧p.k n=6)->(∀a,(ls.getD a []).Nodup)->∀l∈ls,l.length<=24:=fun d f l hl=>by
  obtain⟨j,i,rfl⟩:=dY hl;rw[nW i];refine aB (A2 p.kinds.length _ (f j) fun z b=>?_) k24;obtain⟨n,e,c⟩:=d j z b;exact⟨n,iS oA,e⟩
 exact⟨g (fun a z b=>by obtain⟨n,e,_,c,_⟩:=x.q.ln a z b;exact⟨n,e,c⟩) x.q.lu,g (fun a z b=>by obtain⟨n,e,_,c,_⟩:=x.q.rd a z b;exact⟨n,e,c⟩) x.q.ru⟩
theorem Lw.fits {p:PW} (h:Lw p):p.Fits:=by
 have l:=h.m.tk.lf;obtain⟨a,b⟩:=h.Jt;have k:=l.k2;have c:=l.c2;exact⟨by have:=l.IE;omega,oA,by have:=l.IB;omega,by have:=l.IA;omega,by have:=l.lines;omega,fun x d=>by have:=a x d;omega,by have:=l.bits;omega,oA,by have:=l.ready;omega,fun x d=>by have:=b x d;omega,by have:=l.ID;omega,by have:=l.d2;omega⟩
theorem Lw.IZ {p:PW} (h:Lw p):∀l∈p.ID,l.length<=100:=fun l hl=>by have:=(h.tl l hl).n;omega
structure Lv (p:PW):Prop where
 w:Lw p
 t:p.time<=1000000
theorem Lv.s {p:PW} (h:Lv p):Snd p:=ui (h.w.snd h.t)
structure Sm (p q:PW):Prop where
 w:Lv q
 k:q.kinds.length=p.kinds.length
 t:q.time=p.time
 c:q.ID.length=p.ID.length
theorem Sm.refl {p:PW} (h:Lv p):Sm p p:=⟨h,rfl,rfl,rfl⟩
theorem Sm.trans {p q r:PW} (h:Sm p q) (g:Sm q r):Sm p r:=⟨g.w,g.k.trans h.k,g.t.trans h.t,g.c.trans h.c⟩
theorem Sm.co {p q:PW} (h:Sm p q) (a:Lv p):q.IC.length=p.IC.length:=by rw[<-h.w.w.m.tk.lf.ID,h.c,a.w.m.tk.lf.ID]
theorem Lv.to {p q:PW} (h:Lv p) (w:Lw q) (k:q.kinds.length=p.kinds.length) (t:q.time=p.time) (c:q.ID.length=p.ID.length):Sm p q:=⟨⟨w,by rw[t];exact h.t⟩,k,t,c⟩
theorem Lv.rs {p q:PW} (h:Lv p) (w:Lw q) (r:Rs p q):Sm p q:=h.to w (by rw[r.k]) r.t (by rw[r.l])
def Bx (p:PW) (wb:Nat) (tag:Nat->Nat) (W W':World):Prop:=∃(tag':Nat->Nat) (V':Nat->Value) (p':PW),Kt tag tag' W W'∧di W' wb tag' V' p'∧Sm p p'
def Okd (p:PW) (wb:Nat) (tag:Nat->Nat) (W:World) (r:Ending) (W':World):Prop:=∃e:Int,r=.returned (.int .i64 e)∧(0<=e∧e<=13)∧Bx p wb tag W W'
theorem Bx.same {p:PW} {wb:Nat} {tag:Nat->Nat} {V:Nat->Value} {W W':World} (h:Lv p) (bt:di W wb tag V p) (a:Below W.heap.size W W'):Bx p wb tag W W':=⟨tag,V,p,bE a,bt.below a,Sm.refl h⟩
theorem _root_.Go.Proofs.YtaejnmmpddbbjaaGreatDoor.dy:type_of% @Bx.same:= @Bx.same
theorem Cf:∀(m:Nat) (p:PW) (s:Nat),(drF m p s).kinds.length=p.kinds.length
 |0,_,_=>rfl
 |m+1,p,s=>by
  have da:∀f a q,(daF (drF m) f a q).kinds.length=q.kinds.length:=fun f a=>by
   induction a with
   |zero=>intro q;rw[im]
   |succ a ih2=>
    intro q;rw[il];split
    ·exact ih2 q
    ·rw[ih2,Cf m]
  have nk:∀q f,(nkP q f).kinds.length=q.kinds.length:=fun q f=>au ..;unfold drF;split
  ·rfl
  ·unfold lsF;split
   ·exact nk _ _
   split
   ·exact nk _ _
   split
   ·rw[da];exact nk _ _
   split
   ·rw[kC];exact nk _ _
   ·show (dsP (nkP (drA p s) _) _).kinds.length=_
    rw[iV];exact nk _ _
theorem FO {m t:Nat}:∀(n:Nat) (p:PW),(rvN (drF m) t n p).kinds.length=p.kinds.length
 |0,_=>rfl
 |n+1,p=>by
  rw[rvN];split
  ·rfl
  ·rw[FO n,Cf]
theorem Lv.drop {p:PW} (h:Lv p) (a:Int):Sm p (dkP p a):=by
 refine h.to (h.w.drop a) ?_ ?_ ?_<;>(unfold dkP;split)
 ·exact Cf _ _ _
 ·rfl
 ·exact mC _ _ _
 ·rfl
 ·show ((drF _ p _).ID.map _).length=_;rw[bJ,kZ]
 ·rfl
theorem yd {m t:Nat}:∀(n:Nat) (p:PW),(rvN (drF m) t n p).time=p.time
 |0,_=>rfl
 |n+1,p=>by
  rw[rvN];split
  ·rfl
  ·rw[yd n,mC]
theorem ye {m t:Nat}:∀(n:Nat) (p:PW),(rvN (drF m) t n p).ID=p.ID
 |0,_=>rfl
 |n+1,p=>by
  rw[rvN];split
  ·rfl
  ·rw[ye n,kZ]
theorem Lv.Ju {p:PW} (h:Lv p) (a:Int):Sm p (Bh p a):=by
 refine h.to (h.w.Ju a) ?_ ?_ ?_<;>(unfold Bh;split)
 ·exact FO _ _
 ·rfl
 ·exact yd _ _
 ·rfl
 ·show ((rvN _ _ _ p).ID.map _).length=_;rw[bJ,ye]
 ·rfl
theorem zt {p:PW} (a:Int):0<=gI p a∧gI p a<=13:=by unfold gI;split<;>(try split)<;>decide
theorem Ix {p:PW} (a:Int):0<=opE p a∧opE p a<=13:=by unfold opE;split<;>(try split)<;>(try split)<;>decide
theorem Hs {p:PW} (a b:Int):0<=boE p a b∧boE p a b<=13:=by unfold boE;split;exact Ix b;exact zt a
theorem Hm {p:PW} (a k:Int):0<=thE p a k∧thE p a k<=13:=by unfold thE;split<;>(try split)<;>decide
theorem oj (a b:Int) {p:PW} (h:Lv p) (W:World) (wb:Nat) (tag:Nat->Nat) (V:Nat->Value) (bt:di W wb tag V p):Calls Tryz.prog 14 #[.pointer (some ⟨wb,0,none⟩),.int .i64 a,.int .i64 b] W (Okd p wb tag W):=by
 refine (mS a b p h.w.fits h.w.IZ h.s W wb tag V bt).mono fun r j g=>?_;obtain⟨rfl,tag',k,f,i⟩:=g;refine⟨_,rfl,Hs a b,?_⟩;by_cases e:boE p a b=0
 ·obtain⟨c,d⟩:=f e;exact⟨tag',c,_,k,d,h.to (h.w.move e) rfl rfl rfl⟩
 ·obtain rfl:=i e;exact dy h bt (ag _ _)
theorem nU (a:Int) {p:PW} (h:Lv p) (W:World) (wb:Nat) (tag:Nat->Nat) (V:Nat->Value) (bt:di W wb tag V p):Calls Tryz.prog 15 #[.pointer (some ⟨wb,0,none⟩),.int .i64 a] W (Okd p wb tag W):=by
 refine (mD a p h.w.fits h.w.IZ h.s W wb tag V bt).mono fun r i g=>?_;obtain⟨rfl,tag',k,d,f⟩:=g;refine⟨_,rfl,zt a,?_⟩;by_cases e:gI p a=0
 ·obtain⟨b,c⟩:=d e;exact⟨tag',b,_,k,c,h.drop a⟩
 ·obtain rfl:=f e;exact dy h bt (ag _ _)
theorem lP (a:Int) {p:PW} (h:Lv p) (W:World) (wb:Nat) (tag:Nat->Nat) (V:Nat->Value) (bt:di W wb tag V p):Calls Tryz.prog 17 #[.pointer (some ⟨wb,0,none⟩),.int .i64 a] W (Okd p wb tag W):=by
 refine (lz a p h.w.fits h.w.IZ h.s W wb tag V bt).mono fun r i g=>?_;obtain⟨rfl,tag',k,d,f⟩:=g;refine⟨_,rfl,zt a,?_⟩;by_cases e:gI p a=0
 ·obtain⟨b,c⟩:=d e;exact⟨tag',b,_,k,c,h.Ju a⟩
 ·obtain rfl:=f e;exact dy h bt (ag _ _)
theorem sF {p:PW} {a:Int} (e:thE p a 6=0):∃t:Nat,a=t∧p.k t=6:=by
 obtain⟨t,b,rfl,hk⟩:=uq e;exact⟨t,rfl,by rw[<-yI b];exact hk⟩
theorem gP (a:Int) {p:PW} (h:Lv p) (W:World) (wb:Nat) (tag:Nat->Nat) (V:Nat->Value) (bt:di W wb tag V p):Calls Tryz.prog 18 #[.pointer (some ⟨wb,0,none⟩),.int .i64 a] W (Okd p wb tag W):=by
 refine (nf a p h.w.fits h.w.IZ h.s W wb tag V bt).mono fun r j g=>?_;obtain⟨rfl,tag',k,d,f⟩:=g;refine⟨_,rfl,?_,?_⟩
 ·unfold srE;split
  ·split<;>decide
  ·exact Hm a 6
 by_cases e:srE p a=0
 ·obtain⟨c,b⟩:=d e;unfold srE at e;split at e
  ·rename_i e6;obtain⟨t,rfl,i⟩:=sF e6;rw[af] at e;split at e
   ·rename_i e9;unfold srP at b;rw[af] at b;exact⟨tag',c,_,k,b,h.rs (h.w.start i e9) ((dU p).wn _ _)⟩
   ·cases e
  ·rename_i e6;exact absurd e e6
 ·obtain rfl:=f e;exact dy h bt (ag _ _)
theorem Dj (a:Int) {p:PW} (h:Lv p) (W:World) (wb:Nat) (tag:Nat->Nat) (V:Nat->Value) (bt:di W wb tag V p):Calls Tryz.prog 144 #[.pointer (some ⟨wb,0,none⟩),.int .i64 a] W (Okd p wb tag W):=by
 refine (pO a p h.w.fits h.w.IZ h.s W wb tag V bt).mono fun r j g=>?_;obtain⟨rfl,tag',k,d,f⟩:=g;refine⟨_,rfl,Hm a 6,?_⟩;by_cases e:thE p a 6=0
 ·obtain⟨c,b⟩:=d e;obtain⟨t,rfl,i⟩:=sF e;rw[af] at b;exact⟨tag',c,_,k,b,h.rs (h.w.stop i) ⟨rfl,rfl,rfl,rfl,rfl,rfl⟩⟩
 ·obtain rfl:=f e;exact dy h bt (ag _ _)
theorem Hg (p:PW) (a b:Int):Rs p (rkP p a b):=by
 unfold rkP;split
 ·exact⟨rfl,rfl,rfl,rfl,rfl,rfl⟩
 ·exact (dU p).task _ _ _
theorem qO (a b:Int) {p:PW} (h:Lv p) (W:World) (wb:Nat) (tag:Nat->Nat) (V:Nat->Value) (bt:di W wb tag V p):Calls Tryz.prog 19 #[.pointer (some ⟨wb,0,none⟩),.int .i64 a,.int .i64 b] W (Okd p wb tag W):=by
 refine (nJ a b p h.w.fits h.w.IZ h.s W wb tag V bt).mono fun r l g=>?_;obtain⟨rfl,tag',k,f,i⟩:=g;refine⟨_,rfl,?_,?_⟩
 ·unfold rkE;split
  ·split<;>decide
  ·exact Hm a 6
 by_cases e:rkE p a b=0
 ·obtain⟨c,d⟩:=f e;unfold rkE at e;split at e
  ·rename_i e6;obtain⟨t,rfl,j⟩:=sF e6;split at e
   ·rename_i eb;exact⟨tag',c,_,k,d,h.rs (h.w.JQ j (ay eb)) (Hg p _ b)⟩
   ·cases e
  ·rename_i e6;exact absurd e e6
 ·obtain rfl:=i e;exact dy h bt (ag _ _)
theorem Fs (p:PW) (n k m t:Int):(mkP p n k m t).kinds.length=p.kinds.length∧(mkP p n k m t).time=p.time∧(mkP p n k m t).ID=p.ID:=by
 have g:∀i,(mkI p n k (mkB p n) t.toNat i).time=p.time∧(mkI p n k (mkB p n) t.toNat i).ID=p.ID:=fun i=>by
  induction i with
  |zero=>exact⟨rfl,rfl⟩
  |succ i ih=>exact ih
 exact⟨(mR p n k (mkB p n) t.toNat m.toNat).1,g m.toNat⟩
theorem kF (n k m t:Int) {p:PW} (h:Lv p) (W:World) (wb:Nat) (tag:Nat->Nat) (V:Nat->Value) (bt:di W wb tag V p):Calls Tryz.prog 16 #[.pointer (some ⟨wb,0,none⟩),.int .i64 n,.int .i64 k,.int .i64 m,.int .i64 t] W (Okd p wb tag W):=by
 refine (iD n k m t p h.w.fits h.w.IZ h.s W wb tag V bt).mono fun r l g=>?_;obtain⟨rfl,tag',c,f,i⟩:=g;refine⟨_,rfl,?_,?_⟩
 ·have d:0<=fcE p t.toNat m∧fcE p t.toNat m<=13:=by unfold fcE;split<;>(try split)<;>(try split)<;>decide
  have ce:0<=clE p n∧clE p n<=13:=by
   unfold clE;split
   ·split<;>decide
   ·exact zt n
  unfold mkE;split
  ·split
   ·split
    ·split
     ·split<;>decide
     ·exact d
    ·decide
   ·exact ce
  ·decide
 by_cases e:mkE p n k m t=0
 ·obtain⟨a,b⟩:=f e;obtain⟨l1,l2,j⟩:=Fs p n k m t;exact⟨tag',a,_,c,b,h.to (h.w.make e) l1 l2 (by rw[j])⟩
 ·obtain⟨a,b⟩:=i e;exact⟨tag',a,p,c,b,Sm.refl h⟩
theorem BM {a r:Nat} (b:a<=7) (c:r<=7):((Bw.bw 6 a r:Nat):Int)=bits .and .i64 (a:Int) (r:Int):=by
 have:∀x y:Fin 8,((Bw.bw 6 x.val y.val:Nat):Int)=bits .and .i64 (x.val:Int) (y.val:Int):=ay oK;exact this ⟨a,oA⟩ ⟨r,oA⟩
theorem nS (a b:Int) (r g:Nat) {p:PW} (h:Lv p) (W:World) (wb:Nat) (tag:Nat->Nat) (V:Nat->Value) (bt:di W wb tag V p):Calls Tryz.prog 13 #[.pointer (some ⟨wb,0,none⟩),.int .i64 a,.int .i64 b,.int .i64 r,.int .i64 g] W (Okd p wb tag W):=by
 by_cases f:boE p a b=0
 ·have d:=f;unfold boE at d;have u:gI p a=0:=by
   split at d
   ·assumption
   ·exact absurd d (by assumption)
  rw[ah u] at d;obtain⟨i,rfl,hi,o⟩:=zq u;obtain⟨j,rfl,z,D,E⟩:=H7 d;obtain⟨rk,F⟩:=h.w.m.keys;have q:=mN (F.key i o).c o;obtain⟨a4,e4⟩:∃a4:Nat,p.s i 4=a4:=⟨(p.s i 4).toNat,by have:=q.r;omega⟩
  by_cases y:p.s i 0≠1∧r<=7∧g<=65535∧(g=0∨(p.s i 0=7∨p.s i 0=8)∧p.s i 5=0)
  ·obtain⟨c1,c2,B,G⟩:=y;have v:a4<=7:=by have:=q.r;omega
   refine (p8 wb tag V p i j r g a4 (p.s i) W bt h.w.fits h.w.IZ h.s.lf.IB f hi z (vg hi) c1 c2 B oA e4 v).mono fun x t l=>?_;obtain⟨rfl,A,k⟩:=l;refine⟨0,rfl,oD,tag,V,_,k,A,h.to ?_ rfl rfl rfl⟩;refine h.w.copy (n:=i) (m:=j) (r:=r) (g:=g) o c1 z D E oA oA oA rfl rfl rfl rfl ?_ ?_ rfl
   ·show ((Bw.bw 6 a4 r:Nat):Int)=_
    rw[BM v c2,e4]
   ·show (if g=0 then p.s i 5 else (g:Int))=_
    split
    ·rename_i e;rw[ah oA]
    ·rename_i e;rw[ae oA]
  ·refine (uH wb tag V p i j r g (p.s i) W bt h.w.fits h.w.IZ h.s.lf.IB f hi (vg hi) (by have:=q.g;omega) y).mono fun x t l=>?_;obtain⟨e,H,rfl,C⟩:=l;exact⟨e,rfl,oA,dy h bt C⟩
 ·exact (uG a b r g p h.w.fits h.w.IZ h.s.lf.IB f W wb tag V bt).mono fun x t ⟨e1,e2⟩=>⟨_,e1,Hs a b,by rw[e2];exact dy h bt (ag _ _)⟩
