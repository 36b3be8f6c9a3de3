/- Qbt -/
import Derived.Test.YtaejnmmpddbbjaaGreatDoorRows
import Derived.ChangeSame
import Derived.ChangeVars
import Derived.JoinedOf
import Derived.RowKit
import Derived.RowKitTokens
import Derived.LaidLaws
import Derived.LaidHandle
import Derived.Stop.Joined
import Derived.ProofKit
import Derived.OpenShut
import Derived.Deep.Slices
import Derived.Lib.SmallJoins
import Derived.Test.YtaejnmmpddbbjaaGreatDoorQbs
set_option maxRecDepth 100000
set_option maxHeartbeats 16000000
namespace Go.Proofs.YtaejnmmpddbbjaaGreatDoor
namespace Wd
open Go.RowKit Mem Bw Nums Mmu Hex Mad
theorem CV (V:Nat->Value) (p:PW) (c:Nat) (w:World) (i:fy w V p) (h:Lv p) (a:c<p.IC.length):
  Calls Tryz.prog 9 #[.agg (cb V),.int .i64 (c:Int)] w fun x w'=>∃X,x=.returned (.tuple #[.agg (cb X),.int .i64 ((rlP p c).co c),.nilIface])∧fy w' X (rlP p c)∧Below w.heap.size w w':=by
 have f:=h.w.snd h.t;have d:pkE p (c:Int)=0:=by unfold pkE dH;rw[ah (by simp;omega)]
 refine (Ab V p (c:Int) w i h.w.fits h.w.J9).mono ?_;rintro x w' ⟨X,rfl,b,g⟩;rw[Ip f d,af,qX h.s a] at b;refine⟨X,?_,b,g⟩;unfold pkV;rw[Ht f d,ah rfl,af,qX h.s a];have e:(rlP p c).IC.getD c 0=(rlP p c).co c:=by
  have:c<(rlP p c).IC.length:=by rw[(h.rs (h.w.settle a) (Dc p c)).co h];exact a
  show _=(rlP p c).IC.getD c (-1)
  rw[aa,aa,ac this];rfl
 rw[e];rfl
theorem Cd (q:Prop) [Decidable q]:∃b,decide q=b∧Hid (b=false->¬q):=⟨decide q,rfl,hid oS⟩
theorem sI (v:Value) (rs:List Int) (V F co:Int) (w:World) (hv:oF w v rs) (h0: -9223372036854775808<=V) (h1:V<=9223372036854775807) (d0: -9223372036854775808<=F) (d1:F<=9223372036854775807) (a0: -9223372036854775808<=co) (a1:co<=9223372036854775807) (hk:KnW w):
  Calls Tryz.prog 4 #[v,.int .i64 V,.int .i64 F,.int .i64 co] w fun r w'=>r=.returned (.bool true)∧Below w.heap.size w w':=by
 have HV:=hid hv;have HK:=hid hk;obtain⟨q,b,off,cap,ev,hq,hi,hb⟩:=hv;subst ev;by_cases hr:256<rs.length
 ·have a4:(256:Int)<(rs.length:Int):=oA;go_enter Tryz.func4,Tryz.ntmps4
  go_wp2_with fail
  go_ret
  exact⟨rfl,ag _ _⟩
 have a4:¬(256:Int)<(rs.length:Int):=oA;have J:=hid (fun W:World=>ep F 16 W d0 d1 oD);have C:=hid (cK F 16 oD);have PC:=hid (fun (W:World) n s=>ep co n W a0 a1 s);have PD:=hid (fun n s=>cK co n s);generalize gf F 16=dq at J C;obtain⟨dn,rfl⟩:∃u:Nat,dq=u:=⟨dq.toNat,by have:=C.out;omega⟩
 have LL:=hid (zL (.slice q rs.length cap) rs V dn 7 w HV oA h0 h1 (by have:=C.out;omega) oD oD HK);go_enter Tryz.func4,Tryz.ntmps4
 go_wp2_with fail
 refine (J.out _).mono ?_;rintro r w' ⟨rfl,rfl⟩;go_wp2_with fail
 refine LL.mono ?_;rintro r w3 ⟨X,rest⟩;obtain⟨p,rfl,wx,hl,o1,aO⟩:∃p,r=.returned (.agg (cb X))∧fy w3 X p∧Lv p∧Hid ((cb X).all (·.oneCell')=true)∧Below w.heap.size w w3:=by
  obtain⟨tag,p,H⟩:=rest;exact⟨p,H.1,H.2.1.v H.2.2.1.w.IZ,H.2.2.1,hid H.2.1.I6,H.2.2.2.2⟩
 have o:=hid hl;have WX:=hid wx;have B1:=hid aO;have T7:=hid (aR w3 zW 28 w3.heap.size 11 rfl oD);have x:=hid (vD wx);go_upto_region 4 with ((with_reducible refine gst 28 ?_);refine wpList_store_mid rfl 28 _ _ rfl w3.heap.size 0 (cb X) rfl rfl T7 fq o1 ?_)
 have O:=hid x.2.1;have Q:=hid x.2.2.2;have BB:=hid (btr B1 x.1);generalize World.setCells _ _ _ _=w2 at O Q BB ⊢;generalize w3.heap.size=b7 at*;have lf:=o.w.m.tk.lf;obtain⟨q6,b6,o6,k6,e6,a2,ba⟩:=Q.IC;have ay:(0:Int)<(p.IC.length:Int):=by have:=lf.c1;omega
 have bk:(p.IC.length:Int)<=4:=by have:=lf.c2;omega
 obtain rfl:=a2 oA;have c6:w2.cell? ⟨b7,6,none⟩=some (.slice (some ⟨b6,o6,none⟩) p.IC.length k6):=by rw[<-e6];exact ai O (k:=6) rfl
 have C:=hid (PD.out _ ay);have J:=hid (fun W=>PC.out W _ ay);generalize gf co (p.IC.length:Int)=cq at J C;obtain⟨c,rfl⟩:∃u:Nat,cq=u:=⟨cq.toNat,by have:=C.out;omega⟩
 have ae:c<p.IC.length:=by have:=C.out;omega
 have bn:(c:Int)<(p.IC.length:Int):=oA;have x6:w2.cell? ⟨b6,o6+c,none⟩=some (.int .i64 (p.co c)):=by
  rw[show p.co c=p.IC[c] by show p.IC.getD c (-1)=_;rw[aa,ac ae];rfl];exact ba c ae
 have B:=hid ae;go_wp2_with fail
 refine (J.out _).mono ?_;rintro r w' ⟨rfl,rfl⟩;obtain⟨bb,aP,an⟩:=Cd (0<=p.co c);have aC:=hid (show p.co c= -1∨0<=p.co c by rcases o.w.m.tk.q.c0 c with h|⟨n,h⟩<;>omega);generalize a6:p.co c=yy at x6 aP an aC;have aL:=hid a6;have LP:=hid (CV X p c w2 Q o B);go_upto_region 6 with fail
 go_wp2_with ((with_reducible refine gld 28 ?_);refine jV rfl _ rfl b7 rfl X O ?_)
 refine LP.mono ?_;rintro r U ⟨Y,rfl,L,ad⟩;have g:=hid (o.rs (o.w.settle B) (Dc p c));have TN:=hid (Hh o B);have D:=hid (g.co o);have QT:=hid g.t;generalize rlP p c=e at g TN D QT L ⊢;have T:=hid TN.t;have tz:=hid TN.z;generalize a5:e.co c=M at T tz ⊢;have aK:=hid a5;have O8:=hid L.I6;have x:=hid (vD L);have T8:=hid (aR U zW 28 U.heap.size 11 rfl oD);have aM:=hid (bj O ad);have aN:=hid (Q.below ad);have aH:=hid (btr BB ad);go_upto_region 7 with ((with_reducible refine gst 28 ?_);refine wpList_store_mid rfl 28 _ _ rfl U.heap.size 0 (cb Y) rfl rfl T8 fq O8 ?_)
 have R8:=hid x.2.1;have V8:=hid x.2.2.2;have Z:=hid (bj aM x.1);have ab:=hid (aN.below x.1);have am:=hid (btr aH x.1);generalize World.setCells _ _ _ _=w5 at R8 V8 Z ab am ⊢;generalize U.heap.size=b8 at*;have lq:=g.w.w.m.tk.lf;have k0:0<e.kinds.length:=by have:=lq.k1;omega
 have LK:=hid (Du X Y p e w5 ab V8 g.w.w.fits (g.w.w.snd g.w.t) k0 g.k D);go_wp2_with ((with_reducible refine gld 28 ?_);first|go_skip|go_big_skip|refine hU oR _ rfl b7 rfl X Z ?_|refine hU oR _ rfl b8 rfl Y R8 ?_)
 refine LK.mono ?_;rintro r I ⟨rfl,K⟩;have aw:=hid (V8.below K);have au:=hid (ab.below K);have ap:=hid (bj R8 K);have ao:=hid (bj Z K);have aI:=hid (btr am K);have al:0<e.IC.length:=by rw[D.out];have:=B.out;omega
 obtain⟨q2,b2,o2,k2,e2,aW,aD⟩:=aw.IC;obtain rfl:=aW al;have y6:I.cell? ⟨b8,6,none⟩=some (.slice (some ⟨b2,o2,none⟩) p.IC.length k2):=by rw[<-D.out, <-e2];exact ai ap (k:=6) rfl
 have yc:I.cell? ⟨b2,o2+c,none⟩=some (.int .i64 M):=by
  have h:c<e.IC.length:=by rw[D.out];exact B
  rw[<-aK.out,show e.co c=e.IC[c] by show e.IC.getD c (-1)=_;rw[aa,ac h];rfl];exact aD c h
 have aU:(M !=M)=false:=oS;have aV:(M==M)=true:=oS;go_wp2_with fail
 have lf:=o.w.m.tk.lf;have bI:=o.w.tm;have bJ:=o.t;have bo:=lf.d1;have bf:I.cell? ⟨b7,10,none⟩=some (.int .i64 p.time):=by rw[ai ao (k:=10) rfl,au.time]
 obtain⟨q9,b9,o9,k9,e9,a3,bc⟩:=au.IF;obtain rfl:=a3 oA;have c9:I.cell? ⟨b7,9,none⟩=some (.slice (some ⟨b9,o9,none⟩) p.IF.length k9):=by rw[<-e9];exact ai ao (k:=9) rfl
 have bA:(p.IF.length:Int)<=1000:=by have:=o.w.fits.IF;omega
 have hq:(p.time).tdiv 4=p.time/4:=bP oA;have hr:(p.time/4).tmod (p.IF.length:Int)=(p.time/4)%(p.IF.length:Int):=cD oA;have aT:0<=(p.time/4)%(p.IF.length:Int):=eJ _ oA;have aB:(p.time/4)%(p.IF.length:Int)<(p.IF.length:Int):=eF _ oA;obtain⟨j,hj⟩:∃j:Nat,(p.time/4)%(p.IF.length:Int)=j:=⟨((p.time/4)%(p.IF.length:Int)).toNat,oA⟩
 have aA:j<p.IF.length:=oA;have bu:(j:Int)<(p.IF.length:Int):=oA;have xj:=bc j aA;rw[show p.IF[j]=tnV p by unfold tnV;rw[hj,af,aa,ac aA,aG]] at xj;generalize tnV p=G at xj T tz;rw[hj] at hr;have hz:((p.IF.length:Int)==0)=false:=by simpa using show ¬((p.IF.length:Int)=0) by omega
 have bL:¬((p.IF.length:Int)=0):=oA;have bg:0<=p.time/4:=oA;have bh:p.time/4<=250000:=oA;generalize p.time/4=q4 at*;generalize p.time=tm at*;go_upto_region 9 with fail
 go_quiet (fail)
 have f:=hid (aE (ag I.heap.size I) nq);generalize World.drewN _ _=A at f ⊢;have ax:=hid (aw.below f);have aq:=hid (bj ap f);have aJ:=hid (btr aI f);have QL:=hid g.w.w.m.tk.lf.IA;have al:0<e.IA.length:=by rw[QL.out];have:=g.w.w.m.tk.lf.k1;omega
 obtain⟨q3,b3,o3,k3,e3,aX,a7⟩:=ax.IA;obtain rfl:=aX al;have y3:A.cell? ⟨b8,3,none⟩=some (.slice (some ⟨b3,o3,none⟩) e.IA.length k3):=by rw[<-e3];exact ai aq (k:=3) rfl
 have P:=hid (show ∀n k,n<e.IA.length->k<20->A.cell? ⟨b3,o3+n*20+k,none⟩=some (.int .i64 (e.t n k)) from fun n k s hk=>by
  rw[show e.t n k=e.IA[n] k by show e.IA.getD n bl k=_;rw[aa,ac s];rfl];exact a7 n s k _ (dm 20 _ k hk))
 have Y3:=hid y3;go_upto_region 10 with fail
 go_cut [92] (fun r wx=>Hid (r=.bool false)∧Hid (A=wx))
 case first=>
  have y3:=Y3.out;rcases T.out with rfl|⟨n,rfl,s,e1,e2⟩
  ·go_wp2_with fail
   go_meet
   exact⟨hid rfl,hid rfl⟩
  ·have aV:(n:Int)<(e.IA.length:Int):=oA;have bC:(0:Int)<=(n:Int):=oA;have x1:=P.out n 19 s oD;have x2:=P.out n 9 s oD;rw[e1] at x1;rw[e2] at x2;have aU:(G !=G)=false:=oS;have bD:(G==G)=true:=oS;go_wp2_with (first|go_skip|go_big_skip)
   go_meet
   exact⟨hid rfl,hid rfl⟩
 case rest=>
  obtain⟨hx,L⟩:=hcut;obtain rfl:=hx.out;obtain rfl:=L.out;have QR:=hid g.w.w.m.tk.lf.ready;obtain⟨bM,b4,o4,k4,e4,aY,a8⟩:=ax.ready;obtain rfl:=aY (by rw[QR.out,D.out];have:=B.out;omega);have C7:=hid (show A.cell? ⟨b8,7,none⟩=some (.slice (some ⟨b4,o4,none⟩) e.ready.length k4) by rw[<-e4];exact ai aq (k:=7) rfl);have RZ:=hid a8;have bH:(e.ready.length:Int)<=1000:=by have:=g.w.w.fits.ready;omega
  go_wp2_with fail
  go_loopw [15] (fun i wr=>∃k:Nat,k<=4∧i=.int .i64 (k:Int)∧Hid (Below A.heap.size A wr)) (fun i _=>4 - (intOf i).toNat)
  case atStart=>exact⟨0,oA,rfl,hid (ag _ _)⟩
  case round=>
   obtain⟨k,hk,rfl,N⟩:=hrel;by_cases aS:k<4
   ·have bz:(k:Int)<4:=oA;obtain⟨d,hd⟩:∃d:Nat,c*4+k=d:=⟨_,rfl⟩
    have HD:=hid hd;have ah:d<e.ready.length:=by rw[QR.out,D.out];have:=B.out;omega
    have bp:(c:Int)*4+(k:Int)=(d:Int):=oA;have bq:(d:Int)<(e.ready.length:Int):=oA;obtain⟨u,hu,az⟩:=RZ.out d ah;have ZZ:=hid (fun z (h:z∈e.ready[d])=>tz.out k aS z (by show z∈e.ready.getD (c*4+k) [];rw[HD.out,aa,ac ah];exact h));have ML:=hid (g.w.w.J9 _ (av ah));generalize e.ready[d]=l at az ZZ ML;obtain⟨q5,b5,o5,k5,rfl,aZ,a9⟩:=az;have x7:=cu N C7;have xd:=cu N hu;have Q5:=hid aZ;have Z5:=hid a9;have ml:(l.length:Int)<=50:=by have:=ML.out;omega
    have bv:(0:Int)<=(k:Int):=oA;go_wp2_with fail
    go_loopw [17] (fun i w2=>∃n:Nat,n<=l.length∧i=.int .i64 (n:Int)∧Hid (Below A.heap.size A w2)) (fun i _=>l.length - (intOf i).toNat)
    case atStart=>exact⟨0,oA,rfl,N⟩
    case round=>
     obtain⟨n,s,rfl,y⟩:=hrel;by_cases S:n<l.length
     ·have bE:(n:Int)<(l.length:Int):=oA;obtain rfl:=Q5.out oA;obtain⟨z,ez,hz,aF⟩:=ZZ.out (l[n]'S) (av S);have xn:=cu y (Z5.out n S);rw[ez] at xn;have y3:=cu y Y3;have xt:=cu y (P.out z 19 hz oD);have aD:(z:Int)<(e.IA.length:Int):=oA;have bK:(0:Int)<=(z:Int):=oA;generalize br:e.t z 19=R at xt aF;have E:=hid S;by_cases aj:R=G
      ·obtain⟨ht,hp⟩:=aF aj;rcases T.out with h|⟨m,hm,aB,_,_⟩
       ·exact absurd h ht
       subst aj;subst hm;have aQ:(R==R)=true:=oS;have aT:¬(m:Int)<0:=oA;have bB:(m:Int)<(e.IA.length:Int):=oA;have xp:=cu y (P.out m 10 aB oD);rw[af] at hp;generalize bF:e.t m 10=pr at xp hp;have HP:=hid hp;go_upto_region 19 with fail
       cases hbq:bb with
       |true=>
        subst hbq
        go_quiet (fail)
        have f:=hid (aE y nq);generalize World.drewN _ _=w8 at f ⊢;go_wp2_with fail
        exact⟨⟨n+1,by have:=E.out;omega,by go_num,f⟩,by simp[intOf];have:=E.out;omega⟩
       |false=>
        subst hbq;have bG:¬pr<(k:Int):=by
         have a:=an.out rfl;have b:=aL.out;have c:=HP.out;rcases aC.out with h|h
         ·exact Int.not_lt.2 (c (b.trans h))
         ·omega
        go_quiet (fail)
        have f:=hid (aE y nq);generalize World.drewN _ _=w8 at f ⊢;go_wp2_with fail
        exact⟨⟨n+1,by have:=E.out;omega,by go_num,f⟩,by simp[intOf];have:=E.out;omega⟩
      ·have aQ:(R==G)=false:=by simp[aj]
       go_upto_region 19 with fail
       go_quiet (fail)
       have f:=hid (aE y nq);generalize World.drewN _ _=w8 at f ⊢;go_wp2_with fail
       exact⟨⟨n+1,by have:=E.out;omega,by go_num,f⟩,by simp[intOf];have:=E.out;omega⟩
     ·obtain rfl:n=l.length:=oA;have bs:¬((l.length:Int)<(l.length:Int)):=oA;go_wp2_with fail
      exact⟨⟨k+1,oA,by go_num,y⟩,by simp[intOf];omega⟩
   ·obtain rfl:k=4:=oA;go_wp2_with fail
    exact ar (v:=.bool true) (by simp[results,Tryz.results4,go_sem]) rfl ⟨rfl,btr aJ N⟩
end Wd
open Go.ChangeShapes Go.WideShapes Go.RowKit
theorem own:ownKnob Tryz.prog.godebug=none:=by kernel_rfl
theorem pj:laidOutB Tryz.prog=true:=by kernel_rfl
namespace Wd
open Go.ChangeShapes Go.WideShapes Go.RowKit Go.Deep Go.Joins Mem Nums Hex
theorem vj {P:Program} {W:World} {r:Reach} {base:Nat} {t e:TypeId} {a:Addr} {len cap:Nat} (b:P.underlying t=some (.slice e)) (h:Value.okWide P W r base t (.slice (some a) len cap)):a.spot=none:=by
 simp only[Value.okWide,b,Cell.okWide,Cell.ok] at h;exact h.2.2.2.1
theorem zX {P:Program} {w:World} {base:Nat} {spare:Nat->Bool} {held:Bool} {H:Type} {enc:TypeId×Value->H} {u:TypeId} {fuel:Nat} {a:Addr} {cs:List Value} {x:DataW H×List MemPlace} (e:P.underlying u=some (.int .i64))
  (c:w.cells? base a 1=some cs) (h:DataW.trod enc P w base spare held fuel u cs=some x):∃q:Int,w.cell? (a.add 0)=some (.int .i64 q)∧ -9223372036854775808<=q∧q<=9223372036854775807:=by
 obtain⟨_,hl,d⟩:=World.cells?_some c
 match cs,hl with
 |[c0],_=>
  obtain⟨n0,b,_,f⟩:=DataW.trod_int e h;simp at b;subst b;refine⟨n0,d 0 oA,?_⟩;simp[Lit.wf,IntKind.min,IntKind.max,IntKind.signed,IntKind.bits] at f;omega
theorem xH {H:Type} {enc:TypeId×Value->H} {W:World} {r:Reach} {base:Nat} {v:Value} {d:DataW H} {p:List MemPlace}
  (t:Value.okWide Tryz.prog W r base 22 v) (h:DataW.Trod enc Tryz.prog W 0 (fun _=>true) true 22 v d p):
  ∃zs:List Int,oF W v zs∧zs.length<=maxLen:=by
 obtain⟨a0,len,cap,rfl⟩:=okWide_slice Tryz.underlying22 t;obtain⟨fuel,y⟩:=h;rcases open_slice Tryz.underlying22 y with ⟨b,_⟩|⟨a,K,F,m,n,D,C,b,_,hl,I,B,_,x⟩
 ·simp[Value.cells] at b;obtain⟨rfl,rfl,rfl⟩:=b;exact⟨[],⟨none,0,0,0,rfl,fun h=>by simp at h,fun j c=>by simp at c,fun z k=>by simp at k⟩,oS⟩
 ·simp[Value.cells] at b;obtain⟨rfl,rfl,rfl⟩:=b;have s:=vj Tryz.underlying22 t;obtain⟨f,g,E⟩:=a;simp at s;subst s;have J:len<=m:=by rw[B];split<;>omega
  obtain⟨q,o⟩:=choose_lt (α:=Int) (n:=len) (p:=fun i q=>W.cell? ⟨f,g+i,none⟩=some (.int .i64 q)∧ -9223372036854775808<=q∧q<=9223372036854775807) (fun i hi=>by
   obtain⟨G,l,w⟩:=x i oA;rw[Ek] at l;obtain⟨q,u,k1⟩:=zX Tryz.underlying3 l w;simp only[nM,Nat.mul_one,bO] at u;exact⟨q,u,k1⟩)
  refine⟨(List.range len).map q,⟨some ⟨f,g,none⟩,f,g,cap,oS,fun _=>rfl,fun j c=>?_,fun z k=>?_⟩,by simp;omega⟩
  ·have A:j<len:=by simpa using c
   have e:((List.range len).map q)[j]=q j:=oS;rw[e];exact (o j A).1
  ·obtain⟨j,c,rfl⟩:=List.mem_map.1 k;exact (o j (List.mem_range.1 c)).2
theorem vi {H:Type} {enc:TypeId×Value->H} {P:Program} {w:World} {base:Nat} {spare:Nat->Bool} {held:Bool} {t e:TypeId} {fuel:Nat} {cs:List Value} {L:List (List UInt8)} {p:List MemPlace} (C:P.underlying t=some (.slice e)) (y:P.underlying e=some .string) (v:P.cellsOf e=1)
  (h:DataW.trod enc P w base spare held fuel t cs=some (.slice (L.map fun l=>.lit (.string l)) [],p)) (F:0<L.length):
  ∃b o c,cs=[.slice (some ⟨b,o,none⟩) L.length c]∧∀k (hk:k<L.length),w.cell? ⟨b,o+k,none⟩=some (.string ⟨L[k].toArray⟩):=by
 rcases open_slice1 C v h with ⟨_,d⟩|⟨a,len,cap,m,n,V,D,E,x,_,hl,_,A,d,i⟩
 ·simp at d
 ·simp only[Prod.mk.injEq,DataW.slice.injEq] at d;have z:len=L.length:=by have:=dJ List.length d.1.1;simpa using this.symm
  subst z;have G:L.length<=m:=by rw[A];split<;>omega
  obtain⟨j,q,r⟩:=a;have B:r=none:=by
   have:=(i 0 oA).1;have:=World.cell?_spot this;simpa [Addr.add] using this
  subst B;refine⟨j,q,cap,x,fun k hk=>?_⟩;obtain⟨f,u⟩:=i k oA;obtain⟨s,e1,e2,_⟩:=DataW.trod_string y u;have g:=dJ (·[k]?) d.1.1;simp only[cW,ac hk,List.getElem?_range hk,Option.map_some,bK] at g;simp only[Prod.mk.injEq] at e2;rw[<-g] at e2;simp at e1 e2;rw[e1] at f;have e4:(⟨L[k].toArray⟩:ByteArray)=s:=by rw[e2.1]
  rw[e4, <-nM];exact f
theorem knG:Tryz.prog.globalNamed "keyhold/keyholdref.kindNames"=some 1:=oK
theorem knT:(Tryz.prog.globals[1]?).map (·.type)=some 119:=oK
theorem Iy:Tryz.prog.cellsOf 9=1:=oK
theorem GS {W:World} {g t:Nat} {cs:Array Value} {fuel:Nat} {p:List MemPlace} (h:Tryz.prog.globalNamed "keyhold/keyholdref.kindNames"=some g) (i:(Tryz.prog.globals[g]?).map (·.type)=some t) (j:W.var? Tryz.prog "keyhold/keyholdref.kindNames"=some cs)
  (a:DataW.trod (fun _=>()) Tryz.prog W 0 (fun _=>true) false fuel t cs.toList=some (Rows.laid_keyhold_keyholdref_kindNames,p)):KnW W:=by
 obtain rfl:=aL (knG.symm.trans h);obtain rfl:=aL (knT.symm.trans i);have e:(Rows.laid_keyhold_keyholdref_kindNames:DataW Unit)=.slice ((knB.map fun x=>x.data.toList).map fun l=>.lit (.string l)) []:=rfl;rw[e] at a;obtain⟨b,o,c,d,f⟩:=vi Tryz.underlying119 Tryz.underlying9 Iy a oD;refine⟨b,o,c,?_,fun k hk=>?_⟩
 ·rw[World.var?_cell knG j 0];have:=dJ (·[0]?) d;rw[show (knB.map fun x=>x.data.toList).length=7 from rfl] at this;simpa using this
 ·have:=f k (by rw[bJ];exact hk);rw[this];simp
