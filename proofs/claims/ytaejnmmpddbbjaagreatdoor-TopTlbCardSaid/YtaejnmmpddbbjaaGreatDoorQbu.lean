/- Qbu -/
import Derived.Test.YtaejnmmpddbbjaaGreatDoorRows
import Derived.ChangeSame
import Derived.ChangeVars
import Derived.JoinedOf
import Derived.RowKit
import Derived.RowKitTokens
import Derived.LaidLaws
import Derived.LaidHandle
import Derived.Stop.Joined
import Derived.ProofKit
import Derived.OpenShut
import Derived.Deep.Slices
import Derived.Lib.SmallJoins
import Derived.Test.YtaejnmmpddbbjaaGreatDoorQbt
import Derived.Test.YtaejnmmpddbbjaaGreatDoorQbi
set_option maxRecDepth 100000
set_option maxHeartbeats 16000000
namespace Go.Proofs.YtaejnmmpddbbjaaGreatDoor
namespace Wd
open Go.RowKit Mem Bw Nums Mmu Hex Mad
def Lvd (w1:World) (wb k:Nat) (W:World):Prop:=∃tg Y q,Own w1 W wb tg Y q∧Lv q∧q.time<=(k:Int)
theorem Lvd.bx {w1 W W':World} {wb k:Nat} {tg:Nat->Nat} {Y:Nat->Value} {q:PW} (o:Own w1 W wb tg Y q) (e:q.time<=(k:Int)) (h:Bx q wb tg W W'):Lvd w1 wb (k+1) W':=by
 obtain⟨d,b,c,kt,bt,a⟩:=h;exact⟨d,b,c,o.to bt kt,a.w,by rw[a.t];omega⟩
theorem wq (v:Value) (rs:List Int) (L:Int) (dd cl:Nat) (w:World) (hv:mQ w v rs) (ac:rs.length<=256) (h0: -9223372036854775808<=L) (h1:L<=9223372036854775807) (aC:dd<=20) (aa:0<(cl:Int)) (al:(cl:Int)<=18) (hk:KnW w):
  Calls Tryz.prog 5 #[v,.int .i64 L,.int .i64 (dd:Int),.int .i64 (cl:Int)] w fun r w'=>∃X tag p,r=.returned (.agg (dk X))∧fK w' tag X p∧Lv p∧(∀k,k<w.heap.size->tag k=0)∧Below w.heap.size w w':=by
 have M:=hid (bal (ai w.heap.size w) (.cells zW 28));have T0:=hid (aY w zW 28 w.heap.size 11 rfl oD);have Q:=hid hv;have O:=hid ac;have BG:=hid (vA v rs L cl _ (hv.below M) ac h0 h1 aa al (hk.below M));have SZ:=hid (show w.heap.size+1=(w.alloc (.cells zW 28)).heap.size by simp);go_enter Tryz.func5,Tryz.ntmps5
 go_wp2_with fail
 generalize w.alloc _=w1 at*;refine BG.mono ?_;rintro r j ⟨X,tag,p,rfl,hw,hl,an,ao,G⟩;have H:=hid M.out;have TZ:=hid ao;have aj:=hid T0.out;have HW:=hid hw;have I:=hid G;have SA:=hid SZ.out;have ag:=hid hl;have ah:=hid an;have T7:=hid (aY j zW 28 j.heap.size 11 rfl oD);have N:=hid (show Below j.heap.size j (j.alloc (.cells zW 28)) from bal (ai _ _) _);have O7:=hid HW.EJ;go_upto_region 2 with ((with_reducible refine gst 28 ?_);refine wpList_store_mid rfl 28 _ _ rfl j.heap.size 0 (dk X) rfl rfl T7 fO O7 ?_)
 have WU:=hid (HW.up N);have WB:=hid (WU.box (eW (ar _)) T7);have K5:Kp (fun k=>k=j.heap.size) (j.alloc (.cells zW 28)) ((j.alloc (.cells zW 28)).setCells j.heap.size 0 [X 0,X 1,X 2,X 3,X 4,X 5,X 6,X 7,X 8,X 9,X 10]):=aI (T:=fun k=>k=j.heap.size) (.inl rfl) _ _ _ (aP _ _);have R:=hid (show Own w1 ((j.alloc (.cells zW 28)).setCells j.heap.size 0 [X 0,X 1,X 2,X 3,X 4,X 5,X 6,X 7,X 8,X 9,X 10]) j.heap.size (fun k=>if k=j.heap.size then 1 else iD tag j.heap.size k) X p from
  ⟨WB.out,fun k hk=>by have:=I.size;rw[ae oA,jg oA];exact TZ k hk,
   K5.below (btr I N) (btr I N).size (fun k hk e=>by have:=I.size;omega)⟩)
 generalize World.setCells _ _ _ _=w6 at R ⊢;generalize j.heap.size=wb at*;generalize (fun k=>if k=wb then 1 else iD tag wb k)=au at R;have L0:=hid (show Lvd w1 wb 0 w6 from⟨au,X,p,R.out,ag.out,by rw[ah.out];exact Int.le_refl 0⟩);go_wp2_with fail
 go_loopw [10] (fun i wr=>∃k:Nat,k<=dd∧i=.int .i64 (k:Int)∧Hid (Lvd w1 wb k wr)) (fun i _=>dd - (intOf i).toNat)
 case atStart=>exact⟨0,oA,rfl,L0⟩
 case round=>
  obtain⟨k,hk,rfl,HI⟩:=hrel;by_cases aF:k<dd
  ·have aG:(k:Int)<(dd:Int):=oA;have aE:(k:Int)<=20:=oA;obtain⟨tg,Y,q,U,S,tq⟩:=HI.out;have Or:=hid U;have A:=hid S;have P:=hid tq;have E:=hid (nC v rs (20+4*k) wr (Q.below (btr H Or.e)) O oA);rw[show ((20+4*k:Nat):Int)=20+4*(k:Int) by omega] at E;go_wp2_with fail
   refine E.mono ?_;rintro e wx ⟨a,rfl,aw,ax,G⟩;have Ox:=hid (Or.next G);have E:=hid (nC v rs (21+4*k) wx (Q.below (btr H Ox.e)) O oA);rw[show ((21+4*k:Nat):Int)=21+4*(k:Int) by omega] at E;go_wp2_with fail
   refine E.mono ?_;rintro e wy ⟨b,rfl,ay,az,G⟩;have Oy:=hid (Ox.next G);have E:=hid (nC v rs (22+4*k) wy (Q.below (btr H Oy.e)) O oA);rw[show ((22+4*k:Nat):Int)=22+4*(k:Int) by omega] at E;go_wp2_with fail
   refine E.mono ?_;rintro e B ⟨c,rfl,aa,aA,G⟩;have n:=hid (Oy.next G);have D:=hid (fun W' (h:Bx q wb tg B W')=>Lvd.bx (k:=k) n P h);have f:=hid (fun W:World=>dK (b) 40 W oA oA oD);have d:=hid (bO (b) 40 oD);generalize fq (b) 40=x at f d;go_wp2_with fail
   refine (f.out _).mono ?_;rintro e w' ⟨rfl,rfl⟩;obtain⟨x0,x1⟩:=d.out;have f:=hid (fun W:World=>dK (c) 40 W oA oA oD);have d:=hid (bO (c) 40 oD);generalize fq (c) 40=y at f d;go_wp2_with fail
   refine (f.out _).mono ?_;rintro e w' ⟨rfl,rfl⟩;obtain⟨y0,y1⟩:=d.out;have f:=hid (fun W:World=>dK (a) 14 W oA oA oD);have d:=hid (bO (a) 14 oD);generalize fq (a) 14=s at f d;go_wp2_with fail
   refine (f.out _).mono ?_;rintro e w' ⟨rfl,rfl⟩;obtain⟨s0,s1⟩:=d.out;by_cases g:s=0
   ·subst g;have f:=hid (fun W:World=>dK (a/14) 8 W oA oA oD);have d:=hid (bO (a/14) 8 oD);generalize fq (a/14) 8=r at f d;go_wp2_with fail
    refine (f.out _).mono ?_;rintro e w' ⟨rfl,rfl⟩;obtain⟨J,K⟩:=d.out;obtain⟨rn,rfl⟩:∃u:Nat,r=u:=⟨r.toNat,oA⟩
    go_wp2_with fail
    refine (mg x y rn 0 A B wb tg Y n.b).mono ?_;rintro r F ⟨e,rfl,_,z⟩;have l:=hid (D.out _ z);go_wp2_with fail
    exact⟨⟨k+1,oA,by go_num,l⟩,by simp[intOf];omega⟩
   have N0:(s==0)=false:=by simp[g]
   by_cases g:s=1
   ·subst g;go_wp2_with fail
    refine (mG x y A B wb tg Y n.b).mono ?_;rintro r F ⟨e,rfl,_,z⟩;have l:=hid (D.out _ z);go_wp2_with fail
    exact⟨⟨k+1,oA,by go_num,l⟩,by simp[intOf];omega⟩
   have N1:(s==1)=false:=by simp[g]
   by_cases g:s=2
   ·subst g;go_wp2_with fail
    refine (mi x A B wb tg Y n.b).mono ?_;rintro r F ⟨e,rfl,_,z⟩;have l:=hid (D.out _ z);go_wp2_with fail
    exact⟨⟨k+1,oA,by go_num,l⟩,by simp[intOf];omega⟩
   have N2:(s==2)=false:=by simp[g]
   by_cases g:s=3
   ·subst g;have f:=hid (fun W:World=>dK (a/14) 7 W oA oA oD);have d:=hid (bO (a/14) 7 oD);generalize fq (a/14) 7=r at f d;go_wp2_with fail
    refine (f.out _).mono ?_;rintro e w' ⟨rfl,rfl⟩;obtain⟨J,K⟩:=d.out;have f:=hid (fun W:World=>dK (c/40) 2 W oA oA oD);have d:=hid (bO (c/40) 2 oD);generalize fq (c/40) 2=m at f d;go_wp2_with fail
    refine (f.out _).mono ?_;rintro e w' ⟨rfl,rfl⟩;obtain⟨m0,m1⟩:=d.out;go_wp2_with fail
    refine (jx 1 (2+r) (1+m) y A B wb tg Y n.b).mono ?_;rintro r F ⟨e,rfl,_,z⟩;have l:=hid (D.out _ z);go_wp2_with fail
    exact⟨⟨k+1,oA,by go_num,l⟩,by simp[intOf];omega⟩
   have N3:(s==3)=false:=by simp[g]
   by_cases g:s=4
   ·subst g;have f:=hid (fun W:World=>dK (b/40) 5 W oA oA oD);have d:=hid (bO (b/40) 5 oD);generalize fq (b/40) 5=r at f d;go_wp2_with fail
    refine (f.out _).mono ?_;rintro e w' ⟨rfl,rfl⟩;obtain⟨J,K⟩:=d.out;by_cases hr:r=0
    ·have am:(r==0)=true:=by simp[hr]
     go_wp2_with fail
     refine (kA x A B wb tg Y n.b).mono ?_;rintro r F ⟨e,rfl,_,z⟩;have l:=hid (D.out _ z);go_wp2_with fail
     exact⟨⟨k+1,oA,by go_num,l⟩,by simp[intOf];omega⟩
    ·have am:(r==0)=false:=by simp[hr]
     go_wp2_with fail
     exact⟨⟨k+1,oA,by go_num,hid (D.out _ (cK A n.b (ai _ _)))⟩,by simp[intOf];omega⟩
   have N4:(s==4)=false:=by simp[g]
   by_cases g:s=5
   ·subst g;have f:=hid (fun W:World=>dK (b) 3 W oA oA oD);have d:=hid (bO (b) 3 oD);generalize fq (b) 3=r at f d;go_wp2_with fail
    refine (f.out _).mono ?_;rintro e w' ⟨rfl,rfl⟩;obtain⟨J,K⟩:=d.out;go_wp2_with fail
    refine (fX (7+r) A B wb tg Y n.b).mono ?_;rintro r F ⟨e,rfl,_,z⟩;have l:=hid (D.out _ z);go_wp2_with fail
    exact⟨⟨k+1,oA,by go_num,l⟩,by simp[intOf];omega⟩
   have N5:(s==5)=false:=by simp[g]
   by_cases g:s=6
   ·subst g;have f:=hid (fun W:World=>dK (b) 3 W oA oA oD);have d:=hid (bO (b) 3 oD);generalize fq (b) 3=r at f d;go_wp2_with fail
    refine (f.out _).mono ?_;rintro e w' ⟨rfl,rfl⟩;obtain⟨J,K⟩:=d.out;have f:=hid (fun W:World=>dK (c) 4 W oA oA oD);have d:=hid (bO (c) 4 oD);generalize fq (c) 4=m at f d;go_wp2_with fail
    refine (f.out _).mono ?_;rintro e w' ⟨rfl,rfl⟩;obtain⟨m0,m1⟩:=d.out;go_wp2_with fail
    refine (oU (7+r) m A B wb tg Y n.b).mono ?_;rintro r F ⟨e,rfl,_,z⟩;have l:=hid (D.out _ z);go_wp2_with fail
    exact⟨⟨k+1,oA,by go_num,l⟩,by simp[intOf];omega⟩
   have N6:(s==6)=false:=by simp[g]
   have ad:=hid A.w.m.tk.lf.c1;have af:=hid A.w.m.tk.lf.c2;have ab:0<(q.D6.length:Int):=by have:=ad.out;omega
   have aB:(q.D6.length:Int)<=4:=by have:=af.out;omega
   obtain⟨g6,k6,e6⟩:=n.b.o.D6.form oA;have c6:=bg n.b e6;have f:=hid (fun W:World=>dK b (q.D6.length:Int) W oA oA ab);have d:=hid (bO b (q.D6.length:Int) ab);generalize fq b (q.D6.length:Int)=cc at f d;go_wp2_with fail
   refine (f.out _).mono ?_;rintro e w' ⟨rfl,rfl⟩;obtain⟨cN,rfl⟩:∃u:Nat,cc=u:=⟨cc.toNat,by have:=d.out;omega⟩
   have ST:=hid (u6 wb tg Y q cN B n.b A (by have:=P.out;omega) (by have:=d.out;omega));go_wp2_with fail
   refine ST.mono ?_;rintro r F ⟨rfl,ap,Y',q',kt,bt,lv,_,tt,_⟩;have l:=hid (show Lvd w1 wb (k+1) F from⟨ap,Y',q',n.to bt kt,lv,by rw[tt];have:=P.out;omega⟩);go_wp2_with fail
   exact⟨⟨k+1,oA,by go_num,l⟩,by simp[intOf];omega⟩
  ·obtain rfl:k=dd:=oA;have aD:¬((k:Int)<(k:Int)):=oA;obtain⟨av,Y,q,U,S,_⟩:=HI.out;have C:=hid U;have LA:=hid S;have LT:=hid (show w.heap.size<w1.heap.size by have:=SA.out;omega);have TB:=hid (cP aj C.e);have OO:=hid C.b.o.EJ;have KF:=hid (show Kp (fun k=>k=w.heap.size) wr (wr.setCells w.heap.size 0 [Y 0,Y 1,Y 2,Y 3,Y 4,Y 5,Y 6,Y 7,Y 8,Y 9,Y 10]) from aI (T:=fun k=>k=w.heap.size) (.inl rfl) _ _ _ (aP _ _));have RF:=hid (World.rangeAt_setCells_same wr w.heap.size 0 (dk Y).toList TB);have Z:=hid (C.b.kp KF (fun k _ e=>by rw[e];exact C.t _ LT) (fun _ _=>rfl));have V:=hid (KF.below (btr H C.e) (btr H C.e).size (fun k hk e=>oA));go_wp2_with (first|((with_reducible refine gld 28 ?_);refine lU rfl _ rfl wb rfl Y C.b.r ?_)|((with_reducible refine gst 28 ?_);refine wpList_store_mid rfl 28 _ _ rfl w.heap.size 0 (dk Y) rfl rfl TB fO OO ?_))
   have TG:=hid C.t;generalize wr.setCells w.heap.size 0 [Y 0,Y 1,Y 2,Y 3,Y 4,Y 5,Y 6,Y 7,Y 8,Y 9,Y 10]=W9 at RF Z V ⊢;exact aq (v:=.agg (dk Y)) (hU rfl rfl (run_loadVar_mid _ w.heap.size 0 28 (dk Y).toList _ RF Tryz.underlying28 rfl fO)) rfl ⟨Y,rfl,av,q,Z.o,LA.out,fun k hk=>TG.out k (by have:=LT.out;omega),V.out⟩
theorem fK.Fs {w:World} {tag:Nat->Nat} {X:Nat->Value} {p:PW} (h:fK w tag X p) (d:Lw p):∃g k,X 0=.slice (some ⟨g,0,none⟩) p.Eb.length k∧lY w (X 0) p.Eb:=by
 have lf:=d.m.tk.lf;have c:0<p.Eb.length:=by have:=lf.Eb;have:=lf.k1;omega
 obtain⟨g,k,e⟩:∃g cap,X 0=.slice (some ⟨g,0,none⟩) p.Eb.length cap:=h.Eb.form c
 refine⟨g,k,e,⟨?_,fun z a=>by have:=d.m.Eb.w z a;omega,by have:=lf.Eb;have:=lf.k2;omega⟩⟩;obtain⟨q,b,off,cap,e2,i,a⟩:=de h.Eb.1;rw[e] at e2
 cases e2
 have f:=i c
 cases f
 exact⟨_,_,_,e,fun _=>rfl,a⟩
theorem yc (k:Int) (w:World) (a:qp w):Calls Tryz.prog 8 #[Mmu.kX k] w fun e w'=>e=.returned (.tuple #[.int .i64 k,.int .i64 (-1)])∧Below w.heap.size w w':=by
 unfold Mmu.kX;split
 ·rename_i h;subst h;exact xg w
 ·exact sJ k w a
theorem sK (v:Value) (rs:List Int) (L j f:Int) (s:Bool) (w:World) (hv:mQ w v rs) (h0: -9223372036854775808<=L) (h1:L<=9223372036854775807) (d0: -9223372036854775808<=j) (d1:j<=9223372036854775807) (a0: -9223372036854775808<=f) (a1:f<=9223372036854775807) (hk:KnW w) (hg:qp w):
  Calls Tryz.prog 3 #[v,.int .i64 L,.int .i64 j,.int .i64 f,.bool s] w fun r w'=>r=.returned (.bool true)∧Below w.heap.size w w':=by
 have HV:=hid hv;have HK:=hid hk;have HG:=hid hg;obtain⟨q,b,off,cap,ev,hq,hi,hb⟩:=hv;subst ev;clear hq hi hb hk hg;by_cases hr:256<rs.length
 ·have aD:(256:Int)<(rs.length:Int):=oA;go_enter Tryz.func3,Tryz.ntmps3
  go_wp2_with fail
  go_ret
  exact⟨rfl,ai _ _⟩
 have aD:¬(256:Int)<(rs.length:Int):=oA;have V:=hid (fun W:World=>dK j 20 W d0 d1 oD);have E:=hid (bO j 20 oD);have Y:=hid (fun W:World=>dK f 100 W a0 a1 oD);have U:=hid (bO f 100 oD);generalize fq j 20=dq at V E;generalize fq f 100=y at Y U;obtain⟨dn,rfl⟩:∃u:Nat,dq=u:=⟨dq.toNat,by have:=E.out;omega⟩
 have LL:=hid (wq (.slice q rs.length cap) rs L dn 18 w HV oA h0 h1 (by have:=E.out;omega) oD oD HK);clear d0 d1 a0 a1 h0 h1 hr;go_enter Tryz.func3,Tryz.ntmps3
 go_wp2_with fail
 refine (V.out _).mono ?_;rintro r w' ⟨rfl,rfl⟩;clear V;go_wp2_with fail
 refine LL.mono ?_;rintro r w3 ⟨X,rest⟩;obtain⟨tag,p,rfl,B,hl,aE,ao⟩:∃tag p,r=.returned (.agg (dk X))∧fK w3 tag X p∧Lv p∧(∀k,k<w.heap.size->tag k=0)∧Below w.heap.size w w3:=by
  first
  |exact rest
  |(obtain⟨e,tag,p,r2⟩:=rest;exact⟨tag,p,e,r2⟩)
 have T:=hid hl;have N:=hid ao;have T7:=hid (aY w3 zW 28 w3.heap.size 11 rfl oD);have B4:=hid (show Below w3.heap.size w3 (w3.alloc (.cells zW 28)) from bal (ai _ _) _);have O7:=hid B.EJ;obtain⟨l,o,e0,av⟩:=B.Fs hl.w;obtain⟨a,e8⟩:∃g,X 8=.slice (some ⟨g,0,none⟩) p.D9.length p.D9.length:=B.D9.form
 have Q:=hid e0;have E8:=hid e8;have aB:=hid B.D9;have an:=hid av;clear B hl aE ao LL e0 e8 av E;go_upto_region 4 with ((with_reducible refine gst 28 ?_);refine wpList_store_mid rfl 28 _ _ rfl w3.heap.size 0 (dk X) rfl rfl T7 fO O7 ?_)
 have O:=hid (show Below w3.heap.size w3 ((w3.alloc (.cells zW 28)).setCells w3.heap.size 0 [X 0,X 1,X 2,X 3,X 4,X 5,X 6,X 7,X 8,X 9,X 10]) from dT B4 (ar _) [X 0,X 1,X 2,X 3,X 4,X 5,X 6,X 7,X 8,X 9,X 10] 0);have x:=hid (show ((w3.alloc (.cells zW 28)).setCells w3.heap.size 0 [X 0,X 1,X 2,X 3,X 4,X 5,X 6,X 7,X 8,X 9,X 10]).rangeAt w3.heap.size 0 (dk X).toList from World.rangeAt_setCells_same _ w3.heap.size 0 (dk X).toList T7);clear T7 B4 O7;generalize World.setCells _ _ _ _=J at O x ⊢;generalize w3.heap.size=wb at x ⊢;have c0:J.cell? ⟨wb,0,none⟩=some (.slice (some ⟨l,0,none⟩) p.Eb.length o):=by rw[ah x (k:=0) rfl,Q.out]
 have c8:J.cell? ⟨wb,8,none⟩=some (.slice (some ⟨a,0,none⟩) p.D9.length p.D9.length):=by rw[ah x (k:=8) rfl,E8.out]
 have C0:=hid c0;have C8:=hid c8;clear c0 c8 x;go_wp2_with fail
 refine (Y.out _).mono ?_;rintro r w' ⟨rfl,rfl⟩;obtain⟨aH,aI⟩:=U.out;clear Y U;go_wp2_with fail
 go_loopw [12] (fun i wr=>∃k:Nat,k<=p.D9.length∧i=.int .i64 (k:Int)∧Hid (Below J.heap.size J wr)) (fun i _=>p.D9.length - (intOf i).toNat)
 case atStart=>exact⟨0,oA,rfl,hid (ai _ _)⟩
 case round=>
  obtain⟨k,hk,rfl,t⟩:=hrel;have x0:=cu t C0;have x8:=cu t C8;have aM:(p.D9.length:Int)<=4:=by have:=T.w.m.tk.lf.D9;have:=T.w.m.tk.lf.c2;omega
  by_cases ag:k<p.D9.length
  ·have aL:(k:Int)<(p.D9.length:Int):=oA;have aK:(0:Int)<=(k:Int):=oA;have TT:=aB.out;rw[E8.out] at TT;obtain⟨u,hu,au⟩:=TT.at ag;have ab:=T.w.tl _ (show p.D9.getD k []∈p.D9 by rw[aa,ac ag];exact aw ag);have aj:=(au.Fx (by have:=ab.n;omega)).1;obtain⟨I,H,kv,ev⟩:∃q n k,u=.slice q n k:=by obtain⟨q,b,off,cap,h,_⟩:=aj;exact⟨_,_,_,h⟩
   subst ev;obtain⟨eA,eK,ln,G⟩:=xi ab 2 y s;have BR:=hid (btr O t);have C:=hid (show Below wr.heap.size wr wr.drew from aC wr 1);have P:=hid (btr BR C);have D:=hid (fun W (h:Below w3.heap.size w3 W)=>Mml.qT (.slice (some ⟨l,0,none⟩) p.Eb.length o) (.slice I H kv) p.Eb (p.D9.getD k []) 2 y s W (by have:=an.below h;rwa [Q.out] at this) (aj.below h));have c:=hid (fun W (h:Below w3.heap.size w3 W)=>Mml.qT (.slice (some ⟨l,0,none⟩) p.Eb.length o) (.slice none 0 0) p.Eb [] 2 y s W (by have:=an.below h;rwa [Q.out] at this) (lP W));rw[<-eA, <-eK] at c;have d:=hid (show (fun W=>W.cell? ⟨wb,0,none⟩=some (.slice (some ⟨l,0,none⟩) p.Eb.length o)∧W.cell? ⟨wb,8,none⟩=some (.slice (some ⟨a,0,none⟩) p.D9.length p.D9.length)∧W.cell? ⟨a,k,none⟩=some (.slice I H kv)) wr.drew from⟨cu C x0,cu C x8,cu P hu⟩);have Z:=hid (fun W (h:Below wr.drew.heap.size wr.drew W)=>show (fun W=>W.cell? ⟨wb,0,none⟩=some (.slice (some ⟨l,0,none⟩) p.Eb.length o)∧W.cell? ⟨wb,8,none⟩=some (.slice (some ⟨a,0,none⟩) p.D9.length p.D9.length)∧W.cell? ⟨a,k,none⟩=some (.slice I H kv)) W from⟨cu h d.1,cu h d.2.1,cu h d.2.2⟩);generalize fC p.Eb (p.D9.getD k []) 2 y s=R at D c ln G;generalize (fC p.Eb [] 2 y s).2.1=M at c;obtain⟨A,l2,ek⟩:=R;dsimp only at D c ln G;have az:=hid ln;have aA:=hid G;clear TT hu au ab aj eA eK ln G;go_upto_region 8 with fail
   refine Rf.d7 (S:=fun W=>W.cell? ⟨wb,0,none⟩=some (.slice (some ⟨l,0,none⟩) p.Eb.length o)∧W.cell? ⟨wb,8,none⟩=some (.slice (some ⟨a,0,none⟩) p.D9.length p.D9.length)∧W.cell? ⟨a,k,none⟩=some (.slice I H kv)) (R:=fun _=>True) [] oK d trivial (fun _ _=>?_);generalize wr.drew=x7 at*;refine bD oK _ d trivial [0,1,2,3,4,5,6,7,8] 8 _ _ oK ?_
   repeat (refine Rf.rs ?_;try simp only[jj])
   refine aG ?_;refine Rf.r1 9 rfl (fun K hK=>?_);refine wnt oR ?_;go_simp
   refine (D.out x7 P).mono ?_;rintro r w8 ⟨u,rfl,hT,z⟩;go_wp2_with fail
   refine hK _ _ (Z.out _ z) (fun _=>trivial) (fun _ _=>?_);clear hK K
   try simp only[jj]
   refine bD oK _ (Z.out _ z) trivial [10,11,12,13,14,15,16] 0 _ _ oK ?_
   repeat (refine Rf.rs ?_;try simp only[jj])
   refine aG ?_;refine aO oK ?_ _;have B8:=hid (btr P z);have al:=hid (btr t (btr C z));have aF:=cu al C0;obtain⟨q2,b2,o2,k2,rfl, -⟩:=hT;clear z Z d D x0 x8;go_wp2_with fail
   refine (c.out w8 B8).mono ?_;rintro r w9 ⟨u2,rfl, -,ae⟩;have B9:=hid (btr B8 ae);have ax:=hid (btr al ae);clear ae c aF;go_wp2_with fail
   refine (yc ek w9 (HG.below (btr N B9))).mono ?_;rintro r wA ⟨rfl,af⟩;have BA:=hid (btr B9 af);have ay:=hid (btr ax af);clear af;go_wp2_with fail
   refine (yc ek wA (HG.below (btr N BA))).mono ?_;rintro r wB ⟨rfl,ap⟩;have am:=hid (btr ay ap);clear ap;have aN:¬(4:Int)<(l2.length:Int):=by have:=az.out;omega
   by_cases F:ek=0
   ·have aP:((l2.length:Int)==0)=false:=beq_eq_false_iff_ne.2 (by have:=aA.out F;omega);subst F;rw[Mml.vL];go_wp2_with fail
    exact⟨⟨k+1,oA,by go_num,am⟩,by simp[intOf];omega⟩
   ·rw[Mml.tz F];clear F;go_wp2_with fail
    exact⟨⟨k+1,oA,by go_num,am⟩,by simp[intOf];omega⟩
  ·obtain rfl:k=p.D9.length:=oA;have aJ:¬((p.D9.length:Int)<(p.D9.length:Int)):=oA;go_wp2_with fail
   exact aq (v:=.bool true) (by simp[results,Tryz.results3,go_sem]) rfl ⟨rfl,btr (btr N O) t⟩
end Wd
open Go.ChangeShapes Go.WideShapes Go.RowKit
theorem own:ownKnob Tryz.prog.godebug=none:=by kernel_rfl
theorem lp:laidOutB Tryz.prog=true:=by kernel_rfl
theorem etG:Tryz.prog.globalNamed "errors.errorType"=some 0:=by kernel_rfl
theorem rtT:(Tryz.prog.cutTypes.find? (·.1=="internal/reflectlite.rtype")).map (·.2)=some 150:=by kernel_rfl
theorem By:((List.range 247).filter fun t=>Tryz.prog.rowNamed t [101,114,114,111,114])=[33]:=by kernel_rfl
theorem Dy:Tryz.prog.types.size=247:=by kernel_rfl
theorem tP {W:World} (h:handlesMet Tryz.prog [("errors.errorType",Rows.laid_errors_errorType)] W):qp W:=by
 obtain⟨e,u,f,e1,e2,c,e4,e5⟩:=h _ (List.mem_singleton.2 rfl);have d:e=[101,114,114,111,114]:=(Option.some.inj e1).symm;subst d;obtain rfl:=Option.some.inj (rtT.symm.trans e2);have a:f∈(List.range 247).filter fun t=>Tryz.prog.rowNamed t [101,114,114,111,114]:=List.mem_filter.2 ⟨List.mem_range.2 (by rw[<-Dy];exact c),e4⟩;rw[By] at a;obtain rfl:=List.mem_singleton.1 a;have hh:typeHandle Tryz.prog 33=.pointer (some ⟨3,33,none⟩):=by kernel_rfl
 rw[hh] at e5;have b:=World.var?_cell etG e5 0;simp at b;exact b
namespace Wd
open Go.ChangeShapes Go.WideShapes Go.RowKit Go.Deep Go.Joins Mem Nums Hex
theorem sG {P:Program} {W:World} {r:Reach} {base:Nat} {t e:TypeId} {a:Addr} {len cap:Nat} (b:P.underlying t=some (.slice e)) (h:Value.okWide P W r base t (.slice (some a) len cap)):a.spot=none:=by
 simp only[Value.okWide,b,Cell.okWide,Cell.ok] at h;exact h.2.2.2.1
theorem wF {P:Program} {w:World} {base:Nat} {spare:Nat->Bool} {held:Bool} {H:Type} {enc:TypeId×Value->H} {u:TypeId} {fuel:Nat} {a:Addr} {cs:List Value} {x:DataW H×List MemPlace} (e:P.underlying u=some (.int .i64))
  (c:w.cells? base a 1=some cs) (h:DataW.trod enc P w base spare held fuel u cs=some x):∃q:Int,w.cell? (a.add 0)=some (.int .i64 q)∧ -9223372036854775808<=q∧q<=9223372036854775807:=by
 obtain⟨_,hl,d⟩:=World.cells?_some c
 match cs,hl with
 |[c0],_=>
  obtain⟨n0,b,_,f⟩:=DataW.trod_int e h;simp at b;subst b;refine⟨n0,d 0 oA,?_⟩;simp[Lit.wf,IntKind.min,IntKind.max,IntKind.signed,IntKind.bits] at f;omega
theorem uJ {H:Type} {enc:TypeId×Value->H} {W:World} {r:Reach} {base:Nat} {v:Value} {d:DataW H} {p:List MemPlace}
  (t:Value.okWide Tryz.prog W r base 22 v) (h:DataW.Trod enc Tryz.prog W 0 (fun _=>true) true 22 v d p):
  ∃zs:List Int,mQ W v zs∧zs.length<=maxLen:=by
 obtain⟨a0,len,cap,rfl⟩:=okWide_slice Tryz.underlying22 t;obtain⟨fuel,y⟩:=h;rcases open_slice Tryz.underlying22 y with ⟨b,_⟩|⟨a,K,F,m,n,D,C,b,_,hl,I,B,_,x⟩
 ·simp[Value.cells] at b;obtain⟨rfl,rfl,rfl⟩:=b;exact⟨[],⟨none,0,0,0,rfl,fun h=>by simp at h,fun j c=>by simp at c,fun z k=>by simp at k⟩,oS⟩
 ·simp[Value.cells] at b;obtain⟨rfl,rfl,rfl⟩:=b;have s:=sG Tryz.underlying22 t;obtain⟨f,g,E⟩:=a;simp at s;subst s;have J:len<=m:=by rw[B];split<;>omega
  obtain⟨q,o⟩:=choose_lt (α:=Int) (n:=len) (p:=fun i q=>W.cell? ⟨f,g+i,none⟩=some (.int .i64 q)∧ -9223372036854775808<=q∧q<=9223372036854775807) (fun i hi=>by
   obtain⟨G,l,w⟩:=x i oA;rw[AD] at l;obtain⟨q,u,k1⟩:=wF Tryz.underlying3 l w;simp only[ma,Nat.mul_one,bG] at u;exact⟨q,u,k1⟩)
  refine⟨(List.range len).map q,⟨some ⟨f,g,none⟩,f,g,cap,oS,fun _=>rfl,fun j c=>?_,fun z k=>?_⟩,by simp;omega⟩
  ·have A:j<len:=by simpa using c
   have e:((List.range len).map q)[j]=q j:=oS;rw[e];exact (o j A).1
  ·obtain⟨j,c,rfl⟩:=List.mem_map.1 k;exact (o j (List.mem_range.1 c)).2
theorem sF {H:Type} {enc:TypeId×Value->H} {P:Program} {w:World} {base:Nat} {spare:Nat->Bool} {held:Bool} {t e:TypeId} {fuel:Nat} {cs:List Value} {L:List (List UInt8)} {p:List MemPlace} (C:P.underlying t=some (.slice e)) (y:P.underlying e=some .string) (v:P.cellsOf e=1)
  (h:DataW.trod enc P w base spare held fuel t cs=some (.slice (L.map fun l=>.lit (.string l)) [],p)) (F:0<L.length):
  ∃b o c,cs=[.slice (some ⟨b,o,none⟩) L.length c]∧∀k (hk:k<L.length),w.cell? ⟨b,o+k,none⟩=some (.string ⟨L[k].toArray⟩):=by
 rcases open_slice1 C v h with ⟨_,d⟩|⟨a,len,cap,m,n,V,D,E,x,_,hl,_,A,d,i⟩
 ·simp at d
 ·simp only[Prod.mk.injEq,DataW.slice.injEq] at d;have z:len=L.length:=by have:=cX List.length d.1.1;simpa using this.symm
  subst z;have G:L.length<=m:=by rw[A];split<;>omega
  obtain⟨j,q,r⟩:=a;have B:r=none:=by
   have:=(i 0 oA).1;have:=World.cell?_spot this;simpa [Addr.add] using this
  subst B;refine⟨j,q,cap,x,fun k hk=>?_⟩;obtain⟨f,u⟩:=i k oA;obtain⟨s,e1,e2,_⟩:=DataW.trod_string y u;have g:=cX (·[k]?) d.1.1;simp only[cM,ac hk,List.getElem?_range hk,Option.map_some,bo] at g;simp only[Prod.mk.injEq] at e2;rw[<-g] at e2;simp at e1 e2;rw[e1] at f;have e4:(⟨L[k].toArray⟩:ByteArray)=s:=by rw[e2.1]
  rw[e4, <-ma];exact f
theorem knG:Tryz.prog.globalNamed "keyhold/keyholdref.kindNames"=some 1:=oK
theorem knT:(Tryz.prog.globals[1]?).map (·.type)=some 119:=oK
theorem DX:Tryz.prog.cellsOf 9=1:=oK
theorem C3 {W:World} {g t:Nat} {cs:Array Value} {fuel:Nat} {p:List MemPlace} (h:Tryz.prog.globalNamed "keyhold/keyholdref.kindNames"=some g) (i:(Tryz.prog.globals[g]?).map (·.type)=some t) (j:W.var? Tryz.prog "keyhold/keyholdref.kindNames"=some cs)
  (a:DataW.trod (fun _=>()) Tryz.prog W 0 (fun _=>true) false fuel t cs.toList=some (Rows.laid_keyhold_keyholdref_kindNames,p)):KnW W:=by
 obtain rfl:=aH (knG.symm.trans h);obtain rfl:=aH (knT.symm.trans i);have e:(Rows.laid_keyhold_keyholdref_kindNames:DataW Unit)=.slice ((knB.map fun x=>x.data.toList).map fun l=>.lit (.string l)) []:=rfl;rw[e] at a;obtain⟨b,o,c,d,f⟩:=sF Tryz.underlying119 Tryz.underlying9 DX a oD;refine⟨b,o,c,?_,fun k hk=>?_⟩
 ·rw[World.var?_cell knG j 0];have:=cX (·[0]?) d;rw[show (knB.map fun x=>x.data.toList).length=7 from rfl] at this;simpa using this
 ·have:=f k (by rw[bL];exact hk);rw[this];simp
end Wd
namespace Wd
open Go.ChangeShapes Go.WideShapes Go.RowKit Go.Deep Go.Joins Mem Nums
section
variable {H : Type} {enc : TypeId × Value -> H} {P : Program} {w : World} {base : Nat} {spare : Nat -> Bool} {held : Bool}
theorem pn {g i j k l:TypeId} {e:Array Value} {ds:List (DataW H)} {f:List MemPlace} (h:DataW.TrodAll enc P w base spare held [g,i,j,k,l] e.toList ds f):
  ∃v0 v1 v2 v3 v4 a d1 d2 b c p0 p1 p2 d p4,e=#[v0,v1,v2,v3,v4]∧ds=[a,d1,d2,b,c]∧f=p0++(p1++(p2++(d++p4)))∧DataW.Trod enc P w base spare held g v0 a p0∧DataW.Trod enc P w base spare held i v1 d1 p1∧DataW.Trod enc P w base spare held j v2 d2 p2∧DataW.Trod enc P w base spare held k v3 b d∧DataW.Trod enc P w base spare held l v4 c p4:=by
 obtain⟨v0,D,a,ds0,p0,q0,z,rfl,rfl,m,r⟩:=trodAll_cons h;obtain⟨v1,E,d1,ds1,p1,q1,rfl,rfl,rfl,n,s⟩:=trodAll_cons r;obtain⟨v2,F,d2,v,p2,A,rfl,rfl,rfl,o,t⟩:=trodAll_cons s;obtain⟨v3,G,b,x,d,B,rfl,rfl,rfl,p,u⟩:=trodAll_cons t;obtain⟨v4,I,c,y,p4,C,rfl,rfl,rfl,q,r4⟩:=trodAll_cons u;obtain⟨rfl,rfl,rfl⟩:=trodAll_nil r4;exact⟨v0,v1,v2,v3,v4,a,d1,d2,b,c,p0,p1,p2,d,p4,by cases e;simp_all,rfl,oS,m,n,o,p,q⟩
theorem qj {f g h i j:TypeId} {v0 v1 v2 v3 v4:Value} {a d1 d2 b c:DataW H} {p0 p1 p2 d e:List MemPlace} (k:DataW.Trod enc P w base spare held f v0 a p0) (l:DataW.Trod enc P w base spare held g v1 d1 p1) (m:DataW.Trod enc P w base spare held h v2 d2 p2) (n:DataW.Trod enc P w base spare held i v3 b d) (o:DataW.Trod enc P w base spare held j v4 c e):
  DataW.TrodAll enc P w base spare held [f,g,h,i,j] [v0,v1,v2,v3,v4] [a,d1,d2,b,c] (p0++(p1++(p2++(d++e)))):=⟨p0,_,k,trodAll_mk4 l m n o,rfl⟩
end
