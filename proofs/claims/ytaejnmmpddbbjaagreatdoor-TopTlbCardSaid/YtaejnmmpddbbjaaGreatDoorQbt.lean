/- Qbt -/
import Derived.Test.YtaejnmmpddbbjaaGreatDoorRows
import Derived.ChangeSame
import Derived.ChangeVars
import Derived.JoinedOf
import Derived.RowKit
import Derived.RowKitTokens
import Derived.LaidLaws
import Derived.LaidHandle
import Derived.Stop.Joined
import Derived.ProofKit
import Derived.OpenShut
import Derived.Deep.Slices
import Derived.Lib.SmallJoins
import Derived.Test.YtaejnmmpddbbjaaGreatDoorQbs
import Derived.Test.YtaejnmmpddbbjaaGreatDoorQbg
namespace Go.Proofs.YtaejnmmpddbbjaaGreatDoor.Wd
open Go.RowKit Mem Bw Nums Mmu Hex Mad
def Lvd (w1:World) (wb k:Nat) (W:World):Prop:=∃tg Y q,Own w1 W wb tg Y q∧Lv q∧q.time≤(k:Int)
theorem Lvd.bx {w1 W W':World} {wb k:Nat} {tg:Nat→Nat} {Y:Nat→Value} {q:PW} (o:Own w1 W wb tg Y q) (e:q.time≤(k:Int)) (h:Bx q wb tg W W'):Lvd w1 wb (k+1) W':=by
 obtain⟨d,b,c,kt,bt,a⟩:=h;exact⟨d,b,c,o.to bt kt,a.w,by rw[a.t];omega⟩
set_option maxRecDepth 100000
set_option maxHeartbeats 16000000
theorem lived_lv (v:Value) (rs:List Int) (S:Int) (dd cl:Nat) (w:World) (hv:RawIn w v rs) (ab:rs.length≤256) (h0: -9223372036854775808≤S) (h1:S≤9223372036854775807) (aD:dd≤20) (aa:0<(cl:Int)) (ag:(cl:Int)≤18) (hk:KnW w):
  Calls Tryz.prog 5 #[v,.int .i64 S,.int .i64 (dd:Int),.int .i64 (cl:Int)] w fun r w'=>∃X tag p,r=.returned (.agg (arr11 X))∧WorldT w' tag X p∧Lv p∧(∀k,k<w.heap.size→tag k=0)∧Below w.heap.size w w':=by
 have L:=hid (bal (aj w.heap.size w) (.cells #[.slice none 0 0,.slice none 0 0,.slice none 0 0,.slice none 0 0,.slice none 0 0,.slice none 0 0,.slice none 0 0,.slice none 0 0,.slice none 0 0,.slice none 0 0,.int .i64 0] 28));have T0:=hid (aM w #[.slice none 0 0,.slice none 0 0,.slice none 0 0,.slice none 0 0,.slice none 0 0,.slice none 0 0,.slice none 0 0,.slice none 0 0,.slice none 0 0,.slice none 0 0,.int .i64 0] 28 w.heap.size 11 rfl (by decide));have Z:=hid hv;have U:=hid ab;have BG:=hid (begun_lv v rs S cl _ (hv.below L) ab h0 h1 aa ag (hk.below L));have SZ:=hid (show w.heap.size+1=(w.alloc (.cells #[.slice none 0 0,.slice none 0 0,.slice none 0 0,.slice none 0 0,.slice none 0 0,.slice none 0 0,.slice none 0 0,.slice none 0 0,.slice none 0 0,.slice none 0 0,.int .i64 0] 28)).heap.size by simp);clear hv hk ab h0 h1 aa ag;go_enter Tryz.func5,Tryz.ntmps5
 go_wp2_with fail
 generalize w.alloc _=w1 at*;refine BG.mono ?_;rintro r j ⟨X,tag,p,rfl,hw,hl,ai,al,C⟩;have H:=hid L.out;have TZ:=hid al;have ao:=hid T0.out;have HW:=hid hw;have I:=hid C;have SA:=hid SZ.out;have ac:=hid hl;have ad:=hid ai;clear hw al C T0 L SZ hl ai BG;have T7:=hid (aM j #[.slice none 0 0,.slice none 0 0,.slice none 0 0,.slice none 0 0,.slice none 0 0,.slice none 0 0,.slice none 0 0,.slice none 0 0,.slice none 0 0,.slice none 0 0,.int .i64 0] 28 j.heap.size 11 rfl (by decide));have M:=hid (show Below j.heap.size j (j.alloc (.cells #[.slice none 0 0,.slice none 0 0,.slice none 0 0,.slice none 0 0,.slice none 0 0,.slice none 0 0,.slice none 0 0,.slice none 0 0,.slice none 0 0,.slice none 0 0,.int .i64 0] 28)) from bal (aj _ _) _);have O7:=hid HW.ones;go_upto_region 2 with ((with_reducible refine gst 28 ?_);refine wpList_store_mid rfl 28 _ _ rfl j.heap.size 0 (arr11 X) rfl rfl T7 infoW O7 ?_)
 have WU:=hid (HW.up M);have WB:=hid (show BoxT ((j.alloc (.cells #[.slice none 0 0,.slice none 0 0,.slice none 0 0,.slice none 0 0,.slice none 0 0,.slice none 0 0,.slice none 0 0,.slice none 0 0,.slice none 0 0,.slice none 0 0,.int .i64 0] 28)).setCells j.heap.size 0 [X 0,X 1,X 2,X 3,X 4,X 5,X 6,X 7,X 8,X 9,X 10]) j.heap.size (fun k=>if k=j.heap.size then 1 else tagC tag j.heap.size k) X p from WU.box (tagC_ge (au _)) T7);have K5:Kp (fun k=>k=j.heap.size) (j.alloc (.cells #[.slice none 0 0,.slice none 0 0,.slice none 0 0,.slice none 0 0,.slice none 0 0,.slice none 0 0,.slice none 0 0,.slice none 0 0,.slice none 0 0,.slice none 0 0,.int .i64 0] 28)) ((j.alloc (.cells #[.slice none 0 0,.slice none 0 0,.slice none 0 0,.slice none 0 0,.slice none 0 0,.slice none 0 0,.slice none 0 0,.slice none 0 0,.slice none 0 0,.slice none 0 0,.int .i64 0] 28)).setCells j.heap.size 0 [X 0,X 1,X 2,X 3,X 4,X 5,X 6,X 7,X 8,X 9,X 10]):=aG (T:=fun k=>k=j.heap.size) (.inl rfl) _ _ _ (aR _ _);have O:=hid (show Own w1 ((j.alloc (.cells #[.slice none 0 0,.slice none 0 0,.slice none 0 0,.slice none 0 0,.slice none 0 0,.slice none 0 0,.slice none 0 0,.slice none 0 0,.slice none 0 0,.slice none 0 0,.int .i64 0] 28)).setCells j.heap.size 0 [X 0,X 1,X 2,X 3,X 4,X 5,X 6,X 7,X 8,X 9,X 10]) j.heap.size (fun k=>if k=j.heap.size then 1 else tagC tag j.heap.size k) X p from
  ⟨WB.out,fun k hk=>by have:=I.size;rw[ae (by omega),tagC_lt (by omega)];exact TZ k hk,
   K5.below (btr I M) (btr I M).size (fun k hk e=>by have:=I.size;omega)⟩)
 clear K5 WB WU T7 M O7 HW TZ I;generalize World.setCells _ _ _ _=w6 at O ⊢;generalize j.heap.size=wb at*;generalize (fun k=>if k=wb then 1 else tagC tag wb k)=av at O;have L0:=hid (show Lvd w1 wb 0 w6 from⟨av,X,p,O.out,ac.out,by rw[ad.out];exact Int.le_refl 0⟩);clear O ac ad;go_wp2_with fail
 go_loopw [10] (fun i wr=>∃k:Nat,k≤dd∧i=.int .i64 (k:Int)∧Hid (Lvd w1 wb k wr)) (fun i _=>dd - (intOf i).toNat)
 case atStart=>exact⟨0,by omega,rfl,L0⟩
 case round=>
  obtain⟨k,hk,rfl,N⟩:=hrel;by_cases aH:k<dd
  ·have aI:(k:Int)<(dd:Int):=by omega
   have aF:(k:Int)≤20:=by omega
   obtain⟨tg,Y,q,K,J,tq⟩:=N.out;have Or:=hid K;have A:=hid J;have V:=hid tq;clear N K J tq;have B:=hid (raw_any v rs (20+4*k) wr (Z.below (btr H Or.e)) U (by omega));rw[show ((20+4*k:Nat):Int)=20+4*(k:Int) by omega] at B;go_wp2_with fail
   refine B.mono ?_;rintro e wx ⟨a,rfl,ax,ay,C⟩;have Ox:=hid (Or.next C);clear C B;have B:=hid (raw_any v rs (21+4*k) wx (Z.below (btr H Ox.e)) U (by omega));rw[show ((21+4*k:Nat):Int)=21+4*(k:Int) by omega] at B;go_wp2_with fail
   refine B.mono ?_;rintro e wy ⟨b,rfl,az,aA,C⟩;have Oy:=hid (Ox.next C);clear C B;have B:=hid (raw_any v rs (22+4*k) wy (Z.below (btr H Oy.e)) U (by omega));rw[show ((22+4*k:Nat):Int)=22+4*(k:Int) by omega] at B;go_wp2_with fail
   refine B.mono ?_;rintro e D ⟨c,rfl,aa,aB,C⟩;have z:=hid (Oy.next C);clear C B;clear Or Ox Oy;have F:=hid (fun W' (h:Bx q wb tg D W')=>Lvd.bx (k:=k) z V h);have f:=hid (fun W:World=>dQ (b) 40 W (by omega) (by omega) (by decide));have d:=hid (bT (b) 40 (by decide));generalize pickV (b) 40=x at f d;go_wp2_with fail
   refine (f.out _).mono ?_;rintro e w' ⟨rfl,rfl⟩;obtain⟨x0,x1⟩:=d.out;clear f d;have f:=hid (fun W:World=>dQ (c) 40 W (by omega) (by omega) (by decide));have d:=hid (bT (c) 40 (by decide));generalize pickV (c) 40=y at f d;go_wp2_with fail
   refine (f.out _).mono ?_;rintro e w' ⟨rfl,rfl⟩;obtain⟨y0,y1⟩:=d.out;clear f d;have f:=hid (fun W:World=>dQ (a) 14 W (by omega) (by omega) (by decide));have d:=hid (bT (a) 14 (by decide));generalize pickV (a) 14=s at f d;go_wp2_with fail
   refine (f.out _).mono ?_;rintro e w' ⟨rfl,rfl⟩;obtain⟨s0,s1⟩:=d.out;clear f d;by_cases g:s=0
   ·subst g;have f:=hid (fun W:World=>dQ (a/14) 8 W (by omega) (by omega) (by decide));have d:=hid (bT (a/14) 8 (by decide));generalize pickV (a/14) 8=r at f d;go_wp2_with fail
    refine (f.out _).mono ?_;rintro e w' ⟨rfl,rfl⟩;obtain⟨Q,R⟩:=d.out;clear f d;obtain⟨rn,rfl⟩:∃u:Nat,r=u:=⟨r.toNat,by omega⟩
    go_wp2_with fail
    refine (copyKey_ok x y rn 0 A D wb tg Y z.b).mono ?_;rintro r G ⟨e,rfl,_,l⟩;have n:=hid (F.out _ l);clear l;go_wp2_with fail
    exact⟨⟨k+1,by omega,by go_num,n⟩,by simp[intOf];omega⟩
   have N0:(s==0)=false:=by simp[g]
   clear g;by_cases g:s=1
   ·subst g;go_wp2_with fail
    refine (moveKey_ok x y A D wb tg Y z.b).mono ?_;rintro r G ⟨e,rfl,_,l⟩;have n:=hid (F.out _ l);clear l;go_wp2_with fail
    exact⟨⟨k+1,by omega,by go_num,n⟩,by simp[intOf];omega⟩
   have N1:(s==1)=false:=by simp[g]
   clear g;by_cases g:s=2
   ·subst g;go_wp2_with fail
    refine (dropKey_ok x A D wb tg Y z.b).mono ?_;rintro r G ⟨e,rfl,_,l⟩;have n:=hid (F.out _ l);clear l;go_wp2_with fail
    exact⟨⟨k+1,by omega,by go_num,n⟩,by simp[intOf];omega⟩
   have N2:(s==2)=false:=by simp[g]
   clear g;by_cases g:s=3
   ·subst g;have f:=hid (fun W:World=>dQ (a/14) 7 W (by omega) (by omega) (by decide));have d:=hid (bT (a/14) 7 (by decide));generalize pickV (a/14) 7=r at f d;go_wp2_with fail
    refine (f.out _).mono ?_;rintro e w' ⟨rfl,rfl⟩;obtain⟨Q,R⟩:=d.out;clear f d;have f:=hid (fun W:World=>dQ (c/40) 2 W (by omega) (by omega) (by decide));have d:=hid (bT (c/40) 2 (by decide));generalize pickV (c/40) 2=m at f d;go_wp2_with fail
    refine (f.out _).mono ?_;rintro e w' ⟨rfl,rfl⟩;obtain⟨m0,m1⟩:=d.out;clear f d;go_wp2_with fail
    refine (makeThings_ok 1 (2+r) (1+m) y A D wb tg Y z.b).mono ?_;rintro r G ⟨e,rfl,_,l⟩;have n:=hid (F.out _ l);clear l;go_wp2_with fail
    exact⟨⟨k+1,by omega,by go_num,n⟩,by simp[intOf];omega⟩
   have N3:(s==3)=false:=by simp[g]
   clear g;by_cases g:s=4
   ·subst g;have f:=hid (fun W:World=>dQ (b/40) 5 W (by omega) (by omega) (by decide));have d:=hid (bT (b/40) 5 (by decide));generalize pickV (b/40) 5=r at f d;go_wp2_with fail
    refine (f.out _).mono ?_;rintro e w' ⟨rfl,rfl⟩;obtain⟨Q,R⟩:=d.out;clear f d;by_cases P:r=0
    ·have ap:(r==0)=true:=by simp[P]
     clear P;go_wp2_with fail
     refine (revokeKey_ok x A D wb tg Y z.b).mono ?_;rintro r G ⟨e,rfl,_,l⟩;have n:=hid (F.out _ l);clear l;go_wp2_with fail
     exact⟨⟨k+1,by omega,by go_num,n⟩,by simp[intOf];omega⟩
    ·have ap:(r==0)=false:=by simp[P]
     clear P;go_wp2_with fail
     exact⟨⟨k+1,by omega,by go_num,hid (F.out _ (bU A z.b (aj _ _)))⟩,by simp[intOf];omega⟩
   have N4:(s==4)=false:=by simp[g]
   clear g;by_cases g:s=5
   ·subst g;have f:=hid (fun W:World=>dQ (b) 3 W (by omega) (by omega) (by decide));have d:=hid (bT (b) 3 (by decide));generalize pickV (b) 3=r at f d;go_wp2_with fail
    refine (f.out _).mono ?_;rintro e w' ⟨rfl,rfl⟩;obtain⟨Q,R⟩:=d.out;clear f d;go_wp2_with fail
    refine (started_ok (7+r) A D wb tg Y z.b).mono ?_;rintro r G ⟨e,rfl,_,l⟩;have n:=hid (F.out _ l);clear l;go_wp2_with fail
    exact⟨⟨k+1,by omega,by go_num,n⟩,by simp[intOf];omega⟩
   have N5:(s==5)=false:=by simp[g]
   clear g;by_cases g:s=6
   ·subst g;have f:=hid (fun W:World=>dQ (b) 3 W (by omega) (by omega) (by decide));have d:=hid (bT (b) 3 (by decide));generalize pickV (b) 3=r at f d;go_wp2_with fail
    refine (f.out _).mono ?_;rintro e w' ⟨rfl,rfl⟩;obtain⟨Q,R⟩:=d.out;clear f d;have f:=hid (fun W:World=>dQ (c) 4 W (by omega) (by omega) (by decide));have d:=hid (bT (c) 4 (by decide));generalize pickV (c) 4=m at f d;go_wp2_with fail
    refine (f.out _).mono ?_;rintro e w' ⟨rfl,rfl⟩;obtain⟨m0,m1⟩:=d.out;clear f d;go_wp2_with fail
    refine (ranked_ok (7+r) m A D wb tg Y z.b).mono ?_;rintro r G ⟨e,rfl,_,l⟩;have n:=hid (F.out _ l);clear l;go_wp2_with fail
    exact⟨⟨k+1,by omega,by go_num,n⟩,by simp[intOf];omega⟩
   have N6:(s==6)=false:=by simp[g]
   clear g;have am:=hid A.w.m.tk.lf.c1;have an:=hid A.w.m.tk.lf.c2;have ah:0<(q.cores.length:Int):=by have:=am.out;omega
   have aC:(q.cores.length:Int)≤4:=by have:=an.out;omega
   obtain⟨g6,k6,e6⟩:=z.b.o.cores.form (by omega);have c6:D.cell? ⟨wb,6,none⟩=some (.slice (some ⟨g6,0,none⟩) q.cores.length k6):=by rw[af z.b.r (k:=6) rfl,e6]
   have f:=hid (fun W:World=>dQ b (q.cores.length:Int) W (by omega) (by omega) ah);have d:=hid (bT b (q.cores.length:Int) ah);generalize pickV b (q.cores.length:Int)=cc at f d;go_wp2_with fail
   refine (f.out _).mono ?_;rintro e w' ⟨rfl,rfl⟩;obtain⟨cN,rfl⟩:∃u:Nat,cc=u:=⟨cc.toNat,by have:=d.out;omega⟩
   have ST:=hid (stepOf_ok wb tg Y q cN D z.b A (by have:=V.out;omega) (by have:=d.out;omega));clear f d c6 e6;go_wp2_with fail
   refine ST.mono ?_;rintro r G ⟨rfl,ar,Y',q',kt,bt,lv,_,tt,_⟩;have n:=hid (show Lvd w1 wb (k+1) G from⟨ar,Y',q',z.to bt kt,lv,by rw[tt];have:=V.out;omega⟩);clear kt bt lv tt ST;go_wp2_with fail
   exact⟨⟨k+1,by omega,by go_num,n⟩,by simp[intOf];omega⟩
  ·obtain rfl:k=dd:=by omega
   have aE:¬((k:Int)<(k:Int)):=by omega
   obtain⟨aw,Y,q,K,J,_⟩:=N.out;have E:=hid K;have LA:=hid J;clear N K J;have LT:=hid (show w.heap.size<w1.heap.size by have:=SA.out;omega);have TB:=hid (cU ao E.e);have OO:=hid E.b.o.ones;have KF:=hid (show Kp (fun k=>k=w.heap.size) wr (wr.setCells w.heap.size 0 [Y 0,Y 1,Y 2,Y 3,Y 4,Y 5,Y 6,Y 7,Y 8,Y 9,Y 10]) from aG (T:=fun k=>k=w.heap.size) (.inl rfl) _ _ _ (aR _ _));have RF:=hid (show (wr.setCells w.heap.size 0 [Y 0,Y 1,Y 2,Y 3,Y 4,Y 5,Y 6,Y 7,Y 8,Y 9,Y 10]).rangeAt w.heap.size 0 (arr11 Y).toList from World.rangeAt_setCells_same wr w.heap.size 0 (arr11 Y).toList TB);have BF:=hid (E.b.kp KF (fun k _ e=>by rw[e];exact E.t _ LT) (fun _ _=>rfl));have BE:=hid (show Below w.heap.size w (wr.setCells w.heap.size 0 [Y 0,Y 1,Y 2,Y 3,Y 4,Y 5,Y 6,Y 7,Y 8,Y 9,Y 10]) from KF.below (btr H E.e) (btr H E.e).size (fun k hk e=>by omega));go_wp2_with (first|((with_reducible refine gld 28 ?_);refine wp_ldW rfl _ rfl wb rfl Y E.b.r ?_)|((with_reducible refine gst 28 ?_);refine wpList_store_mid rfl 28 _ _ rfl w.heap.size 0 (arr11 Y) rfl rfl TB infoW OO ?_))
   have TG:=hid E.t;clear KF TB OO E;generalize wr.setCells w.heap.size 0 [Y 0,Y 1,Y 2,Y 3,Y 4,Y 5,Y 6,Y 7,Y 8,Y 9,Y 10]=W9 at RF BF BE ⊢;exact aq (v:=.agg (arr11 Y)) (results_c1 rfl rfl (run_loadVar_mid _ w.heap.size 0 28 (arr11 Y).toList _ RF Tryz.underlying28 rfl infoW)) rfl ⟨Y,rfl,aw,q,BF.o,LA.out,fun k hk=>TG.out k (by have:=LT.out;omega),BE.out⟩
set_option maxRecDepth 512
set_option maxHeartbeats 200000
theorem WorldT.ramAt {w:World} {tag:Nat→Nat} {X:Nat→Value} {p:PW} (h:WorldT w tag X p) (d:Lw p):∃g k,X 0=.slice (some ⟨g,0,none⟩) p.ram.length k∧RamAt w (X 0) p.ram:=by
 have lf:=d.m.tk.lf;have c:0<p.ram.length:=by have:=lf.ram;have:=lf.k1;omega
 obtain⟨g,k,e⟩:∃g cap,X 0=.slice (some ⟨g,0,none⟩) p.ram.length cap:=h.ram.form c
 refine⟨g,k,e,⟨?_,fun z a=>by have:=d.m.ram.w z a;omega,by have:=lf.ram;have:=lf.k2;omega⟩⟩;obtain⟨q,b,off,cap,e2,i,a⟩:=dm h.ram.1;rw[e] at e2
 cases e2
 have f:=i c
 cases f
 exact⟨_,_,_,e,fun _=>rfl,a⟩
theorem tell_k (k:Int) (w:World) (a:ETok w):Calls Tryz.prog 8 #[Mmu.errV k] w fun e w'=>e=.returned (.tuple #[.int .i64 k,.int .i64 (-1)])∧Below w.heap.size w w':=by
 unfold Mmu.errV;split
 ·rename_i h;subst h;exact tell_nil w
 ·exact tell_errno k w a
set_option maxRecDepth 100000
set_option maxHeartbeats 16000000
theorem topTlb_any (v:Value) (rs:List Int) (L j f:Int) (s:Bool) (w:World) (hv:RawIn w v rs) (h0: -9223372036854775808≤L) (h1:L≤9223372036854775807) (d0: -9223372036854775808≤j) (d1:j≤9223372036854775807) (a0: -9223372036854775808≤f) (a1:f≤9223372036854775807) (hk:KnW w) (hg:ETok w):
  Calls Tryz.prog 3 #[v,.int .i64 L,.int .i64 j,.int .i64 f,.bool s] w fun r w'=>r=.returned (.bool true)∧Below w.heap.size w w':=by
 have HV:=hid hv;have HK:=hid hk;have HG:=hid hg;obtain⟨q,b,off,cap,ev,hq,hi,hb⟩:=hv;subst ev;clear hq hi hb hk hg;by_cases hr:256<rs.length
 ·have aD:(256:Int)<(rs.length:Int):=by omega
  go_enter Tryz.func3,Tryz.ntmps3
  go_wp2_with fail
  go_ret
  exact⟨rfl,aj _ _⟩
 have aD:¬(256:Int)<(rs.length:Int):=by omega
 have V:=hid (fun W:World=>dQ j 20 W d0 d1 (by decide));have E:=hid (bT j 20 (by decide));have Y:=hid (fun W:World=>dQ f 100 W a0 a1 (by decide));have U:=hid (bT f 100 (by decide));generalize pickV j 20=dq at V E;generalize pickV f 100=y at Y U;obtain⟨dn,rfl⟩:∃u:Nat,dq=u:=⟨dq.toNat,by have:=E.out;omega⟩
 have LL:=hid (lived_lv (.slice q rs.length cap) rs L dn 18 w HV (by omega) h0 h1 (by have:=E.out;omega) (by decide) (by decide) HK);clear d0 d1 a0 a1 h0 h1 hr;go_enter Tryz.func3,Tryz.ntmps3
 go_wp2_with fail
 refine (V.out _).mono ?_;rintro r w' ⟨rfl,rfl⟩;clear V;go_wp2_with fail
 refine LL.mono ?_;rintro r w3 ⟨X,rest⟩;obtain⟨tag,p,rfl,B,hl,aF,ao⟩:∃tag p,r=.returned (.agg (arr11 X))∧WorldT w3 tag X p∧Lv p∧(∀k,k<w.heap.size→tag k=0)∧Below w.heap.size w w3:=by
  first
  |exact rest
  |(obtain⟨e,tag,p,r2⟩:=rest;exact⟨tag,p,e,r2⟩)
 have T:=hid hl;have N:=hid ao;have T7:=hid (aM w3 #[.slice none 0 0,.slice none 0 0,.slice none 0 0,.slice none 0 0,.slice none 0 0,.slice none 0 0,.slice none 0 0,.slice none 0 0,.slice none 0 0,.slice none 0 0,.int .i64 0] 28 w3.heap.size 11 rfl (by decide));have B4:=hid (show Below w3.heap.size w3 (w3.alloc (.cells #[.slice none 0 0,.slice none 0 0,.slice none 0 0,.slice none 0 0,.slice none 0 0,.slice none 0 0,.slice none 0 0,.slice none 0 0,.slice none 0 0,.slice none 0 0,.int .i64 0] 28)) from bal (aj _ _) _);have O7:=hid B.ones;obtain⟨l,o,e0,av⟩:=B.ramAt hl.w;obtain⟨a,e8⟩:∃g,X 8=.slice (some ⟨g,0,none⟩) p.tlbs.length p.tlbs.length:=B.tlbs.form
 have Q:=hid e0;have E8:=hid e8;have aC:=hid B.tlbs;have an:=hid av;clear B hl aF ao LL e0 e8 av E;go_upto_region 4 with ((with_reducible refine gst 28 ?_);refine wpList_store_mid rfl 28 _ _ rfl w3.heap.size 0 (arr11 X) rfl rfl T7 infoW O7 ?_)
 have O:=hid (show Below w3.heap.size w3 ((w3.alloc (.cells #[.slice none 0 0,.slice none 0 0,.slice none 0 0,.slice none 0 0,.slice none 0 0,.slice none 0 0,.slice none 0 0,.slice none 0 0,.slice none 0 0,.slice none 0 0,.int .i64 0] 28)).setCells w3.heap.size 0 [X 0,X 1,X 2,X 3,X 4,X 5,X 6,X 7,X 8,X 9,X 10]) from dZ B4 (au _) [X 0,X 1,X 2,X 3,X 4,X 5,X 6,X 7,X 8,X 9,X 10] 0);have x:=hid (show ((w3.alloc (.cells #[.slice none 0 0,.slice none 0 0,.slice none 0 0,.slice none 0 0,.slice none 0 0,.slice none 0 0,.slice none 0 0,.slice none 0 0,.slice none 0 0,.slice none 0 0,.int .i64 0] 28)).setCells w3.heap.size 0 [X 0,X 1,X 2,X 3,X 4,X 5,X 6,X 7,X 8,X 9,X 10]).rangeAt w3.heap.size 0 (arr11 X).toList from World.rangeAt_setCells_same _ w3.heap.size 0 (arr11 X).toList T7);clear T7 B4 O7;generalize World.setCells _ _ _ _=J at O x ⊢;generalize w3.heap.size=wb at x ⊢;have c0:J.cell? ⟨wb,0,none⟩=some (.slice (some ⟨l,0,none⟩) p.ram.length o):=by rw[af x (k:=0) rfl,Q.out]
 have c8:J.cell? ⟨wb,8,none⟩=some (.slice (some ⟨a,0,none⟩) p.tlbs.length p.tlbs.length):=by rw[af x (k:=8) rfl,E8.out]
 have C0:=hid c0;have C8:=hid c8;clear c0 c8 x;go_wp2_with fail
 refine (Y.out _).mono ?_;rintro r w' ⟨rfl,rfl⟩;obtain⟨aH,aI⟩:=U.out;clear Y U;go_wp2_with fail
 go_loopw [12] (fun i wr=>∃k:Nat,k≤p.tlbs.length∧i=.int .i64 (k:Int)∧Hid (Below J.heap.size J wr)) (fun i _=>p.tlbs.length - (intOf i).toNat)
 case atStart=>exact⟨0,by omega,rfl,hid (aj _ _)⟩
 case round=>
  obtain⟨k,hk,rfl,t⟩:=hrel;have x0:=cu t C0;have x8:=cu t C8;have aP:(p.tlbs.length:Int)≤4:=by have:=T.w.m.tk.lf.tlbs;have:=T.w.m.tk.lf.c2;omega
  by_cases ah:k<p.tlbs.length
  ·have aO:(k:Int)<(p.tlbs.length:Int):=by omega
   have aN:(0:Int)≤(k:Int):=by omega
   have TT:=aC.out;rw[E8.out] at TT;obtain⟨u,hu,ar⟩:=TT.at ah;have ab:=T.w.tl _ (show p.tlbs.getD k []∈p.tlbs by rw[aa,ac ah];exact aw ah);have ai:=(ar.tlb (by have:=ab.n;omega)).1;obtain⟨I,H,kv,ev⟩:∃q n k,u=.slice q n k:=by obtain⟨q,b,off,cap,h,_⟩:=ai;exact⟨_,_,_,h⟩
   subst ev;obtain⟨eA,eK,ln,G⟩:=tlb_same ab 2 y s;have BR:=hid (btr O t);have C:=hid (show Below wr.heap.size wr wr.drew from aA wr 1);have P:=hid (btr BR C);have D:=hid (fun W (h:Below w3.heap.size w3 W)=>Mml.look_any (.slice (some ⟨l,0,none⟩) p.ram.length o) (.slice I H kv) p.ram (p.tlbs.getD k []) 2 y s W (by have:=an.below h;rwa [Q.out] at this) (ai.below h));have c:=hid (fun W (h:Below w3.heap.size w3 W)=>Mml.look_any (.slice (some ⟨l,0,none⟩) p.ram.length o) (.slice none 0 0) p.ram [] 2 y s W (by have:=an.below h;rwa [Q.out] at this) (tlb_nil W));rw[←eA, ←eK] at c;have d:=hid (show (fun W=>W.cell? ⟨wb,0,none⟩=some (.slice (some ⟨l,0,none⟩) p.ram.length o)∧W.cell? ⟨wb,8,none⟩=some (.slice (some ⟨a,0,none⟩) p.tlbs.length p.tlbs.length)∧W.cell? ⟨a,k,none⟩=some (.slice I H kv)) wr.drew from⟨cu C x0,cu C x8,cu P hu⟩);have Z:=hid (fun W (h:Below wr.drew.heap.size wr.drew W)=>show (fun W=>W.cell? ⟨wb,0,none⟩=some (.slice (some ⟨l,0,none⟩) p.ram.length o)∧W.cell? ⟨wb,8,none⟩=some (.slice (some ⟨a,0,none⟩) p.tlbs.length p.tlbs.length)∧W.cell? ⟨a,k,none⟩=some (.slice I H kv)) W from⟨cu h d.1,cu h d.2.1,cu h d.2.2⟩);generalize lookR p.ram (p.tlbs.getD k []) 2 y s=R at D c ln G;generalize (lookR p.ram [] 2 y s).2.1=M at c;obtain⟨A,l2,ek⟩:=R;dsimp only at D c ln G;have az:=hid ln;have aB:=hid G;clear TT hu ar ab ai eA eK ln G;go_upto_region 8 with fail
   refine Rf.wp_region_F (S:=fun W=>W.cell? ⟨wb,0,none⟩=some (.slice (some ⟨l,0,none⟩) p.ram.length o)∧W.cell? ⟨wb,8,none⟩=some (.slice (some ⟨a,0,none⟩) p.tlbs.length p.tlbs.length)∧W.cell? ⟨a,k,none⟩=some (.slice I H kv)) (R:=fun _=>True) [] (by kernel_rfl) d trivial (fun _ _=>?_);generalize wr.drew=x7 at*;refine bH (by kernel_rfl) _ d trivial [0,1,2,3,4,5,6,7,8] 8 _ _ (by kernel_rfl) ?_
   repeat (refine aJ rfl (by rfl) (fun _ _ _ _ h=>h) ?_;apply Exists.intro;refine⟨fun W h=>?_,?_⟩;(focus (obtain⟨h1,h2,h3⟩:=h;go_simp;try rfl));try simp only[jj])
   refine aE ?_;refine Rf.r1 9 rfl (fun K hK=>?_);refine wnt (by rfl) ?_;go_simp
   refine (D.out x7 P).mono ?_;rintro r w8 ⟨u,rfl,hT,z⟩;go_wp2_with fail
   refine hK _ _ (Z.out _ z) (fun _=>trivial) (fun _ _=>?_);clear hK K
   try simp only[jj]
   refine bH (by kernel_rfl) _ (Z.out _ z) trivial [10,11,12,13,14,15,16] 0 _ _ (by kernel_rfl) ?_
   repeat (refine aJ rfl (by rfl) (fun _ _ _ _ h=>h) ?_;apply Exists.intro;refine⟨fun W h=>?_,?_⟩;(focus (clear h;go_simp;try rfl));try simp only[jj])
   refine aE ?_;refine aL (by kernel_rfl) ?_ _;have B8:=hid (btr P z);have al:=hid (btr t (btr C z));have aG:=cu al C0;obtain⟨q2,b2,o2,k2,rfl, -⟩:=hT;clear z Z d D x0 x8;go_wp2_with fail
   refine (c.out w8 B8).mono ?_;rintro r w9 ⟨u2,rfl, -,ae⟩;have B9:=hid (btr B8 ae);have ax:=hid (btr al ae);clear ae c aG;go_wp2_with fail
   refine (tell_k ek w9 (HG.below (btr N B9))).mono ?_;rintro r wA ⟨rfl,ag⟩;have BA:=hid (btr B9 ag);have ay:=hid (btr ax ag);clear ag;go_wp2_with fail
   refine (tell_k ek wA (HG.below (btr N BA))).mono ?_;rintro r wB ⟨rfl,ap⟩;have am:=hid (btr ay ap);clear ap;have aQ:¬(4:Int)<(l2.length:Int):=by have:=az.out;omega
   by_cases F:ek=0
   ·have aR:((l2.length:Int)==0)=false:=beq_eq_false_iff_ne.2 (by have:=aB.out F;omega);subst F;rw[Mml.errV0];go_wp2_with fail
    exact⟨⟨k+1,by omega,by go_num,am⟩,by simp[intOf];omega⟩
   ·rw[Mml.errVk F];clear F;go_wp2_with fail
    exact⟨⟨k+1,by omega,by go_num,am⟩,by simp[intOf];omega⟩
  ·obtain rfl:k=p.tlbs.length:=by omega
   have aK:¬((p.tlbs.length:Int)<(p.tlbs.length:Int)):=by omega
   go_wp2_with fail
   exact aq (v:=.bool true) (by simp[results,Tryz.results3,go_sem]) rfl ⟨rfl,btr (btr N O) t⟩
end Go.Proofs.YtaejnmmpddbbjaaGreatDoor.Wd
namespace Go.Proofs.YtaejnmmpddbbjaaGreatDoor
open Go.ChangeShapes Go.WideShapes Go.RowKit
set_option maxRecDepth 512
set_option maxHeartbeats 200000
theorem own:ownKnob Tryz.prog.godebug=none:=by kernel_rfl
theorem laidOut:laidOutB Tryz.prog=true:=by kernel_rfl
theorem etG:Tryz.prog.globalNamed "errors.errorType"=some 0:=by kernel_rfl
theorem rtT:(Tryz.prog.cutTypes.find? (·.1=="internal/reflectlite.rtype")).map (·.2)=some 150:=by kernel_rfl
theorem oneRow:((List.range 247).filter fun t=>Tryz.prog.rowNamed t [101,114,114,111,114])=[33]:=by kernel_rfl
theorem tSize:Tryz.prog.types.size=247:=by kernel_rfl
theorem handle_of {W:World} (h:handlesMet Tryz.prog [("errors.errorType",Rows.laid_errors_errorType)] W):ETok W:=by
 obtain⟨e,u,f,e1,e2,c,e4,e5⟩:=h _ (List.mem_singleton.2 rfl);have d:e=[101,114,114,111,114]:=(Option.some.inj e1).symm;subst d;obtain rfl:=Option.some.inj (rtT.symm.trans e2);have a:f∈(List.range 247).filter fun t=>Tryz.prog.rowNamed t [101,114,114,111,114]:=List.mem_filter.2 ⟨List.mem_range.2 (by rw[←tSize];exact c),e4⟩;rw[oneRow] at a;obtain rfl:=List.mem_singleton.1 a;have hh:typeHandle Tryz.prog 33=.pointer (some ⟨3,33,none⟩):=by kernel_rfl
 rw[hh] at e5;have b:=World.var?_cell etG e5 0;simp at b;exact b
end Go.Proofs.YtaejnmmpddbbjaaGreatDoor
namespace Go.Proofs.YtaejnmmpddbbjaaGreatDoor.Wd
open Go.ChangeShapes Go.WideShapes Go.RowKit Go.Deep Go.Joins Mem Nums Hex
theorem spot_noneK {P:Program} {W:World} {r:Reach} {base:Nat} {t e:TypeId} {a:Addr} {len cap:Nat} (b:P.underlying t=some (.slice e)) (h:Value.okWide P W r base t (.slice (some a) len cap)):a.spot=none:=by
 simp only[Value.okWide,b,Cell.okWide,Cell.ok] at h;exact h.2.2.2.1
theorem one_intK {P:Program} {w:World} {base:Nat} {spare:Nat→Bool} {held:Bool} {H:Type} {enc:TypeId×Value→H} {u:TypeId} {fuel:Nat} {a:Addr} {cs:List Value} {x:DataW H×List MemPlace} (e:P.underlying u=some (.int .i64))
  (c:w.cells? base a 1=some cs) (h:DataW.trod enc P w base spare held fuel u cs=some x):∃q:Int,w.cell? (a.add 0)=some (.int .i64 q)∧ -9223372036854775808≤q∧q≤9223372036854775807:=by
 obtain⟨_,hl,d⟩:=World.cells?_some c
 match cs,hl with
 |[c0],_=>
  obtain⟨n0,b,_,f⟩:=DataW.trod_int e h;simp at b;subst b;refine⟨n0,d 0 (by omega),?_⟩;simp[Lit.wf,IntKind.min,IntKind.max,IntKind.signed,IntKind.bits] at f;omega
set_option maxRecDepth 100000
theorem open_rawK {H:Type} {enc:TypeId×Value→H} {W:World} {r:Reach} {base:Nat} {v:Value} {d:DataW H} {p:List MemPlace}
  (t:Value.okWide Tryz.prog W r base 22 v) (h:DataW.Trod enc Tryz.prog W 0 (fun _=>true) true 22 v d p):
  ∃zs:List Int,RawIn W v zs∧zs.length≤maxLen:=by
 obtain⟨a0,len,cap,rfl⟩:=okWide_slice Tryz.underlying22 t;obtain⟨fuel,y⟩:=h;rcases open_slice Tryz.underlying22 y with ⟨b,_⟩|⟨a,K,F,m,n,D,C,b,_,hl,I,B,_,x⟩
 ·simp[Value.cells] at b;obtain⟨rfl,rfl,rfl⟩:=b;exact⟨[],⟨none,0,0,0,rfl,fun h=>by simp at h,fun j c=>by simp at c,fun z k=>by simp at k⟩,by simp⟩
 ·simp[Value.cells] at b;obtain⟨rfl,rfl,rfl⟩:=b;have s:=spot_noneK Tryz.underlying22 t;obtain⟨f,g,E⟩:=a;simp at s;subst s;have J:len≤m:=by rw[B];split<;>omega
  obtain⟨q,o⟩:=choose_lt (α:=Int) (n:=len) (p:=fun i q=>W.cell? ⟨f,g+i,none⟩=some (.int .i64 q)∧ -9223372036854775808≤q∧q≤9223372036854775807) (fun i hi=>by
   obtain⟨G,l,w⟩:=x i (by omega);rw[cellsI] at l;obtain⟨q,u,k1⟩:=one_intK Tryz.underlying3 l w;simp only[addr_plain,Nat.mul_one,bz] at u;exact⟨q,u,k1⟩)
  refine⟨(List.range len).map q,⟨some ⟨f,g,none⟩,f,g,cap,by simp,fun _=>rfl,fun j c=>?_,fun z k=>?_⟩,by simp;omega⟩
  ·have A:j<len:=by simpa using c
   have e:((List.range len).map q)[j]=q j:=by simp
   rw[e];exact (o j A).1
  ·obtain⟨j,c,rfl⟩:=List.mem_map.1 k;exact (o j (List.mem_range.1 c)).2
set_option maxRecDepth 512
theorem slice_strs {H:Type} {enc:TypeId×Value→H} {P:Program} {w:World} {base:Nat} {spare:Nat→Bool} {held:Bool} {t e:TypeId} {fuel:Nat} {cs:List Value} {L:List (List UInt8)} {p:List MemPlace} (C:P.underlying t=some (.slice e)) (y:P.underlying e=some .string) (v:P.cellsOf e=1)
  (h:DataW.trod enc P w base spare held fuel t cs=some (.slice (L.map fun l=>.lit (.string l)) [],p)) (F:0<L.length):
  ∃b o c,cs=[.slice (some ⟨b,o,none⟩) L.length c]∧∀k (hk:k<L.length),w.cell? ⟨b,o+k,none⟩=some (.string ⟨L[k].toArray⟩):=by
 rcases open_slice1 C v h with ⟨_,d⟩|⟨a,len,cap,m,n,V,D,E,x,_,hl,_,A,d,i⟩
 ·simp at d
 ·simp only[Prod.mk.injEq,DataW.slice.injEq] at d;have z:len=L.length:=by have:=cX List.length d.1.1;simpa using this.symm
  subst z;have G:L.length≤m:=by rw[A];split<;>omega
  obtain⟨j,q,r⟩:=a;have B:r=none:=by
   have:=(i 0 (by omega)).1;have:=World.cell?_spot this;simpa [Addr.add] using this
  subst B;refine⟨j,q,cap,x,fun k hk=>?_⟩;obtain⟨f,u⟩:=i k (by omega);obtain⟨s,e1,e2,_⟩:=DataW.trod_string y u;have g:=cX (·[k]?) d.1.1;simp only[cR,ac hk,List.getElem?_range hk,Option.map_some,bu] at g;simp only[Prod.mk.injEq] at e2;rw[←g] at e2;simp at e1 e2;rw[e1] at f;have e4:(⟨L[k].toArray⟩:ByteArray)=s:=by rw[e2.1]
  rw[e4, ←addr_plain];exact f
theorem knG:Tryz.prog.globalNamed "keyhold/keyholdref.kindNames"=some 1:=by kernel_rfl
theorem knT:(Tryz.prog.globals[1]?).map (·.type)=some 119:=by kernel_rfl
theorem strC:Tryz.prog.cellsOf 9=1:=by kernel_rfl
theorem kn_of {W:World} {g t:Nat} {cs:Array Value} {fuel:Nat} {p:List MemPlace} (h:Tryz.prog.globalNamed "keyhold/keyholdref.kindNames"=some g) (i:(Tryz.prog.globals[g]?).map (·.type)=some t) (j:W.var? Tryz.prog "keyhold/keyholdref.kindNames"=some cs)
  (a:DataW.trod (fun _=>()) Tryz.prog W 0 (fun _=>true) false fuel t cs.toList=some (Rows.laid_keyhold_keyholdref_kindNames,p)):KnW W:=by
 obtain rfl:=aK (knG.symm.trans h);obtain rfl:=aK (knT.symm.trans i);have e:(Rows.laid_keyhold_keyholdref_kindNames:DataW Unit)=.slice ((knB.map fun x=>x.data.toList).map fun l=>.lit (.string l)) []:=rfl;rw[e] at a;obtain⟨b,o,c,d,f⟩:=slice_strs Tryz.underlying119 Tryz.underlying9 strC a (by decide);refine⟨b,o,c,?_,fun k hk=>?_⟩
 ·rw[World.var?_cell knG j 0];have:=cX (·[0]?) d;rw[show (knB.map fun x=>x.data.toList).length=7 from rfl] at this;simpa using this
 ·have:=f k (by rw[bN];exact hk);rw[this];simp
end Go.Proofs.YtaejnmmpddbbjaaGreatDoor.Wd
namespace Go.Proofs.YtaejnmmpddbbjaaGreatDoor.Wd
open Go.ChangeShapes Go.WideShapes Go.RowKit Go.Deep Go.Joins Mem Nums
section
variable {H : Type} {enc : TypeId × Value → H} {P : Program} {w : World} {base : Nat} {spare : Nat → Bool} {held : Bool}
theorem trodAll_five {g i j k l:TypeId} {e:Array Value} {ds:List (DataW H)} {f:List MemPlace} (h:DataW.TrodAll enc P w base spare held [g,i,j,k,l] e.toList ds f):
  ∃v0 v1 v2 v3 v4 a d1 d2 b c p0 p1 p2 d p4,e=#[v0,v1,v2,v3,v4]∧ds=[a,d1,d2,b,c]∧f=p0++(p1++(p2++(d++p4)))∧DataW.Trod enc P w base spare held g v0 a p0∧DataW.Trod enc P w base spare held i v1 d1 p1∧DataW.Trod enc P w base spare held j v2 d2 p2∧DataW.Trod enc P w base spare held k v3 b d∧DataW.Trod enc P w base spare held l v4 c p4:=by
 obtain⟨v0,D,a,ds0,p0,q0,z,rfl,rfl,m,r⟩:=trodAll_cons h;obtain⟨v1,E,d1,ds1,p1,q1,rfl,rfl,rfl,n,s⟩:=trodAll_cons r;obtain⟨v2,F,d2,v,p2,A,rfl,rfl,rfl,o,t⟩:=trodAll_cons s;obtain⟨v3,G,b,x,d,B,rfl,rfl,rfl,p,u⟩:=trodAll_cons t;obtain⟨v4,I,c,y,p4,C,rfl,rfl,rfl,q,r4⟩:=trodAll_cons u;obtain⟨rfl,rfl,rfl⟩:=trodAll_nil r4;exact⟨v0,v1,v2,v3,v4,a,d1,d2,b,c,p0,p1,p2,d,p4,by cases e;simp_all,rfl,by simp,m,n,o,p,q⟩
theorem trodAll_mk5 {f g h i j:TypeId} {v0 v1 v2 v3 v4:Value} {a d1 d2 b c:DataW H} {p0 p1 p2 d e:List MemPlace} (k:DataW.Trod enc P w base spare held f v0 a p0) (l:DataW.Trod enc P w base spare held g v1 d1 p1) (m:DataW.Trod enc P w base spare held h v2 d2 p2) (n:DataW.Trod enc P w base spare held i v3 b d) (o:DataW.Trod enc P w base spare held j v4 c e):
  DataW.TrodAll enc P w base spare held [f,g,h,i,j] [v0,v1,v2,v3,v4] [a,d1,d2,b,c] (p0++(p1++(p2++(d++e)))):=⟨p0,_,k,trodAll_mk4 l m n o,rfl⟩
end
end Go.Proofs.YtaejnmmpddbbjaaGreatDoor.Wd
