/- Qbm -/
import Derived.Deep.RegionWith
import Derived.Test.YtnccmdndkmmhcaaGreatDoorQbl
set_option maxRecDepth 100000
set_option maxHeartbeats 16000000
namespace Go.Proofs.YtnccmdndkmmhcaaGreatDoor
namespace Wd
open Go.RowKit Mem Bw Nums Mmu
theorem tE {W:World} {g b o a:Nat} {v x:Value} (h:W.cell? ⟨b,a,none⟩=some x) (c:b≠g):(W.setCell ⟨g,o,none⟩ v).cell? ⟨b,a,none⟩=some x:=(aQ W _ _ _ (by intro e;have:=dG Addr.block e;exact c this.symm)).trans h
theorem _root_.Go.Proofs.YtnccmdndkmmhcaaGreatDoor.eM:type_of% @tE:= @tE
theorem lW {W:World} {g o a:Nat} {v x:Value} (h:W.cell? ⟨g,a,none⟩=some x) (b:a≠o):(W.setCell ⟨g,o,none⟩ v).cell? ⟨g,a,none⟩=some x:=(aQ W _ _ _ (by intro e;have:=dG Addr.off e;exact b this.symm)).trans h
structure Eq1 (p q:PW):Prop where
 s:Sm p q
 k:q.kinds=p.kinds
 l:q.IB.length=p.IB.length
theorem Eq1.has {p q:PW} (h:Eq1 p q) {u:Nat} (a:p.k u=6) {k:Nat} {v:Int} (hk:k≠9∧k≠10∧k≠14∧k≠17∧k≠18) (hv:fOk q k v=true):Eq1 p (q.task u k v):=
 ⟨h.s.trans (h.s.w.has (by show q.kinds.getD u 0=6;rw[h.k];exact a) hk hv),h.k,by show (List.set ..).length=_;rw[au];exact h.l⟩
theorem Eq1.or {p q:PW} (h:Eq1 p q) {f:Nat} {k:Int} (hl:f<p.kinds.length) (a:p.k f=k):fA q (f:Int) k=true:=by
 unfold fA;rw[kW (by rw[h.k];exact hl),show q.k f=k by show q.kinds.getD f 0=k;rw[h.k];exact a];simp
theorem sf (wb:Nat) (tag:Nat->Nat) (V:Nat->Value) (p:PW) (t:Nat) (g:Nat->Int) (w:World) (bt:cb w wb tag V p) (S:Lv p) (h6:p.k t=6) (hg:∀k,k<8->0<=g k∧g k<=65535):
  Calls Tryz.prog 239 #[.pointer (some ⟨wb,0,none⟩),.int .i64 (t:Int),.agg (cf 8 g).toArray] w fun r w'=>Okd p wb tag w r w':=by
 have lf:=S.w.m.tk.lf;have HV:=hid (bt.view S.w.fits S.w.I0);have BT:=hid bt;have HP:=hid S;obtain⟨c,kt,e3⟩:∃g cap,V 3=.slice (some ⟨g,0,none⟩) p.IB.length cap:=bt.o.IB.form (by have:=lf.IB;have:=lf.k1;show 0<p.IB.length;omega)
 have E3:=hid e3;have au:=iM (p:=p) (f:=t) (by rw[h6];decide);have bu:(t:Int)<(p.IB.length:Int):=by have:=lf.IB;omega
 have bv:(p.IB.length:Int)<=1000:=by have:=lf.IB;have:=lf.k2;omega
 have J:=hid (show p.IB.length=p.kinds.length from by have:=lf.IB;omega);have B0:=hid (bal (af w.heap.size w) (.cells (cf 8 g).toArray 35));have T0:=hid (hZ w (cf 8 g) 35 _ rfl);have CT:=hid (fun i k (hi:i<p.IB.length) (hk:k<20)=>cu B0 (bt.IH e3 hi hk));have D:=cu B0 (show w.cell? ⟨wb,3,none⟩=some (.slice (some ⟨c,0,none⟩) p.IB.length kt) by rw[<-e3];exact ai bt.r rfl);have td:=CT.out t 11 (by rw[J.out];exact au) oD;have aO:=hid (S.w.m.tk.a.ok t h6 19 oD);have aq:=hid (show c<w.heap.size from aj _ _ (bt.IH e3 (i:=t) (k:=11) (by rw[J.out];exact au) oD));have t1:=ai T0 (dk 8 g 1 oD);have aX:=hid (fun W (h:Below w.heap.size w W)=>fE wb V p (p.t t 11) (g 1) 6 2 W (HV.below h) S.s);have ax:=hid (gE p (p.t t 11) (g 1) 6 2);have aE:=hid (fun h=>kB S.w (n:=p.t t 11) (a:=g 1) (k:=6) (r:=2) oD h);have t2:=ai T0 (dk 8 g 2 oD);have aY:=hid (fun W (h:Below w.heap.size w W)=>fE wb V p (p.t t 11) (g 2) 5 4 W (HV.below h) S.s);have az:=hid (gE p (p.t t 11) (g 2) 5 4);have aF:=hid (fun h=>kB S.w (n:=p.t t 11) (a:=g 2) (k:=5) (r:=4) oD h);have t3:=ai T0 (dk 8 g 3 oD);have aZ:=hid (fun W (h:Below w.heap.size w W)=>fE wb V p (p.t t 11) (g 3) 4 4 W (HV.below h) S.s);have aA:=hid (gE p (p.t t 11) (g 3) 4 4);have aH:=hid (fun h=>kB S.w (n:=p.t t 11) (a:=g 3) (k:=4) (r:=4) oD h);have t4:=ai T0 (dk 8 g 4 oD);have a0:=hid (fun W (h:Below w.heap.size w W)=>fE wb V p (p.t t 11) (g 4) 7 6 W (HV.below h) S.s);have aC:=hid (gE p (p.t t 11) (g 4) 7 6);have aI:=hid (fun h=>kB S.w (n:=p.t t 11) (a:=g 4) (k:=7) (r:=6) oD h);have A:=ai T0 (dk 8 g 5 oD);have y:=CT.out t 19 (by rw[J.out];exact au) oD;have aQ:=hid (hg 5 oD);generalize (kAt p (p.t t 11) (g 1) 6 2).2=am at*;generalize (kAt p (p.t t 11) (g 1) 6 2).1=K1 at*;generalize (kAt p (p.t t 11) (g 2) 5 4).2=an at*;generalize (kAt p (p.t t 11) (g 2) 5 4).1=K2 at*;generalize (kAt p (p.t t 11) (g 3) 4 4).2=ao at*;generalize (kAt p (p.t t 11) (g 3) 4 4).1=K3 at*;generalize (kAt p (p.t t 11) (g 4) 7 6).2=ap at*;generalize (kAt p (p.t t 11) (g 4) 7 6).1=K4 at*;change ((w.alloc (.cells (cf 8 g).toArray 35)).cell? ⟨c,t*20+11,none⟩=some (.int .i64 (p.t t 11))) at td;change ((w.alloc (.cells (cf 8 g).toArray 35)).cell? ⟨c,t*20+19,none⟩=some (.int .i64 (p.t t 19))) at y;generalize p.t t 11=d at*;generalize p.t t 19=ab at*;clear bt S e3 hg lf au h6 HV;go_enter Tryz.func239,Tryz.ntmps239
 go_wp2_with fail
 generalize World.alloc _ _=W0 at*;refine (aX.out _ B0).mono ?_;rintro r w1 ⟨rfl,L⟩;have KX:=zL L K1;have a3:=hid (aD B0.size L.size);clear L;go_upto_region 3 with ((with_reducible refine gst 32 ?_);refine gS rfl _ _ rfl w1.heap.size 0 rfl (cf 6 K1) rfl (ay _ _) (bQ _ _) (aP _ _ _ _ _ oS oD) ?_)
 generalize hW:World.setCells _ _ _ _=W1;obtain⟨e,XX⟩:=KX.out _ _ _ hW oS;clear hW KX;have B1:=hid (btr B0 e);replace D:=cu e D;replace td:=cu e td;replace t1:=cu e t1;replace t2:=cu e t2;replace t3:=cu e t3;replace t4:=cu e t4;replace A:=cu e A;replace y:=cu e y;have j:=ai XX (dk 6 K1 1 oD);have C1:=e;clear XX e;by_cases hE:am=0
 case neg=>
  have av:(am==0)=false:=by simp[hE]
  go_wp2_with fail
  refine ar (v:=.int .i64 (am)) (by simp[results,Tryz.results239,go_sem]) rfl ⟨am,rfl,ax.out,du HP BT B1⟩
 case pos=>
  subst hE;obtain⟨u,aa,M⟩:=aE.out rfl;rw[aa] at j;have ah:=hid M;have U:=hid (iM (p:=p) (f:=u) (by rw[M];decide));clear aa M aE ax;have bz:(u:Int)<(p.IB.length:Int):=by have:=J.out;have:=U.out;omega
  obtain⟨sv,aK⟩:∃z,p.t u 9=z:=⟨_,rfl⟩
  have x9:W0.cell? ⟨c,u*20+9,none⟩=some (.int .i64 sv):=by rw[<-aK];exact CT u 9 (by rw[J.out];exact U) oD
  replace x9:=cu C1 x9;clear C1 aK CT;go_upto_region 5 with fail
  refine bp oK oK ?_
  repeat (first|go_big_quiet_skip|(go_big_quiet_want;go_big_quiet_op;first|go_big_quiet_on|go_big_quiet_call (fail)))
  refine cU ?_;intro _ bh;obtain⟨nq,bk⟩:=bh;subst bk;have x:=hid (aG (af W1.heap.size W1) nq);replace D:=cu x D;replace td:=cu x td;replace t1:=cu x t1;replace t2:=cu x t2;replace t3:=cu x t3;replace t4:=cu x t4;replace A:=cu x A;replace y:=cu x y;replace j:=cu x j;have al:=hid (btr B1 x);clear x9 B1;generalize W1.drewN nq=bs at*;clear x;by_cases aw:sv=0
  case neg=>
   have bg:(sv==0)=false:=by simp[aw]
   go_wp2_with fail
   refine ar (v:=.int .i64 (7)) (by simp[results,Tryz.results239,go_sem]) rfl ⟨7,rfl,oD,du HP BT al⟩
  case pos=>
   have bg:(sv==0)=true:=by simp[aw]
   clear aw;go_wp2_with fail
   refine (aY.out _ al).mono ?_;rintro r w2 ⟨rfl,L⟩;have KX:=zL L K2;have a4:=hid (aD al.size L.size);clear L;go_upto_region 8 with ((with_reducible refine gst 32 ?_);refine gS rfl _ _ rfl w2.heap.size 0 rfl (cf 6 K2) rfl (ay _ _) (bQ _ _) (aP _ _ _ _ _ oS oD) ?_)
   generalize hW:World.setCells _ _ _ _=W2;obtain⟨e,XX⟩:=KX.out _ _ _ hW oS;clear hW KX;have B2:=hid (btr al e);replace D:=cu e D;replace td:=cu e td;replace t1:=cu e t1;replace t2:=cu e t2;replace t3:=cu e t3;replace t4:=cu e t4;replace A:=cu e A;replace y:=cu e y;replace j:=cu e j;have C:=ai XX (dk 6 K2 1 oD);clear XX e;by_cases hE:an=0
   case neg=>
    have av:(an==0)=false:=by simp[hE]
    go_wp2_with fail
    refine ar (v:=.int .i64 (an)) (by simp[results,Tryz.results239,go_sem]) rfl ⟨an,rfl,az.out,du HP BT B2⟩
   case pos=>
    subst hE;obtain⟨Y,aa,M⟩:=aF.out rfl;rw[aa] at C;have aR:=hid M;have aU:=hid (iM (p:=p) (f:=Y) (by rw[M];decide));clear aa M aF az;go_wp2_with fail
    refine (aZ.out _ B2).mono ?_;rintro r w3 ⟨rfl,L⟩;have KX:=zL L K3;have a5:=hid (aD B2.size L.size);clear L;go_upto_region 11 with ((with_reducible refine gst 32 ?_);refine gS rfl _ _ rfl w3.heap.size 0 rfl (cf 6 K3) rfl (ay _ _) (bQ _ _) (aP _ _ _ _ _ oS oD) ?_)
    generalize hW:World.setCells _ _ _ _=W3;obtain⟨e,XX⟩:=KX.out _ _ _ hW oS;clear hW KX;have B3:=hid (btr B2 e);replace D:=cu e D;replace td:=cu e td;replace t1:=cu e t1;replace t2:=cu e t2;replace t3:=cu e t3;replace t4:=cu e t4;replace A:=cu e A;replace y:=cu e y;replace j:=cu e j;replace C:=cu e C;have E:=ai XX (dk 6 K3 1 oD);clear XX e;by_cases hE:ao=0
    case neg=>
     have av:(ao==0)=false:=by simp[hE]
     go_wp2_with fail
     refine ar (v:=.int .i64 (ao)) (by simp[results,Tryz.results239,go_sem]) rfl ⟨ao,rfl,aA.out,du HP BT B3⟩
    case pos=>
     subst hE;obtain⟨Z,aa,M⟩:=aH.out rfl;rw[aa] at E;have aS:=hid M;have aV:=hid (iM (p:=p) (f:=Z) (by rw[M];decide));clear aa M aH aA
     go_upto_if 68 with fail
     go_cut [12] (fun h wx=>∃z:Int,h=.int .i64 z∧Hid (z= -1∨∃zz:Nat,z=zz∧zz<p.kinds.length∧p.k zz=7)∧Hid (Below W3.heap.size W3 wx))
     case first=>
      by_cases h4:g 4=65535
      case pos=>
       have bb:(g 4==65535)=true:=by simp[h4]
       have bf:(g 4 !=65535)=false:=by simp[h4]
       go_wp2_with fail
       go_meet
       exact⟨-1,rfl,hid (.inl rfl),hid (af _ _)⟩
      case neg=>
       have bb:(g 4==65535)=false:=by simp[h4]
       have bf:(g 4 !=65535)=true:=by simp[h4]
       clear h4;go_wp2_with fail
       refine (a0.out _ B3).mono ?_;rintro r w4 ⟨rfl,L⟩;have KX:=zL L K4;have br:=hid (aD B3.size L.size);clear L;go_upto_region 16 with ((with_reducible refine gst 32 ?_);refine gS rfl _ _ rfl w4.heap.size 0 rfl (cf 6 K4) rfl (ay _ _) (bQ _ _) (aP _ _ _ _ _ oS oD) ?_)
       generalize hW:World.setCells _ _ _ _=W4;obtain⟨e,XX⟩:=KX.out _ _ _ hW oS;clear hW KX;have B4:=hid (btr B3 e);replace D:=cu e D;replace td:=cu e td;replace t1:=cu e t1;replace t2:=cu e t2;replace t3:=cu e t3;replace t4:=cu e t4;replace A:=cu e A;replace y:=cu e y;replace j:=cu e j;replace C:=cu e C;replace E:=cu e E;have bo:=ai XX (dk 6 K4 1 oD);have aL:=e;clear XX e;by_cases hE:ap=0
       case neg=>
        have av:(ap==0)=false:=by simp[hE]
        go_wp2_with fail
        refine ar (v:=.int .i64 (ap)) (by simp[results,Tryz.results239,go_sem]) rfl ⟨ap,rfl,aC.out,du HP BT B4⟩
       case pos=>
        subst hE;obtain⟨zz,aa,M⟩:=aI.out rfl;rw[aa] at bo;have aT:=hid M;have aW:=hid (iM (p:=p) (f:=zz) (by rw[M];decide));clear aa M aI aC;go_wp2_with fail
        go_meet
        exact⟨zz,rfl,hid (.inr ⟨zz,rfl,aW.out,aT.out⟩),aL⟩
     case rest=>
      obtain⟨z,hz,HZ,HB⟩:=hcut;subst hz;generalize wc=W4 at*;replace D:=cu HB D;replace A:=cu HB A;replace y:=cu HB y;replace j:=cu HB j;replace C:=cu HB C;replace E:=cu HB E;replace B3:=hid (btr B3 HB);have aN:∃q,Eq1 p q∧cb W4 wb tag V q:=⟨p,⟨Sm.refl HP,rfl,rfl⟩,BT.below B3⟩;obtain⟨q,hq,bq⟩:=aN;have B:=hid hq;have x:=hid bq;have X:=hid (bj (tag:=tag) B3);have N1:=hid (show w1.heap.size≠c by have:=a3.out;have:=aq.out;omega);have N2:=hid (show w2.heap.size≠c by have:=a4.out;have:=aq.out;omega);have N3:=hid (show w3.heap.size≠c by have:=a5.out;have:=aq.out;omega);have N5:=hid (show w.heap.size≠c by have:=aq.out;omega);clear hq bq t1 t2 t3 t4 td;go_upto_region 19 with fail
      have b:=hid (show Below W4.heap.size W4 W4.drew from aB W4 1);have F:=hid (show V 3=.slice (some ⟨c,0,none⟩) q.IB.length kt by rw[B.l];exact E3);have O:=hid (show W4.drew.frozen? ⟨c,u*20+11,none⟩=false from by
       have I:=(x.below b).o.IB;rw[F.out] at I;exact I.frozen (u*20+11))
      have N:=hid ((x.below b).task F (i:=u) (k:=11) (by rw[B.l,J.out];exact U) oD (Y:Int));have y5:=(x.below b).IH F (i:=u) (k:=11) (by rw[B.l,J.out];exact U) oD;have P:=hid (B.has (u:=u) ah (k:=11) (v:=(Y:Int)) oD (by unfold fOk;simpa using B.or aU aR));have G:=hid (show (fun W=>W.cell? ⟨wb,3,none⟩=some (.slice (some ⟨c,0,none⟩) p.IB.length kt)∧W.cell? ⟨w1.heap.size,1,none⟩=some (.int .i64 (u:Int))∧W.cell? ⟨w2.heap.size,1,none⟩=some (.int .i64 (Y:Int))) W4.drew from⟨cu b D,cu b j,cu b C⟩);refine bI (R:=fun W=>W.cell? ⟨wb,3,none⟩=some (.slice (some ⟨c,0,none⟩) p.IB.length kt)∧W.cell? ⟨w1.heap.size,1,none⟩=some (.int .i64 (u:Int))∧W.cell? ⟨w2.heap.size,1,none⟩=some (.int .i64 (Y:Int))) [10] [0,1,2,3,4,5,6,7] 3 oK G oK oK oK (fun _=>?_);replace j:=cu b j;replace C:=cu b C;replace E:=cu b E;replace A:=cu b A;replace y:=cu b y;clear D;generalize W4.drew=a6 at*
      repeat (refine Rf.rs ?_;simp only[jj])
      refine aM ?_;refine bM oK _ G [8,9] 1 _ _ oK ?_
      repeat (refine Rf.rs ?_;simp only[jj])
      refine aM ?_;refine Rf.r1 10 rfl (fun K Q=>?_);have fz:=O.out;go_simp
      refine Q _ _ trivial (bX oK) (fun _ _=>?_);clear Q K fz y5 O G
      try simp only[jj]
      refine bc oK ?_ _;replace j:=eM (g:=c) (o:=u*20+11) (v:=.int .i64 (Y:Int)) j N1;replace C:=eM (g:=c) (o:=u*20+11) (v:=.int .i64 (Y:Int)) C N2;replace E:=eM (g:=c) (o:=u*20+11) (v:=.int .i64 (Y:Int)) E N3;replace A:=eM (g:=c) (o:=u*20+11) (v:=.int .i64 (Y:Int)) A N5;replace y:=lW (o:=u*20+11) (v:=.int .i64 (Y:Int)) y oA;obtain⟨H,T⟩:=N.out;generalize a6.setCell ⟨c,u*20+11,none⟩ (Value.int IntKind.i64 (Y:Int))=ac at*;replace X:=hid ((X.trans (bj b)).trans T);replace x:=hid H;replace B:=P;have D:ac.cell? ⟨wb,3,none⟩=some (.slice (some ⟨c,0,none⟩) p.IB.length kt):=by rw[<-E3.out];exact ai H.r rfl
      clear H T N P F b;generalize q.task u 11 (Y:Int)=q at*;go_upto_region 20 with fail
      have b:=hid (show Below ac.heap.size ac ac.drew from aB ac 1);have F:=hid (show V 3=.slice (some ⟨c,0,none⟩) q.IB.length kt by rw[B.l];exact E3);have O:=hid (show ac.drew.frozen? ⟨c,u*20+12,none⟩=false from by
       have I:=(x.below b).o.IB;rw[F.out] at I;exact I.frozen (u*20+12))
      have N:=hid ((x.below b).task F (i:=u) (k:=12) (by rw[B.l,J.out];exact U) oD (Z:Int));have y5:=(x.below b).IH F (i:=u) (k:=12) (by rw[B.l,J.out];exact U) oD;have P:=hid (B.has (u:=u) ah (k:=12) (v:=(Z:Int)) oD (by unfold fOk;simpa using B.or aV aS));have G:=hid (show (fun W=>W.cell? ⟨wb,3,none⟩=some (.slice (some ⟨c,0,none⟩) p.IB.length kt)∧W.cell? ⟨w1.heap.size,1,none⟩=some (.int .i64 (u:Int))∧W.cell? ⟨w3.heap.size,1,none⟩=some (.int .i64 (Z:Int))) ac.drew from⟨cu b D,cu b j,cu b E⟩);refine bI (R:=fun W=>W.cell? ⟨wb,3,none⟩=some (.slice (some ⟨c,0,none⟩) p.IB.length kt)∧W.cell? ⟨w1.heap.size,1,none⟩=some (.int .i64 (u:Int))∧W.cell? ⟨w3.heap.size,1,none⟩=some (.int .i64 (Z:Int))) [10] [0,1,2,3,4,5,6,7] 3 oK G oK oK oK (fun _=>?_);replace j:=cu b j;replace C:=cu b C;replace E:=cu b E;replace A:=cu b A;replace y:=cu b y;clear D;generalize ac.drew=a7 at*
      repeat (refine Rf.rs ?_;simp only[jj])
      refine aM ?_;refine bM oK _ G [8,9] 1 _ _ oK ?_
      repeat (refine Rf.rs ?_;simp only[jj])
      refine aM ?_;refine Rf.r1 10 rfl (fun K Q=>?_);have fz:=O.out;go_simp
      refine Q _ _ trivial (bX oK) (fun _ _=>?_);clear Q K fz y5 O G
      try simp only[jj]
      refine bc oK ?_ _;replace j:=eM (g:=c) (o:=u*20+12) (v:=.int .i64 (Z:Int)) j N1;replace C:=eM (g:=c) (o:=u*20+12) (v:=.int .i64 (Z:Int)) C N2;replace E:=eM (g:=c) (o:=u*20+12) (v:=.int .i64 (Z:Int)) E N3;replace A:=eM (g:=c) (o:=u*20+12) (v:=.int .i64 (Z:Int)) A N5;replace y:=lW (o:=u*20+12) (v:=.int .i64 (Z:Int)) y oA;obtain⟨H,T⟩:=N.out;generalize a7.setCell ⟨c,u*20+12,none⟩ (Value.int IntKind.i64 (Z:Int))=ad at*;replace X:=hid ((X.trans (bj b)).trans T);replace x:=hid H;replace B:=P;have D:ad.cell? ⟨wb,3,none⟩=some (.slice (some ⟨c,0,none⟩) p.IB.length kt):=by rw[<-E3.out];exact ai H.r rfl
      clear H T N P F b;generalize q.task u 12 (Z:Int)=q at*;go_upto_region 21 with fail
      have b:=hid (show Below ad.heap.size ad ad.drew from aB ad 1);have F:=hid (show V 3=.slice (some ⟨c,0,none⟩) q.IB.length kt by rw[B.l];exact E3);have O:=hid (show ad.drew.frozen? ⟨c,u*20+13,none⟩=false from by
       have I:=(x.below b).o.IB;rw[F.out] at I;exact I.frozen (u*20+13))
      have N:=hid ((x.below b).task F (i:=u) (k:=13) (by rw[B.l,J.out];exact U) oD z);have y5:=(x.below b).IH F (i:=u) (k:=13) (by rw[B.l,J.out];exact U) oD;have P:=hid (B.has (u:=u) ah (k:=13) (v:=z) oD (HZ.elim (fun h=>by subst h;unfold fOk fA;simp) (fun ⟨zz,hz,h1,I⟩=>by subst hz;unfold fOk;simpa using B.or h1 I)));have G:=hid (show (fun W=>W.cell? ⟨wb,3,none⟩=some (.slice (some ⟨c,0,none⟩) p.IB.length kt)∧W.cell? ⟨w1.heap.size,1,none⟩=some (.int .i64 (u:Int))∧W.cell? ⟨wb,3,none⟩=some (.slice (some ⟨c,0,none⟩) p.IB.length kt)) ad.drew from⟨cu b D,cu b j,cu b D⟩);refine bI (R:=fun W=>W.cell? ⟨wb,3,none⟩=some (.slice (some ⟨c,0,none⟩) p.IB.length kt)∧W.cell? ⟨w1.heap.size,1,none⟩=some (.int .i64 (u:Int))∧W.cell? ⟨wb,3,none⟩=some (.slice (some ⟨c,0,none⟩) p.IB.length kt)) [9] [0,1,2,3,4,5,6] 3 oK G oK oK oK (fun _=>?_);replace j:=cu b j;replace C:=cu b C;replace E:=cu b E;replace A:=cu b A;replace y:=cu b y;clear D;generalize ad.drew=a8 at*
      repeat (refine Rf.rs ?_;simp only[jj])
      refine aM ?_;refine bM oK _ G [7,8] 1 _ _ oK ?_
      repeat (refine Rf.rs ?_;simp only[jj])
      refine aM ?_;refine Rf.r1 9 rfl (fun K Q=>?_);have fz:=O.out;go_simp
      refine Q _ _ trivial (bX oK) (fun _ _=>?_);clear Q K fz y5 O G
      try simp only[jj]
      refine bc oK ?_ _;replace j:=eM (g:=c) (o:=u*20+13) (v:=.int .i64 z) j N1;replace C:=eM (g:=c) (o:=u*20+13) (v:=.int .i64 z) C N2;replace E:=eM (g:=c) (o:=u*20+13) (v:=.int .i64 z) E N3;replace A:=eM (g:=c) (o:=u*20+13) (v:=.int .i64 z) A N5;replace y:=lW (o:=u*20+13) (v:=.int .i64 z) y oA;obtain⟨H,T⟩:=N.out;generalize a8.setCell ⟨c,u*20+13,none⟩ (Value.int IntKind.i64 z)=ae at*;replace X:=hid ((X.trans (bj b)).trans T);replace x:=hid H;replace B:=P;have D:ae.cell? ⟨wb,3,none⟩=some (.slice (some ⟨c,0,none⟩) p.IB.length kt):=by rw[<-E3.out];exact ai H.r rfl
      clear H T N P F b;generalize q.task u 13 z=q at*;go_upto_region 22 with fail
      have b:=hid (show Below ae.heap.size ae ae.drew from aB ae 1);have F:=hid (show V 3=.slice (some ⟨c,0,none⟩) q.IB.length kt by rw[B.l];exact E3);have O:=hid (show ae.drew.frozen? ⟨c,u*20+8,none⟩=false from by
       have I:=(x.below b).o.IB;rw[F.out] at I;exact I.frozen (u*20+8))
      have N:=hid ((x.below b).task F (i:=u) (k:=8) (by rw[B.l,J.out];exact U) oD (g 5));have y5:=(x.below b).IH F (i:=u) (k:=8) (by rw[B.l,J.out];exact U) oD;have P:=hid (B.has (u:=u) ah (k:=8) (v:=(g 5)) oD (by unfold fOk wB;simpa using aQ.out));have G:=hid (show (fun W=>W.cell? ⟨wb,3,none⟩=some (.slice (some ⟨c,0,none⟩) p.IB.length kt)∧W.cell? ⟨w1.heap.size,1,none⟩=some (.int .i64 (u:Int))∧W.cell? ⟨w.heap.size,5,none⟩=some (.int .i64 (g 5))) ae.drew from⟨cu b D,cu b j,cu b A⟩);refine bI (R:=fun W=>W.cell? ⟨wb,3,none⟩=some (.slice (some ⟨c,0,none⟩) p.IB.length kt)∧W.cell? ⟨w1.heap.size,1,none⟩=some (.int .i64 (u:Int))∧W.cell? ⟨w.heap.size,5,none⟩=some (.int .i64 (g 5))) [10] [0,1,2,3,4,5,6,7] 3 oK G oK oK oK (fun _=>?_);replace j:=cu b j;replace C:=cu b C;replace E:=cu b E;replace A:=cu b A;replace y:=cu b y;clear D;generalize ae.drew=a9 at*
      repeat (refine Rf.rs ?_;simp only[jj])
      refine aM ?_;refine bM oK _ G [8,9] 1 _ _ oK ?_
      repeat (refine Rf.rs ?_;simp only[jj])
      refine aM ?_;refine Rf.r1 10 rfl (fun K Q=>?_);have fz:=O.out;go_simp
      refine Q _ _ trivial (bX oK) (fun _ _=>?_);clear Q K fz y5 O G
      try simp only[jj]
      refine bc oK ?_ _;replace j:=eM (g:=c) (o:=u*20+8) (v:=.int .i64 (g 5)) j N1;replace C:=eM (g:=c) (o:=u*20+8) (v:=.int .i64 (g 5)) C N2;replace E:=eM (g:=c) (o:=u*20+8) (v:=.int .i64 (g 5)) E N3;replace A:=eM (g:=c) (o:=u*20+8) (v:=.int .i64 (g 5)) A N5;replace y:=lW (o:=u*20+8) (v:=.int .i64 (g 5)) y oA;obtain⟨H,T⟩:=N.out;generalize a9.setCell ⟨c,u*20+8,none⟩ (Value.int IntKind.i64 (g 5))=ag at*;replace X:=hid ((X.trans (bj b)).trans T);replace x:=hid H;replace B:=P;have D:ag.cell? ⟨wb,3,none⟩=some (.slice (some ⟨c,0,none⟩) p.IB.length kt):=by rw[<-E3.out];exact ai H.r rfl
      clear H T N P F b;generalize q.task u 8 (g 5)=q at*;go_upto_region 23 with fail
      have b:=hid (show Below ag.heap.size ag ag.drew from aB ag 1);have F:=hid (show V 3=.slice (some ⟨c,0,none⟩) q.IB.length kt by rw[B.l];exact E3);have O:=hid (show ag.drew.frozen? ⟨c,u*20+19,none⟩=false from by
       have I:=(x.below b).o.IB;rw[F.out] at I;exact I.frozen (u*20+19))
      have N:=hid ((x.below b).task F (i:=u) (k:=19) (by rw[B.l,J.out];exact U) oD ab);have y5:=(x.below b).IH F (i:=u) (k:=19) (by rw[B.l,J.out];exact U) oD;have P:=hid (B.has (u:=u) ah (k:=19) (v:=ab) oD (by have h:=aO.out;unfold fOk at h ⊢;simpa using h));have G:=hid (show (fun W=>W.cell? ⟨wb,3,none⟩=some (.slice (some ⟨c,0,none⟩) p.IB.length kt)∧W.cell? ⟨w1.heap.size,1,none⟩=some (.int .i64 (u:Int))∧W.cell? ⟨c,t*20+19,none⟩=some (.int .i64 ab)) ag.drew from⟨cu b D,cu b j,cu b y⟩);refine bI (R:=fun W=>W.cell? ⟨wb,3,none⟩=some (.slice (some ⟨c,0,none⟩) p.IB.length kt)∧W.cell? ⟨w1.heap.size,1,none⟩=some (.int .i64 (u:Int))∧W.cell? ⟨c,t*20+19,none⟩=some (.int .i64 ab)) [16] [0,1,2,3,4,5,6,7,8,9,10] 6 oK G oK oK oK (fun _=>?_);replace j:=cu b j;replace C:=cu b C;replace E:=cu b E;replace A:=cu b A;replace y:=cu b y;clear D;generalize ag.drew=ba at*
      repeat (refine Rf.rs ?_;simp only[jj])
      refine aM ?_;refine bM oK _ G [11,12] 4 _ _ oK ?_
      repeat (refine Rf.rs ?_;simp only[jj])
      refine aM ?_;refine Rf.js oK _ G [13] 3 _ _ oK ?_
      repeat (refine Rf.rs ?_;simp only[jj])
      refine aM ?_;refine bM oK _ G [14,15] 1 _ _ oK ?_
      repeat (refine Rf.rs ?_;simp only[jj])
      refine aM ?_;refine Rf.r1 16 rfl (fun K Q=>?_);have fz:=O.out;go_simp
      refine Q _ _ trivial (bX oK) (fun _ _=>?_);clear Q K fz y5 O G
      try simp only[jj]
      refine bc oK ?_ _;replace j:=eM (g:=c) (o:=u*20+19) (v:=.int .i64 ab) j N1;replace C:=eM (g:=c) (o:=u*20+19) (v:=.int .i64 ab) C N2;replace E:=eM (g:=c) (o:=u*20+19) (v:=.int .i64 ab) E N3;replace A:=eM (g:=c) (o:=u*20+19) (v:=.int .i64 ab) A N5;clear y;obtain⟨H,T⟩:=N.out;generalize ba.setCell ⟨c,u*20+19,none⟩ (Value.int IntKind.i64 ab)=aJ at*;replace X:=hid ((X.trans (bj b)).trans T);replace x:=hid H;replace B:=P;have D:aJ.cell? ⟨wb,3,none⟩=some (.slice (some ⟨c,0,none⟩) p.IB.length kt):=by rw[<-E3.out];exact ai H.r rfl
      clear H T N P F b;generalize q.task u 19 ab=q at*;have a2:=hid (show Bx p wb tag w aJ from⟨tag,V,q,X.out,x.out,B.s⟩);clear X x B;go_wp2_with fail
      refine ar (v:=.int .i64 (0)) (by simp[results,Tryz.results239,go_sem]) rfl ⟨0,rfl,oD,a2.out⟩
end Wd
namespace IP
theorem tJ (v:Int) (has:Bool) (lo hi:Int):tI v has lo hi=true↔(has=true->lo<=v∧v<=hi)∧(has=false->v=0):=by
 unfold tI
 cases has<;>simp
theorem zZ {o a b i:Int} (h:may o a b i=0):0<=o∧o<=14∧0<=a∧a<=7∧0<=b∧b<=7∧ -32768<=i∧i<=32767:=by
 unfold may at h;split at h
 ·omega
 split at h
 ·rename_i h1 h2;obtain⟨x,y,z⟩:=h2;rw[tJ] at x y z;have A:0<=a∧a<=7:=by cases hh:hA o with
   |true=>exact x.1 hh
   |false=>have:=x.2 hh;omega
  have B:0<=b∧b<=7:=by cases hh:hB o with
   |true=>exact y.1 hh
   |false=>have:=y.2 hh;omega
  have C: -32768<=i∧i<=32767:=by cases hh:hC o with
   |true=>exact z.1 hh
   |false=>have:=z.2 hh;omega
  omega
 ·omega
theorem xB (o a b i:Int):may o a b i=
  if o<0∨14<o then 1
  else if (a<0∨7<a)∨(b<0∨7<b)∨i< -32768∨32767<i∨(hA o=false∧a≠0)∨(hB o=false∧b≠0)∨(hC o=false∧i≠0) then 2 else 0:=by
 unfold may;by_cases h:o<0∨14<o
 ·rw[ag h,ag h]
 rw[ae h,ae h];simp only[tJ]
 cases hA o<;>cases hB o<;>cases hC o<;>simp<;>(split<;>split<;>omega)
def dI (y:Int):Int:=if 32767<y then y - 65536 else y
end IP
namespace Isa
open Go.RowKit Mem
theorem Ck (o:Int) (w:World):
  Calls Tryz.prog 257 #[.int .i64 o] w fun e w'=>e=.returned (.tuple #[.bool (IP.hA o),.bool (IP.hB o),.bool (IP.hC o)])∧w=w':=by
 by_cases h0:o=0
 ·subst h0;go_enter Tryz.func257,Tryz.ntmps257
  go_wp2
  go_ret3
  exact⟨rfl,rfl⟩
 by_cases a:o=1
 ·subst a;go_enter Tryz.func257,Tryz.ntmps257
  go_wp2
  go_ret3
  exact⟨rfl,rfl⟩
 by_cases f:o=13
 ·subst f;go_enter Tryz.func257,Tryz.ntmps257
  go_wp2
  go_ret3
  exact⟨rfl,rfl⟩
 by_cases b:o=10
 ·subst b;go_enter Tryz.func257,Tryz.ntmps257
  go_wp2
  go_ret3
  exact⟨rfl,rfl⟩
 by_cases c:o=11
 ·subst c;go_enter Tryz.func257,Tryz.ntmps257
  go_wp2
  go_ret3
  exact⟨rfl,rfl⟩
 by_cases d:o=12
 ·subst d;go_enter Tryz.func257,Tryz.ntmps257
  go_wp2
  go_ret3
  exact⟨rfl,rfl⟩
 by_cases g:o=14
 ·subst g;go_enter Tryz.func257,Tryz.ntmps257
  go_wp2
  go_ret3
  exact⟨rfl,rfl⟩
 have h:=beq_eq_false_iff_ne.2 h0;have e1:=beq_eq_false_iff_ne.2 a;have k:=beq_eq_false_iff_ne.2 f;have e10:=beq_eq_false_iff_ne.2 b;have i:=beq_eq_false_iff_ne.2 c;have j:=beq_eq_false_iff_ne.2 d;have l:=beq_eq_false_iff_ne.2 g;rw[show IP.hA o=true from by simp[IP.hA];omega,show IP.hB o=true from by simp[IP.hB];omega,show IP.hC o=false from by simp[IP.hC];omega];go_enter Tryz.func257,Tryz.ntmps257
 go_wp2
 go_ret3
 exact⟨rfl,rfl⟩
theorem nT (o a b i:Int) (w:World):
  Calls Tryz.prog 229 #[.agg #[.int .i64 o,.int .i64 a,.int .i64 b,.int .i64 i]] w
   fun e w'=>e=.returned (.int .i64 (IP.may o a b i))∧Below w.heap.size w w':=by
 go_enter Tryz.func229,Tryz.ntmps229
 go_wp2_with (first|(go_at_call 62;refine (fC _ _ _).mono ?_;rintro e w' ⟨rfl,rfl⟩)|(go_at_call 257;refine (Ck _ _).mono ?_;rintro e w' ⟨rfl,rfl⟩))
 all_goals
  go_ret
  refine⟨pG ?_,bal (af _ _) _⟩;rw[IP.xB];simp at*
  (repeat' split)<;>simp_all<;>omega
theorem nJ {W:World} {C:Nat} {a:Array Value} (h:∀o,W.cell? ⟨C,o,none⟩=a[o]?):∀o,W.drew.cell? ⟨C,o,none⟩=a[o]? :=h
theorem vi (x y:Int) (w:World) (d:IP.word x y):
  Calls Tryz.prog 180 #[.agg #[.int .i64 x,.int .i64 y]] w
   fun e w'=>e=.returned (.tuple #[.agg #[.int .i64 (x/256),.int .i64 (x/16%16),.int .i64 (x%16),.int .i64 (IP.dI y)],.bool (IP.may (x/256) (x/16%16) (x%16) (IP.dI y)==0)])∧Below w.heap.size w w':=by
 obtain⟨j,x1,k,l⟩:=d;have d1:decide (x<0∨65535<x)=false:=aw oA;have d2:decide (y<0∨65535<y)=false:=aw oA;by_cases hi:32767<y
 ·rw[show IP.dI y=(y - 65536) from by unfold IP.dI;rw[ag hi]];go_enter Tryz.func180,Tryz.ntmps180
  go_wp2_with fail
  refine (fC _ _ _).mono ?_;rw[d1];rintro e w' ⟨rfl,rfl⟩;go_wp2_with fail
  refine (fC _ _ _).mono ?_;rw[d2];rintro e w' ⟨rfl,rfl⟩;go_wp2_with fail
  go_region_with (go_at_call 229;refine (nT _ _ _ _ _).mono ?_;rintro e w1 ⟨rfl,a⟩;obtain⟨c,f⟩:=rR a;have i:w.heap.size+1+1<w1.heap.size:=(by have:=a.size;simp at this;omega);have h:w.heap.size+1<w1.heap.size:=oA;have g:w.heap.size<w1.heap.size:=oA)
  all_goals
   go_wp2
   have b:=ju (v0:=.int .i64 (x/256)) (v1:=.int .i64 (x/16%16)) (v2:=.int .i64 (x%16)) (v3:=.int .i64 (y - 65536)) (cR (nJ (fh (iq (w.alloc (.cells #[.int .i64 x,.int .i64 y] 158)) zQ 161 (w.heap.size+1) oS) oS _)) (by simp<;>omega) a);refine ar (v:=.tuple #[.agg #[.int .i64 (x/256),.int .i64 (x/16%16),.int .i64 (x%16),.int .i64 (y - 65536)],.bool (IP.may (x/256) (x/16%16) (x%16) (y - 65536)==0)]) (by simp[results,Tryz.results180,go_sem,b]) rfl ⟨rfl,?_⟩;exact im (im (im (im (btr (bal (bal (bal (af _ _) _) _) _).drew a) oS _) oS _) oS _) oS _
 ·rw[show IP.dI y=y from by unfold IP.dI;rw[ae hi]];go_enter Tryz.func180,Tryz.ntmps180
  go_wp2_with fail
  refine (fC _ _ _).mono ?_;rw[d1];rintro e w' ⟨rfl,rfl⟩;go_wp2_with fail
  refine (fC _ _ _).mono ?_;rw[d2];rintro e w' ⟨rfl,rfl⟩;go_wp2_with fail
  go_region_with (go_at_call 229;refine (nT _ _ _ _ _).mono ?_;rintro e w1 ⟨rfl,a⟩;obtain⟨c,f⟩:=rR a;have i:w.heap.size+1+1<w1.heap.size:=(by have:=a.size;simp at this;omega);have h:w.heap.size+1<w1.heap.size:=oA;have g:w.heap.size<w1.heap.size:=oA)
  all_goals
   go_wp2
   have b:=ju (v0:=.int .i64 (x/256)) (v1:=.int .i64 (x/16%16)) (v2:=.int .i64 (x%16)) (v3:=.int .i64 y) (cR (nJ (fh (iq (w.alloc (.cells #[.int .i64 x,.int .i64 y] 158)) zQ 161 (w.heap.size+1) oS) oS _)) (by simp<;>omega) a);refine ar (v:=.tuple #[.agg #[.int .i64 (x/256),.int .i64 (x/16%16),.int .i64 (x%16),.int .i64 y],.bool (IP.may (x/256) (x/16%16) (x%16) y==0)]) (by simp[results,Tryz.results180,go_sem,b]) rfl ⟨rfl,?_⟩;exact im (im (im (im (btr (bal (bal (bal (af _ _) _) _) _).drew a) oS _) oS _) oS _) oS _
theorem EX (x y:Int) (w:World) (c:0<=x∧x<=65535) (d:0<=y∧y<=65535):
  Calls Tryz.prog 180 #[.agg #[.int .i64 x,.int .i64 y]] w fun e w'=>∃(o a b i:Int) (ok:Bool),e=.returned (.tuple #[.agg #[.int .i64 o,.int .i64 a,.int .i64 b,.int .i64 i],.bool ok])∧(ok=true->(0<=o∧o<=14)∧(0<=a∧a<=7)∧(0<=b∧b<=7)∧(-32768<=i∧i<=32767))∧Below w.heap.size w w':=
 (vi x y w ⟨c.1,c.2,d.1,d.2⟩).mono fun e w' ⟨f,g⟩=>⟨_,_,_,_,_,f,fun h=>by
  obtain⟨j,k,a0,a1,b0,b1,i0,i1⟩:=IP.zZ (bu.1 h);exact⟨⟨j,k⟩,⟨a0,a1⟩,⟨b0,b1⟩,i0,i1⟩,g⟩
