/- Qbl -/
import Derived.Test.YtaejnmmpddbbjaaGreatDoorQbk
namespace Go.Proofs.YtaejnmmpddbbjaaGreatDoor.Wd
open Go.RowKit Mem Bw Nums Mmu
theorem kAt_to4 {p:PW} (h:Lw p) {n a k r:Int} (hk:2≤k) (e:(kAt p n a k r).2=0):(∃f:Nat,(kAt p n a k r).1 1=f∧p.k f=k)∧0≤(kAt p n a k r).1 4∧(kAt p n a k r).1 4≤7:=by
 refine⟨kAt_to h hk e,?_⟩;obtain⟨v,l⟩:=h.m.keys;unfold kAt at e ⊢;by_cases b:(sAt p n a).2=0
 ·rw[ag b] at e ⊢;generalize (sAt p n a).1.toNat=i at e ⊢;have d:∀j,j<6→p.slots.getD i nkey j=p.s i j:=fun j u=>by
   show p.slots.getD i nkey j=p.slots.getD i eS j
   rw[aa,aa]
   cases p.slots[i]? with
   |some x=>rfl
   |none=>show nkey j=eS j;unfold nkey eS;rw[ae (by omega)]
  unfold kOf at e ⊢;have g:=d 0 (by decide);have t:=d 4 (by decide);by_cases c0:p.slots.getD i nkey 0=0
  ·rw[ag c0] at e;cases e
  rw[ae c0] at e ⊢;by_cases c1:p.slots.getD i nkey 0=k
  ·rw[ag c1] at e ⊢;split at e
   ·rename_i c2;rw[ag c2];obtain⟨_,_,_,_,o,q⟩:=key_bounds (l.key i (by rw[←g];exact c0)).c (by rw[←g];exact c0);show 0≤p.slots.getD i nkey 4∧p.slots.getD i nkey 4≤7
    rw[t];exact⟨o,q⟩
   ·cases e
  ·rw[ae c1] at e;cases e
 ·rw[ae b] at e;exact absurd e b
set_option maxRecDepth 100000
set_option maxHeartbeats 16000000
theorem entered_ok (wb:Nat) (tag:Nat→Nat) (V:Nat→Value) (p:PW) (d:Int) (g:Nat→Int) (w:World) (bt:BoxT w wb tag V p) (I:Lv p) (hg:∀k,k<8→0≤g k∧g k≤65535):
  Calls Tryz.prog 141 #[.pointer (some ⟨wb,0,none⟩),.int .i64 d,.agg (cf 8 g).toArray] w fun r w'=>Okd p wb tag w r w':=by
 have lf:=I.w.m.tk.lf;have HV:=hid (bt.view I.w.fits I.w.t100);have H:=hid bt;have y:=hid I;obtain⟨x,k0,e0⟩:∃g cap,V 0=.slice (some ⟨g,0,none⟩) p.ram.length cap:=bt.o.ram.form (by have:=lf.ram;have:=lf.k1;show 0<p.ram.length;omega)
 have S:=hid e0;have B0:=hid (bal (aj w.heap.size w) (.cells (cf 8 g).toArray 43));have T0:=hid (range_new w (cf 8 g) 43 _ rfl);obtain⟨a,ha⟩:∃a:Nat,g 3=a:=⟨(g 3).toNat,by have:=(hg 3 (by decide)).1;omega⟩
 have bI:a≤65535:=by have:=(hg 3 (by decide)).2;omega
 have t2:=af T0 (cf_at 8 g 2 (by decide));have KA:=hid (eD wb V p d (g 2) 4 2 _ (HV.below B0) I.s);have ER:=hid (kAt_rng p d (g 2) 4 2);have ET:=hid (fun h=>kAt_to I.w (n:=d) (a:=g 2) (k:=4) (r:=2) (by decide) h);have KB:=hid (fun W (h:Below w.heap.size w W)=>eD wb V p d (g 1) 3 2 W (HV.below h) I.s);have EB:=hid (kAt_rng p d (g 1) 3 2);have TB:=hid (fun h=>kAt_to I.w (n:=d) (a:=g 1) (k:=3) (r:=2) (by decide) h);have KD:=hid (fun W (h:Below w.heap.size w W)=>eD wb V p d (g 1) 2 1 W (HV.below h) I.s);have ED:=hid (kAt_rng p d (g 1) 2 1);have TD:=hid (fun h=>kAt_to4 I.w (n:=d) (a:=g 1) (k:=2) (r:=1) (by decide) h);have S0:=hid (show (w.alloc (.cells (cf 8 g).toArray 43)).heap.size=w.heap.size+1 by simp);clear bt I e0 hg lf;go_enter Tryz.func141,Tryz.ntmps141
 go_wp2_with fail
 generalize World.alloc _ _=w1 at B0 T0 t2 KA S0 ⊢;refine KA.mono ?_;rintro r w2 ⟨rfl,B⟩;have B2:=hid (btr B0 B);have T2:=hid (d9 T0 B);have S2:=hid (show w.heap.size<w2.heap.size by have:=B.size;have:=S0.out;omega);clear B KA B0 T0 t2 S0;generalize (kAt p d (g 1) 3 2).2=F at*;generalize (kAt p d (g 1) 3 2).1=L at*;generalize (kAt p d (g 1) 2 1).2=G at*;generalize (kAt p d (g 1) 2 1).1=M at*;generalize (kAt p d (g 2) 4 2).2=E at*;generalize (kAt p d (g 2) 4 2).1=K at*;have K3:=hid (fun o=>aG (T:=fun _=>False) (w:=w) (b:=w2.heap.size) (.inr (Nat.le_of_lt S2)) (cf 6 K) 0 _ ((dR B2).alloc o));have T3:=hid (fun o=>World.rangeAt_setCells_apart (World.rangeAt_alloc T2 o) w2.heap.size 0 (cf 6 K) (.inl (Nat.ne_of_lt S2)));have X3:=hid (fun z u (hz:6≤z.size)=>World.rangeAt_setCells_same (w2.alloc (.cells z u)) w2.heap.size 0 (cf 6 K) (by rw[ax];exact aM w2 z u _ 6 rfl hz));go_upto_region 2 with ((with_reducible refine gst 78 ?_);refine wp_stK rfl _ _ rfl w2.heap.size 0 rfl (cf 6 K) rfl (ax _ _) (bK _ _) (aM _ _ _ _ _ (by simp) (by decide)) ?_)
 generalize an:World.setCells _ _ _ _=C;have K4:=hid (show Kp (fun _=>False) w C by rw[←an];exact K3 _);have T4:=hid (show C.rangeAt w.heap.size 0 (cf 8 g) by rw[←an];exact T3 _);have X4:=hid (show C.rangeAt w2.heap.size 0 (cf 6 K) by rw[←an];exact X3 _ _ (by simp));clear an K3 T3 X3 T2;by_cases hE:E=0
 case neg=>
  have bE:(E==0)=false:=by simp[hE]
  go_wp2_with fail
  refine aq (v:=.int .i64 (E)) (by simp[results,Tryz.results141,go_sem]) rfl ⟨E,rfl,ER.out,bU y H K4.all⟩
 case pos=>
  subst hE;obtain⟨f,aZ,a2⟩:=ET.out rfl;have az:=hid a2;clear ET ER;have t3:=af T4 (cf_at 8 g 3 (by decide));rw[ha] at t3;by_cases bD:255<a
  ·have bg:(255:Int)<(a:Int):=by omega
   go_wp2_with fail
   refine aq (v:=.int .i64 (2)) (by simp[results,Tryz.results141,go_sem]) rfl ⟨2,rfl,by decide,bU y H K4.all⟩
  ·have bg:¬(255:Int)<(a:Int):=by omega
   have lf:=y.w.m.tk.lf;have bj:=k_in (p:=p) (f:=f) (by rw[az.out];decide);have aP:=hid (H.below K4.all);have aO:∀i,i<p.ram.length→C.cell? ⟨x,i,none⟩=some (.int .i64 (p.ram.getD i 0)):=fun i hi=>by
    obtain⟨q,b,o,k,e,hq,bz⟩:=dm aP.o.ram.1;rw[S.out] at e
    cases e
    have h9:=hq (by omega)
    cases h9
    have h8:=bz i hi;rw[aC] at h8;rw[aa,ac hi];exact h8
   have O:C.cell? ⟨wb,0,none⟩=some (.slice (some ⟨x,0,none⟩) p.ram.length k0):=by rw[←S.out];exact af aP.r rfl
   have y1:C.cell? ⟨w2.heap.size,1,none⟩=some (.int .i64 (f:Int)):=by rw[←aZ];exact af X4 (cf_at 6 K 1 (by decide))
   have t1:=af T4 (cf_at 8 g 1 (by decide));have ad:f*16+a/16<p.ram.length:=by have:=lf.ram;omega
   have bM:(f:Int)≤1000:=by have:=lf.k2;omega
   have bP:(p.ram.length:Int)≤1000:=by have:=lf.ram;have:=lf.k2;omega
   obtain⟨rv,ah⟩:∃z,p.ram.getD (f*16+a/16) 0=z:=⟨_,rfl⟩
   have Q:=aO _ ad;rw[ah] at Q;have bo:0≤rv∧rv≤65535:=by
    rw[←ah,aa,ac ad];exact y.w.m.ram.w _ (aw ad)
   obtain⟨bQ,bS⟩:=bo;obtain⟨j,hj⟩:∃j:Nat,f*16+a/16=j:=⟨_,rfl⟩
   have a6:=hid (show j/16=f by omega);rw[hj] at Q ad ah;have bJ:(j:Int)<(p.ram.length:Int):=by omega
   have bL:(0:Int)≤(j:Int):=by omega
   have bn:(a:Int).tdiv 16=(a:Int)/16:=bR (by omega);have bp:(f:Int)*16+(a:Int)/16=(j:Int):=by omega
   have RC:=hid aO;have HJ:=hid hj;have a5:=hid ad;have aB:=hid ah;clear aO hj ad ah aZ a2 bj lf X4 T4;have KC:=hid (fun W (h:Below C.heap.size C W)=>(⟨cu h t3,cu h O,cu h Q⟩:_∧_∧_));go_wp2_with fail
   refine (KB.out _ K4.all).mono ?_;rintro r l ⟨rfl,B⟩;have B4:=hid B;have K5:=hid (fun o=>aG (T:=fun _=>False) (w:=C) (b:=l.heap.size) (.inr B.size) (cf 6 L) 0 _ ((dR B).alloc o));have X5:=hid (fun z u (hz:6≤z.size)=>World.rangeAt_setCells_same (l.alloc (.cells z u)) l.heap.size 0 (cf 6 L) (by rw[ax];exact aM l z u _ 6 rfl hz));have Y5:=hid (fun z u (hz:6≤z.size)=>World.there_setCells (aM l z u _ 6 rfl hz) l.heap.size 0 (cf 6 L));clear B bp bn O Q y1 t3 KB;go_upto_region 8 with ((with_reducible refine gst 78 ?_);refine wp_stK rfl _ _ rfl l.heap.size 0 rfl (cf 6 L) rfl (ax _ _) (bK _ _) (aM _ _ _ _ _ (by simp) (by decide)) ?_)
   generalize ao:World.setCells _ _ _ _=N;have B5:=hid (show Below C.heap.size C N by rw[←ao];exact (K5.out _).all);have X6:=hid (show N.rangeAt l.heap.size 0 (cf 6 L) by rw[←ao];exact X5 _ _ (by simp));have Y6:=hid (show N.there l.heap.size 0 6 by rw[←ao];exact Y5 _ _ (by simp));clear ao K5 X5 Y5;obtain⟨t3,O,Q⟩:=KC.out _ B5;have bA:=cu B5 t1;have am:=hid (btr K4.all B5);by_cases hF:F=0
   ·subst hF;obtain⟨t,ai,aN⟩:=TB.out rfl;have x1:N.cell? ⟨l.heap.size,1,none⟩=some (.int .i64 (t:Int)):=by rw[←ai];exact af X6 (cf_at 6 L 1 (by decide))
    have ap:=k_in (p:=p) (f:=t) (by rw[aN];decide);have bT:(t:Int)≤24:=by have:=y.w.m.tk.lf.k2;omega
    have HT:=hid (show t<p.kinds.length∧p.k t=3 from⟨ap,aN⟩);clear ai aN ap KD TD ED TB;by_cases J:rv=0
    ·have a9:=hid J;have aK:(rv==0)=true:=by simp[J]
     clear J;go_upto_region 11 with fail
     have D:=hid (show Below N.heap.size N N.drew from aA N 1);have B9:=hid (btr am D);have U:=hid (show N.drew.frozen? ⟨x,j,none⟩=false from by
      have A:=(H.below B9).o.ram;rw[S.out] at A;exact A.frozen j)
     have X:=hid ((H.below B9).ramCell S j (32768+(t:Int)));have y5:=cu D Q;refine aX (R:=fun W=>W.cell? ⟨wb,0,none⟩=some (.slice (some ⟨x,0,none⟩) p.ram.length k0)∧W.cell? ⟨l.heap.size,1,none⟩=some (.int .i64 (t:Int))) [9] [0,1,2,3,4,5,6,7,8] 1 (by kernel_rfl) ⟨cu D O,cu D x1⟩ (by kernel_rfl) (by kernel_rfl) (by kernel_rfl) (fun _=>?_);generalize N.drew=W6 at*
     repeat (refine aJ rfl (by rfl) (fun _ _ _ _ h=>h) ?_;apply Exists.intro;refine⟨fun W h=>?_,?_⟩;(focus (obtain⟨h1,A⟩:=h;go_simp;try rfl));simp only[jj])
     refine aE ?_;refine Rf.r1 9 rfl (fun K Z=>?_);have fz:=U.out;go_simp
     refine Z _ _ trivial (bF (by kernel_rfl)) (fun _ _=>?_);clear Z K fz y5 U
     try simp only[jj]
     refine aL (by kernel_rfl) ?_ _
     try rw[show IntKind.i64.wrap (32768+(t:Int))=32768+(t:Int) from cw _ (by omega) (by omega)]
     obtain⟨P,ab⟩:=X.out;generalize W6.setCell ⟨x,j,none⟩ (Value.int IntKind.i64 (32768+(t:Int)))=W7 at*;have ae:=hid (show Bx p wb tag w W7 from⟨tag,V,_,(aW B9).trans ab,P,y.word a5 (by omega) (beB_iff.2 ⟨fun _=>.inr (by rw[show 32768+(t:Int) - 32768=t by omega,isB_k HT.1,HT.2];rfl),fun h=>by rw[a6.out,az.out] at h;cases h⟩) (fun _=>by rw[aB.out,a9.out])⟩);clear P ab X;go_wp2_with fail
     refine aq (v:=.int .i64 (0)) (by simp[results,Tryz.results141,go_sem]) rfl ⟨0,rfl,by decide,ae.out⟩
    ·have aK:(rv==0)=false:=by simp[J]
     clear J;go_wp2_with fail
     refine aq (v:=.int .i64 (12)) (by simp[results,Tryz.results141,go_sem]) rfl ⟨12,rfl,by decide,bU y H am⟩
   ·have bG:(F==0)=false:=by simp[hF]
    have bf:=X6;go_wp2_with fail
    refine (KD.out _ am).mono ?_;rintro r w6 ⟨rfl,B⟩;have B6:=hid (btr B5 B);have Y7:=hid (dN (T:=fun _=>False) Y6 (.of_below B) id);have K7:=hid (aG (T:=fun _=>False) (w:=C) (b:=l.heap.size) (.inr B4.size) (cf 6 M) 0 _ (dR B6));have X7:=hid (World.rangeAt_setCells_same w6 l.heap.size 0 (cf 6 M) (by rw[ax];exact Y7));clear B t3 O Q t1 bA KD TB EB X6 bf Y6 B6;go_upto_region 14 with ((with_reducible refine gst 78 ?_);refine wp_stK rfl _ _ rfl l.heap.size 0 rfl (cf 6 M) rfl (ax _ _) (bK _ _) Y7 ?_)
    generalize World.setCells w6 _ _ _=W7 at K7 X7 ⊢;clear Y7 B5 am;have B7:=hid K7.all;have ay:=hid (btr K4.all B7);clear K7;obtain⟨t3,O,Q⟩:=KC.out _ B7;by_cases hG:G=0
    case neg=>
     have bH:(G==0)=false:=by simp[hG]
     go_wp2_with fail
     refine aq (v:=.int .i64 (G)) (by simp[results,Tryz.results141,go_sem]) rfl ⟨G,rfl,ED.out,bU y H ay⟩
    case pos=>
     subst hG;obtain⟨⟨c,a0,aD⟩,au,bV⟩:=TD.out rfl;have aY:=k_in (p:=p) (f:=c) (by rw[aD];decide);have bC:(c:Int)≤24:=by have:=y.w.m.tk.lf.k2;omega
     have x1:W7.cell? ⟨l.heap.size,1,none⟩=some (.int .i64 (c:Int)):=by rw[←a0];exact af X7 (cf_at 6 M 1 (by decide))
     have x4:=af X7 (cf_at 6 M 4 (by decide));generalize M 4=rr at*;have aR:=hid (show c<p.kinds.length∧p.k c=2 from⟨aY,aD⟩);clear a0 aD aY TD ED X7;by_cases J:rv=0
     ·have aK:(rv==0)=true:=by simp[J]
      clear J;go_wp2_with fail
      refine aq (v:=.int .i64 (9)) (by simp[results,Tryz.results141,go_sem]) rfl ⟨9,rfl,by decide,bU y H ay⟩
     ·have aK:(rv==0)=false:=by simp[J]
      obtain⟨t,ai,a3⟩:=ent_tab y.w (f:=f) (j:=a/16) az (by omega) (by rw[HJ.out,aB.out];exact J);rw[HJ.out,aB.out] at ai;have ap:=k_in (p:=p) (f:=t) (by rw[a3];decide);have lf:=y.w.m.tk.lf;obtain⟨m,hm⟩:∃m:Nat,t*16+a%16=m:=⟨_,rfl⟩
      have aF:m<p.ram.length:=by have:=lf.ram;omega
      have aS:=hid (show m/16=t∧p.k t=3 by omega);have bq:rv%1024*16+(a:Int)%16=(m:Int):=by have:=lf.k2;omega
      have bN:(m:Int)<(p.ram.length:Int):=by omega
      have bO:(0:Int)≤(m:Int):=by omega
      obtain⟨pv,aH⟩:∃z,p.ram.getD m 0=z:=⟨_,rfl⟩
      have y3:=cu B7 (RC.out m aF);rw[aH] at y3;have aT:=hid aF;have a8:=hid aH;clear ai a3 ap lf hm aF aH J;go_upto_region 18 with fail
      refine bh (by kernel_rfl) (by kernel_rfl) ?_
      repeat (first|go_big_quiet_skip|(go_big_quiet_want;go_big_quiet_op;first|go_big_quiet_on|go_big_quiet_call (fail)))
      refine cG ?_;intro _ br;obtain⟨nq,bs⟩:=br;subst bs;have B8:=hid (bc (aj W7.heap.size W7) nq);have z0:=cu B8 O;have z3:=cu B8 y3;have z1:=cu B8 x1;have z4:=cu B8 x4;clear O y3 Q t3 x1 x4 bq;generalize W7.drewN nq=W8 at*;have aQ:=hid (btr ay B8);by_cases ag:pv=0
      case neg=>
       have bk:(pv==0)=false:=by simp[ag]
       clear ag;go_wp2_with fail
       refine aq (v:=.int .i64 (12)) (by simp[results,Tryz.results141,go_sem]) rfl ⟨12,rfl,by decide,bU y H aQ⟩
      case pos=>
       have a7:=hid ag;have bk:(pv==0)=true:=by simp[ag]
       clear ag;have aV:=hid (fun (v:Int) (h1:0≤v∧v≤65535) (A:isB p (v - 32768) 2=true∨isB p (v - 32768 - 16384) 2=true)=>y.word (i:=m) (v:=v) aT h1 (beB_iff.2 ⟨fun h=>(by rw[aS.1,aS.2] at h;cases h),fun _=>.inr A⟩) (fun _=>by rw[a8.out,a7.out]));have aU:=hid (show isB p (c:Int) 2=true by rw[isB_k aR.1,aR.2];rfl);go_upto_region 21 with fail
       have D:=hid (show Below W8.heap.size W8 W8.drew from aA W8 1);have B9:=hid (btr aQ D);have U:=hid (show W8.drew.frozen? ⟨x,m,none⟩=false from by
        have A:=(H.below B9).o.ram;rw[S.out] at A;exact A.frozen m)
       have X:=hid ((H.below B9).ramCell S m (32768+(c:Int)));have y5:=cu D z3;have a4:=cu D z4;have bB:=cu D z0;have CN:=hid (cZ (w:=W8.drew) ⟨x,m,none⟩ (.int .i64 (32768+(c:Int))) y5);refine aX (R:=fun W=>W.cell? ⟨wb,0,none⟩=some (.slice (some ⟨x,0,none⟩) p.ram.length k0)∧W.cell? ⟨l.heap.size,1,none⟩=some (.int .i64 (c:Int))) [9] [0,1,2,3,4,5,6,7,8] 1 (by kernel_rfl) ⟨cu D z0,cu D z1⟩ (by kernel_rfl) (by kernel_rfl) (by kernel_rfl) (fun _=>?_);generalize W8.drew=W9 at*
       repeat (refine aJ rfl (by rfl) (fun _ _ _ _ h=>h) ?_;apply Exists.intro;refine⟨fun W h=>?_,?_⟩;(focus (obtain⟨h1,A⟩:=h;go_simp;try rfl));simp only[jj])
       refine aE ?_;refine Rf.r1 9 rfl (fun K Z=>?_);have fz:=U.out;go_simp
       refine Z _ _ trivial (bF (by kernel_rfl)) (fun _ _=>?_);clear Z K fz y5 U
       try simp only[jj]
       refine aL (by kernel_rfl) ?_ _
       try rw[show IntKind.i64.wrap (32768+(c:Int))=32768+(c:Int) from cw _ (by omega) (by omega)]
       obtain⟨P,ab⟩:=X.out;have KX:=hid (show W9.cell? ⟨l.heap.size,4,none⟩=some (.int .i64 rr)→(W9.setCell ⟨x,m,none⟩ (Value.int IntKind.i64 (32768+(c:Int)))).cell? ⟨l.heap.size,4,none⟩=some (.int .i64 rr) from fun h=>(aI W9 _ _ _ (by intro e;have:=cX Addr.block e;simp only at this;have h1:=(al _ _ (RC.out m aT));simp only at h1;have A:=B4.size;omega)).trans h);have bW:=KX.out a4;clear KX;generalize W9.setCell ⟨x,m,none⟩ (Value.int IntKind.i64 (32768+(c:Int)))=Y at*;have KT:=hid ((aW (tag:=tag) B9).trans ab);have av:=hid P;have O:Y.cell? ⟨wb,0,none⟩=some (.slice (some ⟨x,0,none⟩) p.ram.length k0):=by rw[←S.out];exact af P.r rfl
       have cn:=CN.out;clear P ab X z0 bB z1 z3 z4 a4 CN;by_cases hw:(rr.tdiv 2).tmod 2=1
       case neg=>
        have ae:=hid (show Bx p wb tag w Y from⟨tag,V,_,KT.out,av.out,aV.out _ (by omega) (.inl (by rw[show 32768+(c:Int) - 32768=c by omega];exact aU))⟩);have bu:((rr.tdiv 2).tmod 2==1)=false:=by simp[hw]
        have bv:¬rr/2%2=1:=by rw[←bR au, ←cH (by rw[bR au];omega)];exact hw
        clear hw;go_wp2_with fail
        refine aq (v:=.int .i64 (0)) (by simp[results,Tryz.results141,go_sem]) rfl ⟨0,rfl,by decide,ae.out⟩
       case pos=>
        have bv:rr/2%2=1:=by rw[←bR au, ←cH (by rw[bR au];omega)];exact hw
        have bu:((rr.tdiv 2).tmod 2==1)=true:=by simp[hw]
        clear hw;go_upto_region 23 with fail
        have BE:=hid (show Below Y.heap.size Y Y.drew from aA Y 1);have E9:=hid (show V 0=.slice (some ⟨x,0,none⟩) (p.ram.set m (32768+(c:Int))).length k0 by rw[ar];exact S);have U:=hid (show Y.drew.frozen? ⟨x,m,none⟩=false from by
         have A:=(av.below BE).o.ram;rw[E9.out] at A;exact A.frozen m)
        have X:=hid ((av.below BE).ramCell E9 m (32768+(c:Int)+16384));have y5:=cu BE cn;refine aX (R:=fun W=>W.cell? ⟨wb,0,none⟩=some (.slice (some ⟨x,0,none⟩) p.ram.length k0)∧W.cell? ⟨x,m,none⟩=some (.int .i64 (32768+(c:Int)))) [14] [0,1,2,3,4,5,6,7,8,9,10,11,12,13] 1 (by kernel_rfl) ⟨cu BE O,y5⟩ (by kernel_rfl) (by kernel_rfl) (by kernel_rfl) (fun _=>?_);generalize Y.drew=ba at*
        repeat (refine aJ rfl (by rfl) (fun _ _ _ _ h=>h) ?_;apply Exists.intro;refine⟨fun W h=>?_,?_⟩;(focus (obtain⟨h1,A⟩:=h;go_simp;try rfl));simp only[jj])
        refine aE ?_;refine Rf.r1 14 rfl (fun K Z=>?_);have fz:=U.out;go_simp
        refine Z _ _ trivial (bF (by kernel_rfl)) (fun _ _=>?_);clear Z K fz y5 U
        try simp only[jj]
        refine aL (by kernel_rfl) ?_ _
        try rw[show IntKind.i64.wrap (32768+(c:Int)+16384)=32768+(c:Int)+16384 from cw _ (by omega) (by omega)]
        obtain⟨P,ab⟩:=X.out;generalize ba.setCell ⟨x,m,none⟩ (Value.int IntKind.i64 (32768+(c:Int)+16384))=bb at*;have ae:=hid (show Bx p wb tag w bb from⟨tag,V,{p with ram:=p.ram.set m (32768+(c:Int)+16384)},(KT.trans (aW BE)).trans ab,by have h:=P;simp only[eo] at h;exact h,aV.out _ (by omega) (.inr (by rw[show 32768+(c:Int)+16384 - 32768 - 16384=c by omega];exact aU))⟩);clear P ab X;go_wp2_with fail
        refine aq (v:=.int .i64 (0)) (by simp[results,Tryz.results141,go_sem]) rfl ⟨0,rfl,by decide,ae.out⟩
end Go.Proofs.YtaejnmmpddbbjaaGreatDoor.Wd
