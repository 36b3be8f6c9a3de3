/- Qbn -/
import Derived.Test.YtaejnmmpddbbjaaGreatDoorQbm
set_option maxRecDepth 100000
set_option maxHeartbeats 16000000
namespace Go.Proofs.YtaejnmmpddbbjaaGreatDoor
namespace Wd
open Go.RowKit Mem Bw Nums Mmu
theorem t7 {p:PW} (h:Lw p) {n a k r:Int} (hk:2<=k) (e:(kAt p n a k r).2=0):(∃f:Nat,(kAt p n a k r).1 1=f∧p.k f=k)∧0<=(kAt p n a k r).1 4∧(kAt p n a k r).1 4<=7:=by
 refine⟨ju h hk e,?_⟩;obtain⟨v,l⟩:=h.m.keys;unfold kAt at e ⊢;by_cases b:(sAt p n a).2=0
 ·rw[af b] at e ⊢;generalize (sAt p n a).1.toNat=i at e ⊢;have d:∀j,j<6->p.DZ.getD i eE j=p.s i j:=fun j u=>by
   show p.DZ.getD i eE j=p.DZ.getD i eS j
   rw[aa,aa]
   cases p.DZ[i]? with
   |some x=>rfl
   |none=>show eE j=eS j;unfold eE eS;rw[ae oA]
  unfold kOf at e ⊢;have g:=d 0 oD;have t:=d 4 oD;by_cases c0:p.DZ.getD i eE 0=0
  ·rw[af c0] at e;cases e
  rw[ae c0] at e ⊢;by_cases c1:p.DZ.getD i eE 0=k
  ·rw[af c1] at e ⊢;split at e
   ·rename_i c2;rw[af c2];obtain⟨_,_,_,_,o,q⟩:=mw (l.key i (by rw[<-g];exact c0)).c (by rw[<-g];exact c0);show 0<=p.DZ.getD i eE 4∧p.DZ.getD i eE 4<=7
    rw[t];exact⟨o,q⟩
   ·cases e
  ·rw[ae c1] at e;cases e
 ·rw[ae b] at e;exact absurd e b
theorem sn (wb:Nat) (tag:Nat->Nat) (V:Nat->Value) (p:PW) (d:Int) (g:Nat->Int) (w:World) (bt:cb w wb tag V p) (J:Lv p) (hg:∀k,k<8->0<=g k∧g k<=65535):
  Calls Tryz.prog 141 #[.pointer (some ⟨wb,0,none⟩),.int .i64 d,.agg (cf 8 g).toArray] w fun r w'=>Okd p wb tag w r w':=by
 have lf:=J.w.m.tk.lf;have HV:=hid (bt.view J.w.fits J.w.Es);have C:=hid bt;have y:=hid J;obtain⟨x,k0,e0⟩:∃g cap,V 0=.slice (some ⟨g,0,none⟩) p.Eb.length cap:=bt.o.Eb.form (by have:=lf.Eb;have:=lf.k1;show 0<p.Eb.length;omega)
 have P:=hid e0;have B0:=hid (bal (ai w.heap.size w) (.cells (cf 8 g).toArray 43));have T0:=hid (gK w (cf 8 g) 43 _ rfl);obtain⟨a,ha⟩:∃a:Nat,g 3=a:=⟨(g 3).toNat,by have:=(hg 3 oD).1;omega⟩
 have bE:a<=65535:=by have:=(hg 3 oD).2;omega
 have t2:=ah T0 (dp 8 g 2 oD);have KA:=hid (eM wb V p d (g 2) 4 2 _ (HV.below B0) J.s);have ER:=hid (fW p d (g 2) 4 2);have ET:=hid (fun h=>ju J.w (n:=d) (a:=g 2) (k:=4) (r:=2) oD h);have KB:=hid (fun W (h:Below w.heap.size w W)=>eM wb V p d (g 1) 3 2 W (HV.below h) J.s);have EB:=hid (fW p d (g 1) 3 2);have TB:=hid (fun h=>ju J.w (n:=d) (a:=g 1) (k:=3) (r:=2) oD h);have KD:=hid (fun W (h:Below w.heap.size w W)=>eM wb V p d (g 1) 2 1 W (HV.below h) J.s);have ED:=hid (fW p d (g 1) 2 1);have TD:=hid (fun h=>t7 J.w (n:=d) (a:=g 1) (k:=2) (r:=1) oD h);have S0:=hid (show (w.alloc (.cells (cf 8 g).toArray 43)).heap.size=w.heap.size+1 by simp);go_enter Tryz.func141,Tryz.ntmps141
 go_wp2_with fail
 generalize World.alloc _ _=w1 at B0 T0 t2 KA S0 ⊢;refine KA.mono ?_;rintro r w2 ⟨rfl,H⟩;have B2:=hid (btr B0 H);have T2:=hid (dV T0 H);have S2:=hid (show w.heap.size<w2.heap.size by have:=H.size;have:=S0.out;omega);generalize (kAt p d (g 1) 3 2).2=F at*;generalize (kAt p d (g 1) 3 2).1=L at*;generalize (kAt p d (g 1) 2 1).2=G at*;generalize (kAt p d (g 1) 2 1).1=M at*;generalize (kAt p d (g 2) 4 2).2=E at*;generalize (kAt p d (g 2) 4 2).1=K at*;have K3:=hid (fun o=>aI (T:=fun _=>False) (w:=w) (b:=w2.heap.size) (.inr (Nat.le_of_lt S2)) (cf 6 K) 0 _ ((Kp.Ed B2).alloc o));have T3:=hid (fun o=>World.rangeAt_setCells_apart (World.rangeAt_alloc T2 o) w2.heap.size 0 (cf 6 K) (.inl (Nat.ne_of_lt S2)));have X3:=hid (fun z u (hz:6<=z.size)=>World.rangeAt_setCells_same (w2.alloc (.cells z u)) w2.heap.size 0 (cf 6 K) (by rw[aA];exact aY w2 z u _ 6 rfl hz));go_upto_region 2 with ((with_reducible refine gst 78 ?_);refine gv rfl _ _ rfl w2.heap.size 0 rfl (cf 6 K) rfl (aA _ _) (bR _ _) (aY _ _ _ _ _ oS oD) ?_)
 generalize aB:World.setCells _ _ _ _=A;have K4:=hid (show Kp (fun _=>False) w A by rw[<-aB];exact K3 _);have T4:=hid (show A.rangeAt w.heap.size 0 (cf 8 g) by rw[<-aB];exact T3 _);have X4:=hid (show A.rangeAt w2.heap.size 0 (cf 6 K) by rw[<-aB];exact X3 _ _ oS);by_cases hE:E=0
 case neg=>
  have bB:(E==0)=false:=by simp[hE]
  go_wp2_with fail
  refine aq (v:=.int .i64 (E)) (by simp[results,Tryz.results141,go_sem]) rfl ⟨E,rfl,ER.out,cK y C K4.all⟩
 case pos=>
  subst hE;obtain⟨f,bc,bg⟩:=ET.out rfl;have ax:=hid bg;have t3:=ah T4 (dp 8 g 3 oD);rw[ha] at t3;by_cases bA:255<a
  ·have bb:(255:Int)<(a:Int):=oA;go_wp2_with fail
   refine aq (v:=.int .i64 (2)) (by simp[results,Tryz.results141,go_sem]) rfl ⟨2,rfl,oD,cK y C K4.all⟩
  ·have bb:¬(255:Int)<(a:Int):=oA;have lf:=y.w.m.tk.lf;have bI:=hZ (p:=p) (f:=f) (by rw[ax.out];decide);have aM:=hid (C.below K4.all);have a2:∀i,i<p.Eb.length->A.cell? ⟨x,i,none⟩=some (.int .i64 (p.Eb.getD i 0)):=fun i hi=>by
    obtain⟨q,b,o,k,e,hq,bs⟩:=de aM.o.Eb.1;rw[P.out] at e
    cases e
    have h9:=hq oA
    cases h9
    have h8:=bs i hi;rw[az] at h8;rw[aa,ac hi];exact h8
   have O:A.cell? ⟨wb,0,none⟩=some (.slice (some ⟨x,0,none⟩) p.Eb.length k0):=by rw[<-P.out];exact ah aM.r rfl
   have y1:A.cell? ⟨w2.heap.size,1,none⟩=some (.int .i64 (f:Int)):=by rw[<-bc];exact ah X4 (dp 6 K 1 oD)
   have t1:=ah T4 (dp 8 g 1 oD);have af:f*16+a/16<p.Eb.length:=by have:=lf.Eb;omega
   have bH:(f:Int)<=1000:=by have:=lf.k2;omega
   have bO:(p.Eb.length:Int)<=1000:=by have:=lf.Eb;have:=lf.k2;omega
   obtain⟨rv,an⟩:∃z,p.Eb.getD (f*16+a/16) 0=z:=⟨_,rfl⟩
   have S:=a2 _ af;rw[an] at S;have bk:0<=rv∧rv<=65535:=by
    rw[<-an,aa,ac af];exact y.w.m.Eb.w _ (aw af)
   obtain⟨bP,bQ⟩:=bk;obtain⟨j,hj⟩:∃j:Nat,f*16+a/16=j:=⟨_,rfl⟩
   have a4:=hid (show j/16=f by omega);rw[hj] at S af an;have bF:(j:Int)<(p.Eb.length:Int):=oA;have bG:(0:Int)<=(j:Int):=oA;have bM:(a:Int).tdiv 16=(a:Int)/16:=bN oA;have bS:(f:Int)*16+(a:Int)/16=(j:Int):=oA;have RC:=hid a2;have HJ:=hid hj;have a3:=hid af;have ay:=hid an;have KC:=hid (fun W (h:Below A.heap.size A W)=>(⟨cu h t3,cu h O,cu h S⟩:_∧_∧_));go_wp2_with fail
   refine (KB.out _ K4.all).mono ?_;rintro r l ⟨rfl,H⟩;have B4:=hid H;have K5:=hid (fun o=>aI (T:=fun _=>False) (w:=A) (b:=l.heap.size) (.inr H.size) (cf 6 L) 0 _ ((Kp.Ed H).alloc o));have X5:=hid (fun z u (hz:6<=z.size)=>World.rangeAt_setCells_same (l.alloc (.cells z u)) l.heap.size 0 (cf 6 L) (by rw[aA];exact aY l z u _ 6 rfl hz));have Y5:=hid (fun z u (hz:6<=z.size)=>World.there_setCells (aY l z u _ 6 rfl hz) l.heap.size 0 (cf 6 L));go_upto_region 8 with ((with_reducible refine gst 78 ?_);refine gv rfl _ _ rfl l.heap.size 0 rfl (cf 6 L) rfl (aA _ _) (bR _ _) (aY _ _ _ _ _ oS oD) ?_)
   generalize aD:World.setCells _ _ _ _=I;have B5:=hid (show Below A.heap.size A I by rw[<-aD];exact (K5.out _).all);have X6:=hid (show I.rangeAt l.heap.size 0 (cf 6 L) by rw[<-aD];exact X5 _ _ oS);have Y6:=hid (show I.there l.heap.size 0 6 by rw[<-aD];exact Y5 _ _ oS);obtain⟨t3,O,S⟩:=KC.out _ B5;have bu:=cu B5 t1;have am:=hid (btr K4.all B5);by_cases hF:F=0
   ·subst hF;obtain⟨t,ao,a0⟩:=TB.out rfl;have x1:I.cell? ⟨l.heap.size,1,none⟩=some (.int .i64 (t:Int)):=by rw[<-ao];exact ah X6 (dp 6 L 1 oD)
    have aL:=hZ (p:=p) (f:=t) (by rw[a0];decide);have bT:(t:Int)<=24:=by have:=y.w.m.tk.lf.k2;omega
    have HT:=hid (show t<p.kinds.length∧p.k t=3 from⟨aL,a0⟩);by_cases N:rv=0
    ·have a7:=hid N;have aK:(rv==0)=true:=by simp[N]
     go_upto_region 11 with fail
     have B:=hid (show Below I.heap.size I I.drew from aC I 1);have U:=hid (btr am B);have Z:=hid (show I.drew.frozen? ⟨x,j,none⟩=false from by
      have D:=(C.below U).o.Eb;rw[P.out] at D;exact D.frozen j)
     have ae:=hid ((C.below U).Ek P j (32768+(t:Int)));have y5:=cu B S;refine bj (R:=fun W=>W.cell? ⟨wb,0,none⟩=some (.slice (some ⟨x,0,none⟩) p.Eb.length k0)∧W.cell? ⟨l.heap.size,1,none⟩=some (.int .i64 (t:Int))) [9] [0,1,2,3,4,5,6,7,8] 1 oK ⟨cu B O,cu B x1⟩ oK oK oK (fun _=>?_);generalize I.drew=W6 at*
     repeat (refine Rf.rs ?_;simp only[jj])
     refine aG ?_;refine Rf.r1 9 rfl (fun K hK=>?_);have fz:=Z.out;go_simp
     refine hK _ _ trivial (bK oK) (fun _ _=>?_)
     try simp only[jj]
     refine aO oK ?_ _
     try rw[show IntKind.i64.wrap (32768+(t:Int))=32768+(t:Int) from bZ _ oA oA]
     obtain⟨ab,al⟩:=ae.out;generalize W6.setCell ⟨x,j,none⟩ (Value.int IntKind.i64 (32768+(t:Int)))=W7 at*;have ad:=hid (show Bx p wb tag w W7 from⟨tag,V,_,(bf U).trans al,ab,y.word a3 oA (fF.2 ⟨fun _=>.inr (by rw[show 32768+(t:Int) - 32768=t by omega,jZ HT.1,HT.2];rfl),fun h=>by rw[a4.out,ax.out] at h;cases h⟩) (fun _=>by rw[ay.out,a7.out])⟩);go_wp2_with fail
     refine aq (v:=.int .i64 (0)) (by simp[results,Tryz.results141,go_sem]) rfl ⟨0,rfl,oD,ad.out⟩
    ·have aK:(rv==0)=false:=by simp[N]
     go_wp2_with fail
     refine aq (v:=.int .i64 (12)) (by simp[results,Tryz.results141,go_sem]) rfl ⟨12,rfl,oD,cK y C am⟩
   ·have bC:(F==0)=false:=by simp[hF]
    have ba:=X6;go_wp2_with fail
    refine (KD.out _ am).mono ?_;rintro r w6 ⟨rfl,H⟩;have B6:=hid (btr B5 H);have Y7:=hid (dJ (T:=fun _=>False) Y6 (.Ed H) id);have K7:=hid (aI (T:=fun _=>False) (w:=A) (b:=l.heap.size) (.inr B4.size) (cf 6 M) 0 _ (Kp.Ed B6));have X7:=hid (World.rangeAt_setCells_same w6 l.heap.size 0 (cf 6 M) (by rw[aA];exact Y7));clear H t3 O S t1 bu KD TB EB X6 ba Y6 B6;go_upto_region 14 with ((with_reducible refine gst 78 ?_);refine gv rfl _ _ rfl l.heap.size 0 rfl (cf 6 M) rfl (aA _ _) (bR _ _) Y7 ?_)
    generalize World.setCells w6 _ _ _=W7 at K7 X7 ⊢;clear Y7 B5 am;have B7:=hid K7.all;have av:=hid (btr K4.all B7);clear K7;obtain⟨t3,O,S⟩:=KC.out _ B7;by_cases hG:G=0
    case neg=>
     have bD:(G==0)=false:=by simp[hG]
     go_wp2_with fail
     refine aq (v:=.int .i64 (G)) (by simp[results,Tryz.results141,go_sem]) rfl ⟨G,rfl,ED.out,cK y C av⟩
    case pos=>
     subst hG;obtain⟨⟨c,aW,aE⟩,ap,bU⟩:=TD.out rfl;have aU:=hZ (p:=p) (f:=c) (by rw[aE];decide);have bz:(c:Int)<=24:=by have:=y.w.m.tk.lf.k2;omega
     have x1:W7.cell? ⟨l.heap.size,1,none⟩=some (.int .i64 (c:Int)):=by rw[<-aW];exact ah X7 (dp 6 M 1 oD)
     have x4:=ah X7 (dp 6 M 4 oD);generalize M 4=Y at*;have aP:=hid (show c<p.kinds.length∧p.k c=2 from⟨aU,aE⟩);clear aW aE aU TD ED X7;by_cases N:rv=0
     ·have aK:(rv==0)=true:=by simp[N]
      clear N;go_wp2_with fail
      refine aq (v:=.int .i64 (9)) (by simp[results,Tryz.results141,go_sem]) rfl ⟨9,rfl,oD,cK y C av⟩
     ·have aK:(rv==0)=false:=by simp[N]
      obtain⟨t,ao,aX⟩:=tx y.w (f:=f) (j:=a/16) ax oA (by rw[HJ.out,ay.out];exact N);rw[HJ.out,ay.out] at ao;have aL:=hZ (p:=p) (f:=t) (by rw[aX];decide);have lf:=y.w.m.tk.lf;obtain⟨m,hm⟩:∃m:Nat,t*16+a%16=m:=⟨_,rfl⟩
      have aF:m<p.Eb.length:=by have:=lf.Eb;omega
      have aQ:=hid (show m/16=t∧p.k t=3 by omega);have bn:rv%1024*16+(a:Int)%16=(m:Int):=by have:=lf.k2;omega
      have bJ:(m:Int)<(p.Eb.length:Int):=oA;have bL:(0:Int)<=(m:Int):=oA;obtain⟨pv,aH⟩:∃z,p.Eb.getD m 0=z:=⟨_,rfl⟩
      have y3:=cu B7 (RC.out m aF);rw[aH] at y3;have aR:=hid aF;have a6:=hid aH;clear ao aX aL lf hm aF aH N;go_upto_region 18 with fail
      refine aZ oK oK ?_
      repeat (first|go_big_quiet_skip|(go_big_quiet_want;go_big_quiet_op;first|go_big_quiet_on|go_big_quiet_call (fail)))
      refine cy ?_;intro _ bo;obtain⟨nq,bp⟩:=bo;subst bp;have B8:=hid (aV (ai W7.heap.size W7) nq);have z0:=cu B8 O;have z3:=cu B8 y3;have z1:=cu B8 x1;have z4:=cu B8 x4;clear O y3 S t3 x1 x4 bn;generalize W7.drewN nq=X at*;have aN:=hid (btr av B8);by_cases ag:pv=0
      case neg=>
       have bh:(pv==0)=false:=by simp[ag]
       clear ag;go_wp2_with fail
       refine aq (v:=.int .i64 (12)) (by simp[results,Tryz.results141,go_sem]) rfl ⟨12,rfl,oD,cK y C aN⟩
      case pos=>
       have a5:=hid ag;have bh:(pv==0)=true:=by simp[ag]
       clear ag;have aT:=hid (fun (v:Int) (h1:0<=v∧v<=65535) (D:isB p (v - 32768) 2=true∨isB p (v - 32768 - 16384) 2=true)=>y.word (i:=m) (v:=v) aR h1 (fF.2 ⟨fun h=>(by rw[aQ.1,aQ.2] at h;cases h),fun _=>.inr D⟩) (fun _=>by rw[a6.out,a5.out]));have aS:=hid (show isB p (c:Int) 2=true by rw[jZ aP.1,aP.2];rfl);go_upto_region 21 with fail
       have B:=hid (show Below X.heap.size X X.drew from aC X 1);have U:=hid (btr aN B);have Z:=hid (show X.drew.frozen? ⟨x,m,none⟩=false from by
        have D:=(C.below U).o.Eb;rw[P.out] at D;exact D.frozen m)
       have ae:=hid ((C.below U).Ek P m (32768+(c:Int)));have y5:=cu B z3;have bv:=cu B z4;have bW:=cu B z0;have CN:=hid (cR (w:=X.drew) ⟨x,m,none⟩ (.int .i64 (32768+(c:Int))) y5);refine bj (R:=fun W=>W.cell? ⟨wb,0,none⟩=some (.slice (some ⟨x,0,none⟩) p.Eb.length k0)∧W.cell? ⟨l.heap.size,1,none⟩=some (.int .i64 (c:Int))) [9] [0,1,2,3,4,5,6,7,8] 1 oK ⟨cu B z0,cu B z1⟩ oK oK oK (fun _=>?_);generalize X.drew=W9 at*
       repeat (refine Rf.rs ?_;simp only[jj])
       refine aG ?_;refine Rf.r1 9 rfl (fun K hK=>?_);have fz:=Z.out;go_simp
       refine hK _ _ trivial (bK oK) (fun _ _=>?_)
       try simp only[jj]
       refine aO oK ?_ _
       try rw[show IntKind.i64.wrap (32768+(c:Int))=32768+(c:Int) from bZ _ oA oA]
       obtain⟨ab,al⟩:=ae.out;have KX:=hid (show W9.cell? ⟨l.heap.size,4,none⟩=some (.int .i64 Y)->(W9.setCell ⟨x,m,none⟩ (Value.int IntKind.i64 (32768+(c:Int)))).cell? ⟨l.heap.size,4,none⟩=some (.int .i64 Y) from fun h=>(aJ W9 _ _ _ (by intro e;have:=cX Addr.block e;simp only at this;have h1:=(aj _ _ (RC.out m aR));simp only at h1;have D:=B4.size;omega)).trans h);have bV:=KX.out bv;generalize W9.setCell ⟨x,m,none⟩ (Value.int IntKind.i64 (32768+(c:Int)))=Q at*;have KT:=hid ((bf (tag:=tag) U).trans al);have ar:=hid ab;have O:Q.cell? ⟨wb,0,none⟩=some (.slice (some ⟨x,0,none⟩) p.Eb.length k0):=by rw[<-P.out];exact ah ab.r rfl
       have cn:=CN.out;by_cases hw:(Y.tdiv 2).tmod 2=1
       case neg=>
        have ad:=hid (show Bx p wb tag w Q from⟨tag,V,_,KT.out,ar.out,aT.out _ oA (.inl (by rw[show 32768+(c:Int) - 32768=c by omega];exact aS))⟩);have bq:((Y.tdiv 2).tmod 2==1)=false:=by simp[hw]
        have br:¬Y/2%2=1:=by rw[<-bN ap, <-cC (by rw[bN ap];omega)];exact hw
        clear hw;go_wp2_with fail
        refine aq (v:=.int .i64 (0)) (by simp[results,Tryz.results141,go_sem]) rfl ⟨0,rfl,oD,ad.out⟩
       case pos=>
        have br:Y/2%2=1:=by rw[<-bN ap, <-cC (by rw[bN ap];omega)];exact hw
        have bq:((Y.tdiv 2).tmod 2==1)=true:=by simp[hw]
        clear hw;go_upto_region 23 with fail
        have BE:=hid (show Below Q.heap.size Q Q.drew from aC Q 1);have E9:=hid (show V 0=.slice (some ⟨x,0,none⟩) (p.Eb.set m (32768+(c:Int))).length k0 by rw[au];exact P);have Z:=hid (show Q.drew.frozen? ⟨x,m,none⟩=false from by
         have D:=(ar.below BE).o.Eb;rw[E9.out] at D;exact D.frozen m)
        have ae:=hid ((ar.below BE).Ek E9 m (32768+(c:Int)+16384));have y5:=cu BE cn;refine bj (R:=fun W=>W.cell? ⟨wb,0,none⟩=some (.slice (some ⟨x,0,none⟩) p.Eb.length k0)∧W.cell? ⟨x,m,none⟩=some (.int .i64 (32768+(c:Int)))) [14] [0,1,2,3,4,5,6,7,8,9,10,11,12,13] 1 oK ⟨cu BE O,y5⟩ oK oK oK (fun _=>?_);generalize Q.drew=a8 at*
        repeat (refine Rf.rs ?_;simp only[jj])
        refine aG ?_;refine Rf.r1 14 rfl (fun K hK=>?_);have fz:=Z.out;go_simp
        refine hK _ _ trivial (bK oK) (fun _ _=>?_);clear hK K fz y5 Z
        try simp only[jj]
        refine aO oK ?_ _
        try rw[show IntKind.i64.wrap (32768+(c:Int)+16384)=32768+(c:Int)+16384 from bZ _ oA oA]
        obtain⟨ab,al⟩:=ae.out;generalize a8.setCell ⟨x,m,none⟩ (Value.int IntKind.i64 (32768+(c:Int)+16384))=a9 at*;have ad:=hid (show Bx p wb tag w a9 from⟨tag,V,{p with Eb:=p.Eb.set m (32768+(c:Int)+16384)},(KT.trans (bf BE)).trans al,by have h:=ab;simp only[d9] at h;exact h,aT.out _ oA (.inr (by rw[show 32768+(c:Int)+16384 - 32768 - 16384=c by omega];exact aS))⟩);go_wp2_with fail
        refine aq (v:=.int .i64 (0)) (by simp[results,Tryz.results141,go_sem]) rfl ⟨0,rfl,oD,ad.out⟩
theorem qF {W:World} {g b o a:Nat} {v x:Value} (h:W.cell? ⟨b,a,none⟩=some x) (c:b≠g):(W.setCell ⟨g,o,none⟩ v).cell? ⟨b,a,none⟩=some x:=(aJ W _ _ _ (by intro e;have:=cX Addr.block e;exact c this.symm)).trans h
theorem _root_.Go.Proofs.YtaejnmmpddbbjaaGreatDoor.dX:type_of% @qF:= @qF
theorem kK {W:World} {g o a:Nat} {v x:Value} (h:W.cell? ⟨g,a,none⟩=some x) (b:a≠o):(W.setCell ⟨g,o,none⟩ v).cell? ⟨g,a,none⟩=some x:=(aJ W _ _ _ (by intro e;have:=cX Addr.off e;exact b this.symm)).trans h
structure Eq1 (p q:PW):Prop where
 s:Sm p q
 k:q.kinds=p.kinds
 l:q.DY.length=p.DY.length
theorem Eq1.has {p q:PW} (h:Eq1 p q) {u:Nat} (a:p.k u=6) {k:Nat} {v:Int} (hk:k≠9∧k≠10∧k≠14∧k≠17∧k≠18) (b:fOk q k v=true):Eq1 p (q.task u k v):=
 ⟨h.s.trans (h.s.w.has (by show q.kinds.getD u 0=6;rw[h.k];exact a) hk b),h.k,by show (List.set ..).length=_;rw[au];exact h.l⟩
theorem Eq1.or {p q:PW} (h:Eq1 p q) {f:Nat} {k:Int} (hl:f<p.kinds.length) (a:p.k f=k):fB q (f:Int) k=true:=by
 unfold fB;rw[jZ (by rw[h.k];exact hl),show q.k f=k by show q.kinds.getD f 0=k;rw[h.k];exact a];simp
theorem pL (wb:Nat) (tag:Nat->Nat) (V:Nat->Value) (p:PW) (t:Nat) (g:Nat->Int) (w:World) (bt:cb w wb tag V p) (S:Lv p) (h6:p.k t=6) (hg:∀k,k<8->0<=g k∧g k<=65535):
  Calls Tryz.prog 143 #[.pointer (some ⟨wb,0,none⟩),.int .i64 (t:Int),.agg (cf 8 g).toArray] w fun r w'=>Okd p wb tag w r w':=by
 have lf:=S.w.m.tk.lf;have HV:=hid (bt.view S.w.fits S.w.Es);have BT:=hid bt;have HP:=hid S;obtain⟨c,kt,e3⟩:∃g cap,V 3=.slice (some ⟨g,0,none⟩) p.DY.length cap:=bt.o.DY.form (by have:=lf.DY;have:=lf.k1;show 0<p.DY.length;omega)
 have E3:=hid e3;have au:=hZ (p:=p) (f:=t) (by rw[h6];decide);have bv:(t:Int)<(p.DY.length:Int):=by have:=lf.DY;omega
 have bz:(p.DY.length:Int)<=1000:=by have:=lf.DY;have:=lf.k2;omega
 have J:=hid (show p.DY.length=p.kinds.length from by have:=lf.DY;omega);have B0:=hid (bal (ai w.heap.size w) (.cells (cf 8 g).toArray 43));have T0:=hid (gK w (cf 8 g) 43 _ rfl);have CT:=hid (fun i k (hi:i<p.DY.length) (hk:k<20)=>cu B0 (bt.Ec e3 hi hk));have D:=cu B0 (show w.cell? ⟨wb,3,none⟩=some (.slice (some ⟨c,0,none⟩) p.DY.length kt) by rw[<-e3];exact ah bt.r rfl);have td:=CT.out t 11 (by rw[J.out];exact au) oD;have aN:=hid (S.w.m.tk.a.ok t h6 19 oD);have ar:=hid (show c<w.heap.size from aj _ _ (bt.Ec e3 (i:=t) (k:=11) (by rw[J.out];exact au) oD));have t1:=ah T0 (dp 8 g 1 oD);have aX:=hid (fun W (h:Below w.heap.size w W)=>eM wb V p (p.t t 11) (g 1) 6 2 W (HV.below h) S.s);have ax:=hid (fW p (p.t t 11) (g 1) 6 2);have aE:=hid (fun h=>ju S.w (n:=p.t t 11) (a:=g 1) (k:=6) (r:=2) oD h);have t2:=ah T0 (dp 8 g 2 oD);have a0:=hid (fun W (h:Below w.heap.size w W)=>eM wb V p (p.t t 11) (g 2) 5 4 W (HV.below h) S.s);have ay:=hid (fW p (p.t t 11) (g 2) 5 4);have aF:=hid (fun h=>ju S.w (n:=p.t t 11) (a:=g 2) (k:=5) (r:=4) oD h);have t3:=ah T0 (dp 8 g 3 oD);have a2:=hid (fun W (h:Below w.heap.size w W)=>eM wb V p (p.t t 11) (g 3) 4 4 W (HV.below h) S.s);have az:=hid (fW p (p.t t 11) (g 3) 4 4);have aH:=hid (fun h=>ju S.w (n:=p.t t 11) (a:=g 3) (k:=4) (r:=4) oD h);have t4:=ah T0 (dp 8 g 4 oD);have a3:=hid (fun W (h:Below w.heap.size w W)=>eM wb V p (p.t t 11) (g 4) 7 6 W (HV.below h) S.s);have aD:=hid (fW p (p.t t 11) (g 4) 7 6);have aI:=hid (fun h=>ju S.w (n:=p.t t 11) (a:=g 4) (k:=7) (r:=6) oD h);have A:=ah T0 (dp 8 g 5 oD);have y:=CT.out t 19 (by rw[J.out];exact au) oD;have aP:=hid (hg 5 oD);generalize (kAt p (p.t t 11) (g 1) 6 2).2=am at*;generalize (kAt p (p.t t 11) (g 1) 6 2).1=K1 at*;generalize (kAt p (p.t t 11) (g 2) 5 4).2=an at*;generalize (kAt p (p.t t 11) (g 2) 5 4).1=K2 at*;generalize (kAt p (p.t t 11) (g 3) 4 4).2=ao at*;generalize (kAt p (p.t t 11) (g 3) 4 4).1=K3 at*;generalize (kAt p (p.t t 11) (g 4) 7 6).2=ap at*;generalize (kAt p (p.t t 11) (g 4) 7 6).1=K4 at*;change ((w.alloc (.cells (cf 8 g).toArray 43)).cell? ⟨c,t*20+11,none⟩=some (.int .i64 (p.t t 11))) at td;change ((w.alloc (.cells (cf 8 g).toArray 43)).cell? ⟨c,t*20+19,none⟩=some (.int .i64 (p.t t 19))) at y;generalize p.t t 11=d at*;generalize p.t t 19=ab at*;clear bt S e3 hg lf au h6 HV;go_enter Tryz.func143,Tryz.ntmps143
 go_wp2_with fail
 generalize World.alloc _ _=W0 at*;refine (aX.out _ B0).mono ?_;rintro r w1 ⟨rfl,L⟩;have KX:=wi L K1;have a5:=hid (aB B0.size L.size);clear L;go_upto_region 3 with ((with_reducible refine gst 78 ?_);refine gv rfl _ _ rfl w1.heap.size 0 rfl (cf 6 K1) rfl (aA _ _) (bR _ _) (aY _ _ _ _ _ oS oD) ?_)
 generalize hW:World.setCells _ _ _ _=W1;obtain⟨e,XX⟩:=KX.out _ _ _ hW oS;clear hW KX;have B1:=hid (btr B0 e);replace D:=cu e D;replace td:=cu e td;replace t1:=cu e t1;replace t2:=cu e t2;replace t3:=cu e t3;replace t4:=cu e t4;replace A:=cu e A;replace y:=cu e y;have j:=ah XX (dp 6 K1 1 oD);have C1:=e;clear XX e;by_cases hE:am=0
 case neg=>
  have av:(am==0)=false:=by simp[hE]
  go_wp2_with fail
  refine aq (v:=.int .i64 (am)) (by simp[results,Tryz.results143,go_sem]) rfl ⟨am,rfl,ax.out,cK HP BT B1⟩
 case pos=>
  subst hE;obtain⟨u,aa,M⟩:=aE.out rfl;rw[aa] at j;have ag:=hid M;have U:=hid (hZ (p:=p) (f:=u) (by rw[M];decide));clear aa M aE ax;have bA:(u:Int)<(p.DY.length:Int):=by have:=J.out;have:=U.out;omega
  obtain⟨sv,aK⟩:∃z,p.t u 9=z:=⟨_,rfl⟩
  have x9:W0.cell? ⟨c,u*20+9,none⟩=some (.int .i64 sv):=by rw[<-aK];exact CT u 9 (by rw[J.out];exact U) oD
  replace x9:=cu C1 x9;clear C1 aK CT;go_upto_region 5 with fail
  refine aZ oK oK ?_
  repeat (first|go_big_quiet_skip|(go_big_quiet_want;go_big_quiet_op;first|go_big_quiet_on|go_big_quiet_call (fail)))
  refine cy ?_;intro _ bo;obtain⟨nq,bp⟩:=bo;subst bp;have x:=hid (aV (ai W1.heap.size W1) nq);replace D:=cu x D;replace td:=cu x td;replace t1:=cu x t1;replace t2:=cu x t2;replace t3:=cu x t3;replace t4:=cu x t4;replace A:=cu x A;replace y:=cu x y;replace j:=cu x j;have al:=hid (btr B1 x);clear x9 B1;generalize W1.drewN nq=bu at*;clear x;by_cases aw:sv=0
  case neg=>
   have bk:(sv==0)=false:=by simp[aw]
   go_wp2_with fail
   refine aq (v:=.int .i64 (7)) (by simp[results,Tryz.results143,go_sem]) rfl ⟨7,rfl,oD,cK HP BT al⟩
  case pos=>
   have bk:(sv==0)=true:=by simp[aw]
   clear aw;go_wp2_with fail
   refine (a0.out _ al).mono ?_;rintro r w2 ⟨rfl,L⟩;have KX:=wi L K2;have a6:=hid (aB al.size L.size);clear L;go_upto_region 8 with ((with_reducible refine gst 78 ?_);refine gv rfl _ _ rfl w2.heap.size 0 rfl (cf 6 K2) rfl (aA _ _) (bR _ _) (aY _ _ _ _ _ oS oD) ?_)
   generalize hW:World.setCells _ _ _ _=W2;obtain⟨e,XX⟩:=KX.out _ _ _ hW oS;clear hW KX;have B2:=hid (btr al e);replace D:=cu e D;replace td:=cu e td;replace t1:=cu e t1;replace t2:=cu e t2;replace t3:=cu e t3;replace t4:=cu e t4;replace A:=cu e A;replace y:=cu e y;replace j:=cu e j;have C:=ah XX (dp 6 K2 1 oD);clear XX e;by_cases hE:an=0
   case neg=>
    have av:(an==0)=false:=by simp[hE]
    go_wp2_with fail
    refine aq (v:=.int .i64 (an)) (by simp[results,Tryz.results143,go_sem]) rfl ⟨an,rfl,ay.out,cK HP BT B2⟩
   case pos=>
    subst hE;obtain⟨Y,aa,M⟩:=aF.out rfl;rw[aa] at C;have aQ:=hid M;have aT:=hid (hZ (p:=p) (f:=Y) (by rw[M];decide));clear aa M aF ay;go_wp2_with fail
    refine (a2.out _ B2).mono ?_;rintro r w3 ⟨rfl,L⟩;have KX:=wi L K3;have a7:=hid (aB B2.size L.size);clear L;go_upto_region 11 with ((with_reducible refine gst 78 ?_);refine gv rfl _ _ rfl w3.heap.size 0 rfl (cf 6 K3) rfl (aA _ _) (bR _ _) (aY _ _ _ _ _ oS oD) ?_)
    generalize hW:World.setCells _ _ _ _=W3;obtain⟨e,XX⟩:=KX.out _ _ _ hW oS;clear hW KX;have B3:=hid (btr B2 e);replace D:=cu e D;replace td:=cu e td;replace t1:=cu e t1;replace t2:=cu e t2;replace t3:=cu e t3;replace t4:=cu e t4;replace A:=cu e A;replace y:=cu e y;replace j:=cu e j;replace C:=cu e C;have E:=ah XX (dp 6 K3 1 oD);clear XX e;by_cases hE:ao=0
    case neg=>
     have av:(ao==0)=false:=by simp[hE]
     go_wp2_with fail
     refine aq (v:=.int .i64 (ao)) (by simp[results,Tryz.results143,go_sem]) rfl ⟨ao,rfl,az.out,cK HP BT B3⟩
    case pos=>
     subst hE;obtain⟨Z,aa,M⟩:=aH.out rfl;rw[aa] at E;have aR:=hid M;have aU:=hid (hZ (p:=p) (f:=Z) (by rw[M];decide));clear aa M aH az
     go_upto_if 68 with fail
     go_cut [12] (fun h wx=>∃z:Int,h=.int .i64 z∧Hid (z= -1∨∃zz:Nat,z=zz∧zz<p.kinds.length∧p.k zz=7)∧Hid (Below W3.heap.size W3 wx))
     case first=>
      by_cases h4:g 4=65535
      case pos=>
       have bg:(g 4==65535)=true:=by simp[h4]
       have bh:(g 4 !=65535)=false:=by simp[h4]
       go_wp2_with fail
       go_meet
       exact⟨-1,rfl,hid (.inl rfl),hid (ai _ _)⟩
      case neg=>
       have bg:(g 4==65535)=false:=by simp[h4]
       have bh:(g 4 !=65535)=true:=by simp[h4]
       clear h4;go_wp2_with fail
       refine (a3.out _ B3).mono ?_;rintro r w4 ⟨rfl,L⟩;have KX:=wi L K4;have bs:=hid (aB B3.size L.size);clear L;go_upto_region 16 with ((with_reducible refine gst 78 ?_);refine gv rfl _ _ rfl w4.heap.size 0 rfl (cf 6 K4) rfl (aA _ _) (bR _ _) (aY _ _ _ _ _ oS oD) ?_)
       generalize hW:World.setCells _ _ _ _=W4;obtain⟨e,XX⟩:=KX.out _ _ _ hW oS;clear hW KX;have B4:=hid (btr B3 e);replace D:=cu e D;replace td:=cu e td;replace t1:=cu e t1;replace t2:=cu e t2;replace t3:=cu e t3;replace t4:=cu e t4;replace A:=cu e A;replace y:=cu e y;replace j:=cu e j;replace C:=cu e C;replace E:=cu e E;have br:=ah XX (dp 6 K4 1 oD);have aL:=e;clear XX e;by_cases hE:ap=0
       case neg=>
        have av:(ap==0)=false:=by simp[hE]
        go_wp2_with fail
        refine aq (v:=.int .i64 (ap)) (by simp[results,Tryz.results143,go_sem]) rfl ⟨ap,rfl,aD.out,cK HP BT B4⟩
       case pos=>
        subst hE;obtain⟨zz,aa,M⟩:=aI.out rfl;rw[aa] at br;have aS:=hid M;have aW:=hid (hZ (p:=p) (f:=zz) (by rw[M];decide));clear aa M aI aD;go_wp2_with fail
        go_meet
        exact⟨zz,rfl,hid (.inr ⟨zz,rfl,aW.out,aS.out⟩),aL⟩
     case rest=>
      obtain⟨z,hz,HZ,HB⟩:=hcut;subst hz;generalize wc=W4 at*;replace D:=cu HB D;replace A:=cu HB A;replace y:=cu HB y;replace j:=cu HB j;replace C:=cu HB C;replace E:=cu HB E;replace B3:=hid (btr B3 HB);have aM:∃q,Eq1 p q∧cb W4 wb tag V q:=⟨p,⟨Sm.refl HP,rfl,rfl⟩,BT.below B3⟩;obtain⟨q,hq,bq⟩:=aM;have B:=hid hq;have x:=hid bq;have X:=hid (bf (tag:=tag) B3);have N1:=hid (show w1.heap.size≠c by have:=a5.out;have:=ar.out;omega);have N2:=hid (show w2.heap.size≠c by have:=a6.out;have:=ar.out;omega);have N3:=hid (show w3.heap.size≠c by have:=a7.out;have:=ar.out;omega);have N5:=hid (show w.heap.size≠c by have:=ar.out;omega);clear hq bq t1 t2 t3 t4 td;go_upto_region 19 with fail
      have b:=hid (show Below W4.heap.size W4 W4.drew from aC W4 1);have F:=hid (show V 3=.slice (some ⟨c,0,none⟩) q.DY.length kt by rw[B.l];exact E3);have O:=hid (show W4.drew.frozen? ⟨c,u*20+11,none⟩=false from by
       have I:=(x.below b).o.DY;rw[F.out] at I;exact I.frozen (u*20+11))
      have N:=hid ((x.below b).task F (i:=u) (k:=11) (by rw[B.l,J.out];exact U) oD (Y:Int));have y5:=(x.below b).Ec F (i:=u) (k:=11) (by rw[B.l,J.out];exact U) oD;have P:=hid (B.has (u:=u) ag (k:=11) (v:=(Y:Int)) oD (by unfold fOk;simpa using B.or aT aQ));have G:=hid (show (fun W=>W.cell? ⟨wb,3,none⟩=some (.slice (some ⟨c,0,none⟩) p.DY.length kt)∧W.cell? ⟨w1.heap.size,1,none⟩=some (.int .i64 (u:Int))∧W.cell? ⟨w2.heap.size,1,none⟩=some (.int .i64 (Y:Int))) W4.drew from⟨cu b D,cu b j,cu b C⟩);refine bj (R:=fun W=>W.cell? ⟨wb,3,none⟩=some (.slice (some ⟨c,0,none⟩) p.DY.length kt)∧W.cell? ⟨w1.heap.size,1,none⟩=some (.int .i64 (u:Int))∧W.cell? ⟨w2.heap.size,1,none⟩=some (.int .i64 (Y:Int))) [10] [0,1,2,3,4,5,6,7] 3 oK G oK oK oK (fun _=>?_);replace j:=cu b j;replace C:=cu b C;replace E:=cu b E;replace A:=cu b A;replace y:=cu b y;clear D;generalize W4.drew=a8 at*
      repeat (refine Rf.rs ?_;simp only[jj])
      refine aG ?_;refine bC oK _ G [8,9] 1 _ _ oK ?_
      repeat (refine Rf.rs ?_;simp only[jj])
      refine aG ?_;refine Rf.r1 10 rfl (fun K Q=>?_);have fz:=O.out;go_simp
      refine Q _ _ trivial (bK oK) (fun _ _=>?_);clear Q K fz y5 O G
      try simp only[jj]
      refine aO oK ?_ _;replace j:=dX (g:=c) (o:=u*20+11) (v:=.int .i64 (Y:Int)) j N1;replace C:=dX (g:=c) (o:=u*20+11) (v:=.int .i64 (Y:Int)) C N2;replace E:=dX (g:=c) (o:=u*20+11) (v:=.int .i64 (Y:Int)) E N3;replace A:=dX (g:=c) (o:=u*20+11) (v:=.int .i64 (Y:Int)) A N5;replace y:=kK (o:=u*20+11) (v:=.int .i64 (Y:Int)) y oA;obtain⟨H,T⟩:=N.out;generalize a8.setCell ⟨c,u*20+11,none⟩ (Value.int IntKind.i64 (Y:Int))=ac at*;replace X:=hid ((X.trans (bf b)).trans T);replace x:=hid H;replace B:=P;have D:ac.cell? ⟨wb,3,none⟩=some (.slice (some ⟨c,0,none⟩) p.DY.length kt):=by rw[<-E3.out];exact ah H.r rfl
      clear H T N P F b;generalize q.task u 11 (Y:Int)=q at*;go_upto_region 20 with fail
      have b:=hid (show Below ac.heap.size ac ac.drew from aC ac 1);have F:=hid (show V 3=.slice (some ⟨c,0,none⟩) q.DY.length kt by rw[B.l];exact E3);have O:=hid (show ac.drew.frozen? ⟨c,u*20+12,none⟩=false from by
       have I:=(x.below b).o.DY;rw[F.out] at I;exact I.frozen (u*20+12))
      have N:=hid ((x.below b).task F (i:=u) (k:=12) (by rw[B.l,J.out];exact U) oD (Z:Int));have y5:=(x.below b).Ec F (i:=u) (k:=12) (by rw[B.l,J.out];exact U) oD;have P:=hid (B.has (u:=u) ag (k:=12) (v:=(Z:Int)) oD (by unfold fOk;simpa using B.or aU aR));have G:=hid (show (fun W=>W.cell? ⟨wb,3,none⟩=some (.slice (some ⟨c,0,none⟩) p.DY.length kt)∧W.cell? ⟨w1.heap.size,1,none⟩=some (.int .i64 (u:Int))∧W.cell? ⟨w3.heap.size,1,none⟩=some (.int .i64 (Z:Int))) ac.drew from⟨cu b D,cu b j,cu b E⟩);refine bj (R:=fun W=>W.cell? ⟨wb,3,none⟩=some (.slice (some ⟨c,0,none⟩) p.DY.length kt)∧W.cell? ⟨w1.heap.size,1,none⟩=some (.int .i64 (u:Int))∧W.cell? ⟨w3.heap.size,1,none⟩=some (.int .i64 (Z:Int))) [10] [0,1,2,3,4,5,6,7] 3 oK G oK oK oK (fun _=>?_);replace j:=cu b j;replace C:=cu b C;replace E:=cu b E;replace A:=cu b A;replace y:=cu b y;clear D;generalize ac.drew=a9 at*
      repeat (refine Rf.rs ?_;simp only[jj])
      refine aG ?_;refine bC oK _ G [8,9] 1 _ _ oK ?_
      repeat (refine Rf.rs ?_;simp only[jj])
      refine aG ?_;refine Rf.r1 10 rfl (fun K Q=>?_);have fz:=O.out;go_simp
      refine Q _ _ trivial (bK oK) (fun _ _=>?_);clear Q K fz y5 O G
      try simp only[jj]
      refine aO oK ?_ _;replace j:=dX (g:=c) (o:=u*20+12) (v:=.int .i64 (Z:Int)) j N1;replace C:=dX (g:=c) (o:=u*20+12) (v:=.int .i64 (Z:Int)) C N2;replace E:=dX (g:=c) (o:=u*20+12) (v:=.int .i64 (Z:Int)) E N3;replace A:=dX (g:=c) (o:=u*20+12) (v:=.int .i64 (Z:Int)) A N5;replace y:=kK (o:=u*20+12) (v:=.int .i64 (Z:Int)) y oA;obtain⟨H,T⟩:=N.out;generalize a9.setCell ⟨c,u*20+12,none⟩ (Value.int IntKind.i64 (Z:Int))=ad at*;replace X:=hid ((X.trans (bf b)).trans T);replace x:=hid H;replace B:=P;have D:ad.cell? ⟨wb,3,none⟩=some (.slice (some ⟨c,0,none⟩) p.DY.length kt):=by rw[<-E3.out];exact ah H.r rfl
      clear H T N P F b;generalize q.task u 12 (Z:Int)=q at*;go_upto_region 21 with fail
      have b:=hid (show Below ad.heap.size ad ad.drew from aC ad 1);have F:=hid (show V 3=.slice (some ⟨c,0,none⟩) q.DY.length kt by rw[B.l];exact E3);have O:=hid (show ad.drew.frozen? ⟨c,u*20+13,none⟩=false from by
       have I:=(x.below b).o.DY;rw[F.out] at I;exact I.frozen (u*20+13))
      have N:=hid ((x.below b).task F (i:=u) (k:=13) (by rw[B.l,J.out];exact U) oD z);have y5:=(x.below b).Ec F (i:=u) (k:=13) (by rw[B.l,J.out];exact U) oD;have P:=hid (B.has (u:=u) ag (k:=13) (v:=z) oD (HZ.elim (fun h=>by subst h;unfold fOk fB;simp) (fun ⟨zz,hz,h1,I⟩=>by subst hz;unfold fOk;simpa using B.or h1 I)));have G:=hid (show (fun W=>W.cell? ⟨wb,3,none⟩=some (.slice (some ⟨c,0,none⟩) p.DY.length kt)∧W.cell? ⟨w1.heap.size,1,none⟩=some (.int .i64 (u:Int))∧W.cell? ⟨wb,3,none⟩=some (.slice (some ⟨c,0,none⟩) p.DY.length kt)) ad.drew from⟨cu b D,cu b j,cu b D⟩);refine bj (R:=fun W=>W.cell? ⟨wb,3,none⟩=some (.slice (some ⟨c,0,none⟩) p.DY.length kt)∧W.cell? ⟨w1.heap.size,1,none⟩=some (.int .i64 (u:Int))∧W.cell? ⟨wb,3,none⟩=some (.slice (some ⟨c,0,none⟩) p.DY.length kt)) [9] [0,1,2,3,4,5,6] 3 oK G oK oK oK (fun _=>?_);replace j:=cu b j;replace C:=cu b C;replace E:=cu b E;replace A:=cu b A;replace y:=cu b y;clear D;generalize ad.drew=ba at*
      repeat (refine Rf.rs ?_;simp only[jj])
      refine aG ?_;refine bC oK _ G [7,8] 1 _ _ oK ?_
      repeat (refine Rf.rs ?_;simp only[jj])
      refine aG ?_;refine Rf.r1 9 rfl (fun K Q=>?_);have fz:=O.out;go_simp
      refine Q _ _ trivial (bK oK) (fun _ _=>?_);clear Q K fz y5 O G
      try simp only[jj]
      refine aO oK ?_ _;replace j:=dX (g:=c) (o:=u*20+13) (v:=.int .i64 z) j N1;replace C:=dX (g:=c) (o:=u*20+13) (v:=.int .i64 z) C N2;replace E:=dX (g:=c) (o:=u*20+13) (v:=.int .i64 z) E N3;replace A:=dX (g:=c) (o:=u*20+13) (v:=.int .i64 z) A N5;replace y:=kK (o:=u*20+13) (v:=.int .i64 z) y oA;obtain⟨H,T⟩:=N.out;generalize ba.setCell ⟨c,u*20+13,none⟩ (Value.int IntKind.i64 z)=ae at*;replace X:=hid ((X.trans (bf b)).trans T);replace x:=hid H;replace B:=P;have D:ae.cell? ⟨wb,3,none⟩=some (.slice (some ⟨c,0,none⟩) p.DY.length kt):=by rw[<-E3.out];exact ah H.r rfl
      clear H T N P F b;generalize q.task u 13 z=q at*;go_upto_region 22 with fail
      have b:=hid (show Below ae.heap.size ae ae.drew from aC ae 1);have F:=hid (show V 3=.slice (some ⟨c,0,none⟩) q.DY.length kt by rw[B.l];exact E3);have O:=hid (show ae.drew.frozen? ⟨c,u*20+8,none⟩=false from by
       have I:=(x.below b).o.DY;rw[F.out] at I;exact I.frozen (u*20+8))
      have N:=hid ((x.below b).task F (i:=u) (k:=8) (by rw[B.l,J.out];exact U) oD (g 5));have y5:=(x.below b).Ec F (i:=u) (k:=8) (by rw[B.l,J.out];exact U) oD;have P:=hid (B.has (u:=u) ag (k:=8) (v:=(g 5)) oD (by unfold fOk wB;simpa using aP.out));have G:=hid (show (fun W=>W.cell? ⟨wb,3,none⟩=some (.slice (some ⟨c,0,none⟩) p.DY.length kt)∧W.cell? ⟨w1.heap.size,1,none⟩=some (.int .i64 (u:Int))∧W.cell? ⟨w.heap.size,5,none⟩=some (.int .i64 (g 5))) ae.drew from⟨cu b D,cu b j,cu b A⟩);refine bj (R:=fun W=>W.cell? ⟨wb,3,none⟩=some (.slice (some ⟨c,0,none⟩) p.DY.length kt)∧W.cell? ⟨w1.heap.size,1,none⟩=some (.int .i64 (u:Int))∧W.cell? ⟨w.heap.size,5,none⟩=some (.int .i64 (g 5))) [10] [0,1,2,3,4,5,6,7] 3 oK G oK oK oK (fun _=>?_);replace j:=cu b j;replace C:=cu b C;replace E:=cu b E;replace A:=cu b A;replace y:=cu b y;clear D;generalize ae.drew=bb at*
      repeat (refine Rf.rs ?_;simp only[jj])
      refine aG ?_;refine bC oK _ G [8,9] 1 _ _ oK ?_
      repeat (refine Rf.rs ?_;simp only[jj])
      refine aG ?_;refine Rf.r1 10 rfl (fun K Q=>?_);have fz:=O.out;go_simp
      refine Q _ _ trivial (bK oK) (fun _ _=>?_);clear Q K fz y5 O G
      try simp only[jj]
      refine aO oK ?_ _;replace j:=dX (g:=c) (o:=u*20+8) (v:=.int .i64 (g 5)) j N1;replace C:=dX (g:=c) (o:=u*20+8) (v:=.int .i64 (g 5)) C N2;replace E:=dX (g:=c) (o:=u*20+8) (v:=.int .i64 (g 5)) E N3;replace A:=dX (g:=c) (o:=u*20+8) (v:=.int .i64 (g 5)) A N5;replace y:=kK (o:=u*20+8) (v:=.int .i64 (g 5)) y oA;obtain⟨H,T⟩:=N.out;generalize bb.setCell ⟨c,u*20+8,none⟩ (Value.int IntKind.i64 (g 5))=af at*;replace X:=hid ((X.trans (bf b)).trans T);replace x:=hid H;replace B:=P;have D:af.cell? ⟨wb,3,none⟩=some (.slice (some ⟨c,0,none⟩) p.DY.length kt):=by rw[<-E3.out];exact ah H.r rfl
      clear H T N P F b;generalize q.task u 8 (g 5)=q at*;go_upto_region 23 with fail
      have b:=hid (show Below af.heap.size af af.drew from aC af 1);have F:=hid (show V 3=.slice (some ⟨c,0,none⟩) q.DY.length kt by rw[B.l];exact E3);have O:=hid (show af.drew.frozen? ⟨c,u*20+19,none⟩=false from by
       have I:=(x.below b).o.DY;rw[F.out] at I;exact I.frozen (u*20+19))
      have N:=hid ((x.below b).task F (i:=u) (k:=19) (by rw[B.l,J.out];exact U) oD ab);have y5:=(x.below b).Ec F (i:=u) (k:=19) (by rw[B.l,J.out];exact U) oD;have P:=hid (B.has (u:=u) ag (k:=19) (v:=ab) oD (by have h:=aN.out;unfold fOk at h ⊢;simpa using h));have G:=hid (show (fun W=>W.cell? ⟨wb,3,none⟩=some (.slice (some ⟨c,0,none⟩) p.DY.length kt)∧W.cell? ⟨w1.heap.size,1,none⟩=some (.int .i64 (u:Int))∧W.cell? ⟨c,t*20+19,none⟩=some (.int .i64 ab)) af.drew from⟨cu b D,cu b j,cu b y⟩);refine bj (R:=fun W=>W.cell? ⟨wb,3,none⟩=some (.slice (some ⟨c,0,none⟩) p.DY.length kt)∧W.cell? ⟨w1.heap.size,1,none⟩=some (.int .i64 (u:Int))∧W.cell? ⟨c,t*20+19,none⟩=some (.int .i64 ab)) [16] [0,1,2,3,4,5,6,7,8,9,10] 6 oK G oK oK oK (fun _=>?_);replace j:=cu b j;replace C:=cu b C;replace E:=cu b E;replace A:=cu b A;replace y:=cu b y;clear D;generalize af.drew=bc at*
      repeat (refine Rf.rs ?_;simp only[jj])
      refine aG ?_;refine bC oK _ G [11,12] 4 _ _ oK ?_
      repeat (refine Rf.rs ?_;simp only[jj])
      refine aG ?_;refine Rf.iQ oK _ G [13] 3 _ _ oK ?_
      repeat (refine Rf.rs ?_;simp only[jj])
      refine aG ?_;refine bC oK _ G [14,15] 1 _ _ oK ?_
      repeat (refine Rf.rs ?_;simp only[jj])
      refine aG ?_;refine Rf.r1 16 rfl (fun K Q=>?_);have fz:=O.out;go_simp
      refine Q _ _ trivial (bK oK) (fun _ _=>?_);clear Q K fz y5 O G
      try simp only[jj]
      refine aO oK ?_ _;replace j:=dX (g:=c) (o:=u*20+19) (v:=.int .i64 ab) j N1;replace C:=dX (g:=c) (o:=u*20+19) (v:=.int .i64 ab) C N2;replace E:=dX (g:=c) (o:=u*20+19) (v:=.int .i64 ab) E N3;replace A:=dX (g:=c) (o:=u*20+19) (v:=.int .i64 ab) A N5;clear y;obtain⟨H,T⟩:=N.out;generalize bc.setCell ⟨c,u*20+19,none⟩ (Value.int IntKind.i64 ab)=aJ at*;replace X:=hid ((X.trans (bf b)).trans T);replace x:=hid H;replace B:=P;have D:aJ.cell? ⟨wb,3,none⟩=some (.slice (some ⟨c,0,none⟩) p.DY.length kt):=by rw[<-E3.out];exact ah H.r rfl
      clear H T N P F b;generalize q.task u 19 ab=q at*;have a4:=hid (show Bx p wb tag w aJ from⟨tag,V,q,X.out,x.out,B.s⟩);clear X x B;go_wp2_with fail
      refine aq (v:=.int .i64 (0)) (by simp[results,Tryz.results143,go_sem]) rfl ⟨0,rfl,oD,a4.out⟩
