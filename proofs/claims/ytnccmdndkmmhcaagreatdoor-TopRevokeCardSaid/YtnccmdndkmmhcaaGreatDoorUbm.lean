/- Ubm -/
import Derived.Test.YtnccmdndkmmhcaaGreatDoorUbl
set_option maxRecDepth 100000
set_option maxHeartbeats 16000000
namespace Go.Proofs.YtnccmdndkmmhcaaGreatDoor
namespace Wd
open Go.RowKit Mem Bw Nums Mmu
theorem xo {p:PW} (h:Lw p) {n a k r:Int} (hk:2<=k) (e:(kAt p n a k r).2=0):(∃f:Nat,(kAt p n a k r).1 1=f∧p.k f=k)∧0<=(kAt p n a k r).1 4∧(kAt p n a k r).1 4<=7:=by
 refine⟨kE h hk e,?_⟩;obtain⟨u,g⟩:=h.m.keys;unfold kAt at e ⊢;by_cases b:(sAt p n a).2=0
 ·rw[ag b] at e ⊢;generalize (sAt p n a).1.toNat=i at e ⊢;have d:∀j,j<6->p.IH.getD i ft j=p.s i j:=fun j t=>by
   show p.IH.getD i ft j=p.IH.getD i eS j
   rw[aa,aa]
   cases p.IH[i]? with
   |some x=>rfl
   |none=>show ft j=eS j;unfold ft eS;rw[ae oA]
  unfold kOf at e ⊢;have s0:=d 0 oD;have q:=d 4 oD;by_cases c0:p.IH.getD i ft 0=0
  ·rw[ag c0] at e;cases e
  rw[ae c0] at e ⊢;by_cases c1:p.IH.getD i ft 0=k
  ·rw[ag c1] at e ⊢;split at e
   ·rename_i c2;rw[ag c2];obtain⟨_,_,_,_,l,o⟩:=oc (g.key i (by rw[<-s0];exact c0)).c (by rw[<-s0];exact c0);show 0<=p.IH.getD i ft 4∧p.IH.getD i ft 4<=7
    rw[q];exact⟨l,o⟩
   ·cases e
  ·rw[ae c1] at e;cases e
 ·rw[ae b] at e;exact absurd e b
theorem va (wb:Nat) (tag:Nat->Nat) (V:Nat->Value) (p:PW) (d:Int) (g:Nat->Int) (w:World) (bt:cb w wb tag V p) (J:Lv p) (hg:∀k,k<8->0<=g k∧g k<=65535):
  Calls Tryz.prog 237 #[.pointer (some ⟨wb,0,none⟩),.int .i64 d,.agg (cf 8 g).toArray] w fun r w'=>Okd p wb tag w r w':=by
 have lf:=J.w.m.tk.lf;have HV:=hid (bt.view J.w.fits J.w.I8);have C:=hid bt;have y:=hid J;obtain⟨x,k0,e0⟩:∃g cap,V 0=.slice (some ⟨g,0,none⟩) p.IL.length cap:=bt.o.IL.form (by have:=lf.IL;have:=lf.k1;show 0<p.IL.length;omega)
 have P:=hid e0;have B0:=hid (bal (af w.heap.size w) (.cells (cf 8 g).toArray 35));have T0:=hid (hY w (cf 8 g) 35 _ rfl);obtain⟨a,ha⟩:∃a:Nat,g 3=a:=⟨(g 3).toNat,by have:=(hg 3 oD).1;omega⟩
 have bE:a<=65535:=by have:=(hg 3 oD).2;omega
 have t2:=ai T0 (dk 8 g 2 oD);have KA:=hid (fC wb V p d (g 2) 4 2 _ (HV.below B0) J.s);have ER:=hid (gD p d (g 2) 4 2);have ET:=hid (fun h=>kE J.w (n:=d) (a:=g 2) (k:=4) (r:=2) oD h);have KB:=hid (fun W (h:Below w.heap.size w W)=>fC wb V p d (g 1) 3 2 W (HV.below h) J.s);have EB:=hid (gD p d (g 1) 3 2);have TB:=hid (fun h=>kE J.w (n:=d) (a:=g 1) (k:=3) (r:=2) oD h);have KD:=hid (fun W (h:Below w.heap.size w W)=>fC wb V p d (g 1) 2 1 W (HV.below h) J.s);have ED:=hid (gD p d (g 1) 2 1);have TD:=hid (fun h=>xo J.w (n:=d) (a:=g 1) (k:=2) (r:=1) oD h);have S0:=hid (show (w.alloc (.cells (cf 8 g).toArray 35)).heap.size=w.heap.size+1 by simp);go_enter Tryz.func237,Tryz.ntmps237
 go_wp2_with fail
 generalize World.alloc _ _=w1 at B0 T0 t2 KA S0 ⊢;refine KA.mono ?_;rintro r w2 ⟨rfl,H⟩;have B2:=hid (btr B0 H);have T2:=hid (bf T0 H);have S2:=hid (show w.heap.size<w2.heap.size by have:=H.size;have:=S0.out;omega);generalize (kAt p d (g 1) 3 2).2=F at*;generalize (kAt p d (g 1) 3 2).1=L at*;generalize (kAt p d (g 1) 2 1).2=G at*;generalize (kAt p d (g 1) 2 1).1=M at*;generalize (kAt p d (g 2) 4 2).2=E at*;generalize (kAt p d (g 2) 4 2).1=K at*;have K3:=hid (fun o=>aM (T:=fun _=>False) (w:=w) (b:=w2.heap.size) (.inr (Nat.le_of_lt S2)) (cf 6 K) 0 _ ((Kp.IM B2).alloc o));have T3:=hid (fun o=>World.rangeAt_setCells_apart (World.rangeAt_alloc T2 o) w2.heap.size 0 (cf 6 K) (.inl (Nat.ne_of_lt S2)));have X3:=hid (fun z u (hz:6<=z.size)=>World.rangeAt_setCells_same (w2.alloc (.cells z u)) w2.heap.size 0 (cf 6 K) (by rw[ay];exact aP w2 z u _ 6 rfl hz));go_upto_region 2 with ((with_reducible refine gst 32 ?_);refine gQ rfl _ _ rfl w2.heap.size 0 rfl (cf 6 K) rfl (ay _ _) (bQ _ _) (aP _ _ _ _ _ oS oD) ?_)
 generalize aA:World.setCells _ _ _ _=A;have K4:=hid (show Kp (fun _=>False) w A by rw[<-aA];exact K3 _);have T4:=hid (show A.rangeAt w.heap.size 0 (cf 8 g) by rw[<-aA];exact T3 _);have X4:=hid (show A.rangeAt w2.heap.size 0 (cf 6 K) by rw[<-aA];exact X3 _ _ oS);by_cases hE:E=0
 case neg=>
  have bB:(E==0)=false:=by simp[hE]
  go_wp2_with fail
  refine ar (v:=.int .i64 (E)) (by simp[results,Tryz.results237,go_sem]) rfl ⟨E,rfl,ER.out,dt y C K4.all⟩
 case pos=>
  subst hE;obtain⟨f,ba,bb⟩:=ET.out rfl;have ax:=hid bb;have t3:=ai T4 (dk 8 g 3 oD);rw[ha] at t3;by_cases bA:255<a
  ·have a9:(255:Int)<(a:Int):=oA;go_wp2_with fail
   refine ar (v:=.int .i64 (2)) (by simp[results,Tryz.results237,go_sem]) rfl ⟨2,rfl,oD,dt y C K4.all⟩
  ·have a9:¬(255:Int)<(a:Int):=oA;have lf:=y.w.m.tk.lf;have bJ:=iN (p:=p) (f:=f) (by rw[ax.out];decide);have aK:=hid (C.below K4.all);have aZ:∀i,i<p.IL.length->A.cell? ⟨x,i,none⟩=some (.int .i64 (p.IL.getD i 0)):=fun i hi=>by
    obtain⟨q,b,o,k,e,hq,bs⟩:=dN aK.o.IL.1;rw[P.out] at e
    cases e
    have h9:=hq oA
    cases h9
    have h8:=bs i hi;rw[aC] at h8;rw[aa,ac hi];exact h8
   have O:A.cell? ⟨wb,0,none⟩=some (.slice (some ⟨x,0,none⟩) p.IL.length k0):=by rw[<-P.out];exact ai aK.r rfl
   have y1:A.cell? ⟨w2.heap.size,1,none⟩=some (.int .i64 (f:Int)):=by rw[<-ba];exact ai X4 (dk 6 K 1 oD)
   have t1:=ai T4 (dk 8 g 1 oD);have ag:f*16+a/16<p.IL.length:=by have:=lf.IL;omega
   have bH:(f:Int)<=1000:=by have:=lf.k2;omega
   have bN:(p.IL.length:Int)<=1000:=by have:=lf.IL;have:=lf.k2;omega
   obtain⟨rv,an⟩:∃z,p.IL.getD (f*16+a/16) 0=z:=⟨_,rfl⟩
   have S:=aZ _ ag;rw[an] at S;have bh:0<=rv∧rv<=65535:=by
    rw[<-an,aa,ac ag];exact y.w.m.IL.w _ (av ag)
   obtain⟨bO,bP⟩:=bh;obtain⟨j,hj⟩:∃j:Nat,f*16+a/16=j:=⟨_,rfl⟩
   have a2:=hid (show j/16=f by omega);rw[hj] at S ag an;have bF:(j:Int)<(p.IL.length:Int):=oA;have bG:(0:Int)<=(j:Int):=oA;have bM:(a:Int).tdiv 16=(a:Int)/16:=bR oA;have bS:(f:Int)*16+(a:Int)/16=(j:Int):=oA;have RC:=hid aZ;have HJ:=hid hj;have a0:=hid ag;have az:=hid an;have KC:=hid (fun W (h:Below A.heap.size A W)=>(⟨cu h t3,cu h O,cu h S⟩:_∧_∧_));go_wp2_with fail
   refine (KB.out _ K4.all).mono ?_;rintro r l ⟨rfl,H⟩;have B4:=hid H;have K5:=hid (fun o=>aM (T:=fun _=>False) (w:=A) (b:=l.heap.size) (.inr H.size) (cf 6 L) 0 _ ((Kp.IM H).alloc o));have X5:=hid (fun z u (hz:6<=z.size)=>World.rangeAt_setCells_same (l.alloc (.cells z u)) l.heap.size 0 (cf 6 L) (by rw[ay];exact aP l z u _ 6 rfl hz));have Y5:=hid (fun z u (hz:6<=z.size)=>World.there_setCells (aP l z u _ 6 rfl hz) l.heap.size 0 (cf 6 L));go_upto_region 8 with ((with_reducible refine gst 32 ?_);refine gQ rfl _ _ rfl l.heap.size 0 rfl (cf 6 L) rfl (ay _ _) (bQ _ _) (aP _ _ _ _ _ oS oD) ?_)
   generalize aB:World.setCells _ _ _ _=I;have B5:=hid (show Below A.heap.size A I by rw[<-aB];exact (K5.out _).all);have X6:=hid (show I.rangeAt l.heap.size 0 (cf 6 L) by rw[<-aB];exact X5 _ _ oS);have Y6:=hid (show I.there l.heap.size 0 6 by rw[<-aB];exact Y5 _ _ oS);obtain⟨t3,O,S⟩:=KC.out _ B5;have bu:=cu B5 t1;have am:=hid (btr K4.all B5);by_cases hF:F=0
   ·subst hF;obtain⟨t,ao,aY⟩:=TB.out rfl;have x1:I.cell? ⟨l.heap.size,1,none⟩=some (.int .i64 (t:Int)):=by rw[<-ao];exact ai X6 (dk 6 L 1 oD)
    have aJ:=iN (p:=p) (f:=t) (by rw[aY];decide);have bT:(t:Int)<=24:=by have:=y.w.m.tk.lf.k2;omega
    have HT:=hid (show t<p.kinds.length∧p.k t=3 from⟨aJ,aY⟩);by_cases N:rv=0
    ·have a5:=hid N;have aI:(rv==0)=true:=by simp[N]
     go_upto_region 11 with fail
     have B:=hid (show Below I.heap.size I I.drew from aD I 1);have U:=hid (btr am B);have Z:=hid (show I.drew.frozen? ⟨x,j,none⟩=false from by
      have D:=(C.below U).o.IL;rw[P.out] at D;exact D.frozen j)
     have ae:=hid ((C.below U).IU P j (32768+(t:Int)));have y5:=cu B S;refine bI (R:=fun W=>W.cell? ⟨wb,0,none⟩=some (.slice (some ⟨x,0,none⟩) p.IL.length k0)∧W.cell? ⟨l.heap.size,1,none⟩=some (.int .i64 (t:Int))) [9] [0,1,2,3,4,5,6,7,8] 1 oK ⟨cu B O,cu B x1⟩ oK oK oK (fun _=>?_);generalize I.drew=W6 at*
     repeat (refine Rf.rs ?_;simp only[jj])
     refine aL ?_;refine Rf.r1 9 rfl (fun K hK=>?_);have fz:=Z.out;go_simp
     refine hK _ _ trivial (bX oK) (fun _ _=>?_)
     try simp only[jj]
     refine bc oK ?_ _
     try rw[show IntKind.i64.wrap (32768+(t:Int))=32768+(t:Int) from bZ _ oA oA]
     obtain⟨ab,al⟩:=ae.out;generalize W6.setCell ⟨x,j,none⟩ (Value.int IntKind.i64 (32768+(t:Int)))=W7 at*;have ad:=hid (show Bx p wb tag w W7 from⟨tag,V,_,(bp U).trans al,ab,y.word a0 oA (fY.2 ⟨fun _=>.inr (by rw[show 32768+(t:Int) - 32768=t by omega,lg HT.1,HT.2];rfl),fun h=>by rw[a2.out,ax.out] at h;cases h⟩) (fun _=>by rw[az.out,a5.out])⟩);go_wp2_with fail
     refine ar (v:=.int .i64 (0)) (by simp[results,Tryz.results237,go_sem]) rfl ⟨0,rfl,oD,ad.out⟩
    ·have aI:(rv==0)=false:=by simp[N]
     go_wp2_with fail
     refine ar (v:=.int .i64 (12)) (by simp[results,Tryz.results237,go_sem]) rfl ⟨12,rfl,oD,dt y C am⟩
   ·have bC:(F==0)=false:=by simp[hF]
    have a8:=X6;go_wp2_with fail
    refine (KD.out _ am).mono ?_;rintro r w6 ⟨rfl,H⟩;have B6:=hid (btr B5 H);have Y7:=hid (eg (T:=fun _=>False) Y6 (.IM H) id);have K7:=hid (aM (T:=fun _=>False) (w:=A) (b:=l.heap.size) (.inr B4.size) (cf 6 M) 0 _ (Kp.IM B6));have X7:=hid (World.rangeAt_setCells_same w6 l.heap.size 0 (cf 6 M) (by rw[ay];exact Y7));clear H t3 O S t1 bu KD TB EB X6 a8 Y6 B6;go_upto_region 14 with ((with_reducible refine gst 32 ?_);refine gQ rfl _ _ rfl l.heap.size 0 rfl (cf 6 M) rfl (ay _ _) (bQ _ _) Y7 ?_)
    generalize World.setCells w6 _ _ _=W7 at K7 X7 ⊢;clear Y7 B5 am;have B7:=hid K7.all;have aw:=hid (btr K4.all B7);clear K7;obtain⟨t3,O,S⟩:=KC.out _ B7;by_cases hG:G=0
    case neg=>
     have bD:(G==0)=false:=by simp[hG]
     go_wp2_with fail
     refine ar (v:=.int .i64 (G)) (by simp[results,Tryz.results237,go_sem]) rfl ⟨G,rfl,ED.out,dt y C aw⟩
    case pos=>
     subst hG;obtain⟨⟨c,aW,aE⟩,ap,bU⟩:=TD.out rfl;have aV:=iN (p:=p) (f:=c) (by rw[aE];decide);have bz:(c:Int)<=24:=by have:=y.w.m.tk.lf.k2;omega
     have x1:W7.cell? ⟨l.heap.size,1,none⟩=some (.int .i64 (c:Int)):=by rw[<-aW];exact ai X7 (dk 6 M 1 oD)
     have x4:=ai X7 (dk 6 M 4 oD);generalize M 4=Y at*;have aQ:=hid (show c<p.kinds.length∧p.k c=2 from⟨aV,aE⟩);clear aW aE aV TD ED X7;by_cases N:rv=0
     ·have aI:(rv==0)=true:=by simp[N]
      clear N;go_wp2_with fail
      refine ar (v:=.int .i64 (9)) (by simp[results,Tryz.results237,go_sem]) rfl ⟨9,rfl,oD,dt y C aw⟩
     ·have aI:(rv==0)=false:=by simp[N]
      obtain⟨t,ao,aX⟩:=wA y.w (f:=f) (j:=a/16) ax oA (by rw[HJ.out,az.out];exact N);rw[HJ.out,az.out] at ao;have aJ:=iN (p:=p) (f:=t) (by rw[aX];decide);have lf:=y.w.m.tk.lf;obtain⟨m,hm⟩:∃m:Nat,t*16+a%16=m:=⟨_,rfl⟩
      have aF:m<p.IL.length:=by have:=lf.IL;omega
      have aR:=hid (show m/16=t∧p.k t=3 by omega);have bk:rv%1024*16+(a:Int)%16=(m:Int):=by have:=lf.k2;omega
      have bK:(m:Int)<(p.IL.length:Int):=oA;have bL:(0:Int)<=(m:Int):=oA;obtain⟨pv,aH⟩:∃z,p.IL.getD m 0=z:=⟨_,rfl⟩
      have y3:=cu B7 (RC.out m aF);rw[aH] at y3;have aS:=hid aF;have a4:=hid aH;clear ao aX aJ lf hm aF aH N;go_upto_region 18 with fail
      refine bj oK oK ?_
      repeat (first|go_big_quiet_skip|(go_big_quiet_want;go_big_quiet_op;first|go_big_quiet_on|go_big_quiet_call (fail)))
      refine cJ ?_;intro _ bn;obtain⟨nq,bo⟩:=bn;subst bo;have B8:=hid (aG (af W7.heap.size W7) nq);have z0:=cu B8 O;have z3:=cu B8 y3;have z1:=cu B8 x1;have z4:=cu B8 x4;clear O y3 S t3 x1 x4 bk;generalize W7.drewN nq=X at*;have aN:=hid (btr aw B8);by_cases ah:pv=0
      case neg=>
       have bg:(pv==0)=false:=by simp[ah]
       clear ah;go_wp2_with fail
       refine ar (v:=.int .i64 (12)) (by simp[results,Tryz.results237,go_sem]) rfl ⟨12,rfl,oD,dt y C aN⟩
      case pos=>
       have a3:=hid ah;have bg:(pv==0)=true:=by simp[ah]
       clear ah;have aU:=hid (fun (v:Int) (h1:0<=v∧v<=65535) (D:isB p (v - 32768) 2=true∨isB p (v - 32768 - 16384) 2=true)=>y.word (i:=m) (v:=v) aS h1 (fY.2 ⟨fun h=>(by rw[aR.1,aR.2] at h;cases h),fun _=>.inr D⟩) (fun _=>by rw[a4.out,a3.out]));have aT:=hid (show isB p (c:Int) 2=true by rw[lg aQ.1,aQ.2];rfl);go_upto_region 21 with fail
       have B:=hid (show Below X.heap.size X X.drew from aD X 1);have U:=hid (btr aN B);have Z:=hid (show X.drew.frozen? ⟨x,m,none⟩=false from by
        have D:=(C.below U).o.IL;rw[P.out] at D;exact D.frozen m)
       have ae:=hid ((C.below U).IU P m (32768+(c:Int)));have y5:=cu B z3;have bv:=cu B z4;have bW:=cu B z0;have CN:=hid (du (w:=X.drew) ⟨x,m,none⟩ (.int .i64 (32768+(c:Int))) y5);refine bI (R:=fun W=>W.cell? ⟨wb,0,none⟩=some (.slice (some ⟨x,0,none⟩) p.IL.length k0)∧W.cell? ⟨l.heap.size,1,none⟩=some (.int .i64 (c:Int))) [9] [0,1,2,3,4,5,6,7,8] 1 oK ⟨cu B z0,cu B z1⟩ oK oK oK (fun _=>?_);generalize X.drew=W9 at*
       repeat (refine Rf.rs ?_;simp only[jj])
       refine aL ?_;refine Rf.r1 9 rfl (fun K hK=>?_);have fz:=Z.out;go_simp
       refine hK _ _ trivial (bX oK) (fun _ _=>?_)
       try simp only[jj]
       refine bc oK ?_ _
       try rw[show IntKind.i64.wrap (32768+(c:Int))=32768+(c:Int) from bZ _ oA oA]
       obtain⟨ab,al⟩:=ae.out;have KX:=hid (show W9.cell? ⟨l.heap.size,4,none⟩=some (.int .i64 Y)->(W9.setCell ⟨x,m,none⟩ (Value.int IntKind.i64 (32768+(c:Int)))).cell? ⟨l.heap.size,4,none⟩=some (.int .i64 Y) from fun h=>(aO W9 _ _ _ (by intro e;have:=dF Addr.block e;simp only at this;have h1:=(aj _ _ (RC.out m aS));simp only at h1;have D:=B4.size;omega)).trans h);have bV:=KX.out bv;generalize W9.setCell ⟨x,m,none⟩ (Value.int IntKind.i64 (32768+(c:Int)))=Q at*;have KT:=hid ((bp (tag:=tag) U).trans al);have aq:=hid ab;have O:Q.cell? ⟨wb,0,none⟩=some (.slice (some ⟨x,0,none⟩) p.IL.length k0):=by rw[<-P.out];exact ai ab.r rfl
       have cn:=CN.out;by_cases hw:(Y.tdiv 2).tmod 2=1
       case neg=>
        have ad:=hid (show Bx p wb tag w Q from⟨tag,V,_,KT.out,aq.out,aU.out _ oA (.inl (by rw[show 32768+(c:Int) - 32768=c by omega];exact aT))⟩);have bq:((Y.tdiv 2).tmod 2==1)=false:=by simp[hw]
        have br:¬Y/2%2=1:=by rw[<-bR ap, <-cZ (by rw[bR ap];omega)];exact hw
        clear hw;go_wp2_with fail
        refine ar (v:=.int .i64 (0)) (by simp[results,Tryz.results237,go_sem]) rfl ⟨0,rfl,oD,ad.out⟩
       case pos=>
        have br:Y/2%2=1:=by rw[<-bR ap, <-cZ (by rw[bR ap];omega)];exact hw
        have bq:((Y.tdiv 2).tmod 2==1)=true:=by simp[hw]
        clear hw;go_upto_region 23 with fail
        have BE:=hid (show Below Q.heap.size Q Q.drew from aD Q 1);have E9:=hid (show V 0=.slice (some ⟨x,0,none⟩) (p.IL.set m (32768+(c:Int))).length k0 by rw[au];exact P);have Z:=hid (show Q.drew.frozen? ⟨x,m,none⟩=false from by
         have D:=(aq.below BE).o.IL;rw[E9.out] at D;exact D.frozen m)
        have ae:=hid ((aq.below BE).IU E9 m (32768+(c:Int)+16384));have y5:=cu BE cn;refine bI (R:=fun W=>W.cell? ⟨wb,0,none⟩=some (.slice (some ⟨x,0,none⟩) p.IL.length k0)∧W.cell? ⟨x,m,none⟩=some (.int .i64 (32768+(c:Int)))) [14] [0,1,2,3,4,5,6,7,8,9,10,11,12,13] 1 oK ⟨cu BE O,y5⟩ oK oK oK (fun _=>?_);generalize Q.drew=a6 at*
        repeat (refine Rf.rs ?_;simp only[jj])
        refine aL ?_;refine Rf.r1 14 rfl (fun K hK=>?_);have fz:=Z.out;go_simp
        refine hK _ _ trivial (bX oK) (fun _ _=>?_);clear hK K fz y5 Z
        try simp only[jj]
        refine bc oK ?_ _
        try rw[show IntKind.i64.wrap (32768+(c:Int)+16384)=32768+(c:Int)+16384 from bZ _ oA oA]
        obtain⟨ab,al⟩:=ae.out;generalize a6.setCell ⟨x,m,none⟩ (Value.int IntKind.i64 (32768+(c:Int)+16384))=a7 at*;have ad:=hid (show Bx p wb tag w a7 from⟨tag,V,{p with IL:=p.IL.set m (32768+(c:Int)+16384)},(KT.trans (bp BE)).trans al,by have h:=ab;simp only[ep] at h;exact h,aU.out _ oA (.inr (by rw[show 32768+(c:Int)+16384 - 32768 - 16384=c by omega];exact aT))⟩);go_wp2_with fail
        refine ar (v:=.int .i64 (0)) (by simp[results,Tryz.results237,go_sem]) rfl ⟨0,rfl,oD,ad.out⟩
theorem tO {W:World} {g b o a:Nat} {v x:Value} (h:W.cell? ⟨b,a,none⟩=some x) (c:b≠g):(W.setCell ⟨g,o,none⟩ v).cell? ⟨b,a,none⟩=some x:=(aO W _ _ _ (by intro e;have:=dF Addr.block e;exact c this.symm)).trans h
theorem _root_.Go.Proofs.YtnccmdndkmmhcaaGreatDoor.eK:type_of% @tO:= @tO
theorem mc {W:World} {g o a:Nat} {v x:Value} (h:W.cell? ⟨g,a,none⟩=some x) (b:a≠o):(W.setCell ⟨g,o,none⟩ v).cell? ⟨g,a,none⟩=some x:=(aO W _ _ _ (by intro e;have:=dF Addr.off e;exact b this.symm)).trans h
structure Eq1 (p q:PW):Prop where
 s:Sm p q
 k:q.kinds=p.kinds
 l:q.II.length=p.II.length
theorem Eq1.has {p q:PW} (h:Eq1 p q) {u:Nat} (a:p.k u=6) {k:Nat} {v:Int} (hk:k≠9∧k≠10∧k≠14∧k≠17∧k≠18) (hv:fOk q k v=true):Eq1 p (q.task u k v):=
 ⟨h.s.trans (h.s.w.has (by show q.kinds.getD u 0=6;rw[h.k];exact a) hk hv),h.k,by show (List.set ..).length=_;rw[au];exact h.l⟩
theorem Eq1.or {p q:PW} (h:Eq1 p q) {f:Nat} {k:Int} (hl:f<p.kinds.length) (a:p.k f=k):fB q (f:Int) k=true:=by
 unfold fB;rw[lg (by rw[h.k];exact hl),show q.k f=k by show q.kinds.getD f 0=k;rw[h.k];exact a];simp
theorem sy (wb:Nat) (tag:Nat->Nat) (V:Nat->Value) (p:PW) (t:Nat) (g:Nat->Int) (w:World) (bt:cb w wb tag V p) (S:Lv p) (h6:p.k t=6) (hg:∀k,k<8->0<=g k∧g k<=65535):
  Calls Tryz.prog 239 #[.pointer (some ⟨wb,0,none⟩),.int .i64 (t:Int),.agg (cf 8 g).toArray] w fun r w'=>Okd p wb tag w r w':=by
 have lf:=S.w.m.tk.lf;have HV:=hid (bt.view S.w.fits S.w.I8);have BT:=hid bt;have HP:=hid S;obtain⟨c,kt,e3⟩:∃g cap,V 3=.slice (some ⟨g,0,none⟩) p.II.length cap:=bt.o.II.form (by have:=lf.II;have:=lf.k1;show 0<p.II.length;omega)
 have E3:=hid e3;have au:=iN (p:=p) (f:=t) (by rw[h6];decide);have bu:(t:Int)<(p.II.length:Int):=by have:=lf.II;omega
 have bv:(p.II.length:Int)<=1000:=by have:=lf.II;have:=lf.k2;omega
 have J:=hid (show p.II.length=p.kinds.length from by have:=lf.II;omega);have B0:=hid (bal (af w.heap.size w) (.cells (cf 8 g).toArray 35));have T0:=hid (hY w (cf 8 g) 35 _ rfl);have CT:=hid (fun i k (hi:i<p.II.length) (hk:k<20)=>cu B0 (bt.IS e3 hi hk));have D:=cu B0 (show w.cell? ⟨wb,3,none⟩=some (.slice (some ⟨c,0,none⟩) p.II.length kt) by rw[<-e3];exact ai bt.r rfl);have td:=CT.out t 11 (by rw[J.out];exact au) oD;have aO:=hid (S.w.m.tk.a.ok t h6 19 oD);have aq:=hid (show c<w.heap.size from aj _ _ (bt.IS e3 (i:=t) (k:=11) (by rw[J.out];exact au) oD));have t1:=ai T0 (dk 8 g 1 oD);have aX:=hid (fun W (h:Below w.heap.size w W)=>fC wb V p (p.t t 11) (g 1) 6 2 W (HV.below h) S.s);have ax:=hid (gD p (p.t t 11) (g 1) 6 2);have aE:=hid (fun h=>kE S.w (n:=p.t t 11) (a:=g 1) (k:=6) (r:=2) oD h);have t2:=ai T0 (dk 8 g 2 oD);have aY:=hid (fun W (h:Below w.heap.size w W)=>fC wb V p (p.t t 11) (g 2) 5 4 W (HV.below h) S.s);have az:=hid (gD p (p.t t 11) (g 2) 5 4);have aF:=hid (fun h=>kE S.w (n:=p.t t 11) (a:=g 2) (k:=5) (r:=4) oD h);have t3:=ai T0 (dk 8 g 3 oD);have aZ:=hid (fun W (h:Below w.heap.size w W)=>fC wb V p (p.t t 11) (g 3) 4 4 W (HV.below h) S.s);have aA:=hid (gD p (p.t t 11) (g 3) 4 4);have aH:=hid (fun h=>kE S.w (n:=p.t t 11) (a:=g 3) (k:=4) (r:=4) oD h);have t4:=ai T0 (dk 8 g 4 oD);have a0:=hid (fun W (h:Below w.heap.size w W)=>fC wb V p (p.t t 11) (g 4) 7 6 W (HV.below h) S.s);have aC:=hid (gD p (p.t t 11) (g 4) 7 6);have aI:=hid (fun h=>kE S.w (n:=p.t t 11) (a:=g 4) (k:=7) (r:=6) oD h);have A:=ai T0 (dk 8 g 5 oD);have y:=CT.out t 19 (by rw[J.out];exact au) oD;have aQ:=hid (hg 5 oD);generalize (kAt p (p.t t 11) (g 1) 6 2).2=am at*;generalize (kAt p (p.t t 11) (g 1) 6 2).1=K1 at*;generalize (kAt p (p.t t 11) (g 2) 5 4).2=an at*;generalize (kAt p (p.t t 11) (g 2) 5 4).1=K2 at*;generalize (kAt p (p.t t 11) (g 3) 4 4).2=ao at*;generalize (kAt p (p.t t 11) (g 3) 4 4).1=K3 at*;generalize (kAt p (p.t t 11) (g 4) 7 6).2=ap at*;generalize (kAt p (p.t t 11) (g 4) 7 6).1=K4 at*;change ((w.alloc (.cells (cf 8 g).toArray 35)).cell? ⟨c,t*20+11,none⟩=some (.int .i64 (p.t t 11))) at td;change ((w.alloc (.cells (cf 8 g).toArray 35)).cell? ⟨c,t*20+19,none⟩=some (.int .i64 (p.t t 19))) at y;generalize p.t t 11=d at*;generalize p.t t 19=ab at*;clear bt S e3 hg lf au h6 HV;go_enter Tryz.func239,Tryz.ntmps239
 go_wp2_with fail
 generalize World.alloc _ _=W0 at*;refine (aX.out _ B0).mono ?_;rintro r w1 ⟨rfl,L⟩;have KX:=zJ L K1;have a3:=hid (aB B0.size L.size);clear L;go_upto_region 3 with ((with_reducible refine gst 32 ?_);refine gQ rfl _ _ rfl w1.heap.size 0 rfl (cf 6 K1) rfl (ay _ _) (bQ _ _) (aP _ _ _ _ _ oS oD) ?_)
 generalize hW:World.setCells _ _ _ _=W1;obtain⟨e,XX⟩:=KX.out _ _ _ hW oS;clear hW KX;have B1:=hid (btr B0 e);replace D:=cu e D;replace td:=cu e td;replace t1:=cu e t1;replace t2:=cu e t2;replace t3:=cu e t3;replace t4:=cu e t4;replace A:=cu e A;replace y:=cu e y;have j:=ai XX (dk 6 K1 1 oD);have C1:=e;clear XX e;by_cases hE:am=0
 case neg=>
  have av:(am==0)=false:=by simp[hE]
  go_wp2_with fail
  refine ar (v:=.int .i64 (am)) (by simp[results,Tryz.results239,go_sem]) rfl ⟨am,rfl,ax.out,dt HP BT B1⟩
 case pos=>
  subst hE;obtain⟨u,aa,M⟩:=aE.out rfl;rw[aa] at j;have ah:=hid M;have U:=hid (iN (p:=p) (f:=u) (by rw[M];decide));clear aa M aE ax;have bz:(u:Int)<(p.II.length:Int):=by have:=J.out;have:=U.out;omega
  obtain⟨sv,aK⟩:∃z,p.t u 9=z:=⟨_,rfl⟩
  have x9:W0.cell? ⟨c,u*20+9,none⟩=some (.int .i64 sv):=by rw[<-aK];exact CT u 9 (by rw[J.out];exact U) oD
  replace x9:=cu C1 x9;clear C1 aK CT;go_upto_region 5 with fail
  refine bj oK oK ?_
  repeat (first|go_big_quiet_skip|(go_big_quiet_want;go_big_quiet_op;first|go_big_quiet_on|go_big_quiet_call (fail)))
  refine cJ ?_;intro _ bh;obtain⟨nq,bk⟩:=bh;subst bk;have x:=hid (aG (af W1.heap.size W1) nq);replace D:=cu x D;replace td:=cu x td;replace t1:=cu x t1;replace t2:=cu x t2;replace t3:=cu x t3;replace t4:=cu x t4;replace A:=cu x A;replace y:=cu x y;replace j:=cu x j;have al:=hid (btr B1 x);clear x9 B1;generalize W1.drewN nq=bs at*;clear x;by_cases aw:sv=0
  case neg=>
   have bg:(sv==0)=false:=by simp[aw]
   go_wp2_with fail
   refine ar (v:=.int .i64 (7)) (by simp[results,Tryz.results239,go_sem]) rfl ⟨7,rfl,oD,dt HP BT al⟩
  case pos=>
   have bg:(sv==0)=true:=by simp[aw]
   clear aw;go_wp2_with fail
   refine (aY.out _ al).mono ?_;rintro r w2 ⟨rfl,L⟩;have KX:=zJ L K2;have a4:=hid (aB al.size L.size);clear L;go_upto_region 8 with ((with_reducible refine gst 32 ?_);refine gQ rfl _ _ rfl w2.heap.size 0 rfl (cf 6 K2) rfl (ay _ _) (bQ _ _) (aP _ _ _ _ _ oS oD) ?_)
   generalize hW:World.setCells _ _ _ _=W2;obtain⟨e,XX⟩:=KX.out _ _ _ hW oS;clear hW KX;have B2:=hid (btr al e);replace D:=cu e D;replace td:=cu e td;replace t1:=cu e t1;replace t2:=cu e t2;replace t3:=cu e t3;replace t4:=cu e t4;replace A:=cu e A;replace y:=cu e y;replace j:=cu e j;have C:=ai XX (dk 6 K2 1 oD);clear XX e;by_cases hE:an=0
   case neg=>
    have av:(an==0)=false:=by simp[hE]
    go_wp2_with fail
    refine ar (v:=.int .i64 (an)) (by simp[results,Tryz.results239,go_sem]) rfl ⟨an,rfl,az.out,dt HP BT B2⟩
   case pos=>
    subst hE;obtain⟨Y,aa,M⟩:=aF.out rfl;rw[aa] at C;have aR:=hid M;have aU:=hid (iN (p:=p) (f:=Y) (by rw[M];decide));clear aa M aF az;go_wp2_with fail
    refine (aZ.out _ B2).mono ?_;rintro r w3 ⟨rfl,L⟩;have KX:=zJ L K3;have a5:=hid (aB B2.size L.size);clear L;go_upto_region 11 with ((with_reducible refine gst 32 ?_);refine gQ rfl _ _ rfl w3.heap.size 0 rfl (cf 6 K3) rfl (ay _ _) (bQ _ _) (aP _ _ _ _ _ oS oD) ?_)
    generalize hW:World.setCells _ _ _ _=W3;obtain⟨e,XX⟩:=KX.out _ _ _ hW oS;clear hW KX;have B3:=hid (btr B2 e);replace D:=cu e D;replace td:=cu e td;replace t1:=cu e t1;replace t2:=cu e t2;replace t3:=cu e t3;replace t4:=cu e t4;replace A:=cu e A;replace y:=cu e y;replace j:=cu e j;replace C:=cu e C;have E:=ai XX (dk 6 K3 1 oD);clear XX e;by_cases hE:ao=0
    case neg=>
     have av:(ao==0)=false:=by simp[hE]
     go_wp2_with fail
     refine ar (v:=.int .i64 (ao)) (by simp[results,Tryz.results239,go_sem]) rfl ⟨ao,rfl,aA.out,dt HP BT B3⟩
    case pos=>
     subst hE;obtain⟨Z,aa,M⟩:=aH.out rfl;rw[aa] at E;have aS:=hid M;have aV:=hid (iN (p:=p) (f:=Z) (by rw[M];decide));clear aa M aH aA
     go_upto_if 68 with fail
     go_cut [12] (fun h wx=>∃z:Int,h=.int .i64 z∧Hid (z= -1∨∃zz:Nat,z=zz∧zz<p.kinds.length∧p.k zz=7)∧Hid (Below W3.heap.size W3 wx))
     case first=>
      by_cases h4:g 4=65535
      case pos=>
       have bb:(g 4==65535)=true:=by simp[h4]
       have bf:(g 4 !=65535)=false:=by simp[h4]
       go_wp2_with fail
       go_meet
       exact⟨-1,rfl,hid (.inl rfl),hid (af _ _)⟩
      case neg=>
       have bb:(g 4==65535)=false:=by simp[h4]
       have bf:(g 4 !=65535)=true:=by simp[h4]
       clear h4;go_wp2_with fail
       refine (a0.out _ B3).mono ?_;rintro r w4 ⟨rfl,L⟩;have KX:=zJ L K4;have br:=hid (aB B3.size L.size);clear L;go_upto_region 16 with ((with_reducible refine gst 32 ?_);refine gQ rfl _ _ rfl w4.heap.size 0 rfl (cf 6 K4) rfl (ay _ _) (bQ _ _) (aP _ _ _ _ _ oS oD) ?_)
       generalize hW:World.setCells _ _ _ _=W4;obtain⟨e,XX⟩:=KX.out _ _ _ hW oS;clear hW KX;have B4:=hid (btr B3 e);replace D:=cu e D;replace td:=cu e td;replace t1:=cu e t1;replace t2:=cu e t2;replace t3:=cu e t3;replace t4:=cu e t4;replace A:=cu e A;replace y:=cu e y;replace j:=cu e j;replace C:=cu e C;replace E:=cu e E;have bo:=ai XX (dk 6 K4 1 oD);have aM:=e;clear XX e;by_cases hE:ap=0
       case neg=>
        have av:(ap==0)=false:=by simp[hE]
        go_wp2_with fail
        refine ar (v:=.int .i64 (ap)) (by simp[results,Tryz.results239,go_sem]) rfl ⟨ap,rfl,aC.out,dt HP BT B4⟩
       case pos=>
        subst hE;obtain⟨zz,aa,M⟩:=aI.out rfl;rw[aa] at bo;have aT:=hid M;have aW:=hid (iN (p:=p) (f:=zz) (by rw[M];decide));clear aa M aI aC;go_wp2_with fail
        go_meet
        exact⟨zz,rfl,hid (.inr ⟨zz,rfl,aW.out,aT.out⟩),aM⟩
     case rest=>
      obtain⟨z,hz,HZ,HB⟩:=hcut;subst hz;generalize wc=W4 at*;replace D:=cu HB D;replace A:=cu HB A;replace y:=cu HB y;replace j:=cu HB j;replace C:=cu HB C;replace E:=cu HB E;replace B3:=hid (btr B3 HB);have aN:∃q,Eq1 p q∧cb W4 wb tag V q:=⟨p,⟨Sm.refl HP,rfl,rfl⟩,BT.below B3⟩;obtain⟨q,hq,bq⟩:=aN;have B:=hid hq;have x:=hid bq;have X:=hid (bp (tag:=tag) B3);have N1:=hid (show w1.heap.size≠c by have:=a3.out;have:=aq.out;omega);have N2:=hid (show w2.heap.size≠c by have:=a4.out;have:=aq.out;omega);have N3:=hid (show w3.heap.size≠c by have:=a5.out;have:=aq.out;omega);have N5:=hid (show w.heap.size≠c by have:=aq.out;omega);clear hq bq t1 t2 t3 t4 td;go_upto_region 19 with fail
      have b:=hid (show Below W4.heap.size W4 W4.drew from aD W4 1);have F:=hid (show V 3=.slice (some ⟨c,0,none⟩) q.II.length kt by rw[B.l];exact E3);have O:=hid (show W4.drew.frozen? ⟨c,u*20+11,none⟩=false from by
       have I:=(x.below b).o.II;rw[F.out] at I;exact I.frozen (u*20+11))
      have N:=hid ((x.below b).task F (i:=u) (k:=11) (by rw[B.l,J.out];exact U) oD (Y:Int));have y5:=(x.below b).IS F (i:=u) (k:=11) (by rw[B.l,J.out];exact U) oD;have P:=hid (B.has (u:=u) ah (k:=11) (v:=(Y:Int)) oD (by unfold fOk;simpa using B.or aU aR));have G:=hid (show (fun W=>W.cell? ⟨wb,3,none⟩=some (.slice (some ⟨c,0,none⟩) p.II.length kt)∧W.cell? ⟨w1.heap.size,1,none⟩=some (.int .i64 (u:Int))∧W.cell? ⟨w2.heap.size,1,none⟩=some (.int .i64 (Y:Int))) W4.drew from⟨cu b D,cu b j,cu b C⟩);refine bI (R:=fun W=>W.cell? ⟨wb,3,none⟩=some (.slice (some ⟨c,0,none⟩) p.II.length kt)∧W.cell? ⟨w1.heap.size,1,none⟩=some (.int .i64 (u:Int))∧W.cell? ⟨w2.heap.size,1,none⟩=some (.int .i64 (Y:Int))) [10] [0,1,2,3,4,5,6,7] 3 oK G oK oK oK (fun _=>?_);replace j:=cu b j;replace C:=cu b C;replace E:=cu b E;replace A:=cu b A;replace y:=cu b y;clear D;generalize W4.drew=a6 at*
      repeat (refine Rf.rs ?_;simp only[jj])
      refine aL ?_;refine bN oK _ G [8,9] 1 _ _ oK ?_
      repeat (refine Rf.rs ?_;simp only[jj])
      refine aL ?_;refine Rf.r1 10 rfl (fun K Q=>?_);have fz:=O.out;go_simp
      refine Q _ _ trivial (bX oK) (fun _ _=>?_);clear Q K fz y5 O G
      try simp only[jj]
      refine bc oK ?_ _;replace j:=eK (g:=c) (o:=u*20+11) (v:=.int .i64 (Y:Int)) j N1;replace C:=eK (g:=c) (o:=u*20+11) (v:=.int .i64 (Y:Int)) C N2;replace E:=eK (g:=c) (o:=u*20+11) (v:=.int .i64 (Y:Int)) E N3;replace A:=eK (g:=c) (o:=u*20+11) (v:=.int .i64 (Y:Int)) A N5;replace y:=mc (o:=u*20+11) (v:=.int .i64 (Y:Int)) y oA;obtain⟨H,T⟩:=N.out;generalize a6.setCell ⟨c,u*20+11,none⟩ (Value.int IntKind.i64 (Y:Int))=ac at*;replace X:=hid ((X.trans (bp b)).trans T);replace x:=hid H;replace B:=P;have D:ac.cell? ⟨wb,3,none⟩=some (.slice (some ⟨c,0,none⟩) p.II.length kt):=by rw[<-E3.out];exact ai H.r rfl
      clear H T N P F b;generalize q.task u 11 (Y:Int)=q at*;go_upto_region 20 with fail
      have b:=hid (show Below ac.heap.size ac ac.drew from aD ac 1);have F:=hid (show V 3=.slice (some ⟨c,0,none⟩) q.II.length kt by rw[B.l];exact E3);have O:=hid (show ac.drew.frozen? ⟨c,u*20+12,none⟩=false from by
       have I:=(x.below b).o.II;rw[F.out] at I;exact I.frozen (u*20+12))
      have N:=hid ((x.below b).task F (i:=u) (k:=12) (by rw[B.l,J.out];exact U) oD (Z:Int));have y5:=(x.below b).IS F (i:=u) (k:=12) (by rw[B.l,J.out];exact U) oD;have P:=hid (B.has (u:=u) ah (k:=12) (v:=(Z:Int)) oD (by unfold fOk;simpa using B.or aV aS));have G:=hid (show (fun W=>W.cell? ⟨wb,3,none⟩=some (.slice (some ⟨c,0,none⟩) p.II.length kt)∧W.cell? ⟨w1.heap.size,1,none⟩=some (.int .i64 (u:Int))∧W.cell? ⟨w3.heap.size,1,none⟩=some (.int .i64 (Z:Int))) ac.drew from⟨cu b D,cu b j,cu b E⟩);refine bI (R:=fun W=>W.cell? ⟨wb,3,none⟩=some (.slice (some ⟨c,0,none⟩) p.II.length kt)∧W.cell? ⟨w1.heap.size,1,none⟩=some (.int .i64 (u:Int))∧W.cell? ⟨w3.heap.size,1,none⟩=some (.int .i64 (Z:Int))) [10] [0,1,2,3,4,5,6,7] 3 oK G oK oK oK (fun _=>?_);replace j:=cu b j;replace C:=cu b C;replace E:=cu b E;replace A:=cu b A;replace y:=cu b y;clear D;generalize ac.drew=a7 at*
      repeat (refine Rf.rs ?_;simp only[jj])
      refine aL ?_;refine bN oK _ G [8,9] 1 _ _ oK ?_
      repeat (refine Rf.rs ?_;simp only[jj])
      refine aL ?_;refine Rf.r1 10 rfl (fun K Q=>?_);have fz:=O.out;go_simp
      refine Q _ _ trivial (bX oK) (fun _ _=>?_);clear Q K fz y5 O G
      try simp only[jj]
      refine bc oK ?_ _;replace j:=eK (g:=c) (o:=u*20+12) (v:=.int .i64 (Z:Int)) j N1;replace C:=eK (g:=c) (o:=u*20+12) (v:=.int .i64 (Z:Int)) C N2;replace E:=eK (g:=c) (o:=u*20+12) (v:=.int .i64 (Z:Int)) E N3;replace A:=eK (g:=c) (o:=u*20+12) (v:=.int .i64 (Z:Int)) A N5;replace y:=mc (o:=u*20+12) (v:=.int .i64 (Z:Int)) y oA;obtain⟨H,T⟩:=N.out;generalize a7.setCell ⟨c,u*20+12,none⟩ (Value.int IntKind.i64 (Z:Int))=ad at*;replace X:=hid ((X.trans (bp b)).trans T);replace x:=hid H;replace B:=P;have D:ad.cell? ⟨wb,3,none⟩=some (.slice (some ⟨c,0,none⟩) p.II.length kt):=by rw[<-E3.out];exact ai H.r rfl
      clear H T N P F b;generalize q.task u 12 (Z:Int)=q at*;go_upto_region 21 with fail
      have b:=hid (show Below ad.heap.size ad ad.drew from aD ad 1);have F:=hid (show V 3=.slice (some ⟨c,0,none⟩) q.II.length kt by rw[B.l];exact E3);have O:=hid (show ad.drew.frozen? ⟨c,u*20+13,none⟩=false from by
       have I:=(x.below b).o.II;rw[F.out] at I;exact I.frozen (u*20+13))
      have N:=hid ((x.below b).task F (i:=u) (k:=13) (by rw[B.l,J.out];exact U) oD z);have y5:=(x.below b).IS F (i:=u) (k:=13) (by rw[B.l,J.out];exact U) oD;have P:=hid (B.has (u:=u) ah (k:=13) (v:=z) oD (HZ.elim (fun h=>by subst h;unfold fOk fB;simp) (fun ⟨zz,hz,h1,I⟩=>by subst hz;unfold fOk;simpa using B.or h1 I)));have G:=hid (show (fun W=>W.cell? ⟨wb,3,none⟩=some (.slice (some ⟨c,0,none⟩) p.II.length kt)∧W.cell? ⟨w1.heap.size,1,none⟩=some (.int .i64 (u:Int))∧W.cell? ⟨wb,3,none⟩=some (.slice (some ⟨c,0,none⟩) p.II.length kt)) ad.drew from⟨cu b D,cu b j,cu b D⟩);refine bI (R:=fun W=>W.cell? ⟨wb,3,none⟩=some (.slice (some ⟨c,0,none⟩) p.II.length kt)∧W.cell? ⟨w1.heap.size,1,none⟩=some (.int .i64 (u:Int))∧W.cell? ⟨wb,3,none⟩=some (.slice (some ⟨c,0,none⟩) p.II.length kt)) [9] [0,1,2,3,4,5,6] 3 oK G oK oK oK (fun _=>?_);replace j:=cu b j;replace C:=cu b C;replace E:=cu b E;replace A:=cu b A;replace y:=cu b y;clear D;generalize ad.drew=a8 at*
      repeat (refine Rf.rs ?_;simp only[jj])
      refine aL ?_;refine bN oK _ G [7,8] 1 _ _ oK ?_
      repeat (refine Rf.rs ?_;simp only[jj])
      refine aL ?_;refine Rf.r1 9 rfl (fun K Q=>?_);have fz:=O.out;go_simp
      refine Q _ _ trivial (bX oK) (fun _ _=>?_);clear Q K fz y5 O G
      try simp only[jj]
      refine bc oK ?_ _;replace j:=eK (g:=c) (o:=u*20+13) (v:=.int .i64 z) j N1;replace C:=eK (g:=c) (o:=u*20+13) (v:=.int .i64 z) C N2;replace E:=eK (g:=c) (o:=u*20+13) (v:=.int .i64 z) E N3;replace A:=eK (g:=c) (o:=u*20+13) (v:=.int .i64 z) A N5;replace y:=mc (o:=u*20+13) (v:=.int .i64 z) y oA;obtain⟨H,T⟩:=N.out;generalize a8.setCell ⟨c,u*20+13,none⟩ (Value.int IntKind.i64 z)=ae at*;replace X:=hid ((X.trans (bp b)).trans T);replace x:=hid H;replace B:=P;have D:ae.cell? ⟨wb,3,none⟩=some (.slice (some ⟨c,0,none⟩) p.II.length kt):=by rw[<-E3.out];exact ai H.r rfl
      clear H T N P F b;generalize q.task u 13 z=q at*;go_upto_region 22 with fail
      have b:=hid (show Below ae.heap.size ae ae.drew from aD ae 1);have F:=hid (show V 3=.slice (some ⟨c,0,none⟩) q.II.length kt by rw[B.l];exact E3);have O:=hid (show ae.drew.frozen? ⟨c,u*20+8,none⟩=false from by
       have I:=(x.below b).o.II;rw[F.out] at I;exact I.frozen (u*20+8))
      have N:=hid ((x.below b).task F (i:=u) (k:=8) (by rw[B.l,J.out];exact U) oD (g 5));have y5:=(x.below b).IS F (i:=u) (k:=8) (by rw[B.l,J.out];exact U) oD;have P:=hid (B.has (u:=u) ah (k:=8) (v:=(g 5)) oD (by unfold fOk wB;simpa using aQ.out));have G:=hid (show (fun W=>W.cell? ⟨wb,3,none⟩=some (.slice (some ⟨c,0,none⟩) p.II.length kt)∧W.cell? ⟨w1.heap.size,1,none⟩=some (.int .i64 (u:Int))∧W.cell? ⟨w.heap.size,5,none⟩=some (.int .i64 (g 5))) ae.drew from⟨cu b D,cu b j,cu b A⟩);refine bI (R:=fun W=>W.cell? ⟨wb,3,none⟩=some (.slice (some ⟨c,0,none⟩) p.II.length kt)∧W.cell? ⟨w1.heap.size,1,none⟩=some (.int .i64 (u:Int))∧W.cell? ⟨w.heap.size,5,none⟩=some (.int .i64 (g 5))) [10] [0,1,2,3,4,5,6,7] 3 oK G oK oK oK (fun _=>?_);replace j:=cu b j;replace C:=cu b C;replace E:=cu b E;replace A:=cu b A;replace y:=cu b y;clear D;generalize ae.drew=a9 at*
      repeat (refine Rf.rs ?_;simp only[jj])
      refine aL ?_;refine bN oK _ G [8,9] 1 _ _ oK ?_
      repeat (refine Rf.rs ?_;simp only[jj])
      refine aL ?_;refine Rf.r1 10 rfl (fun K Q=>?_);have fz:=O.out;go_simp
      refine Q _ _ trivial (bX oK) (fun _ _=>?_);clear Q K fz y5 O G
      try simp only[jj]
      refine bc oK ?_ _;replace j:=eK (g:=c) (o:=u*20+8) (v:=.int .i64 (g 5)) j N1;replace C:=eK (g:=c) (o:=u*20+8) (v:=.int .i64 (g 5)) C N2;replace E:=eK (g:=c) (o:=u*20+8) (v:=.int .i64 (g 5)) E N3;replace A:=eK (g:=c) (o:=u*20+8) (v:=.int .i64 (g 5)) A N5;replace y:=mc (o:=u*20+8) (v:=.int .i64 (g 5)) y oA;obtain⟨H,T⟩:=N.out;generalize a9.setCell ⟨c,u*20+8,none⟩ (Value.int IntKind.i64 (g 5))=ag at*;replace X:=hid ((X.trans (bp b)).trans T);replace x:=hid H;replace B:=P;have D:ag.cell? ⟨wb,3,none⟩=some (.slice (some ⟨c,0,none⟩) p.II.length kt):=by rw[<-E3.out];exact ai H.r rfl
      clear H T N P F b;generalize q.task u 8 (g 5)=q at*;go_upto_region 23 with fail
      have b:=hid (show Below ag.heap.size ag ag.drew from aD ag 1);have F:=hid (show V 3=.slice (some ⟨c,0,none⟩) q.II.length kt by rw[B.l];exact E3);have O:=hid (show ag.drew.frozen? ⟨c,u*20+19,none⟩=false from by
       have I:=(x.below b).o.II;rw[F.out] at I;exact I.frozen (u*20+19))
      have N:=hid ((x.below b).task F (i:=u) (k:=19) (by rw[B.l,J.out];exact U) oD ab);have y5:=(x.below b).IS F (i:=u) (k:=19) (by rw[B.l,J.out];exact U) oD;have P:=hid (B.has (u:=u) ah (k:=19) (v:=ab) oD (by have h:=aO.out;unfold fOk at h ⊢;simpa using h));have G:=hid (show (fun W=>W.cell? ⟨wb,3,none⟩=some (.slice (some ⟨c,0,none⟩) p.II.length kt)∧W.cell? ⟨w1.heap.size,1,none⟩=some (.int .i64 (u:Int))∧W.cell? ⟨c,t*20+19,none⟩=some (.int .i64 ab)) ag.drew from⟨cu b D,cu b j,cu b y⟩);refine bI (R:=fun W=>W.cell? ⟨wb,3,none⟩=some (.slice (some ⟨c,0,none⟩) p.II.length kt)∧W.cell? ⟨w1.heap.size,1,none⟩=some (.int .i64 (u:Int))∧W.cell? ⟨c,t*20+19,none⟩=some (.int .i64 ab)) [16] [0,1,2,3,4,5,6,7,8,9,10] 6 oK G oK oK oK (fun _=>?_);replace j:=cu b j;replace C:=cu b C;replace E:=cu b E;replace A:=cu b A;replace y:=cu b y;clear D;generalize ag.drew=ba at*
      repeat (refine Rf.rs ?_;simp only[jj])
      refine aL ?_;refine bN oK _ G [11,12] 4 _ _ oK ?_
      repeat (refine Rf.rs ?_;simp only[jj])
      refine aL ?_;refine Rf.jy oK _ G [13] 3 _ _ oK ?_
      repeat (refine Rf.rs ?_;simp only[jj])
      refine aL ?_;refine bN oK _ G [14,15] 1 _ _ oK ?_
      repeat (refine Rf.rs ?_;simp only[jj])
      refine aL ?_;refine Rf.r1 16 rfl (fun K Q=>?_);have fz:=O.out;go_simp
      refine Q _ _ trivial (bX oK) (fun _ _=>?_);clear Q K fz y5 O G
      try simp only[jj]
      refine bc oK ?_ _;replace j:=eK (g:=c) (o:=u*20+19) (v:=.int .i64 ab) j N1;replace C:=eK (g:=c) (o:=u*20+19) (v:=.int .i64 ab) C N2;replace E:=eK (g:=c) (o:=u*20+19) (v:=.int .i64 ab) E N3;replace A:=eK (g:=c) (o:=u*20+19) (v:=.int .i64 ab) A N5;clear y;obtain⟨H,T⟩:=N.out;generalize ba.setCell ⟨c,u*20+19,none⟩ (Value.int IntKind.i64 ab)=aJ at*;replace X:=hid ((X.trans (bp b)).trans T);replace x:=hid H;replace B:=P;have D:aJ.cell? ⟨wb,3,none⟩=some (.slice (some ⟨c,0,none⟩) p.II.length kt):=by rw[<-E3.out];exact ai H.r rfl
      clear H T N P F b;generalize q.task u 19 ab=q at*;have a2:=hid (show Bx p wb tag w aJ from⟨tag,V,q,X.out,x.out,B.s⟩);clear X x B;go_wp2_with fail
      refine ar (v:=.int .i64 (0)) (by simp[results,Tryz.results239,go_sem]) rfl ⟨0,rfl,oD,a2.out⟩
