/- Qbr -/
import Derived.Test.YtaejnmmpddbbjaaGreatDoorQbq
import Derived.Test.YtaejnmmpddbbjaaGreatDoorQbl
set_option maxRecDepth 100000
set_option maxHeartbeats 16000000
namespace Go.Proofs.YtaejnmmpddbbjaaGreatDoor
namespace Wd
open Go.RowKit Mem Bw Nums Mmu
theorem Bx.trans {p p1:PW} {wb:Nat} {tag f:Nat->Nat} {W e W2:World} (k:Kt tag f W e) (s:Sm p p1) (h:Bx p1 wb f e W2):Bx p wb tag W W2:=by
 obtain⟨a,b,c,k2,d,g⟩:=h;exact⟨a,b,c,k.trans k2,d,s.trans g⟩
theorem s3 (wb:Nat) (tag:Nat->Nat) (V:Nat->Value) (p:PW) (c t:Nat) (n:Int) (w:World) (bt:cb w wb tag V p) (A:Lv p) (H:p.co c=t):
  Calls Tryz.prog 49 #[.pointer (some ⟨wb,0,none⟩),.int .i64 (c:Int),.int .i64 n] w fun r w'=>r=.returned (.tuple #[])∧Bx p wb tag w w':=by
 have lf:=A.w.m.tk.lf;have HV:=hid (bt.view A.w.fits A.w.Es);have BT:=hid bt;have F:=hid A;have HC:=hid H;obtain⟨_,d,_⟩:=A.w.m.tk.q.inc H;have af:=hid (hZ (p:=p) (f:=t) (by rw[d];decide));have ay:=Nat.lt_of_not_le fun hh=>by
  have e:p.co c= -1:=by show p.D6.getD c (-1)= -1;rw[aa,aF hh];rfl
  rw[H] at e;omega
 have aM:(c:Int)<(p.D6.length:Int):=oA;have aN:(p.D6.length:Int)<=1000:=by have:=A.w.fits.D6;omega
 obtain⟨g6,k6,e6⟩:=bt.o.D6.form oA;have x6:w.cell? ⟨g6,c,none⟩=some (.int .i64 t):=by rw[(bt.Eg e6 ay).1];exact cX (fun z=>some (Value.int .i64 z)) H
 have c6:=bg bt e6;have aq:=hid (aj w ⟨wb,6,none⟩ c6);obtain⟨ar,aJ⟩:=hV bt;have Y:=hid ar;have al:=hid aJ;have RV:=hid bt.r;have ag:=hid (show tag wb≠0 by rw[bt.g];decide);go_enter Tryz.func49,Tryz.ntmps49
 go_wp2_with ((with_reducible refine gld 28 ?_);refine lU rfl _ rfl wb rfl V RV ?_)
 refine (vF V p w HV.v F.w.fits).mono ?_;rintro r w1 ⟨U,L,rfl,hO,ax,am,hb⟩;have one:=hid (lT (hO.v F.w.Es));have BS:=hid (fun z u (hz:11<=z.size)=>show Co ((w1.alloc (.cells z u)).setCells w1.heap.size 0 (dk U).toList) w1.heap.size L U p from
  ⟨World.rangeAt_setCells_same _ w1.heap.size 0 (dk U).toList (aY w1 z u _ 11 rfl hz),hX _ 0 _ (aY w1 z u _ 11 rfl hz),qm (hO.below (bal (ai _ w1) (.cells z u))) am _ 0,am,by rw[ft];simp⟩)
 have KS:=hid (fun (o:Obj)=>(dT (bal hb o) hb.size (dk U).toList 0:Below w.heap.size w ((w1.alloc o).setCells w1.heap.size 0 (dk U).toList)));have E:=hid ax;have TN:=hid (aY w1 zW 28 w1.heap.size 11 rfl oD);go_upto_region 2 with ((with_reducible refine gst 28 ?_);refine wpList_store_mid rfl 28 _ _ rfl w1.heap.size 0 (dk U) rfl rfl TN fO one ?_)
 generalize hW:World.setCells _ _ _ _=M;have W:=hid (show Below w.heap.size w M by rw[<-hW];exact KS _);have J:=hid (show Co M w1.heap.size L U p by rw[<-hW];exact BS _ _ oD);generalize w1.heap.size=b7 at*;obtain⟨ap,au,aH⟩:=J.tagged;have N:=hid aH;have Z:=hid au;have B7:=hid (aB E (aB (J.o.FU 10 0 oA) J.lo));go_wp2_with fail
 refine (vw wb (iD tag w.heap.size) V p c t n M (Y.below W) F HC).mono ?_;rintro r l ⟨e,rfl,he,aL,V3,p3,I,O,ao⟩;have HE:=hid he;have K3:=hid (I);have KW:=hid ((al.trans (bf W)).trans I);have ad:=hid (show Bx p wb tag w l from⟨aL,V3,p3,KW.out,O,ao⟩);have ab:=hid (show cb l b7 ap U p from Z.kp (T:=fun k=>iD tag w.heap.size k≠0) I.k (fun k _ h=>N.out k (aE (Nat.lt_of_not_le fun hh=>h (eW hh)) E)) (fun _ _=>rfl));have T3:=hid O.t;clear he I O ao Z Y al K3;by_cases P:e=0
 ·have aw:(e==0)=true:=by simp[P]
  clear P;have s:=ad;clear ad;go_upto_region 5 with fail
  obtain⟨tg,X,q,B,a,b⟩:=s.out;have R:t<q.kinds.length:=by have:=b.k;have:=af.out;omega
  have x:t<q.DY.length:=by have:=b.w.w.m.tk.lf.DY;omega
  have aA:(t:Int)<(q.kinds.length:Int):=oA;have aG:(t:Int)<(q.DY.length:Int):=oA;have aC:(q.kinds.length:Int)<=1000:=by have:=b.w.w.fits.kinds;omega
  have aD:(q.DY.length:Int)<=1000:=by have:=b.w.w.fits.DY;omega
  obtain⟨g1,k1,e1⟩:=a.o.kinds.form oA;obtain⟨G,an,i⟩:=a.o.DY.form oA;have c1:l.cell? ⟨wb,1,none⟩=some (.slice (some ⟨g1,0,none⟩) q.kinds.length k1):=by rw[ah a.r (k:=1) rfl,e1]
  have c3:l.cell? ⟨wb,3,none⟩=some (.slice (some ⟨G,0,none⟩) q.DY.length an):=by rw[ah a.r (k:=3) rfl,i]
  have D:=a.El e1 R;rw[vo] at D;obtain⟨C,y⟩:∃z,q.k t=z:=⟨_,rfl⟩
  rw[y] at D;by_cases d:C=6
  case neg=>
   have Q:(C==6)=false:=beq_eq_false_iff_ne.2 d;clear a B b d y;go_wp2_with fail
   exact aX (aK rfl _ _ _) rfl ⟨rfl,s.out⟩
  case pos=>
   have Q:(C==6)=true:=bh.2 d;have S:=a.Ec i x (show 0<20 by omega);rw[bG] at S;have av:=a.Ef i (t*20);have j:=hid (a.Ei i x (show 0<20 by omega) e);rw[bG] at j;have K:=hid (show Bx p wb tag w (l.setCell ⟨G,t*20,none⟩ (.int .i64 e)) from⟨tg,X,_,B.trans j.2,j.1,b.trans (by
    have h:=b.w.rs (b.w.w.EX (t:=t) (y.trans d) (k:=0) (v:=e) oA (by have:=HE.out;omega)) ((db q).task t 0 e);unfold PW.task at h;rw[aa,ac x,aT] at h;exact h)⟩)
   clear a B b j d y;go_wp2_with fail
   exact aX (aK rfl _ _ _) rfl ⟨rfl,K.out⟩
 ·have aw:(e==0)=false:=by simp[P]
  have h2:=hid (N.out wb (aE aq E));have s:=hid (show Bx p wb tag w (l.setCells wb 0 (dk U).toList) from⟨_,U,p,⟨aI (T:=fun k=>tag k≠0) (.inl ag) _ 0 _ KW.k,fun k hk az=>by
   show (if k=wb then 1 else ap k)=0
   rw[ae (fun e=>ag.out (by rw[<-e];exact az))];exact N k (aE hk E)⟩,ab.o.box h2 T3,Sm.refl F⟩)
  go_upto_region 5 with (first
   |((with_reducible refine gld 28 ?_);refine lU rfl _ rfl b7 rfl U ab.r ?_)
   |((with_reducible refine gst 28 ?_);refine wpList_store_mid rfl 28 _ _ rfl wb 0 (dk U) rfl rfl T3 fO one ?_))
  change Hid (Bx p wb tag w (l.setCells wb 0 [U 0,U 1,U 2,U 3,U 4,U 5,U 6,U 7,U 8,U 9,U 10])) at s;generalize World.setCells l _ _ _=w4 at s ⊢;obtain⟨tg,X,q,B,a,b⟩:=s.out;have R:t<q.kinds.length:=by have:=b.k;have:=af.out;omega
  have x:t<q.DY.length:=by have:=b.w.w.m.tk.lf.DY;omega
  have aA:(t:Int)<(q.kinds.length:Int):=oA;have aG:(t:Int)<(q.DY.length:Int):=oA;have aC:(q.kinds.length:Int)<=1000:=by have:=b.w.w.fits.kinds;omega
  have aD:(q.DY.length:Int)<=1000:=by have:=b.w.w.fits.DY;omega
  obtain⟨g1,k1,e1⟩:=a.o.kinds.form oA;obtain⟨G,an,i⟩:=a.o.DY.form oA;have c1:=bg a e1;have c3:=bg a i;have D:=a.El e1 R;rw[vo] at D;obtain⟨C,y⟩:∃z,q.k t=z:=⟨_,rfl⟩
  rw[y] at D;by_cases d:C=6
  case neg=>
   have Q:=beq_eq_false_iff_ne.2 d;go_wp2_with fail
   exact aX (aK rfl _ _ _) rfl ⟨rfl,s.out⟩
  case pos=>
   have Q:=bh.2 d;have S:=a.Ec i x (show 0<20 by omega);rw[bG] at S;have av:=a.Ef i (t*20);have j:=hid (a.Ei i x (show 0<20 by omega) e);rw[bG] at j;have K:=hid (show Bx p wb tag w (w4.setCell ⟨G,t*20,none⟩ (.int .i64 e)) from⟨tg,X,_,B.trans j.2,j.1,b.trans (by
    have h:=b.w.rs (b.w.w.EX (t:=t) (y.trans d) (k:=0) (v:=e) oA (by have:=HE.out;omega)) ((db q).task t 0 e);unfold PW.task at h;rw[aa,ac x,aT] at h;exact h)⟩)
   go_wp2_with fail
   exact aX (aK rfl _ _ _) rfl ⟨rfl,K.out⟩
end Wd
namespace Wd
open Go.RowKit Mem Bw Nums Mmu Hex Mad
theorem wQ (w:World) (hk:KnW w):Calls Tryz.prog 29 #[.string oI] w fun r w'=>∃X tag,r=.returned (.tuple #[.agg (dk X),.agg #[.int .i64 0,.int .i64 (-1)]])∧fK w' tag X kG∧(∀k,k<w.heap.size->tag k=0)∧Below w.heap.size w w':=by
 have:=jA oI _ 22 1 [0,1,0] w (ay oK) sy hk;rw[show fE (Prs.fT oI) (wlP 22 1 [0,1,0]) (Prs.fT oI).length=kG from zh] at this;exact this
theorem vA (v:Value) (rs:List Int) (U:Int) (cl:Nat) (w:World) (hv:mQ w v rs) (ax:rs.length<=256) (h0: -9223372036854775808<=U) (h1:U<=9223372036854775807) (au:0<(cl:Int)) (av:(cl:Int)<=18) (hk:KnW w):
  Calls Tryz.prog 11 #[v,.int .i64 U,.int .i64 cl] w fun r w'=>∃X tag p,r=.returned (.agg (dk X))∧fK w' tag X p∧Lv p∧p.time=0∧(∀k,k<w.heap.size->tag k=0)∧Below w.heap.size w w':=by
 have V:=hid (bal (ai w.heap.size w) (.cells zW 28));have T0:=hid (aY w zW 28 w.heap.size 11 rfl oD);have HV:=hid hv;have HK:=hid hk;have HR:=hid ax;have PK:=hid (fun W:World=>dK U 2 W h0 h1 oD);generalize fq U 2=pq at PK;go_enter Tryz.func11,Tryz.ntmps11
 go_wp2_with fail
 refine (PK.out _).mono ?_;rintro r w1 ⟨rfl,rfl⟩;have SZ:=hid (show w.heap.size+1=(w.alloc (.cells zW 28)).heap.size by simp);generalize w.alloc _=w1 at*;by_cases hq:pq=0
 ·have bq:(pq==0)=true:=by simp[hq]
  go_wp2_with fail
  refine (zC w1 (HK.below V)).mono ?_;rintro r a ⟨X,tag,rfl,hw,aj,hb⟩;have s:=hid V.out;have TZ:=hid aj;have aa:=hid T0.out;have F:=hid hw;have g:=hid hb;have SA:=hid SZ.out;have O:=hid (cP (aY a zW 28 a.heap.size 11 rfl oD) (bal (ai _ _) (.cells #[.int .i64 0,.int .i64 0] 71)));have T8:=hid (aY (a.alloc (.cells zW 28)) #[.int .i64 0,.int .i64 0] 71 (a.heap.size+1) 2 oS oD);have i:=hid (show Below a.heap.size a ((a.alloc (.cells zW 28)).alloc (.cells #[.int .i64 0,.int .i64 0] 71)) from bal (bal (ai _ _) _) _);have j:=hid F.EJ;go_upto_region 3 with (first|((with_reducible refine gst 28 ?_);refine wpList_store_mid rfl 28 _ _ rfl a.heap.size 0 (dk X) rfl rfl O fO j ?_)|((with_reducible refine gst 71 ?_);refine wpList_store_mid rfl 71 _ _ rfl (a.heap.size+1) 0 #[.int .i64 0,.int .i64 (-1)] rfl rfl (World.there_setCells T8 _ _ _) iR vy ?_))
  have WU:=hid (F.up i);have WB:=hid (WU.box (eW (ar _)) O);have G:Kp (fun k=>k=a.heap.size) ((a.alloc (.cells zW 28)).alloc (.cells #[.int .i64 0,.int .i64 0] 71)) (((a.alloc (.cells zW 28)).alloc (.cells #[.int .i64 0,.int .i64 0] 71)).setCells a.heap.size 0 [X 0,X 1,X 2,X 3,X 4,X 5,X 6,X 7,X 8,X 9,X 10]):=aI (T:=fun k=>k=a.heap.size) (.inl rfl) _ _ _ (aP _ _);have H:Kp (fun k=>k=a.heap.size+1) (((a.alloc (.cells zW 28)).alloc (.cells #[.int .i64 0,.int .i64 0] 71)).setCells a.heap.size 0 [X 0,X 1,X 2,X 3,X 4,X 5,X 6,X 7,X 8,X 9,X 10]) ((((a.alloc (.cells zW 28)).alloc (.cells #[.int .i64 0,.int .i64 0] 71)).setCells a.heap.size 0 [X 0,X 1,X 2,X 3,X 4,X 5,X 6,X 7,X 8,X 9,X 10]).setCells (a.heap.size+1) 0 [.int .i64 0,.int .i64 (-1)]):=aI (T:=fun k=>k=a.heap.size+1) (.inl rfl) _ _ _ (aP _ _);have l:=hid (show Own w1 ((((a.alloc (.cells zW 28)).alloc (.cells #[.int .i64 0,.int .i64 0] 71)).setCells a.heap.size 0 [X 0,X 1,X 2,X 3,X 4,X 5,X 6,X 7,X 8,X 9,X 10]).setCells (a.heap.size+1) 0 [.int .i64 0,.int .i64 (-1)]) a.heap.size (fun k=>if k=a.heap.size then 1 else iD tag a.heap.size k) X sT from
   ⟨WB.kp H (fun k _ e=>by rw[e,ae oA];exact eW oA) (fun _ _=>rfl),
    fun k hk=>by have:=g.size;rw[ae oA,jg oA];exact TZ k hk,
    H.below (G.below (btr g i) (btr g i).size (fun k hk e=>by have:=g.size;omega)) (aB (btr g i).size G.size) (fun k hk e=>by have:=g.size;omega)⟩)
  generalize World.setCells (World.setCells _ _ _ _) _ _ _=A at l ⊢;generalize a.heap.size=wb at*;generalize (fun k=>if k=wb then 1 else iD tag wb k)=S at l;obtain⟨ac,al⟩:=hV l.b;have M:=hid (l.to ac al);have TN:=hid (fun x (h:A.heap.size<=x)=>eW (tag:=S) h);generalize iD S A.heap.size=tg at*;have CF:=hid (kj v rs 0 A (HV.below (btr s M.e)) HR oA cl au av);go_wp2_with fail
  refine CF.mono ?_;rintro r w7 ⟨R,am,zs,rfl,q,Q,hI,ah,ad⟩;have j:=hid (M.next ad);have E:=hid (mA q Q);have u:=hid (qA wb tg X sT 4 R am zs w7 j.b (kn (p:=sT) oK).1 hI (TN.out R ah) oA Q (by rw[q];exact ay oK) (ay oK));rw[q,show cdN sT.Eb (4*16) zs 16=BF (ig zs) from nZ zs] at u;rw[q];generalize ig zs=L at E u;go_wp2_with fail
  refine u.mono ?_;rintro r w8 ⟨rfl,aC,af,ag⟩;have y:=hid (j.to af ag);have f:=hid (cK (Dp L E) y.b (ai _ _));have K:=hid (show (p0 L).time=0 from rfl);generalize p0 L=q0 at y f K;obtain⟨ao,Y9,q9,kt,bt,c⟩:=f.out;have m:=hid (fX 8 c.w w8 wb ao Y9 bt);go_wp2_with fail
  refine m.mono ?_;rintro r w9 ⟨e,rfl,_,n⟩;replace f:=hid (Bx.trans kt c n);obtain⟨an,ab,az,kt,bt,c⟩:=f.out;have m:=hid (fX 9 c.w w9 wb an ab bt);go_wp2_with fail
  refine m.mono ?_;rintro r B ⟨e,rfl,_,n⟩;replace f:=hid (Bx.trans kt c n);obtain⟨ap,Y,z,kt,bt,c⟩:=f.out;have d:=hid (y.to bt kt);have J:=hid (show Lv z∧z.time=0 from⟨c.w,c.t.trans K⟩);have LT:=hid (show w.heap.size<w1.heap.size by have:=SA.out;omega);have P:=hid (cP aa d.e);have OO:=hid d.b.o.EJ;have I:=hid (show Kp (fun k=>k=w.heap.size) B (B.setCells w.heap.size 0 [Y 0,Y 1,Y 2,Y 3,Y 4,Y 5,Y 6,Y 7,Y 8,Y 9,Y 10]) from aI (T:=fun k=>k=w.heap.size) (.inl rfl) _ _ _ (aP _ _));have N:=hid (World.rangeAt_setCells_same B w.heap.size 0 (dk Y).toList P);have D:=hid (d.b.kp I (fun k _ e=>by rw[e];exact d.t _ LT) (fun _ _=>rfl));have C:=hid (I.below (btr s d.e) (btr s d.e).size (fun k hk e=>oA));go_wp2_with (first|((with_reducible refine gld 28 ?_);refine lU rfl _ rfl wb rfl Y d.b.r ?_)|((with_reducible refine gst 28 ?_);refine wpList_store_mid rfl 28 _ _ rfl w.heap.size 0 (dk Y) rfl rfl P fO OO ?_))
  have TG:=hid d.t;generalize B.setCells w.heap.size 0 [Y 0,Y 1,Y 2,Y 3,Y 4,Y 5,Y 6,Y 7,Y 8,Y 9,Y 10]=W9 at N D C ⊢;exact aq (v:=.agg (dk Y)) (hU rfl rfl (run_loadVar_mid _ w.heap.size 0 28 (dk Y).toList _ N Tryz.underlying28 rfl fO)) rfl ⟨Y,ap,z,rfl,D.o,J.1,J.2,fun k hk=>TG.out k (by have:=LT.out;omega),C.out⟩
 ·have bq:(pq==0)=false:=by simp[hq]
  go_wp2_with fail
  refine (wQ w1 (HK.below V)).mono ?_;rintro r a ⟨X,tag,rfl,hw,aj,hb⟩;have s:=hid V.out;have TZ:=hid aj;have aa:=hid T0.out;have F:=hid hw;have g:=hid hb;have SA:=hid SZ.out;have O:=hid (cP (aY a zW 28 a.heap.size 11 rfl oD) (bal (ai _ _) (.cells #[.int .i64 0,.int .i64 0] 71)));have T8:=hid (aY (a.alloc (.cells zW 28)) #[.int .i64 0,.int .i64 0] 71 (a.heap.size+1) 2 oS oD);have i:=hid (show Below a.heap.size a ((a.alloc (.cells zW 28)).alloc (.cells #[.int .i64 0,.int .i64 0] 71)) from bal (bal (ai _ _) _) _);have j:=hid F.EJ;go_upto_region 8 with (first|((with_reducible refine gst 28 ?_);refine wpList_store_mid rfl 28 _ _ rfl a.heap.size 0 (dk X) rfl rfl O fO j ?_)|((with_reducible refine gst 71 ?_);refine wpList_store_mid rfl 71 _ _ rfl (a.heap.size+1) 0 #[.int .i64 0,.int .i64 (-1)] rfl rfl (World.there_setCells T8 _ _ _) iR vy ?_))
  have WU:=hid (F.up i);have WB:=hid (WU.box (eW (ar _)) O);have G:Kp (fun k=>k=a.heap.size) ((a.alloc (.cells zW 28)).alloc (.cells #[.int .i64 0,.int .i64 0] 71)) (((a.alloc (.cells zW 28)).alloc (.cells #[.int .i64 0,.int .i64 0] 71)).setCells a.heap.size 0 [X 0,X 1,X 2,X 3,X 4,X 5,X 6,X 7,X 8,X 9,X 10]):=aI (T:=fun k=>k=a.heap.size) (.inl rfl) _ _ _ (aP _ _);have H:Kp (fun k=>k=a.heap.size+1) (((a.alloc (.cells zW 28)).alloc (.cells #[.int .i64 0,.int .i64 0] 71)).setCells a.heap.size 0 [X 0,X 1,X 2,X 3,X 4,X 5,X 6,X 7,X 8,X 9,X 10]) ((((a.alloc (.cells zW 28)).alloc (.cells #[.int .i64 0,.int .i64 0] 71)).setCells a.heap.size 0 [X 0,X 1,X 2,X 3,X 4,X 5,X 6,X 7,X 8,X 9,X 10]).setCells (a.heap.size+1) 0 [.int .i64 0,.int .i64 (-1)]):=aI (T:=fun k=>k=a.heap.size+1) (.inl rfl) _ _ _ (aP _ _);have l:=hid (show Own w1 ((((a.alloc (.cells zW 28)).alloc (.cells #[.int .i64 0,.int .i64 0] 71)).setCells a.heap.size 0 [X 0,X 1,X 2,X 3,X 4,X 5,X 6,X 7,X 8,X 9,X 10]).setCells (a.heap.size+1) 0 [.int .i64 0,.int .i64 (-1)]) a.heap.size (fun k=>if k=a.heap.size then 1 else iD tag a.heap.size k) X kG from
   ⟨WB.kp H (fun k _ e=>by rw[e,ae oA];exact eW oA) (fun _ _=>rfl),
    fun k hk=>by have:=g.size;rw[ae oA,jg oA];exact TZ k hk,
    H.below (G.below (btr g i) (btr g i).size (fun k hk e=>by have:=g.size;omega)) (aB (btr g i).size G.size) (fun k hk e=>by have:=g.size;omega)⟩)
  generalize World.setCells (World.setCells _ _ _ _) _ _ _=A at l ⊢;generalize a.heap.size=wb at*;generalize (fun k=>if k=wb then 1 else iD tag wb k)=S at l;obtain⟨ac,al⟩:=hV l.b;have M:=hid (l.to ac al);have TN:=hid (fun x (h:A.heap.size<=x)=>eW (tag:=S) h);generalize iD S A.heap.size=tg at*;have CF:=hid (kj v rs 0 A (HV.below (btr s M.e)) HR oA cl au av);go_wp2_with fail
  refine CF.mono ?_;rintro r w7 ⟨R,am,zs,rfl,q,Q,hI,ah,ad⟩;have j:=hid (M.next ad);have E:=hid (mA q Q);have u:=hid (qA wb tg X kG 4 R am zs w7 j.b (kn (p:=kG) oK).1 hI (TN.out R ah) oA Q (by rw[q];exact ay oK) (ay oK));rw[q,show cdN kG.Eb (4*16) zs 16=BH (ig zs) from oJ zs] at u;rw[q];generalize ig zs=L at E u;go_wp2_with fail
  refine u.mono ?_;rintro r w8 ⟨rfl,aC,af,ag⟩;have y:=hid (j.to af ag);have f:=hid (cK (Db L E) y.b (ai _ _));have K:=hid (show (m0 L).time=0 from rfl);generalize m0 L=q0 at y f K;obtain⟨ao,Y9,q9,kt,bt,c⟩:=f.out;have m:=hid (fX 7 c.w w8 wb ao Y9 bt);go_wp2_with fail
  refine m.mono ?_;rintro r w9 ⟨e,rfl,_,n⟩;replace f:=hid (Bx.trans kt c n);obtain⟨an,ab,az,kt,bt,c⟩:=f.out;have m:=hid (fX 8 c.w w9 wb an ab bt);go_wp2_with fail
  refine m.mono ?_;rintro r B ⟨e,rfl,_,n⟩;replace f:=hid (Bx.trans kt c n);obtain⟨aA,aw,aD,kt,bt,c⟩:=f.out;have m:=hid (fX 9 c.w B wb aA aw bt);go_wp2_with fail
  refine m.mono ?_;rintro r Z ⟨e,rfl,_,n⟩;replace f:=hid (Bx.trans kt c n);obtain⟨ap,Y,z,kt,bt,c⟩:=f.out;have d:=hid (y.to bt kt);have J:=hid (show Lv z∧z.time=0 from⟨c.w,c.t.trans K⟩);have LT:=hid (show w.heap.size<w1.heap.size by have:=SA.out;omega);have P:=hid (cP aa d.e);have OO:=hid d.b.o.EJ;have I:=hid (show Kp (fun k=>k=w.heap.size) Z (Z.setCells w.heap.size 0 [Y 0,Y 1,Y 2,Y 3,Y 4,Y 5,Y 6,Y 7,Y 8,Y 9,Y 10]) from aI (T:=fun k=>k=w.heap.size) (.inl rfl) _ _ _ (aP _ _));have N:=hid (World.rangeAt_setCells_same Z w.heap.size 0 (dk Y).toList P);have D:=hid (d.b.kp I (fun k _ e=>by rw[e];exact d.t _ LT) (fun _ _=>rfl));have C:=hid (I.below (btr s d.e) (btr s d.e).size (fun k hk e=>oA));go_wp2_with (first|((with_reducible refine gld 28 ?_);refine lU rfl _ rfl wb rfl Y d.b.r ?_)|((with_reducible refine gst 28 ?_);refine wpList_store_mid rfl 28 _ _ rfl w.heap.size 0 (dk Y) rfl rfl P fO OO ?_))
  have TG:=hid d.t;generalize Z.setCells w.heap.size 0 [Y 0,Y 1,Y 2,Y 3,Y 4,Y 5,Y 6,Y 7,Y 8,Y 9,Y 10]=W9 at N D C ⊢;exact aq (v:=.agg (dk Y)) (hU rfl rfl (run_loadVar_mid _ w.heap.size 0 28 (dk Y).toList _ N Tryz.underlying28 rfl fO)) rfl ⟨Y,ap,z,rfl,D.o,J.1,J.2,fun k hk=>TG.out k (by have:=LT.out;omega),C.out⟩
