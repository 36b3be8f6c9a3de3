/- Qbp -/
import Derived.Test.YtnccmdndkmmhcaaGreatDoorQbo
set_option maxRecDepth 100000
set_option maxHeartbeats 16000000
namespace Go.Proofs.YtnccmdndkmmhcaaGreatDoor
namespace Wd
open Go.RowKit Mem Bw Nums Mmu Hex Mad
theorem An (w:World) (hk:KnW w):Calls Tryz.prog 113 #[.string qK] w fun r w'=>∃X tag,r=.returned (.tuple #[.agg (de X),.agg #[.int .i64 0,.int .i64 (-1)]])∧fV w' tag X lP∧(∀k,k<w.heap.size->tag k=0)∧Below w.heap.size w w':=by
 have:=kF qK _ 22 1 [0,1,0] w (aA oK) vp hk;rw[show fZ (Prs.gB qK) (wlP 22 1 [0,1,0]) (Prs.gB qK).length=lP from CG] at this;exact this
theorem yZ (v:Value) (rs:List Int) (U:Int) (cl:Nat) (w:World) (hv:oB w v rs) (ax:rs.length<=256) (h0: -9223372036854775808<=U) (h1:U<=9223372036854775807) (au:0<(cl:Int)) (av:(cl:Int)<=18) (hk:KnW w):
  Calls Tryz.prog 33 #[v,.int .i64 U,.int .i64 cl] w fun r w'=>∃X tag p,r=.returned (.agg (de X))∧fV w' tag X p∧Lv p∧p.time=0∧(∀k,k<w.heap.size->tag k=0)∧Below w.heap.size w w':=by
 have V:=hid (bal (af w.heap.size w) (.cells zW 28));have T0:=hid (aP w zW 28 w.heap.size 11 rfl oD);have HV:=hid hv;have HK:=hid hk;have HR:=hid ax;have PK:=hid (fun W:World=>ef U 2 W h0 h1 oD);generalize fS U 2=pq at PK;go_enter Tryz.func33,Tryz.ntmps33
 go_wp2_with fail
 refine (PK.out _).mono ?_;rintro r w1 ⟨rfl,rfl⟩;have SZ:=hid (show w.heap.size+1=(w.alloc (.cells zW 28)).heap.size by simp);generalize w.alloc _=w1 at*;by_cases hq:pq=0
 case' pos=>
  have bq:(pq==0)=true:=by simp[hq]
  go_wp2_with fail
  refine (Dd w1 (HK.below V)).mono ?_
 case' neg=>
  have bq:(pq==0)=false:=by simp[hq]
  go_wp2_with fail
  refine (An w1 (HK.below V)).mono ?_
 all_goals
  rintro r a ⟨X,tag,rfl,hw,aj,hb⟩;have s:=hid V.out;have TZ:=hid aj;have aa:=hid T0.out;have F:=hid hw;have g:=hid hb;have SA:=hid SZ.out;have O:=hid (ct (aP a zW 28 a.heap.size 11 rfl oD) (bal (af _ _) (.cells #[.int .i64 0,.int .i64 0] 47)));have T8:=hid (aP (a.alloc (.cells zW 28)) #[.int .i64 0,.int .i64 0] 47 (a.heap.size+1) 2 oS oD);have i:=hid (show Below a.heap.size a ((a.alloc (.cells zW 28)).alloc (.cells #[.int .i64 0,.int .i64 0] 47)) from bal (bal (af _ _) _) _);have j:=hid F.Jb
 rotate_left
 go_upto_region 3 with (first|((with_reducible refine gst 28 ?_);refine wpList_store_mid rfl 28 _ _ rfl a.heap.size 0 (de X) rfl rfl O fD j ?_)|((with_reducible refine gst 47 ?_);refine wpList_store_mid rfl 47 _ _ rfl (a.heap.size+1) 0 #[.int .i64 0,.int .i64 (-1)] rfl rfl (World.there_setCells T8 _ _ _) jx yX ?_))
 rotate_left
 go_upto_region 8 with (first|((with_reducible refine gst 28 ?_);refine wpList_store_mid rfl 28 _ _ rfl a.heap.size 0 (de X) rfl rfl O fD j ?_)|((with_reducible refine gst 47 ?_);refine wpList_store_mid rfl 47 _ _ rfl (a.heap.size+1) 0 #[.int .i64 0,.int .i64 (-1)] rfl rfl (World.there_setCells T8 _ _ _) jx yX ?_))
 rotate_left
 all_goals
  have WU:=hid (F.up i);have WB:=hid (WU.box (fH (aq _)) O);have G:Kp (fun k=>k=a.heap.size) ((a.alloc (.cells zW 28)).alloc (.cells #[.int .i64 0,.int .i64 0] 47)) (((a.alloc (.cells zW 28)).alloc (.cells #[.int .i64 0,.int .i64 0] 47)).setCells a.heap.size 0 [X 0,X 1,X 2,X 3,X 4,X 5,X 6,X 7,X 8,X 9,X 10]):=aN (T:=fun k=>k=a.heap.size) (.inl rfl) _ _ _ (aV _ _);have H:Kp (fun k=>k=a.heap.size+1) (((a.alloc (.cells zW 28)).alloc (.cells #[.int .i64 0,.int .i64 0] 47)).setCells a.heap.size 0 [X 0,X 1,X 2,X 3,X 4,X 5,X 6,X 7,X 8,X 9,X 10]) ((((a.alloc (.cells zW 28)).alloc (.cells #[.int .i64 0,.int .i64 0] 47)).setCells a.heap.size 0 [X 0,X 1,X 2,X 3,X 4,X 5,X 6,X 7,X 8,X 9,X 10]).setCells (a.heap.size+1) 0 [.int .i64 0,.int .i64 (-1)]):=aN (T:=fun k=>k=a.heap.size+1) (.inl rfl) _ _ _ (aV _ _);have l:=hid (show Own w1 ((((a.alloc (.cells zW 28)).alloc (.cells #[.int .i64 0,.int .i64 0] 47)).setCells a.heap.size 0 [X 0,X 1,X 2,X 3,X 4,X 5,X 6,X 7,X 8,X 9,X 10]).setCells (a.heap.size+1) 0 [.int .i64 0,.int .i64 (-1)]) a.heap.size (fun k=>if k=a.heap.size then 1 else jb tag a.heap.size k) X _ from
   ⟨WB.kp H (fun k _ e=>by rw[e,ae oA];exact fH oA) (fun _ _=>rfl),
    fun k hk=>by have:=g.size;rw[ae oA,j5 oA];exact TZ k hk,
    H.below (G.below (btr g i) (btr g i).size (fun k hk e=>by have:=g.size;omega)) (aD (btr g i).size G.size) (fun k hk e=>by have:=g.size;omega)⟩)
  generalize World.setCells (World.setCells _ _ _ _) _ _ _=A at l ⊢;generalize a.heap.size=wb at*;generalize (fun k=>if k=wb then 1 else jb tag wb k)=S at l;obtain⟨ac,al⟩:=iJ l.b;have M:=hid (l.to ac al);have TN:=hid (fun x (h:A.heap.size<=x)=>fH (tag:=S) h);generalize jb S A.heap.size=tg at*;have CF:=hid (lr v rs 0 A (HV.below (btr s M.e)) HR oA cl au av);go_wp2_with fail
  refine CF.mono ?_;rintro r w7 ⟨R,am,zs,rfl,q,Q,hI,ai,ad⟩;have j:=hid (M.next ad);have E:=hid (nY q Q);have u:=hid (tw wb tg X _ 4 R am zs w7 j.b (lA (by kernel_rfl)).1 hI (TN.out R ai) oA Q (by rw[q];exact aA oK) (aA oK))
 rw[q,show cdN vI.IE (4*16) zs 16=FI (iQ zs) from p4 zs] at u
 rotate_left
 rw[q,show cdN lP.IE (4*16) zs 16=FJ (iQ zs) from qL zs] at u
 rotate_left
 all_goals
  rw[q];generalize iQ zs=L at E u;go_wp2_with fail
  refine u.mono ?_;rintro r w8 ⟨rfl,aB,ag,ah⟩;have y:=hid (j.to ag ah)
 have f:=hid (du (Hc L E) y.b (af _ _));have K:=hid (show (p0 L).time=0 from rfl);generalize p0 L=q0 at y f K
 rotate_left
 have f:=hid (du (GX L E) y.b (af _ _));have K:=hid (show (m0 L).time=0 from rfl);generalize m0 L=q0 at y f K;obtain⟨ao,Y9,q9,kt,bt,c⟩:=f.out;have m:=hid (gG 7 c.w w8 wb ao Y9 bt);go_wp2_with fail
 refine m.mono ?_;rintro r w8b ⟨e,rfl,_,n⟩;replace f:=hid (Bx.trans kt c n)
 rotate_left
 all_goals
  obtain⟨ao,Y9,q9,kt,bt,c⟩:=f.out;have m:=hid (gG 8 c.w _ wb ao Y9 bt);go_wp2_with fail
  refine m.mono ?_;rintro r w9 ⟨e,rfl,_,n⟩;replace f:=hid (Bx.trans kt c n);obtain⟨an,ab,ay,kt,bt,c⟩:=f.out;have m:=hid (gG 9 c.w w9 wb an ab bt);go_wp2_with fail
  refine m.mono ?_;rintro r B ⟨e,rfl,_,n⟩;replace f:=hid (Bx.trans kt c n);obtain⟨ap,Y,z,kt,bt,c⟩:=f.out;have d:=hid (y.to bt kt);have J:=hid (show Lv z∧z.time=0 from⟨c.w,c.t.trans K⟩);have LT:=hid (show w.heap.size<w1.heap.size by have:=SA.out;omega);have P:=hid (ct aa d.e);have OO:=hid d.b.o.Jb;have I:=hid (show Kp (fun k=>k=w.heap.size) B (B.setCells w.heap.size 0 [Y 0,Y 1,Y 2,Y 3,Y 4,Y 5,Y 6,Y 7,Y 8,Y 9,Y 10]) from aN (T:=fun k=>k=w.heap.size) (.inl rfl) _ _ _ (aV _ _));have N:=hid (World.rangeAt_setCells_same B w.heap.size 0 (de Y).toList P);have D:=hid (d.b.kp I (fun k _ e=>by rw[e];exact d.t _ LT) (fun _ _=>rfl));have C:=hid (I.below (btr s d.e) (btr s d.e).size (fun k hk e=>oA));go_wp2_with (first|((with_reducible refine gld 28 ?_);refine jt rfl _ rfl wb rfl Y d.b.r ?_)|((with_reducible refine gst 28 ?_);refine wpList_store_mid rfl 28 _ _ rfl w.heap.size 0 (de Y) rfl rfl P fD OO ?_))
  have TG:=hid d.t;generalize B.setCells w.heap.size 0 [Y 0,Y 1,Y 2,Y 3,Y 4,Y 5,Y 6,Y 7,Y 8,Y 9,Y 10]=W9 at N D C ⊢;exact ar (v:=.agg (de Y)) (gi rfl rfl (run_loadVar_mid _ w.heap.size 0 28 (de Y).toList _ N Tryz.underlying28 rfl fD)) rfl ⟨Y,ap,z,rfl,D.o,J.1,J.2,fun k hk=>TG.out k (by have:=LT.out;omega),C.out⟩
end Wd
namespace Wd
open Go.RowKit Mem Bw Nums Mmu
theorem Dh {ρ:Operand->Value} {o:Oper} {W:World} {x:Operand} (c:o.op=.load 37 x) {b:Nat} (d:ρ x=.pointer (some ⟨b,0,none⟩)) {cs:List Value} (hl:cs.length=20) (a:W.rangeAt b 0 cs):(execOp ρ o).run Tryz.prog W=.ok (.value (.agg cs.toArray)) W:=by
 unfold execOp;simp only[c,d,Instr.loadAt,Instr.sureAddr,eW,Sem.run_pure,Result.andThen_ok,fL W b cs a hl]
theorem yQ.sys {p:PW} {wb:Nat} {tag0:Nat->Nat} {w0 w':World} {f g:Nat->Int} {i:Int} (a:Gq f g) (b: -32768<=i) (d:i<=32767) (c:Dn p wb tag0 w0 [] w'):yQ p wb tag0 w0 f (.returned (lH g 1 i)) w':=⟨g,1,i,rfl,a,oD,⟨b,oA⟩,fun h=>absurd h oD,c⟩
theorem Et (p:PW) (wb:Nat) (tag:Nat->Nat) (V:Nat->Value) (b2 b3 b4 c t:Nat) (f:Nat->Int) (w:World) (bt:cb w wb tag V p) (hp:Lv p) (hc:c<p.ID.length) (h6:p.k t=6) (cs:jc [(b2,ptr wb),(b3,.int .i64 (c:Int)),(b4,.int .i64 (t:Int))] tag w) (N:∀k,k<9->0<=f k∧f k<=65535):
  Calls Tryz.prog 130 #[.agg (cf 20 f).toArray,.func (.func 127) #[] #[ptr b2,ptr b3,ptr b4],.func (.func 129) #[] #[ptr b2,ptr b3,ptr b4]] w fun e w'=>yQ p wb tag w f e w':=by
 have Y:=hid (fun (l:List Nat) W (a:Int) (h:Dn p wb tag w l W)=>h.load hc h6 cs a);have CS:=hid (fun (l:List Nat) W (a v:Int) (hv:0<=v∧v<=65535) (h:Dn p wb tag w l W)=>h.store hc h6 cs a v hv);have D0:=hid (((Dn.start hp bt).alloc (.cells (cf 20 f).toArray 37)).alloc (.cells zT 37));rw[show (w.alloc (.cells (cf 20 f).toArray 37)).heap.size=w.heap.size+1 by simp] at D0;have T0:=hid (World.rangeAt_alloc (hZ w (cf 20 f) 37 _ rfl) (.cells zT 37));have R0:=hid (aP (w.alloc (.cells (cf 20 f).toArray 37)) zT 37 (w.heap.size+1) 20 oS oD);have c8:=ai T0 (dk 20 f 8 oD);obtain⟨p0,p1⟩:=N 8 oD;have q0:0<=(f 8+1)%65536:=Int.emod_nonneg _ oD;have q1:(f 8+1)%65536<65536:=Int.emod_lt_of_pos _ oD;unfold ptr at Y CS ⊢;clear bt hp hc h6 cs;go_enter Tryz.func130,Tryz.ntmps130
 go_wp2_with fail
 generalize World.alloc _ (.cells zT 37)=W at D0 T0 c8 R0 ⊢;generalize al:(f 8+1)%65536=pc at*;clear al;refine (Y.out _ _ _ D0).mono ?_;rintro e W1 ⟨x,ok,rfl,hx,M,hk⟩;have T1:=hid (eN T0 hk oS);have R1:=hid (d9 R0 hk oS);have D1:=hid M;clear M hk D0 T0 R0 c8
 cases ok with
 |false=>
  have L:=hid (T1.out);have G:=hid (R1.out);have H:=hid (D1.out);go_wp2_with (first
   |((with_reducible refine gld 37 ?_);refine il rfl _ rfl _ rfl (cf 20 (f)) (ay _ _) L ?_)
   |((with_reducible refine gst 37 ?_);refine gV rfl _ _ rfl _ rfl (cf 20 (f)) rfl (ay _ _) (bQ _ _) G ?_;have E:=hid (World.rangeAt_setCells_same _ (w.heap.size+1) 0 (cf 20 (f)) (by rw[ay];exact G));have j:=hid ((H.out).kp (aN (b:=w.heap.size+1) (.inl oS) (cf 20 (f)) 0 _ (aV _ _)));generalize World.setCells _ _ _ _=C at E j ⊢))
  refine ar (v:=lH (f) (2) (f 8)) (dC rfl rfl (fL _ _ (cf 20 (f)) E (ay _ _)) rfl rfl) rfl ⟨_,_,_,rfl,Gq.refl N,oA,oA,fun h=>oA,j.less (fun _ h=>by cases h)⟩
 |true=>
  have c8:=ai T1 (dk 20 f 8 oD);go_wp2_with fail
  refine (Y.out _ _ _ D1).mono ?_;rintro e W2 ⟨y,ok,rfl,hy,M,hk⟩;have T2:=hid (eN T1 hk oS);have R2:=hid (d9 R1 hk oS);have D2:=hid M;clear M hk D1 T1 R1 c8
  cases ok with
  |false=>
   have L:=hid (T2.out);have G:=hid (R2.out);have H:=hid (D2.out);go_wp2_with (first
    |((with_reducible refine gld 37 ?_);refine il rfl _ rfl _ rfl (cf 20 (f)) (ay _ _) L ?_)
    |((with_reducible refine gst 37 ?_);refine gV rfl _ _ rfl _ rfl (cf 20 (f)) rfl (ay _ _) (bQ _ _) G ?_;have E:=hid (World.rangeAt_setCells_same _ (w.heap.size+1) 0 (cf 20 (f)) (by rw[ay];exact G));have j:=hid ((H.out).kp (aN (b:=w.heap.size+1) (.inl oS) (cf 20 (f)) 0 _ (aV _ _)));generalize World.setCells _ _ _ _=C at E j ⊢))
   refine ar (v:=lH (f) (2) (pc)) (dC rfl rfl (fL _ _ (cf 20 (f)) E (ay _ _)) rfl rfl) rfl ⟨_,_,_,rfl,Gq.refl N,oA,oA,fun h=>oA,j.less (fun _ h=>by cases h)⟩
  |true=>
   go_wp2_with fail
   refine (Isa.EX x y _ hx hy).mono ?_;rintro e q ⟨o,A,B,i,ok,rfl,hi,hb⟩;have T3:=hid (bK T2 hb);have R3:=hid (d9 (T:=fun _=>False) R2 (.IF hb) id);have Z:=hid (D2.below hb);clear hb D2 T2 R2
   cases ok with
   |false=>
    have L:=hid (World.rangeAt_alloc T3 (.cells #[.int .i64 o,.int .i64 A,.int .i64 B,.int .i64 i] 161));have G:=hid (World.there_alloc R3 (.cells #[.int .i64 o,.int .i64 A,.int .i64 B,.int .i64 i] 161));have H:=hid ((Z.alloc (.cells #[.int .i64 o,.int .i64 A,.int .i64 B,.int .i64 i] 161)).less (m:=[w.heap.size+1,w.heap.size]) (fun k h=>List.mem_cons_of_mem _ h));go_wp2_with (first
     |((with_reducible refine gld 37 ?_);refine il rfl _ rfl _ rfl (cf 20 (f)) (ay _ _) L ?_)
     |((with_reducible refine gst 37 ?_);refine gV rfl _ _ rfl _ rfl (cf 20 (f)) rfl (ay _ _) (bQ _ _) G ?_;have E:=hid (World.rangeAt_setCells_same _ (w.heap.size+1) 0 (cf 20 (f)) (by rw[ay];exact G));have j:=hid ((H.out).kp (aN (b:=w.heap.size+1) (.inl oS) (cf 20 (f)) 0 _ (aV _ _)));generalize World.setCells _ _ _ _=C at E j ⊢))
    refine ar (v:=lH (f) (2) (-1)) (dC rfl rfl (fL _ _ (cf 20 (f)) E (ay _ _)) rfl rfl) rfl ⟨_,_,_,rfl,Gq.refl N,oA,oA,fun h=>oA,j.less (fun _ h=>by cases h)⟩
   |true=>
    obtain⟨⟨o0,o1⟩,⟨a0,a1⟩,⟨b0,b1⟩,an,ao⟩:=hi rfl;obtain⟨A,rfl⟩:∃a:Nat,A=(a:Int):=⟨A.toNat,oA⟩
    obtain⟨B,rfl⟩:∃a:Nat,B=(a:Int):=⟨B.toNat,oA⟩
    have bA:A<8:=oA;have bB:B<8:=oA;obtain⟨P,U⟩:=N A oA;obtain⟨X,aa⟩:=N B oA;have ap:0<=(f B+y)%65536:=Int.emod_nonneg _ oD;have aq:(f B+y)%65536<65536:=Int.emod_lt_of_pos _ oD;have sb:=hid (Z.own (k:=w.heap.size) oS);have sr:=hid (Z.own (k:=w.heap.size+1) oS);have d8:=ai (World.rangeAt_alloc (World.rangeAt_alloc T3 (.cells #[.int .i64 o,.int .i64 (A:Int),.int .i64 (B:Int),.int .i64 i] 161)) (.cells zT 37)) (dk 20 f 8 oD);have I:=hid (zC (o:=o) (A:=A) (B:=B) (i:=i) (z:=zT) rfl T3 R3 sb 161 37);have D4:=hid ((Z.alloc (.cells #[.int .i64 o,.int .i64 (A:Int),.int .i64 (B:Int),.int .i64 i] 161)).alloc (.cells zT 37));rw[show (q.alloc (.cells #[.int .i64 o,.int .i64 (A:Int),.int .i64 (B:Int),.int .i64 i] 161)).heap.size=q.heap.size+1 by simp] at D4;have D5:=hid (D4.kp (aN (b:=q.heap.size+1) (.inl oS) (cf 20 f) 0 _ (aV _ _)));clear hi D4 Z;go_upto_region 19 with (first
     |((with_reducible refine gld 37 ?_);refine il rfl _ rfl _ rfl (cf 20 (f)) (ay _ _) (World.rangeAt_alloc T3 _) ?_)
     |((with_reducible refine gst 37 ?_);refine gV rfl _ _ rfl _ rfl (cf 20 (f)) rfl (ay _ _) (bQ _ _) (aP _ _ _ _ _ oS oD) ?_;generalize World.setCells _ _ _ _=W4 at I D5 ⊢;have af:=ai I.t (dk 20 f 8 oD);have n8:=ai I.m (dk 20 f 8 oD);have z8:=(I.nt 8 oD).2;have i0:=I.i0;have i1:=I.i1;have i2:=I.i2;have i3:=I.i3;have cA:=ai I.t (dk 20 f A oA);have cB:=ai I.t (dk 20 f B oA)))
    have d:=hid (I.set 8 oD ((f 8+2)%65536));have u:=hid (D5.kp ((aV _ W4).setCell (b:=q.heap.size+1) (o:=8) (.inl oS) (.int .i64 ((f 8+2)%65536))));have F:=hid ((Gq.refl N).Jo (k:=8) oD (v:=(f 8+2)%65536) oA);clear D5 I af n8 z8 i0 i1 i2 i3 cA cB T3 R3 d8;generalize World.setCell _ _ _=D at d u ⊢;have i0:=d.i0;have ho:o=0∨o=1∨o=2∨o=3∨o=4∨o=5∨o=6∨o=7∨o=8∨o=9∨o=10∨o=11∨o=12∨o=13∨o=14:=oA;rcases ho with rfl|rfl|rfl|rfl|rfl|rfl|rfl|rfl|rfl|rfl|rfl|rfl|rfl|rfl|rfl
    ·have L:=hid d.t;have G:=hid d.r;go_wp2_with (first
      |((with_reducible refine gld 37 ?_);refine il rfl _ rfl _ rfl (cf 20 (f)) (ay _ _) L ?_)
      |((with_reducible refine gst 37 ?_);refine gV rfl _ _ rfl _ rfl (cf 20 (f)) rfl (ay _ _) (bQ _ _) G ?_;have E:=hid (World.rangeAt_setCells_same _ (w.heap.size+1) 0 (cf 20 (f)) (by rw[ay];exact G));have j:=hid ((u.out).kp (aN (b:=w.heap.size+1) (.inl oS) (cf 20 (f)) 0 _ (aV _ _)));generalize World.setCells _ _ _ _=C at E j ⊢))
     refine ar (v:=lH (f) (3) (0)) (dC rfl rfl (fL _ _ (cf 20 (f)) E (ay _ _)) rfl rfl) rfl ⟨_,_,_,rfl,Gq.refl N,oA,oA,fun h=>oA,j.less (fun _ h=>by cases h)⟩
    ·have i1:=d.i1;have mA:=ai d.m (dk 20 (Wd.upd f 8 ((f 8+2)%65536)) A oA);have s:=(d.nt A oA).2;rw[aC] at s;go_wp2_with (first
      |((with_reducible refine gld 37 ?_);refine il rfl _ rfl _ rfl (cf 20 (Wd.upd (Wd.upd f 8 ((f 8+2)%65536)) A (y))) (ay _ _) (d.set A oA (y)).m ?_)
      |((with_reducible refine gst 37 ?_);refine gV rfl _ _ rfl _ rfl (cf 20 (Wd.upd (Wd.upd f 8 ((f 8+2)%65536)) A (y))) rfl (ay _ _) (bQ _ _) (d.set A oA (y)).r ?_;have E:=hid (World.rangeAt_setCells_same _ (w.heap.size+1) 0 (cf 20 (Wd.upd (Wd.upd f 8 ((f 8+2)%65536)) A (y))) (by rw[ay];exact (d.set A oA (y)).r));have j:=hid ((u.kp ((aV _ D).setCell (b:=q.heap.size+1) (o:=A) (.inl oS) (.int .i64 (y)))).kp (aN (b:=w.heap.size+1) (.inl oS) (cf 20 (Wd.upd (Wd.upd f 8 ((f 8+2)%65536)) A (y))) 0 _ (aV _ _)));generalize World.setCells _ _ _ _=C at E j ⊢))
     refine ar (v:=lH (Wd.upd (Wd.upd f 8 ((f 8+2)%65536)) A (y)) (0) (0)) (dC rfl rfl (fL _ _ (cf 20 (Wd.upd (Wd.upd f 8 ((f 8+2)%65536)) A (y))) E (ay _ _)) rfl rfl) rfl ⟨_,_,_,rfl,F.Jo (k:=A) oA (v:=y) (hy),oA,oA,fun h=>oA,j.less (fun _ h=>by cases h)⟩
    ·have i1:=d.i1;have mA:=ai d.m (dk 20 (Wd.upd f 8 ((f 8+2)%65536)) A oA);have s:=(d.nt A oA).2;rw[aC] at s;go_wp2_with (first
      |((with_reducible refine gld 37 ?_);refine il rfl _ rfl _ rfl (cf 20 (Wd.upd (Wd.upd f 8 ((f 8+2)%65536)) A (f B))) (ay _ _) (d.set A oA (f B)).m ?_)
      |((with_reducible refine gst 37 ?_);refine gV rfl _ _ rfl _ rfl (cf 20 (Wd.upd (Wd.upd f 8 ((f 8+2)%65536)) A (f B))) rfl (ay _ _) (bQ _ _) (d.set A oA (f B)).r ?_;have E:=hid (World.rangeAt_setCells_same _ (w.heap.size+1) 0 (cf 20 (Wd.upd (Wd.upd f 8 ((f 8+2)%65536)) A (f B))) (by rw[ay];exact (d.set A oA (f B)).r));have j:=hid ((u.kp ((aV _ D).setCell (b:=q.heap.size+1) (o:=A) (.inl oS) (.int .i64 (f B)))).kp (aN (b:=w.heap.size+1) (.inl oS) (cf 20 (Wd.upd (Wd.upd f 8 ((f 8+2)%65536)) A (f B))) 0 _ (aV _ _)));generalize World.setCells _ _ _ _=C at E j ⊢))
     refine ar (v:=lH (Wd.upd (Wd.upd f 8 ((f 8+2)%65536)) A (f B)) (0) (0)) (dC rfl rfl (fL _ _ (cf 20 (Wd.upd (Wd.upd f 8 ((f 8+2)%65536)) A (f B))) E (ay _ _)) rfl rfl) rfl ⟨_,_,_,rfl,F.Jo (k:=A) oA (v:=f B) (⟨X,aa⟩),oA,oA,fun h=>oA,j.less (fun _ h=>by cases h)⟩
    ·have i1:=d.i1;have mA:=ai d.m (dk 20 (Wd.upd f 8 ((f 8+2)%65536)) A oA);have s:=(d.nt A oA).2;rw[aC] at s;go_wp2_with (first
      |((with_reducible refine gld 37 ?_);refine il rfl _ rfl _ rfl (cf 20 (Wd.upd (Wd.upd f 8 ((f 8+2)%65536)) A ((f A+f B)%65536))) (ay _ _) (d.set A oA ((f A+f B)%65536)).m ?_)
      |((with_reducible refine gst 37 ?_);refine gV rfl _ _ rfl _ rfl (cf 20 (Wd.upd (Wd.upd f 8 ((f 8+2)%65536)) A ((f A+f B)%65536))) rfl (ay _ _) (bQ _ _) (d.set A oA ((f A+f B)%65536)).r ?_;have E:=hid (World.rangeAt_setCells_same _ (w.heap.size+1) 0 (cf 20 (Wd.upd (Wd.upd f 8 ((f 8+2)%65536)) A ((f A+f B)%65536))) (by rw[ay];exact (d.set A oA ((f A+f B)%65536)).r));have j:=hid ((u.kp ((aV _ D).setCell (b:=q.heap.size+1) (o:=A) (.inl oS) (.int .i64 ((f A+f B)%65536)))).kp (aN (b:=w.heap.size+1) (.inl oS) (cf 20 (Wd.upd (Wd.upd f 8 ((f 8+2)%65536)) A ((f A+f B)%65536))) 0 _ (aV _ _)));generalize World.setCells _ _ _ _=C at E j ⊢))
     refine ar (v:=lH (Wd.upd (Wd.upd f 8 ((f 8+2)%65536)) A ((f A+f B)%65536)) (0) (0)) (dC rfl rfl (fL _ _ (cf 20 (Wd.upd (Wd.upd f 8 ((f 8+2)%65536)) A ((f A+f B)%65536))) E (ay _ _)) rfl rfl) rfl ⟨_,_,_,rfl,F.Jo (k:=A) oA (v:=(f A+f B)%65536) oA,oA,oA,fun h=>oA,j.less (fun _ h=>by cases h)⟩
    ·have i1:=d.i1;have mA:=ai d.m (dk 20 (Wd.upd f 8 ((f 8+2)%65536)) A oA);have s:=(d.nt A oA).2;rw[aC] at s;go_wp2_with (first
      |((with_reducible refine gld 37 ?_);refine il rfl _ rfl _ rfl (cf 20 (Wd.upd (Wd.upd f 8 ((f 8+2)%65536)) A ((f A+65536 - f B)%65536))) (ay _ _) (d.set A oA ((f A+65536 - f B)%65536)).m ?_)
      |((with_reducible refine gst 37 ?_);refine gV rfl _ _ rfl _ rfl (cf 20 (Wd.upd (Wd.upd f 8 ((f 8+2)%65536)) A ((f A+65536 - f B)%65536))) rfl (ay _ _) (bQ _ _) (d.set A oA ((f A+65536 - f B)%65536)).r ?_;have E:=hid (World.rangeAt_setCells_same _ (w.heap.size+1) 0 (cf 20 (Wd.upd (Wd.upd f 8 ((f 8+2)%65536)) A ((f A+65536 - f B)%65536))) (by rw[ay];exact (d.set A oA ((f A+65536 - f B)%65536)).r));have j:=hid ((u.kp ((aV _ D).setCell (b:=q.heap.size+1) (o:=A) (.inl oS) (.int .i64 ((f A+65536 - f B)%65536)))).kp (aN (b:=w.heap.size+1) (.inl oS) (cf 20 (Wd.upd (Wd.upd f 8 ((f 8+2)%65536)) A ((f A+65536 - f B)%65536))) 0 _ (aV _ _)));generalize World.setCells _ _ _ _=C at E j ⊢))
     refine ar (v:=lH (Wd.upd (Wd.upd f 8 ((f 8+2)%65536)) A ((f A+65536 - f B)%65536)) (0) (0)) (dC rfl rfl (fL _ _ (cf 20 (Wd.upd (Wd.upd f 8 ((f 8+2)%65536)) A ((f A+65536 - f B)%65536))) E (ay _ _)) rfl rfl) rfl ⟨_,_,_,rfl,F.Jo (k:=A) oA (v:=(f A+65536 - f B)%65536) oA,oA,oA,fun h=>oA,j.less (fun _ h=>by cases h)⟩
    ·have au:0<=f A*f B:=Int.mul_nonneg P X;have av:f A*f B<4294967296:=Int.lt_of_le_of_lt (Int.mul_le_mul U aa X oD) oD;have i1:=d.i1;have mA:=ai d.m (dk 20 (Wd.upd f 8 ((f 8+2)%65536)) A oA);have s:=(d.nt A oA).2;rw[aC] at s;go_wp2_with (first
      |((with_reducible refine gld 37 ?_);refine il rfl _ rfl _ rfl (cf 20 (Wd.upd (Wd.upd f 8 ((f 8+2)%65536)) A (f A*f B%65536))) (ay _ _) (d.set A oA (f A*f B%65536)).m ?_)
      |((with_reducible refine gst 37 ?_);refine gV rfl _ _ rfl _ rfl (cf 20 (Wd.upd (Wd.upd f 8 ((f 8+2)%65536)) A (f A*f B%65536))) rfl (ay _ _) (bQ _ _) (d.set A oA (f A*f B%65536)).r ?_;have E:=hid (World.rangeAt_setCells_same _ (w.heap.size+1) 0 (cf 20 (Wd.upd (Wd.upd f 8 ((f 8+2)%65536)) A (f A*f B%65536))) (by rw[ay];exact (d.set A oA (f A*f B%65536)).r));have j:=hid ((u.kp ((aV _ D).setCell (b:=q.heap.size+1) (o:=A) (.inl oS) (.int .i64 (f A*f B%65536)))).kp (aN (b:=w.heap.size+1) (.inl oS) (cf 20 (Wd.upd (Wd.upd f 8 ((f 8+2)%65536)) A (f A*f B%65536))) 0 _ (aV _ _)));generalize World.setCells _ _ _ _=C at E j ⊢))
     refine ar (v:=lH (Wd.upd (Wd.upd f 8 ((f 8+2)%65536)) A (f A*f B%65536)) (0) (0)) (dC rfl rfl (fL _ _ (cf 20 (Wd.upd (Wd.upd f 8 ((f 8+2)%65536)) A (f A*f B%65536))) E (ay _ _)) rfl rfl) rfl ⟨_,_,_,rfl,F.Jo (k:=A) oA (v:=f A*f B%65536) oA,oA,oA,fun h=>oA,j.less (fun _ h=>by cases h)⟩
    ·have ab:=zb 6 (f A).toNat (f B).toNat oA oA;have i0:=d.i0;have i1:=d.i1;have mA:=ai d.m (dk 20 (Wd.upd f 8 ((f 8+2)%65536)) A oA);have s:=(d.nt A oA).2;rw[aC] at s;go_wp2_with (first
      |((with_reducible refine gld 37 ?_);refine il rfl _ rfl _ rfl (cf 20 (Wd.upd (Wd.upd f 8 ((f 8+2)%65536)) A ((bw 6 (f A).toNat (f B).toNat:Nat)))) (ay _ _) (d.set A oA ((bw 6 (f A).toNat (f B).toNat:Nat))).m ?_)
      |((with_reducible refine gst 37 ?_);refine gV rfl _ _ rfl _ rfl (cf 20 (Wd.upd (Wd.upd f 8 ((f 8+2)%65536)) A ((bw 6 (f A).toNat (f B).toNat:Nat)))) rfl (ay _ _) (bQ _ _) (d.set A oA ((bw 6 (f A).toNat (f B).toNat:Nat))).r ?_;have E:=hid (World.rangeAt_setCells_same _ (w.heap.size+1) 0 (cf 20 (Wd.upd (Wd.upd f 8 ((f 8+2)%65536)) A ((bw 6 (f A).toNat (f B).toNat:Nat)))) (by rw[ay];exact (d.set A oA ((bw 6 (f A).toNat (f B).toNat:Nat))).r));have j:=hid ((u.kp ((aV _ D).setCell (b:=q.heap.size+1) (o:=A) (.inl oS) (.int .i64 ((bw 6 (f A).toNat (f B).toNat:Nat))))).kp (aN (b:=w.heap.size+1) (.inl oS) (cf 20 (Wd.upd (Wd.upd f 8 ((f 8+2)%65536)) A ((bw 6 (f A).toNat (f B).toNat:Nat)))) 0 _ (aV _ _)));generalize World.setCells _ _ _ _=C at E j ⊢)
      |(go_at_call 117;refine (Cpu.iN 6 oD _ _ _ P oA X oA).mono ?_;rintro e w' ⟨rfl,rfl⟩))
     refine ar (v:=lH (Wd.upd (Wd.upd f 8 ((f 8+2)%65536)) A ((bw 6 (f A).toNat (f B).toNat:Nat))) (0) (0)) (dC rfl rfl (fL _ _ (cf 20 (Wd.upd (Wd.upd f 8 ((f 8+2)%65536)) A ((bw 6 (f A).toNat (f B).toNat:Nat)))) E (ay _ _)) rfl rfl) rfl ⟨_,_,_,rfl,F.Jo (k:=A) oA (v:=(bw 6 (f A).toNat (f B).toNat:Nat)) oA,oA,oA,fun h=>oA,j.less (fun _ h=>by cases h)⟩
    ·have ab:=zb 7 (f A).toNat (f B).toNat oA oA;have i0:=d.i0;have i1:=d.i1;have mA:=ai d.m (dk 20 (Wd.upd f 8 ((f 8+2)%65536)) A oA);have s:=(d.nt A oA).2;rw[aC] at s;go_wp2_with (first
      |((with_reducible refine gld 37 ?_);refine il rfl _ rfl _ rfl (cf 20 (Wd.upd (Wd.upd f 8 ((f 8+2)%65536)) A ((bw 7 (f A).toNat (f B).toNat:Nat)))) (ay _ _) (d.set A oA ((bw 7 (f A).toNat (f B).toNat:Nat))).m ?_)
      |((with_reducible refine gst 37 ?_);refine gV rfl _ _ rfl _ rfl (cf 20 (Wd.upd (Wd.upd f 8 ((f 8+2)%65536)) A ((bw 7 (f A).toNat (f B).toNat:Nat)))) rfl (ay _ _) (bQ _ _) (d.set A oA ((bw 7 (f A).toNat (f B).toNat:Nat))).r ?_;have E:=hid (World.rangeAt_setCells_same _ (w.heap.size+1) 0 (cf 20 (Wd.upd (Wd.upd f 8 ((f 8+2)%65536)) A ((bw 7 (f A).toNat (f B).toNat:Nat)))) (by rw[ay];exact (d.set A oA ((bw 7 (f A).toNat (f B).toNat:Nat))).r));have j:=hid ((u.kp ((aV _ D).setCell (b:=q.heap.size+1) (o:=A) (.inl oS) (.int .i64 ((bw 7 (f A).toNat (f B).toNat:Nat))))).kp (aN (b:=w.heap.size+1) (.inl oS) (cf 20 (Wd.upd (Wd.upd f 8 ((f 8+2)%65536)) A ((bw 7 (f A).toNat (f B).toNat:Nat)))) 0 _ (aV _ _)));generalize World.setCells _ _ _ _=C at E j ⊢)
      |(go_at_call 117;refine (Cpu.iN 7 oD _ _ _ P oA X oA).mono ?_;rintro e w' ⟨rfl,rfl⟩))
     refine ar (v:=lH (Wd.upd (Wd.upd f 8 ((f 8+2)%65536)) A ((bw 7 (f A).toNat (f B).toNat:Nat))) (0) (0)) (dC rfl rfl (fL _ _ (cf 20 (Wd.upd (Wd.upd f 8 ((f 8+2)%65536)) A ((bw 7 (f A).toNat (f B).toNat:Nat)))) E (ay _ _)) rfl rfl) rfl ⟨_,_,_,rfl,F.Jo (k:=A) oA (v:=(bw 7 (f A).toNat (f B).toNat:Nat)) oA,oA,oA,fun h=>oA,j.less (fun _ h=>by cases h)⟩
    ·have ab:=zb 8 (f A).toNat (f B).toNat oA oA;have i0:=d.i0;have i1:=d.i1;have mA:=ai d.m (dk 20 (Wd.upd f 8 ((f 8+2)%65536)) A oA);have s:=(d.nt A oA).2;rw[aC] at s;go_wp2_with (first
      |((with_reducible refine gld 37 ?_);refine il rfl _ rfl _ rfl (cf 20 (Wd.upd (Wd.upd f 8 ((f 8+2)%65536)) A ((bw 8 (f A).toNat (f B).toNat:Nat)))) (ay _ _) (d.set A oA ((bw 8 (f A).toNat (f B).toNat:Nat))).m ?_)
      |((with_reducible refine gst 37 ?_);refine gV rfl _ _ rfl _ rfl (cf 20 (Wd.upd (Wd.upd f 8 ((f 8+2)%65536)) A ((bw 8 (f A).toNat (f B).toNat:Nat)))) rfl (ay _ _) (bQ _ _) (d.set A oA ((bw 8 (f A).toNat (f B).toNat:Nat))).r ?_;have E:=hid (World.rangeAt_setCells_same _ (w.heap.size+1) 0 (cf 20 (Wd.upd (Wd.upd f 8 ((f 8+2)%65536)) A ((bw 8 (f A).toNat (f B).toNat:Nat)))) (by rw[ay];exact (d.set A oA ((bw 8 (f A).toNat (f B).toNat:Nat))).r));have j:=hid ((u.kp ((aV _ D).setCell (b:=q.heap.size+1) (o:=A) (.inl oS) (.int .i64 ((bw 8 (f A).toNat (f B).toNat:Nat))))).kp (aN (b:=w.heap.size+1) (.inl oS) (cf 20 (Wd.upd (Wd.upd f 8 ((f 8+2)%65536)) A ((bw 8 (f A).toNat (f B).toNat:Nat)))) 0 _ (aV _ _)));generalize World.setCells _ _ _ _=C at E j ⊢)
      |(go_at_call 117;refine (Cpu.iN 8 oD _ _ _ P oA X oA).mono ?_;rintro e w' ⟨rfl,rfl⟩))
     refine ar (v:=lH (Wd.upd (Wd.upd f 8 ((f 8+2)%65536)) A ((bw 8 (f A).toNat (f B).toNat:Nat))) (0) (0)) (dC rfl rfl (fL _ _ (cf 20 (Wd.upd (Wd.upd f 8 ((f 8+2)%65536)) A ((bw 8 (f A).toNat (f B).toNat:Nat)))) E (ay _ _)) rfl rfl) rfl ⟨_,_,_,rfl,F.Jo (k:=A) oA (v:=(bw 8 (f A).toNat (f B).toNat:Nat)) oA,oA,oA,fun h=>oA,j.less (fun _ h=>by cases h)⟩
    ·by_cases ac:f A<f B
     ·have aj:=ac;have i1:=d.i1;have mA:=ai d.m (dk 20 (Wd.upd f 8 ((f 8+2)%65536)) A oA);have s:=(d.nt A oA).2;rw[aC] at s;go_wp2_with (first
       |((with_reducible refine gld 37 ?_);refine il rfl _ rfl _ rfl (cf 20 (Wd.upd (Wd.upd f 8 ((f 8+2)%65536)) A (1))) (ay _ _) (d.set A oA (1)).m ?_)
       |((with_reducible refine gst 37 ?_);refine gV rfl _ _ rfl _ rfl (cf 20 (Wd.upd (Wd.upd f 8 ((f 8+2)%65536)) A (1))) rfl (ay _ _) (bQ _ _) (d.set A oA (1)).r ?_;have E:=hid (World.rangeAt_setCells_same _ (w.heap.size+1) 0 (cf 20 (Wd.upd (Wd.upd f 8 ((f 8+2)%65536)) A (1))) (by rw[ay];exact (d.set A oA (1)).r));have j:=hid ((u.kp ((aV _ D).setCell (b:=q.heap.size+1) (o:=A) (.inl oS) (.int .i64 (1)))).kp (aN (b:=w.heap.size+1) (.inl oS) (cf 20 (Wd.upd (Wd.upd f 8 ((f 8+2)%65536)) A (1))) 0 _ (aV _ _)));generalize World.setCells _ _ _ _=C at E j ⊢))
      refine ar (v:=lH (Wd.upd (Wd.upd f 8 ((f 8+2)%65536)) A (1)) (0) (0)) (dC rfl rfl (fL _ _ (cf 20 (Wd.upd (Wd.upd f 8 ((f 8+2)%65536)) A (1))) E (ay _ _)) rfl rfl) rfl ⟨_,_,_,rfl,F.Jo (k:=A) oA (v:=1) oD,oA,oA,fun h=>oA,j.less (fun _ h=>by cases h)⟩
     ·have aj:=ac;have i1:=d.i1;have mA:=ai d.m (dk 20 (Wd.upd f 8 ((f 8+2)%65536)) A oA);have s:=(d.nt A oA).2;rw[aC] at s;go_wp2_with (first
       |((with_reducible refine gld 37 ?_);refine il rfl _ rfl _ rfl (cf 20 (Wd.upd (Wd.upd f 8 ((f 8+2)%65536)) A (0))) (ay _ _) (d.set A oA (0)).m ?_)
       |((with_reducible refine gst 37 ?_);refine gV rfl _ _ rfl _ rfl (cf 20 (Wd.upd (Wd.upd f 8 ((f 8+2)%65536)) A (0))) rfl (ay _ _) (bQ _ _) (d.set A oA (0)).r ?_;have E:=hid (World.rangeAt_setCells_same _ (w.heap.size+1) 0 (cf 20 (Wd.upd (Wd.upd f 8 ((f 8+2)%65536)) A (0))) (by rw[ay];exact (d.set A oA (0)).r));have j:=hid ((u.kp ((aV _ D).setCell (b:=q.heap.size+1) (o:=A) (.inl oS) (.int .i64 (0)))).kp (aN (b:=w.heap.size+1) (.inl oS) (cf 20 (Wd.upd (Wd.upd f 8 ((f 8+2)%65536)) A (0))) 0 _ (aV _ _)));generalize World.setCells _ _ _ _=C at E j ⊢))
      refine ar (v:=lH (Wd.upd (Wd.upd f 8 ((f 8+2)%65536)) A (0)) (0) (0)) (dC rfl rfl (fL _ _ (cf 20 (Wd.upd (Wd.upd f 8 ((f 8+2)%65536)) A (0))) E (ay _ _)) rfl rfl) rfl ⟨_,_,_,rfl,F.Jo (k:=A) oA (v:=0) oD,oA,oA,fun h=>oA,j.less (fun _ h=>by cases h)⟩
    ·go_wp2_with fail
     refine (Y.out _ _ _ u).mono ?_;rintro e O ⟨v,ok,rfl,hv,M,hk⟩;have n:=hid (d.kept hk oS oS oS oS);have J:=hid M;clear M hk u d
     cases ok with
     |false=>
      have L:=hid (n.t);have G:=hid (n.r);have H:=hid (J.out);go_wp2_with (first
       |((with_reducible refine gld 37 ?_);refine il rfl _ rfl _ rfl (cf 20 (f)) (ay _ _) L ?_)
       |((with_reducible refine gst 37 ?_);refine gV rfl _ _ rfl _ rfl (cf 20 (f)) rfl (ay _ _) (bQ _ _) G ?_;have E:=hid (World.rangeAt_setCells_same _ (w.heap.size+1) 0 (cf 20 (f)) (by rw[ay];exact G));have j:=hid ((H.out).kp (aN (b:=w.heap.size+1) (.inl oS) (cf 20 (f)) 0 _ (aV _ _)));generalize World.setCells _ _ _ _=C at E j ⊢))
      refine ar (v:=lH (f) (2) ((f B+y)%65536)) (dC rfl rfl (fL _ _ (cf 20 (f)) E (ay _ _)) rfl rfl) rfl ⟨_,_,_,rfl,Gq.refl N,oA,oA,fun h=>oA,j.less (fun _ h=>by cases h)⟩
     |true=>
      have i1:=n.i1;have mA:=ai n.m (dk 20 (Wd.upd f 8 ((f 8+2)%65536)) A oA);have s:=(n.nt A oA).2;rw[aC] at s;go_wp2_with (first
       |((with_reducible refine gld 37 ?_);refine il rfl _ rfl _ rfl (cf 20 (Wd.upd (Wd.upd f 8 ((f 8+2)%65536)) A (v))) (ay _ _) (n.set A oA (v)).m ?_)
       |((with_reducible refine gst 37 ?_);refine gV rfl _ _ rfl _ rfl (cf 20 (Wd.upd (Wd.upd f 8 ((f 8+2)%65536)) A (v))) rfl (ay _ _) (bQ _ _) (n.set A oA (v)).r ?_;have E:=hid (World.rangeAt_setCells_same _ (w.heap.size+1) 0 (cf 20 (Wd.upd (Wd.upd f 8 ((f 8+2)%65536)) A (v))) (by rw[ay];exact (n.set A oA (v)).r));have j:=hid ((J.kp ((aV _ O).setCell (b:=q.heap.size+1) (o:=A) (.inl oS) (.int .i64 (v)))).kp (aN (b:=w.heap.size+1) (.inl oS) (cf 20 (Wd.upd (Wd.upd f 8 ((f 8+2)%65536)) A (v))) 0 _ (aV _ _)));generalize World.setCells _ _ _ _=C at E j ⊢))
      refine ar (v:=lH (Wd.upd (Wd.upd f 8 ((f 8+2)%65536)) A (v)) (0) (0)) (dC rfl rfl (fL _ _ (cf 20 (Wd.upd (Wd.upd f 8 ((f 8+2)%65536)) A (v))) E (ay _ _)) rfl rfl) rfl ⟨_,_,_,rfl,F.Jo (k:=A) oA (v:=v) (hv),oA,oA,fun h=>oA,j.less (fun _ h=>by cases h)⟩
    ·go_wp2_with fail
     refine (CS.out _ _ _ _ ⟨P,U⟩ u).mono ?_;rintro e O ⟨ok,rfl,M,hk⟩;have n:=hid (d.kept hk oS oS oS oS);have J:=hid M;clear M hk u d
     cases ok with
     |false=>
      have L:=hid (n.t);have G:=hid (n.r);have H:=hid (J.out);go_wp2_with (first
       |((with_reducible refine gld 37 ?_);refine il rfl _ rfl _ rfl (cf 20 (f)) (ay _ _) L ?_)
       |((with_reducible refine gst 37 ?_);refine gV rfl _ _ rfl _ rfl (cf 20 (f)) rfl (ay _ _) (bQ _ _) G ?_;have E:=hid (World.rangeAt_setCells_same _ (w.heap.size+1) 0 (cf 20 (f)) (by rw[ay];exact G));have j:=hid ((H.out).kp (aN (b:=w.heap.size+1) (.inl oS) (cf 20 (f)) 0 _ (aV _ _)));generalize World.setCells _ _ _ _=C at E j ⊢))
      refine ar (v:=lH (f) (2) ((f B+y)%65536)) (dC rfl rfl (fL _ _ (cf 20 (f)) E (ay _ _)) rfl rfl) rfl ⟨_,_,_,rfl,Gq.refl N,oA,oA,fun h=>oA,j.less (fun _ h=>by cases h)⟩
     |true=>
      have i1:=n.i1;have mA:=ai n.m (dk 20 (Wd.upd f 8 ((f 8+2)%65536)) A oA);have s:=(n.nt A oA).2;rw[aC] at s;go_wp2_with (first
       |((with_reducible refine gld 37 ?_);refine il rfl _ rfl _ rfl (cf 20 (Wd.upd (Wd.upd f 8 ((f 8+2)%65536)) A (f A))) (ay _ _) (n.set A oA (f A)).m ?_)
       |((with_reducible refine gst 37 ?_);refine gV rfl _ _ rfl _ rfl (cf 20 (Wd.upd (Wd.upd f 8 ((f 8+2)%65536)) A (f A))) rfl (ay _ _) (bQ _ _) (n.set A oA (f A)).r ?_;have E:=hid (World.rangeAt_setCells_same _ (w.heap.size+1) 0 (cf 20 (Wd.upd (Wd.upd f 8 ((f 8+2)%65536)) A (f A))) (by rw[ay];exact (n.set A oA (f A)).r));have j:=hid ((J.kp ((aV _ O).setCell (b:=q.heap.size+1) (o:=A) (.inl oS) (.int .i64 (f A)))).kp (aN (b:=w.heap.size+1) (.inl oS) (cf 20 (Wd.upd (Wd.upd f 8 ((f 8+2)%65536)) A (f A))) 0 _ (aV _ _)));generalize World.setCells _ _ _ _=C at E j ⊢))
      refine ar (v:=lH (Wd.upd (Wd.upd f 8 ((f 8+2)%65536)) A (f A)) (0) (0)) (dC rfl rfl (fL _ _ (cf 20 (Wd.upd (Wd.upd f 8 ((f 8+2)%65536)) A (f A))) E (ay _ _)) rfl rfl) rfl ⟨_,_,_,rfl,F.Jo (k:=A) oA (v:=f A) (⟨P,U⟩),oA,oA,fun h=>oA,j.less (fun _ h=>by cases h)⟩
    ·have m8:=ai d.m (dk 20 (Wd.upd f 8 ((f 8+2)%65536)) 8 oD);have y8:=(d.nt 8 oD).2;go_upto_region 54 with fail
     have n:=hid (d.set 8 oD y);have J:=hid (u.kp ((aV _ D).setCell (b:=q.heap.size+1) (o:=8) (.inl oS) (.int .i64 y)));have G7:=hid (F.Jo (k:=8) oD (v:=y) hy);clear m8 y8 d u F;generalize World.setCell _ _ _=O at n J ⊢;have i1:=n.i1;have mA:=ai n.m (dk 20 (Wd.upd (Wd.upd f 8 ((f 8+2)%65536)) 8 y) A oA);have s:=(n.nt A oA).2;rw[aC] at s;go_wp2_with (first
      |((with_reducible refine gld 37 ?_);refine il rfl _ rfl _ rfl (cf 20 (Wd.upd (Wd.upd (Wd.upd f 8 ((f 8+2)%65536)) 8 y) A (f A))) (ay _ _) (n.set A oA (f A)).m ?_)
      |((with_reducible refine gst 37 ?_);refine gV rfl _ _ rfl _ rfl (cf 20 (Wd.upd (Wd.upd (Wd.upd f 8 ((f 8+2)%65536)) 8 y) A (f A))) rfl (ay _ _) (bQ _ _) (n.set A oA (f A)).r ?_;have E:=hid (World.rangeAt_setCells_same _ (w.heap.size+1) 0 (cf 20 (Wd.upd (Wd.upd (Wd.upd f 8 ((f 8+2)%65536)) 8 y) A (f A))) (by rw[ay];exact (n.set A oA (f A)).r));have j:=hid ((J.kp ((aV _ O).setCell (b:=q.heap.size+1) (o:=A) (.inl oS) (.int .i64 (f A)))).kp (aN (b:=w.heap.size+1) (.inl oS) (cf 20 (Wd.upd (Wd.upd (Wd.upd f 8 ((f 8+2)%65536)) 8 y) A (f A))) 0 _ (aV _ _)));generalize World.setCells _ _ _ _=C at E j ⊢))
     refine ar (v:=lH (Wd.upd (Wd.upd (Wd.upd f 8 ((f 8+2)%65536)) 8 y) A (f A)) (0) (0)) (dC rfl rfl (fL _ _ (cf 20 (Wd.upd (Wd.upd (Wd.upd f 8 ((f 8+2)%65536)) 8 y) A (f A))) E (ay _ _)) rfl rfl) rfl ⟨_,_,_,rfl,G7.Jo (k:=A) oA (v:=f A) (⟨P,U⟩),oA,oA,fun h=>oA,j.less (fun _ h=>by cases h)⟩
    ·by_cases hz:f A=0
     ·have am:(f A==0)=true:=by simp[hz]
      clear hz;have m8:=ai d.m (dk 20 (Wd.upd f 8 ((f 8+2)%65536)) 8 oD);have y8:=(d.nt 8 oD).2;go_upto_region 54 with fail
      have n:=hid (d.set 8 oD y);have J:=hid (u.kp ((aV _ D).setCell (b:=q.heap.size+1) (o:=8) (.inl oS) (.int .i64 y)));have G7:=hid (F.Jo (k:=8) oD (v:=y) hy);clear m8 y8 d u F;generalize World.setCell _ _ _=O at n J ⊢;have i1:=n.i1;have mA:=ai n.m (dk 20 (Wd.upd (Wd.upd f 8 ((f 8+2)%65536)) 8 y) A oA);have s:=(n.nt A oA).2;rw[aC] at s;go_wp2_with (first
       |((with_reducible refine gld 37 ?_);refine il rfl _ rfl _ rfl (cf 20 (Wd.upd (Wd.upd (Wd.upd f 8 ((f 8+2)%65536)) 8 y) A (f A))) (ay _ _) (n.set A oA (f A)).m ?_)
       |((with_reducible refine gst 37 ?_);refine gV rfl _ _ rfl _ rfl (cf 20 (Wd.upd (Wd.upd (Wd.upd f 8 ((f 8+2)%65536)) 8 y) A (f A))) rfl (ay _ _) (bQ _ _) (n.set A oA (f A)).r ?_;have E:=hid (World.rangeAt_setCells_same _ (w.heap.size+1) 0 (cf 20 (Wd.upd (Wd.upd (Wd.upd f 8 ((f 8+2)%65536)) 8 y) A (f A))) (by rw[ay];exact (n.set A oA (f A)).r));have j:=hid ((J.kp ((aV _ O).setCell (b:=q.heap.size+1) (o:=A) (.inl oS) (.int .i64 (f A)))).kp (aN (b:=w.heap.size+1) (.inl oS) (cf 20 (Wd.upd (Wd.upd (Wd.upd f 8 ((f 8+2)%65536)) 8 y) A (f A))) 0 _ (aV _ _)));generalize World.setCells _ _ _ _=C at E j ⊢))
      refine ar (v:=lH (Wd.upd (Wd.upd (Wd.upd f 8 ((f 8+2)%65536)) 8 y) A (f A)) (0) (0)) (dC rfl rfl (fL _ _ (cf 20 (Wd.upd (Wd.upd (Wd.upd f 8 ((f 8+2)%65536)) 8 y) A (f A))) E (ay _ _)) rfl rfl) rfl ⟨_,_,_,rfl,G7.Jo (k:=A) oA (v:=f A) (⟨P,U⟩),oA,oA,fun h=>oA,j.less (fun _ h=>by cases h)⟩
     ·have am:(f A==0)=false:=by simp[hz]
      have i1:=d.i1;have mA:=ai d.m (dk 20 (Wd.upd f 8 ((f 8+2)%65536)) A oA);have s:=(d.nt A oA).2;rw[aC] at s;go_wp2_with (first
       |((with_reducible refine gld 37 ?_);refine il rfl _ rfl _ rfl (cf 20 (Wd.upd (Wd.upd f 8 ((f 8+2)%65536)) A (f A))) (ay _ _) (d.set A oA (f A)).m ?_)
       |((with_reducible refine gst 37 ?_);refine gV rfl _ _ rfl _ rfl (cf 20 (Wd.upd (Wd.upd f 8 ((f 8+2)%65536)) A (f A))) rfl (ay _ _) (bQ _ _) (d.set A oA (f A)).r ?_;have E:=hid (World.rangeAt_setCells_same _ (w.heap.size+1) 0 (cf 20 (Wd.upd (Wd.upd f 8 ((f 8+2)%65536)) A (f A))) (by rw[ay];exact (d.set A oA (f A)).r));have j:=hid ((u.kp ((aV _ D).setCell (b:=q.heap.size+1) (o:=A) (.inl oS) (.int .i64 (f A)))).kp (aN (b:=w.heap.size+1) (.inl oS) (cf 20 (Wd.upd (Wd.upd f 8 ((f 8+2)%65536)) A (f A))) 0 _ (aV _ _)));generalize World.setCells _ _ _ _=C at E j ⊢))
      refine ar (v:=lH (Wd.upd (Wd.upd f 8 ((f 8+2)%65536)) A (f A)) (0) (0)) (dC rfl rfl (fL _ _ (cf 20 (Wd.upd (Wd.upd f 8 ((f 8+2)%65536)) A (f A))) E (ay _ _)) rfl rfl) rfl ⟨_,_,_,rfl,F.Jo (k:=A) oA (v:=f A) (⟨P,U⟩),oA,oA,fun h=>oA,j.less (fun _ h=>by cases h)⟩
    ·have T9:=d.m;have R6:=d.r;have k3:=d.i3;have ad:w.heap.size+1≠q.heap.size:=by have:=sr.out;omega
     have ae:w.heap.size+1≠q.heap.size+1:=by have:=sr.out;omega
     go_upto_region 53 with fail
     have H:=hid (u.below (show Below D.heap.size D D.drew from aB D 1));have Q:=hid (show (fun W=>W.rangeAt (q.heap.size+1) 0 (cf 20 (Wd.upd f 8 ((f 8+2)%65536)))∧W.cell? ⟨q.heap.size,3,none⟩=some (.int .i64 i)) D.drew from⟨T9,k3⟩);have R7:=hid (show D.drew.there (w.heap.size+1) 0 20 from R6);refine Rf.ed (S:=fun W=>W.rangeAt (q.heap.size+1) 0 (cf 20 (Wd.upd f 8 ((f 8+2)%65536)))∧W.cell? ⟨q.heap.size,3,none⟩=some (.int .i64 i)) (R:=fun _=>True) [] oK Q trivial (fun _ _=>?_);generalize hg:Wd.upd f 8 ((f 8+2)%65536)=g at*;generalize D.drew=O at*;refine bT oK _ Q trivial [0] 5 _ _ oK ?_;refine Rf.Am rfl oR (fun _ _ _ _ h=>h) ?_;apply Exists.intro;refine⟨fun W h=>?_,?_⟩;(focus (exact Dh rfl rfl (ay _ _) h.1));try simp only[jj]
     refine aM ?_;refine bT oK _ Q trivial [1,2] 3 _ _ oK ?_
     repeat (refine Rf.rs ?_ rfl oR (fun W h=>by have h2:=h.2;clear h;go_simp;try rfl);try simp only[jj])
     refine aM ?_;refine Rf.r1 3 rfl (fun K hK=>?_);refine wnt oR ?_;refine wp_store_mid _ _ _ rfl _ _ (cf 20 g).toArray rfl rfl (by simpa [gW] using R7.out) (by rw[gA];simp[gW]) (all_oneCell_toArray (bQ 20 g)) ?_
     try simp only[jj]
     have E:=hid (World.rangeAt_setCells_same O (w.heap.size+1) 0 (cf 20 g) (by rw[ay];exact R7));have j:=hid (H.kp (aN (b:=w.heap.size+1) (.inl oS) (cf 20 g) 0 _ (aV _ _)));have Q9:=hid (show (fun W=>W.rangeAt (q.heap.size+1) 0 (cf 20 g)∧W.cell? ⟨q.heap.size,3,none⟩=some (.int .i64 i)) (O.setCells (w.heap.size+1) 0 (cf 20 g)) from⟨World.rangeAt_setCells_apart Q.1 _ _ _ (.inl ae.symm),by rw[gZ ad.symm];exact Q.2⟩);refine hK _ _ Q9 (fun _=>trivial) (fun _ _=>?_);clear hK K;generalize World.setCells _ _ _ _=C at E j Q9 ⊢;refine bT oK _ Q9 trivial [4,5] 0 _ _ oK ?_
     repeat (refine Rf.rs ?_;try simp only[jj])
     refine aM ?_;refine bc oK ?_ _;go_wp2_with fail
     have z1:Gq f g:=F.out;have z3:=j.less (m:=[]) (fun _ h=>by cases h);have ag:=an;have ah:=ao;clear Y CS F hg N j Q9 Q H u ad ae k3 R6 R7 T9 d;exact ar (v:=lH g 1 i) (dC rfl rfl (fL _ _ (cf 20 g) E (ay _ _)) rfl rfl) rfl (yQ.sys z1 ag ah z3)
