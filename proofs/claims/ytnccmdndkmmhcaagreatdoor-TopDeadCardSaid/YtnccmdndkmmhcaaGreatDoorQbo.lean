/- Qbo -/
import Derived.Test.YtnccmdndkmmhcaaGreatDoorQbn
set_option maxRecDepth 100000
set_option maxHeartbeats 16000000
namespace Go.Proofs.YtnccmdndkmmhcaaGreatDoor
namespace Wd
open Go.RowKit Mem Bw Nums Mmu
theorem Bx.pre {p:PW} {wb:Nat} {tag:Nat->Nat} {W e W2:World} (f:Below W.heap.size W e) (h:Bx p wb tag e W2):Bx p wb tag W W2:=by
 obtain⟨a,b,c,k,d⟩:=h;exact⟨a,b,c,(bj f).trans k,d⟩
theorem AW:(Tryz.prog.info? 35).map (·.size)=some 8:=oK
theorem uL {ops:Array Oper} {rest:List Oper} {op:Oper} {a:Act} {w:World} {Q:Exit->Act->World->Prop} (d:op.guard=none) (x:Operand) (e:op.op=.load 35 x)
  (b o:Nat) (f:a.eval x=.pointer (some ⟨b,o,none⟩)) (cs:List Value) (hl:cs.length=8) (c:w.rangeAt b o cs)
  (h:wpList Tryz.prog ops Q rest (a.put op.dst (.agg cs.toArray)) w):wpList Tryz.prog ops Q (op::rest) a w:=
 wpList_load_mid d 35 x e b o f cs _ c Tryz.underlying35 rfl (by rw[AW,hl]) h
theorem F6 {ops:Array Oper} {rest:List Oper} {op:Oper} {a:Act} {w:World} {Q:Exit->Act->World->Prop} (d:op.guard=none) (x y:Operand) (e:op.op=.store 35 x y)
  (b o:Nat) (g:a.eval x=.pointer (some ⟨b,o,none⟩)) (cs:List Value) (i:a.eval y=.agg cs.toArray) (hl:cs.length=8) (c:∀v∈cs,v.oneCell'=true) (f:w.there b o 8)
  (h:wpList Tryz.prog ops Q rest (a.put op.dst undef) (w.setCells b o cs)):wpList Tryz.prog ops Q (op::rest) a w:=
 wpList_store_mid d 35 x y e b o cs.toArray g i (by simpa [hl] using f) (by rw[AW];simp[hl]) (all_oneCell_toArray c) (by simpa using h)
theorem qB {p:PW} (h:Lw p) {n a k r:Int} (hk:2<=k) (e:(kAt p n a k r).2=0):(∃f:Nat,(kAt p n a k r).1 1=f∧p.k f=k)∧(0<=(kAt p n a k r).1 4∧(kAt p n a k r).1 4<=7)∧0<=(kAt p n a k r).1 5∧(kAt p n a k r).1 5<=65535:=by
 refine⟨kB h hk e,(xj h hk e).2,?_⟩;obtain⟨t,l⟩:=h.m.keys;unfold kAt at e ⊢;by_cases h0:(sAt p n a).2=0
 ·rw[ag h0] at e ⊢;generalize (sAt p n a).1.toNat=i at e ⊢;have b:∀j,j<6->p.IA.getD i fv j=p.s i j:=fun j q=>by
   show p.IA.getD i fv j=p.IA.getD i eS j
   rw[aa,aa]
   cases p.IA[i]? with
   |some x=>rfl
   |none=>show fv j=eS j;unfold fv eS;rw[ae oA]
  unfold kOf at e ⊢;have s0:=b 0 oD;have o:=b 5 oD;by_cases c0:p.IA.getD i fv 0=0
  ·rw[ag c0] at e;cases e
  rw[ae c0] at e ⊢;by_cases c1:p.IA.getD i fv 0=k
  ·rw[ag c1] at e ⊢;split at e
   ·rename_i c2;rw[ag c2];obtain⟨_,_,_,_,_,_,_,_,_,_,d,g⟩:=KP.kj (show KP.chk (p.s i 0) (p.s i 1) (p.s i 2) (p.s i 3) (p.s i 4) (p.s i 5)=0 from (l.key i (by rw[<-s0];exact c0)).c);show 0<=p.IA.getD i fv 5∧p.IA.getD i fv 5<=65535
    rw[o];exact⟨d,g⟩
   ·cases e
  ·rw[ae c1] at e;cases e
 ·rw[ae h0] at e;exact absurd e h0
theorem Lw.yield {p:PW} (h:Lw p) {c t:Nat} (a:p.co c=t) (hl:c<p.IC.length):Lw (wnP {p with IC:=p.IC.set c (-1)} t (rdN p t)):=by
 have x:=h.m.tk;obtain⟨_,b,d,_⟩:=x.q.inc a;have y:Tk (Hnd t) {p with IC:=p.IC.set c (-1)}:=x.Jz (L:=p.lines) (B:=p.bits) (R:=p.ready) (x.q.JM a hl);exact h.tk (y.I6 (show p.t t 9≠5 by omega)) (((dO p).ls (L:=p.lines) (R:=p.ready) (B:=p.bits) (C:=p.IC.set c (-1))).wn t (rdN p t))
theorem yW (wb:Nat) (tag:Nat->Nat) (V:Nat->Value) (p:PW) (c t:Nat) (n:Int) (w:World) (bt:cb w wb tag V p) (hp:Lv p) (hc:p.co c=t):
  Calls Tryz.prog 182 #[.pointer (some ⟨wb,0,none⟩),.int .i64 (c:Int),.int .i64 n] w fun r w'=>Okd p wb tag w r w':=by
 have lf:=hp.w.m.tk.lf;have HV:=hid (bt.view hp.w.fits hp.w.I0);have A:=hid bt;have l:=hid hp;have HC:=hid hc;obtain⟨_,h6,_⟩:=hp.w.m.tk.q.inc hc;have H6:=hid h6;have aB:=iM (p:=p) (f:=t) (by rw[h6];decide);have HG:=hid (fun k (hk:k<8)=>hp.w.m.tk.word h6 (k:=k) (.inl oA));have ah:t<p.IB.length:=by have:=lf.IB;omega
 have am:c<p.IC.length:=Nat.lt_of_not_le fun hh=>by
  have e:p.co c= -1:=by show p.IC.getD c (-1)= -1;rw[aa,aK hh];rfl
  rw[hc] at e;omega
 have aT:(c:Int)<(p.IC.length:Int):=oA;have aU:(p.IC.length:Int)<=1000:=by have:=hp.w.fits.IC;omega
 have aW:(t:Int)<(p.IB.length:Int):=oA;have aX:(p.IB.length:Int)<=1000:=by have:=hp.w.fits.IB;omega
 obtain⟨g6,k6,e6⟩:=bt.o.IC.form oA;obtain⟨gt,kt,e3⟩:=bt.o.IB.form oA;have E6:=hid e6;have E3:=hid e3;have ao:=hid am;have ap:=hid ah;have x6:w.cell? ⟨g6,c,none⟩=some (.int .i64 t):=by rw[(bt.IL e6 am).1];exact dG (fun z=>some (Value.int .i64 z)) hc
 have c6:w.cell? ⟨wb,6,none⟩=some (.slice (some ⟨g6,0,none⟩) p.IC.length k6):=by rw[ai bt.r (k:=6) rfl,e6]
 have c3:w.cell? ⟨wb,3,none⟩=some (.slice (some ⟨gt,0,none⟩) p.IB.length kt):=by rw[ai bt.r (k:=3) rfl,e3]
 have td:=bt.IH e3 ah (show 11<20 by omega);have RT:=hid (show w.rangeAt gt (t*20) (cf 8 (p.t t)) from fun j v hv=>by
  have hj:j<8:=by have:=(List.getElem?_eq_some_iff.1 hv).1;simpa [cf] using this
  rw[dk 8 _ j hj] at hv
  cases hv
  exact bt.IH e3 ah (show j<20 by omega))
 obtain⟨d,hd⟩:∃d,p.IB.getD t bl 11=d:=⟨_,rfl⟩
 rw[hd] at td;obtain⟨g,hg⟩:∃g,p.t t=g:=⟨_,rfl⟩
 rw[hg] at RT HG;have HD:=hid hd;have aF:=hid hg;clear bt hp hc hd hg e6 e3 lf aB h6 am ah;have KS:=hid (fun o=>aN (T:=fun _=>False) (w:=w) (b:=w.heap.size) (.inr (aq _)) (cf 8 g) 0 _ ((aV _ w).alloc o));have XS:=hid (fun z u (hz:8<=z.size)=>World.rangeAt_setCells_same (w.alloc (.cells z u)) w.heap.size 0 (cf 8 g) (by rw[ay];exact aP w z u _ 8 rfl hz));go_enter Tryz.func182,Tryz.ntmps182
 go_upto_region 3 with (first
  |((with_reducible refine gld 35 ?_);refine uL rfl _ rfl gt (t*20) rfl (cf 8 g) (ay _ _) RT ?_)
  |((with_reducible refine gst 35 ?_);refine F6 rfl _ _ rfl w.heap.size 0 rfl (cf 8 g) rfl (ay _ _) (bQ _ _) (aP _ _ _ _ _ oS oD) ?_))
 generalize N:World.setCells _ _ _ _=W1;have D:=hid (show Below w.heap.size w W1 by rw[<-N];exact (KS.out _).all);have P:=hid (show W1.rangeAt w.heap.size 0 (cf 8 g) by rw[<-N];exact XS _ _ oS);clear N KS XS RT x6;replace c6:=cu D c6;replace c3:=cu D c3;replace td:=cu D td;by_cases x:n=0
 ·subst x;obtain⟨r1,r2,r3,r4⟩:=mS l.s (iM (p:=p) (f:=t) (by rw[H6.out];decide)) ((xl (iM (p:=p) (f:=t) (by rw[H6.out];decide))).trans H6);have ax:({p with IC:=p.IC.set c (-1)}:PW).Fits:=by
   have h:=l.w.fits;exact⟨h.IE,h.kinds,h.IA,h.IB,h.lines,h.line,h.bits,by show (p.IC.set c (-1)).length<=1000;rw[au];exact h.IC,h.ready,h.next,h.ID,h.IG⟩
  have av:=hid (fun X (h:cb X wb tag V {p with IC:=p.IC.set c (-1)})=>gP wb tag V {p with IC:=p.IC.set c (-1)} t (rdN p t) X h ax ap r1 r3 r4 r2);have aj:=hid (A.below D);obtain⟨x6,f6⟩:=aj.IL E6 ao;obtain⟨b2,k2⟩:=aj.IS E6 c (-1);have B5:=hid b2;have K5:=hid ((bj (tag:=tag) D).trans k2);clear b2 k2 r1 r2 r3 r4 ax;go_upto_region 7 with fail
  generalize World.setCell _ _ _=w2 at*;clear c6 x6 f6 aj;go_wp2_with fail
  refine (av.out _ B5).mono ?_;rintro r w3 ⟨rfl,tg,h1,h2⟩;have az:=hid (show Bx p wb tag w w3 from⟨tg,V,_,K5.trans h2,h1,l.rs (l.w.yield HC ao) (((dO p).ls (L:=p.lines) (R:=p.ready) (B:=p.bits) (C:=p.IC.set c (-1))).wn t (rdN p t))⟩);clear h1 h2 av B5 K5;go_wp2_with fail
  refine ar (v:=.int .i64 (0)) (by simp[results,Tryz.results182,go_sem]) rfl ⟨0,rfl,oD,az.out⟩
 have N0:(n==0)=false:=by simp[x]
 clear x;by_cases x:n=1∨n=2
 ·rcases x with rfl|rfl
  all_goals
   have J:=hid (fE wb V p d (g 1) 7 2 W1 (HV.below D) l.s);have S:=hid (gE p d (g 1) 7 2);have U:=hid (fun h=>qB l.w (n:=d) (a:=g 1) (k:=7) (r:=2) oD h);generalize (kAt p d (g 1) 7 2).2=E at*;generalize (kAt p d (g 1) 7 2).1=K at*;have t1:=ai P (dk 8 g 1 oD);go_wp2_with fail
   refine J.mono ?_;rintro r w2 ⟨rfl,G⟩;have W:=zL G K;clear G J t1;go_upto_region 12 with ((with_reducible refine gst 32 ?_);refine gS rfl _ _ rfl w2.heap.size 0 rfl (cf 6 K) rfl (ay _ _) (bQ _ _) (aP _ _ _ _ _ oS oD) ?_)
   generalize N:World.setCells _ _ _ _=Q;obtain⟨BB,I⟩:=W.out _ _ _ N oS;clear N W;have F:=hid (btr D BB);have t2:=cu BB (ai P (dk 8 g 2 oD));have x1:=ai I (dk 6 K 1 oD);have x4:=ai I (dk 6 K 4 oD);have x5:=ai I (dk 6 K 5 oD);by_cases M:E=0
   rotate_left
   ·have ad:(E==0)=false:=by simp[M]
    go_wp2_with fail
    refine ar (v:=.int .i64 (E)) (by simp[results,Tryz.results182,go_sem]) rfl ⟨E,rfl,S.out,du l A F⟩
   subst M;obtain⟨⟨f,Y,Z⟩,⟨r0,r1⟩,b0,b1⟩:=U.out rfl;rw[Y] at x1;have HF:=hid Z;generalize K 4=rr at*;generalize K 5=bb at*;clear U S Y Z I
  ·go_wp2_with fail
   refine (iW l HC HF ⟨b0,b1⟩ (HG.out 2 oD) Q wb tag V (A.below F)).mono ?_;rintro r O ⟨rfl,i⟩;have y:=hid i;clear i;go_wp2_with fail
   refine ar (v:=.int .i64 (0)) (by simp[results,Tryz.results182,go_sem]) rfl ⟨0,rfl,oD,y.pre F⟩
  ·by_cases hw:rr/4%2=0
   ·have aE:(rr/4%2==0)=true:=by simp[hw]
    clear hw;go_wp2_with fail
    refine ar (v:=.int .i64 (4)) (by simp[results,Tryz.results182,go_sem]) rfl ⟨4,rfl,oD,du l A F⟩
   ·have aE:(rr/4%2==0)=false:=by simp[hw]
    clear hw;go_wp2_with fail
    refine (iW l HC HF ⟨b0,b1⟩ (HG.out 2 oD) Q wb tag V (A.below F)).mono ?_;rintro r O ⟨rfl,i⟩;have y:=hid i;clear i;go_wp2_with fail
    refine ar (v:=.int .i64 (0)) (by simp[results,Tryz.results182,go_sem]) rfl ⟨0,rfl,oD,y.pre F⟩
 have N1:(n==1)=false:=beq_eq_false_iff_ne.2 oA;have N2:(n==2)=false:=beq_eq_false_iff_ne.2 oA;clear x;by_cases x:n=3
 ·subst x;have J:=hid (fE wb V p d (g 1) 7 1 W1 (HV.below D) l.s);have S:=hid (gE p d (g 1) 7 1);have U:=hid (fun h=>qB l.w (n:=d) (a:=g 1) (k:=7) (r:=1) oD h);generalize (kAt p d (g 1) 7 1).2=E at*;generalize (kAt p d (g 1) 7 1).1=K at*;have t1:=ai P (dk 8 g 1 oD);go_wp2_with fail
  refine J.mono ?_;rintro r w2 ⟨rfl,G⟩;have W:=zL G K;clear G J t1;go_upto_region 20 with ((with_reducible refine gst 32 ?_);refine gS rfl _ _ rfl w2.heap.size 0 rfl (cf 6 K) rfl (ay _ _) (bQ _ _) (aP _ _ _ _ _ oS oD) ?_)
  generalize N:World.setCells _ _ _ _=Q;obtain⟨BB,I⟩:=W.out _ _ _ N oS;clear N W;have F:=hid (btr D BB);have x1:=ai I (dk 6 K 1 oD);have x4:=ai I (dk 6 K 4 oD);have x5:=ai I (dk 6 K 5 oD);by_cases M:E=0
  case neg=>
   have ad:(E==0)=false:=by simp[M]
   go_wp2_with fail
   refine ar (v:=.int .i64 (E)) (by simp[results,Tryz.results182,go_sem]) rfl ⟨E,rfl,S.out,du l A F⟩
  case pos=>
   subst M;obtain⟨⟨f,Y,Z⟩,⟨r0,r1⟩,b0,b1⟩:=U.out rfl;rw[Y] at x1;have HF:=hid Z;generalize K 4=rr at*;generalize K 5=bb at*;clear U S Y Z I;go_wp2_with fail
   refine (sP l HC HF Q wb tag V (A.below F)).mono ?_;rintro r O ⟨e,rfl,H,i⟩;have y:=hid i;clear i;go_wp2_with fail
   refine ar (v:=.int .i64 (e)) (by simp[results,Tryz.results182,go_sem]) rfl ⟨e,rfl,H,y.pre F⟩
 have N3:(n==3)=false:=by simp[x]
 clear x;by_cases x:n=4
 ·subst x;have t2:=ai P (dk 8 g 2 oD);go_wp2_with fail
  refine (oE l HC (HG.out 2 oD) W1 wb tag V (A.below D)).mono ?_;rintro r O ⟨e,rfl,H,i⟩;have y:=hid i;clear i;go_wp2_with fail
  refine ar (v:=.int .i64 (e)) (by simp[results,Tryz.results182,go_sem]) rfl ⟨e,rfl,H,y.pre D⟩
 have N4:(n==4)=false:=by simp[x]
 clear x;by_cases x:n=5
 ·subst x;have J:=hid (fE wb V p d (g 1) 8 2 W1 (HV.below D) l.s);have S:=hid (gE p d (g 1) 8 2);have U:=hid (fun h=>qB l.w (n:=d) (a:=g 1) (k:=8) (r:=2) oD h);generalize (kAt p d (g 1) 8 2).2=E at*;generalize (kAt p d (g 1) 8 2).1=K at*;have t1:=ai P (dk 8 g 1 oD);go_wp2_with fail
  refine J.mono ?_;rintro r w2 ⟨rfl,G⟩;have W:=zL G K;clear G J t1;go_upto_region 31 with ((with_reducible refine gst 32 ?_);refine gS rfl _ _ rfl w2.heap.size 0 rfl (cf 6 K) rfl (ay _ _) (bQ _ _) (aP _ _ _ _ _ oS oD) ?_)
  generalize N:World.setCells _ _ _ _=Q;obtain⟨BB,I⟩:=W.out _ _ _ N oS;clear N W;have F:=hid (btr D BB);have x1:=ai I (dk 6 K 1 oD);have x4:=ai I (dk 6 K 4 oD);have x5:=ai I (dk 6 K 5 oD);by_cases M:E=0
  case neg=>
   have ad:(E==0)=false:=by simp[M]
   go_wp2_with fail
   refine ar (v:=.int .i64 (E)) (by simp[results,Tryz.results182,go_sem]) rfl ⟨E,rfl,S.out,du l A F⟩
  case pos=>
   subst M;obtain⟨⟨f,Y,Z⟩,⟨r0,r1⟩,b0,b1⟩:=U.out rfl;rw[Y] at x1;have HF:=hid Z;generalize K 4=rr at*;generalize K 5=bb at*;clear U S Y Z I;by_cases aw:bb=0
   ·subst aw;go_wp2_with fail
    refine (mV l HF (g:=1) oD Q wb tag V (A.below F)).mono ?_;rintro r O ⟨rfl,i⟩;have y:=hid i;clear i;go_wp2_with fail
    refine ar (v:=.int .i64 (0)) (by simp[results,Tryz.results182,go_sem]) rfl ⟨0,rfl,oD,y.pre F⟩
   ·have aS:(bb==0)=false:=by simp[aw]
    go_wp2_with fail
    refine (mV l HF ⟨b0,b1⟩ Q wb tag V (A.below F)).mono ?_;rintro r O ⟨rfl,i⟩;have y:=hid i;clear i;go_wp2_with fail
    refine ar (v:=.int .i64 (0)) (by simp[results,Tryz.results182,go_sem]) rfl ⟨0,rfl,oD,y.pre F⟩
 have N5:(n==5)=false:=by simp[x]
 clear x;by_cases x:n=6
 ·subst x;have J:=hid (fE wb V p d (g 1) 8 1 W1 (HV.below D) l.s);have S:=hid (gE p d (g 1) 8 1);have U:=hid (fun h=>qB l.w (n:=d) (a:=g 1) (k:=8) (r:=1) oD h);generalize (kAt p d (g 1) 8 1).2=E at*;generalize (kAt p d (g 1) 8 1).1=K at*;have t1:=ai P (dk 8 g 1 oD);go_wp2_with fail
  refine J.mono ?_;rintro r w2 ⟨rfl,G⟩;have W:=zL G K;clear G J t1;go_upto_region 31 with ((with_reducible refine gst 32 ?_);refine gS rfl _ _ rfl w2.heap.size 0 rfl (cf 6 K) rfl (ay _ _) (bQ _ _) (aP _ _ _ _ _ oS oD) ?_)
  generalize N:World.setCells _ _ _ _=Q;obtain⟨BB,I⟩:=W.out _ _ _ N oS;clear N W;have F:=hid (btr D BB);have x1:=ai I (dk 6 K 1 oD);have x4:=ai I (dk 6 K 4 oD);have x5:=ai I (dk 6 K 5 oD);by_cases M:E=0
  case neg=>
   have ad:(E==0)=false:=by simp[M]
   go_wp2_with fail
   refine ar (v:=.int .i64 (E)) (by simp[results,Tryz.results182,go_sem]) rfl ⟨E,rfl,S.out,du l A F⟩
  case pos=>
   subst M;obtain⟨⟨f,Y,Z⟩,⟨r0,r1⟩,b0,b1⟩:=U.out rfl;rw[Y] at x1;have HF:=hid Z;generalize K 4=rr at*;generalize K 5=bb at*;clear U S Y Z I;go_wp2_with fail
   refine (sn l HC HF Q wb tag V (A.below F)).mono ?_;rintro r O ⟨rfl,i⟩;have y:=hid i;clear i;go_wp2_with fail
   refine ar (v:=.int .i64 (0)) (by simp[results,Tryz.results182,go_sem]) rfl ⟨0,rfl,oD,y.pre F⟩
 have N6:(n==6)=false:=by simp[x]
 clear x;by_cases x:n=7∨n=8∨n=9
 ·rcases x with rfl|rfl|rfl
  all_goals
   have J:=hid (jG wb V p d (g 1) W1 (HV.below D) l.s);have ae:=hid (pK p d (g 1));generalize (sAt p d (g 1)).2=E1 at*;generalize (sAt p d (g 1)).1=s1 at*;have t1:=ai P (dk 8 g 1 oD);go_wp2_with fail
   refine J.mono ?_;rintro r ag ⟨rfl,G⟩;have ab:=hid (btr D G);have t2:=cu G (ai P (dk 8 g 2 oD));have t3:=cu G (ai P (dk 8 g 3 oD));have t4:=cu G (ai P (dk 8 g 4 oD));clear t1;clear G J;by_cases M:E1=0
   rotate_left
   ·have ad:(E1==0)=false:=by simp[M]
    go_wp2_with fail
    refine ar (v:=.int .i64 (E1)) (by simp[results,Tryz.results182,go_sem]) rfl ⟨E1,rfl,by have:=ae.out;omega,du l A ab⟩
   subst M;clear ae;have J:=hid (jG wb V p d (g 2) ag (HV.below ab) l.s);have an:=hid (pK p d (g 2));generalize (sAt p d (g 2)).2=E2 at*;generalize (sAt p d (g 2)).1=s2 at*;go_wp2_with fail
   refine J.mono ?_;rintro r al ⟨rfl,G⟩;have ac:=hid (btr ab G);replace t3:=cu G t3;replace t4:=cu G t4;clear G J;by_cases M:E2=0
   rotate_left
   ·have ad:(E2==0)=false:=by simp[M]
    go_wp2_with fail
    refine ar (v:=.int .i64 (E2)) (by simp[results,Tryz.results182,go_sem]) rfl ⟨E2,rfl,by have:=an.out;omega,du l A ac⟩
   subst M;clear an
  ·go_wp2_with fail
   refine (kD s1 (g 3) (g 4) s2 l al wb tag V (A.below ac)).mono ?_;rintro r O ⟨e,rfl,H,i⟩;have y:=hid i;clear i;go_wp2_with fail
   refine ar (v:=.int .i64 (e)) (by simp[results,Tryz.results182,go_sem]) rfl ⟨e,rfl,H,y.pre ac⟩
  ·obtain⟨u3,h3⟩:∃u:Nat,g 3=u:=⟨(g 3).toNat,by have:=(HG.out 3 oD).1;omega⟩
   obtain⟨u4,h4⟩:∃u:Nat,g 4=u:=⟨(g 4).toNat,by have:=(HG.out 4 oD).1;omega⟩
   rw[h3] at t3;rw[h4] at t4;go_wp2_with fail
   refine (nL s1 s2 u3 u4 l al wb tag V (A.below ac)).mono ?_;rintro r O ⟨e,rfl,H,i⟩;have y:=hid i;clear i;go_wp2_with fail
   refine ar (v:=.int .i64 (e)) (by simp[results,Tryz.results182,go_sem]) rfl ⟨e,rfl,H,y.pre ac⟩
  ·go_wp2_with fail
   refine (ob s1 s2 l al wb tag V (A.below ac)).mono ?_;rintro r O ⟨e,rfl,H,i⟩;have y:=hid i;clear i;go_wp2_with fail
   refine ar (v:=.int .i64 (e)) (by simp[results,Tryz.results182,go_sem]) rfl ⟨e,rfl,H,y.pre ac⟩
 have N7:(n==7)=false:=beq_eq_false_iff_ne.2 oA;have N8:(n==8)=false:=beq_eq_false_iff_ne.2 oA;have N9:(n==9)=false:=beq_eq_false_iff_ne.2 oA;clear x;by_cases x:n=10∨n=11
 ·rcases x with rfl|rfl
  all_goals
   have J:=hid (jG wb V p d (g 1) W1 (HV.below D) l.s);have ae:=hid (pK p d (g 1));generalize (sAt p d (g 1)).2=E1 at*;generalize (sAt p d (g 1)).1=s1 at*;have t1:=ai P (dk 8 g 1 oD);go_wp2_with fail
   refine J.mono ?_;rintro r ag ⟨rfl,G⟩;have ab:=hid (btr D G);clear t1;clear G J;by_cases M:E1=0
   rotate_left
   ·have ad:(E1==0)=false:=by simp[M]
    go_wp2_with fail
    refine ar (v:=.int .i64 (E1)) (by simp[results,Tryz.results182,go_sem]) rfl ⟨E1,rfl,by have:=ae.out;omega,du l A ab⟩
   subst M;clear ae;go_wp2_with fail
  ·refine (nN s1 l ag wb tag V (A.below ab)).mono ?_;rintro r O ⟨e,rfl,H,i⟩;have y:=hid i;clear i;go_wp2_with fail
   refine ar (v:=.int .i64 (e)) (by simp[results,Tryz.results182,go_sem]) rfl ⟨e,rfl,H,y.pre ab⟩
  ·refine (lI s1 l ag wb tag V (A.below ab)).mono ?_;rintro r O ⟨e,rfl,H,i⟩;have y:=hid i;clear i;go_wp2_with fail
   refine ar (v:=.int .i64 (e)) (by simp[results,Tryz.results182,go_sem]) rfl ⟨e,rfl,H,y.pre ab⟩
 have aH:(n==10)=false:=beq_eq_false_iff_ne.2 oA;have aI:(n==11)=false:=beq_eq_false_iff_ne.2 oA;clear x;by_cases x:n=12
 ·subst x;go_wp2_with ((with_reducible refine gld 35 ?_);refine uL rfl _ rfl w.heap.size 0 rfl (cf 8 g) (ay _ _) P ?_)
  refine (uZ wb tag V p d g _ (A.below D) l HG).mono ?_;rintro r O ⟨e,rfl,H,i⟩;have y:=hid i;clear i;go_wp2_with fail
  refine ar (v:=.int .i64 (e)) (by simp[results,Tryz.results182,go_sem]) rfl ⟨e,rfl,H,y.pre D⟩
 have aJ:(n==12)=false:=by simp[x]
 clear x;by_cases x:n=13
 ·subst x;go_wp2_with ((with_reducible refine gld 35 ?_);refine uL rfl _ rfl w.heap.size 0 rfl (cf 8 g) (ay _ _) P ?_)
  refine (Cy wb tag V p d g _ (A.below D) l HG).mono ?_;rintro r O ⟨e,rfl,H,i⟩;have y:=hid i;clear i;go_wp2_with fail
  refine ar (v:=.int .i64 (e)) (by simp[results,Tryz.results182,go_sem]) rfl ⟨e,rfl,H,y.pre D⟩
 have aL:(n==13)=false:=by simp[x]
 clear x;by_cases x:n=14
 ·subst x;go_wp2_with ((with_reducible refine gld 35 ?_);refine uL rfl _ rfl w.heap.size 0 rfl (cf 8 g) (ay _ _) P ?_)
  refine (sf wb tag V p t g _ (A.below D) l H6 HG).mono ?_;rintro r O ⟨e,rfl,H,i⟩;have y:=hid i;clear i;go_wp2_with fail
  refine ar (v:=.int .i64 (e)) (by simp[results,Tryz.results182,go_sem]) rfl ⟨e,rfl,H,y.pre D⟩
 have aM:(n==14)=false:=by simp[x]
 clear x;by_cases x:n=15∨n=16∨n=17
 ·rcases x with rfl|rfl|rfl
  all_goals
   have J:=hid (fE wb V p d (g 1) 6 2 W1 (HV.below D) l.s);have S:=hid (gE p d (g 1) 6 2);have U:=hid (fun h=>qB l.w (n:=d) (a:=g 1) (k:=6) (r:=2) oD h);generalize (kAt p d (g 1) 6 2).2=E at*;generalize (kAt p d (g 1) 6 2).1=K at*;have t1:=ai P (dk 8 g 1 oD);go_wp2_with fail
   refine J.mono ?_;rintro r w2 ⟨rfl,G⟩;have W:=zL G K;clear G J t1;go_upto_region 73 with ((with_reducible refine gst 32 ?_);refine gS rfl _ _ rfl w2.heap.size 0 rfl (cf 6 K) rfl (ay _ _) (bQ _ _) (aP _ _ _ _ _ oS oD) ?_)
   generalize N:World.setCells _ _ _ _=Q;obtain⟨BB,I⟩:=W.out _ _ _ N oS;clear N W;have F:=hid (btr D BB);have t2:=cu BB (ai P (dk 8 g 2 oD));have x1:=ai I (dk 6 K 1 oD);have x4:=ai I (dk 6 K 4 oD);have x5:=ai I (dk 6 K 5 oD);by_cases M:E=0
   rotate_left
   ·have ad:(E==0)=false:=by simp[M]
    go_wp2_with fail
    refine ar (v:=.int .i64 (E)) (by simp[results,Tryz.results182,go_sem]) rfl ⟨E,rfl,S.out,du l A F⟩
   subst M;obtain⟨⟨f,Y,Z⟩,⟨r0,r1⟩,b0,b1⟩:=U.out rfl;rw[Y] at x1;have HF:=hid Z;generalize K 4=rr at*;generalize K 5=bb at*;clear U S Y Z I
  ·go_wp2_with fail
   refine (gG (f:Int) l Q wb tag V (A.below F)).mono ?_;rintro r O ⟨e,rfl,H,i⟩;have y:=hid i;clear i;go_wp2_with fail
   refine ar (v:=.int .i64 (e)) (by simp[results,Tryz.results182,go_sem]) rfl ⟨e,rfl,H,y.pre F⟩
  ·go_wp2_with fail
   refine (Dm (f:Int) l Q wb tag V (A.below F)).mono ?_;rintro r O ⟨e,rfl,H,i⟩;have y:=hid i;clear i;go_wp2_with fail
   refine ar (v:=.int .i64 (e)) (by simp[results,Tryz.results182,go_sem]) rfl ⟨e,rfl,H,y.pre F⟩
  ·have aA:=cu BB c3;have tp:=(A.below F).IH E3 ap (show 10<20 by omega);generalize p.IB.getD t bl 10=pr at tp;go_upto_region 79 with fail
   refine bp oK oK ?_
   repeat (first|go_big_quiet_skip|(go_big_quiet_want;go_big_quiet_op;first|go_big_quiet_on|go_big_quiet_call (fail)))
   refine cU ?_;intro _ aC;obtain⟨nq,aD⟩:=aC;subst aD;have BQ:=hid (aG (af Q.heap.size Q) nq);have B4:=hid (btr F BQ);replace t2:=cu BQ t2;replace x1:=cu BQ x1;clear aA tp;generalize Q.drewN nq=W4 at*;by_cases hw:pr<g 2
   ·go_wp2_with fail
    refine ar (v:=.int .i64 (4)) (by simp[results,Tryz.results182,go_sem]) rfl ⟨4,rfl,oD,du l A B4⟩
   ·go_wp2_with fail
    refine (qR (f:Int) (g 2) l W4 wb tag V (A.below B4)).mono ?_;rintro r O ⟨e,rfl,H,i⟩;have y:=hid i;clear i;go_wp2_with fail
    refine ar (v:=.int .i64 (e)) (by simp[results,Tryz.results182,go_sem]) rfl ⟨e,rfl,H,y.pre B4⟩
 have aO:(n==15)=false:=beq_eq_false_iff_ne.2 oA;have aQ:(n==16)=false:=beq_eq_false_iff_ne.2 oA;have aR:(n==17)=false:=beq_eq_false_iff_ne.2 oA;clear x;go_wp2_with fail
 refine ar (v:=.int .i64 (13)) (by simp[results,Tryz.results182,go_sem]) rfl ⟨13,rfl,oD,du l A D⟩
theorem Bx.trans {p p1:PW} {wb:Nat} {tag f:Nat->Nat} {W e W2:World} (k:Kt tag f W e) (s:Sm p p1) (h:Bx p1 wb f e W2):Bx p wb tag W W2:=by
 obtain⟨a,b,c,k2,d,g⟩:=h;exact⟨a,b,c,k.trans k2,d,s.trans g⟩
theorem vQ (wb:Nat) (tag:Nat->Nat) (V:Nat->Value) (p:PW) (c t:Nat) (n:Int) (w:World) (bt:cb w wb tag V p) (A:Lv p) (G:p.co c=t):
  Calls Tryz.prog 131 #[.pointer (some ⟨wb,0,none⟩),.int .i64 (c:Int),.int .i64 n] w fun r w'=>r=.returned (.tuple #[])∧Bx p wb tag w w':=by
 have lf:=A.w.m.tk.lf;have HV:=hid (bt.view A.w.fits A.w.I0);have BT:=hid bt;have E:=hid A;have HC:=hid G;obtain⟨_,d,_⟩:=A.w.m.tk.q.inc G;have ab:=hid (iM (p:=p) (f:=t) (by rw[d];decide));have aw:=Nat.lt_of_not_le fun hh=>by
  have e:p.co c= -1:=by show p.IC.getD c (-1)= -1;rw[aa,aK hh];rfl
  rw[G] at e;omega
 have aJ:(c:Int)<(p.IC.length:Int):=oA;have aL:(p.IC.length:Int)<=1000:=by have:=A.w.fits.IC;omega
 obtain⟨g6,k6,e6⟩:=bt.o.IC.form oA;have x6:w.cell? ⟨g6,c,none⟩=some (.int .i64 t):=by rw[(bt.IL e6 aw).1];exact dG (fun z=>some (Value.int .i64 z)) G
 have c6:=bk bt e6;have ao:=hid (aj w ⟨wb,6,none⟩ c6);obtain⟨ap,aG⟩:=iJ bt;have S:=hid ap;have ag:=hid aG;have RV:=hid bt.r;have ad:=hid (show tag wb≠0 by rw[bt.g];decide);go_enter Tryz.func131,Tryz.ntmps131
 go_wp2_with ((with_reducible refine gld 28 ?_);refine jt rfl _ rfl wb rfl V RV ?_)
 refine (zf V p w HV.v E.w.fits).mono ?_;rintro r w1 ⟨U,L,rfl,hO,av,ah,hb⟩;have one:=hid (gQ (hO.v E.w.I0));have BS:=hid (fun z u (hz:11<=z.size)=>show DI ((w1.alloc (.cells z u)).setCells w1.heap.size 0 (de U).toList) w1.heap.size L U p from
  ⟨World.rangeAt_setCells_same _ w1.heap.size 0 (de U).toList (aP w1 z u _ 11 rfl hz),gH _ 0 _ (aP w1 z u _ 11 rfl hz),ng (hO.below (bal (af _ w1) (.cells z u))) ah _ 0,ah,by rw[fy];simp⟩)
 have KS:=hid (fun (o:Obj)=>(bR (bal hb o) hb.size (de U).toList 0:Below w.heap.size w ((w1.alloc o).setCells w1.heap.size 0 (de U).toList)));have D:=hid av;have TN:=hid (aP w1 zW 28 w1.heap.size 11 rfl oD);go_upto_region 2 with ((with_reducible refine gst 28 ?_);refine wpList_store_mid rfl 28 _ _ rfl w1.heap.size 0 (de U) rfl rfl TN fD one ?_)
 generalize hW:World.setCells _ _ _ _=K;have R:=hid (show Below w.heap.size w K by rw[<-hW];exact KS _);have I:=hid (show DI K w1.heap.size L U p by rw[<-hW];exact BS _ _ oD);generalize w1.heap.size=b7 at*;obtain⟨an,aq,aC⟩:=I.tagged;have M:=hid aC;have W:=hid aq;have B7:=hid (aD D (aD (I.o.J3 10 0 oA) I.lo));go_wp2_with fail
 refine (yW wb (jb tag w.heap.size) V p c t n K (S.below R) E HC).mono ?_;rintro r l ⟨e,rfl,he,aH,V3,p3,H,N,am⟩;have HE:=hid he;have K3:=hid (H);have KW:=hid ((ag.trans (bj R)).trans H);have Z:=hid (show Bx p wb tag w l from⟨aH,V3,p3,KW.out,N,am⟩);have Y:=hid (show cb l b7 an U p from W.kp (T:=fun k=>jb tag w.heap.size k≠0) H.k (fun k _ h=>M.out k (aE (Nat.lt_of_not_le fun hh=>h (fH hh)) D)) (fun _ _=>rfl));have T3:=hid N.t;clear he H N am W S ag K3;by_cases h0:e=0
 ·have au:(e==0)=true:=by simp[h0]
  clear h0;have s:=Z;clear Z;go_upto_region 5 with fail
  obtain⟨tg,X,q,B,a,b⟩:=s.out;have P:t<q.kinds.length:=by have:=b.k;have:=ab.out;omega
  have x:t<q.IB.length:=by have:=b.w.w.m.tk.lf.IB;omega
  have ay:(t:Int)<(q.kinds.length:Int):=oA;have aB:(t:Int)<(q.IB.length:Int):=oA;have az:(q.kinds.length:Int)<=1000:=by have:=b.w.w.fits.kinds;omega
  have aA:(q.IB.length:Int)<=1000:=by have:=b.w.w.fits.IB;omega
  obtain⟨g1,k1,e1⟩:=a.o.kinds.form oA;obtain⟨F,al,i⟩:=a.o.IB.form oA;have c1:l.cell? ⟨wb,1,none⟩=some (.slice (some ⟨g1,0,none⟩) q.kinds.length k1):=by rw[ai a.r (k:=1) rfl,e1]
  have c3:l.cell? ⟨wb,3,none⟩=some (.slice (some ⟨F,0,none⟩) q.IB.length al):=by rw[ai a.r (k:=3) rfl,i]
  have x1:=a.IT e1 P;rw[xl] at x1;obtain⟨C,y⟩:∃z,q.k t=z:=⟨_,rfl⟩
  rw[y] at x1;by_cases d:C=6
  case neg=>
   have O:(C==6)=false:=beq_eq_false_iff_ne.2 d;clear a B b d y;go_wp2_with fail
   exact aI (aF rfl _ _ _) rfl ⟨rfl,s.out⟩
  case pos=>
   have O:(C==6)=true:=bu.2 d;have Q:=a.IH i x (show 0<20 by omega);rw[bz] at Q;have ar:=a.II i (t*20);have j:=hid (a.IK i x (show 0<20 by omega) e);rw[bz] at j;have J:=hid (show Bx p wb tag w (l.setCell ⟨F,t*20,none⟩ (.int .i64 e)) from⟨tg,X,_,B.trans j.2,j.1,b.trans (by
    have h:=b.w.rs (b.w.w.Jq (t:=t) (y.trans d) (k:=0) (v:=e) oA (by have:=HE.out;omega)) ((dO q).task t 0 e);unfold PW.task at h;rw[aa,ac x,aR] at h;exact h)⟩)
   clear a B b j d y;go_wp2_with fail
   exact aI (aF rfl _ _ _) rfl ⟨rfl,J.out⟩
 ·have au:(e==0)=false:=by simp[h0]
  have h2:=hid (M.out wb (aE ao D));have s:=hid (show Bx p wb tag w (l.setCells wb 0 (de U).toList) from⟨_,U,p,⟨aN (T:=fun k=>tag k≠0) (.inl ad) _ 0 _ KW.k,fun k hk ax=>by
   show (if k=wb then 1 else an k)=0
   rw[ae (fun e=>ad.out (by rw[<-e];exact ax))];exact M k (aE hk D)⟩,Y.o.box h2 T3,Sm.refl E⟩)
  go_upto_region 5 with (first
   |((with_reducible refine gld 28 ?_);refine jt rfl _ rfl b7 rfl U Y.r ?_)
   |((with_reducible refine gst 28 ?_);refine wpList_store_mid rfl 28 _ _ rfl wb 0 (de U) rfl rfl T3 fD one ?_))
  change Hid (Bx p wb tag w (l.setCells wb 0 [U 0,U 1,U 2,U 3,U 4,U 5,U 6,U 7,U 8,U 9,U 10])) at s;generalize World.setCells l _ _ _=w4 at s ⊢;obtain⟨tg,X,q,B,a,b⟩:=s.out;have P:t<q.kinds.length:=by have:=b.k;have:=ab.out;omega
  have x:t<q.IB.length:=by have:=b.w.w.m.tk.lf.IB;omega
  have ay:(t:Int)<(q.kinds.length:Int):=oA;have aB:(t:Int)<(q.IB.length:Int):=oA;have az:(q.kinds.length:Int)<=1000:=by have:=b.w.w.fits.kinds;omega
  have aA:(q.IB.length:Int)<=1000:=by have:=b.w.w.fits.IB;omega
  obtain⟨g1,k1,e1⟩:=a.o.kinds.form oA;obtain⟨F,al,i⟩:=a.o.IB.form oA;have c1:=bk a e1;have c3:=bk a i;have x1:=a.IT e1 P;rw[xl] at x1;obtain⟨C,y⟩:∃z,q.k t=z:=⟨_,rfl⟩
  rw[y] at x1;by_cases d:C=6
  case neg=>
   have O:=beq_eq_false_iff_ne.2 d;go_wp2_with fail
   exact aI (aF rfl _ _ _) rfl ⟨rfl,s.out⟩
  case pos=>
   have O:=bu.2 d;have Q:=a.IH i x (show 0<20 by omega);rw[bz] at Q;have ar:=a.II i (t*20);have j:=hid (a.IK i x (show 0<20 by omega) e);rw[bz] at j;have J:=hid (show Bx p wb tag w (w4.setCell ⟨F,t*20,none⟩ (.int .i64 e)) from⟨tg,X,_,B.trans j.2,j.1,b.trans (by
    have h:=b.w.rs (b.w.w.Jq (t:=t) (y.trans d) (k:=0) (v:=e) oA (by have:=HE.out;omega)) ((dO q).task t 0 e);unfold PW.task at h;rw[aa,ac x,aR] at h;exact h)⟩)
   go_wp2_with fail
   exact aI (aF rfl _ _ _) rfl ⟨rfl,J.out⟩
