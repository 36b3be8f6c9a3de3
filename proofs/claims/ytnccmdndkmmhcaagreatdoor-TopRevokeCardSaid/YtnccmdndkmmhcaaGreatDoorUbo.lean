/- Ubo -/
import Derived.Test.YtnccmdndkmmhcaaGreatDoorUbn
import Derived.Test.YtnccmdndkmmhcaaGreatDoorUbm
set_option maxRecDepth 100000
set_option maxHeartbeats 16000000
namespace Go.Proofs.YtnccmdndkmmhcaaGreatDoor
namespace Wd
open Go.RowKit Mem Bw Nums Mmu
theorem Lv.row {p:PW} (h:Lv p) {t:Nat} (b:p.k t=6) {g:Nat->Int} (d:Gq (p.t t) g):Sm p {p with II:=p.II.set t g}:=by
 have lf:=h.w.m.tk.lf;have a:t<p.II.length:=by have:=lf.II;have:=iN (p:=p) (f:=t) (by rw[b];decide);omega
 have key:∀n,n<=9->Sm p {p with II:=p.II.set t (fun k=>if k<n then g k else p.t t k)}:=by
  intro n
  induction n with
  |zero=>
   intro _;have e:p.II.set t (fun k=>if k<0 then g k else p.t t k)=p.II:=by
    apply List.ext_getElem?;intro j;rw[List.getElem?_set];split
    ·rename_i e;subst e;rw[ac a]
     congr 1
     funext k
     rw[ae (dG k)];show p.II.getD t bl k=_
     rw[aa,ac a];rfl
    ·rfl
   rw[e];exact Sm.refl h
  |succ n ih=>
   intro l;have s:=ih oA;have i:=s.w.Jx (t:=t) b (k:=n) (v:=g n) oA (d.w n oA);refine s.trans ?_;have e:(({p with II:=p.II.set t (fun k=>if k<n then g k else p.t t k)}:PW).task t n (g n))={p with II:=p.II.set t (fun k=>if k<n+1 then g k else p.t t k)}:=by
    unfold PW.task;simp only[ep]
    congr 2
    funext k
    have e2:(p.II.set t (fun k=>if k<n then g k else p.t t k)).getD t bl=fun k=>if k<n then g k else p.t t k:=by
     rw[aa,cQ a];rfl
    rw[e2];unfold Wd.upd;by_cases c:k=n
    ·rw[ag c,ag oA,c]
    ·rw[ae c];show (if k<n then g k else p.t t k)=_
     by_cases c2:k<n
     ·rw[ag c2,ag oA]
     ·rw[ae c2,ae oA]
   rw[e] at i;exact i
 have s:=key 9 (aq _);have e:(fun k=>if k<9 then g k else p.t t k)=g:=by
  funext k
  split
  ·rfl
  ·exact (d.s k oA).symm
 rw[e] at s;exact s
theorem np (wb:Nat) (tag:Nat->Nat) (V:Nat->Value) (p:PW) (t:Nat) (W:World) (bt:cb W wb tag V p) (h:Lv p) (a:p.k t=6):
  Calls Tryz.prog 132 #[.pointer (some ⟨wb,0,none⟩),.int .i64 t] W fun r W'=>r=.returned (.tuple #[])∧Bx p wb tag W W':=by
 refine (j9 wb tag V p t W bt h.w.fits (by have:=h.w.m.tk.lf.II;have:=iN (p:=p) (f:=t) (by rw[a];decide);omega)).mono ?_;rintro r W' ⟨c,tag',b,kt⟩;exact⟨c,tag',V,_,kt,b,h.rs (h.w.stop a) ⟨rfl,rfl,rfl,rfl,rfl,rfl⟩⟩
theorem Hp (p:PW) (c:Nat):Rs p (rlP p c):=by
 unfold rlP;split
 ·exact kK 4
 split
 ·exact dR p
 ·exact Rs.trans (Rs.wn (p:=p) (q:={p with IJ:=p.IJ.set c (-1)}) ⟨rfl,rfl,rfl,rfl,rfl,rfl⟩ _ _) (kK 4)
theorem yq (wb:Nat) (tag:Nat->Nat) (V:Nat->Value) (p:PW) (c:Nat) (W:World) (bt:cb W wb tag V p) (h:Lv p) (a:c<p.IJ.length):
  Calls Tryz.prog 126 #[.pointer (some ⟨wb,0,none⟩),.int .i64 c] W fun r W'=>r=.returned (.tuple #[])∧Bx p wb tag W W':=by
 have b:∀{r:Ending} {W':World},(r=.returned (.tuple #[])∧∃tag',cb W' wb tag' V (rlP p c)∧Kt tag tag' W W')->r=.returned (.tuple #[])∧Bx p wb tag W W':=by
  rintro r W' ⟨j,tag',i,kt⟩;exact⟨j,tag',V,_,kt,i,h.rs (h.w.settle a) (Hp p c)⟩
 rcases h.w.m.tk.q.cr c with e|⟨t,e,_,g,_⟩
 ·exact (rJ wb tag V p c W bt h.w.fits h.s a e).mono fun _ _=>b
 ·have d:=iN (p:=p) (f:=t) (by rw[g];decide)
  cases hd:dmB p (tnV p) t with
  |true=>exact (rK wb tag V p c t W bt h.w.fits h.s a d e hd).mono fun _ _=>b
  |false=>exact (tf wb tag V p c t W bt h.w.fits (fun l hl=>by have:=h.w.JC.2 l hl;omega) h.s a d ((vK d).trans g) e hd).mono fun _ _=>b
theorem Bx.pre {p:PW} {wb:Nat} {tag:Nat->Nat} {W e W2:World} (f:Below W.heap.size W e) (h:Bx p wb tag e W2):Bx p wb tag W W2:=by
 obtain⟨a,b,c,k,d⟩:=h;exact⟨a,b,c,(bp f).trans k,d⟩
theorem AX:(Tryz.prog.info? 35).map (·.size)=some 8:=oK
theorem uN {ops:Array Oper} {rest:List Oper} {op:Oper} {a:Act} {w:World} {Q:Exit->Act->World->Prop} (d:op.guard=none) (x:Operand) (e:op.op=.load 35 x)
  (b o:Nat) (f:a.eval x=.pointer (some ⟨b,o,none⟩)) (cs:List Value) (hl:cs.length=8) (c:w.rangeAt b o cs)
  (h:wpList Tryz.prog ops Q rest (a.put op.dst (.agg cs.toArray)) w):wpList Tryz.prog ops Q (op::rest) a w:=
 wpList_load_mid d 35 x e b o f cs _ c Tryz.underlying35 rfl (by rw[AX,hl]) h
theorem Ga {ops:Array Oper} {rest:List Oper} {op:Oper} {a:Act} {w:World} {Q:Exit->Act->World->Prop} (d:op.guard=none) (x y:Operand) (e:op.op=.store 35 x y)
  (b o:Nat) (g:a.eval x=.pointer (some ⟨b,o,none⟩)) (cs:List Value) (i:a.eval y=.agg cs.toArray) (hl:cs.length=8) (c:∀v∈cs,v.oneCell'=true) (f:w.there b o 8)
  (h:wpList Tryz.prog ops Q rest (a.put op.dst undef) (w.setCells b o cs)):wpList Tryz.prog ops Q (op::rest) a w:=
 wpList_store_mid d 35 x y e b o cs.toArray g i (by simpa [hl] using f) (by rw[AX];simp[hl]) (all_oneCell_toArray c) (by simpa using h)
theorem qR {p:PW} (h:Lw p) {n a k r:Int} (hk:2<=k) (e:(kAt p n a k r).2=0):(∃f:Nat,(kAt p n a k r).1 1=f∧p.k f=k)∧(0<=(kAt p n a k r).1 4∧(kAt p n a k r).1 4<=7)∧0<=(kAt p n a k r).1 5∧(kAt p n a k r).1 5<=65535:=by
 refine⟨kE h hk e,(xo h hk e).2,?_⟩;obtain⟨u,o⟩:=h.m.keys;unfold kAt at e ⊢;by_cases b:(sAt p n a).2=0
 ·rw[ag b] at e ⊢;generalize (sAt p n a).1.toNat=i at e ⊢;have d:∀j,j<6->p.IH.getD i ft j=p.s i j:=fun j t=>by
   show p.IH.getD i ft j=p.IH.getD i eS j
   rw[aa,aa]
   cases p.IH[i]? with
   |some x=>rfl
   |none=>show ft j=eS j;unfold ft eS;rw[ae oA]
  unfold kOf at e ⊢;have s0:=d 0 oD;have q:=d 5 oD;by_cases c0:p.IH.getD i ft 0=0
  ·rw[ag c0] at e;cases e
  rw[ae c0] at e ⊢;by_cases c1:p.IH.getD i ft 0=k
  ·rw[ag c1] at e ⊢;split at e
   ·rename_i c2;rw[ag c2];obtain⟨_,_,_,_,_,_,_,_,_,_,g,l⟩:=KP.ky (show KP.chk (p.s i 0) (p.s i 1) (p.s i 2) (p.s i 3) (p.s i 4) (p.s i 5)=0 from (o.key i (by rw[<-s0];exact c0)).c);show 0<=p.IH.getD i ft 5∧p.IH.getD i ft 5<=65535
    rw[q];exact⟨g,l⟩
   ·cases e
  ·rw[ae c1] at e;cases e
 ·rw[ae b] at e;exact absurd e b
theorem Lw.yield {p:PW} (h:Lw p) {c t:Nat} (a:p.co c=t) (hl:c<p.IJ.length):Lw (wnP {p with IJ:=p.IJ.set c (-1)} t (rdN p t)):=by
 have x:=h.m.tk;obtain⟨_,b,d,_⟩:=x.q.inc a;have y:Tk (Hnd t) {p with IJ:=p.IJ.set c (-1)}:=x.JG (L:=p.lines) (B:=p.bits) (R:=p.ready) (x.q.JT a hl);exact h.tk (y.Jd (show p.t t 9≠5 by omega)) (((dR p).ls (L:=p.lines) (R:=p.ready) (B:=p.bits) (C:=p.IJ.set c (-1))).wn t (rdN p t))
theorem yY (wb:Nat) (tag:Nat->Nat) (V:Nat->Value) (p:PW) (c t:Nat) (n:Int) (w:World) (bt:cb w wb tag V p) (hp:Lv p) (hc:p.co c=t):
  Calls Tryz.prog 182 #[.pointer (some ⟨wb,0,none⟩),.int .i64 (c:Int),.int .i64 n] w fun r w'=>Okd p wb tag w r w':=by
 have lf:=hp.w.m.tk.lf;have HV:=hid (bt.view hp.w.fits hp.w.I8);have A:=hid bt;have l:=hid hp;have HC:=hid hc;obtain⟨_,h6,_⟩:=hp.w.m.tk.q.inc hc;have H6:=hid h6;have aB:=iN (p:=p) (f:=t) (by rw[h6];decide);have HG:=hid (fun k (hk:k<8)=>hp.w.m.tk.word h6 (k:=k) (.inl oA));have ah:t<p.II.length:=by have:=lf.II;omega
 have am:c<p.IJ.length:=Nat.lt_of_not_le fun hh=>by
  have e:p.co c= -1:=by show p.IJ.getD c (-1)= -1;rw[aa,aI hh];rfl
  rw[hc] at e;omega
 have aT:(c:Int)<(p.IJ.length:Int):=oA;have aU:(p.IJ.length:Int)<=1000:=by have:=hp.w.fits.IJ;omega
 have aW:(t:Int)<(p.II.length:Int):=oA;have aX:(p.II.length:Int)<=1000:=by have:=hp.w.fits.II;omega
 obtain⟨g6,k6,e6⟩:=bt.o.IJ.form oA;obtain⟨gt,kt,e3⟩:=bt.o.II.form oA;have E6:=hid e6;have E3:=hid e3;have ao:=hid am;have ap:=hid ah;have x6:w.cell? ⟨g6,c,none⟩=some (.int .i64 t):=by rw[(bt.IY e6 am).1];exact dF (fun z=>some (Value.int .i64 z)) hc
 have c6:w.cell? ⟨wb,6,none⟩=some (.slice (some ⟨g6,0,none⟩) p.IJ.length k6):=by rw[ai bt.r (k:=6) rfl,e6]
 have c3:w.cell? ⟨wb,3,none⟩=some (.slice (some ⟨gt,0,none⟩) p.II.length kt):=by rw[ai bt.r (k:=3) rfl,e3]
 have td:=bt.IS e3 ah (show 11<20 by omega);have RT:=hid (show w.rangeAt gt (t*20) (cf 8 (p.t t)) from fun j v hv=>by
  have hj:j<8:=by have:=(List.getElem?_eq_some_iff.1 hv).1;simpa [cf] using this
  rw[dk 8 _ j hj] at hv
  cases hv
  exact bt.IS e3 ah (show j<20 by omega))
 obtain⟨d,hd⟩:∃d,p.II.getD t bl 11=d:=⟨_,rfl⟩
 rw[hd] at td;obtain⟨g,hg⟩:∃g,p.t t=g:=⟨_,rfl⟩
 rw[hg] at RT HG;have HD:=hid hd;have aF:=hid hg;clear bt hp hc hd hg e6 e3 lf aB h6 am ah;have KS:=hid (fun o=>aM (T:=fun _=>False) (w:=w) (b:=w.heap.size) (.inr (aq _)) (cf 8 g) 0 _ ((aV _ w).alloc o));have XS:=hid (fun z u (hz:8<=z.size)=>World.rangeAt_setCells_same (w.alloc (.cells z u)) w.heap.size 0 (cf 8 g) (by rw[ay];exact aP w z u _ 8 rfl hz));go_enter Tryz.func182,Tryz.ntmps182
 go_upto_region 3 with (first
  |((with_reducible refine gld 35 ?_);refine uN rfl _ rfl gt (t*20) rfl (cf 8 g) (ay _ _) RT ?_)
  |((with_reducible refine gst 35 ?_);refine Ga rfl _ _ rfl w.heap.size 0 rfl (cf 8 g) rfl (ay _ _) (bQ _ _) (aP _ _ _ _ _ oS oD) ?_))
 generalize N:World.setCells _ _ _ _=W1;have D:=hid (show Below w.heap.size w W1 by rw[<-N];exact (KS.out _).all);have P:=hid (show W1.rangeAt w.heap.size 0 (cf 8 g) by rw[<-N];exact XS _ _ oS);clear N KS XS RT x6;replace c6:=cu D c6;replace c3:=cu D c3;replace td:=cu D td;by_cases x:n=0
 ·subst x;obtain⟨r1,r2,r3,r4⟩:=m9 l.s (iN (p:=p) (f:=t) (by rw[H6.out];decide)) ((vK (iN (p:=p) (f:=t) (by rw[H6.out];decide))).trans H6);have ax:({p with IJ:=p.IJ.set c (-1)}:PW).Fits:=by
   have h:=l.w.fits;exact⟨h.IL,h.kinds,h.IH,h.II,h.lines,h.line,h.bits,by show (p.IJ.set c (-1)).length<=1000;rw[au];exact h.IJ,h.ready,h.next,h.IK,h.IQ⟩
  have av:=hid (fun X (h:cb X wb tag V {p with IJ:=p.IJ.set c (-1)})=>gN wb tag V {p with IJ:=p.IJ.set c (-1)} t (rdN p t) X h ax ap r1 r3 r4 r2);have aj:=hid (A.below D);obtain⟨x6,f6⟩:=aj.IY E6 ao;obtain⟨b2,k2⟩:=aj.I4 E6 c (-1);have B5:=hid b2;have K5:=hid ((bp (tag:=tag) D).trans k2);clear b2 k2 r1 r2 r3 r4 ax;go_upto_region 7 with fail
  generalize World.setCell _ _ _=w2 at*;clear c6 x6 f6 aj;go_wp2_with fail
  refine (av.out _ B5).mono ?_;rintro r w3 ⟨rfl,tg,h1,h2⟩;have az:=hid (show Bx p wb tag w w3 from⟨tg,V,_,K5.trans h2,h1,l.rs (l.w.yield HC ao) (((dR p).ls (L:=p.lines) (R:=p.ready) (B:=p.bits) (C:=p.IJ.set c (-1))).wn t (rdN p t))⟩);clear h1 h2 av B5 K5;go_wp2_with fail
  refine ar (v:=.int .i64 (0)) (by simp[results,Tryz.results182,go_sem]) rfl ⟨0,rfl,oD,az.out⟩
 have N0:(n==0)=false:=by simp[x]
 clear x;by_cases x:n=1∨n=2
 ·rcases x with rfl|rfl
  all_goals
   have J:=hid (fC wb V p d (g 1) 7 2 W1 (HV.below D) l.s);have S:=hid (gD p d (g 1) 7 2);have U:=hid (fun h=>qR l.w (n:=d) (a:=g 1) (k:=7) (r:=2) oD h);generalize (kAt p d (g 1) 7 2).2=E at*;generalize (kAt p d (g 1) 7 2).1=K at*;have t1:=ai P (dk 8 g 1 oD);go_wp2_with fail
   refine J.mono ?_;rintro r w2 ⟨rfl,G⟩;have W:=zJ G K;clear G J t1;go_upto_region 12 with ((with_reducible refine gst 32 ?_);refine gQ rfl _ _ rfl w2.heap.size 0 rfl (cf 6 K) rfl (ay _ _) (bQ _ _) (aP _ _ _ _ _ oS oD) ?_)
   generalize N:World.setCells _ _ _ _=Q;obtain⟨BB,I⟩:=W.out _ _ _ N oS;clear N W;have F:=hid (btr D BB);have t2:=cu BB (ai P (dk 8 g 2 oD));have x1:=ai I (dk 6 K 1 oD);have x4:=ai I (dk 6 K 4 oD);have x5:=ai I (dk 6 K 5 oD);by_cases M:E=0
   rotate_left
   ·have ad:(E==0)=false:=by simp[M]
    go_wp2_with fail
    refine ar (v:=.int .i64 (E)) (by simp[results,Tryz.results182,go_sem]) rfl ⟨E,rfl,S.out,dt l A F⟩
   subst M;obtain⟨⟨f,Y,Z⟩,⟨r0,r1⟩,b0,b1⟩:=U.out rfl;rw[Y] at x1;have HF:=hid Z;generalize K 4=rr at*;generalize K 5=bb at*;clear U S Y Z I
  ·go_wp2_with fail
   refine (iX l HC HF ⟨b0,b1⟩ (HG.out 2 oD) Q wb tag V (A.below F)).mono ?_;rintro r O ⟨rfl,i⟩;have y:=hid i;clear i;go_wp2_with fail
   refine ar (v:=.int .i64 (0)) (by simp[results,Tryz.results182,go_sem]) rfl ⟨0,rfl,oD,y.pre F⟩
  ·by_cases hw:rr/4%2=0
   ·have aE:(rr/4%2==0)=true:=by simp[hw]
    clear hw;go_wp2_with fail
    refine ar (v:=.int .i64 (4)) (by simp[results,Tryz.results182,go_sem]) rfl ⟨4,rfl,oD,dt l A F⟩
   ·have aE:(rr/4%2==0)=false:=by simp[hw]
    clear hw;go_wp2_with fail
    refine (iX l HC HF ⟨b0,b1⟩ (HG.out 2 oD) Q wb tag V (A.below F)).mono ?_;rintro r O ⟨rfl,i⟩;have y:=hid i;clear i;go_wp2_with fail
    refine ar (v:=.int .i64 (0)) (by simp[results,Tryz.results182,go_sem]) rfl ⟨0,rfl,oD,y.pre F⟩
 have N1:(n==1)=false:=beq_eq_false_iff_ne.2 oA;have N2:(n==2)=false:=beq_eq_false_iff_ne.2 oA;clear x;by_cases x:n=3
 ·subst x;have J:=hid (fC wb V p d (g 1) 7 1 W1 (HV.below D) l.s);have S:=hid (gD p d (g 1) 7 1);have U:=hid (fun h=>qR l.w (n:=d) (a:=g 1) (k:=7) (r:=1) oD h);generalize (kAt p d (g 1) 7 1).2=E at*;generalize (kAt p d (g 1) 7 1).1=K at*;have t1:=ai P (dk 8 g 1 oD);go_wp2_with fail
  refine J.mono ?_;rintro r w2 ⟨rfl,G⟩;have W:=zJ G K;clear G J t1;go_upto_region 20 with ((with_reducible refine gst 32 ?_);refine gQ rfl _ _ rfl w2.heap.size 0 rfl (cf 6 K) rfl (ay _ _) (bQ _ _) (aP _ _ _ _ _ oS oD) ?_)
  generalize N:World.setCells _ _ _ _=Q;obtain⟨BB,I⟩:=W.out _ _ _ N oS;clear N W;have F:=hid (btr D BB);have x1:=ai I (dk 6 K 1 oD);have x4:=ai I (dk 6 K 4 oD);have x5:=ai I (dk 6 K 5 oD);by_cases M:E=0
  case neg=>
   have ad:(E==0)=false:=by simp[M]
   go_wp2_with fail
   refine ar (v:=.int .i64 (E)) (by simp[results,Tryz.results182,go_sem]) rfl ⟨E,rfl,S.out,dt l A F⟩
  case pos=>
   subst M;obtain⟨⟨f,Y,Z⟩,⟨r0,r1⟩,b0,b1⟩:=U.out rfl;rw[Y] at x1;have HF:=hid Z;generalize K 4=rr at*;generalize K 5=bb at*;clear U S Y Z I;go_wp2_with fail
   refine (tj l HC HF Q wb tag V (A.below F)).mono ?_;rintro r O ⟨e,rfl,H,i⟩;have y:=hid i;clear i;go_wp2_with fail
   refine ar (v:=.int .i64 (e)) (by simp[results,Tryz.results182,go_sem]) rfl ⟨e,rfl,H,y.pre F⟩
 have N3:(n==3)=false:=by simp[x]
 clear x;by_cases x:n=4
 ·subst x;have t2:=ai P (dk 8 g 2 oD);go_wp2_with fail
  refine (oP l HC (HG.out 2 oD) W1 wb tag V (A.below D)).mono ?_;rintro r O ⟨e,rfl,H,i⟩;have y:=hid i;clear i;go_wp2_with fail
  refine ar (v:=.int .i64 (e)) (by simp[results,Tryz.results182,go_sem]) rfl ⟨e,rfl,H,y.pre D⟩
 have N4:(n==4)=false:=by simp[x]
 clear x;by_cases x:n=5
 ·subst x;have J:=hid (fC wb V p d (g 1) 8 2 W1 (HV.below D) l.s);have S:=hid (gD p d (g 1) 8 2);have U:=hid (fun h=>qR l.w (n:=d) (a:=g 1) (k:=8) (r:=2) oD h);generalize (kAt p d (g 1) 8 2).2=E at*;generalize (kAt p d (g 1) 8 2).1=K at*;have t1:=ai P (dk 8 g 1 oD);go_wp2_with fail
  refine J.mono ?_;rintro r w2 ⟨rfl,G⟩;have W:=zJ G K;clear G J t1;go_upto_region 31 with ((with_reducible refine gst 32 ?_);refine gQ rfl _ _ rfl w2.heap.size 0 rfl (cf 6 K) rfl (ay _ _) (bQ _ _) (aP _ _ _ _ _ oS oD) ?_)
  generalize N:World.setCells _ _ _ _=Q;obtain⟨BB,I⟩:=W.out _ _ _ N oS;clear N W;have F:=hid (btr D BB);have x1:=ai I (dk 6 K 1 oD);have x4:=ai I (dk 6 K 4 oD);have x5:=ai I (dk 6 K 5 oD);by_cases M:E=0
  case neg=>
   have ad:(E==0)=false:=by simp[M]
   go_wp2_with fail
   refine ar (v:=.int .i64 (E)) (by simp[results,Tryz.results182,go_sem]) rfl ⟨E,rfl,S.out,dt l A F⟩
  case pos=>
   subst M;obtain⟨⟨f,Y,Z⟩,⟨r0,r1⟩,b0,b1⟩:=U.out rfl;rw[Y] at x1;have HF:=hid Z;generalize K 4=rr at*;generalize K 5=bb at*;clear U S Y Z I;by_cases aw:bb=0
   ·subst aw;go_wp2_with fail
    refine (ng l HF (g:=1) oD Q wb tag V (A.below F)).mono ?_;rintro r O ⟨rfl,i⟩;have y:=hid i;clear i;go_wp2_with fail
    refine ar (v:=.int .i64 (0)) (by simp[results,Tryz.results182,go_sem]) rfl ⟨0,rfl,oD,y.pre F⟩
   ·have aS:(bb==0)=false:=by simp[aw]
    go_wp2_with fail
    refine (ng l HF ⟨b0,b1⟩ Q wb tag V (A.below F)).mono ?_;rintro r O ⟨rfl,i⟩;have y:=hid i;clear i;go_wp2_with fail
    refine ar (v:=.int .i64 (0)) (by simp[results,Tryz.results182,go_sem]) rfl ⟨0,rfl,oD,y.pre F⟩
 have N5:(n==5)=false:=by simp[x]
 clear x;by_cases x:n=6
 ·subst x;have J:=hid (fC wb V p d (g 1) 8 1 W1 (HV.below D) l.s);have S:=hid (gD p d (g 1) 8 1);have U:=hid (fun h=>qR l.w (n:=d) (a:=g 1) (k:=8) (r:=1) oD h);generalize (kAt p d (g 1) 8 1).2=E at*;generalize (kAt p d (g 1) 8 1).1=K at*;have t1:=ai P (dk 8 g 1 oD);go_wp2_with fail
  refine J.mono ?_;rintro r w2 ⟨rfl,G⟩;have W:=zJ G K;clear G J t1;go_upto_region 31 with ((with_reducible refine gst 32 ?_);refine gQ rfl _ _ rfl w2.heap.size 0 rfl (cf 6 K) rfl (ay _ _) (bQ _ _) (aP _ _ _ _ _ oS oD) ?_)
  generalize N:World.setCells _ _ _ _=Q;obtain⟨BB,I⟩:=W.out _ _ _ N oS;clear N W;have F:=hid (btr D BB);have x1:=ai I (dk 6 K 1 oD);have x4:=ai I (dk 6 K 4 oD);have x5:=ai I (dk 6 K 5 oD);by_cases M:E=0
  case neg=>
   have ad:(E==0)=false:=by simp[M]
   go_wp2_with fail
   refine ar (v:=.int .i64 (E)) (by simp[results,Tryz.results182,go_sem]) rfl ⟨E,rfl,S.out,dt l A F⟩
  case pos=>
   subst M;obtain⟨⟨f,Y,Z⟩,⟨r0,r1⟩,b0,b1⟩:=U.out rfl;rw[Y] at x1;have HF:=hid Z;generalize K 4=rr at*;generalize K 5=bb at*;clear U S Y Z I;go_wp2_with fail
   refine (sE l HC HF Q wb tag V (A.below F)).mono ?_;rintro r O ⟨rfl,i⟩;have y:=hid i;clear i;go_wp2_with fail
   refine ar (v:=.int .i64 (0)) (by simp[results,Tryz.results182,go_sem]) rfl ⟨0,rfl,oD,y.pre F⟩
 have N6:(n==6)=false:=by simp[x]
 clear x;by_cases x:n=7∨n=8∨n=9
 ·rcases x with rfl|rfl|rfl
  all_goals
   have J:=hid (jM wb V p d (g 1) W1 (HV.below D) l.s);have ae:=hid (pW p d (g 1));generalize (sAt p d (g 1)).2=E1 at*;generalize (sAt p d (g 1)).1=s1 at*;have t1:=ai P (dk 8 g 1 oD);go_wp2_with fail
   refine J.mono ?_;rintro r ag ⟨rfl,G⟩;have ab:=hid (btr D G);have t2:=cu G (ai P (dk 8 g 2 oD));have t3:=cu G (ai P (dk 8 g 3 oD));have t4:=cu G (ai P (dk 8 g 4 oD));clear t1;clear G J;by_cases M:E1=0
   rotate_left
   ·have ad:(E1==0)=false:=by simp[M]
    go_wp2_with fail
    refine ar (v:=.int .i64 (E1)) (by simp[results,Tryz.results182,go_sem]) rfl ⟨E1,rfl,by have:=ae.out;omega,dt l A ab⟩
   subst M;clear ae;have J:=hid (jM wb V p d (g 2) ag (HV.below ab) l.s);have an:=hid (pW p d (g 2));generalize (sAt p d (g 2)).2=E2 at*;generalize (sAt p d (g 2)).1=s2 at*;go_wp2_with fail
   refine J.mono ?_;rintro r al ⟨rfl,G⟩;have ac:=hid (btr ab G);replace t3:=cu G t3;replace t4:=cu G t4;clear G J;by_cases M:E2=0
   rotate_left
   ·have ad:(E2==0)=false:=by simp[M]
    go_wp2_with fail
    refine ar (v:=.int .i64 (E2)) (by simp[results,Tryz.results182,go_sem]) rfl ⟨E2,rfl,by have:=an.out;omega,dt l A ac⟩
   subst M;clear an
  ·go_wp2_with fail
   refine (kG s1 (g 3) (g 4) s2 l al wb tag V (A.below ac)).mono ?_;rintro r O ⟨e,rfl,H,i⟩;have y:=hid i;clear i;go_wp2_with fail
   refine ar (v:=.int .i64 (e)) (by simp[results,Tryz.results182,go_sem]) rfl ⟨e,rfl,H,y.pre ac⟩
  ·obtain⟨u3,h3⟩:∃u:Nat,g 3=u:=⟨(g 3).toNat,by have:=(HG.out 3 oD).1;omega⟩
   obtain⟨u4,h4⟩:∃u:Nat,g 4=u:=⟨(g 4).toNat,by have:=(HG.out 4 oD).1;omega⟩
   rw[h3] at t3;rw[h4] at t4;go_wp2_with fail
   refine (nU s1 s2 u3 u4 l al wb tag V (A.below ac)).mono ?_;rintro r O ⟨e,rfl,H,i⟩;have y:=hid i;clear i;go_wp2_with fail
   refine ar (v:=.int .i64 (e)) (by simp[results,Tryz.results182,go_sem]) rfl ⟨e,rfl,H,y.pre ac⟩
  ·go_wp2_with fail
   refine (oq s1 s2 l al wb tag V (A.below ac)).mono ?_;rintro r O ⟨e,rfl,H,i⟩;have y:=hid i;clear i;go_wp2_with fail
   refine ar (v:=.int .i64 (e)) (by simp[results,Tryz.results182,go_sem]) rfl ⟨e,rfl,H,y.pre ac⟩
 have N7:(n==7)=false:=beq_eq_false_iff_ne.2 oA;have N8:(n==8)=false:=beq_eq_false_iff_ne.2 oA;have N9:(n==9)=false:=beq_eq_false_iff_ne.2 oA;clear x;by_cases x:n=10∨n=11
 ·rcases x with rfl|rfl
  all_goals
   have J:=hid (jM wb V p d (g 1) W1 (HV.below D) l.s);have ae:=hid (pW p d (g 1));generalize (sAt p d (g 1)).2=E1 at*;generalize (sAt p d (g 1)).1=s1 at*;have t1:=ai P (dk 8 g 1 oD);go_wp2_with fail
   refine J.mono ?_;rintro r ag ⟨rfl,G⟩;have ab:=hid (btr D G);clear t1;clear G J;by_cases M:E1=0
   rotate_left
   ·have ad:(E1==0)=false:=by simp[M]
    go_wp2_with fail
    refine ar (v:=.int .i64 (E1)) (by simp[results,Tryz.results182,go_sem]) rfl ⟨E1,rfl,by have:=ae.out;omega,dt l A ab⟩
   subst M;clear ae;go_wp2_with fail
  ·refine (nW s1 l ag wb tag V (A.below ab)).mono ?_;rintro r O ⟨e,rfl,H,i⟩;have y:=hid i;clear i;go_wp2_with fail
   refine ar (v:=.int .i64 (e)) (by simp[results,Tryz.results182,go_sem]) rfl ⟨e,rfl,H,y.pre ab⟩
  ·refine (lN s1 l ag wb tag V (A.below ab)).mono ?_;rintro r O ⟨e,rfl,H,i⟩;have y:=hid i;clear i;go_wp2_with fail
   refine ar (v:=.int .i64 (e)) (by simp[results,Tryz.results182,go_sem]) rfl ⟨e,rfl,H,y.pre ab⟩
 have aH:(n==10)=false:=beq_eq_false_iff_ne.2 oA;have aJ:(n==11)=false:=beq_eq_false_iff_ne.2 oA;clear x;by_cases x:n=12
 ·subst x;go_wp2_with ((with_reducible refine gld 35 ?_);refine uN rfl _ rfl w.heap.size 0 rfl (cf 8 g) (ay _ _) P ?_)
  refine (va wb tag V p d g _ (A.below D) l HG).mono ?_;rintro r O ⟨e,rfl,H,i⟩;have y:=hid i;clear i;go_wp2_with fail
  refine ar (v:=.int .i64 (e)) (by simp[results,Tryz.results182,go_sem]) rfl ⟨e,rfl,H,y.pre D⟩
 have aK:(n==12)=false:=by simp[x]
 clear x;by_cases x:n=13
 ·subst x;go_wp2_with ((with_reducible refine gld 35 ?_);refine uN rfl _ rfl w.heap.size 0 rfl (cf 8 g) (ay _ _) P ?_)
  refine (CB wb tag V p d g _ (A.below D) l HG).mono ?_;rintro r O ⟨e,rfl,H,i⟩;have y:=hid i;clear i;go_wp2_with fail
  refine ar (v:=.int .i64 (e)) (by simp[results,Tryz.results182,go_sem]) rfl ⟨e,rfl,H,y.pre D⟩
 have aL:(n==13)=false:=by simp[x]
 clear x;by_cases x:n=14
 ·subst x;go_wp2_with ((with_reducible refine gld 35 ?_);refine uN rfl _ rfl w.heap.size 0 rfl (cf 8 g) (ay _ _) P ?_)
  refine (sy wb tag V p t g _ (A.below D) l H6 HG).mono ?_;rintro r O ⟨e,rfl,H,i⟩;have y:=hid i;clear i;go_wp2_with fail
  refine ar (v:=.int .i64 (e)) (by simp[results,Tryz.results182,go_sem]) rfl ⟨e,rfl,H,y.pre D⟩
 have aN:(n==14)=false:=by simp[x]
 clear x;by_cases x:n=15∨n=16∨n=17
 ·rcases x with rfl|rfl|rfl
  all_goals
   have J:=hid (fC wb V p d (g 1) 6 2 W1 (HV.below D) l.s);have S:=hid (gD p d (g 1) 6 2);have U:=hid (fun h=>qR l.w (n:=d) (a:=g 1) (k:=6) (r:=2) oD h);generalize (kAt p d (g 1) 6 2).2=E at*;generalize (kAt p d (g 1) 6 2).1=K at*;have t1:=ai P (dk 8 g 1 oD);go_wp2_with fail
   refine J.mono ?_;rintro r w2 ⟨rfl,G⟩;have W:=zJ G K;clear G J t1;go_upto_region 73 with ((with_reducible refine gst 32 ?_);refine gQ rfl _ _ rfl w2.heap.size 0 rfl (cf 6 K) rfl (ay _ _) (bQ _ _) (aP _ _ _ _ _ oS oD) ?_)
   generalize N:World.setCells _ _ _ _=Q;obtain⟨BB,I⟩:=W.out _ _ _ N oS;clear N W;have F:=hid (btr D BB);have t2:=cu BB (ai P (dk 8 g 2 oD));have x1:=ai I (dk 6 K 1 oD);have x4:=ai I (dk 6 K 4 oD);have x5:=ai I (dk 6 K 5 oD);by_cases M:E=0
   rotate_left
   ·have ad:(E==0)=false:=by simp[M]
    go_wp2_with fail
    refine ar (v:=.int .i64 (E)) (by simp[results,Tryz.results182,go_sem]) rfl ⟨E,rfl,S.out,dt l A F⟩
   subst M;obtain⟨⟨f,Y,Z⟩,⟨r0,r1⟩,b0,b1⟩:=U.out rfl;rw[Y] at x1;have HF:=hid Z;generalize K 4=rr at*;generalize K 5=bb at*;clear U S Y Z I
  ·go_wp2_with fail
   refine (gE (f:Int) l Q wb tag V (A.below F)).mono ?_;rintro r O ⟨e,rfl,H,i⟩;have y:=hid i;clear i;go_wp2_with fail
   refine ar (v:=.int .i64 (e)) (by simp[results,Tryz.results182,go_sem]) rfl ⟨e,rfl,H,y.pre F⟩
  ·go_wp2_with fail
   refine (Dq (f:Int) l Q wb tag V (A.below F)).mono ?_;rintro r O ⟨e,rfl,H,i⟩;have y:=hid i;clear i;go_wp2_with fail
   refine ar (v:=.int .i64 (e)) (by simp[results,Tryz.results182,go_sem]) rfl ⟨e,rfl,H,y.pre F⟩
  ·have aA:=cu BB c3;have tp:=(A.below F).IS E3 ap (show 10<20 by omega);generalize p.II.getD t bl 10=pr at tp;go_upto_region 79 with fail
   refine bj oK oK ?_
   repeat (first|go_big_quiet_skip|(go_big_quiet_want;go_big_quiet_op;first|go_big_quiet_on|go_big_quiet_call (fail)))
   refine cJ ?_;intro _ aC;obtain⟨nq,aD⟩:=aC;subst aD;have BQ:=hid (aG (af Q.heap.size Q) nq);have B4:=hid (btr F BQ);replace t2:=cu BQ t2;replace x1:=cu BQ x1;clear aA tp;generalize Q.drewN nq=W4 at*;by_cases hw:pr<g 2
   ·go_wp2_with fail
    refine ar (v:=.int .i64 (4)) (by simp[results,Tryz.results182,go_sem]) rfl ⟨4,rfl,oD,dt l A B4⟩
   ·go_wp2_with fail
    refine (ry (f:Int) (g 2) l W4 wb tag V (A.below B4)).mono ?_;rintro r O ⟨e,rfl,H,i⟩;have y:=hid i;clear i;go_wp2_with fail
    refine ar (v:=.int .i64 (e)) (by simp[results,Tryz.results182,go_sem]) rfl ⟨e,rfl,H,y.pre B4⟩
 have aO:(n==15)=false:=beq_eq_false_iff_ne.2 oA;have aQ:(n==16)=false:=beq_eq_false_iff_ne.2 oA;have aR:(n==17)=false:=beq_eq_false_iff_ne.2 oA;clear x;go_wp2_with fail
 refine ar (v:=.int .i64 (13)) (by simp[results,Tryz.results182,go_sem]) rfl ⟨13,rfl,oD,dt l A D⟩
theorem Bx.trans {p p1:PW} {wb:Nat} {tag f:Nat->Nat} {W e W2:World} (k:Kt tag f W e) (s:Sm p p1) (h:Bx p1 wb f e W2):Bx p wb tag W W2:=by
 obtain⟨a,b,c,k2,d,g⟩:=h;exact⟨a,b,c,k.trans k2,d,s.trans g⟩
theorem vT (wb:Nat) (tag:Nat->Nat) (V:Nat->Value) (p:PW) (c t:Nat) (n:Int) (w:World) (bt:cb w wb tag V p) (A:Lv p) (G:p.co c=t):
  Calls Tryz.prog 131 #[.pointer (some ⟨wb,0,none⟩),.int .i64 (c:Int),.int .i64 n] w fun r w'=>r=.returned (.tuple #[])∧Bx p wb tag w w':=by
 have lf:=A.w.m.tk.lf;have HV:=hid (bt.view A.w.fits A.w.I8);have BT:=hid bt;have E:=hid A;have HC:=hid G;obtain⟨_,d,_⟩:=A.w.m.tk.q.inc G;have ad:=hid (iN (p:=p) (f:=t) (by rw[d];decide));have ax:=Nat.lt_of_not_le fun hh=>by
  have e:p.co c= -1:=by show p.IJ.getD c (-1)= -1;rw[aa,aI hh];rfl
  rw[G] at e;omega
 have aL:(c:Int)<(p.IJ.length:Int):=oA;have aN:(p.IJ.length:Int)<=1000:=by have:=A.w.fits.IJ;omega
 obtain⟨g6,k6,e6⟩:=bt.o.IJ.form oA;have x6:w.cell? ⟨g6,c,none⟩=some (.int .i64 t):=by rw[(bt.IY e6 ax).1];exact dF (fun z=>some (Value.int .i64 z)) G
 have c6:=bD bt e6;have ap:=hid (aj w ⟨wb,6,none⟩ c6);obtain⟨aq,aJ⟩:=iK bt;have W:=hid aq;have ah:=hid aJ;have RV:=hid bt.r;have ag:=hid (show tag wb≠0 by rw[bt.g];decide);go_enter Tryz.func131,Tryz.ntmps131
 go_wp2_with ((with_reducible refine gld 28 ?_);refine ja rfl _ rfl wb rfl V RV ?_)
 refine (zh V p w HV.v E.w.fits).mono ?_;rintro r w1 ⟨U,L,rfl,hO,aw,al,hb⟩;have one:=hid (gO (hO.v E.w.I8));have BS:=hid (fun z u (hz:11<=z.size)=>show DL ((w1.alloc (.cells z u)).setCells w1.heap.size 0 (de U).toList) w1.heap.size L U p from
  ⟨World.rangeAt_setCells_same _ w1.heap.size 0 (de U).toList (aP w1 z u _ 11 rfl hz),gF _ 0 _ (aP w1 z u _ 11 rfl hz),nA (hO.below (bal (af _ w1) (.cells z u))) al _ 0,al,by rw[fu];simp⟩)
 have KS:=hid (fun (o:Obj)=>(bT (bal hb o) hb.size (de U).toList 0:Below w.heap.size w ((w1.alloc o).setCells w1.heap.size 0 (de U).toList)));have D:=hid aw;have TN:=hid (aP w1 zW 28 w1.heap.size 11 rfl oD);go_upto_region 2 with ((with_reducible refine gst 28 ?_);refine wpList_store_mid rfl 28 _ _ rfl w1.heap.size 0 (de U) rfl rfl TN fA one ?_)
 generalize hW:World.setCells _ _ _ _=K;have S:=hid (show Below w.heap.size w K by rw[<-hW];exact KS _);have I:=hid (show DL K w1.heap.size L U p by rw[<-hW];exact BS _ _ oD);generalize w1.heap.size=b7 at*;obtain⟨ao,ar,aG⟩:=I.tagged;have M:=hid aG;have Y:=hid ar;have B7:=hid (aB D (aB (I.o.Ka 10 0 oA) I.lo));go_wp2_with fail
 refine (yY wb (jd tag w.heap.size) V p c t n K (W.below S) E HC).mono ?_;rintro r l ⟨e,rfl,he,aK,V3,p3,H,N,an⟩;have HE:=hid he;have K3:=hid (H);have KW:=hid ((ah.trans (bp S)).trans H);have ab:=hid (show Bx p wb tag w l from⟨aK,V3,p3,KW.out,N,an⟩);have Z:=hid (show cb l b7 ao U p from Y.kp (T:=fun k=>jd tag w.heap.size k≠0) H.k (fun k _ h=>M.out k (aE (Nat.lt_of_not_le fun hh=>h (fG hh)) D)) (fun _ _=>rfl));have T3:=hid N.t;clear he H N an Y W ah K3;by_cases O:e=0
 ·have av:(e==0)=true:=by simp[O]
  clear O;have s:=ab;clear ab;go_upto_region 5 with fail
  obtain⟨tg,X,q,B,a,b⟩:=s.out;have Q:t<q.kinds.length:=by have:=b.k;have:=ad.out;omega
  have x:t<q.II.length:=by have:=b.w.w.m.tk.lf.II;omega
  have az:(t:Int)<(q.kinds.length:Int):=oA;have aD:(t:Int)<(q.II.length:Int):=oA;have aA:(q.kinds.length:Int)<=1000:=by have:=b.w.w.fits.kinds;omega
  have aC:(q.II.length:Int)<=1000:=by have:=b.w.w.fits.II;omega
  obtain⟨g1,k1,e1⟩:=a.o.kinds.form oA;obtain⟨F,am,i⟩:=a.o.II.form oA;have c1:l.cell? ⟨wb,1,none⟩=some (.slice (some ⟨g1,0,none⟩) q.kinds.length k1):=by rw[ai a.r (k:=1) rfl,e1]
  have c3:l.cell? ⟨wb,3,none⟩=some (.slice (some ⟨F,0,none⟩) q.II.length am):=by rw[ai a.r (k:=3) rfl,i]
  have x1:=a.IZ e1 Q;rw[vK] at x1;obtain⟨C,y⟩:∃z,q.k t=z:=⟨_,rfl⟩
  rw[y] at x1;by_cases d:C=6
  case neg=>
   have P:(C==6)=false:=beq_eq_false_iff_ne.2 d;clear a B b d y;go_wp2_with fail
   exact aH (aF rfl _ _ _) rfl ⟨rfl,s.out⟩
  case pos=>
   have P:(C==6)=true:=bz.2 d;have R:=a.IS i x (show 0<20 by omega);rw[bu] at R;have au:=a.IT i (t*20);have j:=hid (a.IV i x (show 0<20 by omega) e);rw[bu] at j;have J:=hid (show Bx p wb tag w (l.setCell ⟨F,t*20,none⟩ (.int .i64 e)) from⟨tg,X,_,B.trans j.2,j.1,b.trans (by
    have h:=b.w.rs (b.w.w.Jx (t:=t) (y.trans d) (k:=0) (v:=e) oA (by have:=HE.out;omega)) ((dR q).task t 0 e);unfold PW.task at h;rw[aa,ac x,aT] at h;exact h)⟩)
   clear a B b j d y;go_wp2_with fail
   exact aH (aF rfl _ _ _) rfl ⟨rfl,J.out⟩
 ·have av:(e==0)=false:=by simp[O]
  have h2:=hid (M.out wb (aE ap D));have s:=hid (show Bx p wb tag w (l.setCells wb 0 (de U).toList) from⟨_,U,p,⟨aM (T:=fun k=>tag k≠0) (.inl ag) _ 0 _ KW.k,fun k hk ay=>by
   show (if k=wb then 1 else ao k)=0
   rw[ae (fun e=>ag.out (by rw[<-e];exact ay))];exact M k (aE hk D)⟩,Z.o.box h2 T3,Sm.refl E⟩)
  go_upto_region 5 with (first
   |((with_reducible refine gld 28 ?_);refine ja rfl _ rfl b7 rfl U Z.r ?_)
   |((with_reducible refine gst 28 ?_);refine wpList_store_mid rfl 28 _ _ rfl wb 0 (de U) rfl rfl T3 fA one ?_))
  change Hid (Bx p wb tag w (l.setCells wb 0 [U 0,U 1,U 2,U 3,U 4,U 5,U 6,U 7,U 8,U 9,U 10])) at s;generalize World.setCells l _ _ _=w4 at s ⊢;obtain⟨tg,X,q,B,a,b⟩:=s.out;have Q:t<q.kinds.length:=by have:=b.k;have:=ad.out;omega
  have x:t<q.II.length:=by have:=b.w.w.m.tk.lf.II;omega
  have az:(t:Int)<(q.kinds.length:Int):=oA;have aD:(t:Int)<(q.II.length:Int):=oA;have aA:(q.kinds.length:Int)<=1000:=by have:=b.w.w.fits.kinds;omega
  have aC:(q.II.length:Int)<=1000:=by have:=b.w.w.fits.II;omega
  obtain⟨g1,k1,e1⟩:=a.o.kinds.form oA;obtain⟨F,am,i⟩:=a.o.II.form oA;have c1:=bD a e1;have c3:=bD a i;have x1:=a.IZ e1 Q;rw[vK] at x1;obtain⟨C,y⟩:∃z,q.k t=z:=⟨_,rfl⟩
  rw[y] at x1;by_cases d:C=6
  case neg=>
   have P:=beq_eq_false_iff_ne.2 d;go_wp2_with fail
   exact aH (aF rfl _ _ _) rfl ⟨rfl,s.out⟩
  case pos=>
   have P:=bz.2 d;have R:=a.IS i x (show 0<20 by omega);rw[bu] at R;have au:=a.IT i (t*20);have j:=hid (a.IV i x (show 0<20 by omega) e);rw[bu] at j;have J:=hid (show Bx p wb tag w (w4.setCell ⟨F,t*20,none⟩ (.int .i64 e)) from⟨tg,X,_,B.trans j.2,j.1,b.trans (by
    have h:=b.w.rs (b.w.w.Jx (t:=t) (y.trans d) (k:=0) (v:=e) oA (by have:=HE.out;omega)) ((dR q).task t 0 e);unfold PW.task at h;rw[aa,ac x,aT] at h;exact h)⟩)
   go_wp2_with fail
   exact aH (aF rfl _ _ _) rfl ⟨rfl,J.out⟩
