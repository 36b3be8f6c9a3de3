/- Qbq -/
import Derived.Test.YtaejnmmpddbbjaaGreatDoorQbo
import Derived.Test.YtaejnmmpddbbjaaGreatDoorQbp
import Derived.Test.YtaejnmmpddbbjaaGreatDoorQbn
set_option maxRecDepth 100000
set_option maxHeartbeats 16000000
namespace Go.Proofs.YtaejnmmpddbbjaaGreatDoor
namespace Wd
open Go.RowKit Mem Bw Nums Mmu
theorem orW {a b:Int} (c:0<=a∧a<=65535) (d:0<=b∧b<=65535):0<=bits .or .i64 a b∧bits .or .i64 a b<=65535:=by
 have h:=Bw.xR a.toNat b.toNat oA oA;rw[show ((a.toNat:Nat):Int)=a by omega,show ((b.toNat:Nat):Int)=b by omega] at h;rw[h];have:=Nat.or_lt_two_pow (n:=16) (show a.toNat<2 ^ 16 by omega) (show b.toNat<2 ^ 16 by omega);omega
theorem kd {p:PW} {a:Nat} {k:Int} (h:p.k a=k) (b:k≠0):∃c:a<p.kinds.length,p.kinds[a]=k:=⟨hZ oA,by rw[vo];exact h⟩
theorem Dw (p:PW) (t d b v:Int) (c:Bool):Rs p (snP p t d b v c):=by
 unfold snP;split
 ·exact sH (((db p).task _ _ _).task _ _ _)
 ·split
  ·unfold akP;exact ((((sR _ _ _ _ _ _).trans ((db _).ls (L:=(wdP p d.toNat (fsV p d.toNat).toNat (p.lines.getD d.toNat []).tail b v).lines) (R:=(wdP p d.toNat (fsV p d.toNat).toNat (p.lines.getD d.toNat []).tail b v).ready) (B:=(wdP p d.toNat (fsV p d.toNat).toNat (p.lines.getD d.toNat []).tail b v).bits) (C:=(wdP p d.toNat (fsV p d.toNat).toNat (p.lines.getD d.toNat []).tail b v).D6.map (noT t.toNat))))).task _ _ _).task _ _ _
  ·exact sR _ _ _ _ _ _
theorem DA (p:PW) (t d:Int):Rs p (tkP p t d):=by
 unfold tkP;split
 ·exact sH (db p)
 ·split
  ·exact ((rV _ _ _ _ _).task _ _ _).task _ _ _
  ·exact (rV _ _ _ _ _).wn _ _
theorem Cw (p:PW) (t v:Int):Rs p (anP p t v):=(((db p).task _ _ _).task _ _ _).task _ _ _ |>.wn _ _
theorem Dr (p:PW) (a g:Int):Rs p (rgP p a g):=by
 unfold rgP;split
 ·exact (db p).ls (L:=p.lines) (R:=p.ready) (C:=p.D6)
 ·exact sR _ _ _ _ _ _
theorem CW (p:PW) (t a:Int):Rs p (hbP p t a):=by
 unfold hbP;split
 ·exact sH (db p)
 ·exact (((db p).task t.toNat 1 0).task t.toNat 2 (p.bits.getD a.toNat 0)).ls (L:=p.lines) (R:=p.ready) (C:=p.D6) (B:=p.bits.set a.toNat 0)
theorem Lw.F8 {p:PW} (h:Lw p):∀l∈p.ready,l.length<=50:=fun l hl=>by have:=h.Ff.2 l hl;omega
theorem iq {p:PW} (h:Lv p) {D t d:Nat} {b v:Int} {c:Bool} (x:p.co D=t) (y:p.k d=7) (G:0<=b∧b<=65535) (J:0<=v∧v<=65535) (W:World) (wb:Nat) (tag:Nat->Nat) (V:Nat->Value) (bt:cb W wb tag V p):
  Calls Tryz.prog 51 #[.pointer (some ⟨wb,0,none⟩),.int .i64 t,.int .i64 d,.int .i64 b,.int .i64 v,.bool c] W fun r W'=>r=.returned (.tuple #[])∧Bx p wb tag W W':=by
 have i:=h.s;obtain⟨_,E,_⟩:=h.w.m.tk.q.inc x;have A:=h.w.m.tk.tl E;have f:=(h.w.m.tk.Fy y).2;have H:=h.rs (h.w.send (b:=b) (v:=v) (cl:=c) x y G J) (Dw p t d b v c);have B:Calls Tryz.prog 51 #[.pointer (some ⟨wb,0,none⟩),.int .i64 t,.int .i64 d,.int .i64 b,.int .i64 v,.bool c] W fun r W'=>r=.returned (.tuple #[])∧∃tag',cb W' wb tag' V (snP p t d b v c)∧Kt tag tag' W W':=by
  rcases vT i f with o|⟨u,l,j,o,a,I,F,n⟩
  ·rw[BZ b v c o];refine o7 wb tag V p t d b v c W bt h.w.fits A f ?_
   cases a:p.lines.getD d [] with
   |nil=>exact oo wb tag V p d true W bt h.w.fits f a
   |cons z l=>
    obtain⟨u,j,rfl,hk,F⟩:=hP i f a;exact qK wb tag V p d true W bt h.w.fits f u l a (by rw[i.lf.DY];exact j) (fun e=>by
     have n:=ay e;have K:fsV p d=u:=by unfold fsV;rw[a];show (if p.DY.getD u bl 9=4 then (u:Int) else -1)=u;rw[af n]
     omega)
  ·rw[zH b v c o a];exact qd wb tag V p t d u l b v c W bt h.w.fits h.w.F8 i A f a j (by rw[i.lf.DY];exact j) I n
 refine B.mono fun r W' g=>?_;obtain⟨rfl,tag',C,k⟩:=g;exact⟨rfl,tag',V,_,k,C,H⟩
theorem qf {p:PW} (h:Lv p) {A t d:Nat} (v:p.co A=t) (j:p.k d=7) (W:World) (wb:Nat) (tag:Nat->Nat) (V:Nat->Value) (bt:cb W wb tag V p):
  Calls Tryz.prog 136 #[.pointer (some ⟨wb,0,none⟩),.int .i64 t,.int .i64 d] W (Okd p wb tag W):=by
 have e:=h.s;obtain⟨_,C,e9,_⟩:=h.w.m.tk.q.inc v;have n:=h.w.m.tk.tl C;have b:=(h.w.m.tk.Fy j).2;obtain⟨E,G⟩:=kd j oD;by_cases f:p.DY.getD t bl 17= -1
 ·have F:=h.rs (h.w.take v j f) (DA p t d);have x:Calls Tryz.prog 136 #[.pointer (some ⟨wb,0,none⟩),.int .i64 t,.int .i64 d] W fun r W'=>r=.returned (.int .i64 0)∧∃tag',cb W' wb tag' V (tkP p t d)∧Kt tag tag' W W':=by
   rcases vR e E G with c|⟨u,l,i,c,a,H,D,o⟩
   ·rw[Cc c];refine pe wb tag V p t d W bt h.w.fits n b f ?_
    cases a:p.lines.getD d [] with
    |nil=>exact oo wb tag V p d false W bt h.w.fits b a
    |cons z l=>
     obtain⟨u,i,rfl,hk,D⟩:=hP e b a;have B:p.DY.getD u bl 9=4:=by
      rw[AR a] at c;by_cases h:p.DY.getD u bl 9=4
      ·exact h
      ·rw[ae h] at c;omega
     exact qK wb tag V p d false W bt h.w.fits b u l a (by rw[e.lf.DY];exact i) (by rw[B];decide)
   ·rw[zN c a];exact qg wb tag V p t d u l W bt h.w.fits e n b f a i (by rw[e.lf.DY];exact i) H (by rintro rfl;have:p.t t 9=2∨p.t t 9=3:=o;omega) o
  refine x.mono fun r W' g=>?_;obtain⟨rfl,tag',y,k⟩:=g;exact⟨0,rfl,oD,tag',V,_,k,y,F⟩
 ·refine (pd wb tag V p t d W bt h.w.fits n f).mono fun r W' g=>?_;obtain⟨rfl,rfl⟩:=g;exact⟨7,rfl,oD,cK h bt (ai _ _)⟩
theorem mS {p:PW} (h:Lv p) {n t:Nat} {v:Int} (x:p.co n=t) (A:0<=v∧v<=65535) (W:World) (wb:Nat) (tag:Nat->Nat) (V:Nat->Value) (bt:cb W wb tag V p):
  Calls Tryz.prog 137 #[.pointer (some ⟨wb,0,none⟩),.int .i64 t,.int .i64 v] W (Okd p wb tag W):=by
 have c:=h.s;obtain⟨_,b,e9,_⟩:=h.w.m.tk.q.inc x;have f:=h.w.m.tk.tl b;obtain⟨z,hk⟩:=kd b oD;by_cases a:p.DY.getD t bl 17= -1
 ·refine (l3 wb tag V p t v W bt h.w.fits f a).mono fun r j g=>?_;obtain⟨rfl,rfl⟩:=g;exact⟨6,rfl,oD,cK h bt (ai _ _)⟩
 ·obtain⟨u,i,d,y,o, -, -, -⟩:=zn c z hk a;have e:=h.rs (h.w.answer (v:=v) b a A) (Cw p t v);rw[Ah v d] at e;refine (mT wb tag V p t u v W bt h.w.fits c f d i (by rw[c.lf.DY];exact i) y (by rintro rfl;have:p.t t 9=5:=o;omega)).mono fun r j g=>?_;obtain⟨rfl,tag',l,k⟩:=g;exact⟨0,rfl,oD,tag',V,_,k,l,e⟩
theorem lH {p:PW} (h:Lv p) {a:Nat} {g:Int} (i:p.k a=8) (j:0<=g∧g<=65535) (W:World) (wb:Nat) (tag:Nat->Nat) (V:Nat->Value) (bt:cb W wb tag V p):
  Calls Tryz.prog 139 #[.pointer (some ⟨wb,0,none⟩),.int .i64 a,.int .i64 g] W fun r W'=>r=.returned (.tuple #[])∧Bx p wb tag W W':=by
 have b:=h.s;obtain⟨d,B⟩:=kd i oD;have f:a<p.lines.length:=by rw[b.lf.lines];exact d
 have y:a<p.bits.length:=by rw[b.lf.bits];exact d
 have C:=(h.w.m.tk.q.bt a).elim (fun e=>by rw[e];decide) fun e=>e.2.2;have x:=h.rs (h.w.ring i j (orW C j)) (Dr p a g);have o:Calls Tryz.prog 139 #[.pointer (some ⟨wb,0,none⟩),.int .i64 a,.int .i64 g] W fun r W'=>r=.returned (.tuple #[])∧∃tag',cb W' wb tag' V (rgP p a g)∧Kt tag tag' W W':=by
  obtain⟨zs,c⟩:∃zs,p.lines.getD a []=zs:=⟨_,rfl⟩
  unfold rgP;rw[ag,c]
  cases zs with
  |nil=>exact oY wb tag V p a g W bt h.w.fits f y c (by have:p.bits.getD a 0=p.bi a:=rfl;omega) oA
  |cons z l=>
   obtain⟨t,n,rfl,hk,A⟩:=hP b f c;have v:=sf b d B n hk A;exact nG wb tag V p a t l g W bt h.w.fits b f c n hk v
 refine o.mono fun r W' g=>?_;obtain⟨rfl,tag',u,k⟩:=g;exact⟨rfl,tag',V,_,k,u,x⟩
theorem pQ {p:PW} (h:Lv p) {i t a:Nat} (d:p.co i=t) (b:p.k a=8) (W:World) (wb:Nat) (tag:Nat->Nat) (V:Nat->Value) (bt:cb W wb tag V p):
  Calls Tryz.prog 138 #[.pointer (some ⟨wb,0,none⟩),.int .i64 t,.int .i64 a] W fun r W'=>r=.returned (.tuple #[])∧Bx p wb tag W W':=by
 have e:=h.s;obtain⟨_,j,_⟩:=h.w.m.tk.q.inc d;obtain⟨c,l⟩:=kd b oD;refine (ou wb tag V p t a W bt h.w.fits (h.w.m.tk.tl j) (by rw[e.lf.lines];exact c) (by rw[e.lf.bits];exact c)).mono fun r W' g=>?_;obtain⟨rfl,tag',f,k⟩:=g;exact⟨rfl,tag',V,_,k,f,h.rs (h.w.FX d b) (CW p t a)⟩
theorem Lv.row {p:PW} (h:Lv p) {t:Nat} (b:p.k t=6) {g:Nat->Int} (d:Gq (p.t t) g):Sm p {p with DY:=p.DY.set t g}:=by
 have lf:=h.w.m.tk.lf;have a:t<p.DY.length:=by have:=lf.DY;have:=hZ (p:=p) (f:=t) (by rw[b];decide);omega
 have key:∀n,n<=9->Sm p {p with DY:=p.DY.set t (fun k=>if k<n then g k else p.t t k)}:=by
  intro n
  induction n with
  |zero=>
   intro _;have e:p.DY.set t (fun k=>if k<0 then g k else p.t t k)=p.DY:=by
    apply List.ext_getElem?;intro j;rw[List.getElem?_set];split
    ·rename_i e;subst e;rw[ac a]
     congr 1
     funext k
     rw[ae (eh k)];show p.DY.getD t bl k=_
     rw[aa,ac a];rfl
    ·rfl
   rw[e];exact Sm.refl h
  |succ n ih=>
   intro l;have s:=ih oA;have i:=s.w.EX (t:=t) b (k:=n) (v:=g n) oA (d.w n oA);refine s.trans ?_;have e:(({p with DY:=p.DY.set t (fun k=>if k<n then g k else p.t t k)}:PW).task t n (g n))={p with DY:=p.DY.set t (fun k=>if k<n+1 then g k else p.t t k)}:=by
    unfold PW.task;simp only[d9]
    congr 2
    funext k
    have e2:(p.DY.set t (fun k=>if k<n then g k else p.t t k)).getD t bl=fun k=>if k<n then g k else p.t t k:=by
     rw[aa,cJ a];rfl
    rw[e2];unfold Wd.upd;by_cases c:k=n
    ·rw[af c,af oA,c]
    ·rw[ae c];show (if k<n then g k else p.t t k)=_
     by_cases c2:k<n
     ·rw[af c2,af oA]
     ·rw[ae c2,ae oA]
   rw[e] at i;exact i
 have s:=key 9 (ar _);have e:(fun k=>if k<9 then g k else p.t t k)=g:=by
  funext k
  split
  ·rfl
  ·exact (d.s k oA).symm
 rw[e] at s;exact s
theorem lN (wb:Nat) (tag:Nat->Nat) (V:Nat->Value) (p:PW) (t:Nat) (W:World) (bt:cb W wb tag V p) (h:Lv p) (a:p.k t=6):
  Calls Tryz.prog 50 #[.pointer (some ⟨wb,0,none⟩),.int .i64 t] W fun r W'=>r=.returned (.tuple #[])∧Bx p wb tag W W':=by
 refine (jf wb tag V p t W bt h.w.fits (by have:=h.w.m.tk.lf.DY;have:=hZ (p:=p) (f:=t) (by rw[a];decide);omega)).mono ?_;rintro r W' ⟨c,tag',b,kt⟩;exact⟨c,tag',V,_,kt,b,h.rs (h.w.stop a) ⟨rfl,rfl,rfl,rfl,rfl,rfl⟩⟩
theorem Dt (p:PW) (c:Nat):Rs p (rlP p c):=by
 unfold rlP;split
 ·exact jG 4
 split
 ·exact db p
 ·exact Rs.trans (Rs.wn (p:=p) (q:={p with D6:=p.D6.set c (-1)}) ⟨rfl,rfl,rfl,rfl,rfl,rfl⟩ _ _) (jG 4)
theorem uX (wb:Nat) (tag:Nat->Nat) (V:Nat->Value) (p:PW) (c:Nat) (W:World) (bt:cb W wb tag V p) (h:Lv p) (a:c<p.D6.length):
  Calls Tryz.prog 44 #[.pointer (some ⟨wb,0,none⟩),.int .i64 c] W fun r W'=>r=.returned (.tuple #[])∧Bx p wb tag W W':=by
 have b:∀{r:Ending} {W':World},(r=.returned (.tuple #[])∧∃tag',cb W' wb tag' V (rlP p c)∧Kt tag tag' W W')->r=.returned (.tuple #[])∧Bx p wb tag W W':=by
  rintro r W' ⟨j,tag',i,kt⟩;exact⟨j,tag',V,_,kt,i,h.rs (h.w.settle a) (Dt p c)⟩
 rcases h.w.m.tk.q.cr c with e|⟨t,e,_,g,_⟩
 ·exact (o8 wb tag V p c W bt h.w.fits h.s a e).mono fun _ _=>b
 ·have d:=hZ (p:=p) (f:=t) (by rw[g];decide)
  cases hd:dmB p (tnV p) t with
  |true=>exact (o9 wb tag V p c t W bt h.w.fits h.s a d e hd).mono fun _ _=>b
  |false=>exact (qe wb tag V p c t W bt h.w.fits (fun l hl=>by have:=h.w.Ff.2 l hl;omega) h.s a d ((vo d).trans g) e hd).mono fun _ _=>b
theorem Bx.pre {p:PW} {wb:Nat} {tag:Nat->Nat} {W e W2:World} (f:Below W.heap.size W e) (h:Bx p wb tag e W2):Bx p wb tag W W2:=by
 obtain⟨a,b,c,k,d⟩:=h;exact⟨a,b,c,(bf f).trans k,d⟩
theorem xH:(Tryz.prog.info? 43).map (·.size)=some 8:=oK
theorem rY {ops:Array Oper} {rest:List Oper} {op:Oper} {a:Act} {w:World} {Q:Exit->Act->World->Prop} (d:op.guard=none) (x:Operand) (e:op.op=.load 43 x)
  (b o:Nat) (f:a.eval x=.pointer (some ⟨b,o,none⟩)) (cs:List Value) (hl:cs.length=8) (c:w.rangeAt b o cs)
  (h:wpList Tryz.prog ops Q rest (a.put op.dst (.agg cs.toArray)) w):wpList Tryz.prog ops Q (op::rest) a w:=
 wpList_load_mid d 43 x e b o f cs _ c Tryz.underlying43 rfl (by rw[xH,hl]) h
theorem Cm {ops:Array Oper} {rest:List Oper} {op:Oper} {a:Act} {w:World} {Q:Exit->Act->World->Prop} (d:op.guard=none) (x y:Operand) (e:op.op=.store 43 x y)
  (b o:Nat) (g:a.eval x=.pointer (some ⟨b,o,none⟩)) (cs:List Value) (i:a.eval y=.agg cs.toArray) (hl:cs.length=8) (c:∀v∈cs,v.oneCell'=true) (f:w.there b o 8)
  (h:wpList Tryz.prog ops Q rest (a.put op.dst undef) (w.setCells b o cs)):wpList Tryz.prog ops Q (op::rest) a w:=
 wpList_store_mid d 43 x y e b o cs.toArray g i (by simpa [hl] using f) (by rw[xH];simp[hl]) (all_oneCell_toArray c) (by simpa using h)
theorem oB {p:PW} (h:Lw p) {n a k r:Int} (hk:2<=k) (e:(kAt p n a k r).2=0):(∃f:Nat,(kAt p n a k r).1 1=f∧p.k f=k)∧(0<=(kAt p n a k r).1 4∧(kAt p n a k r).1 4<=7)∧0<=(kAt p n a k r).1 5∧(kAt p n a k r).1 5<=65535:=by
 refine⟨ju h hk e,(t7 h hk e).2,?_⟩;obtain⟨v,o⟩:=h.m.keys;unfold kAt at e ⊢;by_cases b:(sAt p n a).2=0
 ·rw[af b] at e ⊢;generalize (sAt p n a).1.toNat=i at e ⊢;have d:∀j,j<6->p.DZ.getD i eE j=p.s i j:=fun j u=>by
   show p.DZ.getD i eE j=p.DZ.getD i eS j
   rw[aa,aa]
   cases p.DZ[i]? with
   |some x=>rfl
   |none=>show eE j=eS j;unfold eE eS;rw[ae oA]
  unfold kOf at e ⊢;have q:=d 0 oD;have t:=d 5 oD;by_cases c0:p.DZ.getD i eE 0=0
  ·rw[af c0] at e;cases e
  rw[ae c0] at e ⊢;by_cases c1:p.DZ.getD i eE 0=k
  ·rw[af c1] at e ⊢;split at e
   ·rename_i c2;rw[af c2];obtain⟨_,_,_,_,_,_,_,_,_,_,g,l⟩:=KP.mV (show KP.chk (p.s i 0) (p.s i 1) (p.s i 2) (p.s i 3) (p.s i 4) (p.s i 5)=0 from (o.key i (by rw[<-q];exact c0)).c);show 0<=p.DZ.getD i eE 5∧p.DZ.getD i eE 5<=65535
    rw[t];exact⟨g,l⟩
   ·cases e
  ·rw[ae c1] at e;cases e
 ·rw[ae b] at e;exact absurd e b
theorem Lw.yield {p:PW} (h:Lw p) {c t:Nat} (a:p.co c=t) (hl:c<p.D6.length):Lw (wnP {p with D6:=p.D6.set c (-1)} t (rdN p t)):=by
 have x:=h.m.tk;obtain⟨_,b,d,_⟩:=x.q.inc a;have y:Tk (Hnd t) {p with D6:=p.D6.set c (-1)}:=x.Fj (L:=p.lines) (B:=p.bits) (R:=p.ready) (x.q.FD a hl);exact h.tk (y.Ex (show p.t t 9≠5 by omega)) (((db p).ls (L:=p.lines) (R:=p.ready) (B:=p.bits) (C:=p.D6.set c (-1))).wn t (rdN p t))
theorem vw (wb:Nat) (tag:Nat->Nat) (V:Nat->Value) (p:PW) (c t:Nat) (n:Int) (w:World) (bt:cb w wb tag V p) (hp:Lv p) (hc:p.co c=t):
  Calls Tryz.prog 86 #[.pointer (some ⟨wb,0,none⟩),.int .i64 (c:Int),.int .i64 n] w fun r w'=>Okd p wb tag w r w':=by
 have lf:=hp.w.m.tk.lf;have HV:=hid (bt.view hp.w.fits hp.w.Es);have A:=hid bt;have l:=hid hp;have HC:=hid hc;obtain⟨_,h6,_⟩:=hp.w.m.tk.q.inc hc;have H6:=hid h6;have aB:=hZ (p:=p) (f:=t) (by rw[h6];decide);have HG:=hid (fun k (hk:k<8)=>hp.w.m.tk.word h6 (k:=k) (.inl oA));have ag:t<p.DY.length:=by have:=lf.DY;omega
 have am:c<p.D6.length:=Nat.lt_of_not_le fun hh=>by
  have e:p.co c= -1:=by show p.D6.getD c (-1)= -1;rw[aa,aF hh];rfl
  rw[hc] at e;omega
 have aS:(c:Int)<(p.D6.length:Int):=oA;have aT:(p.D6.length:Int)<=1000:=by have:=hp.w.fits.D6;omega
 have aU:(t:Int)<(p.DY.length:Int):=oA;have aW:(p.DY.length:Int)<=1000:=by have:=hp.w.fits.DY;omega
 obtain⟨g6,k6,e6⟩:=bt.o.D6.form oA;obtain⟨gt,kt,e3⟩:=bt.o.DY.form oA;have E6:=hid e6;have E3:=hid e3;have ao:=hid am;have ap:=hid ag;have x6:w.cell? ⟨g6,c,none⟩=some (.int .i64 t):=by rw[(bt.Eg e6 am).1];exact cX (fun z=>some (Value.int .i64 z)) hc
 have c6:w.cell? ⟨wb,6,none⟩=some (.slice (some ⟨g6,0,none⟩) p.D6.length k6):=by rw[ah bt.r (k:=6) rfl,e6]
 have c3:w.cell? ⟨wb,3,none⟩=some (.slice (some ⟨gt,0,none⟩) p.DY.length kt):=by rw[ah bt.r (k:=3) rfl,e3]
 have td:=bt.Ec e3 ag (show 11<20 by omega);have RT:=hid (show w.rangeAt gt (t*20) (cf 8 (p.t t)) from fun j v hv=>by
  have hj:j<8:=by have:=(List.getElem?_eq_some_iff.1 hv).1;simpa [cf] using this
  rw[dp 8 _ j hj] at hv
  cases hv
  exact bt.Ec e3 ag (show j<20 by omega))
 obtain⟨d,hd⟩:∃d,p.DY.getD t bl 11=d:=⟨_,rfl⟩
 rw[hd] at td;obtain⟨g,hg⟩:∃g,p.t t=g:=⟨_,rfl⟩
 rw[hg] at RT HG;have HD:=hid hd;have aG:=hid hg;clear bt hp hc hd hg e6 e3 lf aB h6 am ag;have KS:=hid (fun o=>aI (T:=fun _=>False) (w:=w) (b:=w.heap.size) (.inr (ar _)) (cf 8 g) 0 _ ((aP _ w).alloc o));have XS:=hid (fun z u (hz:8<=z.size)=>World.rangeAt_setCells_same (w.alloc (.cells z u)) w.heap.size 0 (cf 8 g) (by rw[aA];exact aY w z u _ 8 rfl hz));go_enter Tryz.func86,Tryz.ntmps86
 go_upto_region 3 with (first
  |((with_reducible refine gld 43 ?_);refine rY rfl _ rfl gt (t*20) rfl (cf 8 g) (aA _ _) RT ?_)
  |((with_reducible refine gst 43 ?_);refine Cm rfl _ _ rfl w.heap.size 0 rfl (cf 8 g) rfl (aA _ _) (bR _ _) (aY _ _ _ _ _ oS oD) ?_))
 generalize N:World.setCells _ _ _ _=W1;have D:=hid (show Below w.heap.size w W1 by rw[<-N];exact (KS.out _).all);have P:=hid (show W1.rangeAt w.heap.size 0 (cf 8 g) by rw[<-N];exact XS _ _ oS);clear N KS XS RT x6;replace c6:=cu D c6;replace c3:=cu D c3;replace td:=cu D td;by_cases x:n=0
 ·subst x;obtain⟨r1,r2,r3,r4⟩:=lD l.s (hZ (p:=p) (f:=t) (by rw[H6.out];decide)) ((vo (hZ (p:=p) (f:=t) (by rw[H6.out];decide))).trans H6);have ax:({p with D6:=p.D6.set c (-1)}:PW).Fits:=by
   have h:=l.w.fits;exact⟨h.Eb,h.kinds,h.DZ,h.DY,h.lines,h.line,h.bits,by show (p.D6.set c (-1)).length<=1000;rw[au];exact h.D6,h.ready,h.next,h.D9,h.Ee⟩
  have av:=hid (fun X (h:cb X wb tag V {p with D6:=p.D6.set c (-1)})=>gn wb tag V {p with D6:=p.D6.set c (-1)} t (rdN p t) X h ax ap r1 r3 r4 r2);have aj:=hid (A.below D);obtain⟨x6,f6⟩:=aj.Eg E6 ao;obtain⟨b2,k2⟩:=aj.En E6 c (-1);have B5:=hid b2;have K5:=hid ((bf (tag:=tag) D).trans k2);clear b2 k2 r1 r2 r3 r4 ax;go_upto_region 7 with fail
  generalize World.setCell _ _ _=w2 at*;clear c6 x6 f6 aj;go_wp2_with fail
  refine (av.out _ B5).mono ?_;rintro r w3 ⟨rfl,tg,h1,h2⟩;have ay:=hid (show Bx p wb tag w w3 from⟨tg,V,_,K5.trans h2,h1,l.rs (l.w.yield HC ao) (((db p).ls (L:=p.lines) (R:=p.ready) (B:=p.bits) (C:=p.D6.set c (-1))).wn t (rdN p t))⟩);clear h1 h2 av B5 K5;go_wp2_with fail
  refine aq (v:=.int .i64 (0)) (by simp[results,Tryz.results86,go_sem]) rfl ⟨0,rfl,oD,ay.out⟩
 have N0:(n==0)=false:=by simp[x]
 clear x;by_cases x:n=1∨n=2
 ·rcases x with rfl|rfl
  all_goals
   have J:=hid (eM wb V p d (g 1) 7 2 W1 (HV.below D) l.s);have S:=hid (fW p d (g 1) 7 2);have U:=hid (fun h=>oB l.w (n:=d) (a:=g 1) (k:=7) (r:=2) oD h);generalize (kAt p d (g 1) 7 2).2=E at*;generalize (kAt p d (g 1) 7 2).1=K at*;have t1:=ah P (dp 8 g 1 oD);go_wp2_with fail
   refine J.mono ?_;rintro r w2 ⟨rfl,G⟩;have W:=wi G K;clear G J t1;go_upto_region 12 with ((with_reducible refine gst 78 ?_);refine gv rfl _ _ rfl w2.heap.size 0 rfl (cf 6 K) rfl (aA _ _) (bR _ _) (aY _ _ _ _ _ oS oD) ?_)
   generalize N:World.setCells _ _ _ _=Q;obtain⟨BB,I⟩:=W.out _ _ _ N oS;clear N W;have F:=hid (btr D BB);have t2:=cu BB (ah P (dp 8 g 2 oD));have x1:=ah I (dp 6 K 1 oD);have x4:=ah I (dp 6 K 4 oD);have x5:=ah I (dp 6 K 5 oD);by_cases M:E=0
   rotate_left
   ·have ad:(E==0)=false:=by simp[M]
    go_wp2_with fail
    refine aq (v:=.int .i64 (E)) (by simp[results,Tryz.results86,go_sem]) rfl ⟨E,rfl,S.out,cK l A F⟩
   subst M;obtain⟨⟨f,Y,Z⟩,⟨r0,r1⟩,b0,b1⟩:=U.out rfl;rw[Y] at x1;have HF:=hid Z;generalize K 4=rr at*;generalize K 5=bb at*;clear U S Y Z I
  ·go_wp2_with fail
   refine (iq l HC HF ⟨b0,b1⟩ (HG.out 2 oD) Q wb tag V (A.below F)).mono ?_;rintro r O ⟨rfl,i⟩;have y:=hid i;clear i;go_wp2_with fail
   refine aq (v:=.int .i64 (0)) (by simp[results,Tryz.results86,go_sem]) rfl ⟨0,rfl,oD,y.pre F⟩
  ·by_cases hw:rr/4%2=0
   ·have aE:(rr/4%2==0)=true:=by simp[hw]
    clear hw;go_wp2_with fail
    refine aq (v:=.int .i64 (4)) (by simp[results,Tryz.results86,go_sem]) rfl ⟨4,rfl,oD,cK l A F⟩
   ·have aE:(rr/4%2==0)=false:=by simp[hw]
    clear hw;go_wp2_with fail
    refine (iq l HC HF ⟨b0,b1⟩ (HG.out 2 oD) Q wb tag V (A.below F)).mono ?_;rintro r O ⟨rfl,i⟩;have y:=hid i;clear i;go_wp2_with fail
    refine aq (v:=.int .i64 (0)) (by simp[results,Tryz.results86,go_sem]) rfl ⟨0,rfl,oD,y.pre F⟩
 have N1:(n==1)=false:=beq_eq_false_iff_ne.2 oA;have N2:(n==2)=false:=beq_eq_false_iff_ne.2 oA;clear x;by_cases x:n=3
 ·subst x;have J:=hid (eM wb V p d (g 1) 7 1 W1 (HV.below D) l.s);have S:=hid (fW p d (g 1) 7 1);have U:=hid (fun h=>oB l.w (n:=d) (a:=g 1) (k:=7) (r:=1) oD h);generalize (kAt p d (g 1) 7 1).2=E at*;generalize (kAt p d (g 1) 7 1).1=K at*;have t1:=ah P (dp 8 g 1 oD);go_wp2_with fail
  refine J.mono ?_;rintro r w2 ⟨rfl,G⟩;have W:=wi G K;clear G J t1;go_upto_region 20 with ((with_reducible refine gst 78 ?_);refine gv rfl _ _ rfl w2.heap.size 0 rfl (cf 6 K) rfl (aA _ _) (bR _ _) (aY _ _ _ _ _ oS oD) ?_)
  generalize N:World.setCells _ _ _ _=Q;obtain⟨BB,I⟩:=W.out _ _ _ N oS;clear N W;have F:=hid (btr D BB);have x1:=ah I (dp 6 K 1 oD);have x4:=ah I (dp 6 K 4 oD);have x5:=ah I (dp 6 K 5 oD);by_cases M:E=0
  case neg=>
   have ad:(E==0)=false:=by simp[M]
   go_wp2_with fail
   refine aq (v:=.int .i64 (E)) (by simp[results,Tryz.results86,go_sem]) rfl ⟨E,rfl,S.out,cK l A F⟩
  case pos=>
   subst M;obtain⟨⟨f,Y,Z⟩,⟨r0,r1⟩,b0,b1⟩:=U.out rfl;rw[Y] at x1;have HF:=hid Z;generalize K 4=rr at*;generalize K 5=bb at*;clear U S Y Z I;go_wp2_with fail
   refine (qf l HC HF Q wb tag V (A.below F)).mono ?_;rintro r O ⟨e,rfl,H,i⟩;have y:=hid i;clear i;go_wp2_with fail
   refine aq (v:=.int .i64 (e)) (by simp[results,Tryz.results86,go_sem]) rfl ⟨e,rfl,H,y.pre F⟩
 have N3:(n==3)=false:=by simp[x]
 clear x;by_cases x:n=4
 ·subst x;have t2:=ah P (dp 8 g 2 oD);go_wp2_with fail
  refine (mS l HC (HG.out 2 oD) W1 wb tag V (A.below D)).mono ?_;rintro r O ⟨e,rfl,H,i⟩;have y:=hid i;clear i;go_wp2_with fail
  refine aq (v:=.int .i64 (e)) (by simp[results,Tryz.results86,go_sem]) rfl ⟨e,rfl,H,y.pre D⟩
 have N4:(n==4)=false:=by simp[x]
 clear x;by_cases x:n=5
 ·subst x;have J:=hid (eM wb V p d (g 1) 8 2 W1 (HV.below D) l.s);have S:=hid (fW p d (g 1) 8 2);have U:=hid (fun h=>oB l.w (n:=d) (a:=g 1) (k:=8) (r:=2) oD h);generalize (kAt p d (g 1) 8 2).2=E at*;generalize (kAt p d (g 1) 8 2).1=K at*;have t1:=ah P (dp 8 g 1 oD);go_wp2_with fail
  refine J.mono ?_;rintro r w2 ⟨rfl,G⟩;have W:=wi G K;clear G J t1;go_upto_region 31 with ((with_reducible refine gst 78 ?_);refine gv rfl _ _ rfl w2.heap.size 0 rfl (cf 6 K) rfl (aA _ _) (bR _ _) (aY _ _ _ _ _ oS oD) ?_)
  generalize N:World.setCells _ _ _ _=Q;obtain⟨BB,I⟩:=W.out _ _ _ N oS;clear N W;have F:=hid (btr D BB);have x1:=ah I (dp 6 K 1 oD);have x4:=ah I (dp 6 K 4 oD);have x5:=ah I (dp 6 K 5 oD);by_cases M:E=0
  case neg=>
   have ad:(E==0)=false:=by simp[M]
   go_wp2_with fail
   refine aq (v:=.int .i64 (E)) (by simp[results,Tryz.results86,go_sem]) rfl ⟨E,rfl,S.out,cK l A F⟩
  case pos=>
   subst M;obtain⟨⟨f,Y,Z⟩,⟨r0,r1⟩,b0,b1⟩:=U.out rfl;rw[Y] at x1;have HF:=hid Z;generalize K 4=rr at*;generalize K 5=bb at*;clear U S Y Z I;by_cases aw:bb=0
   ·subst aw;go_wp2_with fail
    refine (lH l HF (g:=1) oD Q wb tag V (A.below F)).mono ?_;rintro r O ⟨rfl,i⟩;have y:=hid i;clear i;go_wp2_with fail
    refine aq (v:=.int .i64 (0)) (by simp[results,Tryz.results86,go_sem]) rfl ⟨0,rfl,oD,y.pre F⟩
   ·have aR:(bb==0)=false:=by simp[aw]
    go_wp2_with fail
    refine (lH l HF ⟨b0,b1⟩ Q wb tag V (A.below F)).mono ?_;rintro r O ⟨rfl,i⟩;have y:=hid i;clear i;go_wp2_with fail
    refine aq (v:=.int .i64 (0)) (by simp[results,Tryz.results86,go_sem]) rfl ⟨0,rfl,oD,y.pre F⟩
 have N5:(n==5)=false:=by simp[x]
 clear x;by_cases x:n=6
 ·subst x;have J:=hid (eM wb V p d (g 1) 8 1 W1 (HV.below D) l.s);have S:=hid (fW p d (g 1) 8 1);have U:=hid (fun h=>oB l.w (n:=d) (a:=g 1) (k:=8) (r:=1) oD h);generalize (kAt p d (g 1) 8 1).2=E at*;generalize (kAt p d (g 1) 8 1).1=K at*;have t1:=ah P (dp 8 g 1 oD);go_wp2_with fail
  refine J.mono ?_;rintro r w2 ⟨rfl,G⟩;have W:=wi G K;clear G J t1;go_upto_region 31 with ((with_reducible refine gst 78 ?_);refine gv rfl _ _ rfl w2.heap.size 0 rfl (cf 6 K) rfl (aA _ _) (bR _ _) (aY _ _ _ _ _ oS oD) ?_)
  generalize N:World.setCells _ _ _ _=Q;obtain⟨BB,I⟩:=W.out _ _ _ N oS;clear N W;have F:=hid (btr D BB);have x1:=ah I (dp 6 K 1 oD);have x4:=ah I (dp 6 K 4 oD);have x5:=ah I (dp 6 K 5 oD);by_cases M:E=0
  case neg=>
   have ad:(E==0)=false:=by simp[M]
   go_wp2_with fail
   refine aq (v:=.int .i64 (E)) (by simp[results,Tryz.results86,go_sem]) rfl ⟨E,rfl,S.out,cK l A F⟩
  case pos=>
   subst M;obtain⟨⟨f,Y,Z⟩,⟨r0,r1⟩,b0,b1⟩:=U.out rfl;rw[Y] at x1;have HF:=hid Z;generalize K 4=rr at*;generalize K 5=bb at*;clear U S Y Z I;go_wp2_with fail
   refine (pQ l HC HF Q wb tag V (A.below F)).mono ?_;rintro r O ⟨rfl,i⟩;have y:=hid i;clear i;go_wp2_with fail
   refine aq (v:=.int .i64 (0)) (by simp[results,Tryz.results86,go_sem]) rfl ⟨0,rfl,oD,y.pre F⟩
 have N6:(n==6)=false:=by simp[x]
 clear x;by_cases x:n=7∨n=8∨n=9
 ·rcases x with rfl|rfl|rfl
  all_goals
   have J:=hid (iV wb V p d (g 1) W1 (HV.below D) l.s);have ae:=hid (nI p d (g 1));generalize (sAt p d (g 1)).2=E1 at*;generalize (sAt p d (g 1)).1=s1 at*;have t1:=ah P (dp 8 g 1 oD);go_wp2_with fail
   refine J.mono ?_;rintro r af ⟨rfl,G⟩;have ab:=hid (btr D G);have t2:=cu G (ah P (dp 8 g 2 oD));have t3:=cu G (ah P (dp 8 g 3 oD));have t4:=cu G (ah P (dp 8 g 4 oD));clear t1;clear G J;by_cases M:E1=0
   rotate_left
   ·have ad:(E1==0)=false:=by simp[M]
    go_wp2_with fail
    refine aq (v:=.int .i64 (E1)) (by simp[results,Tryz.results86,go_sem]) rfl ⟨E1,rfl,by have:=ae.out;omega,cK l A ab⟩
   subst M;clear ae;have J:=hid (iV wb V p d (g 2) af (HV.below ab) l.s);have an:=hid (nI p d (g 2));generalize (sAt p d (g 2)).2=E2 at*;generalize (sAt p d (g 2)).1=s2 at*;go_wp2_with fail
   refine J.mono ?_;rintro r al ⟨rfl,G⟩;have ac:=hid (btr ab G);replace t3:=cu G t3;replace t4:=cu G t4;clear G J;by_cases M:E2=0
   rotate_left
   ·have ad:(E2==0)=false:=by simp[M]
    go_wp2_with fail
    refine aq (v:=.int .i64 (E2)) (by simp[results,Tryz.results86,go_sem]) rfl ⟨E2,rfl,by have:=an.out;omega,cK l A ac⟩
   subst M;clear an
  ·go_wp2_with fail
   refine (jx s1 (g 3) (g 4) s2 l al wb tag V (A.below ac)).mono ?_;rintro r O ⟨e,rfl,H,i⟩;have y:=hid i;clear i;go_wp2_with fail
   refine aq (v:=.int .i64 (e)) (by simp[results,Tryz.results86,go_sem]) rfl ⟨e,rfl,H,y.pre ac⟩
  ·obtain⟨u3,h3⟩:∃u:Nat,g 3=u:=⟨(g 3).toNat,by have:=(HG.out 3 oD).1;omega⟩
   obtain⟨u4,h4⟩:∃u:Nat,g 4=u:=⟨(g 4).toNat,by have:=(HG.out 4 oD).1;omega⟩
   rw[h3] at t3;rw[h4] at t4;go_wp2_with fail
   refine (mg s1 s2 u3 u4 l al wb tag V (A.below ac)).mono ?_;rintro r O ⟨e,rfl,H,i⟩;have y:=hid i;clear i;go_wp2_with fail
   refine aq (v:=.int .i64 (e)) (by simp[results,Tryz.results86,go_sem]) rfl ⟨e,rfl,H,y.pre ac⟩
  ·go_wp2_with fail
   refine (mG s1 s2 l al wb tag V (A.below ac)).mono ?_;rintro r O ⟨e,rfl,H,i⟩;have y:=hid i;clear i;go_wp2_with fail
   refine aq (v:=.int .i64 (e)) (by simp[results,Tryz.results86,go_sem]) rfl ⟨e,rfl,H,y.pre ac⟩
 have N7:(n==7)=false:=beq_eq_false_iff_ne.2 oA;have N8:(n==8)=false:=beq_eq_false_iff_ne.2 oA;have N9:(n==9)=false:=beq_eq_false_iff_ne.2 oA;clear x;by_cases x:n=10∨n=11
 ·rcases x with rfl|rfl
  all_goals
   have J:=hid (iV wb V p d (g 1) W1 (HV.below D) l.s);have ae:=hid (nI p d (g 1));generalize (sAt p d (g 1)).2=E1 at*;generalize (sAt p d (g 1)).1=s1 at*;have t1:=ah P (dp 8 g 1 oD);go_wp2_with fail
   refine J.mono ?_;rintro r af ⟨rfl,G⟩;have ab:=hid (btr D G);clear t1;clear G J;by_cases M:E1=0
   rotate_left
   ·have ad:(E1==0)=false:=by simp[M]
    go_wp2_with fail
    refine aq (v:=.int .i64 (E1)) (by simp[results,Tryz.results86,go_sem]) rfl ⟨E1,rfl,by have:=ae.out;omega,cK l A ab⟩
   subst M;clear ae;go_wp2_with fail
  ·refine (mi s1 l af wb tag V (A.below ab)).mono ?_;rintro r O ⟨e,rfl,H,i⟩;have y:=hid i;clear i;go_wp2_with fail
   refine aq (v:=.int .i64 (e)) (by simp[results,Tryz.results86,go_sem]) rfl ⟨e,rfl,H,y.pre ab⟩
  ·refine (kA s1 l af wb tag V (A.below ab)).mono ?_;rintro r O ⟨e,rfl,H,i⟩;have y:=hid i;clear i;go_wp2_with fail
   refine aq (v:=.int .i64 (e)) (by simp[results,Tryz.results86,go_sem]) rfl ⟨e,rfl,H,y.pre ab⟩
 have aH:(n==10)=false:=beq_eq_false_iff_ne.2 oA;have aJ:(n==11)=false:=beq_eq_false_iff_ne.2 oA;clear x;by_cases x:n=12
 ·subst x;go_wp2_with ((with_reducible refine gld 43 ?_);refine rY rfl _ rfl w.heap.size 0 rfl (cf 8 g) (aA _ _) P ?_)
  refine (sn wb tag V p d g _ (A.below D) l HG).mono ?_;rintro r O ⟨e,rfl,H,i⟩;have y:=hid i;clear i;go_wp2_with fail
  refine aq (v:=.int .i64 (e)) (by simp[results,Tryz.results86,go_sem]) rfl ⟨e,rfl,H,y.pre D⟩
 have aK:(n==12)=false:=by simp[x]
 clear x;by_cases x:n=13
 ·subst x;go_wp2_with ((with_reducible refine gld 43 ?_);refine rY rfl _ rfl w.heap.size 0 rfl (cf 8 g) (aA _ _) P ?_)
  refine (zb wb tag V p d g _ (A.below D) l HG).mono ?_;rintro r O ⟨e,rfl,H,i⟩;have y:=hid i;clear i;go_wp2_with fail
  refine aq (v:=.int .i64 (e)) (by simp[results,Tryz.results86,go_sem]) rfl ⟨e,rfl,H,y.pre D⟩
 have aL:(n==13)=false:=by simp[x]
 clear x;by_cases x:n=14
 ·subst x;go_wp2_with ((with_reducible refine gld 43 ?_);refine rY rfl _ rfl w.heap.size 0 rfl (cf 8 g) (aA _ _) P ?_)
  refine (pL wb tag V p t g _ (A.below D) l H6 HG).mono ?_;rintro r O ⟨e,rfl,H,i⟩;have y:=hid i;clear i;go_wp2_with fail
  refine aq (v:=.int .i64 (e)) (by simp[results,Tryz.results86,go_sem]) rfl ⟨e,rfl,H,y.pre D⟩
 have aM:(n==14)=false:=by simp[x]
 clear x;by_cases x:n=15∨n=16∨n=17
 ·rcases x with rfl|rfl|rfl
  all_goals
   have J:=hid (eM wb V p d (g 1) 6 2 W1 (HV.below D) l.s);have S:=hid (fW p d (g 1) 6 2);have U:=hid (fun h=>oB l.w (n:=d) (a:=g 1) (k:=6) (r:=2) oD h);generalize (kAt p d (g 1) 6 2).2=E at*;generalize (kAt p d (g 1) 6 2).1=K at*;have t1:=ah P (dp 8 g 1 oD);go_wp2_with fail
   refine J.mono ?_;rintro r w2 ⟨rfl,G⟩;have W:=wi G K;clear G J t1;go_upto_region 73 with ((with_reducible refine gst 78 ?_);refine gv rfl _ _ rfl w2.heap.size 0 rfl (cf 6 K) rfl (aA _ _) (bR _ _) (aY _ _ _ _ _ oS oD) ?_)
   generalize N:World.setCells _ _ _ _=Q;obtain⟨BB,I⟩:=W.out _ _ _ N oS;clear N W;have F:=hid (btr D BB);have t2:=cu BB (ah P (dp 8 g 2 oD));have x1:=ah I (dp 6 K 1 oD);have x4:=ah I (dp 6 K 4 oD);have x5:=ah I (dp 6 K 5 oD);by_cases M:E=0
   rotate_left
   ·have ad:(E==0)=false:=by simp[M]
    go_wp2_with fail
    refine aq (v:=.int .i64 (E)) (by simp[results,Tryz.results86,go_sem]) rfl ⟨E,rfl,S.out,cK l A F⟩
   subst M;obtain⟨⟨f,Y,Z⟩,⟨r0,r1⟩,b0,b1⟩:=U.out rfl;rw[Y] at x1;have HF:=hid Z;generalize K 4=rr at*;generalize K 5=bb at*;clear U S Y Z I
  ·go_wp2_with fail
   refine (fX (f:Int) l Q wb tag V (A.below F)).mono ?_;rintro r O ⟨e,rfl,H,i⟩;have y:=hid i;clear i;go_wp2_with fail
   refine aq (v:=.int .i64 (e)) (by simp[results,Tryz.results86,go_sem]) rfl ⟨e,rfl,H,y.pre F⟩
  ·go_wp2_with fail
   refine (zJ (f:Int) l Q wb tag V (A.below F)).mono ?_;rintro r O ⟨e,rfl,H,i⟩;have y:=hid i;clear i;go_wp2_with fail
   refine aq (v:=.int .i64 (e)) (by simp[results,Tryz.results86,go_sem]) rfl ⟨e,rfl,H,y.pre F⟩
  ·have az:=cu BB c3;have tp:=(A.below F).Ec E3 ap (show 10<20 by omega);generalize p.DY.getD t bl 10=pr at tp;go_upto_region 79 with fail
   refine aZ oK oK ?_
   repeat (first|go_big_quiet_skip|(go_big_quiet_want;go_big_quiet_op;first|go_big_quiet_on|go_big_quiet_call (fail)))
   refine cy ?_;intro _ aC;obtain⟨nq,aD⟩:=aC;subst aD;have BQ:=hid (aV (ai Q.heap.size Q) nq);have B4:=hid (btr F BQ);replace t2:=cu BQ t2;replace x1:=cu BQ x1;clear az tp;generalize Q.drewN nq=W4 at*;by_cases hw:pr<g 2
   ·go_wp2_with fail
    refine aq (v:=.int .i64 (4)) (by simp[results,Tryz.results86,go_sem]) rfl ⟨4,rfl,oD,cK l A B4⟩
   ·go_wp2_with fail
    refine (oU (f:Int) (g 2) l W4 wb tag V (A.below B4)).mono ?_;rintro r O ⟨e,rfl,H,i⟩;have y:=hid i;clear i;go_wp2_with fail
    refine aq (v:=.int .i64 (e)) (by simp[results,Tryz.results86,go_sem]) rfl ⟨e,rfl,H,y.pre B4⟩
 have aN:(n==15)=false:=beq_eq_false_iff_ne.2 oA;have aO:(n==16)=false:=beq_eq_false_iff_ne.2 oA;have aQ:(n==17)=false:=beq_eq_false_iff_ne.2 oA;clear x;go_wp2_with fail
 refine aq (v:=.int .i64 (13)) (by simp[results,Tryz.results86,go_sem]) rfl ⟨13,rfl,oD,cK l A D⟩
