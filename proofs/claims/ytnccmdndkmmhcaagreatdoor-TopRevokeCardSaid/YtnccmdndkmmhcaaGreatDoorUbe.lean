/- Ube -/
import Derived.Deep.RegionHeld3
import Derived.BigGuard
import Derived.Test.YtnccmdndkmmhcaaGreatDoorUbd
set_option maxRecDepth 100000
set_option maxHeartbeats 16000000
namespace Go.Proofs.YtnccmdndkmmhcaaGreatDoor
namespace Wd
open Go.RowKit Mem Bw Nums Mmu
theorem A2:∀(k:Nat) (l:List Int),l.Nodup->(∀z∈l,∃t:Nat,t<k∧z=t)->l.length<=k
 |0,[],_,_=>aq _
 |0,z::l,_,h=>by obtain⟨t,f,_⟩:=h z oS;omega
 |k+1,l,hn,h=>by
  have d:=A2 k (l.erase (k:Int)) (hn.erase _) (fun z c=>by
   obtain⟨t,a,b⟩:=h z (List.mem_of_mem_erase c);refine⟨t,?_,b⟩;have:t≠k:=fun e=>by rw[b,e] at c;exact hn.not_mem_erase c
   omega)
  rw[List.length_erase] at d;split at d<;>omega
theorem Lw.JC {p:PW} (h:Lw p):(∀l∈p.lines,l.length<=24)∧∀l∈p.ready,l.length<=24:=by
 have x:=h.m.tk;have k24:=x.lf.k2;have g:∀{ls:List (List Int)},(∀a z,z∈ls.getD a []->∃n:Nat,z=n∧p.k n=6)->(∀a,(ls.getD a []).Nodup)->∀l∈ls,l.length<=24:=fun d f l hl=>by
  obtain⟨j,i,rfl⟩:=dC hl;rw[n9 i];refine aB (A2 p.kinds.length _ (f j) fun z b=>?_) k24;obtain⟨n,e,c⟩:=d j z b;exact⟨n,iN oA,e⟩
 exact⟨g (fun a z b=>by obtain⟨n,e,_,c,_⟩:=x.q.ln a z b;exact⟨n,e,c⟩) x.q.lu,g (fun a z b=>by obtain⟨n,e,_,c,_⟩:=x.q.rd a z b;exact⟨n,e,c⟩) x.q.ru⟩
theorem Lw.fits {p:PW} (h:Lw p):p.Fits:=by
 have l:=h.m.tk.lf;obtain⟨a,b⟩:=h.JC;have k:=l.k2;have c:=l.c2;exact⟨by have:=l.IL;omega,oA,by have:=l.IH;omega,by have:=l.II;omega,by have:=l.lines;omega,fun x d=>by have:=a x d;omega,by have:=l.bits;omega,oA,by have:=l.ready;omega,fun x d=>by have:=b x d;omega,by have:=l.IK;omega,by have:=l.d2;omega⟩
theorem Lw.I8 {p:PW} (h:Lw p):∀l∈p.IK,l.length<=100:=fun l hl=>by have:=(h.tl l hl).n;omega
structure Lv (p:PW):Prop where
 w:Lw p
 t:p.time<=1000000
theorem Lv.s {p:PW} (h:Lv p):Snd p:=kM (h.w.snd h.t)
structure Sm (p q:PW):Prop where
 w:Lv q
 k:q.kinds.length=p.kinds.length
 t:q.time=p.time
 c:q.IK.length=p.IK.length
theorem Sm.refl {p:PW} (h:Lv p):Sm p p:=⟨h,rfl,rfl,rfl⟩
theorem Sm.trans {p q r:PW} (h:Sm p q) (g:Sm q r):Sm p r:=⟨g.w,g.k.trans h.k,g.t.trans h.t,g.c.trans h.c⟩
theorem Sm.co {p q:PW} (h:Sm p q) (a:Lv p):q.IJ.length=p.IJ.length:=by rw[<-h.w.w.m.tk.lf.IK,h.c,a.w.m.tk.lf.IK]
theorem Lv.to {p q:PW} (h:Lv p) (w:Lw q) (k:q.kinds.length=p.kinds.length) (t:q.time=p.time) (c:q.IK.length=p.IK.length):Sm p q:=⟨⟨w,by rw[t];exact h.t⟩,k,t,c⟩
theorem Lv.rs {p q:PW} (h:Lv p) (w:Lw q) (r:Rs p q):Sm p q:=h.to w (by rw[r.k]) r.t (by rw[r.l])
def Bx (p:PW) (wb:Nat) (tag:Nat->Nat) (W W':World):Prop:=∃(tag':Nat->Nat) (V':Nat->Value) (p':PW),Kt tag tag' W W'∧cb W' wb tag' V' p'∧Sm p p'
def Okd (p:PW) (wb:Nat) (tag:Nat->Nat) (W:World) (r:Ending) (W':World):Prop:=∃e:Int,r=.returned (.int .i64 e)∧(0<=e∧e<=13)∧Bx p wb tag W W'
theorem Bx.same {p:PW} {wb:Nat} {tag:Nat->Nat} {V:Nat->Value} {W W':World} (h:Lv p) (bt:cb W wb tag V p) (a:Below W.heap.size W W'):Bx p wb tag W W':=⟨tag,V,p,bp a,bt.below a,Sm.refl h⟩
theorem _root_.Go.Proofs.YtnccmdndkmmhcaaGreatDoor.dt:type_of% @Bx.same:= @Bx.same
theorem Cf:∀(m:Nat) (p:PW) (s:Nat),(drF m p s).kinds.length=p.kinds.length
 |0,_,_=>rfl
 |m+1,p,s=>by
  have da:∀f a q,(daF (drF m) f a q).kinds.length=q.kinds.length:=fun f a=>by
   induction a with
   |zero=>intro q;rw[gB]
   |succ a ih2=>
    intro q;rw[gA];split
    ·exact ih2 q
    ·rw[ih2,Cf m]
  have nk:∀q f,(nkP q f).kinds.length=q.kinds.length:=fun q f=>au ..;unfold drF;split
  ·rfl
  ·unfold lsF;split
   ·exact nk _ _
   split
   ·exact nk _ _
   split
   ·rw[da];exact nk _ _
   split
   ·rw[jz];exact nk _ _
   ·show (dsP (nkP (drA p s) _) _).kinds.length=_
    rw[iu];exact nk _ _
theorem FP {m t:Nat}:∀(n:Nat) (p:PW),(rvN (drF m) t n p).kinds.length=p.kinds.length
 |0,_=>rfl
 |n+1,p=>by
  rw[rvN];split
  ·rfl
  ·rw[FP n,Cf]
theorem Lv.drop {p:PW} (h:Lv p) (a:Int):Sm p (dkP p a):=by
 refine h.to (h.w.drop a) ?_ ?_ ?_<;>(unfold dkP;split)
 ·exact Cf _ _ _
 ·rfl
 ·exact mC _ _ _
 ·rfl
 ·show ((drF _ p _).IK.map _).length=_;rw[bL,jX]
 ·rfl
theorem yo {m t:Nat}:∀(n:Nat) (p:PW),(rvN (drF m) t n p).time=p.time
 |0,_=>rfl
 |n+1,p=>by
  rw[rvN];split
  ·rfl
  ·rw[yo n,mC]
theorem yp {m t:Nat}:∀(n:Nat) (p:PW),(rvN (drF m) t n p).IK=p.IK
 |0,_=>rfl
 |n+1,p=>by
  rw[rvN];split
  ·rfl
  ·rw[yp n,jX]
theorem Lv.Ju {p:PW} (h:Lv p) (a:Int):Sm p (j6 p a):=by
 refine h.to (h.w.Ju a) ?_ ?_ ?_<;>(unfold j6;split)
 ·exact FP _ _
 ·rfl
 ·exact yo _ _
 ·rfl
 ·show ((rvN _ _ _ p).IK.map _).length=_;rw[bL,yp]
 ·rfl
theorem zE {p:PW} (a:Int):0<=fh p a∧fh p a<=13:=by unfold fh;split<;>(try split)<;>decide
theorem IC {p:PW} (a:Int):0<=opE p a∧opE p a<=13:=by unfold opE;split<;>(try split)<;>(try split)<;>decide
theorem Hy {p:PW} (a b:Int):0<=boE p a b∧boE p a b<=13:=by unfold boE;split;exact IC b;exact zE a
theorem Hu {p:PW} (a k:Int):0<=thE p a k∧thE p a k<=13:=by unfold thE;split<;>(try split)<;>decide
theorem oq (a b:Int) {p:PW} (h:Lv p) (W:World) (wb:Nat) (tag:Nat->Nat) (V:Nat->Value) (bt:cb W wb tag V p):Calls Tryz.prog 36 #[.pointer (some ⟨wb,0,none⟩),.int .i64 a,.int .i64 b] W (Okd p wb tag W):=by
 refine (mZ a b p h.w.fits h.w.I8 h.s W wb tag V bt).mono fun r j g=>?_;obtain⟨rfl,tag',k,f,i⟩:=g;refine⟨_,rfl,Hy a b,?_⟩;by_cases e:boE p a b=0
 ·obtain⟨c,d⟩:=f e;exact⟨tag',c,_,k,d,h.to (h.w.move e) rfl rfl rfl⟩
 ·obtain rfl:=i e;exact dt h bt (af _ _)
theorem nW (a:Int) {p:PW} (h:Lv p) (W:World) (wb:Nat) (tag:Nat->Nat) (V:Nat->Value) (bt:cb W wb tag V p):Calls Tryz.prog 37 #[.pointer (some ⟨wb,0,none⟩),.int .i64 a] W (Okd p wb tag W):=by
 refine (mD a p h.w.fits h.w.I8 h.s W wb tag V bt).mono fun r i g=>?_;obtain⟨rfl,tag',k,d,f⟩:=g;refine⟨_,rfl,zE a,?_⟩;by_cases e:fh p a=0
 ·obtain⟨b,c⟩:=d e;exact⟨tag',b,_,k,c,h.drop a⟩
 ·obtain rfl:=f e;exact dt h bt (af _ _)
theorem lN (a:Int) {p:PW} (h:Lv p) (W:World) (wb:Nat) (tag:Nat->Nat) (V:Nat->Value) (bt:cb W wb tag V p):Calls Tryz.prog 39 #[.pointer (some ⟨wb,0,none⟩),.int .i64 a] W (Okd p wb tag W):=by
 refine (lp a p h.w.fits h.w.I8 h.s W wb tag V bt).mono fun r i g=>?_;obtain⟨rfl,tag',k,d,f⟩:=g;refine⟨_,rfl,zE a,?_⟩;by_cases e:fh p a=0
 ·obtain⟨b,c⟩:=d e;exact⟨tag',b,_,k,c,h.Ju a⟩
 ·obtain rfl:=f e;exact dt h bt (af _ _)
theorem tu {p:PW} {a:Int} (e:thE p a 6=0):∃t:Nat,a=t∧p.k t=6:=by
 obtain⟨t,b,rfl,hk⟩:=uH e;exact⟨t,rfl,by rw[<-vK b];exact hk⟩
theorem gE (a:Int) {p:PW} (h:Lv p) (W:World) (wb:Nat) (tag:Nat->Nat) (V:Nat->Value) (bt:cb W wb tag V p):Calls Tryz.prog 40 #[.pointer (some ⟨wb,0,none⟩),.int .i64 a] W (Okd p wb tag W):=by
 refine (nm a p h.w.fits h.w.I8 h.s W wb tag V bt).mono fun r j g=>?_;obtain⟨rfl,tag',k,d,f⟩:=g;refine⟨_,rfl,?_,?_⟩
 ·unfold srE;split
  ·split<;>decide
  ·exact Hu a 6
 by_cases e:srE p a=0
 ·obtain⟨c,b⟩:=d e;unfold srE at e;split at e
  ·rename_i e6;obtain⟨t,rfl,i⟩:=tu e6;rw[ah] at e;split at e
   ·rename_i e9;unfold srP at b;rw[ah] at b;exact⟨tag',c,_,k,b,h.rs (h.w.start i e9) ((dR p).wn _ _)⟩
   ·cases e
  ·rename_i e6;exact absurd e e6
 ·obtain rfl:=f e;exact dt h bt (af _ _)
theorem Dq (a:Int) {p:PW} (h:Lv p) (W:World) (wb:Nat) (tag:Nat->Nat) (V:Nat->Value) (bt:cb W wb tag V p):Calls Tryz.prog 240 #[.pointer (some ⟨wb,0,none⟩),.int .i64 a] W (Okd p wb tag W):=by
 refine (p5 a p h.w.fits h.w.I8 h.s W wb tag V bt).mono fun r j g=>?_;obtain⟨rfl,tag',k,d,f⟩:=g;refine⟨_,rfl,Hu a 6,?_⟩;by_cases e:thE p a 6=0
 ·obtain⟨c,b⟩:=d e;obtain⟨t,rfl,i⟩:=tu e;rw[ah] at b;exact⟨tag',c,_,k,b,h.rs (h.w.stop i) ⟨rfl,rfl,rfl,rfl,rfl,rfl⟩⟩
 ·obtain rfl:=f e;exact dt h bt (af _ _)
theorem Ho (p:PW) (a b:Int):Rs p (rkP p a b):=by
 unfold rkP;split
 ·exact⟨rfl,rfl,rfl,rfl,rfl,rfl⟩
 ·exact (dR p).task _ _ _
theorem ry (a b:Int) {p:PW} (h:Lv p) (W:World) (wb:Nat) (tag:Nat->Nat) (V:Nat->Value) (bt:cb W wb tag V p):Calls Tryz.prog 41 #[.pointer (some ⟨wb,0,none⟩),.int .i64 a,.int .i64 b] W (Okd p wb tag W):=by
 refine (nM a b p h.w.fits h.w.I8 h.s W wb tag V bt).mono fun r l g=>?_;obtain⟨rfl,tag',k,f,i⟩:=g;refine⟨_,rfl,?_,?_⟩
 ·unfold rkE;split
  ·split<;>decide
  ·exact Hu a 6
 by_cases e:rkE p a b=0
 ·obtain⟨c,d⟩:=f e;unfold rkE at e;split at e
  ·rename_i e6;obtain⟨t,rfl,j⟩:=tu e6;split at e
   ·rename_i eb;exact⟨tag',c,_,k,d,h.rs (h.w.JZ j (aA eb)) (Ho p _ b)⟩
   ·cases e
  ·rename_i e6;exact absurd e e6
 ·obtain rfl:=i e;exact dt h bt (af _ _)
theorem Fw (p:PW) (n k m t:Int):(mkP p n k m t).kinds.length=p.kinds.length∧(mkP p n k m t).time=p.time∧(mkP p n k m t).IK=p.IK:=by
 have g:∀i,(mkI p n k (mkB p n) t.toNat i).time=p.time∧(mkI p n k (mkB p n) t.toNat i).IK=p.IK:=fun i=>by
  induction i with
  |zero=>exact⟨rfl,rfl⟩
  |succ i ih=>exact ih
 exact⟨(mY p n k (mkB p n) t.toNat m.toNat).1,g m.toNat⟩
theorem kG (n k m t:Int) {p:PW} (h:Lv p) (W:World) (wb:Nat) (tag:Nat->Nat) (V:Nat->Value) (bt:cb W wb tag V p):Calls Tryz.prog 38 #[.pointer (some ⟨wb,0,none⟩),.int .i64 n,.int .i64 k,.int .i64 m,.int .i64 t] W (Okd p wb tag W):=by
 refine (iw n k m t p h.w.fits h.w.I8 h.s W wb tag V bt).mono fun r l g=>?_;obtain⟨rfl,tag',c,f,i⟩:=g;refine⟨_,rfl,?_,?_⟩
 ·have d:0<=fcE p t.toNat m∧fcE p t.toNat m<=13:=by unfold fcE;split<;>(try split)<;>(try split)<;>decide
  have ce:0<=clE p n∧clE p n<=13:=by
   unfold clE;split
   ·split<;>decide
   ·exact zE n
  unfold mkE;split
  ·split
   ·split
    ·split
     ·split<;>decide
     ·exact d
    ·decide
   ·exact ce
  ·decide
 by_cases e:mkE p n k m t=0
 ·obtain⟨a,b⟩:=f e;obtain⟨l1,l2,j⟩:=Fw p n k m t;exact⟨tag',a,_,c,b,h.to (h.w.make e) l1 l2 (by rw[j])⟩
 ·obtain⟨a,b⟩:=i e;exact⟨tag',a,p,c,b,Sm.refl h⟩
theorem BJ {a r:Nat} (b:a<=7) (c:r<=7):((Bw.bw 6 a r:Nat):Int)=bits .and .i64 (a:Int) (r:Int):=by
 have:∀x y:Fin 8,((Bw.bw 6 x.val y.val:Nat):Int)=bits .and .i64 (x.val:Int) (y.val:Int):=aA oK;exact this ⟨a,oA⟩ ⟨r,oA⟩
theorem nU (a b:Int) (r g:Nat) {p:PW} (h:Lv p) (W:World) (wb:Nat) (tag:Nat->Nat) (V:Nat->Value) (bt:cb W wb tag V p):Calls Tryz.prog 35 #[.pointer (some ⟨wb,0,none⟩),.int .i64 a,.int .i64 b,.int .i64 r,.int .i64 g] W (Okd p wb tag W):=by
 by_cases f:boE p a b=0
 ·have d:=f;unfold boE at d;have u:fh p a=0:=by
   split at d
   ·assumption
   ·exact absurd d (by assumption)
  rw[ag u] at d;obtain⟨i,rfl,hi,o⟩:=wX u;obtain⟨j,rfl,z,D,E⟩:=Ic d;obtain⟨rk,F⟩:=h.w.m.keys;have q:=mS (F.key i o).c o;obtain⟨a4,e4⟩:∃a4:Nat,p.s i 4=a4:=⟨(p.s i 4).toNat,by have:=q.r;omega⟩
  by_cases y:p.s i 0≠1∧r<=7∧g<=65535∧(g=0∨(p.s i 0=7∨p.s i 0=8)∧p.s i 5=0)
  ·obtain⟨c1,c2,B,G⟩:=y;have v:a4<=7:=by have:=q.r;omega
   refine (qp wb tag V p i j r g a4 (p.s i) W bt h.w.fits h.w.I8 h.s.lf.IH f hi z (tb hi) c1 c2 B oA e4 v).mono fun x t l=>?_;obtain⟨rfl,A,k⟩:=l;refine⟨0,rfl,oD,tag,V,_,k,A,h.to ?_ rfl rfl rfl⟩;refine h.w.copy (n:=i) (m:=j) (r:=r) (g:=g) o c1 z D E oA oA oA rfl rfl rfl rfl ?_ ?_ rfl
   ·show ((Bw.bw 6 a4 r:Nat):Int)=_
    rw[BJ v c2,e4]
   ·show (if g=0 then p.s i 5 else (g:Int))=_
    split
    ·rename_i e;rw[ag oA]
    ·rename_i e;rw[ae oA]
  ·refine (uX wb tag V p i j r g (p.s i) W bt h.w.fits h.w.I8 h.s.lf.IH f hi (tb hi) (by have:=q.g;omega) y).mono fun x t l=>?_;obtain⟨e,H,rfl,C⟩:=l;exact⟨e,rfl,oA,dt h bt C⟩
 ·exact (uW a b r g p h.w.fits h.w.I8 h.s.lf.IH f W wb tag V bt).mono fun x t ⟨e1,e2⟩=>⟨_,e1,Hy a b,by rw[e2];exact dt h bt (af _ _)⟩
theorem Lv.s0 {p:PW} (h:Lv p):p4 p=true:=h.w.snd h.t
theorem sI (V:Nat->Value) (p:PW) (w:World) (hv:eu w V p) (a:p.Fits) (y:LF p):
  Calls Tryz.prog 44 #[.agg (de V)] w fun r w'=>r=.returned (.bool true)∧Below w.heap.size w w':=by
 have i:=hid (bal (af w.heap.size w) (.cells (de V) 28));have d:=hid (lQ w V 28);obtain⟨q0,c0,K⟩:=qW hv.IL;obtain⟨q1,c1,e1⟩:=qW hv.kinds;obtain⟨q2,c2,e2⟩:=hv.IH.slice;obtain⟨q3,F,L⟩:=hv.II.slice;obtain⟨q4,G,e4⟩:=xu hv.lines;obtain⟨q5,H,e5⟩:=qW hv.bits;obtain⟨q6,c6,e6⟩:=qW hv.IJ;obtain⟨q7,c7,e7⟩:=xu hv.ready;obtain⟨q8,I,e8⟩:=hv.IK.slice;obtain⟨q9,J,e9⟩:=qW hv.IQ;have l0:(p.IL.length:Int)<=1000:=by have:=a.IL;omega
 have l1:(p.kinds.length:Int)<=1000:=by have:=a.kinds;omega
 have l2:(p.IH.length:Int)<=1000:=by have:=a.IH;omega
 have l3:(p.II.length:Int)<=1000:=by have:=a.II;omega
 have l4:(p.lines.length:Int)<=1000:=by have:=a.lines;omega
 have l5:(p.bits.length:Int)<=1000:=by have:=a.bits;omega
 have l6:(p.IJ.length:Int)<=1000:=by have:=a.IJ;omega
 have l7:(p.ready.length:Int)<=1000:=by have:=a.ready;omega
 have l8:(p.IK.length:Int)<=1000:=by have:=a.IK;omega
 have l9:(p.IQ.length:Int)<=1000:=by have:=a.IQ;omega
 obtain⟨l,s,t,f4,u,v,f7,f8,x,m,n,o,q⟩:=y;generalize p.IL.length=n0 at*;generalize p.kinds.length=n1 at*;generalize p.IH.length=z at*;generalize p.II.length=A at*;generalize p.lines.length=B at*;generalize p.bits.length=C at*;generalize p.IJ.length=c at*;generalize p.ready.length=D at*;generalize p.IK.length=E at*;generalize p.IQ.length=e at*;have j:=hid (fun W (h:Below (w.alloc (.cells (de V) 28)).heap.size (w.alloc (.cells (de V) 28)) W)=>bf d h);have N:=r11 1 d;have S:=r11 6 d;go_enter Tryz.func44,Tryz.ntmps44
 go_wp2_with fail
 go_quiet (fail)
 have f:=hid (aG i nq);have b:=hid (j.out _ (aG (af _ _) nq));generalize World.drewN _ _=k at f b ⊢;have M:=r11 0 b;have O:=r11 2 b;have P:=r11 3 b;have Q:=r11 4 b;have R:=r11 5 b;have T:=r11 7 b;have U:=r11 8 b;have X:=r11 9 b;go_wp2_with fail
 refine (oZ n1 c e k).mono ?_;rintro r w1 ⟨rfl,rfl⟩;have g:decide ((1<=(n1:Int)∧(n1:Int)<=24)∧(1<=(c:Int)∧(c:Int)<=4)∧(1<=(e:Int)∧(e:Int)<=8))=true:=az oA;have Y:((n0:Int) !=(n1:Int)*16)=false:=by simp;omega
 have Z:((z:Int) !=(n1:Int)*16)=false:=by simp;omega
 have aa:((A:Int) !=(n1:Int))=false:=by simp;omega
 have ab:((B:Int) !=(n1:Int))=false:=by simp;omega
 have ac:((C:Int) !=(n1:Int))=false:=by simp;omega
 have ad:((D:Int)==(c:Int)*4)=true:=by simp;omega
 have ae:((E:Int)==(c:Int))=true:=by simp;omega
 rw[g];clear g l s t f4 u v f7 f8 x m n o q;go_wp2_with fail
 go_ret
 exact⟨rfl,f.out⟩
theorem Ad (vb:Nat) (V:Nat->Value) (p:PW) (s:Nat->Int) (w:World) (hv:d6 w vb V p) (hk:0<p.kinds.length) (J:opB p s=true):
  Calls Tryz.prog 136 #[.pointer (some ⟨vb,0,none⟩),.agg (kv s)] w fun r w'=>r=.returned (.bool true)∧Below w.heap.size w w':=by
 have i:=hid (bal (af w.heap.size w) (.cells (kv s) 32));have d:=hid (cq w (kv s) 32);have G:=hid (show ∀W,Below w.heap.size w W->W.cell? ⟨vb,1,none⟩=some (V 1) from fun W a=>ai (hv.below a).r rfl);obtain⟨q,b,off,cap,e1,S,U⟩:=hv.v.kinds;obtain rfl:=S hk;rw[e1] at G;have hl:(p.kinds.length:Int)<=1000:=by have:=hv.f.kinds;omega
 have K:=hid U;have H:=hid (show (w.alloc (.cells (kv s) 32)).heap.size=w.heap.size+1 by simp);have t:=hid (fun W=>qj (s 0) (s 1) (s 2) (s 3) (s 4) (s 5) W);have o:=hid (show opB p s=(KP.chk (s 0) (s 1) (s 2) (s 3) (s 4) (s 5)==0&&decide (s 1+s 2<=(p.kinds.length:Int))&&(s 0==1||isB p (s 1) (s 0))) from rfl);have u:=hid (show KP.chk (s 0) (s 1) (s 2) (s 3) (s 4) (s 5)=0->0<=s 1∧s 1<=23∧0<=s 2∧s 2<=24∧(s 1+s 2<=(p.kinds.length:Int)->s 1<(p.kinds.length:Int)) from fun h=>by
  obtain⟨k0,k1,b0,b1,l0,l1,m0,m1,r0,r1,P,Q⟩:=KP.ky h;refine⟨b0,b1,l0,l1,fun h2=>?_⟩;rw[mx] at h;split at h
  ·omega
  split at h
  ·split at h
   ·omega
   ·omega
  split at h
  ·omega
  ·omega)
 have E:=hid (show ∀j:Nat,(m:j<p.kinds.length)->isB p (j:Int) (s 0)=(p.kinds[j]==s 0) from fun j m=>by unfold isB;rw[fZ m];rfl);unfold kv at*;generalize s 0=s0 at*;generalize s 1=c at*;generalize s 2=s2 at*;generalize s 3=A at*;generalize s 4=B at*;generalize s 5=C at*;generalize KP.chk s0 c s2 A B C=X at t o u;go_enter Tryz.func136,Tryz.ntmps136
 go_wp2_with fail
 generalize World.alloc _ _=n at i d H ⊢;have x:=hid (show ∀W,Below n.heap.size n W->W.cell? ⟨w.heap.size,0,none⟩=some (.int .i64 s0)∧W.cell? ⟨w.heap.size,1,none⟩=some (.int .i64 c)∧W.cell? ⟨w.heap.size,2,none⟩=some (.int .i64 s2)∧W.cell? ⟨w.heap.size,3,none⟩=some (.int .i64 A)∧W.cell? ⟨w.heap.size,4,none⟩=some (.int .i64 B)∧W.cell? ⟨w.heap.size,5,none⟩=some (.int .i64 C)∧W.cell? ⟨vb,1,none⟩=some (.slice (some ⟨b,off,none⟩) p.kinds.length cap) from fun W a=>by
  have e:w.heap.size<n.heap.size:=by rw[H.out];omega
  exact⟨cT d e a 0,cT d e a 1,cT d e a 2,cT d e a 3,cT d e a 4,cT d e a 5,G.out W (btr i a)⟩)
 have D:=hid (aD n 1);have F:=o.symm.trans J;simp only[am,bg,bz] at F;obtain⟨⟨R,T⟩,l⟩:=F
 ·subst R;obtain⟨b0,b1,l0,l1,I⟩:=u.out rfl;rw[show wD 0=.nilIface from rfl] at t;have ac:IntKind.i64.wrap (c+s2)=c+s2:=bZ _ oA oA
  go_region_held3 (fun W=>W.cell? ⟨w.heap.size,0,none⟩=some (.int .i64 s0)∧W.cell? ⟨w.heap.size,1,none⟩=some (.int .i64 c)∧W.cell? ⟨w.heap.size,2,none⟩=some (.int .i64 s2)∧W.cell? ⟨w.heap.size,3,none⟩=some (.int .i64 A)∧W.cell? ⟨w.heap.size,4,none⟩=some (.int .i64 B)∧W.cell? ⟨w.heap.size,5,none⟩=some (.int .i64 C)∧W.cell? ⟨vb,1,none⟩=some (.slice (some ⟨b,off,none⟩) p.kinds.length cap))
   (first|exact x _ g|exact x _ D)
   (first|(go_at_call 191;refine (t.out _).mono ?_;rintro r w1 ⟨rfl,a⟩;have g:=hid (btr D a);clear a))
  have M:=hid (fun W (a:Below w1.heap.size w1 W)=>x.out W (btr g a))
  ·have ab:¬(p.kinds.length:Int)<c+s2:=oA;have aa:=I T;obtain⟨j,rfl⟩:∃j:Nat,c=j:=⟨c.toNat,oA⟩
   have m:j<p.kinds.length:=oA;have O:=(K.below (btr i g)) j m;rw[E.out j m] at l;generalize p.kinds[j]=z at O l;obtain⟨P,Q, -, -, -, -,Y⟩:=M.out w1 (af _ _);have L:=hid (show ¬s0=1->(z==s0)=true from fun h=>by rw[show (s0==1)=false by simpa using h,eU] at l;exact l);clear o E u I l J;go_wp2_with fail
   by_cases y:s0=1
   ·subst y
    go_quiet (fail)
    have k:=hid (aG (btr i g) nq);generalize World.drewN _ _=N at k ⊢;go_wp2_with fail
    go_ret
    exact⟨rfl,k.out⟩
   ·have Z:(s0==1)=false:=by simpa using y
    have ad:=L.out y
    go_quiet (fail)
    have k:=hid (aG (btr i g) nq);generalize World.drewN _ _=N at k ⊢;go_wp2_with fail
    go_ret
    exact⟨rfl,k.out⟩
theorem xl (vb:Nat) (V:Nat->Value) (p:PW) (s:Nat->Int) (w:World) (hv:d6 w vb V p) (O:mdB p s=true):
  Calls Tryz.prog 137 #[.pointer (some ⟨vb,0,none⟩),.agg (cf 7 s).toArray] w fun r w'=>r=.returned (.bool true)∧Below w.heap.size w w':=by
 rw[pZ];have k:=hid (bal (af w.heap.size w) (.cells #[.int .i64 (s 0),.int .i64 (s 1),.int .i64 (s 2),.int .i64 (s 3),.int .i64 (s 4),.int .i64 (s 5),.int .i64 (s 6)] 34));have y:=cq w #[.int .i64 (s 0),.int .i64 (s 1),.int .i64 (s 2),.int .i64 (s 3),.int .i64 (s 4),.int .i64 (s 5),.int .i64 (s 6)] 34;have H:=hid (show (w.alloc (.cells #[.int .i64 (s 0),.int .i64 (s 1),.int .i64 (s 2),.int .i64 (s 3),.int .i64 (s 4),.int .i64 (s 5),.int .i64 (s 6)] 34)).heap.size=w.heap.size+1 by simp);have c2:=r11 2 (hv.below k).r;obtain⟨q,b,off,cap,e2,hq,hz⟩:=hv.v.IH;have hl:(p.IH.length:Int)<=1000:=by have:=hv.f.IH;omega
 have G:=hid (hv.below k);have X:=hid hq;have Z:=hid hz;have z:=hid (show mdB p s=(s 6== -1||(fL p (s 6)&&(kc (p.IH.getD (s 6).toNat fun _=> -1)==0&&cmB (p.IH.getD (s 6).toNat fun _=> -1) s))) from rfl);generalize s 6=x at*;by_cases J:x= -1
 ·subst J;go_enter Tryz.func137,Tryz.ntmps137
  go_wp2_with fail
  go_ret
  exact⟨rfl,k.out⟩
 have ab:(x== -1)=false:=by simpa using J
 rw[ab,eU] at z;have F:=z.symm.trans O;rw[am] at F;obtain⟨P,n⟩:=F;obtain⟨j,rfl,L⟩:=fQ P;have ad:(j:Int)<(p.IH.length:Int):=oA;obtain rfl:=X.out oA;rw[ah,aa,ac L,aT,am] at n;have Y:=hid P;have A:=hid (cS (Z.out j L) k);generalize p.IH[j]=f at n A;have C:=hid n;clear n O z;go_enter Tryz.func137,Tryz.ntmps137
 go_wp2_with fail
 refine (lh vb V p j _ G).mono ?_;rintro r w1 ⟨rfl,rfl⟩;rw[Y.out];generalize World.alloc _ _=a at*;go_upto_region 5 with fail
 have l:=hid (show ∀W,Below a.heap.size a W->W.cell? ⟨vb,2,none⟩=some (V 2)∧W.cell? ⟨w.heap.size,6,none⟩=some (.int .i64 j)∧W.cell? ⟨b,off+j*7,none⟩=some (.int .i64 (f 0))∧W.cell? ⟨b,off+j*7+1,none⟩=some (.int .i64 (f 1))∧W.cell? ⟨b,off+j*7+2,none⟩=some (.int .i64 (f 2))∧W.cell? ⟨b,off+j*7+3,none⟩=some (.int .i64 (f 3))∧W.cell? ⟨b,off+j*7+4,none⟩=some (.int .i64 (f 4))∧W.cell? ⟨b,off+j*7+5,none⟩=some (.int .i64 (f 5)) from fun W d=>by
  have m:w.heap.size<a.heap.size:=by rw[H.out];omega
  have e:=cS A d;exact⟨ai (G.below d).r rfl,cT y m d 6,hV e (dk 7 _ 0 oA),cC e (dk 7 _ 1 oA),cC e (dk 7 _ 2 oA),cC e (dk 7 _ 3 oA),cC e (dk 7 _ 4 oA),cC e (dk 7 _ 5 oA)⟩)
 rw[e2] at l;have u:=hid (aD a 1);have S:=hid (fun W=>qj (f 0) (f 1) (f 2) (f 3) (f 4) (f 5) W);have B:=hid (fun W (h:kc f=0)=>sg f s W h);unfold kv at B;have T:=hid (show kc f=KP.chk (f 0) (f 1) (f 2) (f 3) (f 4) (f 5) from rfl)
 go_region_held3 (fun W=>W.cell? ⟨vb,2,none⟩=some (.slice (some ⟨b,off,none⟩) p.IH.length cap)∧W.cell? ⟨w.heap.size,6,none⟩=some (.int .i64 j)∧W.cell? ⟨b,off+j*7,none⟩=some (.int .i64 (f 0))∧W.cell? ⟨b,off+j*7+1,none⟩=some (.int .i64 (f 1))∧W.cell? ⟨b,off+j*7+2,none⟩=some (.int .i64 (f 2))∧W.cell? ⟨b,off+j*7+3,none⟩=some (.int .i64 (f 3))∧W.cell? ⟨b,off+j*7+4,none⟩=some (.int .i64 (f 4))∧W.cell? ⟨b,off+j*7+5,none⟩=some (.int .i64 (f 5)))
  (first|exact l _ (bal u _)|exact l _ u)
  (fail)
 have c:=hid (show ∀o,((a.alloc (.cells #[.int .i64 (f 0),.int .i64 (f 1),.int .i64 (f 2),.int .i64 (f 3),.int .i64 (f 4),.int .i64 (f 5)] 32)).drew).cell? ⟨a.heap.size,o,none⟩=(#[.int .i64 (f 0),.int .i64 (f 1),.int .i64 (f 2),.int .i64 (f 3),.int .i64 (f 4),.int .i64 (f 5)]:Array Value)[o]? from cq a #[.int .i64 (f 0),.int .i64 (f 1),.int .i64 (f 2),.int .i64 (f 3),.int .i64 (f 4),.int .i64 (f 5)] 32);have t:=hid (show Below a.heap.size a ((a.alloc (.cells #[.int .i64 (f 0),.int .i64 (f 1),.int .i64 (f 2),.int .i64 (f 3),.int .i64 (f 4),.int .i64 (f 5)] 32)).drew) from btr (bal (af a.heap.size a) (.cells #[.int .i64 (f 0),.int .i64 (f 1),.int .i64 (f 2),.int .i64 (f 3),.int .i64 (f 4),.int .i64 (f 5)] 32)) (aD _ 1));have m:w.heap.size<a.heap.size:=by rw[H.out];omega
 have I:=hid (cT y m t);have N:a.heap.size<((a.alloc (.cells #[.int .i64 (f 0),.int .i64 (f 1),.int .i64 (f 2),.int .i64 (f 3),.int .i64 (f 4),.int .i64 (f 5)] 32)).drew).heap.size:=aj _ ⟨a.heap.size,0,none⟩ (c.out 0);have M:w.heap.size<((a.alloc (.cells #[.int .i64 (f 0),.int .i64 (f 1),.int .i64 (f 2),.int .i64 (f 3),.int .i64 (f 4),.int .i64 (f 5)] 32)).drew).heap.size:=oA;have E:=hid N;have D:=hid M;generalize World.drew _=W1 at c t I E D ⊢;clear l u y m N M A;have x0:=c.out 0;have x1:=c.out 1;have x2:=c.out 2;have x3:=c.out 3;have x4:=c.out 4;have x5:=c.out 5;go_wp2_with fail
 refine (S.out W1).mono ?_;rintro r w2 ⟨rfl,d⟩;have i:=hid (cT c E d);have g:=hid (cT I D d);have Q:=hid (btr t d);have K:=eq_of_beq C.1
 ·rw[<-T.out,K,show wD 0=.nilIface from rfl];have U:=hid (fun W=>B.out W K);have x0:=i.out 0;have x1:=i.out 1;have x2:=i.out 2;have x3:=i.out 3;have x4:=i.out 4;have x5:=i.out 5;have y0:=g.out 0;have y1:=g.out 1;have y2:=g.out 2;have y3:=g.out 3;have y4:=g.out 4;have y5:=g.out 5;go_wp2_with fail
  refine (U.out w2).mono ?_;rintro r w3 ⟨rfl,d⟩;have R:=hid (btr Q d);rw[C.2];go_wp2_with fail
  go_ret
  exact⟨rfl,btr k R⟩
theorem uR (vb:Nat) (V:Nat->Value) (p:PW) (n m:Nat) (s:Nat->Int) (w:World) (hv:d6 w vb V p) (Q:(n:Int)/16=(m:Int)) (hk:m<p.kinds.length) (e:bsB p p.kinds[m] s=false):
  Calls Tryz.prog 51 #[.pointer (some ⟨vb,0,none⟩),.int .i64 n,.agg (cf 7 s).toArray] w fun r w'=>r=.returned (.bool false)∧Below w.heap.size w w':=by
 rw[pZ];have d:=hid (bal (af w.heap.size w) (.cells #[.int .i64 (s 0),.int .i64 (s 1),.int .i64 (s 2),.int .i64 (s 3),.int .i64 (s 4),.int .i64 (s 5),.int .i64 (s 6)] 34));have a:=cq w #[.int .i64 (s 0),.int .i64 (s 1),.int .i64 (s 2),.int .i64 (s 3),.int .i64 (s 4),.int .i64 (s 5),.int .i64 (s 6)] 34;have I:=hid (show (w.alloc (.cells #[.int .i64 (s 0),.int .i64 (s 1),.int .i64 (s 2),.int .i64 (s 3),.int .i64 (s 4),.int .i64 (s 5),.int .i64 (s 6)] 34)).heap.size=w.heap.size+1 by simp);have c1:=r11 1 (hv.below d).r;obtain⟨q,b,off,cap,e1,M,N⟩:=hv.v.kinds;have hl:(p.kinds.length:Int)<=1000:=by have:=hv.f.kinds;omega
 have P:(m:Int)<(p.kinds.length:Int):=oA;have G:=hid (show 0<p.kinds.length by omega);obtain rfl:=M oA;have J:=(N.below d) m hk;have k:=hid (hv.below d);have u:=hid (fun W (h:Below (w.alloc (.cells #[.int .i64 (s 0),.int .i64 (s 1),.int .i64 (s 2),.int .i64 (s 3),.int .i64 (s 4),.int .i64 (s 5),.int .i64 (s 6)] 34)).heap.size (w.alloc (.cells #[.int .i64 (s 0),.int .i64 (s 1),.int .i64 (s 2),.int .i64 (s 3),.int .i64 (s 4),.int .i64 (s 5),.int .i64 (s 6)] 34)) W)=>fun (g:opB p s=true)=>Ad vb V p s W (k.below h) G g);have t:=hid (fun W (h:Below (w.alloc (.cells #[.int .i64 (s 0),.int .i64 (s 1),.int .i64 (s 2),.int .i64 (s 3),.int .i64 (s 4),.int .i64 (s 5),.int .i64 (s 6)] 34)).heap.size (w.alloc (.cells #[.int .i64 (s 0),.int .i64 (s 1),.int .i64 (s 2),.int .i64 (s 3),.int .i64 (s 4),.int .i64 (s 5),.int .i64 (s 6)] 34)) W)=>fun (g:mdB p s=true)=>xl vb V p s W (k.below h) g);have F:=hid (fun W (h:Below (w.alloc (.cells #[.int .i64 (s 0),.int .i64 (s 1),.int .i64 (s 2),.int .i64 (s 3),.int .i64 (s 4),.int .i64 (s 5),.int .i64 (s 6)] 34)).heap.size (w.alloc (.cells #[.int .i64 (s 0),.int .i64 (s 1),.int .i64 (s 2),.int .i64 (s 3),.int .i64 (s 4),.int .i64 (s 5),.int .i64 (s 6)] 34)) W)=>pw vb V p (s 6) W (k.below h));rw[pZ] at t;unfold kv at u;generalize p.kinds[m]=kd at J e ⊢;have T:=a 0;have U:=a 1;have X:=a 2;have Y:=a 3;have Z:=a 4;have y5:=a 5;have y6:=a 6
 cases hzk:zkB s with
 |true=>
  have j:=hid hzk;have O:(s 6 != -1)=false:=by rw[<-e];unfold bsB;rw[hzk];rfl
  go_enter Tryz.func51,Tryz.ntmps51
  go_wp2_with (first|((with_reducible (show wpList _ _ _ (⟨_,Op.binOp BinOp.eql 32 _ _ _,_,_,_,_⟩::_) _ _));refine Bp rfl _ _ _ rfl s j rfl rfl ?_))
  go_ret
  exact⟨rfl,d.out⟩
 |false=>
  have j:=hid hzk;have o:(kd==5&&opB p s&&mdB p s&& !yQ p (s 6))=true:=by
   have h:bsB p kd s= !(kd==5&&opB p s&&mdB p s&& !yQ p (s 6)):=by unfold bsB;rw[hzk];rfl
   rw[h] at e;simpa using e
  simp only[am,dD,bz] at o;obtain⟨⟨⟨K,B⟩,z⟩,A⟩:=o;have H:=hid B;have D:=hid z;have E:=hid A;clear B z A e hzk
  ·subst K;go_enter Tryz.func51,Tryz.ntmps51
   go_wp2_with (first|((with_reducible (show wpList _ _ _ (⟨_,Op.binOp BinOp.eql 32 _ _ _,_,_,_,_⟩::_) _ _));refine Bp rfl _ _ _ rfl s j rfl rfl ?_))
   generalize World.alloc _ _=x at*;refine (u.out x (af _ _) H).mono ?_;rintro r w1 ⟨rfl,y⟩;have l:=hid y;have C:w.heap.size<x.heap.size:=by rw[I.out];omega
   have c:=cT a C y;have z0:=c 0;have z1:=c 1;have z2:=c 2;have z3:=c 3;have z4:=c 4;have z5:=c 5;have z6:=c 6;go_wp2_with fail
   refine (t.out w1 l D).mono ?_;rintro r w2 ⟨rfl,L⟩;have i:=hid (btr l L);have R:=cT a C i 6;go_wp2_with fail
   refine (F.out w2 i).mono ?_;rintro r S ⟨rfl,rfl⟩;rw[E.out];go_wp2_with fail
   go_ret
   exact⟨rfl,btr d i⟩
theorem pK (vb:Nat) (V:Nat->Value) (p:PW) (f:Nat->Int) (w:World) (hv:d6 w vb V p) (c:nfB p f=true):
  Calls Tryz.prog 140 #[.pointer (some ⟨vb,0,none⟩),.agg (cf 20 f).toArray] w fun r w'=>r=.returned (.bool true)∧Below w.heap.size w w':=by
 have g:=hid (bal (af w.heap.size w) (.cells (cf 20 f).toArray 37));have a:=hid (DP w f 37);have G:=r11 6 (hv.below g).r;obtain⟨q,b,off,cap,e6, -, -⟩:=hv.v.IJ;have hl:(p.IJ.length:Int)<=1000:=by have:=hv.f.IJ;omega
 have J:=eB a 0 oA;have x1:=eB a 1 oA;have x2:=eB a 2 oA;have x3:=eB a 3 oA;have x4:=eB a 4 oA;have U:=eB a 5 oA;have X:=eB a 6 oA;have Y:=eB a 7 oA;have Z:=eB a 8 oA;have x9:=eB a 9 oA;have K:=eB a 10 oA;have L:=eB a 11 oA;have M:=eB a 12 oA;have N:=eB a 13 oA;have O:=eB a 14 oA;have P:=eB a 15 oA;have Q:=eB a 16 oA;have R:=eB a 17 oA;have S:=eB a 18 oA;have T:=eB a 19 oA;unfold nfB Hk at c;simp only[am] at c;obtain⟨⟨⟨⟨⟨⟨⟨z,u⟩,n⟩,o⟩,x⟩,l⟩,s⟩,t⟩:=c;have B:=hid (show ∀k,k<8->wB (f k)=true from fun k hk=>aU.1 z k (List.mem_range.2 hk));have D:=hid (show ∀W,Calls Tryz.prog 45 #[.int .i64 (f 18),.int .i64 0,.int .i64 ((p.IJ.length:Int) - 1)] W fun e w'=>e=.returned (.bool true)∧w'=W from fun W=>(nz (f 18) 0 ((p.IJ.length:Int) - 1) W).mono fun r w' h=>⟨by rw[h.1,s],h.2.symm⟩);have E:=hid (show ∀W,Calls Tryz.prog 45 #[.int .i64 (f 19),.int .i64 0,.int .i64 3] W fun e w'=>e=.returned (.bool true)∧w'=W from fun W=>(nz (f 19) 0 3 W).mono fun r w' h=>⟨by rw[h.1,t],h.2.symm⟩);clear z s t;go_enter Tryz.func140,Tryz.ntmps140
 go_wp2_with fail
 generalize World.alloc _ _=j at*
 go_loopw [9] (fun i wr=>∃k:Nat,k<=8∧i=.int .i64 k∧Hid (j=wr)) (fun i _=>8 - (intOf i).toNat)
 case atStart=>exact⟨0,oA,rfl,hid rfl⟩
 case round=>
  obtain⟨k,hk,rfl,C⟩:=hrel;obtain rfl:=C.out;by_cases y:k<8
  ·have H:=Iy f j k y;have I:(k:Int)<8:=oA;go_wp2_with fail
   refine (gC _ _).mono ?_;rintro r w1 ⟨rfl,rfl⟩;rw[B.out k y];go_wp2_with fail
   exact⟨⟨k+1,oA,by go_num,hid oS⟩,by simp[intOf];omega⟩
  ·obtain rfl:k=8:=oA;go_wp2_with fail
   refine (gC (f 8) _).mono ?_;rintro r w1 ⟨rfl,rfl⟩;rw[u];go_wp2_with fail
   refine (gC (f 15) _).mono ?_;rintro r w1 ⟨rfl,rfl⟩;rw[n];go_wp2_with fail
   refine (gC (f 16) _).mono ?_;rintro r w1 ⟨rfl,rfl⟩;rw[o];go_wp2_with fail
   refine (nz (f 9) 0 6 _).mono ?_;rintro r w1 ⟨rfl,rfl⟩;rw[x];go_wp2_with fail
   refine (nz (f 10) 0 3 _).mono ?_;rintro r w1 ⟨rfl,rfl⟩;rw[l];have A:=hid (fun m=>aG g m);clear u n o x l;go_wp2_with fail
   generalize f 18=aa at*;generalize f 19=ab at*
   go_quiet (first|(go_at_call 45;(with_reducible refine bF (D.out _)))|(go_at_call 45;refine bF (E.out _)))
   have d:=hid (A.out nq);generalize World.drewN _ _=F at d ⊢;go_wp2_with fail
   go_ret
   exact⟨rfl,d.out⟩
theorem uS (vb:Nat) (V:Nat->Value) (p:PW) (n:Nat) (f:Nat->Int) (w:World) (hv:d6 w vb V p) (X:n<p.kinds.length) (Z:p.II.length=p.kinds.length) (U:p.lines.length=p.kinds.length) (e:btB p n p.kinds[n] f=false):
  Calls Tryz.prog 54 #[.pointer (some ⟨vb,0,none⟩),.int .i64 n,.agg (cf 20 f).toArray] w fun r w'=>r=.returned (.bool false)∧Below w.heap.size w w':=by
 have c:=hid (bal (af w.heap.size w) (.cells (cf 20 f).toArray 37));have d:=hid (DP w f 37);have E:=hid (show (Tryz.prog.info? 37).map (·.size)=some (cf 20 f).length by rw[ay];exact gV);have d1:=r11 1 (hv.below c).r;obtain⟨q,b,off,cap,e1,Y,hz⟩:=hv.v.kinds;have hl:(p.kinds.length:Int)<=1000:=by have:=hv.f.kinds;omega
 have ab:(n:Int)<(p.kinds.length:Int):=oA;obtain rfl:=Y oA;have M:=(hz.below c) n X;have g:=hid hv;have G:=hid Z;have F:=hid U;generalize p.kinds[n]=kd at M e ⊢;by_cases m:kd=6
 ·subst m;have x:(nfB p f&&ffB p f&&dbB p n f&&srB p n f&&rrB p n f)=true:=by unfold btB at e;rw[ag rfl] at e;simpa using e
  simp only[am] at x;obtain⟨⟨⟨⟨N,z⟩,O⟩,P⟩,Q⟩:=x;have C:=hid z;have u:=hid (af (w.alloc (.cells (cf 20 f).toArray 37)).heap.size (w.alloc (.cells (cf 20 f).toArray 37)));go_enter Tryz.func54,Tryz.ntmps54
  go_wp2_with (first|((with_reducible refine gld 37 ?_);refine nB oR _ rfl _ rfl f d ?_))
  generalize World.alloc _ _=y at*;refine (pK vb V p f _ (g.below (btr c u)) N).mono ?_;rintro r w1 ⟨rfl,a⟩;have i:=hid (btr u a);clear a;have H:=hid (bf d i);go_wp2_with (first|((with_reducible refine gld 37 ?_);refine nB oR _ rfl _ rfl f H ?_))
  refine (pd vb V p f _ (g.below (btr c i))).mono ?_;rintro r w2 ⟨rfl,a⟩;have j:=hid (btr i a);rw[z];clear a;have I:=hid (bf d j);go_wp2_with (first|((with_reducible refine gld 37 ?_);refine nB oR _ rfl _ rfl f I ?_))
  refine (qt vb V p n f _ (g.below (btr c j)) (xZ G C)).mono ?_;rintro r w3 ⟨rfl,a⟩;have k:=hid (btr j a);rw[O];clear a;have J:=hid (bf d k);go_wp2_with (first|((with_reducible refine gld 37 ?_);refine nB oR _ rfl _ rfl f J ?_))
  refine (nj vb V p n f _ (g.below (btr c k)) F).mono ?_;rintro r w4 ⟨rfl,a⟩;have l:=hid (btr k a);rw[P];clear a;have L:=hid (bf d l);go_wp2_with (first|((with_reducible refine gld 37 ?_);refine nB oR _ rfl _ rfl f L ?_))
  refine (pV vb V p n f _ (g.below (btr c l))).mono ?_;rintro r w5 ⟨rfl,a⟩;have B:=hid (btr l a);rw[Q];clear a;go_wp2_with fail
  go_ret
  exact⟨rfl,btr c B⟩
 ·have aa:(kd !=6)=true:=by simpa using m
  have a:zb f=true:=by unfold btB at e;rw[ae m] at e;simpa using e
  have D:=hid (mo.1 a);go_enter Tryz.func54,Tryz.ntmps54
  go_wp2_with fail
  generalize World.alloc _ _=y at*;have t:=hid (aD y 1);refine wp_region_held_drew (S:=fun W=>W.rangeAt w.heap.size 0 (cf 20 f)) oK (bf d t) (fun o=>?_);have R:=hid o;refine tg 0 (.agg (cf 20 f).toArray) rfl (yieldsIf_load_mid oR _ _ rfl _ _ rfl (cf 20 f) _ (fun _ h=>h) Tryz.underlying37 rfl E) R ?_;simp only[jj];refine wpAnyH_ready (rs:=[1]) oK oS (AllReadyH.cons rfl (fun K T=>?_) AllReadyH.nil);go_simp
  refine (mq _).mono ?_;rintro r w1 ⟨rfl,a⟩;have s:=hid (btr t a);go_wp2_with fail
  refine T _ _ (bf d s) (fun o=>?_);have A:=hid o
  try simp only[Act.put,jD,jE,jF]
  refine tg 2 (.bool false) rfl (Or.inl ⟨oR,fun W _=>wG _ _ _ rfl f bl D rfl rfl W⟩) A ?_;simp only[jj];refine tk 3 (.bool false) rfl A ?_;simp only[jj];refine dw oK ?_ _;go_wp2_with fail
  go_ret
  exact⟨rfl,btr c s⟩
