/- Ubr -/
import Derived.BigQuiet
import Derived.Test.YtnccmdndkmmhcaaGreatDoorRows
import Derived.ChangeSame
import Derived.ChangeVars
import Derived.JoinedOf
import Derived.RowKit
import Derived.RowKitTokens
import Derived.LaidLaws
import Derived.LaidHandle
import Derived.Stop.Joined
import Derived.ProofKit
import Derived.OpenShut
import Derived.Deep.Slices
import Derived.Lib.SmallJoins
import Derived.Test.YtnccmdndkmmhcaaGreatDoorUbq
set_option maxRecDepth 100000
set_option maxHeartbeats 16000000
namespace Go.Proofs.YtnccmdndkmmhcaaGreatDoor
namespace Wd
open Go.RowKit Mem Bw Nums Mmu
theorem Cx (f g:Nat->Int) (d:Nat) (w:World):(Op.equalIn (d+2) 32 (.agg (cf 6 f).toArray) (.agg (cf 6 g).toArray)).run Tryz.prog w=.ok (decide (f 0=g 0∧f 1=g 1∧f 2=g 2∧f 3=g 3∧f 4=g 4∧f 5=g 5)) w:=by
 have c:Tryz.prog.underlying 32=some (.struct (Tryz.prog.fieldsOf 32)):=oK;have e:Tryz.prog.stoodInHeld 32=false:=oK;rw[run_equalIn_struct w (d+1) _ _ _ c e];simp only[Program.fieldsOf,Tryz.underlying32];have hi:∀a b:Int,(Op.equalIn (d+1) 3 (.int .i64 a) (.int .i64 b)).run Tryz.prog w=.ok (a==b) w:=fun a b=>xg d a b w;simp[Op.eqFields,Sem.run_bind,sT,hi];clear hi c e
 (repeat' split)<;>simp_all
theorem Ie {ops:Array Oper} {C:World->Prop} {Q:Act->Prop} {a:Act} {o:Oper} {rest:List Oper} (e:Region.wanted o (yielded ops a.tmps)=true) (v:Value) (d:∀W,C W->(execOp a.eval o).run Tryz.prog W=.ok (.value v) W) (h:wpQuiet Tryz.prog ops C Q rest (a.put o.dst v)):wpQuiet Tryz.prog ops C Q (o::rest) a:=
 BigFrame.wpQuiet_want e fun _ b=>⟨v,fun W c=>by unfold Oper.quietAt;rw[d W c];exact⟨rfl,rfl⟩,b _ h⟩
theorem Ci {ρ:Operand->Value} {o:Oper} (a:TypeId) (x:Operand) (f:o.op=.load a x) (b off:Nat) (h:ρ x=.pointer (some ⟨b,off,none⟩)) (cs:List Value) (d:TypeDesc) (g:Tryz.prog.underlying a=some d) (e:d.isRow=true) (hi:(Tryz.prog.info? a).map (·.size)=some cs.length) {W:World} (c:W.rangeAt b off cs):(execOp ρ o).run Tryz.prog W=.ok (.value (.agg cs.toArray)) W:=by
 unfold execOp;simp only[f,h,Instr.loadAt,Instr.sureAddr,dZ,Sem.run_pure,Result.andThen_ok,run_loadVar_mid W b off a cs d c g e hi]
theorem If {ops:Array Oper} {w:World} {Q:Act->Prop} {a:Act} {o:Oper} {rest:List Oper} (l:Region.wanted o (yielded ops a.tmps)=true) (c:TypeId) (x:Operand) (j:o.op=.load c x) (b off:Nat) (p:a.eval x=.pointer (some ⟨b,off,none⟩)) (n:Nat) (f:Nat->Int) (d:TypeDesc) (k:Tryz.prog.underlying c=some d) (g:d.isRow=true) (hi:(Tryz.prog.info? c).map (·.size)=some n) (e:w.rangeAt b off (cf n f)) (h:wpQuiet Tryz.prog ops (fun w'=>∃n,w'=w.drewN n) Q rest (a.put o.dst (.agg (cf n f).toArray))):wpQuiet Tryz.prog ops (fun w'=>∃n,w'=w.drewN n) Q (o::rest) a:=
 Ie l _ (fun W ⟨m,i⟩=>Ci c x j b off p (cf n f) d k g (by rw[hi,ay]) (by subst i;exact cS e (aG (af _ _) m))) h
end Wd
namespace Wd
open Go.RowKit Mem Bw Nums Mmu Hex Mad
def Bks (W:World) (l:List (Nat×(Nat->Value)×PW)):Prop:=∀x∈l,W.rangeAt x.1 0 (de x.2.1).toList∧eu W x.2.1 x.2.2
theorem Bks.below {W a:World} {l:List (Nat×(Nat->Value)×PW)} (h:Bks W l) (b:Below W.heap.size W a):Bks a l:=fun x c=>⟨bf (h x c).1 b,(h x c).2.below b⟩
theorem Bks.cons {W:World} {l:List (Nat×(Nat->Value)×PW)} (h:Bks W l) {b:Nat} {X:Nat->Value} {p:PW} (r:W.rangeAt b 0 (de X).toList) (v:eu W X p):Bks W ((b,X,p)::l):=fun x a=>by
 rcases bK.1 a with rfl|a
 ·exact⟨r,v⟩
 ·exact h x a
theorem Bks.one {W:World} {b:Nat} {X:Nat->Value} {p:PW} (r:W.rangeAt b 0 (de X).toList) (v:eu W X p):Bks W [(b,X,p)]:=Bks.cons (fun _ h=>by cases h) r v
def eq6 (f g:Nat->Int):Bool:=decide (f 0=g 0∧f 1=g 1∧f 2=g 2∧f 3=g 3∧f 4=g 4∧f 5=g 5)
theorem Ez {f g:Nat->Int} (h:∀k,k<6->f k=g k):eq6 f g=true:=az ⟨h 0 oD,h 1 oD,h 2 oD,h 3 oD,h 4 oD,h 5 oD⟩
theorem zq {ρ:Operand->Value} {o:Oper} (x y:Operand) (i:TypeId) (d:o.op=.binOp .neq 32 x y i) (f g:Nat->Int) (e:ρ x=.agg (cf 6 f).toArray) (h:ρ y=.agg (cf 6 g).toArray) (a:eq6 f g=true) (W:World):(execOp ρ o).run Tryz.prog W=.ok (.value (.bool false)) W:=by
 have b:Tryz.prog.eqGuardType Tryz.prog.depth 32=false:=oK;have c:(binOp .neq 32 (.agg (cf 6 f).toArray) (.agg (cf 6 g).toArray)).run Tryz.prog W=.ok (.bool false) W:=by
  unfold eq6 at a;rw[run_neq_struct,Cx f g 9998,a];rfl
 unfold execOp;simp only[d,e,h,dZ,run_eqGuard_agg (P:=Tryz.prog) W .neq 32 x y (cf 6 f).toArray (cf 6 g).toArray b,c,Result.andThen_ok,Sem.run_pure]
theorem EW {q:PW} {n:Nat} (hl:n<q.IH.length) (h:q.s n 0≠0):fh q n=0:=by
 unfold fh;rw[pY hl,ag rfl,ah,jl hl,ae h]
theorem GU {x:Int} {l:List Int} (h:x∈l):inB x l=true:=az (AO h)
theorem zY (S:List (Nat->Int)) (t n:Nat) (h:n<=1000):(mdL S t n).length<=1000:=by
 unfold mdL;rw[bL];exact aB (cW _ _) (by rw[List.length_range];exact h)
theorem uM {p:PW} (h:Lv p) (V:Nat->Value) (w:World) (hv:eu w V p) (a:Nat):Calls Tryz.prog 28 #[.agg (de V),.int .i64 a] w fun x w'=>∃v,x=.returned (.tuple #[v,eV (fh p a)])∧ed w' v (unL p a)∧Below w.heap.size w w':=
 (tx V p a w hv h.w.fits h.s0).mono fun x w' ⟨v,e,k⟩=>⟨v,by rw[e];unfold dE;rw[ag h.s0],k⟩
theorem FU {p:PW} (h:Lv p) (V:Nat->Value) (w:World) (hv:eu w V p) (a:Nat):Calls Tryz.prog 17 #[.agg (de V),.int .i64 a] w fun x w'=>∃X q,x=.returned (.tuple #[.agg (de X),eV (fh p a)])∧eu w' X q∧(fh p a=0->q=j6 p a)∧Below w.heap.size w w':=
 (rU V p a w hv h.w.fits h.s0).mono fun x w' ⟨X,e,f,b⟩=>⟨X,_,by rw[e];unfold dE;rw[ag h.s0],f.v0,fun z=>by unfold dP dE;rw[ag h.s0,ag z],b⟩
theorem p6 (v:Value) (rs:List Int) (V F sl:Int) (w:World) (hv:oN w v rs) (h0: -9223372036854775808<=V) (h1:V<=9223372036854775807) (d0: -9223372036854775808<=F) (d1:F<=9223372036854775807) (aM: -9223372036854775808<=sl) (aN:sl<=9223372036854775807) (hk:KnW w):
  Calls Tryz.prog 6 #[v,.int .i64 V,.int .i64 F,.int .i64 sl] w fun r w'=>r=.returned (.bool true)∧Below w.heap.size w w':=by
 have HV:=hid hv;have HK:=hid hk;obtain⟨q,b,off,cap,ev,hq,hi,y⟩:=hv;subst ev;by_cases hr:256<rs.length
 ·have aK:(256:Int)<(rs.length:Int):=oA;go_enter Tryz.func6,Tryz.ntmps6
  go_wp2_with fail
  go_ret
  exact⟨rfl,af _ _⟩
 have aK:¬(256:Int)<(rs.length:Int):=oA;have PK:=hid (fun W:World=>eh F 14 W d0 d1 oD);have O:=hid (cG F 14 oD);have an:=hid (fun W:World=>eh sl 60 W aM aN oD);have ac:=hid (cG sl 60 oD);generalize fP F 14=dq at PK O;obtain⟨dn,rfl⟩:∃u:Nat,dq=u:=⟨dq.toNat,by have:=O.out;omega⟩
 generalize fP sl 60=ao at an ac;obtain⟨n0,rfl⟩:∃u:Nat,ao=u:=⟨ao.toNat,by have:=ac.out;omega⟩
 have a5:(n0:Int)<60:=by have:=ac.out;omega
 have LL:=hid (zP (.slice q rs.length cap) rs V dn 18 w HV oA h0 h1 (by have:=O.out;omega) oD oD HK);go_enter Tryz.func6,Tryz.ntmps6
 go_wp2_with fail
 refine (PK.out _).mono ?_;rintro r w' ⟨rfl,rfl⟩;go_wp2_with fail
 refine LL.mono ?_;rintro r w3 ⟨X,rest⟩;obtain⟨p,rfl,wx,hl,S,ap⟩:∃p,r=.returned (.agg (de X))∧eu w3 X p∧Lv p∧Hid ((de X).all (·.oneCell')=true)∧Below w.heap.size w w3:=by
  obtain⟨tag,p,I⟩:=rest;exact⟨p,I.1,I.2.1.v I.2.2.1.w.I8,I.2.2.1,hid I.2.1.Ji,I.2.2.2.2⟩
 have d:=hid hl;have B1:=hid ap;have T7:=hid (aP w3 zW 28 w3.heap.size 11 rfl oD);have l:=hid (vV wx);go_upto_region 4 with ((with_reducible refine gst 28 ?_);refine wpList_store_mid rfl 28 _ _ rfl w3.heap.size 0 (de X) rfl rfl T7 fA S ?_)
 have c:=hid (Bks.one l.2.1 l.2.2.2);have g:=hid (btr B1 l.1);generalize World.setCells _ _ _ _=w2 at c g ⊢;clear T7 l B1 PK O ap wx hl;generalize w3.heap.size=b7 at*;have x:=hid (show (b7,X,p)∈[(b7,X,p)] from cD ..);have CU:=hid (uM d X w2 (c.out _ x).2 n0);go_wp2_with fail
 refine (an.out _).mono ?_;rintro r w' ⟨rfl,rfl⟩;go_upto_region 5 with fail
 go_wp2_with ((with_reducible refine gld 28 ?_);refine ja rfl _ rfl b7 rfl X (c.out _ x).1 ?_)
 refine CU.mono ?_;rintro r wu ⟨vl,rfl,ax,ad⟩;have D:=hid ax;replace c:=hid (c.below ad);replace g:=hid (btr g ad);clear ad CU ax;go_upto_region 6 with fail
 have CA:=hid (FU d X wu (c.out _ x).2 n0);go_wp2_with ((with_reducible refine gld 28 ?_);refine ja rfl _ rfl b7 rfl X (c.out _ x).1 ?_)
 refine CA.mono ?_;rintro r U ⟨Y,q,rfl,hy,hq,Q⟩;have HQ:=hid hq;have O8:=hid hy.Ji;have l:=hid (vV hy);have T8:=hid (aP U zW 28 U.heap.size 11 rfl oD);replace c:=hid ((c.below Q).below l.1);replace g:=hid (btr (btr g Q) l.1);replace D:=hid ((D.below Q).below l.1);have A:=hid l.2.1;have C:=hid l.2.2.2;go_upto_region 7 with ((with_reducible refine gst 28 ?_);refine wpList_store_mid rfl 28 _ _ rfl U.heap.size 0 (de Y) rfl rfl T8 fA O8 ?_)
 generalize World.setCells _ _ _ _=T at c g A C D ⊢;clear T8 l O8 CA Q hy hq;generalize U.heap.size=b8 at*;by_cases K:fh p n0=0
 rotate_left
 ·rw[Gf K];have OK:=hid (F6 X p T (c.out _ x).2 d.w.fits d.s0 (by have:=d.w.m.tk.lf.k1;omega));have B:=hid (show T.rangeAt b7 0 (de X).toList from (c.out _ x).1);go_wp2_with (first|go_skip|go_big_skip|((with_reducible refine gld 28 ?_);refine gg oR _ rfl b7 rfl X B ?_))
  refine OK.mono ?_;rintro r wc ⟨rfl,y⟩;have Z:=hid (btr g y);go_wp2_with fail
  go_ret
  exact⟨rfl,Z.out⟩
 obtain rfl:=HQ.out K;have ab:=hid K;rw[K,Ex];clear HQ;have P:=hid (d.Ju n0);have E:=hid P.w;have LK:=hid (Dz X Y p (j6 p n0) T (c.out _ x).2 C E.w.fits E.s0 (by have:=E.w.m.tk.lf.k1;omega) P.k (P.co d));have B:=hid (show T.rangeAt b7 0 (de X).toList from (c.out _ x).1);go_wp2_with (first|go_skip|go_big_skip|((with_reducible refine gld 28 ?_);first|refine gg oR _ rfl b7 rfl X B ?_|refine gg oR _ rfl b8 rfl Y A ?_))
 refine LK.mono ?_;rintro r o ⟨rfl,y⟩;replace g:=hid (btr g y);replace A:=hid (bf A y);replace B:=hid (bf B y);replace C:=hid (C.below y);replace D:=hid (D.below y);have V7:=hid (show eu o X p from (c.out _ x).2.below y);clear y c x LK K;have QK:=hid P.k;have J:=hid (Aq d.w d.t ab);have QH:=hid (EW (q:=j6 p n0) (n:=n0));have aD:=hid d.w.m.tk.lf.IH;have aO:=hid d.w.fits;have UN:=hid (show unL p n0=mdL p.IH n0 p.IH.length by unfold unL;rw[ag ⟨d.s0,ab.out⟩,ah]);have UQ:=hid (show fh (j6 p n0) n0=0->unL (j6 p n0) n0=mdL (j6 p n0).IH n0 (j6 p n0).IH.length from fun h=>by unfold unL;rw[ag ⟨E.s0,h⟩,ah]);obtain⟨nn,aZ,aY,_⟩:=wX ab;obtain rfl:n0=nn:=oA;generalize j6 p n0=q at*;have lf:=E.w.m.tk.lf;have aU:=lf.k1;have aV:=lf.k2;have a4:=lf.IH;have a7:=aD.out;have qk:=QK.out;obtain⟨q1,b1,S,k1,e1,av,aB⟩:=C.kinds;obtain rfl:=av oA;obtain⟨q2,b2,o2,k2,e2,aw,H⟩:=C.IH;obtain rfl:=aw oA;obtain⟨p1,a1,s1,m1,f1,aq,az⟩:=V7.kinds;obtain rfl:=aq oA;obtain⟨p2,a2,s2,m2,f2,au,aA⟩:=V7.IH;obtain rfl:=au oA;have C1:=hid (show o.cell? ⟨b8,1,none⟩=some (.slice (some ⟨b1,S,none⟩) q.kinds.length k1) by rw[<-e1];exact ai A (k:=1) rfl);have C2:=hid (show o.cell? ⟨b8,2,none⟩=some (.slice (some ⟨b2,o2,none⟩) q.IH.length k2) by rw[<-e2];exact ai A (k:=2) rfl);have D1:=hid (show o.cell? ⟨b7,1,none⟩=some (.slice (some ⟨a1,s1,none⟩) p.kinds.length m1) by rw[<-f1];exact ai B (k:=1) rfl);have D2:=hid (show o.cell? ⟨b7,2,none⟩=some (.slice (some ⟨a2,s2,none⟩) p.IH.length m2) by rw[<-f2];exact ai B (k:=2) rfl);have Z1:=hid (show ∀f,f<q.kinds.length->o.cell? ⟨b1,S+f,none⟩=some (.int .i64 (q.k f)) from fun f L=>by rw[<-vK L];exact aB f L);have Y1:=hid (show ∀f,f<p.kinds.length->o.cell? ⟨a1,s1+f,none⟩=some (.int .i64 (p.k f)) from fun f L=>by rw[<-vK L];exact az f L);have Z2:=hid (show ∀n,n<q.IH.length->o.rangeAt b2 (o2+n*7) (cf 7 (q.s n)) from fun n G=>by rw[<-tb G];exact H n G);have Y2:=hid (show ∀n,n<p.IH.length->o.rangeAt a2 (s2+n*7) (cf 7 (p.s n)) from fun n G=>by rw[<-tb G];exact aA n G);clear aB H az aA e1 e2 f1 f2 av aw aq au lf;have kl:(q.kinds.length:Int)<=1000:=oA;have a9:(q.IH.length:Int)<=1000:=oA;have a6:(p.kinds.length:Int)<=1000:=oA;have a8:(p.IH.length:Int)<=1000:=oA;have a3:(n0:Int)<(q.IH.length:Int):=oA;have aW:(0:Int)<=(n0:Int):=oA;have c2:=C2.out;have z0:=cC (Z2.out n0 oA) (dk 7 (q.s n0) 0 oD);rw[bu] at z0;by_cases R:q.s n0 0=0
 ·have H:(q.s n0 0==0)=true:=by simpa using R
  generalize q.s n0 0=x0 at z0 H;go_wp2_with fail
  go_ret
  exact⟨rfl,g.out⟩
 have H:(q.s n0 0==0)=false:=by simpa using R
 have HZ:=hid R;clear R;generalize aL:q.s n0 0=x0 at z0 H;clear aL;replace J:=hid (J.out HZ);have UE:=hid (UQ.out (QH.out oA HZ));rw[J.2.2.1] at UE;go_wp2_with fail
 go_loopw [14] (fun i wr=>∃n:Nat,n<=q.IH.length∧i=.int .i64 (n:Int)∧Hid (Below o.heap.size o wr)) (fun i _=>q.IH.length - (intOf i).toNat)
 case atStart=>exact⟨0,oA,rfl,hid (af _ _)⟩
 case round=>
  obtain⟨n,G,rfl,a⟩:=hrel;have c2:=cu a C2;by_cases aI:n<q.IH.length
  rotate_left
  ·obtain rfl:n=q.IH.length:=oA;have aQ:¬((q.IH.length:Int)<(q.IH.length:Int)):=oA;have CV:=hid (uM E Y wr (C.below a) n0);have RY:=hid (bf A a);have E0:=hid (QH.out oA HZ);go_wp2_with ((with_reducible refine gld 28 ?_);refine ja rfl _ rfl b8 rfl Y RY ?_)
   refine CV.mono ?_;rintro r wv ⟨vm,rfl,ay,aE⟩;rw[UE.out] at ay;obtain⟨qm,bm,om,km,rfl,_,_⟩:=ay;rw[E0.out,Ex];have Z:=hid (btr (btr g a) aE);go_wp2_with (first|go_skip|go_big_skip)
   exact ar (v:=.bool true) (by simp[results,Tryz.results6,go_sem]) rfl ⟨rfl,Z.out⟩
  have aX:(n:Int)<(q.IH.length:Int):=oA;have aJ:(0:Int)<=(n:Int):=oA;have e:=hid aI;have N:=hid (AV vl (unL p n0) n wr (D.below a) (by rw[UN.out];exact zY _ _ _ oA));rw[UN.out] at N;go_wp2_with fail
  refine N.mono ?_;rintro r w' ⟨rfl,rfl⟩
  cases hin:inB n (mdL p.IH n0 p.IH.length) with
  |true=>
   have z:=cC (cS (Z2.out n e) a) (dk 7 (q.s n) 0 oD);rw[bu,J.1 n (xe hin)] at z;clear N hin;go_wp2_with fail
   exact⟨⟨n+1,by have:=e.out;omega,by go_num,a⟩,by simp[intOf];have:=e.out;omega⟩
  |false=>
   have am:=hid (J.2.1 n (by have:=e.out;omega) (fun h=>by rw[GU h] at hin;cases hin));obtain⟨j,hj⟩:∃j:Nat,n/16=j:=⟨_,rfl⟩
   have hd:(n:Int).tdiv 16=(j:Int):=by rw[bR aJ];omega
   have aH:j<q.kinds.length:=by have:=e.out;omega
   have aF:j<p.kinds.length:=by have:=e.out;omega
   have aT:(j:Int)<(q.kinds.length:Int):=oA;have aS:(j:Int)<(p.kinds.length:Int):=oA;have aR:(0:Int)<=(j:Int):=oA;have a0:(n:Int)<(p.IH.length:Int):=oA;have y1:=cu a (Y1.out j aF);have z1:=cu a (Z1.out j aH);have c1:=cu a C1;have d1:=cu a D1;have d2:=cu a D2;have XQ:=hid (oG (cS (Z2.out n e) a));have XP:=hid (oG (cS (Y2.out n (by have:=e.out;omega)) a));rw[hj] at am;clear N hin hj;go_upto_region 19 with fail
   by_cases ae:q.k j=p.k j
   ·have aC:=hid (show eq6 (q.s n) (p.s n)=true from Ez (am.out ae));have M:(p.k j==q.k j)=true:=bz.2 ae.symm;generalize p.k j=u1 at y1 M;generalize q.k j=u2 at z1 M;refine bj oK oK ?_
    repeat (first|go_big_quiet_skip|((with_reducible (show wpQuiet _ _ _ _ (⟨_,Op.load 32 _,_,_,_,_⟩::_) _));refine If oR _ _ rfl b2 (o2+n*7) rfl 6 (q.s n) _ Tryz.underlying32 rfl mM XQ ?_;simp only[Act.put,jD,List.set_cons_zero,List.set_cons_succ])|((with_reducible (show wpQuiet _ _ _ _ (⟨_,Op.load 32 _,_,_,_,_⟩::_) _));refine If oR _ _ rfl a2 (s2+n*7) rfl 6 (p.s n) _ Tryz.underlying32 rfl mM XP ?_;simp only[Act.put,jD,List.set_cons_zero,List.set_cons_succ])|((with_reducible (show wpQuiet _ _ _ _ (⟨_,Op.binOp .neq 32 _ _ _,_,_,_,_⟩::_) _));refine Ie oR (.bool false) (fun W _=>zq _ _ _ rfl _ _ rfl rfl aC W) ?_;simp only[Act.put,jD,List.set_cons_zero,List.set_cons_succ])|(go_big_quiet_want;go_big_quiet_op;first|go_big_quiet_on|go_big_quiet_call (fail)))
    refine cJ ?_;intro _ aj;obtain⟨nq,al⟩:=aj;subst al;have aa:=hid (aG a nq);clear XQ XP a;go_wp2_with fail
    exact⟨⟨n+1,by have:=e.out;omega,by go_num,aa⟩,by simp[intOf];have:=e.out;omega⟩
   ·have M:(p.k j==q.k j)=false:=by simpa using fun h=>ae h.symm
    generalize p.k j=u1 at y1 M;generalize q.k j=u2 at z1 M;refine bj oK oK ?_
    repeat (first|go_big_quiet_skip|(go_big_quiet_want;go_big_quiet_op;first|go_big_quiet_on|go_big_quiet_call (fail)))
    refine cJ ?_;intro _ aj;obtain⟨nq,al⟩:=aj;subst al;have aa:=hid (aG a nq);clear XQ XP a;go_wp2_with fail
    exact⟨⟨n+1,by have:=e.out;omega,by go_num,aa⟩,by simp[intOf];have:=e.out;omega⟩
end Wd
open Go.ChangeShapes Go.WideShapes Go.RowKit
theorem own:ownKnob Tryz.prog.godebug=none:=by kernel_rfl
theorem py:laidOutB Tryz.prog=true:=by kernel_rfl
namespace Wd
open Go.ChangeShapes Go.WideShapes Go.RowKit Go.Deep Go.Joins Mem Nums Hex
theorem vA {P:Program} {W:World} {r:Reach} {base:Nat} {t e:TypeId} {a:Addr} {len cap:Nat} (b:P.underlying t=some (.slice e)) (h:Value.okWide P W r base t (.slice (some a) len cap)):a.spot=none:=by
 simp only[Value.okWide,b,Cell.okWide,Cell.ok] at h;exact h.2.2.2.1
theorem Ac {P:Program} {w:World} {base:Nat} {spare:Nat->Bool} {held:Bool} {H:Type} {enc:TypeId×Value->H} {u:TypeId} {fuel:Nat} {a:Addr} {cs:List Value} {x:DataW H×List MemPlace} (e:P.underlying u=some (.int .i64))
  (c:w.cells? base a 1=some cs) (h:DataW.trod enc P w base spare held fuel u cs=some x):∃q:Int,w.cell? (a.add 0)=some (.int .i64 q)∧ -9223372036854775808<=q∧q<=9223372036854775807:=by
 obtain⟨_,hl,d⟩:=World.cells?_some c
 match cs,hl with
 |[c0],_=>
  obtain⟨n0,b,_,f⟩:=DataW.trod_int e h;simp at b;subst b;refine⟨n0,d 0 oA,?_⟩;simp[Lit.wf,IntKind.min,IntKind.max,IntKind.signed,IntKind.bits] at f;omega
theorem xX {H:Type} {enc:TypeId×Value->H} {W:World} {r:Reach} {base:Nat} {v:Value} {d:DataW H} {p:List MemPlace}
  (hv:Value.okWide Tryz.prog W r base 22 v) (h:DataW.Trod enc Tryz.prog W 0 (fun _=>true) true 22 v d p):
  ∃zs:List Int,oN W v zs∧zs.length<=maxLen:=by
 obtain⟨a0,len,cap,rfl⟩:=okWide_slice Tryz.underlying22 hv;obtain⟨fuel,x⟩:=h;rcases open_slice Tryz.underlying22 x with ⟨b,_⟩|⟨a,J,E,m,n,D,B,b,_,hl,G,A,_,w⟩
 ·simp[Value.cells] at b;obtain⟨rfl,rfl,rfl⟩:=b;exact⟨[],⟨none,0,0,0,rfl,fun h=>by simp at h,fun j c=>by simp at c,fun z k=>by simp at k⟩,oS⟩
 ·simp[Value.cells] at b;obtain⟨rfl,rfl,rfl⟩:=b;have s:=vA Tryz.underlying22 hv;obtain⟨f,g,C⟩:=a;simp at s;subst s;have I:len<=m:=by rw[A];split<;>omega
  obtain⟨q,o⟩:=choose_lt (α:=Int) (n:=len) (p:=fun i q=>W.cell? ⟨f,g+i,none⟩=some (.int .i64 q)∧ -9223372036854775808<=q∧q<=9223372036854775807) (fun i hi=>by
   obtain⟨F,l,u⟩:=w i oA;rw[Ej] at l;obtain⟨q,t,k1⟩:=Ac Tryz.underlying3 l u;simp only[nO,Nat.mul_one,bu] at t;exact⟨q,t,k1⟩)
  refine⟨(List.range len).map q,⟨some ⟨f,g,none⟩,f,g,cap,oS,fun _=>rfl,fun j c=>?_,fun z k=>?_⟩,by simp;omega⟩
  ·have y:j<len:=by simpa using c
   have e:((List.range len).map q)[j]=q j:=oS;rw[e];exact (o j y).1
  ·obtain⟨j,c,rfl⟩:=List.mem_map.1 k;exact (o j (List.mem_range.1 c)).2
theorem vz {H:Type} {enc:TypeId×Value->H} {P:Program} {w:World} {base:Nat} {spare:Nat->Bool} {held:Bool} {t e:TypeId} {fuel:Nat} {cs:List Value} {L:List (List UInt8)} {p:List MemPlace} (C:P.underlying t=some (.slice e)) (y:P.underlying e=some .string) (v:P.cellsOf e=1)
  (h:DataW.trod enc P w base spare held fuel t cs=some (.slice (L.map fun l=>.lit (.string l)) [],p)) (F:0<L.length):
  ∃b o c,cs=[.slice (some ⟨b,o,none⟩) L.length c]∧∀k (hk:k<L.length),w.cell? ⟨b,o+k,none⟩=some (.string ⟨L[k].toArray⟩):=by
 rcases open_slice1 C v h with ⟨_,d⟩|⟨a,len,cap,m,n,V,D,E,x,_,hl,_,A,d,i⟩
 ·simp at d
 ·simp only[Prod.mk.injEq,DataW.slice.injEq] at d;have z:len=L.length:=by have:=dF List.length d.1.1;simpa using this.symm
  subst z;have G:L.length<=m:=by rw[A];split<;>omega
  obtain⟨j,q,r⟩:=a;have B:r=none:=by
   have:=(i 0 oA).1;have:=World.cell?_spot this;simpa [Addr.add] using this
  subst B;refine⟨j,q,cap,x,fun k hk=>?_⟩;obtain⟨f,u⟩:=i k oA;obtain⟨s,e1,e2,_⟩:=DataW.trod_string y u;have g:=dF (·[k]?) d.1.1;simp only[db,ac hk,List.getElem?_range hk,Option.map_some,bJ] at g;simp only[Prod.mk.injEq] at e2;rw[<-g] at e2;simp at e1 e2;rw[e1] at f;have e4:(⟨L[k].toArray⟩:ByteArray)=s:=by rw[e2.1]
  rw[e4, <-nO];exact f
theorem knG:Tryz.prog.globalNamed "keyhold/keyholdref.kindNames"=some 1:=oK
theorem knT:(Tryz.prog.globals[1]?).map (·.type)=some 150:=oK
theorem IF:Tryz.prog.cellsOf 9=1:=oK
theorem GY {W:World} {g t:Nat} {cs:Array Value} {fuel:Nat} {p:List MemPlace} (h:Tryz.prog.globalNamed "keyhold/keyholdref.kindNames"=some g) (i:(Tryz.prog.globals[g]?).map (·.type)=some t) (hv:W.var? Tryz.prog "keyhold/keyholdref.kindNames"=some cs)
  (a:DataW.trod (fun _=>()) Tryz.prog W 0 (fun _=>true) false fuel t cs.toList=some (Rows.laid_keyhold_keyholdref_kindNames,p)):KnW W:=by
 obtain rfl:=aK (knG.symm.trans h);obtain rfl:=aK (knT.symm.trans i);have e:(Rows.laid_keyhold_keyholdref_kindNames:DataW Unit)=.slice ((knB.map fun x=>x.data.toList).map fun l=>.lit (.string l)) []:=rfl;rw[e] at a;obtain⟨b,o,c,d,f⟩:=vz Tryz.underlying150 Tryz.underlying9 IF a oD;refine⟨b,o,c,?_,fun k hk=>?_⟩
 ·rw[World.var?_cell knG hv 0];have:=dF (·[0]?) d;rw[show (knB.map fun x=>x.data.toList).length=7 from rfl] at this;simpa using this
 ·have:=f k (by rw[bL];exact hk);rw[this];simp
