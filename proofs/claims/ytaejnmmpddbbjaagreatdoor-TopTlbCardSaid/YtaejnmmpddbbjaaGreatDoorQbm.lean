/- Qbm -/
import Derived.BigQuiet
import Derived.Test.YtaejnmmpddbbjaaGreatDoorQbg
set_option maxRecDepth 100000
set_option maxHeartbeats 16000000
namespace Go.Proofs.YtaejnmmpddbbjaaGreatDoor
namespace Wd
open Go.RowKit Mem Bw Nums Mmu
def Rm (p q:PW):Prop:=Sm p q∧∃X R,q={p with D9:=X,Eb:=R}
theorem Rm.refl {p:PW} (h:Lv p):Rm p p:=⟨Sm.refl h,_,_,rfl⟩
theorem Rm.trans {p q r:PW} (h:Rm p q) (g:Rm q r):Rm p r:=by
 obtain⟨a,X,R,rfl⟩:=h;obtain⟨b,Y,T,rfl⟩:=g;exact⟨a.trans b,Y,T,rfl⟩
def Tb (p:PW) (wb:Nat) (tag:Nat->Nat) (V:Nat->Value) (W W':World):Prop:=∃tag' q,Kt tag tag' W W'∧cb W' wb tag' V q∧Rm p q
theorem cb.FE {W:World} {wb:Nat} {tag:Nat->Nat} {V:Nat->Value} {p:PW} (bt:cb W wb tag V p) (h:Lv p):nQ W (V 0) p.Eb:=
 ⟨de bt.o.Eb.1,fun z a=>by have:=h.w.m.Eb.w z a;omega,by have:=h.w.m.tk.lf.Eb;have:=h.w.m.tk.lf.k2;omega⟩
theorem Lv.FF {p:PW} (h:Lv p) {c:Nat} (a:c<p.D9.length):TlO p (p.D9.getD c []):=h.w.tl _ (by rw[aa,ac a];exact aw a)
theorem cb.Fq {W W1:World} {wb:Nat} {tag:Nat->Nat} {V:Nat->Value} {p:PW} (bt:cb W wb tag V p) {g c:Nat} (e:V 8=.slice (some ⟨g,0,none⟩) p.D9.length p.D9.length) (d:c<p.D9.length) (a:Below W.heap.size W W1) {v u:Value} {l:List Ent}
  (A:W.cell? ⟨g,c,none⟩=some v) (z:u=v∧l=p.D9.getD c []∨fh W.heap.size W1 u l):
  ∃tag',cb (W1.setCell ⟨g,c,none⟩ u) wb tag' V {p with D9:=p.D9.set c l}∧Kt tag tag' W (W1.setCell ⟨g,c,none⟩ u):=by
 have LT:jN W tag p.D9.length (.slice (some ⟨g,0,none⟩) p.D9.length p.D9.length) p.D9:=by rw[<-e];exact bt.o.D9
 obtain⟨v',B,w⟩:=LT.at d;obtain rfl:v=v':=aH (A.symm.trans B);have C:Kp (fun b=>tag b=14+3*c) W W1:=.Ed a;have t:InE W1 (gy tag W.heap.size (14+3*c)) (14+3*c) u l:=by
  rcases z with ⟨rfl,rfl⟩|⟨q,b,off,cap,j,m,n,r,D,s⟩
  ·exact w.kp (T:=fun _=>False) (.Ed a) (fun k hk=>cV hk) (fun _ _=>id)
  ·obtain⟨h,rfl⟩:=m;exact .inr ⟨b,off,cap,j,n,by unfold gy;rw[ae oA],h,r,s⟩
 obtain⟨y,f⟩:=LT.put d rfl C (fun b a=>cV a) t;refine⟨_,bt.D9 f (fun b a=>cV a) (by rw[au,e];exact y),.of f (fun b x=>by rcases x with x|⟨i,x⟩<;>omega) (fun b a=>cV a)⟩
end Wd
namespace Rf
section
variable {P : Program} {ops : Array Oper} {Q : Exit -> Act -> World -> Prop} {md : Region.Mode} {S R : World -> Prop} {fs : List Nat}
theorem iv (e:Region.noSelect ops=true) (w:World) (d:S w) (c:R w):∀(is:List Nat) (fuel:Nat) (b:Array Bool) (a:Act),tkS md ops fs is b=true->
  rd P ops Q S (fun f=>dP P md ops Q S R fs fuel (BW b is) f w) is a->dP P md ops Q S R fs (fuel+is.length) b a w
 |[],_,_,_,_,h=>h
 |i::r,fuel,b,a,hb,h=>by
  unfold tkS at hb;simp only[al,dh] at hb;obtain⟨⟨g,j,k⟩,l⟩:=hb;unfold rd at h
  cases ho:ops[i]? with
  |none=>rw[ho] at h;exact h.elim
  |some o=>
   rw[ho] at h;obtain⟨v,p,m,n⟩:=h;exact gP ho e g j k m p d (fun _=>c) (iv e w d c r fuel (b.setIfInBounds i true) (a.put o.dst v) l n)
theorem _root_.Go.Proofs.YtaejnmmpddbbjaaGreatDoor.bD:type_of% @iv:= @iv
end
end Rf
namespace Wd
open Go.RowKit Mem Bw Nums Mmu
def StR (b2 b3 b4 wb g0 n0 k0 g8 n8 gt nt kt c t:Nat) (v:Value) (s:Int) (W:World):Prop:=
 W.cell? ⟨b2,0,none⟩=some (.pointer (some ⟨wb,0,none⟩))∧W.cell? ⟨b3,0,none⟩=some (.int .i64 (c:Int))∧W.cell? ⟨b4,0,none⟩=some (.int .i64 (t:Int))∧W.cell? ⟨wb,0,none⟩=some (.slice (some ⟨g0,0,none⟩) n0 k0)∧W.cell? ⟨wb,8,none⟩=some (.slice (some ⟨g8,0,none⟩) n8 n8)∧W.cell? ⟨wb,3,none⟩=some (.slice (some ⟨gt,0,none⟩) nt kt)∧W.cell? ⟨g8,c,none⟩=some v∧W.cell? ⟨gt,t*20+12,none⟩=some (.int .i64 s)
theorem cu {b W:World} (h:Below b.heap.size b W) {a:Addr} {v:Value} (e:b.cell? a=some v):W.cell? a=some v:=(h.cell (aj _ _ e)).trans e
theorem StR.below {b2 b3 b4 wb b n0 f d g e nt kt c t:Nat} {v:Value} {s:Int} {W W':World} (h:StR b2 b3 b4 wb b n0 f d g e nt kt c t v s W) (a:Below W.heap.size W W'):StR b2 b3 b4 wb b n0 f d g e nt kt c t v s W':=by
 obtain⟨i,j,k,l,m,n,o,p⟩:=h;exact⟨cu a i,cu a j,cu a k,cu a l,cu a m,cu a n,cu a o,cu a p⟩
theorem DN {wb:Nat} {tag:Nat->Nat} {V:Nat->Value} {p:PW} {W:World} (bt:cb W wb tag V p) (l:Lv p) {b2 b3 b4 c t:Nat} (j:c<p.D9.length) (q:t<p.kinds.length) (cs:kD [(b2,ptr wb),(b3,.int .i64 (c:Int)),(b4,.int .i64 (t:Int))] tag W):
  ∃a e b d kt v,V 0=.slice (some ⟨a,0,none⟩) p.Eb.length e∧V 8=.slice (some ⟨b,0,none⟩) p.D9.length p.D9.length∧V 3=.slice (some ⟨d,0,none⟩) p.DY.length kt∧InE W tag (14+3*c) v (p.D9.getD c [])∧StR b2 b3 b4 wb a p.Eb.length e b p.D9.length d p.DY.length kt c t v (p.t t 12) W:=by
 have lf:=l.w.m.tk.lf;obtain⟨a,e,i⟩:∃g cap,V 0=.slice (some ⟨g,0,none⟩) p.Eb.length cap:=bt.o.Eb.form (by have:=lf.Eb;show 0<p.Eb.length;omega)
 obtain⟨d,kt,f⟩:∃g cap,V 3=.slice (some ⟨g,0,none⟩) p.DY.length cap:=bt.o.DY.form (by have:=lf.DY;show 0<p.DY.length;omega)
 obtain⟨b,e8⟩:=bt.o.D9.form;have h:=bt.o.D9;rw[e8] at h;obtain⟨v,n,k⟩:=h.at j;refine⟨a,e,b,d,kt,v,i,e8,f,k,(cs (b2,ptr wb) oS).1,(cs (b3,.int .i64 (c:Int)) oS).1,(cs (b4,.int .i64 (t:Int)) oS).1,?_,?_,?_,n,bt.Ec f (by have:=lf.DY;omega) oD⟩
 ·rw[<-i];exact ah bt.r rfl
 ·rw[<-e8];exact ah bt.r rfl
 ·rw[<-f];exact ah bt.r rfl
theorem fh.below {B:Nat} {w w':World} {v:Value} {l:List Ent} (h:fh B w v l) (i:Below w.heap.size w w'):fh B w' v l:=by
 obtain⟨q,b,off,cap,a,c,d,e,f,g⟩:=h;exact⟨q,b,off,cap,a,c,d.below i,e,f,g⟩
theorem zc (wb:Nat) (tag:Nat->Nat) (V:Nat->Value) (p:PW) (b2 b3 b4 c t:Nat) (a:Int) (w:World) (bt:cb w wb tag V p) (j:Lv p) (J:c<p.D9.length) (h6:p.k t=6) (cs:kD [(b2,ptr wb),(b3,.int .i64 (c:Int)),(b4,.int .i64 (t:Int))] tag w):
  Calls Tryz.prog 45 #[.int .i64 a,ptr b2,ptr b3,ptr b4] w fun r w'=>∃(v:Int) (ok:Bool),r=.returned (.tuple #[.int .i64 v,.bool ok])∧(0<=v∧v<=65535)∧Tb p wb tag V w w':=by
 have ht:=hZ (p:=p) (f:=t) (by rw[h6];decide);obtain⟨A,M,B,gt,kt,v,Z,e8,e3,ag,hr⟩:=DN bt j J ht cs;obtain⟨L,hL⟩:∃L,fC p.Eb (p.D9.getD c []) (p.t t 12) a false=L:=⟨_,rfl⟩
 have TL:=j.FF J;have hs:fB p (p.t t 12) 4=true:=j.w.m.tk.a.ok t h6 12 oD;have T:=hid (uh j.w TL (wr:=false) (a:=a) hs);obtain⟨x,l',e⟩:=L;rw[hL] at T;have lf:=j.w.m.tk.lf;have z:=hid (show Below w.heap.size w w.drew from aC w 1);have X:=bt.FE j;rw[Z] at X;have ae:=(ag.Fx (by have:=TL.n;omega)).1;obtain⟨F,E,kv,ev⟩:∃q n k,v=.slice q n k:=by obtain⟨q,b,off,cap,h,_⟩:=ae;exact⟨_,_,_,h⟩
 subst ev;have U:=mC (.slice (some ⟨A,0,none⟩) p.Eb.length M) (.slice F E kv) p.Eb (p.D9.getD c []) (p.t t 12) a false w.drew (X.below z) (ae.below z);rw[hL] at U;have LK:=hid U;have Q:=hid bt;have CS:=hid cs;have y:=hid j;have E0:=hid Z;have E8:=hid e8;have HC:=hid J;have H1:=hid hr;have i:=hid (hr.below z);have ax:(c:Int)<(p.D9.length:Int):=oA;have aF:(t:Int)<(p.DY.length:Int):=by have:=lf.DY;omega
 have ay:(p.D9.length:Int)<=1000:=by have:=lf.D9;have:=lf.c2;omega
 have aH:(p.DY.length:Int)<=1000:=by have:=lf.DY;have:=lf.k2;omega
 have av:(0:Int)<=(c:Int):=oA;have aE:(0:Int)<=(t:Int):=oA;generalize p.t t 12=s at*;clear bt cs j Z e8 e3 ag hr hL U lf X ae hs TL ht J h6;unfold ptr;go_enter Tryz.func45,Tryz.ntmps45
 go_wp2_with fail
 refine Rf.d7 (S:=StR b2 b3 b4 wb A p.Eb.length M B p.D9.length gt p.DY.length kt c t (.slice F E kv) s) (R:=fun _=>True) [] oK i trivial (fun _ _=>?_);generalize w.drew=w1 at*;refine bD oK _ i trivial [0,4,8,11,15] 23 _ _ oK ?_
 repeat (refine Rf.rs ?_;simp only[jj])
 refine aG ?_;refine bD oK _ i trivial [1,2,5,6,12,13,19] 16 _ _ oK ?_
 repeat (refine Rf.rs ?_;simp only[jj])
 refine aG ?_;refine bD oK _ i trivial [3,7,14] 13 _ _ oK ?_
 repeat (refine Rf.rs ?_;simp only[jj])
 refine aG ?_;refine bD oK _ i trivial [9,16,17] 10 _ _ oK ?_
 repeat (refine Rf.rs ?_;simp only[jj])
 refine aG ?_;refine bD oK _ i trivial [10,18] 8 _ _ oK ?_
 repeat (refine Rf.rs ?_;simp only[jj])
 refine aG ?_;refine Rf.r1 20 rfl (fun K C=>?_);refine wnt oR ?_;go_simp
 refine LK.mono ?_;rintro r w2 ⟨u,rfl,hT,hb⟩;have G:=hid (i.below hb);have O:=hid (btr z hb);have T2:=hid (fun (I:e=0)=>show _∨_ from (hT I).elim Or.inl fun g=>Or.inr (g.low z.size));clear hT hb LK i;go_wp2_with fail
 refine C _ _ G (fun _=>trivial) (fun _ _=>?_);clear C K
 try simp only[jj]
 refine bD oK _ G trivial [21,22,23,24,25,26,27] 0 _ _ oK ?_
 repeat (refine Rf.rs ?_;simp only[jj])
 refine aG ?_;refine aO oK ?_ _;by_cases I:e=0
 ·subst I;obtain⟨ai,f,ab,hx,am⟩:=T.out rfl;have Y:=hid (T2.out rfl);have HX:=hid hx;have hk:=ab;obtain⟨d,D⟩:∃d:Nat,d=f*16+(a%16).toNat:=⟨_,rfl⟩
  have an:x=(d:Int):=oA;subst an;have af:d<p.Eb.length:=by
   have:=hZ (p:=p) (f:=f) (by rw[ab];decide);have:=y.w.m.tk.lf.Eb;omega
  have HD:=hid af;have aB:(d:Int)<(p.Eb.length:Int):=oA;have aA:(0:Int)<=(d:Int):=oA;have aD:(p.Eb.length:Int)<=1000:=by have:=y.w.m.tk.lf.Eb;have:=y.w.m.tk.lf.k2;omega
  have ar:=hid (show d/16=f∧p.k f=2 by omega);have HL:=hid ai;obtain⟨qu,nu,ku,hu⟩:∃q n k,u=.slice q n k:=by
   rcases Y.out with g|g
   ·exact⟨_,_,_,g.1⟩
   ·obtain⟨q,b,off,cap,h,_⟩:=g;exact⟨_,_,_,h⟩
  subst hu;clear hx af ab hk ai D am T2 T;go_upto_region 4 with fail
  have P:=hid (show Below w2.heap.size w2 w2.drew from aC w2 1);have B3:=hid (btr O P);have W:=hid (G.below P);have FZ:=hid (show w2.drew.frozen? ⟨B,c,none⟩=false from by
   have h2:=(Q.below B3).o.D9;rw[E8.out] at h2;exact h2.fr c)
  have PT:=hid (Q.Fq E8 HC B3 (v:=.slice F E kv) (u:=.slice qu nu ku) (l:=l') H1.2.2.2.2.2.2.1 (Y.elim .inl fun g=>.inr (fh.below g P)));refine bj (R:=StR b2 b3 b4 wb A p.Eb.length M B p.D9.length gt p.DY.length kt c t (.slice F E kv) s) [7] [0,1,2,3,4,5,6] 1 oK W oK oK oK (fun _=>?_);generalize w2.drew=w3 at*
  repeat (refine Rf.rs ?_;simp only[jj])
  refine aG ?_;refine Rf.r1 7 rfl (fun K C=>?_);have y4:w3.cell? ⟨B,c,none⟩=some (.slice F E kv):=W.2.2.2.2.2.2.1;have fz:=FZ.out;go_simp
  refine C _ _ trivial (bK oK) (fun _ _=>?_);clear C K y4 fz
  try simp only[jj]
  refine aO oK ?_ _;obtain⟨ap,H,ad⟩:=PT.out;generalize w3.setCell ⟨B,c,none⟩ (Value.slice qu nu ku)=N at*;have y0:N.cell? ⟨b2,0,none⟩=some (.pointer (some ⟨wb,0,none⟩)):=((CS.kt ad) (b2,ptr wb) oS).1;have y1:N.cell? ⟨wb,0,none⟩=some (.slice (some ⟨A,0,none⟩) p.Eb.length M):=by rw[<-E0.out];exact ah H.r rfl
  obtain⟨y2,aj⟩:N.cell? ⟨A,d,none⟩=some (.int .i64 (p.Eb.getD d 0))∧0<=p.Eb.getD d 0∧p.Eb.getD d 0<=65535:=by
   have D:=HD.out;obtain⟨q,b,o,k,e,hq,ao⟩:=de H.o.Eb.1;rw[E0.out] at e
   cases e
   have h9:=hq (by show 0<p.Eb.length;omega)
   cases h9
   have h8:=ao d D;rw[az] at h8;rw[aa,ac D];exact⟨h8,y.w.m.Eb.w _ (aw D)⟩
  have al:=hid (show Tb p wb tag V w N from⟨ap,_,ad,H,y.Fx HL,_,_,rfl⟩);have HR:=hid aj;clear aj H ad PT W FZ H1 Y G;generalize p.Eb.getD d 0=vv at*;go_wp2_with fail
  refine aq (v:=.tuple #[.int .i64 vv,.bool true]) (by simp[results,Tryz.results45,go_sem]) rfl ⟨vv,true,rfl,HR.out,al.out⟩
 ·have au:(e==0)=false:=by simp[I]
  go_wp2_with fail
  refine aq (v:=.tuple #[.int .i64 0,.bool false]) (by simp[results,Tryz.results45,go_sem]) rfl ⟨0,false,rfl,oD,tag,p,bf O,Q.below O,Rm.refl y⟩
theorem xe (wb:Nat) (tag:Nat->Nat) (V:Nat->Value) (p:PW) (b2 b3 b4 c t:Nat) (a:Int) (v0:Int) (ai:0<=v0∧v0<=65535) (w:World) (bt:cb w wb tag V p) (A:Lv p) (Q:c<p.D9.length) (h6:p.k t=6) (cs:kD [(b2,ptr wb),(b3,.int .i64 (c:Int)),(b4,.int .i64 (t:Int))] tag w):
  Calls Tryz.prog 47 #[.int .i64 a,.int .i64 v0,ptr b2,ptr b3,ptr b4] w fun r w'=>∃ok:Bool,r=.returned (.bool ok)∧Tb p wb tag V w w':=by
 have ht:=hZ (p:=p) (f:=t) (by rw[h6];decide);obtain⟨B,T,G,gt,kt,v,e0,e8,e3,af,hr⟩:=DN bt A Q ht cs;obtain⟨L,hL⟩:∃L,fC p.Eb (p.D9.getD c []) (p.t t 12) a true=L:=⟨_,rfl⟩
 have TL:=A.FF Q;have hs:fB p (p.t t 12) 4=true:=A.w.m.tk.a.ok t h6 12 oD;have Z:=hid (uh A.w TL (wr:=true) (a:=a) hs);obtain⟨x,l',e⟩:=L;rw[hL] at Z;have lf:=A.w.m.tk.lf;have E:=hid (show Below w.heap.size w w.drew from aC w 1);have RI:=bt.FE A;rw[e0] at RI;have ad:=(af.Fx (by have:=TL.n;omega)).1;obtain⟨J,I,kv,ev⟩:∃q n k,v=.slice q n k:=by obtain⟨q,b,off,cap,h,_⟩:=ad;exact⟨_,_,_,h⟩
 subst ev;have aa:=mC (.slice (some ⟨B,0,none⟩) p.Eb.length T) (.slice J I kv) p.Eb (p.D9.getD c []) (p.t t 12) a true w.drew (RI.below E) (ad.below E);rw[hL] at aa;have LK:=hid aa;have X:=hid bt;have CS:=hid cs;have F:=hid A;have Y:=hid e0;have E8:=hid e8;have HC:=hid Q;have H1:=hid hr;have j:=hid (hr.below E);have ax:(c:Int)<(p.D9.length:Int):=oA;have aF:(t:Int)<(p.DY.length:Int):=by have:=lf.DY;omega
 have ay:(p.D9.length:Int)<=1000:=by have:=lf.D9;have:=lf.c2;omega
 have aH:(p.DY.length:Int)<=1000:=by have:=lf.DY;have:=lf.k2;omega
 have aw:(0:Int)<=(c:Int):=oA;have aE:(0:Int)<=(t:Int):=oA;generalize p.t t 12=s at*;clear bt cs A e0 e8 e3 af hr hL aa lf RI ad hs TL ht Q h6;unfold ptr;go_enter Tryz.func47,Tryz.ntmps47
 go_wp2_with fail
 refine Rf.d7 (S:=StR b2 b3 b4 wb B p.Eb.length T G p.D9.length gt p.DY.length kt c t (.slice J I kv) s) (R:=fun _=>True) [] oK j trivial (fun _ _=>?_);generalize w.drew=w1 at*;refine bD oK _ j trivial [0,4,8,11,15] 23 _ _ oK ?_
 repeat (refine Rf.rs ?_;simp only[jj])
 refine aG ?_;refine bD oK _ j trivial [1,2,5,6,12,13,19] 16 _ _ oK ?_
 repeat (refine Rf.rs ?_;simp only[jj])
 refine aG ?_;refine bD oK _ j trivial [3,7,14] 13 _ _ oK ?_
 repeat (refine Rf.rs ?_;simp only[jj])
 refine aG ?_;refine bD oK _ j trivial [9,16,17] 10 _ _ oK ?_
 repeat (refine Rf.rs ?_;simp only[jj])
 refine aG ?_;refine bD oK _ j trivial [10,18] 8 _ _ oK ?_
 repeat (refine Rf.rs ?_;simp only[jj])
 refine aG ?_;refine Rf.r1 20 rfl (fun K H=>?_);refine wnt oR ?_;go_simp
 refine LK.mono ?_;rintro r w2 ⟨u,rfl,hT,hb⟩;have N:=hid (j.below hb);have U:=hid (btr E hb);have T2:=hid (fun (P:e=0)=>show _∨_ from (hT P).elim Or.inl fun g=>Or.inr (g.low E.size));clear hT hb LK j;go_wp2_with fail
 refine H _ _ N (fun _=>trivial) (fun _ _=>?_);clear H K
 try simp only[jj]
 refine bD oK _ N trivial [21,22,23,24,25,26,27] 0 _ _ oK ?_
 repeat (refine Rf.rs ?_;simp only[jj])
 refine aG ?_;refine aO oK ?_ _;by_cases P:e=0
 ·subst P;obtain⟨ag,f,ab,hx,am⟩:=Z.out rfl;have T3:=hid (T2.out rfl);have HX:=hid hx;have hk:=ab;obtain⟨d,hd⟩:∃d:Nat,d=f*16+(a%16).toNat:=⟨_,rfl⟩
  have an:x=(d:Int):=oA;subst an;have ae:d<p.Eb.length:=by
   have:=hZ (p:=p) (f:=f) (by rw[ab];decide);have:=F.w.m.tk.lf.Eb;omega
  have HD:=hid ae;have aB:(d:Int)<(p.Eb.length:Int):=oA;have aA:(0:Int)<=(d:Int):=oA;have aD:(p.Eb.length:Int)<=1000:=by have:=F.w.m.tk.lf.Eb;have:=F.w.m.tk.lf.k2;omega
  have C:=hid (show d/16=f∧p.k f=2 by omega);have HL:=hid ag;obtain⟨qu,nu,ku,hu⟩:∃q n k,u=.slice q n k:=by
   rcases T3.out with g|g
   ·exact⟨_,_,_,g.1⟩
   ·obtain⟨q,b,off,cap,h,_⟩:=g;exact⟨_,_,_,h⟩
  subst hu;clear hx ae ab hk ag hd am T2 Z;go_upto_region 4 with fail
  have W:=hid (show Below w2.heap.size w2 w2.drew from aC w2 1);have B3:=hid (btr U W);have R3:=hid (N.below W);have FZ:=hid (show w2.drew.frozen? ⟨G,c,none⟩=false from by
   have D:=(X.below B3).o.D9;rw[E8.out] at D;exact D.fr c)
  have PT:=hid (X.Fq E8 HC B3 (v:=.slice J I kv) (u:=.slice qu nu ku) (l:=l') H1.2.2.2.2.2.2.1 (T3.elim .inl fun g=>.inr (fh.below g W)));refine bj (R:=StR b2 b3 b4 wb B p.Eb.length T G p.D9.length gt p.DY.length kt c t (.slice J I kv) s) [7] [0,1,2,3,4,5,6] 1 oK R3 oK oK oK (fun _=>?_);generalize w2.drew=w3 at*
  repeat (refine Rf.rs ?_;simp only[jj])
  refine aG ?_;refine Rf.r1 7 rfl (fun K H=>?_);have y4:w3.cell? ⟨G,c,none⟩=some (.slice J I kv):=R3.2.2.2.2.2.2.1;have fz:=FZ.out;go_simp
  refine H _ _ trivial (bK oK) (fun _ _=>?_);clear H K y4 fz
  try simp only[jj]
  refine aO oK ?_ _;obtain⟨ar,O,ac⟩:=PT.out;generalize w3.setCell ⟨G,c,none⟩ (Value.slice qu nu ku)=M at*;have y0:M.cell? ⟨b2,0,none⟩=some (.pointer (some ⟨wb,0,none⟩)):=((CS.kt ac) (b2,ptr wb) oS).1;have y1:M.cell? ⟨wb,0,none⟩=some (.slice (some ⟨B,0,none⟩) p.Eb.length T):=by rw[<-Y.out];exact ah O.r rfl
  obtain⟨y2,au⟩:(∃z:Int,M.cell? ⟨B,d,none⟩=some (.int .i64 z))∧M.frozen? ⟨B,d,none⟩=false:=by
   have hd:=HD.out;have D:=O.o.Eb;rw[Y.out] at D;obtain⟨q,b,o,k,e,hq,ao⟩:=de D.1
   cases e
   have h9:=hq (by show 0<p.Eb.length;omega)
   cases h9
   have h8:=ao d hd;rw[az] at h8;exact⟨⟨_,h8⟩,D.frozen d⟩
  obtain⟨z0,y2⟩:=y2;have aj:=hid (show Tb p wb tag V w (M.setCell ⟨B,d,none⟩ (.int .i64 v0)) from by
   obtain⟨al,ap⟩:=O.Ek Y d v0;have s1:=F.Fx (c:=c) HL;have s2:=s1.w.word (i:=d) (v:=v0) HD ai (fF.2 ⟨fun y=>by rw[C.1] at y;have:=C.2;have y:p.k f=4:=y;omega,fun y=>by rw[C.1] at y;have:=C.2;have y:p.k f=3:=y;omega⟩) (fun y=>by rw[C.1] at y;have:=C.2;have y:p.k f=3∨p.k f=4:=y;omega);exact⟨ar,_,ac.trans ap,al,s1.trans s2,_,_,rfl⟩)
  clear O ac PT R3 FZ H1 T3 N ai;go_wp2_with fail
  refine aq (v:=.bool true) (by simp[results,Tryz.results47,go_sem]) rfl ⟨true,rfl,aj.out⟩
 ·have av:(e==0)=false:=by simp[P]
  go_wp2_with fail
  refine aq (v:=.bool false) (by simp[results,Tryz.results47,go_sem]) rfl ⟨false,rfl,tag,p,bf U,X.below U,Rm.refl F⟩
theorem nI (p:PW) (n a:Int):(sAt p n a).2=0∨(sAt p n a).2=2∨(sAt p n a).2=3:=by
 unfold sAt;split
 ·split
  ·split
   ·exact .inl rfl
   ·split
    ·exact .inl rfl
    ·exact .inr (.inr rfl)
  ·exact .inr (.inl rfl)
 ·exact .inr (.inr rfl)
theorem fW (p:PW) (n a k r:Int):0<=(kAt p n a k r).2∧(kAt p n a k r).2<=13:=by
 unfold kAt;by_cases h:(sAt p n a).2=0
 ·rw[af h];unfold kOf;split
  ·decide
  ·split
   ·split
    ·exact⟨Int.le_refl 0,show (0:Int)<=13 by decide⟩
    ·decide
   ·decide
 ·rw[ae h];have:=nI p n a;show 0<=(sAt p n a).2∧(sAt p n a).2<=13
  omega
theorem ju {p:PW} (h:Lw p) {n a k r:Int} (hk:2<=k) (e:(kAt p n a k r).2=0):∃f:Nat,(kAt p n a k r).1 1=f∧p.k f=k:=by
 obtain⟨v,q⟩:=h.m.keys;unfold kAt at e ⊢;by_cases b:(sAt p n a).2=0
 ·rw[af b] at e ⊢;generalize (sAt p n a).1.toNat=i at e ⊢;have c:∀j,j<6->p.DZ.getD i eE j=p.s i j:=fun j u=>by
   show p.DZ.getD i eE j=p.DZ.getD i eS j
   rw[aa,aa]
   cases p.DZ[i]? with
   |some x=>rfl
   |none=>show eE j=eS j;unfold eE eS;rw[ae oA]
  unfold kOf at e ⊢;have g:=c 0 oD;have t:=c 1 oD;by_cases c0:p.DZ.getD i eE 0=0
  ·rw[af c0] at e;cases e
  rw[ae c0] at e ⊢;by_cases c1:p.DZ.getD i eE 0=k
  ·rw[af c1] at e ⊢;split at e
   ·rename_i c2;rw[af c2];have d:=(q.key i (by rw[<-g];exact c0)).is;rw[<-g, <-t,c1] at d;obtain⟨f,l,_,o⟩:=eU (d.resolve_left oA);exact⟨f,l,o⟩
   ·cases e
  ·rw[ae c1] at e;cases e
 ·rw[ae b] at e;exact absurd e b
theorem tx {p:PW} (h:Lw p) {f j:Nat} (a:p.k f=4) (i:j<16) (c:p.Eb.getD (f*16+j) 0≠0):∃t:Nat,p.Eb.getD (f*16+j) 0=32768+t∧p.k t=3:=by
 have lf:=h.m.tk.lf;have g:=hZ (p:=p) (f:=f) (by rw[a];decide);have hl:f*16+j<p.Eb.length:=by have:=lf.Eb;omega
 have b1:=(fF.1 (h.m.Eb.e _ hl)).1 (by rw[show (f*16+j)/16=f by omega];exact a);obtain⟨t,d,_,b⟩:=eU (b1.resolve_left c);exact⟨t,oA,b⟩
theorem zb (wb:Nat) (tag:Nat->Nat) (V:Nat->Value) (p:PW) (d:Int) (g:Nat->Int) (w:World) (bt:cb w wb tag V p) (D:Lv p) (hg:∀k,k<8->0<=g k∧g k<=65535):
  Calls Tryz.prog 142 #[.pointer (some ⟨wb,0,none⟩),.int .i64 d,.agg (cf 8 g).toArray] w fun r w'=>Okd p wb tag w r w':=by
 have lf:=D.w.m.tk.lf;have HV:=hid (bt.view D.w.fits D.w.Es);have y:=hid bt;have c:=hid D;obtain⟨F,k0,e0⟩:∃g cap,V 0=.slice (some ⟨g,0,none⟩) p.Eb.length cap:=bt.o.Eb.form (by have:=lf.Eb;have:=lf.k1;show 0<p.Eb.length;omega)
 have M:=hid e0;have S:=hid (bal (ai w.heap.size w) (.cells (cf 8 g).toArray 43));have Y:=hid (gK w (cf 8 g) 43 _ rfl);obtain⟨a,ha⟩:∃a:Nat,g 3=a:=⟨(g 3).toNat,by have:=(hg 3 oD).1;omega⟩
 have a7:a<=65535:=by have:=(hg 3 oD).2;omega
 have t2:=ah Y (dp 8 g 2 oD);have KA:=hid (eM wb V p d (g 2) 4 2 _ (HV.below S) D.s);have ER:=hid (fW p d (g 2) 4 2);have ET:=hid (fun h=>ju D.w (n:=d) (a:=g 2) (k:=4) (r:=2) oD h);have S0:=hid (show (w.alloc (.cells (cf 8 g).toArray 43)).heap.size=w.heap.size+1 by simp);go_enter Tryz.func142,Tryz.ntmps142
 go_wp2_with fail
 generalize World.alloc _ _=w1 at S Y t2 KA S0 ⊢;refine KA.mono ?_;rintro r w2 ⟨rfl,hb⟩;have B2:=hid (btr S hb);have T2:=hid (dV Y hb);have S2:=hid (show w.heap.size<w2.heap.size by have:=hb.size;have:=S0.out;omega);generalize (kAt p d (g 2) 4 2).2=E at*;generalize (kAt p d (g 2) 4 2).1=K at*;have K3:=hid (fun o=>aI (T:=fun _=>False) (w:=w) (b:=w2.heap.size) (.inr (Nat.le_of_lt S2)) (cf 6 K) 0 _ ((Kp.Ed B2).alloc o));have T3:=hid (fun o=>World.rangeAt_setCells_apart (World.rangeAt_alloc T2 o) w2.heap.size 0 (cf 6 K) (.inl (Nat.ne_of_lt S2)));have X3:=hid (fun z u (hz:6<=z.size)=>World.rangeAt_setCells_same (w2.alloc (.cells z u)) w2.heap.size 0 (cf 6 K) (by rw[aA];exact aY w2 z u _ 6 rfl hz));go_upto_region 2 with ((with_reducible refine gst 78 ?_);refine gv rfl _ _ rfl w2.heap.size 0 rfl (cf 6 K) rfl (aA _ _) (bR _ _) (aY _ _ _ _ _ oS oD) ?_)
 generalize Z:World.setCells _ _ _ _=x;have N:=hid (show Kp (fun _=>False) w x by rw[<-Z];exact K3 _);have T4:=hid (show x.rangeAt w.heap.size 0 (cf 8 g) by rw[<-Z];exact T3 _);have X4:=hid (show x.rangeAt w2.heap.size 0 (cf 6 K) by rw[<-Z];exact X3 _ _ oS);by_cases hE:E=0
 case neg=>
  have a6:(E==0)=false:=by simp[hE]
  go_wp2_with fail
  refine aq (v:=.int .i64 (E)) (by simp[results,Tryz.results142,go_sem]) rfl ⟨E,rfl,ER.out,cK c y N.all⟩
 case pos=>
  subst hE;obtain⟨f,aM,aN⟩:=ET.out rfl;have aj:=hid aN;have I:=ah T4 (dp 8 g 3 oD);rw[ha] at I;by_cases a5:255<a
  ·have aJ:(255:Int)<(a:Int):=oA;go_wp2_with fail
   refine aq (v:=.int .i64 (2)) (by simp[results,Tryz.results142,go_sem]) rfl ⟨2,rfl,oD,cK c y N.all⟩
  ·have aJ:¬(255:Int)<(a:Int):=oA;have lf:=c.w.m.tk.lf;have aP:=hZ (p:=p) (f:=f) (by rw[aj.out];decide);obtain⟨B,am⟩:∃e:Nat,p.Eb.getD (f*16+a/16) 0=e:=⟨(p.Eb.getD (f*16+a/16) 0).toNat,by
    have:=(c.w.m.Eb.w _ (aw (show f*16+a/16<p.Eb.length by have:=lf.Eb;omega))).1;rw[aa,ac (show f*16+a/16<p.Eb.length by have:=lf.Eb;omega)];simp only[aT];omega⟩
   have af:=hid (y.below N.all);have ax:∀i,i<p.Eb.length->x.cell? ⟨F,i,none⟩=some (.int .i64 (p.Eb.getD i 0)):=fun i hi=>by
    obtain⟨q,b,o,k,e,hq,ad⟩:=de af.o.Eb.1;rw[M.out] at e
    cases e
    have h9:=hq oA
    cases h9
    have h8:=ad i hi;rw[az] at h8;rw[aa,ac hi];exact h8
   have Q:x.cell? ⟨wb,0,none⟩=some (.slice (some ⟨F,0,none⟩) p.Eb.length k0):=by rw[<-M.out];exact ah af.r rfl
   have y1:x.cell? ⟨w2.heap.size,1,none⟩=some (.int .i64 (f:Int)):=by rw[<-aM];exact ah X4 (dp 6 K 1 oD)
   have P:f*16+a/16<p.Eb.length:=by have:=lf.Eb;omega
   have J:=ax _ P;rw[am] at J;have a9:(f:Int)<=1000:=by have:=lf.k2;omega
   have bg:(p.Eb.length:Int)<=1000:=by have:=lf.Eb;have:=lf.k2;omega
   have RC:=hid ax;have ag:=hid am;have a3:=hid P;have a4:=hid aP;obtain⟨j,hj⟩:∃j:Nat,f*16+a/16=j:=⟨_,rfl⟩
   rw[hj] at J P;have aK:(j:Int)<(p.Eb.length:Int):=oA;have aL:(0:Int)<=(j:Int):=oA;have aS:(f:Int)*16+(a:Int)/16=(j:Int):=oA;have HJ:=hid hj;clear hj P;have KC:=hid (fun W (h:Below x.heap.size x W)=>(⟨cu h I,cu h Q,cu h y1,cu h J⟩:_∧_∧_∧_));go_upto_region 6 with fail
   refine aZ oK oK ?_
   repeat (first|go_big_quiet_skip|(go_big_quiet_want;go_big_quiet_op;first|go_big_quiet_on|go_big_quiet_call (fail)))
   refine cy ?_;intro _ G;obtain⟨nq,H⟩:=G;subst H;have U:=hid (aV (ai x.heap.size x) nq);clear Q y1 J I;obtain⟨I,Q,y1,J⟩:=KC.out _ U;generalize x.drewN nq=O at*;have BB:=hid (btr N.all U);by_cases an:B=0
   ·subst an;have ad:((((0:Nat):Int))==0)=true:=rfl;go_upto_region 7 with fail
    refine aZ oK oK ?_
    repeat (first|go_big_quiet_skip|(go_big_quiet_want;go_big_quiet_op;first|go_big_quiet_on|go_big_quiet_call (fail)))
    refine cy ?_;intro _ G;obtain⟨nq,H⟩:=G;subst H;have C:=hid (aV BB nq);generalize O.drewN nq=A at*;go_wp2_with fail
    refine aq (v:=.int .i64 (9)) (by simp[results,Tryz.results142,go_sem]) rfl ⟨9,rfl,oD,cK c y C⟩
   ·have ad:((B:Int)==0)=false:=by simp;omega
    obtain⟨t,ar,av⟩:=tx c.w (f:=f) (j:=a/16) aj oA (by rw[ag.out];omega);rw[ag.out] at ar;have aW:=hZ (p:=p) (f:=t) (by rw[av];decide);have lf:=c.w.m.tk.lf;obtain⟨m,hm⟩:∃m:Nat,t*16+a%16=m:=⟨_,rfl⟩
    have ab:m<p.Eb.length:=by have:=lf.Eb;omega
    have aU:(B:Int)%1024*16+(a:Int)%16=(m:Int):=by have:=lf.k2;omega
    have bb:(m:Int)<(p.Eb.length:Int):=oA;have bc:(0:Int)<=(m:Int):=oA;have a8:(B:Int)<=65535:=by have:=lf.k2;omega
    obtain⟨pv,ap⟩:∃z,p.Eb.getD m 0=z:=⟨_,rfl⟩
    have y3:=cu U (RC.out m ab);rw[ap] at y3;have ay:=hid ab;clear ar av aW lf hm ab ap an aS aK aL;go_upto_region 7 with fail
    refine aZ oK oK ?_
    repeat (first|go_big_quiet_skip|(go_big_quiet_want;go_big_quiet_op;first|go_big_quiet_on|go_big_quiet_call (fail)))
    refine cy ?_;intro _ G;obtain⟨nq,H⟩:=G;subst H;have C:=hid (aV (ai O.heap.size O) nq);have b0:=cu C Q;have b3:=cu C y3;have b4:=cu C I;generalize O.drewN nq=A at*;have ae:=hid (btr BB C);by_cases ao:pv=0
    ·have aQ:(pv==0)=true:=by simp[ao]
     go_wp2_with fail
     refine aq (v:=.int .i64 (9)) (by simp[results,Tryz.results142,go_sem]) rfl ⟨9,rfl,oD,cK c y ae⟩
    ·have aQ:(pv==0)=false:=by simp[ao]
     go_upto_region 9 with fail
     have L:=hid (show Below A.heap.size A A.drew from aC A 1);have hW:IntKind.i64.wrap (IntKind.i64.wrap ((B:Int).tmod 1024*16)+(a:Int).tmod 16)=(m:Int):=by
      rw[cC oA,cC oA,show IntKind.i64.wrap ((B:Int)%1024*16)=(B:Int)%1024*16 from bZ _ oA oA,aU];exact bZ _ oA oA
     have X:=hid (btr ae L);have FZ:=hid (show A.drew.frozen? ⟨F,m,none⟩=false from by
      have h2:=(y.below X).o.Eb;rw[M.out] at h2;exact h2.frozen m)
     have aE:=hid ((y.below X).Ek M m 0);have y5:=cu L b3;refine bj (R:=fun W=>W.cell? ⟨wb,0,none⟩=some (.slice (some ⟨F,0,none⟩) p.Eb.length k0)∧W.cell? ⟨w.heap.size,3,none⟩=some (.int .i64 (a:Int))) [12] [0,1,2,3,4,5,6,7,8,9,10,11] 1 oK ⟨cu L b0,cu L b4⟩ oK oK oK (fun _=>?_);generalize A.drew=W6 at*
     repeat (refine Rf.rs ?_;simp only[jj])
     refine aG ?_;refine Rf.r1 12 rfl (fun K hK=>?_);have fz:=FZ.out;go_simp
     refine hK _ _ trivial (bK oK) (fun _ _=>?_)
     try simp only[jj]
     refine aO oK ?_ _;obtain⟨aH,a0⟩:=aE.out;generalize W6.setCell ⟨F,m,none⟩ (Value.int IntKind.i64 0)=W7 at*;have HU:=hid (c.Fw ay);have FW:=hid (ez wb tag V {p with Eb:=p.Eb.set m 0} 0 (-1) W7 aH (by
      have h:=c.w.fits;exact⟨by show (p.Eb.set m 0).length<=_;rw[au];exact h.Eb,h.kinds,h.DZ,h.DY,h.lines,h.line,h.bits,h.D6,h.ready,h.next,h.D9,h.Ee⟩) c.w.Es (fun l hl e he=>by
      have:=(c.w.tl l hl).t e he;unfold eG at this;simp only[al,aR] at this;exact this.1.2) (fun z hz=>by
      rcases ba hz with h|h
      ·have:=c.w.m.Eb.w z h;omega
      ·rw[h];decide) (by show (p.Eb.set m 0).length<=600;rw[au];have:=c.w.m.tk.lf.Eb;have:=c.w.m.tk.lf.k2;omega))
     have aB:=hid ((bf (tag:=tag) X).trans a0);go_wp2_with fail
     refine FW.mono ?_;rintro r W8 ⟨rfl,a2,aF,aX⟩;have aD:=hid (show Bx p wb tag w W8 from⟨a2,V,_,aB.trans aX,aF,HU.out⟩);go_wp2_with fail
     refine aq (v:=.int .i64 (0)) (by simp[results,Tryz.results142,go_sem]) rfl ⟨0,rfl,oD,aD.out⟩
