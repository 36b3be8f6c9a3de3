/- Qbn -/
import Derived.BigQuiet
import Derived.Test.YtaejnmmpddbbjaaGreatDoorQbm
set_option maxRecDepth 100000
set_option maxHeartbeats 16000000
namespace Go.Proofs.YtaejnmmpddbbjaaGreatDoor
namespace Wd
open Go.RowKit Mem Bw Nums Mmu
def Rm (p q:PW):Prop:=Sm p q∧∃X R,q={p with ID:=X,IE:=R}
theorem Rm.refl {p:PW} (h:Lv p):Rm p p:=⟨Sm.refl h,_,_,rfl⟩
theorem Rm.trans {p q r:PW} (h:Rm p q) (g:Rm q r):Rm p r:=by
 obtain⟨a,X,R,rfl⟩:=h;obtain⟨b,Y,T,rfl⟩:=g;exact⟨a.trans b,Y,T,rfl⟩
def Tb (p:PW) (wb:Nat) (tag:Nat->Nat) (V:Nat->Value) (W W':World):Prop:=∃tag' q,Kt tag tag' W W'∧di W' wb tag' V q∧Rm p q
theorem di.JN {W:World} {wb:Nat} {tag:Nat->Nat} {V:Nat->Value} {p:PW} (bt:di W wb tag V p) (h:Lv p):jW W (V 0) p.IE:=
 ⟨dS bt.o.IE.1,fun z a=>by have:=h.w.m.IE.w z a;omega,by have:=h.w.m.tk.lf.IE;have:=h.w.m.tk.lf.k2;omega⟩
theorem Lv.JO {p:PW} (h:Lv p) {c:Nat} (a:c<p.ID.length):TlO p (p.ID.getD c []):=h.w.tl _ (by rw[aa,ac a];exact av a)
theorem di.JC {W W1:World} {wb:Nat} {tag:Nat->Nat} {V:Nat->Value} {p:PW} (bt:di W wb tag V p) {g c:Nat} (e:V 8=.slice (some ⟨g,0,none⟩) p.ID.length p.ID.length) (d:c<p.ID.length) (a:Below W.heap.size W W1) {v u:Value} {l:List Ent}
  (A:W.cell? ⟨g,c,none⟩=some v) (z:u=v∧l=p.ID.getD c []∨iH W.heap.size W1 u l):
  ∃tag',di (W1.setCell ⟨g,c,none⟩ u) wb tag' V {p with ID:=p.ID.set c l}∧Kt tag tag' W (W1.setCell ⟨g,c,none⟩ u):=by
 have LT:kT W tag p.ID.length (.slice (some ⟨g,0,none⟩) p.ID.length p.ID.length) p.ID:=by rw[<-e];exact bt.o.ID
 obtain⟨v',B,w⟩:=LT.at d;obtain rfl:v=v':=aL (A.symm.trans B);have C:Kp (fun b=>tag b=14+3*c) W W1:=.IG a;have t:InE W1 (fX tag W.heap.size (14+3*c)) (14+3*c) u l:=by
  rcases z with ⟨rfl,rfl⟩|⟨q,b,off,cap,j,m,n,r,D,s⟩
  ·exact w.kp (T:=fun _=>False) (.IG a) (fun k hk=>dw hk) (fun _ _=>id)
  ·obtain⟨h,rfl⟩:=m;exact .inr ⟨b,off,cap,j,n,by unfold fX;rw[ae oA],h,r,s⟩
 obtain⟨y,f⟩:=LT.put d rfl C (fun b a=>dw a) t;refine⟨_,bt.ID f (fun b a=>dw a) (by rw[au,e];exact y),.of f (fun b x=>by rcases x with x|⟨i,x⟩<;>omega) (fun b a=>dw a)⟩
end Wd
namespace Rf
section
variable {P : Program} {ops : Array Oper} {Q : Exit -> Act -> World -> Prop} {md : Region.Mode} {S R : World -> Prop} {fs : List Nat}
theorem ja (e:Region.noSelect ops=true) (w:World) (d:S w) (c:R w):∀(is:List Nat) (fuel:Nat) (b:Array Bool) (a:Act),tkS md ops fs is b=true->
  rd P ops Q S (fun f=>d7 P md ops Q S R fs fuel (FR b is) f w) is a->d7 P md ops Q S R fs (fuel+is.length) b a w
 |[],_,_,_,_,h=>h
 |i::r,fuel,b,a,hb,h=>by
  unfold tkS at hb;simp only[am,dX] at hb;obtain⟨⟨g,j,k⟩,l⟩:=hb;unfold rd at h
  cases ho:ops[i]? with
  |none=>rw[ho] at h;exact h.elim
  |some o=>
   rw[ho] at h;obtain⟨v,p,m,n⟩:=h;exact fD ho e g j k m p d (fun _=>c) (ja e w d c r fuel (b.setIfInBounds i true) (a.put o.dst v) l n)
theorem _root_.Go.Proofs.YtaejnmmpddbbjaaGreatDoor.bV:type_of% @ja:= @ja
end
end Rf
namespace Wd
open Go.RowKit Mem Bw Nums Mmu
def StR (b2 b3 b4 wb g0 n0 k0 g8 n8 gt nt kt c t:Nat) (v:Value) (s:Int) (W:World):Prop:=
 W.cell? ⟨b2,0,none⟩=some (.pointer (some ⟨wb,0,none⟩))∧W.cell? ⟨b3,0,none⟩=some (.int .i64 (c:Int))∧W.cell? ⟨b4,0,none⟩=some (.int .i64 (t:Int))∧W.cell? ⟨wb,0,none⟩=some (.slice (some ⟨g0,0,none⟩) n0 k0)∧W.cell? ⟨wb,8,none⟩=some (.slice (some ⟨g8,0,none⟩) n8 n8)∧W.cell? ⟨wb,3,none⟩=some (.slice (some ⟨gt,0,none⟩) nt kt)∧W.cell? ⟨g8,c,none⟩=some v∧W.cell? ⟨gt,t*20+12,none⟩=some (.int .i64 s)
theorem cu {b W:World} (h:Below b.heap.size b W) {a:Addr} {v:Value} (e:b.cell? a=some v):W.cell? a=some v:=(h.cell (aj _ _ e)).trans e
theorem StR.below {b2 b3 b4 wb b n0 f d g e nt kt c t:Nat} {v:Value} {s:Int} {W W':World} (h:StR b2 b3 b4 wb b n0 f d g e nt kt c t v s W) (a:Below W.heap.size W W'):StR b2 b3 b4 wb b n0 f d g e nt kt c t v s W':=by
 obtain⟨i,j,k,l,m,n,o,p⟩:=h;exact⟨cu a i,cu a j,cu a k,cu a l,cu a m,cu a n,cu a o,cu a p⟩
theorem Ib {wb:Nat} {tag:Nat->Nat} {V:Nat->Value} {p:PW} {W:World} (bt:di W wb tag V p) (l:Lv p) {b2 b3 b4 c t:Nat} (j:c<p.ID.length) (q:t<p.kinds.length) (cs:jf [(b2,ptr wb),(b3,.int .i64 (c:Int)),(b4,.int .i64 (t:Int))] tag W):
  ∃a e b d kt v,V 0=.slice (some ⟨a,0,none⟩) p.IE.length e∧V 8=.slice (some ⟨b,0,none⟩) p.ID.length p.ID.length∧V 3=.slice (some ⟨d,0,none⟩) p.IA.length kt∧InE W tag (14+3*c) v (p.ID.getD c [])∧StR b2 b3 b4 wb a p.IE.length e b p.ID.length d p.IA.length kt c t v (p.t t 12) W:=by
 have lf:=l.w.m.tk.lf;obtain⟨a,e,i⟩:∃g cap,V 0=.slice (some ⟨g,0,none⟩) p.IE.length cap:=bt.o.IE.form (by have:=lf.IE;show 0<p.IE.length;omega)
 obtain⟨d,kt,f⟩:∃g cap,V 3=.slice (some ⟨g,0,none⟩) p.IA.length cap:=bt.o.IA.form (by have:=lf.IA;show 0<p.IA.length;omega)
 obtain⟨b,e8⟩:=bt.o.ID.form;have h:=bt.o.ID;rw[e8] at h;obtain⟨v,n,k⟩:=h.at j;refine⟨a,e,b,d,kt,v,i,e8,f,k,(cs (b2,ptr wb) oS).1,(cs (b3,.int .i64 (c:Int)) oS).1,(cs (b4,.int .i64 (t:Int)) oS).1,?_,?_,?_,n,bt.IH f (by have:=lf.IA;omega) oD⟩
 ·rw[<-i];exact ai bt.r rfl
 ·rw[<-e8];exact ai bt.r rfl
 ·rw[<-f];exact ai bt.r rfl
theorem iH.below {B:Nat} {w w':World} {v:Value} {l:List Ent} (h:iH B w v l) (i:Below w.heap.size w w'):iH B w' v l:=by
 obtain⟨q,b,off,cap,a,c,d,e,f,g⟩:=h;exact⟨q,b,off,cap,a,c,d.below i,e,f,g⟩
theorem CA (wb:Nat) (tag:Nat->Nat) (V:Nat->Value) (p:PW) (b2 b3 b4 c t:Nat) (a:Int) (w:World) (bt:di w wb tag V p) (j:Lv p) (J:c<p.ID.length) (h6:p.k t=6) (cs:jf [(b2,ptr wb),(b3,.int .i64 (c:Int)),(b4,.int .i64 (t:Int))] tag w):
  Calls Tryz.prog 45 #[.int .i64 a,ptr b2,ptr b3,ptr b4] w fun r w'=>∃(v:Int) (ok:Bool),r=.returned (.tuple #[.int .i64 v,.bool ok])∧(0<=v∧v<=65535)∧Tb p wb tag V w w':=by
 have ht:=iS (p:=p) (f:=t) (by rw[h6];decide);obtain⟨A,M,B,gt,kt,v,Z,e8,e3,ag,hr⟩:=Ib bt j J ht cs;obtain⟨L,hL⟩:∃L,iX p.IE (p.ID.getD c []) (p.t t 12) a false=L:=⟨_,rfl⟩
 have TL:=j.JO J;have hs:fG p (p.t t 12) 4=true:=j.w.m.tk.a.ok t h6 12 oD;have T:=hid (wV j.w TL (wr:=false) (a:=a) hs);obtain⟨x,l',e⟩:=L;rw[hL] at T;have lf:=j.w.m.tk.lf;have z:=hid (show Below w.heap.size w w.drew from aD w 1);have X:=bt.JN j;rw[Z] at X;have ae:=(ag.JU (by have:=TL.n;omega)).1;obtain⟨F,E,kv,ev⟩:∃q n k,v=.slice q n k:=by obtain⟨q,b,off,cap,h,_⟩:=ae;exact⟨_,_,_,h⟩
 subst ev;have U:=oh (.slice (some ⟨A,0,none⟩) p.IE.length M) (.slice F E kv) p.IE (p.ID.getD c []) (p.t t 12) a false w.drew (X.below z) (ae.below z);rw[hL] at U;have LK:=hid U;have Q:=hid bt;have CS:=hid cs;have y:=hid j;have E0:=hid Z;have E8:=hid e8;have HC:=hid J;have H1:=hid hr;have i:=hid (hr.below z);have ax:(c:Int)<(p.ID.length:Int):=oA;have aF:(t:Int)<(p.IA.length:Int):=by have:=lf.IA;omega
 have ay:(p.ID.length:Int)<=1000:=by have:=lf.ID;have:=lf.c2;omega
 have aG:(p.IA.length:Int)<=1000:=by have:=lf.IA;have:=lf.k2;omega
 have aw:(0:Int)<=(c:Int):=oA;have aE:(0:Int)<=(t:Int):=oA;generalize p.t t 12=s at*;clear bt cs j Z e8 e3 ag hr hL U lf X ae hs TL ht J h6;unfold ptr;go_enter Tryz.func45,Tryz.ntmps45
 go_wp2_with fail
 refine Rf.dZ (S:=StR b2 b3 b4 wb A p.IE.length M B p.ID.length gt p.IA.length kt c t (.slice F E kv) s) (R:=fun _=>True) [] oK i trivial (fun _ _=>?_);generalize w.drew=w1 at*;refine bV oK _ i trivial [0,4,8,11,15] 23 _ _ oK ?_
 repeat (refine Rf.rs ?_;simp only[jj])
 refine aJ ?_;refine bV oK _ i trivial [1,2,5,6,12,13,19] 16 _ _ oK ?_
 repeat (refine Rf.rs ?_;simp only[jj])
 refine aJ ?_;refine bV oK _ i trivial [3,7,14] 13 _ _ oK ?_
 repeat (refine Rf.rs ?_;simp only[jj])
 refine aJ ?_;refine bV oK _ i trivial [9,16,17] 10 _ _ oK ?_
 repeat (refine Rf.rs ?_;simp only[jj])
 refine aJ ?_;refine bV oK _ i trivial [10,18] 8 _ _ oK ?_
 repeat (refine Rf.rs ?_;simp only[jj])
 refine aJ ?_;refine Rf.r1 20 rfl (fun K C=>?_);refine wnt oR ?_;go_simp
 refine LK.mono ?_;rintro r w2 ⟨u,rfl,hT,hb⟩;have G:=hid (i.below hb);have O:=hid (btr z hb);have T2:=hid (fun (I:e=0)=>show _∨_ from (hT I).elim Or.inl fun g=>Or.inr (g.low z.size));clear hT hb LK i;go_wp2_with fail
 refine C _ _ G (fun _=>trivial) (fun _ _=>?_);clear C K
 try simp only[jj]
 refine bV oK _ G trivial [21,22,23,24,25,26,27] 0 _ _ oK ?_
 repeat (refine Rf.rs ?_;simp only[jj])
 refine aJ ?_;refine bk oK ?_ _;by_cases I:e=0
 ·subst I;obtain⟨ah,f,ab,hx,am⟩:=T.out rfl;have Y:=hid (T2.out rfl);have HX:=hid hx;have hk:=ab;obtain⟨d,D⟩:∃d:Nat,d=f*16+(a%16).toNat:=⟨_,rfl⟩
  have an:x=(d:Int):=oA;subst an;have af:d<p.IE.length:=by
   have:=iS (p:=p) (f:=f) (by rw[ab];decide);have:=y.w.m.tk.lf.IE;omega
  have HD:=hid af;have aA:(d:Int)<(p.IE.length:Int):=oA;have az:(0:Int)<=(d:Int):=oA;have aB:(p.IE.length:Int)<=1000:=by have:=y.w.m.tk.lf.IE;have:=y.w.m.tk.lf.k2;omega
  have aq:=hid (show d/16=f∧p.k f=2 by omega);have HL:=hid ah;obtain⟨qu,nu,ku,hu⟩:∃q n k,u=.slice q n k:=by
   rcases Y.out with g|g
   ·exact⟨_,_,_,g.1⟩
   ·obtain⟨q,b,off,cap,h,_⟩:=g;exact⟨_,_,_,h⟩
  subst hu;clear hx af ab hk ah D am T2 T;go_upto_region 4 with fail
  have P:=hid (show Below w2.heap.size w2 w2.drew from aD w2 1);have B3:=hid (btr O P);have W:=hid (G.below P);have FZ:=hid (show w2.drew.frozen? ⟨B,c,none⟩=false from by
   have h2:=(Q.below B3).o.ID;rw[E8.out] at h2;exact h2.fr c)
  have PT:=hid (Q.JC E8 HC B3 (v:=.slice F E kv) (u:=.slice qu nu ku) (l:=l') H1.2.2.2.2.2.2.1 (Y.elim .inl fun g=>.inr (iH.below g P)));refine bG (R:=StR b2 b3 b4 wb A p.IE.length M B p.ID.length gt p.IA.length kt c t (.slice F E kv) s) [7] [0,1,2,3,4,5,6] 1 oK W oK oK oK (fun _=>?_);generalize w2.drew=w3 at*
  repeat (refine Rf.rs ?_;simp only[jj])
  refine aJ ?_;refine Rf.r1 7 rfl (fun K C=>?_);have y4:w3.cell? ⟨B,c,none⟩=some (.slice F E kv):=W.2.2.2.2.2.2.1;have fz:=FZ.out;go_simp
  refine C _ _ trivial (cg oK) (fun _ _=>?_);clear C K y4 fz
  try simp only[jj]
  refine bk oK ?_ _;obtain⟨ap,H,ad⟩:=PT.out;generalize w3.setCell ⟨B,c,none⟩ (Value.slice qu nu ku)=N at*;have y0:N.cell? ⟨b2,0,none⟩=some (.pointer (some ⟨wb,0,none⟩)):=((CS.kt ad) (b2,ptr wb) oS).1;have y1:N.cell? ⟨wb,0,none⟩=some (.slice (some ⟨A,0,none⟩) p.IE.length M):=by rw[<-E0.out];exact ai H.r rfl
  obtain⟨y2,aj⟩:N.cell? ⟨A,d,none⟩=some (.int .i64 (p.IE.getD d 0))∧0<=p.IE.getD d 0∧p.IE.getD d 0<=65535:=by
   have D:=HD.out;obtain⟨q,b,o,k,e,hq,ao⟩:=dS H.o.IE.1;rw[E0.out] at e
   cases e
   have h9:=hq (by show 0<p.IE.length;omega)
   cases h9
   have h8:=ao d D;rw[aC] at h8;rw[aa,ac D];exact⟨h8,y.w.m.IE.w _ (av D)⟩
  have al:=hid (show Tb p wb tag V w N from⟨ap,_,ad,H,y.JU HL,_,_,rfl⟩);have HR:=hid aj;clear aj H ad PT W FZ H1 Y G;generalize p.IE.getD d 0=vv at*;go_wp2_with fail
  refine ar (v:=.tuple #[.int .i64 vv,.bool true]) (by simp[results,Tryz.results45,go_sem]) rfl ⟨vv,true,rfl,HR.out,al.out⟩
 ·have au:(e==0)=false:=by simp[I]
  go_wp2_with fail
  refine ar (v:=.tuple #[.int .i64 0,.bool false]) (by simp[results,Tryz.results45,go_sem]) rfl ⟨0,false,rfl,oD,tag,p,bE O,Q.below O,Rm.refl y⟩
theorem Ao (wb:Nat) (tag:Nat->Nat) (V:Nat->Value) (p:PW) (b2 b3 b4 c t:Nat) (a:Int) (v0:Int) (ah:0<=v0∧v0<=65535) (w:World) (bt:di w wb tag V p) (A:Lv p) (Q:c<p.ID.length) (h6:p.k t=6) (cs:jf [(b2,ptr wb),(b3,.int .i64 (c:Int)),(b4,.int .i64 (t:Int))] tag w):
  Calls Tryz.prog 47 #[.int .i64 a,.int .i64 v0,ptr b2,ptr b3,ptr b4] w fun r w'=>∃ok:Bool,r=.returned (.bool ok)∧Tb p wb tag V w w':=by
 have ht:=iS (p:=p) (f:=t) (by rw[h6];decide);obtain⟨B,T,G,gt,kt,v,e0,e8,e3,af,hr⟩:=Ib bt A Q ht cs;obtain⟨L,hL⟩:∃L,iX p.IE (p.ID.getD c []) (p.t t 12) a true=L:=⟨_,rfl⟩
 have TL:=A.JO Q;have hs:fG p (p.t t 12) 4=true:=A.w.m.tk.a.ok t h6 12 oD;have Z:=hid (wV A.w TL (wr:=true) (a:=a) hs);obtain⟨x,l',e⟩:=L;rw[hL] at Z;have lf:=A.w.m.tk.lf;have E:=hid (show Below w.heap.size w w.drew from aD w 1);have RI:=bt.JN A;rw[e0] at RI;have ad:=(af.JU (by have:=TL.n;omega)).1;obtain⟨J,I,kv,ev⟩:∃q n k,v=.slice q n k:=by obtain⟨q,b,off,cap,h,_⟩:=ad;exact⟨_,_,_,h⟩
 subst ev;have aa:=oh (.slice (some ⟨B,0,none⟩) p.IE.length T) (.slice J I kv) p.IE (p.ID.getD c []) (p.t t 12) a true w.drew (RI.below E) (ad.below E);rw[hL] at aa;have LK:=hid aa;have X:=hid bt;have CS:=hid cs;have F:=hid A;have Y:=hid e0;have E8:=hid e8;have HC:=hid Q;have H1:=hid hr;have j:=hid (hr.below E);have ax:(c:Int)<(p.ID.length:Int):=oA;have aF:(t:Int)<(p.IA.length:Int):=by have:=lf.IA;omega
 have ay:(p.ID.length:Int)<=1000:=by have:=lf.ID;have:=lf.c2;omega
 have aG:(p.IA.length:Int)<=1000:=by have:=lf.IA;have:=lf.k2;omega
 have aw:(0:Int)<=(c:Int):=oA;have aE:(0:Int)<=(t:Int):=oA;generalize p.t t 12=s at*;clear bt cs A e0 e8 e3 af hr hL aa lf RI ad hs TL ht Q h6;unfold ptr;go_enter Tryz.func47,Tryz.ntmps47
 go_wp2_with fail
 refine Rf.dZ (S:=StR b2 b3 b4 wb B p.IE.length T G p.ID.length gt p.IA.length kt c t (.slice J I kv) s) (R:=fun _=>True) [] oK j trivial (fun _ _=>?_);generalize w.drew=w1 at*;refine bV oK _ j trivial [0,4,8,11,15] 23 _ _ oK ?_
 repeat (refine Rf.rs ?_;simp only[jj])
 refine aJ ?_;refine bV oK _ j trivial [1,2,5,6,12,13,19] 16 _ _ oK ?_
 repeat (refine Rf.rs ?_;simp only[jj])
 refine aJ ?_;refine bV oK _ j trivial [3,7,14] 13 _ _ oK ?_
 repeat (refine Rf.rs ?_;simp only[jj])
 refine aJ ?_;refine bV oK _ j trivial [9,16,17] 10 _ _ oK ?_
 repeat (refine Rf.rs ?_;simp only[jj])
 refine aJ ?_;refine bV oK _ j trivial [10,18] 8 _ _ oK ?_
 repeat (refine Rf.rs ?_;simp only[jj])
 refine aJ ?_;refine Rf.r1 20 rfl (fun K H=>?_);refine wnt oR ?_;go_simp
 refine LK.mono ?_;rintro r w2 ⟨u,rfl,hT,hb⟩;have N:=hid (j.below hb);have U:=hid (btr E hb);have T2:=hid (fun (P:e=0)=>show _∨_ from (hT P).elim Or.inl fun g=>Or.inr (g.low E.size));clear hT hb LK j;go_wp2_with fail
 refine H _ _ N (fun _=>trivial) (fun _ _=>?_);clear H K
 try simp only[jj]
 refine bV oK _ N trivial [21,22,23,24,25,26,27] 0 _ _ oK ?_
 repeat (refine Rf.rs ?_;simp only[jj])
 refine aJ ?_;refine bk oK ?_ _;by_cases P:e=0
 ·subst P;obtain⟨ag,f,ab,hx,am⟩:=Z.out rfl;have T3:=hid (T2.out rfl);have HX:=hid hx;have hk:=ab;obtain⟨d,hd⟩:∃d:Nat,d=f*16+(a%16).toNat:=⟨_,rfl⟩
  have an:x=(d:Int):=oA;subst an;have ae:d<p.IE.length:=by
   have:=iS (p:=p) (f:=f) (by rw[ab];decide);have:=F.w.m.tk.lf.IE;omega
  have HD:=hid ae;have aA:(d:Int)<(p.IE.length:Int):=oA;have az:(0:Int)<=(d:Int):=oA;have aB:(p.IE.length:Int)<=1000:=by have:=F.w.m.tk.lf.IE;have:=F.w.m.tk.lf.k2;omega
  have C:=hid (show d/16=f∧p.k f=2 by omega);have HL:=hid ag;obtain⟨qu,nu,ku,hu⟩:∃q n k,u=.slice q n k:=by
   rcases T3.out with g|g
   ·exact⟨_,_,_,g.1⟩
   ·obtain⟨q,b,off,cap,h,_⟩:=g;exact⟨_,_,_,h⟩
  subst hu;clear hx ae ab hk ag hd am T2 Z;go_upto_region 4 with fail
  have W:=hid (show Below w2.heap.size w2 w2.drew from aD w2 1);have B3:=hid (btr U W);have R3:=hid (N.below W);have FZ:=hid (show w2.drew.frozen? ⟨G,c,none⟩=false from by
   have D:=(X.below B3).o.ID;rw[E8.out] at D;exact D.fr c)
  have PT:=hid (X.JC E8 HC B3 (v:=.slice J I kv) (u:=.slice qu nu ku) (l:=l') H1.2.2.2.2.2.2.1 (T3.elim .inl fun g=>.inr (iH.below g W)));refine bG (R:=StR b2 b3 b4 wb B p.IE.length T G p.ID.length gt p.IA.length kt c t (.slice J I kv) s) [7] [0,1,2,3,4,5,6] 1 oK R3 oK oK oK (fun _=>?_);generalize w2.drew=w3 at*
  repeat (refine Rf.rs ?_;simp only[jj])
  refine aJ ?_;refine Rf.r1 7 rfl (fun K H=>?_);have y4:w3.cell? ⟨G,c,none⟩=some (.slice J I kv):=R3.2.2.2.2.2.2.1;have fz:=FZ.out;go_simp
  refine H _ _ trivial (cg oK) (fun _ _=>?_);clear H K y4 fz
  try simp only[jj]
  refine bk oK ?_ _;obtain⟨aq,O,ac⟩:=PT.out;generalize w3.setCell ⟨G,c,none⟩ (Value.slice qu nu ku)=M at*;have y0:M.cell? ⟨b2,0,none⟩=some (.pointer (some ⟨wb,0,none⟩)):=((CS.kt ac) (b2,ptr wb) oS).1;have y1:M.cell? ⟨wb,0,none⟩=some (.slice (some ⟨B,0,none⟩) p.IE.length T):=by rw[<-Y.out];exact ai O.r rfl
  obtain⟨y2,au⟩:(∃z:Int,M.cell? ⟨B,d,none⟩=some (.int .i64 z))∧M.frozen? ⟨B,d,none⟩=false:=by
   have hd:=HD.out;have D:=O.o.IE;rw[Y.out] at D;obtain⟨q,b,o,k,e,hq,ao⟩:=dS D.1
   cases e
   have h9:=hq (by show 0<p.IE.length;omega)
   cases h9
   have h8:=ao d hd;rw[aC] at h8;exact⟨⟨_,h8⟩,D.frozen d⟩
  obtain⟨z0,y2⟩:=y2;have aj:=hid (show Tb p wb tag V w (M.setCell ⟨B,d,none⟩ (.int .i64 v0)) from by
   obtain⟨al,ap⟩:=O.IS Y d v0;have s1:=F.JU (c:=c) HL;have s2:=s1.w.word (i:=d) (v:=v0) HD ah (gw.2 ⟨fun y=>by rw[C.1] at y;have:=C.2;have y:p.k f=4:=y;omega,fun y=>by rw[C.1] at y;have:=C.2;have y:p.k f=3:=y;omega⟩) (fun y=>by rw[C.1] at y;have:=C.2;have y:p.k f=3∨p.k f=4:=y;omega);exact⟨aq,_,ac.trans ap,al,s1.trans s2,_,_,rfl⟩)
  clear O ac PT R3 FZ H1 T3 N ah;go_wp2_with fail
  refine ar (v:=.bool true) (by simp[results,Tryz.results47,go_sem]) rfl ⟨true,rfl,aj.out⟩
 ·have av:(e==0)=false:=by simp[P]
  go_wp2_with fail
  refine ar (v:=.bool false) (by simp[results,Tryz.results47,go_sem]) rfl ⟨false,rfl,tag,p,bE U,X.below U,Rm.refl F⟩
theorem pL (p:PW) (n a:Int):(sAt p n a).2=0∨(sAt p n a).2=2∨(sAt p n a).2=3:=by
 unfold sAt;split
 ·split
  ·split
   ·exact .inl rfl
   ·split
    ·exact .inl rfl
    ·exact .inr (.inr rfl)
  ·exact .inr (.inl rfl)
 ·exact .inr (.inr rfl)
theorem gN (p:PW) (n a k r:Int):0<=(kAt p n a k r).2∧(kAt p n a k r).2<=13:=by
 unfold kAt;by_cases h:(sAt p n a).2=0
 ·rw[ah h];unfold kOf;split
  ·decide
  ·split
   ·split
    ·exact⟨Int.le_refl 0,show (0:Int)<=13 by decide⟩
    ·decide
   ·decide
 ·rw[ae h];have:=pL p n a;show 0<=(sAt p n a).2∧(sAt p n a).2<=13
  omega
theorem kE {p:PW} (h:Lw p) {n a k r:Int} (hk:2<=k) (e:(kAt p n a k r).2=0):∃f:Nat,(kAt p n a k r).1 1=f∧p.k f=k:=by
 obtain⟨v,q⟩:=h.m.keys;unfold kAt at e ⊢;by_cases b:(sAt p n a).2=0
 ·rw[ah b] at e ⊢;generalize (sAt p n a).1.toNat=i at e ⊢;have c:∀j,j<6->p.IB.getD i fC j=p.s i j:=fun j u=>by
   show p.IB.getD i fC j=p.IB.getD i eS j
   rw[aa,aa]
   cases p.IB[i]? with
   |some x=>rfl
   |none=>show fC j=eS j;unfold fC eS;rw[ae oA]
  unfold kOf at e ⊢;have g:=c 0 oD;have t:=c 1 oD;by_cases c0:p.IB.getD i fC 0=0
  ·rw[ah c0] at e;cases e
  rw[ae c0] at e ⊢;by_cases c1:p.IB.getD i fC 0=k
  ·rw[ah c1] at e ⊢;split at e
   ·rename_i c2;rw[ah c2];have d:=(q.key i (by rw[<-g];exact c0)).is;rw[<-g, <-t,c1] at d;obtain⟨f,l,_,o⟩:=fJ (d.resolve_left oA);exact⟨f,l,o⟩
   ·cases e
  ·rw[ae c1] at e;cases e
 ·rw[ae b] at e;exact absurd e b
theorem vU {p:PW} (h:Lw p) {f j:Nat} (a:p.k f=4) (i:j<16) (c:p.IE.getD (f*16+j) 0≠0):∃t:Nat,p.IE.getD (f*16+j) 0=32768+t∧p.k t=3:=by
 have lf:=h.m.tk.lf;have g:=iS (p:=p) (f:=f) (by rw[a];decide);have hl:f*16+j<p.IE.length:=by have:=lf.IE;omega
 have b1:=(gw.1 (h.m.IE.e _ hl)).1 (by rw[show (f*16+j)/16=f by omega];exact a);obtain⟨t,d,_,b⟩:=fJ (b1.resolve_left c);exact⟨t,oA,b⟩
theorem Cz (wb:Nat) (tag:Nat->Nat) (V:Nat->Value) (p:PW) (d:Int) (g:Nat->Int) (w:World) (bt:di w wb tag V p) (D:Lv p) (hg:∀k,k<8->0<=g k∧g k<=65535):
  Calls Tryz.prog 142 #[.pointer (some ⟨wb,0,none⟩),.int .i64 d,.agg (cf 8 g).toArray] w fun r w'=>Okd p wb tag w r w':=by
 have lf:=D.w.m.tk.lf;have HV:=hid (bt.view D.w.fits D.w.IZ);have y:=hid bt;have c:=hid D;obtain⟨F,k0,e0⟩:∃g cap,V 0=.slice (some ⟨g,0,none⟩) p.IE.length cap:=bt.o.IE.form (by have:=lf.IE;have:=lf.k1;show 0<p.IE.length;omega)
 have M:=hid e0;have S:=hid (bal (ag w.heap.size w) (.cells (cf 8 g).toArray 43));have Y:=hid (iu w (cf 8 g) 43 _ rfl);obtain⟨a,ha⟩:∃a:Nat,g 3=a:=⟨(g 3).toNat,by have:=(hg 3 oD).1;omega⟩
 have a5:a<=65535:=by have:=(hg 3 oD).2;omega
 have t2:=ai Y (dm 8 g 2 oD);have KA:=hid (fH wb V p d (g 2) 4 2 _ (HV.below S) D.s);have ER:=hid (gN p d (g 2) 4 2);have ET:=hid (fun h=>kE D.w (n:=d) (a:=g 2) (k:=4) (r:=2) oD h);have S0:=hid (show (w.alloc (.cells (cf 8 g).toArray 43)).heap.size=w.heap.size+1 by simp);go_enter Tryz.func142,Tryz.ntmps142
 go_wp2_with fail
 generalize World.alloc _ _=w1 at S Y t2 KA S0 ⊢;refine KA.mono ?_;rintro r w2 ⟨rfl,hb⟩;have B2:=hid (btr S hb);have T2:=hid (bj Y hb);have S2:=hid (show w.heap.size<w2.heap.size by have:=hb.size;have:=S0.out;omega);generalize (kAt p d (g 2) 4 2).2=E at*;generalize (kAt p d (g 2) 4 2).1=K at*;have K3:=hid (fun o=>aK (T:=fun _=>False) (w:=w) (b:=w2.heap.size) (.inr (Nat.le_of_lt S2)) (cf 6 K) 0 _ ((Kp.IG B2).alloc o));have T3:=hid (fun o=>World.rangeAt_setCells_apart (World.rangeAt_alloc T2 o) w2.heap.size 0 (cf 6 K) (.inl (Nat.ne_of_lt S2)));have X3:=hid (fun z u (hz:6<=z.size)=>World.rangeAt_setCells_same (w2.alloc (.cells z u)) w2.heap.size 0 (cf 6 K) (by rw[az];exact aR w2 z u _ 6 rfl hz));go_upto_region 2 with ((with_reducible refine gst 78 ?_);refine hJ rfl _ _ rfl w2.heap.size 0 rfl (cf 6 K) rfl (az _ _) (cC _ _) (aR _ _ _ _ _ oS oD) ?_)
 generalize Z:World.setCells _ _ _ _=x;have N:=hid (show Kp (fun _=>False) w x by rw[<-Z];exact K3 _);have T4:=hid (show x.rangeAt w.heap.size 0 (cf 8 g) by rw[<-Z];exact T3 _);have X4:=hid (show x.rangeAt w2.heap.size 0 (cf 6 K) by rw[<-Z];exact X3 _ _ oS);by_cases hE:E=0
 case neg=>
  have a4:(E==0)=false:=by simp[hE]
  go_wp2_with fail
  refine ar (v:=.int .i64 (E)) (by simp[results,Tryz.results142,go_sem]) rfl ⟨E,rfl,ER.out,dy c y N.all⟩
 case pos=>
  subst hE;obtain⟨f,aO,aQ⟩:=ET.out rfl;have aj:=hid aQ;have I:=ai T4 (dm 8 g 3 oD);rw[ha] at I;by_cases a3:255<a
  ·have aL:(255:Int)<(a:Int):=oA;go_wp2_with fail
   refine ar (v:=.int .i64 (2)) (by simp[results,Tryz.results142,go_sem]) rfl ⟨2,rfl,oD,dy c y N.all⟩
  ·have aL:¬(255:Int)<(a:Int):=oA;have lf:=c.w.m.tk.lf;have aS:=iS (p:=p) (f:=f) (by rw[aj.out];decide);obtain⟨B,al⟩:∃e:Nat,p.IE.getD (f*16+a/16) 0=e:=⟨(p.IE.getD (f*16+a/16) 0).toNat,by
    have:=(c.w.m.IE.w _ (av (show f*16+a/16<p.IE.length by have:=lf.IE;omega))).1;rw[aa,ac (show f*16+a/16<p.IE.length by have:=lf.IE;omega)];simp only[aG];omega⟩
   have af:=hid (y.below N.all);have ax:∀i,i<p.IE.length->x.cell? ⟨F,i,none⟩=some (.int .i64 (p.IE.getD i 0)):=fun i hi=>by
    obtain⟨q,b,o,k,e,hq,ad⟩:=dS af.o.IE.1;rw[M.out] at e
    cases e
    have h9:=hq oA
    cases h9
    have h8:=ad i hi;rw[aC] at h8;rw[aa,ac hi];exact h8
   have Q:x.cell? ⟨wb,0,none⟩=some (.slice (some ⟨F,0,none⟩) p.IE.length k0):=by rw[<-M.out];exact ai af.r rfl
   have y1:x.cell? ⟨w2.heap.size,1,none⟩=some (.int .i64 (f:Int)):=by rw[<-aO];exact ai X4 (dm 6 K 1 oD)
   have P:f*16+a/16<p.IE.length:=by have:=lf.IE;omega
   have J:=ax _ P;rw[al] at J;have a7:(f:Int)<=1000:=by have:=lf.k2;omega
   have ba:(p.IE.length:Int)<=1000:=by have:=lf.IE;have:=lf.k2;omega
   have RC:=hid ax;have ah:=hid al;have a0:=hid P;have a2:=hid aS;obtain⟨j,hj⟩:∃j:Nat,f*16+a/16=j:=⟨_,rfl⟩
   rw[hj] at J P;have aM:(j:Int)<(p.IE.length:Int):=oA;have aN:(0:Int)<=(j:Int):=oA;have aU:(f:Int)*16+(a:Int)/16=(j:Int):=oA;have HJ:=hid hj;clear hj P;have KC:=hid (fun W (h:Below x.heap.size x W)=>(⟨cu h I,cu h Q,cu h y1,cu h J⟩:_∧_∧_∧_));go_upto_region 6 with fail
   refine bC oK oK ?_
   repeat (first|go_big_quiet_skip|(go_big_quiet_want;go_big_quiet_op;first|go_big_quiet_on|go_big_quiet_call (fail)))
   refine cY ?_;intro _ G;obtain⟨nq,H⟩:=G;subst H;have U:=hid (aE (ag x.heap.size x) nq);clear Q y1 J I;obtain⟨I,Q,y1,J⟩:=KC.out _ U;generalize x.drewN nq=O at*;have BB:=hid (btr N.all U);by_cases an:B=0
   ·subst an;have ad:((((0:Nat):Int))==0)=true:=rfl;go_upto_region 7 with fail
    refine bC oK oK ?_
    repeat (first|go_big_quiet_skip|(go_big_quiet_want;go_big_quiet_op;first|go_big_quiet_on|go_big_quiet_call (fail)))
    refine cY ?_;intro _ G;obtain⟨nq,H⟩:=G;subst H;have C:=hid (aE BB nq);generalize O.drewN nq=A at*;go_wp2_with fail
    refine ar (v:=.int .i64 (9)) (by simp[results,Tryz.results142,go_sem]) rfl ⟨9,rfl,oD,dy c y C⟩
   ·have ad:((B:Int)==0)=false:=by simp;omega
    obtain⟨t,aq,aw⟩:=vU c.w (f:=f) (j:=a/16) aj oA (by rw[ah.out];omega);rw[ah.out] at aq;have aW:=iS (p:=p) (f:=t) (by rw[aw];decide);have lf:=c.w.m.tk.lf;obtain⟨m,hm⟩:∃m:Nat,t*16+a%16=m:=⟨_,rfl⟩
    have ab:m<p.IE.length:=by have:=lf.IE;omega
    have aV:(B:Int)%1024*16+(a:Int)%16=(m:Int):=by have:=lf.k2;omega
    have a8:(m:Int)<(p.IE.length:Int):=oA;have a9:(0:Int)<=(m:Int):=oA;have a6:(B:Int)<=65535:=by have:=lf.k2;omega
    obtain⟨pv,ap⟩:∃z,p.IE.getD m 0=z:=⟨_,rfl⟩
    have y3:=cu U (RC.out m ab);rw[ap] at y3;have ay:=hid ab;clear aq aw aW lf hm ab ap an aU aM aN;go_upto_region 7 with fail
    refine bC oK oK ?_
    repeat (first|go_big_quiet_skip|(go_big_quiet_want;go_big_quiet_op;first|go_big_quiet_on|go_big_quiet_call (fail)))
    refine cY ?_;intro _ G;obtain⟨nq,H⟩:=G;subst H;have C:=hid (aE (ag O.heap.size O) nq);have b0:=cu C Q;have b3:=cu C y3;have b4:=cu C I;generalize O.drewN nq=A at*;have ae:=hid (btr BB C);by_cases ao:pv=0
    ·have aT:(pv==0)=true:=by simp[ao]
     go_wp2_with fail
     refine ar (v:=.int .i64 (9)) (by simp[results,Tryz.results142,go_sem]) rfl ⟨9,rfl,oD,dy c y ae⟩
    ·have aT:(pv==0)=false:=by simp[ao]
     go_upto_region 9 with fail
     have L:=hid (show Below A.heap.size A A.drew from aD A 1);have hW:IntKind.i64.wrap (IntKind.i64.wrap ((B:Int).tmod 1024*16)+(a:Int).tmod 16)=(m:Int):=by
      rw[cD oA,cD oA,show IntKind.i64.wrap ((B:Int)%1024*16)=(B:Int)%1024*16 from bZ _ oA oA,aV];exact bZ _ oA oA
     have X:=hid (btr ae L);have FZ:=hid (show A.drew.frozen? ⟨F,m,none⟩=false from by
      have h2:=(y.below X).o.IE;rw[M.out] at h2;exact h2.frozen m)
     have aF:=hid ((y.below X).IS M m 0);have y5:=cu L b3;refine bG (R:=fun W=>W.cell? ⟨wb,0,none⟩=some (.slice (some ⟨F,0,none⟩) p.IE.length k0)∧W.cell? ⟨w.heap.size,3,none⟩=some (.int .i64 (a:Int))) [12] [0,1,2,3,4,5,6,7,8,9,10,11] 1 oK ⟨cu L b0,cu L b4⟩ oK oK oK (fun _=>?_);generalize A.drew=W6 at*
     repeat (refine Rf.rs ?_;simp only[jj])
     refine aJ ?_;refine Rf.r1 12 rfl (fun K hK=>?_);have fz:=FZ.out;go_simp
     refine hK _ _ trivial (cg oK) (fun _ _=>?_)
     try simp only[jj]
     refine bk oK ?_ _;obtain⟨aI,aY⟩:=aF.out;generalize W6.setCell ⟨F,m,none⟩ (Value.int IntKind.i64 0)=W7 at*;have HU:=hid (c.JH ay);have FW:=hid (ft wb tag V {p with IE:=p.IE.set m 0} 0 (-1) W7 aI (by
      have h:=c.w.fits;exact⟨by show (p.IE.set m 0).length<=_;rw[au];exact h.IE,h.kinds,h.IB,h.IA,h.lines,h.line,h.bits,h.IC,h.ready,h.next,h.ID,h.IF⟩) c.w.IZ (fun l hl e he=>by
      have:=(c.w.tl l hl).t e he;unfold fi at this;simp only[am,bp] at this;exact this.1.2) (fun z hz=>by
      rcases aP hz with h|h
      ·have:=c.w.m.IE.w z h;omega
      ·rw[h];decide) (by show (p.IE.set m 0).length<=600;rw[au];have:=c.w.m.tk.lf.IE;have:=c.w.m.tk.lf.k2;omega))
     have aA:=hid ((bE (tag:=tag) X).trans aY);go_wp2_with fail
     refine FW.mono ?_;rintro r W8 ⟨rfl,aZ,aH,aX⟩;have aB:=hid (show Bx p wb tag w W8 from⟨aZ,V,_,aA.trans aX,aH,HU.out⟩);go_wp2_with fail
     refine ar (v:=.int .i64 (0)) (by simp[results,Tryz.results142,go_sem]) rfl ⟨0,rfl,oD,aB.out⟩
