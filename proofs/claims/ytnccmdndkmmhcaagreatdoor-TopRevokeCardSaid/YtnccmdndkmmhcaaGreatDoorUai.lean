/- Uai -/
import Derived.Deep.RegionHeld3
import Derived.Test.YtnccmdndkmmhcaaGreatDoorUah
set_option maxRecDepth 100000
set_option maxHeartbeats 16000000
namespace Go.Proofs.YtnccmdndkmmhcaaGreatDoor
namespace Wd
open Go.RowKit Mem Bw Nums Mmu
structure DL (W:World) (wb:Nat) (L:Nat->Nat) (V:Nat->Value) (p:PW):Prop where
 r:W.rangeAt wb 0 (de V).toList
 t:W.there wb 0 11
 o:gj W L V p
 lo:L 10<=wb
 lt:wb<W.heap.size
theorem nQ {B:Nat}:∀(a:List Value) (o:Nat) (w:World),B<=B->Below B w (w.setCells B o a)
 |[],_,w,_=>af _ _
 |v::r,o,w,h=>by
  rw[World.setCells];exact ((af B w).setCell (aq _) v).trans (nQ r (o+1) _ h)
theorem nA {w:World} {L:Nat->Nat} {v:Nat->Value} {p:PW} (h:gj w L v p) {B:Nat} (hB:L 10<=B) (c:List Value) (o:Nat) (f:B<=w.heap.size:=by simp):gj (w.setCells B o c) L v p:=by
 have up:∀d j,j+d=10->L j<=L 10:=fun d=>by
  induction d with
  |zero=>intro j e;rw[show j=10 by omega];exact aq _
  |succ d ih=>intro j e;exact aB (h.mono j oA) (ih (j+1) oA)
 have u:∀j,j<=10->L j<=B:=fun j e=>aB (up (10 - j) j oA) hB;have a:=nQ c o w (aq B);have b:B<=(w.setCells B o c).heap.size:=by rw[fu];exact f
 exact⟨h.mono,h.IL.IX (u 1 oA) a,h.kinds.IX (u 2 oA) a,h.IH.IX (u 3 oA) a,h.II.IX (u 4 oA) a,h.lines.IX (u 5 oA) a b,h.bits.IX (u 6 oA) a,h.IJ.IX (u 7 oA) a,h.ready.IX (u 8 oA) a b,h.IK.IX (u 9 oA) a b,h.IQ.IX (u 10 oA) a,h.time⟩
def sts (W:World) (ws:List (Nat×Nat×List Value)):World:=ws.foldl (fun W x=>W.setCells x.1 x.2.1 x.2.2) W
theorem IG (W:World):sts W []=W:=rfl
def InT (w:World) (tag:Nat->Nat) (t I s:Nat) (u:Value) (c:Nat×List Value):Prop:=w.ownsRow 0 I s u c.1 c.2∧∀k,u.ownBlock=some k->tag k=t
def fx (w:World) (tag:Nat->Nat) (t i O I s n:Nat) (v:Value) (cc:Nat->Nat×List Value):Prop:=∃g us,v=.slice (some ⟨g,0,none⟩) n n∧tag g=t∧us.length=n∧w.ownsRow 0 O 1 (.slice (some ⟨g,0,none⟩) n n) n us∧∀j (h:j<us.length),InT w tag (i+3*j) I s us[j] (cc j)
theorem iy {w w':World} {T:Nat->Prop} {B e size n:Nat} {v:Value} {xs:List Value} (h:w.ownsRow B e size v n xs) (hk:Kp T w w') (i:∀k,v.ownBlock=some k->¬T k):w'.ownsRow B e size v n xs:=by
 refine⟨h.1,?_⟩;rcases h.2 with c|⟨g,cap,b,rfl,d,a,f⟩
 ·exact .inl c
 ·exact .inr ⟨g,cap,b,rfl,d,by rw[hk.block g (Array.getElem?_eq_some_iff.1 a).1 (i g rfl)];exact a,f⟩
theorem InT.kp {w w':World} {T:Nat->Prop} {tag tag':Nat->Nat} {t I s:Nat} {u:Value} {c:Nat×List Value} (h:InT w tag t I s u c) (hk:Kp T w w') (b:∀k,k<w.heap.size->tag' k=tag k) (a:∀k,tag k=t->¬T k):InT w' tag' t I s u c:=
 ⟨iy h.1 hk (fun k e=>a k (h.2 k e)),fun k e=>(b k (h.1.lt k e).2).trans (h.2 k e)⟩
theorem fx.kp {w w':World} {T:Nat->Prop} {tag tag':Nat->Nat} {t i O I s n:Nat} {v:Value} {cc:Nat->Nat×List Value} (h:fx w tag t i O I s n v cc) (hk:Kp T w w') (d:∀k,k<w.heap.size->tag' k=tag k) (c:∀k,tag k=t∨(∃j,tag k=i+3*j)->¬T k):fx w' tag' t i O I s n v cc:=by
 obtain⟨g,us,f,a,l,b,m⟩:=h;refine⟨g,us,f,(d g (b.lt g rfl).2).trans a,l,iy b hk (fun k e=>c k (.inl ?_)),fun j o=>(m j o).kp hk d (fun k e=>c k (.inr ⟨j,e⟩))⟩;have:g=k:=by simpa [Value.ownBlock] using e
 rw[<-this];exact a
def InE (w:World) (tag:Nat->Nat) (t:Nat) (u:Value) (l:List Ent):Prop:=InT w tag t 40 4 u (l.length,fo l)∨∃b off cap,u=.slice (some ⟨b,off,none⟩) l.length cap∧gx w b off l∧tag b=t∧b<w.heap.size∧l.length<=100∧l.length<=cap∧∀o,w.frozen? ⟨b,o,none⟩=false
theorem InE.kp {w w':World} {T:Nat->Prop} {tag tag':Nat->Nat} {t:Nat} {u:Value} {l:List Ent} (h:InE w tag t u l) (hk:Kp T w w') (m:∀k,k<w.heap.size->tag' k=tag k) (i:∀k,tag k=t->¬T k):InE w' tag' t u l:=by
 rcases h with h|⟨b,off,cap,n,a,g,d,q,r,s⟩
 ·exact .inl (h.kp hk m i)
 ·have c:∀{o:Nat} {v:Value},w.cell? ⟨b,o,none⟩=some v->w'.cell? ⟨b,o,none⟩=some v:=fun {o v} e=>(hk.cell (p:=⟨b,o,none⟩) d (i b g)).trans e;exact .inr ⟨b,off,cap,n,fun j f=>⟨c (a j f).1,c (a j f).2.1,c (a j f).2.2.1,c (a j f).2.2.2⟩,(m b d).trans g,aE d hk.size,q,r,fun o=>(hk.frozen (p:=⟨b,o,none⟩) d (i b g)).trans (s o)⟩
theorem InE.JR {w:World} {tag:Nat->Nat} {t:Nat} {u:Value} {l:List Ent} (h:InE w tag t u l) (hl:l.length<=100):jb w u l∧vP u:=by
 rcases h with h|⟨b,off,cap,a,c,f,g,d,e,i⟩
 ·exact ya h.1 hl
 ·exact⟨⟨_,b,off,cap,a,fun _=>rfl,c,d⟩,by rw[a];exact e⟩
def jR (w:World) (tag:Nat->Nat) (n:Nat) (v:Value) (ls:List (List Ent)):Prop:=∃g us,v=.slice (some ⟨g,0,none⟩) n n∧tag g=10∧us.length=n∧w.ownsRow 0 38 1 (.slice (some ⟨g,0,none⟩) n n) n us∧∀j (h:j<us.length),InE w tag (14+3*j) us[j] (ls.getD j [])
theorem fx.e {w:World} {tag:Nat->Nat} {n:Nat} {v:Value} {ls:List (List Ent)} (h:fx w tag 10 14 38 40 4 n v (ce ls)):jR w tag n v ls:=by
 obtain⟨g,us,a,b,c,d,f⟩:=h;exact⟨g,us,a,b,c,d,fun j i=>.inl (f j i)⟩
theorem jR.kp {w w':World} {T:Nat->Prop} {tag tag':Nat->Nat} {n:Nat} {v:Value} {ls:List (List Ent)} (h:jR w tag n v ls) (hk:Kp T w w') (d:∀k,k<w.heap.size->tag' k=tag k) (c:∀k,tag k=10∨(∃j,tag k=14+3*j)->¬T k):jR w' tag' n v ls:=by
 obtain⟨g,us,f,a,i,b,l⟩:=h;refine⟨g,us,f,(d g (b.lt g rfl).2).trans a,i,iy b hk (fun k e=>c k (.inl ?_)),fun j m=>(l j m).kp hk d (fun k e=>c k (.inr ⟨j,e⟩))⟩;have:g=k:=by simpa [Value.ownBlock] using e
 rw[<-this];exact a
theorem jR.IK {w:World} {tag:Nat->Nat} {v:Value} {ls:List (List Ent)} (h:jR w tag ls.length v ls) (hl:∀l∈ls,l.length<=100):iE w v ls:=by
 obtain⟨g,us,rfl,_,d,e,f⟩:=h;refine⟨some ⟨g,0,none⟩,g,0,ls.length,rfl,fun _=>rfl,fun j a=>?_⟩;have b:j<us.length:=by rw[d];exact a
 have c:=e.cellAt j oA;rw[ac b] at c;have:=f j b;rw[aa,ac a] at this;exact⟨us[j],by rw[aC];exact c,this.JR (hl _ (av a))⟩
structure fS (w:World) (tag:Nat->Nat) (v:Nat->Value) (p:PW):Prop where
 IL:InT w tag 2 3 1 (v 0) (p.IL.length,dU p.IL)
 kinds:InT w tag 3 3 1 (v 1) (p.kinds.length,dU p.kinds)
 IH:InT w tag 4 34 7 (v 2) (p.IH.length,eX 7 p.IH)
 II:InT w tag 5 37 20 (v 3) (p.II.length,eX 20 p.II)
 lines:fx w tag 6 12 22 3 1 p.lines.length (v 4) (ci p.lines)
 bits:InT w tag 7 3 1 (v 5) (p.bits.length,dU p.bits)
 IJ:InT w tag 8 3 1 (v 6) (p.IJ.length,dU p.IJ)
 ready:fx w tag 9 13 22 3 1 p.ready.length (v 7) (ci p.ready)
 IK:jR w tag p.IK.length (v 8) p.IK
 IQ:InT w tag 11 3 1 (v 9) (p.IQ.length,dU p.IQ)
 time:v 10=.int .i64 p.time
structure cb (W:World) (wb:Nat) (tag:Nat->Nat) (V:Nat->Value) (p:PW):Prop where
 r:W.rangeAt wb 0 (de V).toList
 t:W.there wb 0 11
 g:tag wb=1
 o:fS W tag V p
structure Kt (tag tag':Nat->Nat) (W W':World):Prop where
 k:Kp (fun k=>tag k≠0) W W'
 t:∀k,k<W.heap.size->tag k=0->tag' k=0
theorem Kt.refl (tag:Nat->Nat) (W:World):Kt tag tag W W:=⟨aV _ _,fun _ _ h=>h⟩
theorem _root_.Go.Proofs.YtnccmdndkmmhcaaGreatDoor.ew:type_of% @Kt.refl:= @Kt.refl
theorem Kt.trans {tag tag' b:Nat->Nat} {A B C:World} (h:Kt tag tag' A B) (k:Kt tag' b B C):Kt tag b A C:=
 ⟨⟨k.k.os.trans h.k.os,k.k.tape.trans h.k.tape,k.k.output.trans h.k.output,aB h.k.size k.k.size,fun i hi a=>(k.k.block i (aE hi h.k.size) (fun e=>e (h.t i hi (Classical.byContradiction fun f=>a f)))).trans (h.k.block i hi a)⟩,fun i hi c=>k.t i (aE hi h.k.size) (h.t i hi c)⟩
theorem Kt.below {tag:Nat->Nat} {A B:World} (h:Below A.heap.size A B):Kt tag tag A B:=⟨.IM h,fun _ _ e=>e⟩
theorem _root_.Go.Proofs.YtnccmdndkmmhcaaGreatDoor.bp:type_of% @Kt.below:= @Kt.below
theorem Kt.cell {tag tag':Nat->Nat} {A B:World} (h:Kt tag tag' A B) {b o:Nat} {x:Value} (a:A.cell? ⟨b,o,none⟩=some x) (c:tag b=0):B.cell? ⟨b,o,none⟩=some x:=(h.k.cell (p:=⟨b,o,none⟩) (aj _ _ a) (fun e=>e c)).trans a
theorem Kt.Jk {tag tag':Nat->Nat} {A B:World} (h:Kt tag tag' A B) {b o:Nat} {x:Value} (c:A.cell? ⟨b,o,none⟩=some x) (a:tag b=0):tag' b=0:=h.t b (aj A ⟨b,o,none⟩ c) a
theorem Kt.of {tag tag':Nat->Nat} {T:Nat->Prop} {A B:World} (h:Kp T A B) (b:∀k,T k->tag k≠0) (a:∀k,k<A.heap.size->tag' k=tag k):Kt tag tag' A B:=⟨h.wider (fun k _ e=>b k e),fun k hk e=>(a k hk).trans e⟩
theorem cb.lt {W:World} {wb:Nat} {tag:Nat->Nat} {V:Nat->Value} {p:PW} (h:cb W wb tag V p):wb<W.heap.size:=aj _ ⟨wb,0,none⟩ (ai h.r (k:=0) rfl)
theorem cb.kp {W b:World} {wb:Nat} {tag tag':Nat->Nat} {V:Nat->Value} {p:PW} {T:Nat->Prop} (h:cb W wb tag V p) (k:Kp T W b) (c:∀k,k<W.heap.size->T k->tag k=0) (a:∀k,k<W.heap.size->tag' k=tag k):cb b wb tag' V p:=by
 have k2:=k.wider c;exact⟨eM h.r k2 (by rw[h.g];decide),eg h.t k2 (by rw[h.g];decide),(a wb h.lt).trans h.g,⟨h.o.IL.kp k2 a (fun k e=>oA),h.o.kinds.kp k2 a (fun k e=>oA),h.o.IH.kp k2 a (fun k e=>oA),h.o.II.kp k2 a (fun k e=>oA),h.o.lines.kp k2 a (fun k e=>by rcases e with e|⟨i,e⟩<;>omega),h.o.bits.kp k2 a (fun k e=>oA),h.o.IJ.kp k2 a (fun k e=>oA),h.o.ready.kp k2 a (fun k e=>by rcases e with e|⟨i,e⟩<;>omega),h.o.IK.kp k2 a (fun k e=>by rcases e with e|⟨i,e⟩<;>omega),h.o.IQ.kp k2 a (fun k e=>oA),h.o.time⟩⟩
theorem cb.below {W a:World} {wb:Nat} {tag:Nat->Nat} {V:Nat->Value} {p:PW} (h:cb W wb tag V p) (b:Below W.heap.size W a):cb a wb tag V p:=h.kp (T:=fun _=>False) (.IM b) (fun _ _ e=>e.elim) (fun _ _=>rfl)
theorem cb.II {W b:World} {wb:Nat} {tag tag':Nat->Nat} {V:Nat->Value} {p:PW} (h:cb W wb tag V p) (k:Kp (fun k=>tag k=5) W b) (a:∀k,k<W.heap.size->tag' k=tag k) {x:List (Nat->Int)} (n:InT b tag' 5 37 20 (V 3) (x.length,eX 20 x)):cb b wb tag' V {p with II:=x}:=
 ⟨eM h.r k (by rw[h.g];decide),eg h.t k (by rw[h.g];decide),(a wb h.lt).trans h.g,⟨h.o.IL.kp k a (fun k e=>oA),h.o.kinds.kp k a (fun k e=>oA),h.o.IH.kp k a (fun k e=>oA),n,h.o.lines.kp k a (fun k e=>by rcases e with e|⟨i,e⟩<;>omega),h.o.bits.kp k a (fun k e=>oA),h.o.IJ.kp k a (fun k e=>oA),h.o.ready.kp k a (fun k e=>by rcases e with e|⟨i,e⟩<;>omega),h.o.IK.kp k a (fun k e=>by rcases e with e|⟨i,e⟩<;>omega),h.o.IQ.kp k a (fun k e=>oA),h.o.time⟩⟩
theorem cb.lines {W b:World} {wb:Nat} {tag tag':Nat->Nat} {V:Nat->Value} {p:PW} (h:cb W wb tag V p) (k:Kp (fun k=>tag k=6∨∃j,tag k=12+3*j) W b) (a:∀k,k<W.heap.size->tag' k=tag k) {x:List (List Int)} (n:fx b tag' 6 12 22 3 1 x.length (V 4) (ci x)):cb b wb tag' V {p with lines:=x}:=
 ⟨eM h.r k (by rw[h.g];rintro (h|⟨j,h⟩)<;>omega),eg h.t k (by rw[h.g];rintro (h|⟨j,h⟩)<;>omega),(a wb h.lt).trans h.g,⟨h.o.IL.kp k a (fun k e=>by rintro (h|⟨j,h⟩)<;>omega),h.o.kinds.kp k a (fun k e=>by rintro (h|⟨j,h⟩)<;>omega),h.o.IH.kp k a (fun k e=>by rintro (h|⟨j,h⟩)<;>omega),h.o.II.kp k a (fun k e=>by rintro (h|⟨j,h⟩)<;>omega),n,h.o.bits.kp k a (fun k e=>by rintro (h|⟨j,h⟩)<;>omega),h.o.IJ.kp k a (fun k e=>by rintro (h|⟨j,h⟩)<;>omega),h.o.ready.kp k a (fun k e=>by rintro (h|⟨j,h⟩)<;>rcases e with e|⟨i,e⟩<;>omega),h.o.IK.kp k a (fun k e=>by rintro (h|⟨j,h⟩)<;>rcases e with e|⟨i,e⟩<;>omega),h.o.IQ.kp k a (fun k e=>by rintro (h|⟨j,h⟩)<;>omega),h.o.time⟩⟩
theorem cb.bits {W b:World} {wb:Nat} {tag tag':Nat->Nat} {V:Nat->Value} {p:PW} (h:cb W wb tag V p) (k:Kp (fun k=>tag k=7) W b) (a:∀k,k<W.heap.size->tag' k=tag k) {x:List Int} (n:InT b tag' 7 3 1 (V 5) (x.length,dU x)):cb b wb tag' V {p with bits:=x}:=
 ⟨eM h.r k (by rw[h.g];decide),eg h.t k (by rw[h.g];decide),(a wb h.lt).trans h.g,⟨h.o.IL.kp k a (fun k e=>oA),h.o.kinds.kp k a (fun k e=>oA),h.o.IH.kp k a (fun k e=>oA),h.o.II.kp k a (fun k e=>oA),h.o.lines.kp k a (fun k e=>by rcases e with e|⟨i,e⟩<;>omega),n,h.o.IJ.kp k a (fun k e=>oA),h.o.ready.kp k a (fun k e=>by rcases e with e|⟨i,e⟩<;>omega),h.o.IK.kp k a (fun k e=>by rcases e with e|⟨i,e⟩<;>omega),h.o.IQ.kp k a (fun k e=>oA),h.o.time⟩⟩
theorem cb.IJ {W b:World} {wb:Nat} {tag tag':Nat->Nat} {V:Nat->Value} {p:PW} (h:cb W wb tag V p) (k:Kp (fun k=>tag k=8) W b) (a:∀k,k<W.heap.size->tag' k=tag k) {x:List Int} (n:InT b tag' 8 3 1 (V 6) (x.length,dU x)):cb b wb tag' V {p with IJ:=x}:=
 ⟨eM h.r k (by rw[h.g];decide),eg h.t k (by rw[h.g];decide),(a wb h.lt).trans h.g,⟨h.o.IL.kp k a (fun k e=>oA),h.o.kinds.kp k a (fun k e=>oA),h.o.IH.kp k a (fun k e=>oA),h.o.II.kp k a (fun k e=>oA),h.o.lines.kp k a (fun k e=>by rcases e with e|⟨i,e⟩<;>omega),h.o.bits.kp k a (fun k e=>oA),n,h.o.ready.kp k a (fun k e=>by rcases e with e|⟨i,e⟩<;>omega),h.o.IK.kp k a (fun k e=>by rcases e with e|⟨i,e⟩<;>omega),h.o.IQ.kp k a (fun k e=>oA),h.o.time⟩⟩
theorem cb.ready {W b:World} {wb:Nat} {tag tag':Nat->Nat} {V:Nat->Value} {p:PW} (h:cb W wb tag V p) (k:Kp (fun k=>tag k=9∨∃j,tag k=13+3*j) W b) (a:∀k,k<W.heap.size->tag' k=tag k) {x:List (List Int)} (n:fx b tag' 9 13 22 3 1 x.length (V 7) (ci x)):cb b wb tag' V {p with ready:=x}:=
 ⟨eM h.r k (by rw[h.g];rintro (h|⟨j,h⟩)<;>omega),eg h.t k (by rw[h.g];rintro (h|⟨j,h⟩)<;>omega),(a wb h.lt).trans h.g,⟨h.o.IL.kp k a (fun k e=>by rintro (h|⟨j,h⟩)<;>omega),h.o.kinds.kp k a (fun k e=>by rintro (h|⟨j,h⟩)<;>omega),h.o.IH.kp k a (fun k e=>by rintro (h|⟨j,h⟩)<;>omega),h.o.II.kp k a (fun k e=>by rintro (h|⟨j,h⟩)<;>omega),h.o.lines.kp k a (fun k e=>by rintro (h|⟨j,h⟩)<;>rcases e with e|⟨i,e⟩<;>omega),h.o.bits.kp k a (fun k e=>by rintro (h|⟨j,h⟩)<;>omega),h.o.IJ.kp k a (fun k e=>by rintro (h|⟨j,h⟩)<;>omega),n,h.o.IK.kp k a (fun k e=>by rintro (h|⟨j,h⟩)<;>rcases e with e|⟨i,e⟩<;>omega),h.o.IQ.kp k a (fun k e=>by rintro (h|⟨j,h⟩)<;>omega),h.o.time⟩⟩
theorem fx.lists {w:World} {tag:Nat->Nat} {t i O:Nat} {v:Value} {ls:List (List Int)} (h:fx w tag t i O 3 1 ls.length v (ci ls)):gi w v ls:=by
 obtain⟨g,us,rfl,_,d,e,f⟩:=h;refine⟨some ⟨g,0,none⟩,g,0,ls.length,rfl,fun _=>rfl,fun j a=>?_⟩;have b:j<us.length:=by rw[d];exact a
 have c:=e.cellAt j oA;rw[ac b] at c;refine⟨us[j],by rw[aC];exact c,?_⟩;have:=(f j b).1;unfold ci at this;rw[aa,ac a] at this;exact dN this
theorem fS.v {w:World} {tag:Nat->Nat} {v:Nat->Value} {p:PW} (h:fS w tag v p) (hl:∀l∈p.IK,l.length<=100):eu w v p:=
 ⟨dN h.IL.1,dN h.kinds.1,jr h.IH.1,jr h.II.1,h.lines.lists,dN h.bits.1,dN h.IJ.1,h.ready.lists,h.IK.IK hl,dN h.IQ.1,h.time⟩
theorem cb.view {W:World} {wb:Nat} {tag:Nat->Nat} {V:Nat->Value} {p:PW} (h:cb W wb tag V p) (a:p.Fits) (hl:∀l∈p.IK,l.length<=100):d6 W wb V p:=⟨h.r,h.o.v hl,a⟩
def xf (m:Nat->Nat) (n k:Nat):Nat:=((List.range n).find? fun j=>decide (m j<=k∧k<m (j+1))).getD 0
theorem pj {m:Nat->Nat} {n j k:Nat} (e:∀j,j<n->m j<=m (j+1)) (c:j<n) (a:m j<=k) (b:k<m (j+1)):xf m n k=j:=by
 have up:∀d i,i+d<=n->m i<=m (i+d):=fun d=>by
  induction d with
  |zero=>intro i _;exact aq _
  |succ d ih=>intro i hi;exact aB (ih i oA) (e (i+d) oA)
 unfold xf;rw[List.find?_range_eq_some.2 ⟨az ⟨a,b⟩,List.mem_range.2 c,fun i hi=>?_⟩]
 ·rfl
 ·rw[dD,decide_eq_false_iff_not];have:=up (j - (i+1)) (i+1) oA;rw[show i+1+(j - (i+1))=j by omega] at this;omega
def rZ (L:Nat->Nat) (wb g4 g7 g8:Nat) (m4 m7 m8:Nat->Nat) (n4 n7 n8 k:Nat):Nat:=
 if k<L 0 then 0 else if k<L 1 then 2 else if k<L 2 then 3 else if k<L 3 then 4 else if k<L 4 then 5
 else if k<L 5 then (if k=g4 then 6 else 12+3*xf m4 n4 k) else if k<L 6 then 7 else if k<L 7 then 8
 else if k<L 8 then (if k=g7 then 9 else 13+3*xf m7 n7 k) else if k<L 9 then (if k=g8 then 10 else 14+3*xf m8 n8 k)
 else if k<L 10 then 11 else if k=wb then 1 else 0
theorem InO.tagged {w:World} {lo hi I s t:Nat} {u:Value} {c:Nat×List Value} {tag:Nat->Nat} (h:InO w lo hi I s u c) (a:∀k,lo<=k->k<hi->tag k=t):InT w tag t I s u c:=
 ⟨h.1.mono (bP _),fun k e=>a k (h.1.lt k e).1 (h.2 k e)⟩
theorem DL.tagged {W:World} {wb:Nat} {L:Nat->Nat} {V:Nat->Value} {p:PW} (h:DL W wb L V p):∃tag,cb W wb tag V p∧∀k,k<L 0->tag k=0:=by
 obtain⟨v,H,y,a1,K,M,s,b⟩:=h.o.lines;obtain⟨w,I,A,b1,b2,b3,b4,b5⟩:=h.o.ready;obtain⟨x,J,B,c1,c2,N,u,c⟩:=h.o.IK;have E:=h.o.mono 0 oA;have e1:=h.o.mono 1 oA;have e2:=h.o.mono 2 oA;have F:=h.o.mono 3 oA;have e4:=h.o.mono 4 oA;have e5:=h.o.mono 5 oA;have e6:=h.o.mono 6 oA;have e7:=h.o.mono 7 oA;have e8:=h.o.mono 8 oA;have e9:=h.o.mono 9 oA;have O:=h.lo;have up:∀(m:Nat->Nat) (n:Nat),(∀j,j<n->m j<=m (j+1))->∀d j,j+d=n->m j<=m n:=fun m n G d=>by
  induction d with
  |zero=>intro j a;rw[show j=n by omega];exact aq _
  |succ d ih=>intro j a;exact aB (G j oA) (ih (j+1) oA)
 simp only[aC,Nat.reduceAdd] at E e1 e2 F e4 e5 e6 e7 e8 e9;refine⟨rZ L wb v w x y A B p.lines.length p.ready.length p.IK.length,⟨h.r,h.t,?_,?_⟩,fun k hk=>?_⟩
 ·unfold rZ
  repeat rw[ae oA]
  rw[ag rfl]
 ·refine⟨h.o.IL.tagged fun k f g=>?_,h.o.kinds.tagged fun k f g=>?_,h.o.IH.tagged fun k f g=>?_,h.o.II.tagged fun k f g=>?_,?_,h.o.bits.tagged fun k f g=>?_,h.o.IJ.tagged fun k f g=>?_,?_,?_,h.o.IQ.tagged fun k f g=>?_,h.o.time⟩
  ·unfold rZ;rw[ae oA,ag oA]
  ·unfold rZ;rw[ae oA,ae oA,ag oA]
  ·unfold rZ;rw[ae oA,ae oA,ae oA,ag oA]
  ·unfold rZ;rw[ae oA,ae oA,ae oA,ae oA,ag oA]
  ·refine⟨v,H,a1,?_,b.len,?_,fun j a=>⟨(b.each j a).1.mono (bP _),fun k e=>?_⟩⟩
   ·have z:=b.lo p.lines.length (aq _);unfold rZ;rw[ae oA,ae oA,ae oA,ae oA,ae oA,ag oA,ag rfl]
   ·have z:=b.row;rw[Nat.sub_self,List.replicate_zero,dJ] at z;exact z.mono (bP _)
   ·have i:j<p.lines.length:=by rw[<-b.len];exact a
    have C:=b.lo j oA;have l:=((b.each j a).1.lt k e).1;have q:=(b.each j a).2 k e;have D:=up y p.lines.length s (p.lines.length - (j+1)) (j+1) oA;unfold rZ;rw[ae oA,ae oA,ae oA,ae oA,ae oA,ag oA,ae oA,pj s i l q]
  ·unfold rZ;rw[ae oA,ae oA,ae oA,ae oA,ae oA,ae oA,ag oA]
  ·unfold rZ;rw[ae oA,ae oA,ae oA,ae oA,ae oA,ae oA,ae oA,ag oA]
  ·refine⟨w,I,b1,?_,b5.len,?_,fun j a=>⟨(b5.each j a).1.mono (bP _),fun k e=>?_⟩⟩
   ·have z:=b5.lo p.ready.length (aq _);unfold rZ;rw[ae oA,ae oA,ae oA,ae oA,ae oA,ae oA,ae oA,ae oA,ag oA,ag rfl]
   ·have z:=b5.row;rw[Nat.sub_self,List.replicate_zero,dJ] at z;exact z.mono (bP _)
   ·have i:j<p.ready.length:=by rw[<-b5.len];exact a
    have C:=b5.lo j oA;have l:=((b5.each j a).1.lt k e).1;have q:=(b5.each j a).2 k e;have D:=up A p.ready.length b4 (p.ready.length - (j+1)) (j+1) oA;unfold rZ;rw[ae oA,ae oA,ae oA,ae oA,ae oA,ae oA,ae oA,ae oA,ag oA,ae oA,pj b4 i l q]
  ·refine⟨x,J,c1,?_,c.len,?_,fun j a=>.inl ⟨(c.each j a).1.mono (bP _),fun k e=>?_⟩⟩
   ·have z:=c.lo p.IK.length (aq _);unfold rZ;rw[ae oA,ae oA,ae oA,ae oA,ae oA,ae oA,ae oA,ae oA,ae oA,ag oA,ag rfl]
   ·have z:=c.row;rw[Nat.sub_self,List.replicate_zero,dJ] at z;exact z.mono (bP _)
   ·have i:j<p.IK.length:=by rw[<-c.len];exact a
    have C:=c.lo j oA;have l:=((c.each j a).1.lt k e).1;have q:=(c.each j a).2 k e;have D:=up B p.IK.length u (p.IK.length - (j+1)) (j+1) oA;unfold rZ;rw[ae oA,ae oA,ae oA,ae oA,ae oA,ae oA,ae oA,ae oA,ae oA,ag oA,ae oA,pj u i l q]
  ·unfold rZ;rw[ae oA,ae oA,ae oA,ae oA,ae oA,ae oA,ae oA,ae oA,ae oA,ae oA,ag oA]
 ·unfold rZ;rw[ag hk]
theorem px {B:Nat} {T:Nat->Prop}:∀(a:List Value) (o:Nat) (w:World),T B->Kp T w (w.setCells B o a)
 |[],_,w,_=>aV _ _
 |v::r,o,w,h=>by
  rw[World.setCells];exact ((aV T w).setCell (.inl h) v).trans (px r (o+1) _ h)
theorem fS.I6 {w:World} {tag:Nat->Nat} {v:Nat->Value} {p:PW} {B:Nat} (h:fS w tag v p) (hB:tag B=0) (b:List Value) (o:Nat):fS (w.setCells B o b) tag v p:=by
 have k:Kp (fun k=>tag k=0) w (w.setCells B o b):=px b o w hB;have a:∀k,k<w.heap.size->tag k=tag k:=fun _ _=>rfl;exact⟨h.IL.kp k a (fun k e=>oA),h.kinds.kp k a (fun k e=>oA),h.IH.kp k a (fun k e=>oA),h.II.kp k a (fun k e=>oA),h.lines.kp k a (fun k e=>by rcases e with e|⟨i,e⟩<;>omega),h.bits.kp k a (fun k e=>oA),h.IJ.kp k a (fun k e=>oA),h.ready.kp k a (fun k e=>by rcases e with e|⟨i,e⟩<;>omega),h.IK.kp k a (fun k e=>by rcases e with e|⟨i,e⟩<;>omega),h.IQ.kp k a (fun k e=>oA),h.time⟩
structure vJ (W:World) (lo:Nat) (V:Nat->Value) (p:PW):Prop where
 f:∀ws,(∀x∈ws,x.1<lo)->eu (sts W ws) V p
 o:p.kinds=[]∨∃tag,fS W tag V p∧∀k,k<lo->tag k=0
theorem vJ.v0 {W:World} {lo:Nat} {V:Nat->Value} {p:PW} (h:vJ W lo V p):eu W V p:=by
 have:=h.f [] (by simp)
 rwa [IG] at this
theorem vJ.put {W:World} {lo:Nat} {V:Nat->Value} {p:PW} (h:vJ W lo V p) (B o:Nat) (b:List Value) (hB:B<lo):vJ (W.setCells B o b) lo V p:=
 ⟨fun g e=>h.f ((B,o,b)::g) (fun x a=>by
  rcases bK.1 a with rfl|a
  ·exact hB
  ·exact e x a),by
  rcases h.o with h|⟨tag,d,c⟩
  ·exact .inl h
  ·exact .inr ⟨tag,d.I6 (c B hB) b o,c⟩⟩
theorem vJ.mono {W:World} {lo a:Nat} {V:Nat->Value} {p:PW} (h:vJ W lo V p) (hl:a<=lo):vJ W a V p:=
 ⟨fun g d=>h.f g (fun x e=>aE (d x e) hl),by
  rcases h.o with h|⟨tag,b,c⟩
  ·exact .inl h
  ·exact .inr ⟨tag,b,fun k hk=>c k (aE hk hl)⟩⟩
structure Far (W:World) (wb lo:Nat) (V:Nat->Value) (p:PW):Prop where
 r:W.rangeAt wb 0 (de V).toList
 f:vJ W lo V p
def Bv (N:Nat) (caps:Array Value) (ok:World->Prop) (ans:Int->Value) (p p':PW) (e:Int):Prop:=
 ∀W wb L V,DL W wb L V p->ok W->(∀W',Below (L 0) W W'->ok W')->Calls Tryz.prog N (#[.pointer (some ⟨wb,0,none⟩)]++caps) W fun r W'=>r=.returned (ans e)∧Below (L 0) W W'∧(e=0->∃V',Far W' wb (L 0) V' p')
theorem cb.Km {W:World} {wb lo:Nat} {tag:Nat->Nat} {V:Nat->Value} {p:PW} (h:cb W wb tag V p) (hl:∀l∈p.IK,l.length<=100) (c:∀k,k<lo->tag k=0):Far W wb lo V p:=by
 refine⟨h.r,fun a b=>?_,.inr ⟨tag,h.o,c⟩⟩;have:∀(a:List (Nat×Nat×List Value)) (W:World),fS W tag V p->(∀x∈a,x.1<lo)->fS (sts W a) tag V p:=fun a=>by
  induction a with
  |nil=>intro W h _;exact h
  |cons x r ih=>intro W h b;exact ih _ (h.I6 (c _ (b x (by simp))) x.2.2 x.2.1) (fun y d=>b y (by simp[d]))
 exact (this a W h.o b).v hl
def r5 (N:Nat) (caps:Array Value) (ok:(Nat->Nat)->World->Prop) (ans:Int->Value) (p p':PW) (e:Int):Prop:=
 ∀W wb tag V,cb W wb tag V p->ok tag W->Calls Tryz.prog N (#[.pointer (some ⟨wb,0,none⟩)]++caps) W fun r W'=>r=.returned (ans e)∧∃tag',Kt tag tag' W W'∧(e=0->∃V',cb W' wb tag' V' p')
theorem r5.f {N:Nat} {caps:Array Value} {ok:World->Prop} {d:Int->Value} {p p':PW} {e:Int} {g:(Nat->Nat)->World->Prop} (h:r5 N caps g d p p' e) (hl:∀l∈p'.IK,l.length<=100) (hk:∀W lo tag,(∀b,Below lo W b->ok b)->(∀k,k<lo->tag k=0)->g tag W):Bv N caps ok d p p' e:=by
 intro W wb L V a _ n;obtain⟨tag,bt,c⟩:=a.tagged;refine (h W wb tag V bt (hk W (L 0) tag n c)).mono ?_;rintro r b ⟨rfl,tag',kt,j⟩;have l0:=aB (a.o.le 10 oA) (aB a.lo (Nat.le_of_lt a.lt));refine⟨rfl,kt.k.below (af _ _) l0 (fun k hk e=>e (c k hk)),fun m=>?_⟩;obtain⟨i,b2⟩:=j m;exact⟨i,b2.Km hl (fun k hk=>kt.t k (aE hk l0) (c k hk))⟩
def upd (f:Nat->Int) (k:Nat) (x:Int):Nat->Int:=fun j=>if j=k then x else f j
theorem oC (n:Nat) (b:0<n) (fs:List (Nat->Int)) (i k:Nat) (hi:i<fs.length) (hk:k<n) (x:Int):(eX n fs).set (i*n+k) (.int .i64 x)=eX n (fs.set i (upd fs[i] k x)):=by
 apply List.ext_getElem?;intro j;have hl:=gr n fs;have m:(eX n (fs.set i (upd fs[i] k x))).length=fs.length*n:=by rw[gr,au]
 by_cases d:j<fs.length*n
 ·have e:j=j/n*n+j%n:=by rw[Nat.mul_comm];exact (Nat.div_add_mod j n).symm
  have f:=(Nat.div_lt_iff_lt_mul b).2 d;have g:j%n<n:=Nat.mod_lt _ b;have a1:=iW n fs (j/n) (j%n) f g;have a:=iW n (fs.set i (upd fs[i] k x)) (j/n) (j%n) (by rw[au];exact f) g;rw[<-e] at a1 a;by_cases h:i*n+k=j
  ·have q1:j/n=i:=by rw[<-h,Nat.mul_comm,Nat.mul_add_div b,Nat.div_eq_of_lt hk,bu]
   have o:j%n=k:=by rw[<-h,Nat.mul_comm,Nat.mul_add_mod,Nat.mod_eq_of_lt hk]
   have l:((eX n fs).set (i*n+k) (.int .i64 x))[j]? =some (.int .i64 x):=by rw[h,cQ (by rw[hl];exact d)]
   rw[a,l];subst q1;rw[dV,o];unfold upd;rw[ag rfl]
  ·rw[cR h,a1,a];by_cases c:j/n=i
   ·subst c;rw[dV];unfold upd;rw[ae (fun e2=>h (by rw[<-e2];exact e.symm))]
   ·rw[List.getElem_set_ne (fun e=>c e.symm)]
 ·rw[aI (by rw[au,hl];omega),aI (by rw[m];omega)]
theorem ints_set (zs:List Int) (i:Nat) (x:Int):(dU zs).set i (.int .i64 x)=dU (zs.set i x):=by
 unfold dU;rw[List.map_set]
theorem InT.form {w:World} {tag:Nat->Nat} {t I s n:Nat} {u:Value} {xs:List Value} (h:InT w tag t I s u (n,xs)) (d:0<n):∃g cap,u=.slice (some ⟨g,0,none⟩) n cap:=by
 rcases h.1.2 with ⟨_,a⟩|⟨g,cap,c,b,_⟩
 ·simp only at a;omega
 ·exact⟨g,cap,b⟩
theorem InT.shape {w:World} {tag:Nat->Nat} {t I s n:Nat} {u:Value} {xs:List Value} (h:InT w tag t I s u (n,xs)):∃q g cap,u=.slice q n cap∧(0<n->q=some ⟨g,0,none⟩):=by
 rcases h.1.2 with ⟨a,b⟩|⟨g,cap,c,a,_⟩
 ·simp only at b;subst b;exact⟨none,0,0,a,fun h=>oA⟩
 ·exact⟨some ⟨g,0,none⟩,g,cap,a,fun _=>rfl⟩
theorem InT.cell {w:World} {tag:Nat->Nat} {t I s n g cap:Nat} {xs:List Value} (h:InT w tag t I s (.slice (some ⟨g,0,none⟩) n cap) (n,xs)) (o:Nat) (x:Value):InT (w.setCell ⟨g,o,none⟩ x) tag t I s (.slice (some ⟨g,0,none⟩) n cap) (n,xs.set o x)∧Kp (fun k=>tag k=t) w (w.setCell ⟨g,o,none⟩ x):=
 ⟨⟨(h.1.stored o x).1,h.2⟩,Kp.setCell (T:=fun k=>tag k=t) (aV _ w) (.inl (h.2 g rfl)) x⟩
theorem InT.range {w:World} {tag:Nat->Nat} {t I n g cap:Nat} {fs:List (Nat->Int)} (h:InT w tag t I n (.slice (some ⟨g,0,none⟩) fs.length cap) (fs.length,eX n fs)) {i:Nat} (hi:i<fs.length):w.rangeAt g (i*n) (cf n fs[i]):=fun j v hv=>by
 have a:j<n:=by have:=(List.getElem?_eq_some_iff.1 hv).1;rwa [ay] at this
 have e:=dk n fs[i] j a;rw[e] at hv
 cases hv
 have c:=Nat.mul_le_mul_right n hi;have d:=Nat.succ_mul i n;have b:i*n+j<fs.length*n:=oA;exact (h.1.cellAt (i*n+j) b).trans (iW n fs i j hi a)
theorem InT.int {w:World} {tag:Nat->Nat} {t I g cap:Nat} {zs:List Int} (h:InT w tag t I 1 (.slice (some ⟨g,0,none⟩) zs.length cap) (zs.length,dU zs)) {i:Nat} (hi:i<zs.length):w.cell? ⟨g,i,none⟩=some (.int .i64 zs[i]):=
 (h.1.cellAt i oA).trans (by unfold dU;rw[db,ac hi];rfl)
theorem InT.frozen {w:World} {tag:Nat->Nat} {t I s n g cap:Nat} {xs:List Value} (h:InT w tag t I s (.slice (some ⟨g,0,none⟩) n cap) (n,xs)) (o:Nat):w.frozen? ⟨g,o,none⟩=false:=h.1.frozenAt _
theorem cb.IV {W:World} {wb:Nat} {tag:Nat->Nat} {V:Nat->Value} {p:PW} (h:cb W wb tag V p) {g cap:Nat} (e:V 3=.slice (some ⟨g,0,none⟩) p.II.length cap) {i k:Nat} (hi:i<p.II.length) (hk:k<20) (x:Int):
  cb (W.setCell ⟨g,i*20+k,none⟩ (.int .i64 x)) wb tag V {p with II:=p.II.set i (upd p.II[i] k x)}∧Kt tag tag W (W.setCell ⟨g,i*20+k,none⟩ (.int .i64 x)):=by
 have a:=h.o.II;rw[e] at a;obtain⟨b,c⟩:=a.cell (i*20+k) (.int .i64 x);rw[oC 20 oD p.II i k hi hk x] at b;refine⟨h.II c (fun _ _=>rfl) ?_,.of c (fun k e=>oA) (fun _ _=>rfl)⟩;rw[au,e];exact b
theorem cb.Jb {W:World} {wb:Nat} {tag:Nat->Nat} {V:Nat->Value} {p:PW} (h:cb W wb tag V p) {g cap:Nat} (e:V 5=.slice (some ⟨g,0,none⟩) p.bits.length cap) (i:Nat) (x:Int):
  cb (W.setCell ⟨g,i,none⟩ (.int .i64 x)) wb tag V {p with bits:=p.bits.set i x}∧Kt tag tag W (W.setCell ⟨g,i,none⟩ (.int .i64 x)):=by
 have a:=h.o.bits;rw[e] at a;obtain⟨b,c⟩:=a.cell i (.int .i64 x);rw[ints_set] at b;refine⟨h.bits c (fun _ _=>rfl) ?_,.of c (fun k e=>oA) (fun _ _=>rfl)⟩;rw[au,e];exact b
theorem cb.I4 {W:World} {wb:Nat} {tag:Nat->Nat} {V:Nat->Value} {p:PW} (h:cb W wb tag V p) {g cap:Nat} (e:V 6=.slice (some ⟨g,0,none⟩) p.IJ.length cap) (i:Nat) (x:Int):
  cb (W.setCell ⟨g,i,none⟩ (.int .i64 x)) wb tag V {p with IJ:=p.IJ.set i x}∧Kt tag tag W (W.setCell ⟨g,i,none⟩ (.int .i64 x)):=by
 have a:=h.o.IJ;rw[e] at a;obtain⟨b,c⟩:=a.cell i (.int .i64 x);rw[ints_set] at b;refine⟨h.IJ c (fun _ _=>rfl) ?_,.of c (fun k e=>oA) (fun _ _=>rfl)⟩;rw[au,e];exact b
theorem cb.I3 {W:World} {wb:Nat} {tag:Nat->Nat} {V:Nat->Value} {p:PW} (h:cb W wb tag V p) {g cap:Nat} (e:V 3=.slice (some ⟨g,0,none⟩) p.II.length cap) {i k:Nat} (hi:i<p.II.length) (hk:k<20):W.cell? ⟨g,i*20+k,none⟩=some (.int .i64 (p.II[i] k)):=by
 have a:=h.o.II;rw[e] at a;exact a.range hi k _ (dk 20 _ k hk)
theorem cb.IT {W:World} {wb:Nat} {tag:Nat->Nat} {V:Nat->Value} {p:PW} (h:cb W wb tag V p) {g cap:Nat} (e:V 3=.slice (some ⟨g,0,none⟩) p.II.length cap) (o:Nat):W.frozen? ⟨g,o,none⟩=false:=by
 have a:=h.o.II;rw[e] at a;exact a.frozen o
section
variable {P : Program} {ops : Array Oper} {Q : Exit -> Act -> World -> Prop} {md : Region.Mode} {S R : World -> Prop} {fs : List Nat}
def fp (fs:List Nat) (listed:Array Bool):Bool:=fs.all fun f=> !(listed.getD f true)
def rW (md:Region.Mode) (ops:Array Oper) (fs:List Nat) (i:Nat):Bool:=fs.all fun f=>match ops[f]? with
 |some o=>o.after.any fun e=>Region.binds md e&&e.on==i
 |none=>false
theorem gl {i:Nat} {listed:Array Bool} (hi:fs.contains i=false):fp fs (listed.setIfInBounds i true)=fp fs listed:=by
 have b:∀f∈fs,i≠f:=fun f a e=>by
  subst e;have:fs.contains i=true:=by simpa using a
  rw[this] at hi
  cases hi
 unfold fp;rw[cY,aU,aU];exact⟨fun h f a=>by have:=h f a;rwa [getD_set_ne true (b f a)] at this,fun h f a=>by rw[getD_set_ne true (b f a)];exact h f a⟩
theorem fv {a:Array Bool} {X:Prop} (h:fp fs a=false):fp fs a=true->X:=fun e=>by rw[h] at e;cases e
def dK (P:Program) (md:Region.Mode) (ops:Array Oper) (Q:Exit->Act->World->Prop) (S R:World->Prop) (fs:List Nat):Nat->Array Bool->Act->World->Prop
 |0,listed,a,w=>Region.ready md ops listed=[]∧Q .normal a w
 |fuel+1,listed,a,w=>
  (Region.ready md ops listed=[]->Q .normal a w)∧
  ∀i∈Region.ready md ops listed,wpOp P ops Q i (fun a' w'=>(S w'∧(fp fs (listed.setIfInBounds i true)=true->R w'))∧dK P md ops Q S R fs fuel (listed.setIfInBounds i true) a' w') a w
theorem iM:∀(fuel:Nat) (b:Array Bool) (a:Act) (w:World),dK P md ops Q S R fs fuel b a w->wpAny P md ops Q fuel b a w
 |0,_,_,_,h=>h
 |fuel+1,_,_,_,h=>⟨h.1,fun i hi=>wpOp_mono (fun c w' d=>iM fuel _ c w' d.2) (h.2 i hi)⟩
theorem gP {i:Nat} {m:Oper} {v:Value} {r:Bool} (hi:ops[i]? =some m) (N:∀(j:Nat) (o:Oper) cs b,ops[j]? =some o->o.op≠.select cs b)
  (U:∀c a w,Q (.panic c) (a.put m.dst v) w->Q (.panic c) a w) (E:fs.contains i=false) (hw:r=true->rW md ops fs i=true):
  ∀(fuel:Nat) (d:Array Bool) (a:Act) (w:World),
   (∀j n,ops[j]? =some n->j≠i->d.getD j true=false->(∀e∈n.after,Region.binds md e=true->e.on≠i)->m.apart ops n=true)->
   i∈Region.ready md ops d->(r=true->fp fs d=true)->YieldsIf P ops (fun w=>S w∧(r=true->R w)) m v a->S w->(r=true->R w)->(fp fs d=true->R w)->
   dK P md ops Q S R fs fuel (d.setIfInBounds i true) (a.put m.dst v) w->dK P md ops Q S R fs (fuel+1) d a w:=by
 intro fuel
 induction fuel with
 |zero=>
  intro d a w _ l _ z s B hC H;refine⟨fun h=>(by rw[h] at l;cases l),fun j x=>?_⟩;by_cases f:j=i
  ·subst f;exact z.wpOp hi ⟨s,B⟩ ⟨⟨s,fun h=>hC (by rwa [gl E] at h)⟩,H⟩
  ·have:=ready_mono x f;rw[H.1] at this
   cases this
 |succ fuel ih=>
  intro d a w J l W z s B hC H;refine⟨fun h=>(by rw[h] at l;cases l),fun j x=>?_⟩;by_cases f:j=i
  ·subst f;exact z.wpOp hi ⟨s,B⟩ ⟨⟨s,fun h=>hC (by rwa [gl E] at h)⟩,H⟩
  ·have g:=H.2 j (ready_mono x f);obtain⟨L,n,y,V⟩:=mem_ready.1 x;have M:∀e∈n.after,Region.binds md e=true->e.on≠i:=fun e D t X=>by
    have g:=V e D t;have G:=(mem_ready.1 l).1;rw[X] at g;rcases cP i d.size with A|A
    ·simp[A] at G g;rw[G] at g;cases g
    ·simp[Array.getElem?_eq_none A] at g
   have aa:r=true->fs.contains j=false:=fun p=>by
    cases hc:fs.contains j with
    |false=>rfl
    |true=>
     have Z:j∈fs:=by simpa using hc
     have F:=hw p;unfold rW at F;rw[aU] at F;have u:=F j Z;rw[y] at u;obtain⟨e,D,t⟩:=Array.any_eq_true'.1 u;simp only[am,bz] at t;exact absurd t.2 (M e D t.1)
   have u:=wpOp_putIf y (J j n y f L M) (fun cs b=>N i m cs b hi) (fun cs b=>N j n cs b y) U z g;have Y:∀k ok,ops[k]? =some ok->k≠i->(d.setIfInBounds j true).getD k true=false->
     (∀e∈ok.after,Region.binds md e=true->e.on≠i)->m.apart ops ok=true:=fun k ok hk ab O ac=>by
    refine J k ok hk ab ?_ ac;by_cases K:j=k
    ·subst K;exact L
    ·rw[getD_set_ne true K] at O;exact O
   have ad:fp fs ((d.setIfInBounds i true).setIfInBounds j true)=fp fs (d.setIfInBounds j true):=by
    rw[Array.setIfInBounds_comm _ _ (Ne.symm f),gl E]
   refine wpOp_mono (fun T w' q=>?_) u;have C:fp fs (d.setIfInBounds j true)=true->R w':=fun h=>q.2.1.2 (by rw[ad];exact h);have I:r=true->fp fs (d.setIfInBounds j true)=true:=fun p=>by rw[gl (aa p)];exact W p
   refine⟨⟨q.2.1.1,C⟩,ih (d.setIfInBounds j true) T w' Y (ready_mono l (Ne.symm f)) I q.1 q.2.1.1 (fun p=>C (I p)) C ?_⟩;rw[Array.setIfInBounds_comm _ _ f];exact q.2.2
theorem ig {i:Nat} {d:Oper} {v:Value} {fuel:Nat} {b:Array Bool} {a:Act} {w:World} (hi:ops[i]? =some d)
  (n:Region.noSelect ops=true) (k:Region.free md ops b i=true) (m:(Region.ready md ops b).contains i=true) (l:fs.contains i=false)
  (f:∀c a w,Q (.panic c) (a.put d.dst v) w->Q (.panic c) a w) (p:YieldsIf P ops S d v a) (j:S w) (g:fp fs b=true->R w)
  (h:dK P md ops Q S R fs fuel (b.setIfInBounds i true) (a.put d.dst v) w):dK P md ops Q S R fs (fuel+1) b a w:=
 gP (r:=false) hi (Region.noSelect_spec n) f l (fun e=>by cases e) fuel b a w (Region.free_spec hi k) (by simpa using m) (fun e=>by cases e) (by rcases p with h|h;exact .inl ⟨h.1,fun w o=>h.2 w o.1⟩;exact .inr h) j (fun e=>by cases e) g h
theorem eZ {i:Nat} {e:Oper} {v:Value} {fuel:Nat} {b:Array Bool} {a:Act} {w:World} (hi:ops[i]? =some e)
  (o:Region.noSelect ops=true) (l:Region.free md ops b i=true) (n:(Region.ready md ops b).contains i=true) (m:fs.contains i=false) (d:rW md ops fs i=true) (g:fp fs b=true)
  (j:∀c a w,Q (.panic c) (a.put e.dst v) w->Q (.panic c) a w) (p:YieldsIf P ops (fun w=>S w∧R w) e v a) (k:S w) (f:fp fs b=true->R w)
  (h:dK P md ops Q S R fs fuel (b.setIfInBounds i true) (a.put e.dst v) w):dK P md ops Q S R fs (fuel+1) b a w:=
 gP (r:=true) hi (Region.noSelect_spec o) j m (fun _=>d) fuel b a w (Region.free_spec hi l) (by simpa using n) (fun _=>g) (by rcases p with h|h;exact .inl ⟨h.1,fun w d=>h.2 w ⟨d.1,d.2 rfl⟩⟩;exact .inr h) k (fun _=>f g) f h
theorem ec {c:Array Bool} {a:Act} {w:World} (b:Region.ready md ops c=[]) (h:Q .normal a w):
  ∀fuel,dK P md ops Q S R fs fuel c a w
 |0=>⟨b,h⟩
 |_+1=>⟨fun _=>h,by rw[b];simp⟩
def di (P:Program) (md:Region.Mode) (ops:Array Oper) (Q:Exit->Act->World->Prop) (S R:World->Prop) (fs:List Nat) (fuel:Nat) (listed:Array Bool) (a:Act) (w:World) (rs:List Nat):Prop:=
 ∀i∈rs,wpOp P ops Q i (fun a' w'=>(S w'∧(fp fs (listed.setIfInBounds i true)=true->R w'))∧dK P md ops Q S R fs fuel (listed.setIfInBounds i true) a' w') a w
theorem di.nil {fuel:Nat} {b:Array Bool} {a:Act} {w:World}:di P md ops Q S R fs fuel b a w []:=fun _ h=>by cases h
theorem di.cons {fuel:Nat} {c:Array Bool} {a:Act} {w:World} {i:Nat} {o:Oper} {rs:List Nat} (l:ops[i]? =some o)
  (h:∀b:Act->World->Prop,Shut (∀a w,S w->(fp fs (c.setIfInBounds i true)=true->R w)->(S w->(fp fs (c.setIfInBounds i true)=true->R w)->dK P md ops Q S R fs fuel (c.setIfInBounds i true) a w)->b a w)->if Region.wanted o (yielded ops a.tmps)=true then Oper.wp P o a w b Q else b (a.put o.dst undef) w)
  (m:di P md ops Q S R fs fuel c a w rs):di P md ops Q S R fs fuel c a w (i::rs):=fun j d=>by
 rcases bK.1 d with rfl|d
 ·exact wpOp_step l (fun b g=>h b (fun a w f e k=>g a w ⟨⟨f,e⟩,k f e⟩))
 ·exact m j d
theorem dp {rs:List Nat} {fuel:Nat} {b:Array Bool} {a:Act} {w:World} (c:Region.ready md ops b=rs) (e:rs≠[])
  (h:di P md ops Q S R fs fuel b a w rs):dK P md ops Q S R fs (fuel+1) b a w:=⟨fun d=>absurd (c▸d) e,c▸h⟩
theorem ei {id:Nat} {a:Act} {w:World} (fs:List Nat) (d:P.follows .mixedOrders=true) (c:S w.drew) (b:R w.drew)
  (h:S w.drew->R w.drew->dK P .any ops Q S R fs ops.size (Array.replicate ops.size false) a w.drew):(Code.region id ops true).wp P Q a w:=
 wp_region_any d (iM _ _ _ _ (h c b))
end
def ptr (b:Nat):Value:=.pointer (some ⟨b,0,none⟩)
def AI (cs:List (Nat×Value)) (W:World):Prop:=∀x∈cs,W.cell? ⟨x.1,0,none⟩=some x.2
def je (cs:List (Nat×Value)) (tag:Nat->Nat) (W:World):Prop:=∀x∈cs,W.cell? ⟨x.1,0,none⟩=some x.2∧tag x.1=0
theorem AI.below {cs:List (Nat×Value)} {w w':World} (h:AI cs w) (b:Below w.heap.size w w'):AI cs w':=fun x a=>(b.cell (aj _ _ (h x a))).trans (h x a)
theorem je.kt {cs:List (Nat×Value)} {tag tag':Nat->Nat} {w w':World} (h:je cs tag w) (hk:Kt tag tag' w w'):je cs tag' w':=fun x a=>⟨hk.cell (h x a).1 (h x a).2,hk.Jk (h x a).1 (h x a).2⟩
theorem BP {W:World} {lo c:Nat} {x:Value} (h:∀a,Below lo W a->a.cell? ⟨c,0,none⟩=some x):c<lo:=by
 apply Classical.byContradiction;intro f;have e:=h W (af _ _);have b:=h (W.setCell ⟨c,0,none⟩ (.bool true)) ((af lo W).setCell (p:=⟨c,0,none⟩) (by simp;omega) _);have d:=h (W.setCell ⟨c,0,none⟩ (.bool false)) ((af lo W).setCell (p:=⟨c,0,none⟩) (by simp;omega) _);rw[du W _ _ e] at b d
 cases b.trans d.symm
theorem ze {cs:List (Nat×Value)} {W:World} {lo:Nat} {tag:Nat->Nat} (h:∀a,Below lo W a->AI cs a) (d:∀k,k<lo->tag k=0):je cs tag W:=fun x b=>
 ⟨h W (af _ _) x b,d _ (BP fun a c=>h a c x b)⟩
theorem r5.Kb {N:Nat} {caps:Array Value} {cs:List (Nat×Value)} {a:Int->Value} {p p':PW} {e:Int} (h:r5 N caps (je cs) a p p' e) (hl:∀l∈p'.IK,l.length<=100):Bv N caps (AI cs) a p p' e:=
 h.f hl (fun _ _ _ b c=>ze b c)
theorem cb.cl {W:World} {wb:Nat} {tag:Nat->Nat} {V:Nat->Value} {p:PW} {k:Nat} {v:Value} (h:cb W wb tag V p) (e:V k=v) (hk:(de V).toList[k]? =some (V k):=by rfl):W.cell? ⟨wb,k,none⟩=some v:=by rw[<-e];exact ai h.r hk
theorem _root_.Go.Proofs.YtnccmdndkmmhcaaGreatDoor.bD:type_of% @cb.cl:= @cb.cl
theorem zJ {W w2:World} (c:Below W.heap.size W w2) (K:Nat->Int):Hid (∀z u a,(w2.alloc (.cells z u)).setCells w2.heap.size 0 (cf 6 K)=a->6<=z.size->Hid (Below W.heap.size W a)∧Hid (a.rangeAt w2.heap.size 0 (cf 6 K))):=hid fun z u a e d=>by
 subst e;exact⟨hid (aM (T:=fun _=>False) (w:=W) (b:=w2.heap.size) (.inr c.size) (cf 6 K) 0 _ ((Kp.IM c).alloc _)).all,hid (World.rangeAt_setCells_same (w2.alloc (.cells z u)) w2.heap.size 0 (cf 6 K) (by rw[ay];exact aP w2 z u _ 6 rfl d))⟩
section
variable {P : Program} {ops : Array Oper} {Q : Exit -> Act -> World -> Prop} {md : Region.Mode} {S R : World -> Prop} {fs : List Nat}
theorem r1 (i:Nat) {fuel:Nat} {b:Array Bool} {a:Act} {w:World} {o:Oper} (d:ops[i]? =some o) (h:∀c:Act->World->Prop,Shut (∀a w,S w->(fp fs (b.setIfInBounds i true)=true->R w)->(S w->(fp fs (b.setIfInBounds i true)=true->R w)->dK P md ops Q S R fs fuel (b.setIfInBounds i true) a w)->c a w)->if Region.wanted o (yielded ops a.tmps)=true then Oper.wp P o a w c Q else c (a.put o.dst undef) w) (e:Region.ready md ops b=[i]:=by kernel_rfl):dK P md ops Q S R fs (fuel+1) b a w:=dp e (by simp) (di.cons d h di.nil)
theorem tF (i:Nat) (v:Value) {d:Oper} {fuel:Nat} {b:Array Bool} {a:Act} {w:World} (hi:ops[i]? =some d) (g:S w) (f:fp fs b=true->R w) (h:dK P md ops Q S R fs fuel (b.setIfInBounds i true) (a.put d.dst v) w) (n:YieldsIf P ops S d v a:=by exact Or.inl ⟨by rfl,fun W h=>by clear h;go_simp⟩) (m:Region.noSelect ops=true:=by kernel_rfl) (j:Region.free md ops b i=true:=by kernel_rfl) (l:(Region.ready md ops b).contains i=true:=by kernel_rfl) (k:fs.contains i=false:=by kernel_rfl) (e:∀c a w,Q (.panic c) (a.put d.dst v) w->Q (.panic c) a w:=by exact fun _ _ _ h=>h):dK P md ops Q S R fs (fuel+1) b a w:=ig hi m j l k e n g f h
theorem tG (i:Nat) (v:Value) {d:Oper} {fuel:Nat} {b:Array Bool} {a:Act} {w:World} (hi:ops[i]? =some d) (g:S w) (f:fp fs b=true->R w) (h:dK P md ops Q S R fs fuel (b.setIfInBounds i true) (a.put d.dst v) w) (n:YieldsIf P ops S d v a:=by exact Or.inl ⟨by rfl,fun W h=>by have o:=h;clear h;go_simp⟩) (m:Region.noSelect ops=true:=by kernel_rfl) (j:Region.free md ops b i=true:=by kernel_rfl) (l:(Region.ready md ops b).contains i=true:=by kernel_rfl) (k:fs.contains i=false:=by kernel_rfl) (e:∀c a w,Q (.panic c) (a.put d.dst v) w->Q (.panic c) a w:=by exact fun _ _ _ h=>h):dK P md ops Q S R fs (fuel+1) b a w:=ig hi m j l k e n g f h
end
