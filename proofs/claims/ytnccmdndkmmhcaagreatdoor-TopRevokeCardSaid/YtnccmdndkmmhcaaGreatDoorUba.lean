/- Uba -/
import Derived.BigGuard
import Derived.BigQuiet
import Derived.Test.YtnccmdndkmmhcaaGreatDoorUaz
set_option maxRecDepth 100000
set_option maxHeartbeats 16000000
namespace Go.Proofs.YtnccmdndkmmhcaaGreatDoor
namespace Wd
open Go.RowKit Mem Bw Nums Mmu
theorem InT.re {w w':World} {tag:Nat->Nat} {t I s wb:Nat} {u:Value} {c:Nat×List Value} (h:InT w tag t I s u c) (d:t≠0) (b:tag wb=0) (hk:Kp (fun k=>k=wb) w w'):InT w' (fun k=>if k=wb then 1 else tag k) t I s u c:=by
 have a:∀k,u.ownBlock=some k->k≠wb:=fun k e f=>d (by rw[<-h.2 k e,f,b]);exact⟨iy h.1 hk a,fun k e=>(ae (a k e)).trans (h.2 k e)⟩
theorem fx.re {w w':World} {tag:Nat->Nat} {t i O I s n wb:Nat} {v:Value} {cc:Nat->Nat×List Value} (h:fx w tag t i O I s n v cc) (q:t≠0) (hi:i≠0) (a:tag wb=0) (hk:Kp (fun k=>k=wb) w w'):fx w' (fun k=>if k=wb then 1 else tag k) t i O I s n v cc:=by
 obtain⟨g,us,d,b,l,m,o⟩:=h;have c:g≠wb:=fun f=>q (by rw[<-b,f,a]);refine⟨g,us,d,(ae c).trans b,l,iy m hk (fun k e=>?_),fun j p=>(o j p).re oA a hk⟩;have:g=k:=by simpa [Value.ownBlock] using e
 rw[<-this];exact c
theorem jR.re {w w':World} {tag:Nat->Nat} {n wb:Nat} {v:Value} {ls:List (List Ent)} (h:jR w tag n v ls) (a:tag wb=0) (hk:Kp (fun k=>k=wb) w w'):jR w' (fun k=>if k=wb then 1 else tag k) n v ls:=by
 obtain⟨g,us,r,m,s,t,u⟩:=h;have q:g≠wb:=fun f=>by rw[<-f,m] at a;cases a
 refine⟨g,us,r,(ae q).trans m,s,iy t hk (fun k e=>?_),fun j y=>?_⟩
 ·have:g=k:=by simpa [Value.ownBlock] using e
  rw[<-this];exact q
 ·rcases u j y with x|⟨b,off,cap,x1,x2,x3,d,z,A,B⟩
  ·exact .inl (x.re oA a hk)
  ·have l:b≠wb:=fun f=>by rw[<-f] at a;omega
   have c:∀{o:Nat} {v:Value},w.cell? ⟨b,o,none⟩=some v->w'.cell? ⟨b,o,none⟩=some v:=fun {o v} e=>(hk.cell (p:=⟨b,o,none⟩) d l).trans e;exact .inr ⟨b,off,cap,x1,fun i hi=>⟨c (x2 i hi).1,c (x2 i hi).2.1,c (x2 i hi).2.2.1,c (x2 i hi).2.2.2⟩,(ae l).trans x3,aE d hk.size,z,A,fun o=>(hk.frozen (p:=⟨b,o,none⟩) d l).trans (B o)⟩
theorem fS.box {W:World} {tag:Nat->Nat} {X:Nat->Value} {p:PW} {wb:Nat} (h:fS W tag X p) (a:tag wb=0) (b:W.there wb 0 11):cb (W.setCells wb 0 (de X).toList) wb (fun k=>if k=wb then 1 else tag k) X p:=by
 have hk:Kp (fun k=>k=wb) W (W.setCells wb 0 (de X).toList):=aM (T:=fun k=>k=wb) (.inl rfl) _ _ _ (aV _ _);exact⟨World.rangeAt_setCells_same W wb 0 (de X).toList b,World.there_setCells b _ _ _,ag rfl,⟨h.IL.re oD a hk,h.kinds.re oD a hk,h.IH.re oD a hk,h.II.re oD a hk,h.lines.re oD oD a hk,h.bits.re oD a hk,h.IJ.re oD a hk,h.ready.re oD oD a hk,h.IK.re a hk,h.IQ.re oD a hk,h.time⟩⟩
theorem InT.one {w:World} {tag:Nat->Nat} {t I s:Nat} {u:Value} {c:Nat×List Value} (h:InT w tag t I s u c):u.oneCell'=true:=by obtain⟨q,k,e⟩:=fJ h.1;rw[e];rfl
theorem fx.one {w:World} {tag:Nat->Nat} {t i O I s n:Nat} {v:Value} {a:Nat->Nat×List Value} (h:fx w tag t i O I s n v a):v.oneCell'=true:=by obtain⟨g,us,rfl,_⟩:=h;rfl
theorem jR.one {w:World} {tag:Nat->Nat} {n:Nat} {v:Value} {ls:List (List Ent)} (h:jR w tag n v ls):v.oneCell'=true:=by obtain⟨g,us,rfl,_⟩:=h;rfl
theorem fS.Ji {w:World} {tag:Nat->Nat} {X:Nat->Value} {p:PW} (h:fS w tag X p):(de X).all (·.oneCell')=true:=by
 simp only[List.all_toArray,List.all_cons,List.all_nil,Bool.and_true,h.IL.one,h.kinds.one,h.IH.one,h.II.one,h.lines.one,h.bits.one,h.IJ.one,h.ready.one,h.IK.one,h.IQ.one,eH];rw[h.time];rfl
end Wd
namespace Wd
open Go.RowKit Mem Bw Nums Mmu Hex
structure Pw (w0 W:World) (p:PW) (b6 b7:Option Nat) (X:Option (Nat->Value)):Prop where
 be:Below w0.heap.size w0 W
 c6:∀b,b6=some b->W.heap[b]? =some (.cells zW 28)∧w0.heap.size<=b
 c7:∀b,b7=some b->W.heap[b]? =some (.cells #[.int .i64 0,.int .i64 0] 47)∧w0.heap.size<=b
 x:∀V,X=some V->NwX W w0.heap.size p V
theorem AM {W a:World} (h:Below W.heap.size W a) {b:Nat} {o:Obj} (e:W.heap[b]? =some o):a.heap[b]? =some o:=(h.block b (Array.getElem?_eq_some_iff.1 e).1).trans e
theorem Pw.next {w0 W c:World} {p:PW} {b6 b7:Option Nat} {X:Option (Nat->Value)} (h:Pw w0 W p b6 b7 X) (a:Below W.heap.size W c):Pw w0 c p b6 b7 X:=
 ⟨btr h.be a,fun b e=>⟨AM a (h.c6 b e).1,(h.c6 b e).2⟩,fun b e=>⟨AM a (h.c7 b e).1,(h.c7 b e).2⟩,fun V e=>(h.x V e).below a⟩
theorem cup {b W:World} (h:Below b.heap.size b W) {a:Addr} {v:Value} (e:b.cell? a=some v):W.cell? a=some v:=(h.cell (aj _ _ e)).trans e
theorem vU (W:World) (o:Obj):(W.alloc o).heap[W.heap.size]? =some o:=by unfold World.alloc;simp
theorem Pw.J3 {w0 W:World} {p:PW} {b7:Option Nat} {X:Option (Nat->Value)} (h:Pw w0 W p none b7 X):Pw w0 (W.alloc (.cells zW 28)) p (some W.heap.size) b7 X:=
 have n:=h.next (bal (af _ _) _)
 ⟨n.be,fun b e=>by cases e;exact⟨vU _ _,h.be.size⟩,n.c7,n.x⟩
theorem Pw.J4 {w0 W:World} {p:PW} {b6:Option Nat} {X:Option (Nat->Value)} (h:Pw w0 W p b6 none X):Pw w0 (W.alloc (.cells #[.int .i64 0,.int .i64 0] 47)) p b6 (some W.heap.size) X:=
 have n:=h.next (bal (af _ _) _)
 ⟨n.be,n.c6,fun b e=>by cases e;exact⟨vU _ _,h.be.size⟩,n.x⟩
theorem NwX.low {w:World} {L M:Nat} {p:PW} {X:Nat->Value} (h:NwX w M p X) (hl:L<=M):NwX w L p X:=⟨fun i hi=>pM (h.own i hi) hl,h.dj,h.f4,h.f7,h.f8,h.t⟩
theorem Pw.call {w0 W a:World} {p:PW} {b6 b7:Option Nat} (h:Pw w0 W p b6 b7 none) {V:Nat->Value} (b:Below W.heap.size W a) (c:NwX a W.heap.size p V):Pw w0 a p b6 b7 (some V):=
 have n:=h.next b
 ⟨n.be,n.c6,n.c7,fun d e=>by cases e;exact c.low h.be.size⟩
theorem kO {W:World} {b:Nat} {a:Array Value} {T:TypeId} (h:W.heap[b]? =some (.cells a T)) (k:Nat) (hk:k<=a.size):W.there b 0 k:=fun j c=>by
 have e:W.cell? ⟨b,0+j,none⟩=a[0+j]? :=by simp[World.cell?,h]
 refine⟨?_,by simp[World.frozen?,h]⟩;rw[e,Array.getElem?_eq_getElem oA];rfl
theorem FC {w:World} {L x:Nat} {p:PW} {X:Nat->Value} (h:NwX w L p X) {b:Array Value} (d:w.heap[x]? =some (.cells b 47)):∀i,i<10->(X i).ownBlock≠some x:=fun i hi e=>by
 rcases (h.own i hi).2 with ⟨e1,_⟩|⟨g,cap,f,e1,_,a,_⟩
 ·rw[e1] at e;cases e
 ·rw[e1] at e;obtain rfl:g=x:=by simpa [Value.ownBlock] using e
  rw[d] at a;have:wE i=47:=by simp at a;exact a.2.symm
  have c:∀i,i<10->wE i≠47:=oD;exact c i hi this
theorem yD {X:Nat->Value} {k:Nat}:∀n,(∀i,i<n->(X i).ownBlock≠some k)->rN X k n=0
 |0,_=>rfl
 |n+1,h=>by
  unfold rN;rw[ae (h n oA)];exact yD n (fun i hi=>h i oA)
theorem Pw.box {w0 W:World} {p:PW} {b6 b7:Nat} {X:Nat->Value} (h:Pw w0 W p (some b6) (some b7) (some X)) (g:∀l∈p.lines,l=[]) (j:∀l∈p.ready,l=[]) (m:∀l∈p.IK,l=[]):
  cb ((W.setCells b6 0 (de X).toList).setCells b7 0 [.int .i64 0,.int .i64 (-1)]) b6 (Bl X b6) X p∧Below w0.heap.size w0 ((W.setCells b6 0 (de X).toList).setCells b7 0 [.int .i64 0,.int .i64 (-1)])∧((W.setCells b6 0 (de X).toList).setCells b7 0 [.int .i64 0,.int .i64 (-1)]).cell? ⟨b7,0,none⟩=some (.int .i64 0)∧w0.heap.size<=b6∧∀k,k<w0.heap.size->rN X k 10=0:=by
 obtain⟨c6,d⟩:=h.c6 b6 rfl;obtain⟨c7,s⟩:=h.c7 b7 rfl;have a:=h.x X rfl;have c:=kO c6 11 oD;have r:=kO c7 2 oD;have q:b6≠b7:=fun e=>by rw[e,c7] at c6;simp at c6
 have k1:Kp (fun k=>k=b6∨k=b7) W (W.setCells b6 0 (de X).toList):=aM (.inl (.inl rfl)) _ _ _ (aV _ _);have k2:Kp (fun k=>k=b6∨k=b7) W ((W.setCells b6 0 (de X).toList).setCells b7 0 [.int .i64 0,.int .i64 (-1)]):=aM (.inl (.inr rfl)) _ _ _ k1;have f:Kp (fun k=>k=b7) (W.setCells b6 0 (de X).toList) ((W.setCells b6 0 (de X).toList).setCells b7 0 [.int .i64 0,.int .i64 (-1)]):=aM (T:=fun k=>k=b7) (.inl rfl) _ _ _ (aV _ _);have b:=FD a c6;have o:=FC a c7;have n:=(Array.getElem?_eq_some_iff.1 c6).1;refine⟨Wb.box (B:=w0.heap.size) ⟨⟨aE n k2.size,fun i hi=>iy (a.own i hi) k2 (fun k e hk=>by rcases hk with hk|hk;exact b i hi (hk▸e);exact o i hi (hk▸e)),a.dj,b⟩,eM (World.rangeAt_setCells_same W b6 0 (de X).toList c) f q,World.there_setCells (World.there_setCells c _ _ _) _ _ _⟩ a.f4 a.f7 a.f8 a.t g j m,k2.below h.be h.be.size (fun k hk e=>oA),?_,d,fun k hk=>yD 10 (fun i hi e=>?_)⟩
 ·exact World.rangeAt_setCells_same _ b7 0 [.int .i64 0,.int .i64 (-1)] (World.there_setCells r _ _ _) 0 _ rfl
 ·have:=((a.own i hi).lt k e).1;omega
theorem uP {op:Oper} {a:Act} {w:World} {K:Act->World->Prop} {Q:Exit->Act->World->Prop} {x y:Tmp} (c:op.op=.store 47 (.tmp x) (.tmp y)) (b:Nat) (e:a.eval (.tmp x)=.pointer (some ⟨b,0,none⟩)) (f:a.eval (.tmp y)=.agg #[.int .i64 0,.int .i64 (-1)]) (d:w.there b 0 2)
  (h:K (a.put op.dst undef) (w.setCells b 0 [.int .i64 0,.int .i64 (-1)])):op.wp Tryz.prog a w K Q:=
 wp_store_mid 47 _ _ c b 0 #[.int .i64 0,.int .i64 (-1)] e f d jG yZ h
theorem AG {P:Program} {md:Region.Mode} {ops:Array Oper} {Q:Exit->Act->World->Prop} {S R:World->Prop} {fs:List Nat} {fuel:Nat} {c:Array Bool} {a:Act} {w:World} (F:(Nat->Value)->Nat->Nat->World->Prop) (l2:Array Bool) (b:(Nat->Value)->Nat->Nat->Act)
  (d:∀m X b6 b7 W,F X b6 b7 W->Rf.dK P md ops Q S R fs (m+2) l2 (b X b6 b7) W) (h:Hid (∀X b6 b7 W,F X b6 b7 W->Rf.dK P md ops Q S R fs 2 l2 (b X b6 b7) W)->Rf.dK P md ops Q S R fs fuel c a w):Rf.dK P md ops Q S R fs fuel c a w:=h (d 0)
theorem p9 (b off cap f c:Nat) (zs:List Int) (l:List ByteArray) (w:World) (hS:fR w b off l) (av:∀t∈l,gf t=true) (hl:l.length<=100) (hm:l.map Prs.hJ=(f:Int)::(c:Int)::zs) (f0:1<=f) (f1:f<=24) (c0:1<=c) (c1:c<=4) (z0:1<=zs.length) (z1:zs.length<=8) (hz:∀z∈zs,0<=z∧z<=3):
  Calls Tryz.prog 170 #[.slice (some ⟨b,off,none⟩) l.length cap] w fun r w'=>∃X tag,r=.returned (.tuple #[.agg (de X),.int .i64 0])∧fS w' tag X (wlP f c zs)∧(∀k,k<w.heap.size->tag k=0)∧Below w.heap.size w w':=by
 have B0:=hid (bal (af w.heap.size w) (.cells zW 28));have T0:=hid (aP w zW 28 w.heap.size 11 rfl oD);have HN:=hid (iU b off cap l _ (fR.Jq hS B0) av hl);rw[hm] at HN;have ax:=hid (show l.length=zs.length+2 by have:=dF List.length hm;simpa using this);have ZL:(zs.length:Int)<=8:=oA;have aR:(1:Int)<=zs.length:=oA;have HZ:=hid hz;clear hm hS av hl;go_enter Tryz.func170,Tryz.ntmps170
 go_wp2_with fail
 refine HN.mono ?_;rintro r w1 ⟨u,rfl,hu,ap⟩;rw[ax.out] at hu;obtain⟨b2,n,rfl,aI,aJ,hi⟩:=j0 hu oS oA;have I:=hid hi;have g3:¬n=2:=oA;have B1:=hid (btr B0 ap);have aq:=hid ap;clear ap;clear hu aI hi aJ;have g0:(0:Int)<(zs.length:Int)+2:=oA;have g1:(1:Int)<(zs.length:Int)+2:=oA;have Q:(2:Int)<=(zs.length:Int)+2:=oA;have n0:=I.out 0 oS;have n1:=I.out 1 oS;rw[bu] at n0;rw[aC] at n1;simp only[bh,bC] at n0 n1;have KC:=hid (fun W (h:Below w1.heap.size w1 W)=>(⟨cup h n0,cup h n1⟩:_∧_));have A:=hid (fun W (h:Below w1.drew.heap.size w1.drew W)=>rl f c (.slice (some ⟨b2,2,none⟩) zs.length (n - 2)) zs W ⟨_,b2,2,_,rfl,fun _=>rfl,fun j hj=>by
  have:=(I.below (btr (aD w1 1) h)) (j+2) (by simp;omega);simp only[bC] at this;rw[show 2+j=0+(j+2) by omega];exact this⟩ f0 f1 c0 c1 z0 z1 HZ)
 have P:=hid (show Pw w1.drew w1.drew (ot f c zs) none none none from⟨af _ _,fun _ h=>(by cases h),fun _ h=>(by cases h),fun _ h=>(by cases h)⟩);clear n0 n1;have U:=hid (show Below w1.heap.size w1 w1.drew from aD w1 1);go_upto_region 6 with fail
 refine bI (R:=fun W=>Below w1.drew.heap.size w1.drew W) [14] [0,1,2,3,4,5,6,7] 8 oK (af _ _) oK oK oK (fun _=>?_)
 repeat (refine Rf.rs ?_ rfl oR (fun W h=>by obtain⟨h1,h2⟩:=KC.out _ (btr (aD w1 1) h);clear h;go_simp;try rfl);simp only[jj])
 refine aL ?_;clear KC I;generalize w1.drew=w2 at*;refine AG (fun X b6 b7 W=>Pw w2 W (ot f c zs) (some b6) (some b7) (some X)) #[true,true,true,true,true,true,true,true,true,true,true,true,true,true,false,false] (fun X b6 b7=>⟨#[.slice (some ⟨b,off,none⟩) l.length cap,undef,.pointer (some ⟨w.heap.size,0,none⟩),.int .i64 0,.slice (some ⟨b2,0,none⟩) (zs.length+2) n,.int .i64 0,.pointer (some ⟨b6,0,none⟩),.pointer (some ⟨b7,0,none⟩),.tuple #[.slice (some ⟨b2,0,none⟩) (zs.length+2) n,.int .i64 0],.slice (some ⟨b,off,none⟩) l.length cap,.tuple #[.slice (some ⟨b2,0,none⟩) (zs.length+2) n,.int .i64 0],.slice (some ⟨b2,0,none⟩) (zs.length+2) n,.int .i64 0,.int .i64 0,.bool false,undef,undef,.slice (some ⟨b2,0,none⟩) (zs.length+2) n,.int .i64 ((zs.length:Int)+2),.bool (decide ((zs.length:Int)+2<3)),undef,.tuple #[.agg (de X),.agg #[.int .i64 0,.int .i64 (-1)]],.slice (some ⟨b2,0,none⟩) (zs.length+2) n,.pointer (some ⟨b2,0,none⟩),.int .i64 f,.slice (some ⟨b2,0,none⟩) (zs.length+2) n,.pointer (some ⟨b2,1,none⟩),.int .i64 c,.slice (some ⟨b2,0,none⟩) (zs.length+2) n,.slice (some ⟨b2,2,none⟩) zs.length (n - 2),.tuple #[.agg (de X),.agg #[.int .i64 0,.int .i64 (-1)]],.agg (de X),.agg #[.int .i64 0,.int .i64 (-1)],undef,undef,undef,undef,undef,undef,undef,undef,undef,undef,undef,undef,undef,undef,undef],[]⟩) ?_ (fun y=>?_)
 ·intro m X b6 b7 W H;dsimp only;have p:=hid (H.box (fun l h=>(List.mem_replicate.1 h).2) (fun l h=>(List.mem_replicate.1 h).2) (fun l h=>(List.mem_replicate.1 h).2));have T6:=hid (kO (H.c6 b6 rfl).1 11 oD);have T7:=hid (show (W.setCells b6 0 [X 0,X 1,X 2,X 3,X 4,X 5,X 6,X 7,X 8,X 9,X 10]).there b7 0 2 from World.there_setCells (kO (H.c7 b7 rfl).1 2 oD) _ _ _);have O1:=hid (Array.all_eq_true'.2 (xR (H.x X rfl)));clear H;refine Rf.r1 14 rfl (fun K a=>?_);refine wnt oR ?_;simp only[dc,bC,bh];refine wp_store_mid 28 _ _ rfl b6 0 (de X) rfl rfl T6 fA O1 ?_;refine a _ _ trivial (bX oK) (fun _ _=>?_);clear a K
  try simp only[jj]
  change Hid (cb ((W.setCells b6 0 [X 0,X 1,X 2,X 3,X 4,X 5,X 6,X 7,X 8,X 9,X 10]).setCells b7 0 [.int .i64 0,.int .i64 (-1)]) b6 (Bl X b6) X (ot f c zs)∧Below w2.heap.size w2 ((W.setCells b6 0 [X 0,X 1,X 2,X 3,X 4,X 5,X 6,X 7,X 8,X 9,X 10]).setCells b7 0 [.int .i64 0,.int .i64 (-1)])∧((W.setCells b6 0 [X 0,X 1,X 2,X 3,X 4,X 5,X 6,X 7,X 8,X 9,X 10]).setCells b7 0 [.int .i64 0,.int .i64 (-1)]).cell? ⟨b7,0,none⟩=some (.int .i64 0)∧w2.heap.size<=b6∧∀k,k<w2.heap.size->rN X k 10=0) at p;clear T6 O1;generalize W.setCells b6 0 [X 0,X 1,X 2,X 3,X 4,X 5,X 6,X 7,X 8,X 9,X 10]=W2 at T7 p ⊢;refine Rf.r1 15 rfl (fun K a=>?_);refine wnt oR ?_;simp only[dc,bC,bh];refine uP rfl b7 rfl rfl T7 ?_;refine a _ _ trivial (bX oK) (fun _ _=>?_);clear a K
  try simp only[jj]
  refine bc oK ?_ _;clear T7 A P;generalize W2.setCells b7 0 [.int .i64 0,.int .i64 (-1)]=W3 at p ⊢;have s:=hid p.1;have S:=hid (btr B1 (btr U p.2.1));have BA:=hid (btr aq (btr U p.2.1));have c7:=p.2.2.1;have O:=hid (show ∀k,k<w1.heap.size->Bl X b6 k=0 from fun k hk=>by
   have h1:=p.2.2.2.1;unfold Bl;have h2:=U.size;rw[ae oA];exact p.2.2.2.2 k oA)
  obtain⟨g1,k1,e1⟩:=s.o.kinds.form (show 0<(ot f c zs).kinds.length by rw[show (ot f c zs).kinds.length=f from bk];omega);obtain⟨Q,k2,e2⟩:=s.o.IH.form (show 0<(ot f c zs).IH.length by rw[show (ot f c zs).IH.length=f*16 from bk];omega);have r1:W3.cell? ⟨b6,1,none⟩=some (X 1):=ai s.r rfl;rw[e1] at r1;have J:=s.o.kinds;rw[e1] at J;obtain⟨u1,aw⟩:=Option.isSome_iff_exists.1 (J.there 0 1 (by rw[show (ot f c zs).kinds.length=f from bk];omega) 0 oA).1;rw[bu] at aw;have aH:=J.frozen 0;have aK:(0:Int)<((ot f c zs).kinds.length:Int):=by rw[show (ot f c zs).kinds.length=f from bk];omega
  have Z:=hid (s.IW e1 0 5);clear p J;go_upto_region 10 with fail
  clear r1 aw aH aK c7;have C:=hid Z.1;have aa:=hid Z.2;clear Z s;generalize W3.setCell ⟨g1,0,none⟩ (.int .i64 5)=W4 at C aa ⊢;have r2:W4.cell? ⟨b6,2,none⟩=some (X 2):=ai C.r rfl;rw[e2] at r2;have Y:=C.o.IH;rw[e2] at Y;have V:=hid (show (ot f c zs).IH.length=f*16 from bk);have au:=hid (show W4.there Q (0*7) 7 from Y.there (0*7) 7 (by show 0*7+7<=(ot f c zs).IH.length*7;rw[V.out];omega));have aN:(0:Int)<((ot f c zs).IH.length:Int):=by rw[V.out];omega
  have K2:=hid (C.I1 e2 (i:=0) (by show 0<(ot f c zs).IH.length;rw[V.out];omega) ndk);clear Y;go_upto_region 11 with (first|((with_reducible refine gst 34 ?_);refine nC rfl _ _ rfl Q (0*7) rfl (cf 7 ndk) rfl (ay _ _) (bQ _ _) au ?_))
  have D:=hid K2.1;have E:=hid (aa.trans K2.2);clear r2 aN au K2 C aa;generalize W4.setCells Q (0*7) (cf 7 ndk)=B at D E ⊢;have L0:w.heap.size<w1.heap.size:=aE oS aq.size;have T5:=hid (eg (eg T0 (T:=fun _=>False) (.IM BA) id) E.k (by rw[O.out _ L0];exact fun h=>h rfl));have O5:=hid (D.o.Ji);have RX:=hid (show (B.setCells w.heap.size 0 [X 0,X 1,X 2,X 3,X 4,X 5,X 6,X 7,X 8,X 9,X 10]).rangeAt w.heap.size 0 (de X).toList from World.rangeAt_setCells_same B w.heap.size 0 (de X).toList T5);have KX:=hid (show Kp (fun k=>k=w.heap.size) B (B.setCells w.heap.size 0 [X 0,X 1,X 2,X 3,X 4,X 5,X 6,X 7,X 8,X 9,X 10]) from aM (T:=fun k=>k=w.heap.size) (.inl rfl) _ _ _ (aV _ _));have B6:=hid (D.kp KX (fun k _ e=>by rw[e];exact O _ L0) (fun _ _=>rfl));have BE:=hid (show Below w.heap.size w (B.setCells w.heap.size 0 [X 0,X 1,X 2,X 3,X 4,X 5,X 6,X 7,X 8,X 9,X 10]) from KX.below (E.k.below S S.size (fun k hk h=>h (O.out k oA))) (aB S.size E.k.size) (fun k hk e=>oA));clear e1 e2;go_wp2_with (first|((with_reducible refine gld 28 ?_);refine ja rfl _ rfl b6 rfl X D.r ?_)|((with_reducible refine gst 28 ?_);refine wpList_store_mid rfl 28 _ _ rfl w.heap.size 0 (de X) rfl rfl T5 fA O5 ?_))
  clear KX T5 O5 D E;generalize B.setCells w.heap.size 0 [X 0,X 1,X 2,X 3,X 4,X 5,X 6,X 7,X 8,X 9,X 10]=W6 at RX B6 BE ⊢;exact ar (v:=.tuple #[.agg (de X),.int .i64 0]) (iJ rfl rfl (run_loadVar_mid _ w.heap.size 0 28 (de X).toList _ RX Tryz.underlying28 rfl fA) rfl) rfl ⟨X,rfl,Bl X b6,B6.o,fun k hk=>O.out k oA,BE.out⟩
 refine Rf.dp (rs:=[8,12,13]) oK oS (dT rfl (fun K a=>?_) (dT rfl (fun K a=>?_) (dT rfl (fun K a=>?_) Rf.di.nil)))
 ·skip
  refine wnt oR ?_;go_simp
  refine (A.out _ P.be).mono ?_;rintro q w3 ⟨X,rfl,g,d⟩;have N:=hid (P.call d g);clear g d;go_wp2_with fail
  refine a _ _ trivial (fun _=>N.be) (fun _ _=>?_);clear a K
  try simp only[jj]
  refine bN (R:=fun W=>Below w2.heap.size w2 W) oK _ N.be [9,10,11] 4 _ _ oK ?_
  repeat (refine Rf.rs ?_;simp only[jj])
  refine aL ?_;refine Rf.dp (rs:=[12,13]) oK oS (dT rfl (fun K a=>?_) (dT rfl (fun K a=>?_) Rf.di.nil))
  ·skip
   refine wnt oR ?_;have al:=hid N.J3;go_simp
   refine a _ _ trivial (fun _=>al.be) (fun _ _=>?_);clear a K
   try simp only[jj]
   generalize World.alloc _ _=az at al ⊢;refine Rf.r1 13 rfl (fun K a=>?_)
   ·skip
    refine wnt oR ?_;have am:=hid al.J4;go_simp
    refine a _ _ trivial (fun _=>am.be) (fun _ _=>?_);clear a K
    try simp only[jj]
    generalize World.alloc _ _=aG at am ⊢;exact y _ _ _ _ am
  ·skip
   refine wnt oR ?_;have an:=hid N.J4;go_simp
   refine a _ _ trivial (fun _=>an.be) (fun _ _=>?_);clear a K
   try simp only[jj]
   generalize World.alloc _ _=aF at an ⊢;refine Rf.r1 12 rfl (fun K a=>?_)
   ·skip
    refine wnt oR ?_;have ao:=hid an.J3;go_simp
    refine a _ _ trivial (fun _=>ao.be) (fun _ _=>?_);clear a K
    try simp only[jj]
    generalize World.alloc _ _=aA at ao ⊢;exact y _ _ _ _ ao
 ·skip
  refine wnt oR ?_;have F:=hid P.J3;go_simp
  refine a _ _ trivial (fun _=>F.be) (fun _ _=>?_);clear a K
  try simp only[jj]
  generalize World.alloc _ _=aO at F ⊢;refine Rf.dp (rs:=[8,13]) oK oS (dT rfl (fun K a=>?_) (dT rfl (fun K a=>?_) Rf.di.nil))
  ·skip
   refine wnt oR ?_;go_simp
   refine (A.out _ F.be).mono ?_;rintro q w4 ⟨X,rfl,g,d⟩;have ac:=hid (F.call d g);clear g d;go_wp2_with fail
   refine a _ _ trivial (fun _=>ac.be) (fun _ _=>?_);clear a K
   try simp only[jj]
   refine bN (R:=fun W=>Below w2.heap.size w2 W) oK _ ac.be [9,10,11] 3 _ _ oK ?_
   repeat (refine Rf.rs ?_;simp only[jj])
   refine aL ?_;refine Rf.r1 13 rfl (fun K a=>?_)
   ·skip
    refine wnt oR ?_;have ad:=hid ac.J4;go_simp
    refine a _ _ trivial (fun _=>ad.be) (fun _ _=>?_);clear a K
    try simp only[jj]
    generalize World.alloc _ _=aG at ad ⊢;exact y _ _ _ _ ad
  ·skip
   refine wnt oR ?_;have L:=hid F.J4;go_simp
   refine a _ _ trivial (fun _=>L.be) (fun _ _=>?_);clear a K
   try simp only[jj]
   generalize World.alloc _ _=aF at L ⊢;refine Rf.r1 8 rfl (fun K a=>?_)
   ·skip
    refine wnt oR ?_;go_simp
    refine (A.out _ L.be).mono ?_;rintro q w5 ⟨X,rfl,g,d⟩;have ab:=hid (L.call d g);clear g d;go_wp2_with fail
    refine a _ _ trivial (fun _=>ab.be) (fun _ _=>?_);clear a K
    try simp only[jj]
    refine bN (R:=fun W=>Below w2.heap.size w2 W) oK _ ab.be [9,10,11] 2 _ _ oK ?_
    repeat (refine Rf.rs ?_;simp only[jj])
    refine aL ?_;exact y _ _ _ _ ab
 ·skip
  refine wnt oR ?_;have G:=hid P.J4;go_simp
  refine a _ _ trivial (fun _=>G.be) (fun _ _=>?_);clear a K
  try simp only[jj]
  generalize World.alloc _ _=aQ at G ⊢;refine Rf.dp (rs:=[8,12]) oK oS (dT rfl (fun K a=>?_) (dT rfl (fun K a=>?_) Rf.di.nil))
  ·skip
   refine wnt oR ?_;go_simp
   refine (A.out _ G.be).mono ?_;rintro q w4 ⟨X,rfl,g,d⟩;have ah:=hid (G.call d g);clear g d;go_wp2_with fail
   refine a _ _ trivial (fun _=>ah.be) (fun _ _=>?_);clear a K
   try simp only[jj]
   refine bN (R:=fun W=>Below w2.heap.size w2 W) oK _ ah.be [9,10,11] 3 _ _ oK ?_
   repeat (refine Rf.rs ?_;simp only[jj])
   refine aL ?_;refine Rf.r1 12 rfl (fun K a=>?_)
   ·skip
    refine wnt oR ?_;have aj:=hid ah.J3;go_simp
    refine a _ _ trivial (fun _=>aj.be) (fun _ _=>?_);clear a K
    try simp only[jj]
    generalize World.alloc _ _=aA at aj ⊢;exact y _ _ _ _ aj
  ·skip
   refine wnt oR ?_;have M:=hid G.J3;go_simp
   refine a _ _ trivial (fun _=>M.be) (fun _ _=>?_);clear a K
   try simp only[jj]
   generalize World.alloc _ _=az at M ⊢;refine Rf.r1 8 rfl (fun K a=>?_)
   ·skip
    refine wnt oR ?_;go_simp
    refine (A.out _ M.be).mono ?_;rintro q w5 ⟨X,rfl,g,d⟩;have ag:=hid (M.call d g);clear g d;go_wp2_with fail
    refine a _ _ trivial (fun _=>ag.be) (fun _ _=>?_);clear a K
    try simp only[jj]
    refine bN (R:=fun W=>Below w2.heap.size w2 W) oK _ ag.be [9,10,11] 2 _ _ oK ?_
    repeat (refine Rf.rs ?_;simp only[jj])
    refine aL ?_;exact y _ _ _ _ ag
end Wd
namespace Wd
open Go.RowKit Mem Bw Nums Mmu
def fmE (p:PW) (f k:Int):Int:=if f<0∨(p.kinds.length:Int)<=f then 2 else if p.kinds.getD f.toNat 0=k then 0 else 3
theorem iv (vb:Nat) (V:Nat->Value) (p:PW) (f k:Int) (w:World) (hv:d6 w vb V p):
  Calls Tryz.prog 256 #[.pointer (some ⟨vb,0,none⟩),.int .i64 f,.int .i64 k] w fun r w'=>r=.returned (.int .i64 (fmE p f k))∧w=w':=by
 have c1:=r11 1 hv.r;obtain⟨q1,b1,q,k1,e1,i,j⟩:=hv.v.kinds;have hl:(p.kinds.length:Int)<=1000:=by have:=hv.f.kinds;omega
 rw[e1] at c1;have a:=hid (show fmE p f k=if f<0∨(p.kinds.length:Int)<=f then 2 else if p.kinds.getD f.toNat 0=k then 0 else 3 from rfl);by_cases b:f<0
 ·have e:=az b;rw[ag (.inl b)] at a;go_enter Tryz.func256,Tryz.ntmps256
  go_wp2_with fail
  go_ret
  exact⟨by rw[a.out];rfl,rfl⟩
 have e:=aw b;by_cases c:(p.kinds.length:Int)<=f
 ·have g:=az c;rw[ag (.inr c)] at a;go_enter Tryz.func256,Tryz.ntmps256
  go_wp2_with fail
  go_ret
  exact⟨by rw[a.out];rfl,rfl⟩
 have g:=aw c;obtain⟨n,rfl⟩:∃n:Nat,f=n:=⟨f.toNat,oA⟩
 have h:n<p.kinds.length:=oA;have o:(n:Int)<(p.kinds.length:Int):=oA;rw[ae oA,ah,aa,ac h] at a;obtain rfl:=i oA;have l:=j n h;replace a:=hid (show fmE p n k=if p.kinds[n]=k then 0 else 3 from a);generalize p.kinds[n]=z at l a;clear b c i j e g;by_cases d:z=k
 ·rw[ag d] at a;have m:(z==k)=true:=by simpa using d
  go_enter Tryz.func256,Tryz.ntmps256
  go_wp2_with fail
  go_ret
  exact⟨by rw[a.out];rfl,rfl⟩
 ·rw[ae d] at a;have m:(z==k)=false:=by simpa using d
  go_enter Tryz.func256,Tryz.ntmps256
  go_wp2_with fail
  go_ret
  exact⟨by rw[a.out];rfl,rfl⟩
theorem gU {b W:World} (h:Below b.heap.size b W) {a:Addr} {v:Value} (e:b.cell? a=some v):W.cell? a=some v:=(h.cell (aj _ _ e)).trans e
theorem nI (wb:Nat) (tag:Nat->Nat) (V:Nat->Value) (p:PW) (E T ca s g f wr:Nat) (w:World) (bt:cb w wb tag V p) (G:p.Fits) (hl:∀l∈p.IK,l.length<=100) (t:fW w E T [(s:Int),(g:Int),(f:Int),(wr:Int)]) (ht:tag E=0)
  (n:fmE p s 4=0) (hg:g<=255) (hw:wr<=1) (hf:f<p.kinds.length) (hr:p.IL.length=p.kinds.length*16) (hk:p.kinds.getD f 0=3) (S:p.IL.getD (s*16+g/16) 0=0):
  Calls Tryz.prog 226 #[.pointer (some ⟨wb,0,none⟩),.slice (some ⟨E,T,none⟩) 4 ca] w fun r w'=>r=.returned (.int .i64 0)∧cb w' wb tag V {p with IL:=p.IL.set (s*16+g/16) (32768+(f:Int))}∧Kt tag tag w w':=by
 have I:=hid (bt.view G hl);have Y:=hid bt;have hs:s<p.kinds.length:=by
  unfold fmE at n;by_cases h:(s:Int)<0∨(p.kinds.length:Int)<=(s:Int)
  ·rw[ag h] at n;cases n
  ·omega
 have a0:=t 0 oS;have a1:=t 1 oS;have N:=t 2 oS;have O:=t 3 oS;rw[bu] at a0;simp only[bh,bC] at a0 a1 N O;have c0:=r11 0 bt.r;have c1:=r11 1 bt.r;obtain⟨q1,b1,o1,k1,e1,ae,ah⟩:=I.v.kinds;have am:=G.kinds;have ao:=G.IL;have av:(p.kinds.length:Int)<=1000:=oA;have ax:(p.IL.length:Int)<=1000:=oA;obtain rfl:=ae oA;have P:=ah f hf;rw[show p.kinds[f]=3 by rw[aa,ac hf] at hk;exact hk] at P;obtain⟨a,cap0,D⟩:∃a cap0,V 0=.slice (some ⟨a,0,none⟩) p.IL.length cap0:=bt.o.IL.form (by show 0<p.IL.length;omega)
 have F:s*16+g/16<p.IL.length:=oA;rw[D] at c0;rw[e1] at c1;have cr:w.cell? ⟨a,s*16+g/16,none⟩=some (.int .i64 0):=by
  obtain⟨q,b,o,k,e,hq,ap⟩:=I.v.IL;rw[D] at e
  cases e
  have:=hq oA
  cases this
  have:=ap _ F;rw[aC] at this;rw[this,show p.IL[s*16+g/16]=0 by rw[aa,ac F] at S;exact S]
 have J:=hid (fun W (h:Below w.heap.size w W)=>(⟨gU h a0,gU h a1,gU h N,gU h O,gU h c0,gU h c1,gU h P,gU h cr⟩:_∧_∧_∧_∧_∧_∧_∧_));have HM:=hid (iv wb V p s 4 w I);rw[n] at HM;have aj:=hid (fun nq=>show Calls Tryz.prog 62 #[.int .i64 g,.int .i64 255] (w.drewN nq) fun e w'=>e=.returned (.bool false)∧w'=w.drewN nq from (Isa.fy g 255 (w.drewN nq)).mono fun e w' ⟨Q,i⟩=>⟨by rw[Q,show decide ((g:Int)<0∨255<(g:Int))=false from aw oA],i.symm⟩);have al:=hid (fun nq=>show Calls Tryz.prog 62 #[.int .i64 wr,.int .i64 1] (w.drewN nq) fun e w'=>e=.returned (.bool false)∧w'=w.drewN nq from (Isa.fy wr 1 (w.drewN nq)).mono fun e w' ⟨Q,i⟩=>⟨by rw[Q,show decide ((wr:Int)<0∨1<(wr:Int))=false from aw oA],i.symm⟩);have f1:decide ((f:Int)<0)=false:=aw oA;have f2:decide ((p.kinds.length:Int)<=(f:Int))=false:=aw oA;clear t n hk S ah ae e1 bt P cr;have HT:=hid ht;have ab:=hid D;have aq:=hid hr;have HD:=hid F;clear ht D hr F am ao hl G;go_enter Tryz.func226,Tryz.ntmps226
 go_wp2_with fail
 refine HM.mono ?_;rintro r w1 ⟨rfl,rfl⟩;go_upto_region 4 with fail
 refine bj oK oK ?_
 repeat (first|go_big_quiet_skip|(go_big_quiet_want;go_big_quiet_op;first|go_big_quiet_on|go_big_quiet_call (first|((with_reducible (show Calls _ 62 #[.int .i64 (g:Int),_] _ _));refine bF (aj.out _))|((with_reducible (show Calls _ 62 #[.int .i64 (wr:Int),_] _ _));refine bF (al.out _)))))
 refine cJ ?_;intro _ u;obtain⟨nq,x⟩:=u;subst x;have U:=hid (aG (af w.heap.size w) nq);obtain⟨y,x1,x2,x3,j,z,A,m⟩:=J.out _ U;clear a0 a1 N O c0 c1;have f3:decide (p.kinds.length<=f)=false:=aw oA;generalize w.drewN nq=w1 at*;have an:(g:Int).tdiv 16=((g/16:Nat):Int):=by rw[bR oA];omega
 go_upto_region 6 with fail
 refine bj oK oK ?_
 repeat (first|go_big_quiet_skip|(go_big_quiet_want;go_big_quiet_op;first|go_big_quiet_on|go_big_quiet_call (fail)))
 refine cJ ?_;intro _ u;obtain⟨nq,x⟩:=u;subst x;rw[show (s:Int)*16+(g:Int)/16=((s*16+g/16:Nat):Int) by omega];generalize ad:s*16+g/16=d at*;have ai:=hid ad;clear ad;have ar:(d:Int)<(p.IL.length:Int):=by have:=HD.out;omega
 have au:(f:Int)<(p.kinds.length:Int):=oA;clear an y x1 x2 x3 j z A m;have X:=hid (aG U nq);obtain⟨y,x1,x2,x3,j,z,A,m⟩:=J.out _ X;generalize w1.drewN nq=w2 at*;go_upto_region 7 with fail
 refine bj oK oK ?_
 repeat (first|go_big_quiet_skip|(go_big_quiet_want;go_big_quiet_op;first|go_big_quiet_on|go_big_quiet_call (fail)))
 refine cJ ?_;intro _ u;obtain⟨nq,x⟩:=u;subst x;clear y x1 x2 x3 j z A m;have B:=hid (aG X nq);obtain⟨y,x1,x2,x3,j,z,A,m⟩:=J.out _ B;generalize w2.drewN nq=c at*;clear y x1 x3 z A;go_upto_region 10 with fail
 have C:=hid (aD c 1);have Z:=hid (Y.below (btr B C));have FZ:=hid (show c.drew.frozen? ⟨a,d,none⟩=false from by
  have i:=Z.o.IL;rw[ab.out] at i;exact i.frozen d)
 refine bI (R:=fun W=>W.cell? ⟨wb,0,none⟩=some (.slice (some ⟨a,0,none⟩) p.IL.length cap0)∧W.cell? ⟨E,T+2,none⟩=some (.int .i64 f)) [10] [0,1,2,3,4,5,6,7,8,9] 1 oK ⟨gU C j,gU C x2⟩ oK oK oK (fun _=>?_)
 repeat (refine Rf.rs ?_;simp only[jj])
 refine aL ?_;refine Rf.r1 10 rfl (fun K hK=>?_);have y4:=gU C m;have fz:=FZ.out;go_simp
 refine hK _ _ trivial (bX oK) (fun _ _=>?_);clear hK K
 try simp only[jj]
 refine bc oK ?_ _;rw[show IntKind.i64.wrap (32768+(f:Int))=32768+(f:Int) from bZ _ oA oA];have M:=hid ((Y.below B).IU ab d (32768+(f:Int)));have H:=hid (show Below (c.setCell ⟨a,d,none⟩ (.int .i64 (32768+(f:Int)))).heap.size (c.setCell ⟨a,d,none⟩ (.int .i64 (32768+(f:Int)))) (c.setCell ⟨a,d,none⟩ (.int .i64 (32768+(f:Int)))).drew from aD _ 1);have L:=hid (show cb (c.setCell ⟨a,d,none⟩ (.int .i64 (32768+(f:Int)))).drew wb tag V {p with IL:=p.IL.set d (32768+(f:Int))}∧Kt tag tag w (c.setCell ⟨a,d,none⟩ (.int .i64 (32768+(f:Int)))).drew from⟨M.1.below H,((bp B).trans M.2).trans (bp H)⟩);generalize (c.setCell ⟨a,d,none⟩ (.int .i64 (32768+(f:Int)))).drew=W9 at L ⊢;clear M H FZ fz y4 m j x2 Z;go_wp2_with fail
 go_ret
 exact⟨rfl,by rw[ai.out];exact L.1,L.2⟩
theorem o8 (wb:Nat) (tag:Nat->Nat) (V:Nat->Value) (p:PW) (A I ca s g f wr a:Nat) (w:World) (bt:cb w wb tag V p) (G:p.Fits) (hl:∀l∈p.IK,l.length<=100) (C:fW w A I [(s:Int),(g:Int),(f:Int),(wr:Int)]) (ht:tag A=0)
  (B:fmE p s 4=0) (hg:g<=255) (hw:wr<=1) (hf:f<p.kinds.length) (hr:p.IL.length=p.kinds.length*16) (hk:p.kinds.getD f 0=2) (U:p.IL.getD (s*16+g/16) 0=a) (aB:0<a) (ar:a<=65535) (H:a%1024*16+g%16<p.IL.length) (T:p.IL.getD (a%1024*16+g%16) 0=0):
  Calls Tryz.prog 226 #[.pointer (some ⟨wb,0,none⟩),.slice (some ⟨A,I,none⟩) 4 ca] w fun r w'=>r=.returned (.int .i64 0)∧cb w' wb tag V {p with IL:=p.IL.set (a%1024*16+g%16) (32768+(wr:Int)*16384+(f:Int))}∧Kt tag tag w w':=by
 have L:=hid (bt.view G hl);have BT:=hid bt;have hs:s<p.kinds.length:=by
  unfold fmE at B;by_cases h:(s:Int)<0∨(p.kinds.length:Int)<=(s:Int)
  ·rw[ag h] at B;cases B
  ·omega
 have a0:=C 0 oS;have a1:=C 1 oS;have O:=C 2 oS;have P:=C 3 oS;rw[bu] at a0;simp only[bh,bC] at a0 a1 O P;have c0:=r11 0 bt.r;have c1:=r11 1 bt.r;obtain⟨q1,b1,o1,k1,e1,ai,al⟩:=L.v.kinds;have au:=G.kinds;have ax:=G.IL;have aI:(p.kinds.length:Int)<=1000:=oA;have aK:(p.IL.length:Int)<=1000:=oA;obtain rfl:=ai oA;have Q:=al f hf;rw[show p.kinds[f]=2 by rw[aa,ac hf] at hk;exact hk] at Q;obtain⟨b,cap0,E⟩:∃b cap0,V 0=.slice (some ⟨b,0,none⟩) p.IL.length cap0:=bt.o.IL.form (by show 0<p.IL.length;omega)
 have F:s*16+g/16<p.IL.length:=oA;rw[E] at c0;rw[e1] at c1;obtain⟨qr,br,aM,kr,er,aj,X⟩:=L.v.IL;rw[E] at er
 cases er
 have aq:=aj oA
 cases aq
 have cr:w.cell? ⟨b,s*16+g/16,none⟩=some (.int .i64 a):=by
  have:=X _ F;rw[aC] at this;rw[this,show p.IL[s*16+g/16]=(a:Int) by rw[aa,ac F] at U;exact U]
 have cp:w.cell? ⟨b,a%1024*16+g%16,none⟩=some (.int .i64 0):=by
  have:=X _ H;rw[aC] at this;rw[this,show p.IL[a%1024*16+g%16]=0 by rw[aa,ac H] at T;exact T]
 have z:=hid (fun W (h:Below w.heap.size w W)=>(⟨gU h a0,gU h a1,gU h O,gU h P,gU h c0,gU h c1,gU h Q,gU h cr,gU h cp⟩:_∧_∧_∧_∧_∧_∧_∧_∧_));have HM:=hid (iv wb V p s 4 w L);rw[B] at HM;have am:=hid (fun nq=>show Calls Tryz.prog 62 #[.int .i64 g,.int .i64 255] (w.drewN nq) fun e w'=>e=.returned (.bool false)∧w'=w.drewN nq from (Isa.fy g 255 (w.drewN nq)).mono fun e w' ⟨S,x⟩=>⟨by rw[S,show decide ((g:Int)<0∨255<(g:Int))=false from aw oA],x.symm⟩);have an:=hid (fun nq=>show Calls Tryz.prog 62 #[.int .i64 wr,.int .i64 1] (w.drewN nq) fun e w'=>e=.returned (.bool false)∧w'=w.drewN nq from (Isa.fy wr 1 (w.drewN nq)).mono fun e w' ⟨S,x⟩=>⟨by rw[S,show decide ((wr:Int)<0∨1<(wr:Int))=false from aw oA],x.symm⟩);have f1:decide ((f:Int)<0)=false:=aw oA;have f2:decide ((p.kinds.length:Int)<=(f:Int))=false:=aw oA;clear C B hk U al ai e1 bt Q cr cp aj X T;have HT:=hid ht;have ad:=hid E;have az:=hid hr;have HD:=hid F;have ap:=hid H;have aE:((a:Int)==0)=false:=by simp;omega
 have aF:(a:Int)<=65535:=oA;clear H ar;clear ht E hr F au ax hl G;go_enter Tryz.func226,Tryz.ntmps226
 go_wp2_with fail
 refine HM.mono ?_;rintro r w1 ⟨rfl,rfl⟩;go_upto_region 4 with fail
 refine bj oK oK ?_
 repeat (first|go_big_quiet_skip|(go_big_quiet_want;go_big_quiet_op;first|go_big_quiet_on|go_big_quiet_call (first|((with_reducible (show Calls _ 62 #[.int .i64 (g:Int),_] _ _));refine bF (am.out _))|((with_reducible (show Calls _ 62 #[.int .i64 (wr:Int),_] _ _));refine bF (an.out _)))))
 refine cJ ?_;intro _ j;obtain⟨nq,k⟩:=j;subst k;have Y:=hid (aG (af w.heap.size w) nq);obtain⟨m,x1,x2,x3,c,n,q,t,i⟩:=z.out _ Y;clear a0 a1 O P c0 c1;have f3:decide (p.kinds.length<=f)=false:=aw oA;generalize w.drewN nq=w1 at*;have av:(g:Int).tdiv 16=((g/16:Nat):Int):=by rw[bR oA];omega
 go_upto_region 6 with fail
 refine bj oK oK ?_
 repeat (first|go_big_quiet_skip|(go_big_quiet_want;go_big_quiet_op;first|go_big_quiet_on|go_big_quiet_call (fail)))
 refine cJ ?_;intro _ j;obtain⟨nq,k⟩:=j;subst k;rw[show (s:Int)*16+(g:Int)/16=((s*16+g/16:Nat):Int) by omega];generalize ae:s*16+g/16=d at*;have ay:=hid ae;clear ae;have aA:(d:Int)<(p.IL.length:Int):=by have:=HD.out;omega
 have aH:(f:Int)<(p.kinds.length:Int):=oA;clear av m x1 x2 x3 c n q t i;have Z:=hid (aG Y nq);obtain⟨m,x1,x2,x3,c,n,q,t,i⟩:=z.out _ Z;generalize w1.drewN nq=w2 at*;go_upto_region 7 with fail
 refine bj oK oK ?_
 repeat (first|go_big_quiet_skip|(go_big_quiet_want;go_big_quiet_op;first|go_big_quiet_on|go_big_quiet_call (fail)))
 refine cJ ?_;intro _ j;obtain⟨nq,k⟩:=j;subst k;clear m x1 x2 x3 c n q t i;have B3:=hid (aG Z nq);obtain⟨m,x1,x2,x3,c,n,q,t,i⟩:=z.out _ B3;generalize w2.drewN nq=w3 at*;go_upto_region 12 with fail
 refine bj oK oK ?_
 repeat (first|go_big_quiet_skip|(go_big_quiet_want;go_big_quiet_op;first|go_big_quiet_on|go_big_quiet_call (fail)))
 refine cJ ?_;intro _ j;obtain⟨nq,k⟩:=j;subst k;clear m x1 x2 x3 c n q t i;have B4:=hid (aG B3 nq);obtain⟨m,x1,x2,x3,c,n,q,t,i⟩:=z.out _ B4;generalize w3.drewN nq=w4 at*;go_upto_region 16 with fail
 refine bj oK oK ?_
 repeat (first|go_big_quiet_skip|(go_big_quiet_want;go_big_quiet_op;first|go_big_quiet_on|go_big_quiet_call (fail)))
 refine cJ ?_;intro _ j;obtain⟨nq,k⟩:=j;subst k;rw[show (a:Int)%1024*16+(g:Int)%16=((a%1024*16+g%16:Nat):Int) by omega];generalize ah:a%1024*16+g%16=pg at*;have ao:=hid ah;clear ah;have aJ:(pg:Int)<(p.IL.length:Int):=by have:=ap.out;omega
 clear m x1 x2 x3 c n q t i;have D:=hid (aG B4 nq);obtain⟨m,x1,x2,x3,c,n,q,t,i⟩:=z.out _ D;generalize w4.drewN nq=u at*;clear m x1 n q t;go_upto_region 19 with fail
 have y:=hid (aD u 1);have ab:=hid (BT.below (btr D y));have FZ:=hid (show u.drew.frozen? ⟨b,pg,none⟩=false from by
  have x:=ab.o.IL;rw[ad.out] at x;exact x.frozen pg)
 refine bI (R:=fun W=>W.cell? ⟨wb,0,none⟩=some (.slice (some ⟨b,0,none⟩) p.IL.length cap0)∧W.cell? ⟨A,I+3,none⟩=some (.int .i64 wr)∧W.cell? ⟨A,I+2,none⟩=some (.int .i64 f)) [15] [0,1,2,3,4,5,6,7,8,9,10,11,12,13,14] 1 oK ⟨gU y c,gU y x3,gU y x2⟩ oK oK oK (fun _=>?_)
 repeat (refine Rf.rs ?_;simp only[jj])
 refine aL ?_;refine Rf.r1 15 rfl (fun K hK=>?_);have y4:=gU y i;have fz:=FZ.out;go_simp
 refine hK _ _ trivial (bX oK) (fun _ _=>?_);clear hK K
 try simp only[jj]
 refine bc oK ?_ _
 try simp only[show IntKind.i64.wrap ((wr:Int)*16384)=(wr:Int)*16384 from bZ _ oA oA,show IntKind.i64.wrap (32768+(wr:Int)*16384)=32768+(wr:Int)*16384 from bZ _ oA oA,show IntKind.i64.wrap (32768+(wr:Int)*16384+(f:Int))=32768+(wr:Int)*16384+(f:Int) from bZ _ oA oA]
 have N:=hid ((BT.below D).IU ad pg (32768+(wr:Int)*16384+(f:Int)));have J:=hid (show Below (u.setCell ⟨b,pg,none⟩ (.int .i64 (32768+(wr:Int)*16384+(f:Int)))).heap.size (u.setCell ⟨b,pg,none⟩ (.int .i64 (32768+(wr:Int)*16384+(f:Int)))) (u.setCell ⟨b,pg,none⟩ (.int .i64 (32768+(wr:Int)*16384+(f:Int)))).drew from aD _ 1);have M:=hid (show cb (u.setCell ⟨b,pg,none⟩ (.int .i64 (32768+(wr:Int)*16384+(f:Int)))).drew wb tag V {p with IL:=p.IL.set pg (32768+(wr:Int)*16384+(f:Int))}∧Kt tag tag w (u.setCell ⟨b,pg,none⟩ (.int .i64 (32768+(wr:Int)*16384+(f:Int)))).drew from⟨N.1.below J,((bp D).trans N.2).trans (bp J)⟩);generalize (u.setCell ⟨b,pg,none⟩ (.int .i64 (32768+(wr:Int)*16384+(f:Int)))).drew=W9 at M ⊢;clear N J FZ fz y4 i c x2 x3 ab;go_wp2_with fail
 go_ret
 exact⟨rfl,by rw[ao.out];exact M.1,M.2⟩
