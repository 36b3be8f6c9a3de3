/- Qba -/
import Derived.BigGuard
import Derived.BigQuiet
import Derived.Test.YtnccmdndkmmhcaaGreatDoorQaz
set_option maxRecDepth 100000
set_option maxHeartbeats 16000000
namespace Go.Proofs.YtnccmdndkmmhcaaGreatDoor
namespace Wd
open Go.RowKit Mem Bw Nums Mmu
theorem InT.re {w w':World} {tag:Nat->Nat} {t I s wb:Nat} {u:Value} {c:Nat×List Value} (h:InT w tag t I s u c) (b:t≠0) (h0:tag wb=0) (hk:Kp (fun k=>k=wb) w w'):InT w' (fun k=>if k=wb then 1 else tag k) t I s u c:=by
 have a:∀k,u.ownBlock=some k->k≠wb:=fun k e f=>b (by rw[<-h.2 k e,f,h0]);exact⟨iv h.1 hk a,fun k e=>(ae (a k e)).trans (h.2 k e)⟩
theorem fB.re {w w':World} {tag:Nat->Nat} {t i O I s n wb:Nat} {v:Value} {cc:Nat->Nat×List Value} (h:fB w tag t i O I s n v cc) (p:t≠0) (hi:i≠0) (h0:tag wb=0) (hk:Kp (fun k=>k=wb) w w'):fB w' (fun k=>if k=wb then 1 else tag k) t i O I s n v cc:=by
 obtain⟨g,us,c,a,d,l,m⟩:=h;have b:g≠wb:=fun f=>p (by rw[<-a,f,h0]);refine⟨g,us,c,(ae b).trans a,d,iv l hk (fun k e=>?_),fun j o=>(m j o).re oA h0 hk⟩;have:g=k:=by simpa [Value.ownBlock] using e
 rw[<-this];exact b
theorem jL.re {w w':World} {tag:Nat->Nat} {n wb:Nat} {v:Value} {ls:List (List Ent)} (h:jL w tag n v ls) (h0:tag wb=0) (hk:Kp (fun k=>k=wb) w w'):jL w' (fun k=>if k=wb then 1 else tag k) n v ls:=by
 obtain⟨g,us,q,l,r,s,t⟩:=h;have m:g≠wb:=fun f=>by rw[<-f,l] at h0;cases h0
 refine⟨g,us,q,(ae m).trans l,r,iv s hk (fun k e=>?_),fun j u=>?_⟩
 ·have:g=k:=by simpa [Value.ownBlock] using e
  rw[<-this];exact m
 ·rcases t j u with x|⟨b,off,cap,x1,x2,x3,a,y,z,A⟩
  ·exact .inl (x.re oA h0 hk)
  ·have d:b≠wb:=fun f=>by rw[<-f] at h0;omega
   have c:∀{o:Nat} {v:Value},w.cell? ⟨b,o,none⟩=some v->w'.cell? ⟨b,o,none⟩=some v:=fun {o v} e=>(hk.cell (p:=⟨b,o,none⟩) a d).trans e;exact .inr ⟨b,off,cap,x1,fun i hi=>⟨c (x2 i hi).1,c (x2 i hi).2.1,c (x2 i hi).2.2.1,c (x2 i hi).2.2.2⟩,(ae d).trans x3,aE a hk.size,y,z,fun o=>(hk.frozen (p:=⟨b,o,none⟩) a d).trans (A o)⟩
theorem fV.box {W:World} {tag:Nat->Nat} {X:Nat->Value} {p:PW} {wb:Nat} (h:fV W tag X p) (h0:tag wb=0) (a:W.there wb 0 11):cb (W.setCells wb 0 (de X).toList) wb (fun k=>if k=wb then 1 else tag k) X p:=by
 have hk:Kp (fun k=>k=wb) W (W.setCells wb 0 (de X).toList):=aN (T:=fun k=>k=wb) (.inl rfl) _ _ _ (aV _ _);exact⟨World.rangeAt_setCells_same W wb 0 (de X).toList a,World.there_setCells a _ _ _,ag rfl,⟨h.IE.re oD h0 hk,h.kinds.re oD h0 hk,h.IA.re oD h0 hk,h.IB.re oD h0 hk,h.lines.re oD oD h0 hk,h.bits.re oD h0 hk,h.IC.re oD h0 hk,h.ready.re oD oD h0 hk,h.ID.re h0 hk,h.IG.re oD h0 hk,h.time⟩⟩
theorem InT.one {w:World} {tag:Nat->Nat} {t I s:Nat} {u:Value} {c:Nat×List Value} (h:InT w tag t I s u c):u.oneCell'=true:=by obtain⟨q,k,e⟩:=fK h.1;rw[e];rfl
theorem fB.one {w:World} {tag:Nat->Nat} {t i O I s n:Nat} {v:Value} {a:Nat->Nat×List Value} (h:fB w tag t i O I s n v a):v.oneCell'=true:=by obtain⟨g,us,rfl,_⟩:=h;rfl
theorem jL.one {w:World} {tag:Nat->Nat} {n:Nat} {v:Value} {ls:List (List Ent)} (h:jL w tag n v ls):v.oneCell'=true:=by obtain⟨g,us,rfl,_⟩:=h;rfl
theorem fV.Jb {w:World} {tag:Nat->Nat} {X:Nat->Value} {p:PW} (h:fV w tag X p):(de X).all (·.oneCell')=true:=by
 simp only[List.all_toArray,List.all_cons,List.all_nil,Bool.and_true,h.IE.one,h.kinds.one,h.IA.one,h.IB.one,h.lines.one,h.bits.one,h.IC.one,h.ready.one,h.ID.one,h.IG.one,eH];rw[h.time];rfl
end Wd
namespace Wd
open Go.RowKit Mem Bw Nums Mmu Hex
structure Pw (w0 W:World) (p:PW) (b6 b7:Option Nat) (X:Option (Nat->Value)):Prop where
 be:Below w0.heap.size w0 W
 c6:∀b,b6=some b->W.heap[b]? =some (.cells zW 28)∧w0.heap.size<=b
 c7:∀b,b7=some b->W.heap[b]? =some (.cells #[.int .i64 0,.int .i64 0] 47)∧w0.heap.size<=b
 x:∀V,X=some V->NwX W w0.heap.size p V
theorem AN {W a:World} (h:Below W.heap.size W a) {b:Nat} {o:Obj} (e:W.heap[b]? =some o):a.heap[b]? =some o:=(h.block b (Array.getElem?_eq_some_iff.1 e).1).trans e
theorem Pw.next {w0 W c:World} {p:PW} {b6 b7:Option Nat} {X:Option (Nat->Value)} (h:Pw w0 W p b6 b7 X) (a:Below W.heap.size W c):Pw w0 c p b6 b7 X:=
 ⟨btr h.be a,fun b e=>⟨AN a (h.c6 b e).1,(h.c6 b e).2⟩,fun b e=>⟨AN a (h.c7 b e).1,(h.c7 b e).2⟩,fun V e=>(h.x V e).below a⟩
theorem cup {b W:World} (h:Below b.heap.size b W) {a:Addr} {v:Value} (e:b.cell? a=some v):W.cell? a=some v:=(h.cell (aj _ _ e)).trans e
theorem vR (W:World) (o:Obj):(W.alloc o).heap[W.heap.size]? =some o:=by unfold World.alloc;simp
theorem Pw.JW {w0 W:World} {p:PW} {b7:Option Nat} {X:Option (Nat->Value)} (h:Pw w0 W p none b7 X):Pw w0 (W.alloc (.cells zW 28)) p (some W.heap.size) b7 X:=
 have n:=h.next (bal (af _ _) _)
 ⟨n.be,fun b e=>by cases e;exact⟨vR _ _,h.be.size⟩,n.c7,n.x⟩
theorem Pw.JX {w0 W:World} {p:PW} {b6:Option Nat} {X:Option (Nat->Value)} (h:Pw w0 W p b6 none X):Pw w0 (W.alloc (.cells #[.int .i64 0,.int .i64 0] 47)) p b6 (some W.heap.size) X:=
 have n:=h.next (bal (af _ _) _)
 ⟨n.be,n.c6,fun b e=>by cases e;exact⟨vR _ _,h.be.size⟩,n.x⟩
theorem NwX.low {w:World} {L M:Nat} {p:PW} {X:Nat->Value} (h:NwX w M p X) (hl:L<=M):NwX w L p X:=⟨fun i hi=>pA (h.own i hi) hl,h.dj,h.f4,h.f7,h.f8,h.t⟩
theorem Pw.call {w0 W a:World} {p:PW} {b6 b7:Option Nat} (h:Pw w0 W p b6 b7 none) {V:Nat->Value} (b:Below W.heap.size W a) (c:NwX a W.heap.size p V):Pw w0 a p b6 b7 (some V):=
 have n:=h.next b
 ⟨n.be,n.c6,n.c7,fun d e=>by cases e;exact c.low h.be.size⟩
theorem kK {W:World} {b:Nat} {a:Array Value} {T:TypeId} (h:W.heap[b]? =some (.cells a T)) (k:Nat) (hk:k<=a.size):W.there b 0 k:=fun j c=>by
 have e:W.cell? ⟨b,0+j,none⟩=a[0+j]? :=by simp[World.cell?,h]
 refine⟨?_,by simp[World.frozen?,h]⟩;rw[e,Array.getElem?_eq_getElem oA];rfl
theorem Fz {w:World} {L x:Nat} {p:PW} {X:Nat->Value} (h:NwX w L p X) {b:Array Value} (d:w.heap[x]? =some (.cells b 47)):∀i,i<10->(X i).ownBlock≠some x:=fun i hi e=>by
 rcases (h.own i hi).2 with ⟨e1,_⟩|⟨g,cap,f,e1,_,a,_⟩
 ·rw[e1] at e;cases e
 ·rw[e1] at e;obtain rfl:g=x:=by simpa [Value.ownBlock] using e
  rw[d] at a;have:wE i=47:=by simp at a;exact a.2.symm
  have c:∀i,i<10->wE i≠47:=oD;exact c i hi this
theorem yC {X:Nat->Value} {k:Nat}:∀n,(∀i,i<n->(X i).ownBlock≠some k)->rm X k n=0
 |0,_=>rfl
 |n+1,h=>by
  unfold rm;rw[ae (h n oA)];exact yC n (fun i hi=>h i oA)
theorem Pw.box {w0 W:World} {p:PW} {b6 b7:Nat} {X:Nat->Value} (h:Pw w0 W p (some b6) (some b7) (some X)) (g:∀l∈p.lines,l=[]) (j:∀l∈p.ready,l=[]) (m:∀l∈p.ID,l=[]):
  cb ((W.setCells b6 0 (de X).toList).setCells b7 0 [.int .i64 0,.int .i64 (-1)]) b6 (Bk X b6) X p∧Below w0.heap.size w0 ((W.setCells b6 0 (de X).toList).setCells b7 0 [.int .i64 0,.int .i64 (-1)])∧((W.setCells b6 0 (de X).toList).setCells b7 0 [.int .i64 0,.int .i64 (-1)]).cell? ⟨b7,0,none⟩=some (.int .i64 0)∧w0.heap.size<=b6∧∀k,k<w0.heap.size->rm X k 10=0:=by
 obtain⟨c6,d⟩:=h.c6 b6 rfl;obtain⟨c7,s⟩:=h.c7 b7 rfl;have a:=h.x X rfl;have c:=kK c6 11 oD;have r:=kK c7 2 oD;have q:b6≠b7:=fun e=>by rw[e,c7] at c6;simp at c6
 have k1:Kp (fun k=>k=b6∨k=b7) W (W.setCells b6 0 (de X).toList):=aN (.inl (.inl rfl)) _ _ _ (aV _ _);have k2:Kp (fun k=>k=b6∨k=b7) W ((W.setCells b6 0 (de X).toList).setCells b7 0 [.int .i64 0,.int .i64 (-1)]):=aN (.inl (.inr rfl)) _ _ _ k1;have f:Kp (fun k=>k=b7) (W.setCells b6 0 (de X).toList) ((W.setCells b6 0 (de X).toList).setCells b7 0 [.int .i64 0,.int .i64 (-1)]):=aN (T:=fun k=>k=b7) (.inl rfl) _ _ _ (aV _ _);have b:=FB a c6;have o:=Fz a c7;have n:=(Array.getElem?_eq_some_iff.1 c6).1;refine⟨Wb.box (B:=w0.heap.size) ⟨⟨aE n k2.size,fun i hi=>iv (a.own i hi) k2 (fun k e hk=>by rcases hk with hk|hk;exact b i hi (hk▸e);exact o i hi (hk▸e)),a.dj,b⟩,eN (World.rangeAt_setCells_same W b6 0 (de X).toList c) f q,World.there_setCells (World.there_setCells c _ _ _) _ _ _⟩ a.f4 a.f7 a.f8 a.t g j m,k2.below h.be h.be.size (fun k hk e=>oA),?_,d,fun k hk=>yC 10 (fun i hi e=>?_)⟩
 ·exact World.rangeAt_setCells_same _ b7 0 [.int .i64 0,.int .i64 (-1)] (World.there_setCells r _ _ _) 0 _ rfl
 ·have:=((a.own i hi).lt k e).1;omega
theorem uN {op:Oper} {a:Act} {w:World} {K:Act->World->Prop} {Q:Exit->Act->World->Prop} {x y:Tmp} (c:op.op=.store 47 (.tmp x) (.tmp y)) (b:Nat) (e:a.eval (.tmp x)=.pointer (some ⟨b,0,none⟩)) (f:a.eval (.tmp y)=.agg #[.int .i64 0,.int .i64 (-1)]) (d:w.there b 0 2)
  (h:K (a.put op.dst undef) (w.setCells b 0 [.int .i64 0,.int .i64 (-1)])):op.wp Tryz.prog a w K Q:=
 wp_store_mid 47 _ _ c b 0 #[.int .i64 0,.int .i64 (-1)] e f d jx yX h
theorem AI {P:Program} {md:Region.Mode} {ops:Array Oper} {Q:Exit->Act->World->Prop} {S R:World->Prop} {fs:List Nat} {fuel:Nat} {c:Array Bool} {a:Act} {w:World} (F:(Nat->Value)->Nat->Nat->World->Prop) (l2:Array Bool) (b:(Nat->Value)->Nat->Nat->Act)
  (d:∀m X b6 b7 W,F X b6 b7 W->Rf.dJ P md ops Q S R fs (m+2) l2 (b X b6 b7) W) (h:Hid (∀X b6 b7 W,F X b6 b7 W->Rf.dJ P md ops Q S R fs 2 l2 (b X b6 b7) W)->Rf.dJ P md ops Q S R fs fuel c a w):Rf.dJ P md ops Q S R fs fuel c a w:=h (d 0)
theorem pO (b off cap f c:Nat) (zs:List Int) (l:List ByteArray) (w:World) (hS:fU w b off l) (av:∀t∈l,gh t=true) (hl:l.length<=100) (hm:l.map Prs.hQ=(f:Int)::(c:Int)::zs) (f0:1<=f) (f1:f<=24) (c0:1<=c) (c1:c<=4) (z0:1<=zs.length) (z1:zs.length<=8) (hz:∀z∈zs,0<=z∧z<=3):
  Calls Tryz.prog 170 #[.slice (some ⟨b,off,none⟩) l.length cap] w fun r w'=>∃X tag,r=.returned (.tuple #[.agg (de X),.int .i64 0])∧fV w' tag X (wlP f c zs)∧(∀k,k<w.heap.size->tag k=0)∧Below w.heap.size w w':=by
 have B0:=hid (bal (af w.heap.size w) (.cells zW 28));have T0:=hid (aP w zW 28 w.heap.size 11 rfl oD);have HN:=hid (iT b off cap l _ (fU.Jj hS B0) av hl);rw[hm] at HN;have ax:=hid (show l.length=zs.length+2 by have:=dG List.length hm;simpa using this);have ZL:(zs.length:Int)<=8:=oA;have aR:(1:Int)<=zs.length:=oA;have HZ:=hid hz;clear hm hS av hl;go_enter Tryz.func170,Tryz.ntmps170
 go_wp2_with fail
 refine HN.mono ?_;rintro r w1 ⟨u,rfl,hu,ap⟩;rw[ax.out] at hu;obtain⟨b2,n,rfl,aI,aJ,hi⟩:=jX hu oS oA;have I:=hid hi;have g3:¬n=2:=oA;have B1:=hid (btr B0 ap);have aq:=hid ap;clear ap;clear hu aI hi aJ;have g0:(0:Int)<(zs.length:Int)+2:=oA;have g1:(1:Int)<(zs.length:Int)+2:=oA;have Q:(2:Int)<=(zs.length:Int)+2:=oA;have n0:=I.out 0 oS;have n1:=I.out 1 oS;rw[bz] at n0;rw[aC] at n1;simp only[bg,bC] at n0 n1;have KC:=hid (fun W (h:Below w1.heap.size w1 W)=>(⟨cup h n0,cup h n1⟩:_∧_));have A:=hid (fun W (h:Below w1.drew.heap.size w1.drew W)=>qO f c (.slice (some ⟨b2,2,none⟩) zs.length (n - 2)) zs W ⟨_,b2,2,_,rfl,fun _=>rfl,fun j hj=>by
  have:=(I.below (btr (aB w1 1) h)) (j+2) (by simp;omega);simp only[bC] at this;rw[show 2+j=0+(j+2) by omega];exact this⟩ f0 f1 c0 c1 z0 z1 HZ)
 have P:=hid (show Pw w1.drew w1.drew (oc f c zs) none none none from⟨af _ _,fun _ h=>(by cases h),fun _ h=>(by cases h),fun _ h=>(by cases h)⟩);clear n0 n1;have U:=hid (show Below w1.heap.size w1 w1.drew from aB w1 1);go_upto_region 6 with fail
 refine bI (R:=fun W=>Below w1.drew.heap.size w1.drew W) [14] [0,1,2,3,4,5,6,7] 8 oK (af _ _) oK oK oK (fun _=>?_)
 repeat (refine Rf.rs ?_ rfl oR (fun W h=>by obtain⟨h1,h2⟩:=KC.out _ (btr (aB w1 1) h);clear h;go_simp;try rfl);simp only[jj])
 refine aM ?_;clear KC I;generalize w1.drew=w2 at*;refine AI (fun X b6 b7 W=>Pw w2 W (oc f c zs) (some b6) (some b7) (some X)) #[true,true,true,true,true,true,true,true,true,true,true,true,true,true,false,false] (fun X b6 b7=>⟨#[.slice (some ⟨b,off,none⟩) l.length cap,undef,.pointer (some ⟨w.heap.size,0,none⟩),.int .i64 0,.slice (some ⟨b2,0,none⟩) (zs.length+2) n,.int .i64 0,.pointer (some ⟨b6,0,none⟩),.pointer (some ⟨b7,0,none⟩),.tuple #[.slice (some ⟨b2,0,none⟩) (zs.length+2) n,.int .i64 0],.slice (some ⟨b,off,none⟩) l.length cap,.tuple #[.slice (some ⟨b2,0,none⟩) (zs.length+2) n,.int .i64 0],.slice (some ⟨b2,0,none⟩) (zs.length+2) n,.int .i64 0,.int .i64 0,.bool false,undef,undef,.slice (some ⟨b2,0,none⟩) (zs.length+2) n,.int .i64 ((zs.length:Int)+2),.bool (decide ((zs.length:Int)+2<3)),undef,.tuple #[.agg (de X),.agg #[.int .i64 0,.int .i64 (-1)]],.slice (some ⟨b2,0,none⟩) (zs.length+2) n,.pointer (some ⟨b2,0,none⟩),.int .i64 f,.slice (some ⟨b2,0,none⟩) (zs.length+2) n,.pointer (some ⟨b2,1,none⟩),.int .i64 c,.slice (some ⟨b2,0,none⟩) (zs.length+2) n,.slice (some ⟨b2,2,none⟩) zs.length (n - 2),.tuple #[.agg (de X),.agg #[.int .i64 0,.int .i64 (-1)]],.agg (de X),.agg #[.int .i64 0,.int .i64 (-1)],undef,undef,undef,undef,undef,undef,undef,undef,undef,undef,undef,undef,undef,undef,undef],[]⟩) ?_ (fun y=>?_)
 ·intro m X b6 b7 W H;dsimp only;have p:=hid (H.box (fun l h=>(List.mem_replicate.1 h).2) (fun l h=>(List.mem_replicate.1 h).2) (fun l h=>(List.mem_replicate.1 h).2));have T6:=hid (kK (H.c6 b6 rfl).1 11 oD);have T7:=hid (show (W.setCells b6 0 [X 0,X 1,X 2,X 3,X 4,X 5,X 6,X 7,X 8,X 9,X 10]).there b7 0 2 from World.there_setCells (kK (H.c7 b7 rfl).1 2 oD) _ _ _);have O1:=hid (Array.all_eq_true'.2 (xM (H.x X rfl)));clear H;refine Rf.r1 14 rfl (fun K a=>?_);refine wnt oR ?_;simp only[db,bC,bg];refine wp_store_mid 28 _ _ rfl b6 0 (de X) rfl rfl T6 fD O1 ?_;refine a _ _ trivial (bX oK) (fun _ _=>?_);clear a K
  try simp only[jj]
  change Hid (cb ((W.setCells b6 0 [X 0,X 1,X 2,X 3,X 4,X 5,X 6,X 7,X 8,X 9,X 10]).setCells b7 0 [.int .i64 0,.int .i64 (-1)]) b6 (Bk X b6) X (oc f c zs)∧Below w2.heap.size w2 ((W.setCells b6 0 [X 0,X 1,X 2,X 3,X 4,X 5,X 6,X 7,X 8,X 9,X 10]).setCells b7 0 [.int .i64 0,.int .i64 (-1)])∧((W.setCells b6 0 [X 0,X 1,X 2,X 3,X 4,X 5,X 6,X 7,X 8,X 9,X 10]).setCells b7 0 [.int .i64 0,.int .i64 (-1)]).cell? ⟨b7,0,none⟩=some (.int .i64 0)∧w2.heap.size<=b6∧∀k,k<w2.heap.size->rm X k 10=0) at p;clear T6 O1;generalize W.setCells b6 0 [X 0,X 1,X 2,X 3,X 4,X 5,X 6,X 7,X 8,X 9,X 10]=W2 at T7 p ⊢;refine Rf.r1 15 rfl (fun K a=>?_);refine wnt oR ?_;simp only[db,bC,bg];refine uN rfl b7 rfl rfl T7 ?_;refine a _ _ trivial (bX oK) (fun _ _=>?_);clear a K
  try simp only[jj]
  refine bc oK ?_ _;clear T7 A P;generalize W2.setCells b7 0 [.int .i64 0,.int .i64 (-1)]=W3 at p ⊢;have s:=hid p.1;have S:=hid (btr B1 (btr U p.2.1));have BA:=hid (btr aq (btr U p.2.1));have c7:=p.2.2.1;have O:=hid (show ∀k,k<w1.heap.size->Bk X b6 k=0 from fun k hk=>by
   have h1:=p.2.2.2.1;unfold Bk;have h2:=U.size;rw[ae oA];exact p.2.2.2.2 k oA)
  obtain⟨g1,k1,e1⟩:=s.o.kinds.form (show 0<(oc f c zs).kinds.length by rw[show (oc f c zs).kinds.length=f from bh];omega);obtain⟨Q,k2,e2⟩:=s.o.IA.form (show 0<(oc f c zs).IA.length by rw[show (oc f c zs).IA.length=f*16 from bh];omega);have r1:W3.cell? ⟨b6,1,none⟩=some (X 1):=ai s.r rfl;rw[e1] at r1;have J:=s.o.kinds;rw[e1] at J;obtain⟨u1,aw⟩:=Option.isSome_iff_exists.1 (J.there 0 1 (by rw[show (oc f c zs).kinds.length=f from bh];omega) 0 oA).1;rw[bz] at aw;have aH:=J.frozen 0;have aK:(0:Int)<((oc f c zs).kinds.length:Int):=by rw[show (oc f c zs).kinds.length=f from bh];omega
  have Z:=hid (s.IM e1 0 5);clear p J;go_upto_region 10 with fail
  clear r1 aw aH aK c7;have C:=hid Z.1;have aa:=hid Z.2;clear Z s;generalize W3.setCell ⟨g1,0,none⟩ (.int .i64 5)=W4 at C aa ⊢;have r2:W4.cell? ⟨b6,2,none⟩=some (X 2):=ai C.r rfl;rw[e2] at r2;have Y:=C.o.IA;rw[e2] at Y;have V:=hid (show (oc f c zs).IA.length=f*16 from bh);have au:=hid (show W4.there Q (0*7) 7 from Y.there (0*7) 7 (by show 0*7+7<=(oc f c zs).IA.length*7;rw[V.out];omega));have aL:(0:Int)<((oc f c zs).IA.length:Int):=by rw[V.out];omega
  have K2:=hid (C.IV e2 (i:=0) (by show 0<(oc f c zs).IA.length;rw[V.out];omega) ndk);clear Y;go_upto_region 11 with (first|((with_reducible refine gst 34 ?_);refine ni rfl _ _ rfl Q (0*7) rfl (cf 7 ndk) rfl (ay _ _) (bQ _ _) au ?_))
  have D:=hid K2.1;have E:=hid (aa.trans K2.2);clear r2 aL au K2 C aa;generalize W4.setCells Q (0*7) (cf 7 ndk)=B at D E ⊢;have L0:w.heap.size<w1.heap.size:=aE oS aq.size;have T5:=hid (d9 (d9 T0 (T:=fun _=>False) (.IF BA) id) E.k (by rw[O.out _ L0];exact fun h=>h rfl));have O5:=hid (D.o.Jb);have RX:=hid (show (B.setCells w.heap.size 0 [X 0,X 1,X 2,X 3,X 4,X 5,X 6,X 7,X 8,X 9,X 10]).rangeAt w.heap.size 0 (de X).toList from World.rangeAt_setCells_same B w.heap.size 0 (de X).toList T5);have KX:=hid (show Kp (fun k=>k=w.heap.size) B (B.setCells w.heap.size 0 [X 0,X 1,X 2,X 3,X 4,X 5,X 6,X 7,X 8,X 9,X 10]) from aN (T:=fun k=>k=w.heap.size) (.inl rfl) _ _ _ (aV _ _));have B6:=hid (D.kp KX (fun k _ e=>by rw[e];exact O _ L0) (fun _ _=>rfl));have BE:=hid (show Below w.heap.size w (B.setCells w.heap.size 0 [X 0,X 1,X 2,X 3,X 4,X 5,X 6,X 7,X 8,X 9,X 10]) from KX.below (E.k.below S S.size (fun k hk h=>h (O.out k oA))) (aD S.size E.k.size) (fun k hk e=>oA));clear e1 e2;go_wp2_with (first|((with_reducible refine gld 28 ?_);refine jt rfl _ rfl b6 rfl X D.r ?_)|((with_reducible refine gst 28 ?_);refine wpList_store_mid rfl 28 _ _ rfl w.heap.size 0 (de X) rfl rfl T5 fD O5 ?_))
  clear KX T5 O5 D E;generalize B.setCells w.heap.size 0 [X 0,X 1,X 2,X 3,X 4,X 5,X 6,X 7,X 8,X 9,X 10]=W6 at RX B6 BE ⊢;exact ar (v:=.tuple #[.agg (de X),.int .i64 0]) (iI rfl rfl (run_loadVar_mid _ w.heap.size 0 28 (de X).toList _ RX Tryz.underlying28 rfl fD) rfl) rfl ⟨X,rfl,Bk X b6,B6.o,fun k hk=>O.out k oA,BE.out⟩
 refine Rf.dp (rs:=[8,12,13]) oK oS (dR rfl (fun K a=>?_) (dR rfl (fun K a=>?_) (dR rfl (fun K a=>?_) Rf.di.nil)))
 ·skip
  refine wnt oR ?_;go_simp
  refine (A.out _ P.be).mono ?_;rintro q w3 ⟨X,rfl,g,d⟩;have N:=hid (P.call d g);clear g d;go_wp2_with fail
  refine a _ _ trivial (fun _=>N.be) (fun _ _=>?_);clear a K
  try simp only[jj]
  refine bM (R:=fun W=>Below w2.heap.size w2 W) oK _ N.be [9,10,11] 4 _ _ oK ?_
  repeat (refine Rf.rs ?_;simp only[jj])
  refine aM ?_;refine Rf.dp (rs:=[12,13]) oK oS (dR rfl (fun K a=>?_) (dR rfl (fun K a=>?_) Rf.di.nil))
  ·skip
   refine wnt oR ?_;have al:=hid N.JW;go_simp
   refine a _ _ trivial (fun _=>al.be) (fun _ _=>?_);clear a K
   try simp only[jj]
   generalize World.alloc _ _=az at al ⊢;refine Rf.r1 13 rfl (fun K a=>?_)
   ·skip
    refine wnt oR ?_;have am:=hid al.JX;go_simp
    refine a _ _ trivial (fun _=>am.be) (fun _ _=>?_);clear a K
    try simp only[jj]
    generalize World.alloc _ _=aG at am ⊢;exact y _ _ _ _ am
  ·skip
   refine wnt oR ?_;have an:=hid N.JX;go_simp
   refine a _ _ trivial (fun _=>an.be) (fun _ _=>?_);clear a K
   try simp only[jj]
   generalize World.alloc _ _=aF at an ⊢;refine Rf.r1 12 rfl (fun K a=>?_)
   ·skip
    refine wnt oR ?_;have ao:=hid an.JW;go_simp
    refine a _ _ trivial (fun _=>ao.be) (fun _ _=>?_);clear a K
    try simp only[jj]
    generalize World.alloc _ _=aA at ao ⊢;exact y _ _ _ _ ao
 ·skip
  refine wnt oR ?_;have F:=hid P.JW;go_simp
  refine a _ _ trivial (fun _=>F.be) (fun _ _=>?_);clear a K
  try simp only[jj]
  generalize World.alloc _ _=aO at F ⊢;refine Rf.dp (rs:=[8,13]) oK oS (dR rfl (fun K a=>?_) (dR rfl (fun K a=>?_) Rf.di.nil))
  ·skip
   refine wnt oR ?_;go_simp
   refine (A.out _ F.be).mono ?_;rintro q w4 ⟨X,rfl,g,d⟩;have ac:=hid (F.call d g);clear g d;go_wp2_with fail
   refine a _ _ trivial (fun _=>ac.be) (fun _ _=>?_);clear a K
   try simp only[jj]
   refine bM (R:=fun W=>Below w2.heap.size w2 W) oK _ ac.be [9,10,11] 3 _ _ oK ?_
   repeat (refine Rf.rs ?_;simp only[jj])
   refine aM ?_;refine Rf.r1 13 rfl (fun K a=>?_)
   ·skip
    refine wnt oR ?_;have ad:=hid ac.JX;go_simp
    refine a _ _ trivial (fun _=>ad.be) (fun _ _=>?_);clear a K
    try simp only[jj]
    generalize World.alloc _ _=aG at ad ⊢;exact y _ _ _ _ ad
  ·skip
   refine wnt oR ?_;have L:=hid F.JX;go_simp
   refine a _ _ trivial (fun _=>L.be) (fun _ _=>?_);clear a K
   try simp only[jj]
   generalize World.alloc _ _=aF at L ⊢;refine Rf.r1 8 rfl (fun K a=>?_)
   ·skip
    refine wnt oR ?_;go_simp
    refine (A.out _ L.be).mono ?_;rintro q w5 ⟨X,rfl,g,d⟩;have ab:=hid (L.call d g);clear g d;go_wp2_with fail
    refine a _ _ trivial (fun _=>ab.be) (fun _ _=>?_);clear a K
    try simp only[jj]
    refine bM (R:=fun W=>Below w2.heap.size w2 W) oK _ ab.be [9,10,11] 2 _ _ oK ?_
    repeat (refine Rf.rs ?_;simp only[jj])
    refine aM ?_;exact y _ _ _ _ ab
 ·skip
  refine wnt oR ?_;have G:=hid P.JX;go_simp
  refine a _ _ trivial (fun _=>G.be) (fun _ _=>?_);clear a K
  try simp only[jj]
  generalize World.alloc _ _=aQ at G ⊢;refine Rf.dp (rs:=[8,12]) oK oS (dR rfl (fun K a=>?_) (dR rfl (fun K a=>?_) Rf.di.nil))
  ·skip
   refine wnt oR ?_;go_simp
   refine (A.out _ G.be).mono ?_;rintro q w4 ⟨X,rfl,g,d⟩;have ah:=hid (G.call d g);clear g d;go_wp2_with fail
   refine a _ _ trivial (fun _=>ah.be) (fun _ _=>?_);clear a K
   try simp only[jj]
   refine bM (R:=fun W=>Below w2.heap.size w2 W) oK _ ah.be [9,10,11] 3 _ _ oK ?_
   repeat (refine Rf.rs ?_;simp only[jj])
   refine aM ?_;refine Rf.r1 12 rfl (fun K a=>?_)
   ·skip
    refine wnt oR ?_;have aj:=hid ah.JW;go_simp
    refine a _ _ trivial (fun _=>aj.be) (fun _ _=>?_);clear a K
    try simp only[jj]
    generalize World.alloc _ _=aA at aj ⊢;exact y _ _ _ _ aj
  ·skip
   refine wnt oR ?_;have M:=hid G.JW;go_simp
   refine a _ _ trivial (fun _=>M.be) (fun _ _=>?_);clear a K
   try simp only[jj]
   generalize World.alloc _ _=az at M ⊢;refine Rf.r1 8 rfl (fun K a=>?_)
   ·skip
    refine wnt oR ?_;go_simp
    refine (A.out _ M.be).mono ?_;rintro q w5 ⟨X,rfl,g,d⟩;have ag:=hid (M.call d g);clear g d;go_wp2_with fail
    refine a _ _ trivial (fun _=>ag.be) (fun _ _=>?_);clear a K
    try simp only[jj]
    refine bM (R:=fun W=>Below w2.heap.size w2 W) oK _ ag.be [9,10,11] 2 _ _ oK ?_
    repeat (refine Rf.rs ?_;simp only[jj])
    refine aM ?_;exact y _ _ _ _ ag
end Wd
namespace Wd
open Go.RowKit Mem Bw Nums Mmu
def fmE (p:PW) (f k:Int):Int:=if f<0∨(p.kinds.length:Int)<=f then 2 else if p.kinds.getD f.toNat 0=k then 0 else 3
theorem ir (vb:Nat) (V:Nat->Value) (p:PW) (f k:Int) (w:World) (hv:ec w vb V p):
  Calls Tryz.prog 256 #[.pointer (some ⟨vb,0,none⟩),.int .i64 f,.int .i64 k] w fun r w'=>r=.returned (.int .i64 (fmE p f k))∧w=w':=by
 have c1:=r11 1 hv.r;obtain⟨q1,b1,q,k1,e1,i,j⟩:=hv.v.kinds;have hl:(p.kinds.length:Int)<=1000:=by have:=hv.f.kinds;omega
 rw[e1] at c1;have a:=hid (show fmE p f k=if f<0∨(p.kinds.length:Int)<=f then 2 else if p.kinds.getD f.toNat 0=k then 0 else 3 from rfl);by_cases b:f<0
 ·have e:=az b;rw[ag (.inl b)] at a;go_enter Tryz.func256,Tryz.ntmps256
  go_wp2_with fail
  go_ret
  exact⟨by rw[a.out];rfl,rfl⟩
 have e:=aw b;by_cases c:(p.kinds.length:Int)<=f
 ·have g:=az c;rw[ag (.inr c)] at a;go_enter Tryz.func256,Tryz.ntmps256
  go_wp2_with fail
  go_ret
  exact⟨by rw[a.out];rfl,rfl⟩
 have g:=aw c;obtain⟨n,rfl⟩:∃n:Nat,f=n:=⟨f.toNat,oA⟩
 have h:n<p.kinds.length:=oA;have o:(n:Int)<(p.kinds.length:Int):=oA;rw[ae oA,ah,aa,ac h] at a;obtain rfl:=i oA;have l:=j n h;replace a:=hid (show fmE p n k=if p.kinds[n]=k then 0 else 3 from a);generalize p.kinds[n]=z at l a;clear b c i j e g;by_cases d:z=k
 ·rw[ag d] at a;have m:(z==k)=true:=by simpa using d
  go_enter Tryz.func256,Tryz.ntmps256
  go_wp2_with fail
  go_ret
  exact⟨by rw[a.out];rfl,rfl⟩
 ·rw[ae d] at a;have m:(z==k)=false:=by simpa using d
  go_enter Tryz.func256,Tryz.ntmps256
  go_wp2_with fail
  go_ret
  exact⟨by rw[a.out];rfl,rfl⟩
theorem gX {b W:World} (h:Below b.heap.size b W) {a:Addr} {v:Value} (e:b.cell? a=some v):W.cell? a=some v:=(h.cell (aj _ _ e)).trans e
theorem ny (wb:Nat) (tag:Nat->Nat) (V:Nat->Value) (p:PW) (D S ca s g f wr:Nat) (w:World) (bt:cb w wb tag V p) (F:p.Fits) (hl:∀l∈p.ID,l.length<=100) (n:fY w D S [(s:Int),(g:Int),(f:Int),(wr:Int)]) (ht:tag D=0)
  (h0:fmE p s 4=0) (hg:g<=255) (hw:wr<=1) (hf:f<p.kinds.length) (hr:p.IE.length=p.kinds.length*16) (hk:p.kinds.getD f 0=3) (Q:p.IE.getD (s*16+g/16) 0=0):
  Calls Tryz.prog 226 #[.pointer (some ⟨wb,0,none⟩),.slice (some ⟨D,S,none⟩) 4 ca] w fun r w'=>r=.returned (.int .i64 0)∧cb w' wb tag V {p with IE:=p.IE.set (s*16+g/16) (32768+(f:Int))}∧Kt tag tag w w':=by
 have H:=hid (bt.view F hl);have X:=hid bt;have hs:s<p.kinds.length:=by
  unfold fmE at h0;by_cases h:(s:Int)<0∨(p.kinds.length:Int)<=(s:Int)
  ·rw[ag h] at h0;cases h0
  ·omega
 have a0:=n 0 oS;have a1:=n 1 oS;have M:=n 2 oS;have N:=n 3 oS;rw[bz] at a0;simp only[bg,bC] at a0 a1 M N;have c0:=r11 0 bt.r;have c1:=r11 1 bt.r;obtain⟨q1,b1,o1,k1,e1,ae,ah⟩:=H.v.kinds;have am:=F.kinds;have ao:=F.IE;have av:(p.kinds.length:Int)<=1000:=oA;have ax:(p.IE.length:Int)<=1000:=oA;obtain rfl:=ae oA;have O:=ah f hf;rw[show p.kinds[f]=3 by rw[aa,ac hf] at hk;exact hk] at O;obtain⟨a,cap0,C⟩:∃a cap0,V 0=.slice (some ⟨a,0,none⟩) p.IE.length cap0:=bt.o.IE.form (by show 0<p.IE.length;omega)
 have E:s*16+g/16<p.IE.length:=oA;rw[C] at c0;rw[e1] at c1;have cr:w.cell? ⟨a,s*16+g/16,none⟩=some (.int .i64 0):=by
  obtain⟨q,b,o,k,e,hq,ap⟩:=H.v.IE;rw[C] at e
  cases e
  have:=hq oA
  cases this
  have:=ap _ E;rw[aC] at this;rw[this,show p.IE[s*16+g/16]=0 by rw[aa,ac E] at Q;exact Q]
 have I:=hid (fun W (h:Below w.heap.size w W)=>(⟨gX h a0,gX h a1,gX h M,gX h N,gX h c0,gX h c1,gX h O,gX h cr⟩:_∧_∧_∧_∧_∧_∧_∧_));have HM:=hid (ir wb V p s 4 w H);rw[h0] at HM;have aj:=hid (fun nq=>show Calls Tryz.prog 62 #[.int .i64 g,.int .i64 255] (w.drewN nq) fun e w'=>e=.returned (.bool false)∧w'=w.drewN nq from (Isa.fC g 255 (w.drewN nq)).mono fun e w' ⟨P,i⟩=>⟨by rw[P,show decide ((g:Int)<0∨255<(g:Int))=false from aw oA],i.symm⟩);have al:=hid (fun nq=>show Calls Tryz.prog 62 #[.int .i64 wr,.int .i64 1] (w.drewN nq) fun e w'=>e=.returned (.bool false)∧w'=w.drewN nq from (Isa.fC wr 1 (w.drewN nq)).mono fun e w' ⟨P,i⟩=>⟨by rw[P,show decide ((wr:Int)<0∨1<(wr:Int))=false from aw oA],i.symm⟩);have f1:decide ((f:Int)<0)=false:=aw oA;have f2:decide ((p.kinds.length:Int)<=(f:Int))=false:=aw oA;clear n h0 hk Q ah ae e1 bt O cr;have HT:=hid ht;have ab:=hid C;have aq:=hid hr;have HD:=hid E;clear ht C hr E am ao hl F;go_enter Tryz.func226,Tryz.ntmps226
 go_wp2_with fail
 refine HM.mono ?_;rintro r w1 ⟨rfl,rfl⟩;go_upto_region 4 with fail
 refine bp oK oK ?_
 repeat (first|go_big_quiet_skip|(go_big_quiet_want;go_big_quiet_op;first|go_big_quiet_on|go_big_quiet_call (first|((with_reducible (show Calls _ 62 #[.int .i64 (g:Int),_] _ _));refine bG (aj.out _))|((with_reducible (show Calls _ 62 #[.int .i64 (wr:Int),_] _ _));refine bG (al.out _)))))
 refine cU ?_;intro _ t;obtain⟨nq,u⟩:=t;subst u;have T:=hid (aG (af w.heap.size w) nq);obtain⟨x,x1,x2,x3,j,y,z,m⟩:=I.out _ T;clear a0 a1 M N c0 c1;have f3:decide (p.kinds.length<=f)=false:=aw oA;generalize w.drewN nq=w1 at*;have an:(g:Int).tdiv 16=((g/16:Nat):Int):=by rw[cd oA];omega
 go_upto_region 6 with fail
 refine bp oK oK ?_
 repeat (first|go_big_quiet_skip|(go_big_quiet_want;go_big_quiet_op;first|go_big_quiet_on|go_big_quiet_call (fail)))
 refine cU ?_;intro _ t;obtain⟨nq,u⟩:=t;subst u;rw[show (s:Int)*16+(g:Int)/16=((s*16+g/16:Nat):Int) by omega];generalize ad:s*16+g/16=d at*;have ai:=hid ad;clear ad;have ar:(d:Int)<(p.IE.length:Int):=by have:=HD.out;omega
 have au:(f:Int)<(p.kinds.length:Int):=oA;clear an x x1 x2 x3 j y z m;have U:=hid (aG T nq);obtain⟨x,x1,x2,x3,j,y,z,m⟩:=I.out _ U;generalize w1.drewN nq=w2 at*;go_upto_region 7 with fail
 refine bp oK oK ?_
 repeat (first|go_big_quiet_skip|(go_big_quiet_want;go_big_quiet_op;first|go_big_quiet_on|go_big_quiet_call (fail)))
 refine cU ?_;intro _ t;obtain⟨nq,u⟩:=t;subst u;clear x x1 x2 x3 j y z m;have A:=hid (aG U nq);obtain⟨x,x1,x2,x3,j,y,z,m⟩:=I.out _ A;generalize w2.drewN nq=c at*;clear x x1 x3 y z;go_upto_region 10 with fail
 have B:=hid (aB c 1);have Y:=hid (X.below (btr A B));have Z:=hid (show c.drew.frozen? ⟨a,d,none⟩=false from by
  have i:=Y.o.IE;rw[ab.out] at i;exact i.frozen d)
 refine bI (R:=fun W=>W.cell? ⟨wb,0,none⟩=some (.slice (some ⟨a,0,none⟩) p.IE.length cap0)∧W.cell? ⟨D,S+2,none⟩=some (.int .i64 f)) [10] [0,1,2,3,4,5,6,7,8,9] 1 oK ⟨gX B j,gX B x2⟩ oK oK oK (fun _=>?_)
 repeat (refine Rf.rs ?_;simp only[jj])
 refine aM ?_;refine Rf.r1 10 rfl (fun K hK=>?_);have y4:=gX B m;have fz:=Z.out;go_simp
 refine hK _ _ trivial (bX oK) (fun _ _=>?_);clear hK K
 try simp only[jj]
 refine bc oK ?_ _;rw[show IntKind.i64.wrap (32768+(f:Int))=32768+(f:Int) from bS _ oA oA];have L:=hid ((X.below A).IJ ab d (32768+(f:Int)));have G:=hid (show Below (c.setCell ⟨a,d,none⟩ (.int .i64 (32768+(f:Int)))).heap.size (c.setCell ⟨a,d,none⟩ (.int .i64 (32768+(f:Int)))) (c.setCell ⟨a,d,none⟩ (.int .i64 (32768+(f:Int)))).drew from aB _ 1);have J:=hid (show cb (c.setCell ⟨a,d,none⟩ (.int .i64 (32768+(f:Int)))).drew wb tag V {p with IE:=p.IE.set d (32768+(f:Int))}∧Kt tag tag w (c.setCell ⟨a,d,none⟩ (.int .i64 (32768+(f:Int)))).drew from⟨L.1.below G,((bj A).trans L.2).trans (bj G)⟩);generalize (c.setCell ⟨a,d,none⟩ (.int .i64 (32768+(f:Int)))).drew=W9 at J ⊢;clear L G Z fz y4 m j x2 Y;go_wp2_with fail
 go_ret
 exact⟨rfl,by rw[ai.out];exact J.1,J.2⟩
theorem oQ (wb:Nat) (tag:Nat->Nat) (V:Nat->Value) (p:PW) (A H ca s g f wr a:Nat) (w:World) (bt:cb w wb tag V p) (F:p.Fits) (hl:∀l∈p.ID,l.length<=100) (B:fY w A H [(s:Int),(g:Int),(f:Int),(wr:Int)]) (ht:tag A=0)
  (h0:fmE p s 4=0) (hg:g<=255) (hw:wr<=1) (hf:f<p.kinds.length) (hr:p.IE.length=p.kinds.length*16) (hk:p.kinds.getD f 0=2) (T:p.IE.getD (s*16+g/16) 0=a) (aD:0<a) (ar:a<=65535) (G:a%1024*16+g%16<p.IE.length) (S:p.IE.getD (a%1024*16+g%16) 0=0):
  Calls Tryz.prog 226 #[.pointer (some ⟨wb,0,none⟩),.slice (some ⟨A,H,none⟩) 4 ca] w fun r w'=>r=.returned (.int .i64 0)∧cb w' wb tag V {p with IE:=p.IE.set (a%1024*16+g%16) (32768+(wr:Int)*16384+(f:Int))}∧Kt tag tag w w':=by
 have J:=hid (bt.view F hl);have BT:=hid bt;have hs:s<p.kinds.length:=by
  unfold fmE at h0;by_cases h:(s:Int)<0∨(p.kinds.length:Int)<=(s:Int)
  ·rw[ag h] at h0;cases h0
  ·omega
 have a0:=B 0 oS;have a1:=B 1 oS;have N:=B 2 oS;have O:=B 3 oS;rw[bz] at a0;simp only[bg,bC] at a0 a1 N O;have c0:=r11 0 bt.r;have c1:=r11 1 bt.r;obtain⟨q1,b1,o1,k1,e1,ai,al⟩:=J.v.kinds;have au:=F.kinds;have ax:=F.IE;have aI:(p.kinds.length:Int)<=1000:=oA;have aK:(p.IE.length:Int)<=1000:=oA;obtain rfl:=ai oA;have P:=al f hf;rw[show p.kinds[f]=2 by rw[aa,ac hf] at hk;exact hk] at P;obtain⟨b,cap0,D⟩:∃b cap0,V 0=.slice (some ⟨b,0,none⟩) p.IE.length cap0:=bt.o.IE.form (by show 0<p.IE.length;omega)
 have E:s*16+g/16<p.IE.length:=oA;rw[D] at c0;rw[e1] at c1;obtain⟨qr,br,aL,kr,er,aj,U⟩:=J.v.IE;rw[D] at er
 cases er
 have aq:=aj oA
 cases aq
 have cr:w.cell? ⟨b,s*16+g/16,none⟩=some (.int .i64 a):=by
  have:=U _ E;rw[aC] at this;rw[this,show p.IE[s*16+g/16]=(a:Int) by rw[aa,ac E] at T;exact T]
 have cp:w.cell? ⟨b,a%1024*16+g%16,none⟩=some (.int .i64 0):=by
  have:=U _ G;rw[aC] at this;rw[this,show p.IE[a%1024*16+g%16]=0 by rw[aa,ac G] at S;exact S]
 have z:=hid (fun W (h:Below w.heap.size w W)=>(⟨gX h a0,gX h a1,gX h N,gX h O,gX h c0,gX h c1,gX h P,gX h cr,gX h cp⟩:_∧_∧_∧_∧_∧_∧_∧_∧_));have HM:=hid (ir wb V p s 4 w J);rw[h0] at HM;have am:=hid (fun nq=>show Calls Tryz.prog 62 #[.int .i64 g,.int .i64 255] (w.drewN nq) fun e w'=>e=.returned (.bool false)∧w'=w.drewN nq from (Isa.fC g 255 (w.drewN nq)).mono fun e w' ⟨Q,x⟩=>⟨by rw[Q,show decide ((g:Int)<0∨255<(g:Int))=false from aw oA],x.symm⟩);have an:=hid (fun nq=>show Calls Tryz.prog 62 #[.int .i64 wr,.int .i64 1] (w.drewN nq) fun e w'=>e=.returned (.bool false)∧w'=w.drewN nq from (Isa.fC wr 1 (w.drewN nq)).mono fun e w' ⟨Q,x⟩=>⟨by rw[Q,show decide ((wr:Int)<0∨1<(wr:Int))=false from aw oA],x.symm⟩);have f1:decide ((f:Int)<0)=false:=aw oA;have f2:decide ((p.kinds.length:Int)<=(f:Int))=false:=aw oA;clear B h0 hk T al ai e1 bt P cr cp aj U S;have HT:=hid ht;have ad:=hid D;have az:=hid hr;have HD:=hid E;have ap:=hid G;have aE:((a:Int)==0)=false:=by simp;omega
 have aF:(a:Int)<=65535:=oA;clear G ar;clear ht D hr E au ax hl F;go_enter Tryz.func226,Tryz.ntmps226
 go_wp2_with fail
 refine HM.mono ?_;rintro r w1 ⟨rfl,rfl⟩;go_upto_region 4 with fail
 refine bp oK oK ?_
 repeat (first|go_big_quiet_skip|(go_big_quiet_want;go_big_quiet_op;first|go_big_quiet_on|go_big_quiet_call (first|((with_reducible (show Calls _ 62 #[.int .i64 (g:Int),_] _ _));refine bG (am.out _))|((with_reducible (show Calls _ 62 #[.int .i64 (wr:Int),_] _ _));refine bG (an.out _)))))
 refine cU ?_;intro _ j;obtain⟨nq,k⟩:=j;subst k;have X:=hid (aG (af w.heap.size w) nq);obtain⟨m,x1,x2,x3,c,n,q,t,i⟩:=z.out _ X;clear a0 a1 N O c0 c1;have f3:decide (p.kinds.length<=f)=false:=aw oA;generalize w.drewN nq=w1 at*;have av:(g:Int).tdiv 16=((g/16:Nat):Int):=by rw[cd oA];omega
 go_upto_region 6 with fail
 refine bp oK oK ?_
 repeat (first|go_big_quiet_skip|(go_big_quiet_want;go_big_quiet_op;first|go_big_quiet_on|go_big_quiet_call (fail)))
 refine cU ?_;intro _ j;obtain⟨nq,k⟩:=j;subst k;rw[show (s:Int)*16+(g:Int)/16=((s*16+g/16:Nat):Int) by omega];generalize ae:s*16+g/16=d at*;have ay:=hid ae;clear ae;have aA:(d:Int)<(p.IE.length:Int):=by have:=HD.out;omega
 have aH:(f:Int)<(p.kinds.length:Int):=oA;clear av m x1 x2 x3 c n q t i;have Y:=hid (aG X nq);obtain⟨m,x1,x2,x3,c,n,q,t,i⟩:=z.out _ Y;generalize w1.drewN nq=w2 at*;go_upto_region 7 with fail
 refine bp oK oK ?_
 repeat (first|go_big_quiet_skip|(go_big_quiet_want;go_big_quiet_op;first|go_big_quiet_on|go_big_quiet_call (fail)))
 refine cU ?_;intro _ j;obtain⟨nq,k⟩:=j;subst k;clear m x1 x2 x3 c n q t i;have Z:=hid (aG Y nq);obtain⟨m,x1,x2,x3,c,n,q,t,i⟩:=z.out _ Z;generalize w2.drewN nq=w3 at*;go_upto_region 12 with fail
 refine bp oK oK ?_
 repeat (first|go_big_quiet_skip|(go_big_quiet_want;go_big_quiet_op;first|go_big_quiet_on|go_big_quiet_call (fail)))
 refine cU ?_;intro _ j;obtain⟨nq,k⟩:=j;subst k;clear m x1 x2 x3 c n q t i;have B4:=hid (aG Z nq);obtain⟨m,x1,x2,x3,c,n,q,t,i⟩:=z.out _ B4;generalize w3.drewN nq=w4 at*;go_upto_region 16 with fail
 refine bp oK oK ?_
 repeat (first|go_big_quiet_skip|(go_big_quiet_want;go_big_quiet_op;first|go_big_quiet_on|go_big_quiet_call (fail)))
 refine cU ?_;intro _ j;obtain⟨nq,k⟩:=j;subst k;rw[show (a:Int)%1024*16+(g:Int)%16=((a%1024*16+g%16:Nat):Int) by omega];generalize ah:a%1024*16+g%16=pg at*;have ao:=hid ah;clear ah;have aJ:(pg:Int)<(p.IE.length:Int):=by have:=ap.out;omega
 clear m x1 x2 x3 c n q t i;have C:=hid (aG B4 nq);obtain⟨m,x1,x2,x3,c,n,q,t,i⟩:=z.out _ C;generalize w4.drewN nq=u at*;clear m x1 n q t;go_upto_region 19 with fail
 have y:=hid (aB u 1);have ab:=hid (BT.below (btr C y));have FZ:=hid (show u.drew.frozen? ⟨b,pg,none⟩=false from by
  have x:=ab.o.IE;rw[ad.out] at x;exact x.frozen pg)
 refine bI (R:=fun W=>W.cell? ⟨wb,0,none⟩=some (.slice (some ⟨b,0,none⟩) p.IE.length cap0)∧W.cell? ⟨A,H+3,none⟩=some (.int .i64 wr)∧W.cell? ⟨A,H+2,none⟩=some (.int .i64 f)) [15] [0,1,2,3,4,5,6,7,8,9,10,11,12,13,14] 1 oK ⟨gX y c,gX y x3,gX y x2⟩ oK oK oK (fun _=>?_)
 repeat (refine Rf.rs ?_;simp only[jj])
 refine aM ?_;refine Rf.r1 15 rfl (fun K hK=>?_);have y4:=gX y i;have fz:=FZ.out;go_simp
 refine hK _ _ trivial (bX oK) (fun _ _=>?_);clear hK K
 try simp only[jj]
 refine bc oK ?_ _
 try simp only[show IntKind.i64.wrap ((wr:Int)*16384)=(wr:Int)*16384 from bS _ oA oA,show IntKind.i64.wrap (32768+(wr:Int)*16384)=32768+(wr:Int)*16384 from bS _ oA oA,show IntKind.i64.wrap (32768+(wr:Int)*16384+(f:Int))=32768+(wr:Int)*16384+(f:Int) from bS _ oA oA]
 have M:=hid ((BT.below C).IJ ad pg (32768+(wr:Int)*16384+(f:Int)));have I:=hid (show Below (u.setCell ⟨b,pg,none⟩ (.int .i64 (32768+(wr:Int)*16384+(f:Int)))).heap.size (u.setCell ⟨b,pg,none⟩ (.int .i64 (32768+(wr:Int)*16384+(f:Int)))) (u.setCell ⟨b,pg,none⟩ (.int .i64 (32768+(wr:Int)*16384+(f:Int)))).drew from aB _ 1);have L:=hid (show cb (u.setCell ⟨b,pg,none⟩ (.int .i64 (32768+(wr:Int)*16384+(f:Int)))).drew wb tag V {p with IE:=p.IE.set pg (32768+(wr:Int)*16384+(f:Int))}∧Kt tag tag w (u.setCell ⟨b,pg,none⟩ (.int .i64 (32768+(wr:Int)*16384+(f:Int)))).drew from⟨M.1.below I,((bj C).trans M.2).trans (bj I)⟩);generalize (u.setCell ⟨b,pg,none⟩ (.int .i64 (32768+(wr:Int)*16384+(f:Int)))).drew=W9 at L ⊢;clear M I FZ fz y4 i c x2 x3 ab;go_wp2_with fail
 go_ret
 exact⟨rfl,by rw[ao.out];exact L.1,L.2⟩
