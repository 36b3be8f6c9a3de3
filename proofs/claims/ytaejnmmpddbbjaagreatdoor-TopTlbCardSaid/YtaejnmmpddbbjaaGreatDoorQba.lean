/- Qba -/
import Derived.BigGuard
import Derived.Test.YtaejnmmpddbbjaaGreatDoorQaz
set_option maxRecDepth 100000
set_option maxHeartbeats 16000000
namespace Go.Proofs.YtaejnmmpddbbjaaGreatDoor
namespace Wd
open Go.RowKit Mem Bw Nums Mmu
theorem InT.re {w w':World} {tag:Nat->Nat} {t I s wb:Nat} {u:Value} {c:Nat×List Value} (h:InT w tag t I s u c) (d:t≠0) (b:tag wb=0) (hk:Kp (fun k=>k=wb) w w'):InT w' (fun k=>if k=wb then 1 else tag k) t I s u c:=by
 have a:∀k,u.ownBlock=some k->k≠wb:=fun k e f=>d (by rw[<-h.2 k e,f,b]);exact⟨hQ h.1 hk a,fun k e=>(ae (a k e)).trans (h.2 k e)⟩
theorem fy.re {w w':World} {tag:Nat->Nat} {t i O I s n wb:Nat} {v:Value} {cc:Nat->Nat×List Value} (h:fy w tag t i O I s n v cc) (q:t≠0) (hi:i≠0) (a:tag wb=0) (hk:Kp (fun k=>k=wb) w w'):fy w' (fun k=>if k=wb then 1 else tag k) t i O I s n v cc:=by
 obtain⟨g,us,d,b,l,m,o⟩:=h;have c:g≠wb:=fun f=>q (by rw[<-b,f,a]);refine⟨g,us,d,(ae c).trans b,l,hQ m hk (fun k e=>?_),fun j p=>(o j p).re oA a hk⟩;have:g=k:=by simpa [Value.ownBlock] using e
 rw[<-this];exact c
theorem jN.re {w w':World} {tag:Nat->Nat} {n wb:Nat} {v:Value} {ls:List (List Ent)} (h:jN w tag n v ls) (d:tag wb=0) (hk:Kp (fun k=>k=wb) w w'):jN w' (fun k=>if k=wb then 1 else tag k) n v ls:=by
 obtain⟨g,us,s,l,t,u,y⟩:=h;have q:g≠wb:=fun f=>by rw[<-f,l] at d;cases d
 refine⟨g,us,s,(ae q).trans l,t,hQ u hk (fun k e=>?_),fun j A=>?_⟩
 ·have:g=k:=by simpa [Value.ownBlock] using e
  rw[<-this];exact q
 ·rcases y j A with x|⟨b,off,cap,B,a,C,r,D,E⟩
  ·exact .inl (x.re oA d hk)
  ·have m:b≠wb:=fun f=>by rw[<-f] at d;omega
   have z:=aj _ _ (a 0 r).1;have c:∀{o:Nat} {v:Value},w.cell? ⟨b,o,none⟩=some v->w'.cell? ⟨b,o,none⟩=some v:=fun {o v} e=>(hk.cell (p:=⟨b,o,none⟩) z m).trans e;exact .inr ⟨b,off,cap,B,fun i hi=>⟨c (a i hi).1,c (a i hi).2.1,c (a i hi).2.2.1,c (a i hi).2.2.2⟩,(ae m).trans C,r,D,E⟩
theorem fK.box {W:World} {tag:Nat->Nat} {X:Nat->Value} {p:PW} {wb:Nat} (h:fK W tag X p) (a:tag wb=0) (b:W.there wb 0 11):cb (W.setCells wb 0 (dk X).toList) wb (fun k=>if k=wb then 1 else tag k) X p:=by
 have hk:Kp (fun k=>k=wb) W (W.setCells wb 0 (dk X).toList):=aI (T:=fun k=>k=wb) (.inl rfl) _ _ _ (aP _ _);exact⟨World.rangeAt_setCells_same W wb 0 (dk X).toList b,World.there_setCells b _ _ _,af rfl,⟨h.Eb.re oD a hk,h.kinds.re oD a hk,h.DZ.re oD a hk,h.DY.re oD a hk,h.lines.re oD oD a hk,h.bits.re oD a hk,h.D6.re oD a hk,h.ready.re oD oD a hk,h.D9.re a hk,h.Ee.re oD a hk,h.time⟩⟩
theorem InT.one {w:World} {tag:Nat->Nat} {t I s:Nat} {u:Value} {c:Nat×List Value} (h:InT w tag t I s u c):u.oneCell'=true:=by obtain⟨q,k,e⟩:=eY h.1;rw[e];rfl
theorem fy.one {w:World} {tag:Nat->Nat} {t i O I s n:Nat} {v:Value} {a:Nat->Nat×List Value} (h:fy w tag t i O I s n v a):v.oneCell'=true:=by obtain⟨g,us,rfl,_⟩:=h;rfl
theorem jN.one {w:World} {tag:Nat->Nat} {n:Nat} {v:Value} {ls:List (List Ent)} (h:jN w tag n v ls):v.oneCell'=true:=by obtain⟨g,us,rfl,_⟩:=h;rfl
theorem fK.EJ {w:World} {tag:Nat->Nat} {X:Nat->Value} {p:PW} (h:fK w tag X p):(dk X).all (·.oneCell')=true:=by
 simp only[List.all_toArray,List.all_cons,List.all_nil,Bool.and_true,h.Eb.one,h.kinds.one,h.DZ.one,h.DY.one,h.lines.one,h.bits.one,h.D6.one,h.ready.one,h.D9.one,h.Ee.one,Bool.true_and];rw[h.time];rfl
end Wd
namespace Wd
open Go.RowKit Mem Bw Nums Mmu Hex
structure Pw (w0 W:World) (p:PW) (b6 b7:Option Nat) (X:Option (Nat->Value)):Prop where
 be:Below w0.heap.size w0 W
 c6:∀b,b6=some b->W.heap[b]? =some (.cells zW 28)∧w0.heap.size<=b
 c7:∀b,b7=some b->W.heap[b]? =some (.cells #[.int .i64 0,.int .i64 0] 71)∧w0.heap.size<=b
 x:∀V,X=some V->NwX W w0.heap.size p V
theorem xv {W a:World} (h:Below W.heap.size W a) {b:Nat} {o:Obj} (e:W.heap[b]? =some o):a.heap[b]? =some o:=(h.block b (Array.getElem?_eq_some_iff.1 e).1).trans e
theorem Pw.next {w0 W c:World} {p:PW} {b6 b7:Option Nat} {X:Option (Nat->Value)} (h:Pw w0 W p b6 b7 X) (a:Below W.heap.size W c):Pw w0 c p b6 b7 X:=
 ⟨btr h.be a,fun b e=>⟨xv a (h.c6 b e).1,(h.c6 b e).2⟩,fun b e=>⟨xv a (h.c7 b e).1,(h.c7 b e).2⟩,fun V e=>(h.x V e).below a⟩
theorem cup {b W:World} (h:Below b.heap.size b W) {a:Addr} {v:Value} (e:b.cell? a=some v):W.cell? a=some v:=(h.cell (aj _ _ e)).trans e
theorem s5 (W:World) (o:Obj):(W.alloc o).heap[W.heap.size]? =some o:=by unfold World.alloc;simp
theorem Pw.FL {w0 W:World} {p:PW} {b7:Option Nat} {X:Option (Nat->Value)} (h:Pw w0 W p none b7 X):Pw w0 (W.alloc (.cells zW 28)) p (some W.heap.size) b7 X:=
 have n:=h.next (bal (ai _ _) _)
 ⟨n.be,fun b e=>by cases e;exact⟨s5 _ _,h.be.size⟩,n.c7,n.x⟩
theorem Pw.FM {w0 W:World} {p:PW} {b6:Option Nat} {X:Option (Nat->Value)} (h:Pw w0 W p b6 none X):Pw w0 (W.alloc (.cells #[.int .i64 0,.int .i64 0] 71)) p b6 (some W.heap.size) X:=
 have n:=h.next (bal (ai _ _) _)
 ⟨n.be,n.c6,fun b e=>by cases e;exact⟨s5 _ _,h.be.size⟩,n.x⟩
theorem NwX.low {w:World} {L M:Nat} {p:PW} {X:Nat->Value} (h:NwX w M p X) (hl:L<=M):NwX w L p X:=⟨fun i hi=>nB (h.own i hi) hl,h.dj,h.f4,h.f7,h.f8,h.t⟩
theorem Pw.call {w0 W a:World} {p:PW} {b6 b7:Option Nat} (h:Pw w0 W p b6 b7 none) {V:Nat->Value} (b:Below W.heap.size W a) (c:NwX a W.heap.size p V):Pw w0 a p b6 b7 (some V):=
 have n:=h.next b
 ⟨n.be,n.c6,n.c7,fun d e=>by cases e;exact c.low h.be.size⟩
theorem jJ {W:World} {b:Nat} {a:Array Value} {T:TypeId} (h:W.heap[b]? =some (.cells a T)) (k:Nat) (hk:k<=a.size):W.there b 0 k:=fun j c=>by
 have e:W.cell? ⟨b,0+j,none⟩=a[0+j]? :=by simp[World.cell?,h]
 refine⟨?_,by simp[World.frozen?,h]⟩;rw[e,Array.getElem?_eq_getElem oA];rfl
theorem Bq {w:World} {L x:Nat} {p:PW} {X:Nat->Value} (h:NwX w L p X) {b:Array Value} (d:w.heap[x]? =some (.cells b 71)):∀i,i<10->(X i).ownBlock≠some x:=fun i hi e=>by
 rcases (h.own i hi).2 with ⟨e1,_⟩|⟨g,cap,f,e1,_,a,_⟩
 ·rw[e1] at e;cases e
 ·rw[e1] at e;obtain rfl:g=x:=by simpa [Value.ownBlock] using e
  rw[d] at a;have:wE i=71:=by simp at a;exact a.2.symm
  have c:∀i,i<10->wE i≠71:=oD;exact c i hi this
theorem vc {X:Nat->Value} {k:Nat}:∀n,(∀i,i<n->(X i).ownBlock≠some k)->pb X k n=0
 |0,_=>rfl
 |n+1,h=>by
  unfold pb;rw[ae (h n oA)];exact vc n (fun i hi=>h i oA)
theorem Pw.box {w0 W:World} {p:PW} {b6 b7:Nat} {X:Nat->Value} (h:Pw w0 W p (some b6) (some b7) (some X)) (g:∀l∈p.lines,l=[]) (j:∀l∈p.ready,l=[]) (m:∀l∈p.D9,l=[]):
  cb ((W.setCells b6 0 (dk X).toList).setCells b7 0 [.int .i64 0,.int .i64 (-1)]) b6 (ya X b6) X p∧Below w0.heap.size w0 ((W.setCells b6 0 (dk X).toList).setCells b7 0 [.int .i64 0,.int .i64 (-1)])∧((W.setCells b6 0 (dk X).toList).setCells b7 0 [.int .i64 0,.int .i64 (-1)]).cell? ⟨b7,0,none⟩=some (.int .i64 0)∧w0.heap.size<=b6∧∀k,k<w0.heap.size->pb X k 10=0:=by
 obtain⟨c6,d⟩:=h.c6 b6 rfl;obtain⟨c7,s⟩:=h.c7 b7 rfl;have a:=h.x X rfl;have c:=jJ c6 11 oD;have r:=jJ c7 2 oD;have q:b6≠b7:=fun e=>by rw[e,c7] at c6;simp at c6
 have k1:Kp (fun k=>k=b6∨k=b7) W (W.setCells b6 0 (dk X).toList):=aI (.inl (.inl rfl)) _ _ _ (aP _ _);have k2:Kp (fun k=>k=b6∨k=b7) W ((W.setCells b6 0 (dk X).toList).setCells b7 0 [.int .i64 0,.int .i64 (-1)]):=aI (.inl (.inr rfl)) _ _ _ k1;have f:Kp (fun k=>k=b7) (W.setCells b6 0 (dk X).toList) ((W.setCells b6 0 (dk X).toList).setCells b7 0 [.int .i64 0,.int .i64 (-1)]):=aI (T:=fun k=>k=b7) (.inl rfl) _ _ _ (aP _ _);have b:=Br a c6;have o:=Bq a c7;have n:=(Array.getElem?_eq_some_iff.1 c6).1;refine⟨Wb.box (B:=w0.heap.size) ⟨⟨aE n k2.size,fun i hi=>hQ (a.own i hi) k2 (fun k e hk=>by rcases hk with hk|hk;exact b i hi (hk▸e);exact o i hi (hk▸e)),a.dj,b⟩,dY (World.rangeAt_setCells_same W b6 0 (dk X).toList c) f q,World.there_setCells (World.there_setCells c _ _ _) _ _ _⟩ a.f4 a.f7 a.f8 a.t g j m,k2.below h.be h.be.size (fun k hk e=>oA),?_,d,fun k hk=>vc 10 (fun i hi e=>?_)⟩
 ·exact World.rangeAt_setCells_same _ b7 0 [.int .i64 0,.int .i64 (-1)] (World.there_setCells r _ _ _) 0 _ rfl
 ·have:=((a.own i hi).lt k e).1;omega
theorem r5 {op:Oper} {a:Act} {w:World} {K:Act->World->Prop} {Q:Exit->Act->World->Prop} {x y:Tmp} (c:op.op=.store 71 (.tmp x) (.tmp y)) (b:Nat) (e:a.eval (.tmp x)=.pointer (some ⟨b,0,none⟩)) (f:a.eval (.tmp y)=.agg #[.int .i64 0,.int .i64 (-1)]) (d:w.there b 0 2)
  (h:K (a.put op.dst undef) (w.setCells b 0 [.int .i64 0,.int .i64 (-1)])):op.wp Tryz.prog a w K Q:=
 wp_store_mid 71 _ _ c b 0 #[.int .i64 0,.int .i64 (-1)] e f d iR vy h
theorem xq {P:Program} {md:Region.Mode} {ops:Array Oper} {Q:Exit->Act->World->Prop} {S R:World->Prop} {fs:List Nat} {fuel:Nat} {c:Array Bool} {a:Act} {w:World} (F:(Nat->Value)->Nat->Nat->World->Prop) (l2:Array Bool) (b:(Nat->Value)->Nat->Nat->Act)
  (d:∀m X b6 b7 W,F X b6 b7 W->Rf.dP P md ops Q S R fs (m+2) l2 (b X b6 b7) W) (h:Hid (∀X b6 b7 W,F X b6 b7 W->Rf.dP P md ops Q S R fs 2 l2 (b X b6 b7) W)->Rf.dP P md ops Q S R fs fuel c a w):Rf.dP P md ops Q S R fs fuel c a w:=h (d 0)
theorem nP (b off cap f c:Nat) (zs:List Int) (l:List ByteArray) (w:World) (hS:fv w b off l) (av:∀t∈l,fI t=true) (hl:l.length<=100) (hm:l.map Prs.gG=(f:Int)::(c:Int)::zs) (f0:1<=f) (f1:f<=24) (c0:1<=c) (c1:c<=4) (z0:1<=zs.length) (z1:zs.length<=8) (hz:∀z∈zs,0<=z∧z<=3):
  Calls Tryz.prog 71 #[.slice (some ⟨b,off,none⟩) l.length cap] w fun r w'=>∃X tag,r=.returned (.tuple #[.agg (dk X),.int .i64 0])∧fK w' tag X (wlP f c zs)∧(∀k,k<w.heap.size->tag k=0)∧Below w.heap.size w w':=by
 have B0:=hid (bal (ai w.heap.size w) (.cells zW 28));have T0:=hid (aY w zW 28 w.heap.size 11 rfl oD);have HN:=hid (ik b off cap l _ (fv.EN hS B0) av hl);rw[hm] at HN;have ax:=hid (show l.length=zs.length+2 by have:=cX List.length hm;simpa using this);have ZL:(zs.length:Int)<=8:=oA;have aT:(1:Int)<=zs.length:=oA;have HZ:=hid hz;clear hm hS av hl;go_enter Tryz.func71,Tryz.ntmps71
 go_wp2_with fail
 refine HN.mono ?_;rintro r w1 ⟨u,rfl,hu,ap⟩;rw[ax.out] at hu;obtain⟨b2,n,rfl,aK,aL,hi⟩:=jc hu oS oA;have I:=hid hi;have g3:¬n=2:=oA;have B1:=hid (btr B0 ap);have ar:=hid ap;clear ap;clear hu aK hi aL;have g0:(0:Int)<(zs.length:Int)+2:=oA;have g1:(1:Int)<(zs.length:Int)+2:=oA;have Q:(2:Int)<=(zs.length:Int)+2:=oA;have n0:=I.out 0 oS;have n1:=I.out 1 oS;rw[bG] at n0;rw[az] at n1;simp only[aS,bc] at n0 n1;have KC:=hid (fun W (h:Below w1.heap.size w1 W)=>(⟨cup h n0,cup h n1⟩:_∧_));have A:=hid (fun W (h:Below w1.drew.heap.size w1.drew W)=>oM f c (.slice (some ⟨b2,2,none⟩) zs.length (n - 2)) zs W ⟨_,b2,2,_,rfl,fun _=>rfl,fun j hj=>by
  have:=(I.below (btr (aC w1 1) h)) (j+2) (by simp;omega);simp only[bc] at this;rw[show 2+j=0+(j+2) by omega];exact this⟩ f0 f1 c0 c1 z0 z1 HZ)
 have P:=hid (show Pw w1.drew w1.drew (mH f c zs) none none none from⟨ai _ _,fun _ h=>(by cases h),fun _ h=>(by cases h),fun _ h=>(by cases h)⟩);clear n0 n1;have U:=hid (show Below w1.heap.size w1 w1.drew from aC w1 1);go_upto_region 6 with fail
 refine bj (R:=fun W=>Below w1.drew.heap.size w1.drew W) [14] [0,1,2,3,4,5,6,7] 8 oK (ai _ _) oK oK oK (fun _=>?_)
 repeat (refine Rf.rs ?_ rfl oR (fun W h=>by obtain⟨h1,h2⟩:=KC.out _ (btr (aC w1 1) h);clear h;go_simp;try rfl);simp only[jj])
 refine aG ?_;clear KC I;generalize w1.drew=w2 at*;refine xq (fun X b6 b7 W=>Pw w2 W (mH f c zs) (some b6) (some b7) (some X)) #[true,true,true,true,true,true,true,true,true,true,true,true,true,true,false,false] (fun X b6 b7=>⟨#[.slice (some ⟨b,off,none⟩) l.length cap,undef,.pointer (some ⟨w.heap.size,0,none⟩),.int .i64 0,.slice (some ⟨b2,0,none⟩) (zs.length+2) n,.int .i64 0,.pointer (some ⟨b6,0,none⟩),.pointer (some ⟨b7,0,none⟩),.tuple #[.slice (some ⟨b2,0,none⟩) (zs.length+2) n,.int .i64 0],.slice (some ⟨b,off,none⟩) l.length cap,.tuple #[.slice (some ⟨b2,0,none⟩) (zs.length+2) n,.int .i64 0],.slice (some ⟨b2,0,none⟩) (zs.length+2) n,.int .i64 0,.int .i64 0,.bool false,undef,undef,.slice (some ⟨b2,0,none⟩) (zs.length+2) n,.int .i64 ((zs.length:Int)+2),.bool (decide ((zs.length:Int)+2<3)),undef,.tuple #[.agg (dk X),.agg #[.int .i64 0,.int .i64 (-1)]],.slice (some ⟨b2,0,none⟩) (zs.length+2) n,.pointer (some ⟨b2,0,none⟩),.int .i64 f,.slice (some ⟨b2,0,none⟩) (zs.length+2) n,.pointer (some ⟨b2,1,none⟩),.int .i64 c,.slice (some ⟨b2,0,none⟩) (zs.length+2) n,.slice (some ⟨b2,2,none⟩) zs.length (n - 2),.tuple #[.agg (dk X),.agg #[.int .i64 0,.int .i64 (-1)]],.agg (dk X),.agg #[.int .i64 0,.int .i64 (-1)],undef,undef,undef,undef,undef,undef,undef,undef,undef,undef,undef,undef,undef,undef,undef],[]⟩) ?_ (fun y=>?_)
 ·intro m X b6 b7 W H;dsimp only;have p:=hid (H.box (fun l h=>(List.mem_replicate.1 h).2) (fun l h=>(List.mem_replicate.1 h).2) (fun l h=>(List.mem_replicate.1 h).2));have T6:=hid (jJ (H.c6 b6 rfl).1 11 oD);have T7:=hid (show (W.setCells b6 0 [X 0,X 1,X 2,X 3,X 4,X 5,X 6,X 7,X 8,X 9,X 10]).there b7 0 2 from World.there_setCells (jJ (H.c7 b7 rfl).1 2 oD) _ _ _);have O1:=hid (Array.all_eq_true'.2 (uD (H.x X rfl)));clear H;refine Rf.r1 14 rfl (fun K a=>?_);refine wnt oR ?_;simp only[cE,bc,aS];refine wp_store_mid 28 _ _ rfl b6 0 (dk X) rfl rfl T6 fO O1 ?_;refine a _ _ trivial (bK oK) (fun _ _=>?_);clear a K
  try simp only[jj]
  change Hid (cb ((W.setCells b6 0 [X 0,X 1,X 2,X 3,X 4,X 5,X 6,X 7,X 8,X 9,X 10]).setCells b7 0 [.int .i64 0,.int .i64 (-1)]) b6 (ya X b6) X (mH f c zs)∧Below w2.heap.size w2 ((W.setCells b6 0 [X 0,X 1,X 2,X 3,X 4,X 5,X 6,X 7,X 8,X 9,X 10]).setCells b7 0 [.int .i64 0,.int .i64 (-1)])∧((W.setCells b6 0 [X 0,X 1,X 2,X 3,X 4,X 5,X 6,X 7,X 8,X 9,X 10]).setCells b7 0 [.int .i64 0,.int .i64 (-1)]).cell? ⟨b7,0,none⟩=some (.int .i64 0)∧w2.heap.size<=b6∧∀k,k<w2.heap.size->pb X k 10=0) at p;clear T6 O1;generalize W.setCells b6 0 [X 0,X 1,X 2,X 3,X 4,X 5,X 6,X 7,X 8,X 9,X 10]=W2 at T7 p ⊢;refine Rf.r1 15 rfl (fun K a=>?_);refine wnt oR ?_;simp only[cE,bc,aS];refine r5 rfl b7 rfl rfl T7 ?_;refine a _ _ trivial (bK oK) (fun _ _=>?_);clear a K
  try simp only[jj]
  refine aO oK ?_ _;clear T7 A P;generalize W2.setCells b7 0 [.int .i64 0,.int .i64 (-1)]=W3 at p ⊢;have s:=hid p.1;have S:=hid (btr B1 (btr U p.2.1));have BA:=hid (btr ar (btr U p.2.1));have c7:=p.2.2.1;have O:=hid (show ∀k,k<w1.heap.size->ya X b6 k=0 from fun k hk=>by
   have h1:=p.2.2.2.1;unfold ya;have h2:=U.size;rw[ae oA];exact p.2.2.2.2 k oA)
  obtain⟨g1,k1,e1⟩:=s.o.kinds.form (show 0<(mH f c zs).kinds.length by rw[show (mH f c zs).kinds.length=f from aU];omega);obtain⟨Q,k2,e2⟩:=s.o.DZ.form (show 0<(mH f c zs).DZ.length by rw[show (mH f c zs).DZ.length=f*16 from aU];omega);have r1:W3.cell? ⟨b6,1,none⟩=some (X 1):=ah s.r rfl;rw[e1] at r1;have J:=s.o.kinds;rw[e1] at J;obtain⟨u1,aw⟩:=Option.isSome_iff_exists.1 (J.there 0 1 (by rw[show (mH f c zs).kinds.length=f from aU];omega) 0 oA).1;rw[bG] at aw;have aJ:=J.frozen 0;have aM:(0:Int)<((mH f c zs).kinds.length:Int):=by rw[show (mH f c zs).kinds.length=f from aU];omega
  have Z:=hid (s.Eh e1 0 5);clear p J;go_upto_region 10 with fail
  clear r1 aw aJ aM c7;have C:=hid Z.1;have aa:=hid Z.2;clear Z s;generalize W3.setCell ⟨g1,0,none⟩ (.int .i64 5)=W4 at C aa ⊢;have r2:W4.cell? ⟨b6,2,none⟩=some (X 2):=ah C.r rfl;rw[e2] at r2;have Y:=C.o.DZ;rw[e2] at Y;have V:=hid (show (mH f c zs).DZ.length=f*16 from aU);have au:=hid (show W4.there Q (0*7) 7 from Y.there (0*7) 7 (by show 0*7+7<=(mH f c zs).DZ.length*7;rw[V.out];omega));have aN:(0:Int)<((mH f c zs).DZ.length:Int):=by rw[V.out];omega
  have K2:=hid (C.Eo e2 (i:=0) (by show 0<(mH f c zs).DZ.length;rw[V.out];omega) ndk);clear Y;go_upto_region 11 with (first|((with_reducible refine gst 80 ?_);refine px rfl _ _ rfl Q (0*7) rfl (cf 7 ndk) rfl (aA _ _) (bR _ _) au ?_))
  have D:=hid K2.1;have E:=hid (aa.trans K2.2);clear r2 aN au K2 C aa;generalize W4.setCells Q (0*7) (cf 7 ndk)=B at D E ⊢;have L0:w.heap.size<w1.heap.size:=aE oS ar.size;have T5:=hid (dJ (dJ T0 (T:=fun _=>False) (.Ed BA) id) E.k (by rw[O.out _ L0];exact fun h=>h rfl));have O5:=hid (D.o.EJ);have RX:=hid (show (B.setCells w.heap.size 0 [X 0,X 1,X 2,X 3,X 4,X 5,X 6,X 7,X 8,X 9,X 10]).rangeAt w.heap.size 0 (dk X).toList from World.rangeAt_setCells_same B w.heap.size 0 (dk X).toList T5);have KX:=hid (show Kp (fun k=>k=w.heap.size) B (B.setCells w.heap.size 0 [X 0,X 1,X 2,X 3,X 4,X 5,X 6,X 7,X 8,X 9,X 10]) from aI (T:=fun k=>k=w.heap.size) (.inl rfl) _ _ _ (aP _ _));have B6:=hid (D.kp KX (fun k _ e=>by rw[e];exact O _ L0) (fun _ _=>rfl));have BE:=hid (show Below w.heap.size w (B.setCells w.heap.size 0 [X 0,X 1,X 2,X 3,X 4,X 5,X 6,X 7,X 8,X 9,X 10]) from KX.below (E.k.below S S.size (fun k hk h=>h (O.out k oA))) (aB S.size E.k.size) (fun k hk e=>oA));clear e1 e2;go_wp2_with (first|((with_reducible refine gld 28 ?_);refine lU rfl _ rfl b6 rfl X D.r ?_)|((with_reducible refine gst 28 ?_);refine wpList_store_mid rfl 28 _ _ rfl w.heap.size 0 (dk X) rfl rfl T5 fO O5 ?_))
  clear KX T5 O5 D E;generalize B.setCells w.heap.size 0 [X 0,X 1,X 2,X 3,X 4,X 5,X 6,X 7,X 8,X 9,X 10]=W6 at RX B6 BE ⊢;exact aq (v:=.tuple #[.agg (dk X),.int .i64 0]) (sD rfl rfl (run_loadVar_mid _ w.heap.size 0 28 (dk X).toList _ RX Tryz.underlying28 rfl fO) rfl) rfl ⟨X,rfl,ya X b6,B6.o,fun k hk=>O.out k oA,BE.out⟩
 refine Rf.dw (rs:=[8,12,13]) oK oS (dg rfl (fun K a=>?_) (dg rfl (fun K a=>?_) (dg rfl (fun K a=>?_) Rf.di.nil)))
 ·skip
  refine wnt oR ?_;go_simp
  refine (A.out _ P.be).mono ?_;rintro q w3 ⟨X,rfl,g,d⟩;have N:=hid (P.call d g);clear g d;go_wp2_with fail
  refine a _ _ trivial (fun _=>N.be) (fun _ _=>?_);clear a K
  try simp only[jj]
  refine bC (R:=fun W=>Below w2.heap.size w2 W) oK _ N.be [9,10,11] 4 _ _ oK ?_
  repeat (refine Rf.rs ?_;simp only[jj])
  refine aG ?_;refine Rf.dw (rs:=[12,13]) oK oS (dg rfl (fun K a=>?_) (dg rfl (fun K a=>?_) Rf.di.nil))
  ·skip
   refine wnt oR ?_;have al:=hid N.FL;go_simp
   refine a _ _ trivial (fun _=>al.be) (fun _ _=>?_);clear a K
   try simp only[jj]
   generalize World.alloc _ _=ay at al ⊢;refine Rf.r1 13 rfl (fun K a=>?_)
   ·skip
    refine wnt oR ?_;have am:=hid al.FM;go_simp
    refine a _ _ trivial (fun _=>am.be) (fun _ _=>?_);clear a K
    try simp only[jj]
    generalize World.alloc _ _=aH at am ⊢;exact y _ _ _ _ am
  ·skip
   refine wnt oR ?_;have an:=hid N.FM;go_simp
   refine a _ _ trivial (fun _=>an.be) (fun _ _=>?_);clear a K
   try simp only[jj]
   generalize World.alloc _ _=aF at an ⊢;refine Rf.r1 12 rfl (fun K a=>?_)
   ·skip
    refine wnt oR ?_;have ao:=hid an.FL;go_simp
    refine a _ _ trivial (fun _=>ao.be) (fun _ _=>?_);clear a K
    try simp only[jj]
    generalize World.alloc _ _=aD at ao ⊢;exact y _ _ _ _ ao
 ·skip
  refine wnt oR ?_;have F:=hid P.FL;go_simp
  refine a _ _ trivial (fun _=>F.be) (fun _ _=>?_);clear a K
  try simp only[jj]
  generalize World.alloc _ _=aQ at F ⊢;refine Rf.dw (rs:=[8,13]) oK oS (dg rfl (fun K a=>?_) (dg rfl (fun K a=>?_) Rf.di.nil))
  ·skip
   refine wnt oR ?_;go_simp
   refine (A.out _ F.be).mono ?_;rintro q w4 ⟨X,rfl,g,d⟩;have ac:=hid (F.call d g);clear g d;go_wp2_with fail
   refine a _ _ trivial (fun _=>ac.be) (fun _ _=>?_);clear a K
   try simp only[jj]
   refine bC (R:=fun W=>Below w2.heap.size w2 W) oK _ ac.be [9,10,11] 3 _ _ oK ?_
   repeat (refine Rf.rs ?_;simp only[jj])
   refine aG ?_;refine Rf.r1 13 rfl (fun K a=>?_)
   ·skip
    refine wnt oR ?_;have ad:=hid ac.FM;go_simp
    refine a _ _ trivial (fun _=>ad.be) (fun _ _=>?_);clear a K
    try simp only[jj]
    generalize World.alloc _ _=aH at ad ⊢;exact y _ _ _ _ ad
  ·skip
   refine wnt oR ?_;have L:=hid F.FM;go_simp
   refine a _ _ trivial (fun _=>L.be) (fun _ _=>?_);clear a K
   try simp only[jj]
   generalize World.alloc _ _=aF at L ⊢;refine Rf.r1 8 rfl (fun K a=>?_)
   ·skip
    refine wnt oR ?_;go_simp
    refine (A.out _ L.be).mono ?_;rintro q w5 ⟨X,rfl,g,d⟩;have ab:=hid (L.call d g);clear g d;go_wp2_with fail
    refine a _ _ trivial (fun _=>ab.be) (fun _ _=>?_);clear a K
    try simp only[jj]
    refine bC (R:=fun W=>Below w2.heap.size w2 W) oK _ ab.be [9,10,11] 2 _ _ oK ?_
    repeat (refine Rf.rs ?_;simp only[jj])
    refine aG ?_;exact y _ _ _ _ ab
 ·skip
  refine wnt oR ?_;have G:=hid P.FM;go_simp
  refine a _ _ trivial (fun _=>G.be) (fun _ _=>?_);clear a K
  try simp only[jj]
  generalize World.alloc _ _=aR at G ⊢;refine Rf.dw (rs:=[8,12]) oK oS (dg rfl (fun K a=>?_) (dg rfl (fun K a=>?_) Rf.di.nil))
  ·skip
   refine wnt oR ?_;go_simp
   refine (A.out _ G.be).mono ?_;rintro q w4 ⟨X,rfl,g,d⟩;have ag:=hid (G.call d g);clear g d;go_wp2_with fail
   refine a _ _ trivial (fun _=>ag.be) (fun _ _=>?_);clear a K
   try simp only[jj]
   refine bC (R:=fun W=>Below w2.heap.size w2 W) oK _ ag.be [9,10,11] 3 _ _ oK ?_
   repeat (refine Rf.rs ?_;simp only[jj])
   refine aG ?_;refine Rf.r1 12 rfl (fun K a=>?_)
   ·skip
    refine wnt oR ?_;have aj:=hid ag.FL;go_simp
    refine a _ _ trivial (fun _=>aj.be) (fun _ _=>?_);clear a K
    try simp only[jj]
    generalize World.alloc _ _=aD at aj ⊢;exact y _ _ _ _ aj
  ·skip
   refine wnt oR ?_;have M:=hid G.FL;go_simp
   refine a _ _ trivial (fun _=>M.be) (fun _ _=>?_);clear a K
   try simp only[jj]
   generalize World.alloc _ _=ay at M ⊢;refine Rf.r1 8 rfl (fun K a=>?_)
   ·skip
    refine wnt oR ?_;go_simp
    refine (A.out _ M.be).mono ?_;rintro q w5 ⟨X,rfl,g,d⟩;have af:=hid (M.call d g);clear g d;go_wp2_with fail
    refine a _ _ trivial (fun _=>af.be) (fun _ _=>?_);clear a K
    try simp only[jj]
    refine bC (R:=fun W=>Below w2.heap.size w2 W) oK _ af.be [9,10,11] 2 _ _ oK ?_
    repeat (refine Rf.rs ?_;simp only[jj])
    refine aG ?_;exact y _ _ _ _ af
end Wd
namespace Wd
open Go.RowKit Mem Bw Nums Mmu
def fmE (p:PW) (f k:Int):Int:=if f<0∨(p.kinds.length:Int)<=f then 2 else if p.kinds.getD f.toNat 0=k then 0 else 3
theorem gT (vb:Nat) (V:Nat->Value) (p:PW) (f k:Int) (w:World) (e:gS w vb V p):
  Calls Tryz.prog 169 #[.pointer (some ⟨vb,0,none⟩),.int .i64 f,.int .i64 k] w fun r w'=>r=.returned (.int .i64 (fmE p f k))∧w=w':=by
 have c1:=r11 1 e.r;obtain⟨q1,b1,s,k1,e1,j,l⟩:=e.v.kinds;have hl:(p.kinds.length:Int)<=1000:=by have:=e.f.kinds;omega
 rw[e1] at c1;have a:=hid (show fmE p f k=if f<0∨(p.kinds.length:Int)<=f then 2 else if p.kinds.getD f.toNat 0=k then 0 else 3 from rfl);by_cases b:f<0
 ·have g:=aD b;rw[af (.inl b)] at a;go_enter Tryz.func169,Tryz.ntmps169
  go_wp2_with fail
  go_ret
  exact⟨by rw[a.out];rfl,rfl⟩
 have g:=ax b;by_cases c:(p.kinds.length:Int)<=f
 ·have h:=aD c;rw[af (.inr c)] at a;go_enter Tryz.func169,Tryz.ntmps169
  go_wp2_with fail
  go_ret
  exact⟨by rw[a.out];rfl,rfl⟩
 have h:=ax c;obtain⟨n,rfl⟩:∃n:Nat,f=n:=⟨f.toNat,oA⟩
 have i:n<p.kinds.length:=oA;have q:(n:Int)<(p.kinds.length:Int):=oA;rw[ae oA,ag,aa,ac i] at a;obtain rfl:=j oA;have m:=l n i;replace a:=hid (show fmE p n k=if p.kinds[n]=k then 0 else 3 from a);generalize p.kinds[n]=z at m a;clear b c j l g h;by_cases d:z=k
 ·rw[af d] at a;have o:(z==k)=true:=by simpa using d
  go_enter Tryz.func169,Tryz.ntmps169
  go_wp2_with fail
  go_ret
  exact⟨by rw[a.out];rfl,rfl⟩
 ·rw[ae d] at a;have o:(z==k)=false:=by simpa using d
  go_enter Tryz.func169,Tryz.ntmps169
  go_wp2_with fail
  go_ret
  exact⟨by rw[a.out];rfl,rfl⟩
