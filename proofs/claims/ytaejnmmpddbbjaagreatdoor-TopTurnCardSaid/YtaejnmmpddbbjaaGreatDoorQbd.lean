/- Qbd -/
import Derived.BigGuard
import Derived.BigQuiet
import Derived.Test.YtaejnmmpddbbjaaGreatDoorQbc
set_option maxRecDepth 100000
set_option maxHeartbeats 16000000
namespace Go.Proofs.YtaejnmmpddbbjaaGreatDoor
namespace Wd
open Go.RowKit Mem Bw Nums Mmu
theorem InT.re {w w':World} {tag:Nat->Nat} {t I s wb:Nat} {u:Value} {c:Nat×List Value} (h:InT w tag t I s u c) (d:t≠0) (b:tag wb=0) (hk:Kp (fun k=>k=wb) w w'):InT w' (fun k=>if k=wb then 1 else tag k) t I s u c:=by
 have a:∀k,u.ownBlock=some k->k≠wb:=fun k e f=>d (by rw[<-h.2 k e,f,b]);exact⟨iM h.1 hk a,fun k e=>(ae (a k e)).trans (h.2 k e)⟩
theorem fE.re {w w':World} {tag:Nat->Nat} {t i O I s n wb:Nat} {v:Value} {cc:Nat->Nat×List Value} (h:fE w tag t i O I s n v cc) (q:t≠0) (hi:i≠0) (a:tag wb=0) (hk:Kp (fun k=>k=wb) w w'):fE w' (fun k=>if k=wb then 1 else tag k) t i O I s n v cc:=by
 obtain⟨g,us,d,b,l,m,o⟩:=h;have c:g≠wb:=fun f=>q (by rw[<-b,f,a]);refine⟨g,us,d,(ae c).trans b,l,iM m hk (fun k e=>?_),fun j p=>(o j p).re oA a hk⟩;have:g=k:=by simpa [Value.ownBlock] using e
 rw[<-this];exact c
theorem kT.re {w w':World} {tag:Nat->Nat} {n wb:Nat} {v:Value} {ls:List (List Ent)} (h:kT w tag n v ls) (d:tag wb=0) (hk:Kp (fun k=>k=wb) w w'):kT w' (fun k=>if k=wb then 1 else tag k) n v ls:=by
 obtain⟨g,us,s,l,t,u,y⟩:=h;have q:g≠wb:=fun f=>by rw[<-f,l] at d;cases d
 refine⟨g,us,s,(ae q).trans l,t,iM u hk (fun k e=>?_),fun j A=>?_⟩
 ·have:g=k:=by simpa [Value.ownBlock] using e
  rw[<-this];exact q
 ·rcases y j A with x|⟨b,off,cap,B,a,C,r,D,E⟩
  ·exact .inl (x.re oA d hk)
  ·have m:b≠wb:=fun f=>by rw[<-f] at d;omega
   have z:=aj _ _ (a 0 r).1;have c:∀{o:Nat} {v:Value},w.cell? ⟨b,o,none⟩=some v->w'.cell? ⟨b,o,none⟩=some v:=fun {o v} e=>(hk.cell (p:=⟨b,o,none⟩) z m).trans e;exact .inr ⟨b,off,cap,B,fun i hi=>⟨c (a i hi).1,c (a i hi).2.1,c (a i hi).2.2.1,c (a i hi).2.2.2⟩,(ae m).trans C,r,D,E⟩
theorem gh.box {W:World} {tag:Nat->Nat} {X:Nat->Value} {p:PW} {wb:Nat} (h:gh W tag X p) (a:tag wb=0) (b:W.there wb 0 11):di (W.setCells wb 0 (cb X).toList) wb (fun k=>if k=wb then 1 else tag k) X p:=by
 have hk:Kp (fun k=>k=wb) W (W.setCells wb 0 (cb X).toList):=aK (T:=fun k=>k=wb) (.inl rfl) _ _ _ (aV _ _);exact⟨World.rangeAt_setCells_same W wb 0 (cb X).toList b,World.there_setCells b _ _ _,ah rfl,⟨h.IE.re oD a hk,h.kinds.re oD a hk,h.IB.re oD a hk,h.IA.re oD a hk,h.lines.re oD oD a hk,h.bits.re oD a hk,h.IC.re oD a hk,h.ready.re oD oD a hk,h.ID.re a hk,h.IF.re oD a hk,h.time⟩⟩
theorem InT.one {w:World} {tag:Nat->Nat} {t I s:Nat} {u:Value} {c:Nat×List Value} (h:InT w tag t I s u c):u.oneCell'=true:=by obtain⟨q,k,e⟩:=fP h.1;rw[e];rfl
theorem fE.one {w:World} {tag:Nat->Nat} {t i O I s n:Nat} {v:Value} {a:Nat->Nat×List Value} (h:fE w tag t i O I s n v a):v.oneCell'=true:=by obtain⟨g,us,rfl,_⟩:=h;rfl
theorem kT.one {w:World} {tag:Nat->Nat} {n:Nat} {v:Value} {ls:List (List Ent)} (h:kT w tag n v ls):v.oneCell'=true:=by obtain⟨g,us,rfl,_⟩:=h;rfl
theorem gh.I6 {w:World} {tag:Nat->Nat} {X:Nat->Value} {p:PW} (h:gh w tag X p):(cb X).all (·.oneCell')=true:=by
 simp only[List.all_toArray,List.all_cons,List.all_nil,Bool.and_true,h.IE.one,h.kinds.one,h.IB.one,h.IA.one,h.lines.one,h.bits.one,h.IC.one,h.ready.one,h.ID.one,h.IF.one,dF];rw[h.time];rfl
end Wd
namespace Wd
open Go.RowKit Mem Bw Nums Mmu Hex
structure Pw (w0 W:World) (p:PW) (b6 b7:Option Nat) (X:Option (Nat->Value)):Prop where
 be:Below w0.heap.size w0 W
 c6:∀b,b6=some b->W.heap[b]? =some (.cells zW 28)∧w0.heap.size<=b
 c7:∀b,b7=some b->W.heap[b]? =some (.cells #[.int .i64 0,.int .i64 0] 71)∧w0.heap.size<=b
 x:∀V,X=some V->NwX W w0.heap.size p V
theorem AI {W a:World} (h:Below W.heap.size W a) {b:Nat} {o:Obj} (e:W.heap[b]? =some o):a.heap[b]? =some o:=(h.block b (Array.getElem?_eq_some_iff.1 e).1).trans e
theorem Pw.next {w0 W c:World} {p:PW} {b6 b7:Option Nat} {X:Option (Nat->Value)} (h:Pw w0 W p b6 b7 X) (a:Below W.heap.size W c):Pw w0 c p b6 b7 X:=
 ⟨btr h.be a,fun b e=>⟨AI a (h.c6 b e).1,(h.c6 b e).2⟩,fun b e=>⟨AI a (h.c7 b e).1,(h.c7 b e).2⟩,fun V e=>(h.x V e).below a⟩
theorem cup {b W:World} (h:Below b.heap.size b W) {a:Addr} {v:Value} (e:b.cell? a=some v):W.cell? a=some v:=(h.cell (aj _ _ e)).trans e
theorem vC (W:World) (o:Obj):(W.alloc o).heap[W.heap.size]? =some o:=by unfold World.alloc;simp
theorem Pw.JV {w0 W:World} {p:PW} {b7:Option Nat} {X:Option (Nat->Value)} (h:Pw w0 W p none b7 X):Pw w0 (W.alloc (.cells zW 28)) p (some W.heap.size) b7 X:=
 have n:=h.next (bal (ag _ _) _)
 ⟨n.be,fun b e=>by cases e;exact⟨vC _ _,h.be.size⟩,n.c7,n.x⟩
theorem Pw.JW {w0 W:World} {p:PW} {b6:Option Nat} {X:Option (Nat->Value)} (h:Pw w0 W p b6 none X):Pw w0 (W.alloc (.cells #[.int .i64 0,.int .i64 0] 71)) p b6 (some W.heap.size) X:=
 have n:=h.next (bal (ag _ _) _)
 ⟨n.be,n.c6,fun b e=>by cases e;exact⟨vC _ _,h.be.size⟩,n.x⟩
theorem NwX.low {w:World} {L M:Nat} {p:PW} {X:Nat->Value} (h:NwX w M p X) (hl:L<=M):NwX w L p X:=⟨fun i hi=>pB (h.own i hi) hl,h.dj,h.f4,h.f7,h.f8,h.t⟩
theorem Pw.call {w0 W a:World} {p:PW} {b6 b7:Option Nat} (h:Pw w0 W p b6 b7 none) {V:Nat->Value} (b:Below W.heap.size W a) (c:NwX a W.heap.size p V):Pw w0 a p b6 b7 (some V):=
 have n:=h.next b
 ⟨n.be,n.c6,n.c7,fun d e=>by cases e;exact c.low h.be.size⟩
theorem kP {W:World} {b:Nat} {a:Array Value} {T:TypeId} (h:W.heap[b]? =some (.cells a T)) (k:Nat) (hk:k<=a.size):W.there b 0 k:=fun j c=>by
 have e:W.cell? ⟨b,0+j,none⟩=a[0+j]? :=by simp[World.cell?,h]
 refine⟨?_,by simp[World.frozen?,h]⟩;rw[e,Array.getElem?_eq_getElem oA];rfl
theorem Fx {w:World} {L x:Nat} {p:PW} {X:Nat->Value} (h:NwX w L p X) {b:Array Value} (d:w.heap[x]? =some (.cells b 71)):∀i,i<10->(X i).ownBlock≠some x:=fun i hi e=>by
 rcases (h.own i hi).2 with ⟨e1,_⟩|⟨g,cap,f,e1,_,a,_⟩
 ·rw[e1] at e;cases e
 ·rw[e1] at e;obtain rfl:g=x:=by simpa [Value.ownBlock] using e
  rw[d] at a;have:wE i=71:=by simp at a;exact a.2.symm
  have c:∀i,i<10->wE i≠71:=oD;exact c i hi this
theorem yq {X:Nat->Value} {k:Nat}:∀n,(∀i,i<n->(X i).ownBlock≠some k)->rh X k n=0
 |0,_=>rfl
 |n+1,h=>by
  unfold rh;rw[ae (h n oA)];exact yq n (fun i hi=>h i oA)
theorem Pw.box {w0 W:World} {p:PW} {b6 b7:Nat} {X:Nat->Value} (h:Pw w0 W p (some b6) (some b7) (some X)) (g:∀l∈p.lines,l=[]) (j:∀l∈p.ready,l=[]) (m:∀l∈p.ID,l=[]):
  di ((W.setCells b6 0 (cb X).toList).setCells b7 0 [.int .i64 0,.int .i64 (-1)]) b6 (Bn X b6) X p∧Below w0.heap.size w0 ((W.setCells b6 0 (cb X).toList).setCells b7 0 [.int .i64 0,.int .i64 (-1)])∧((W.setCells b6 0 (cb X).toList).setCells b7 0 [.int .i64 0,.int .i64 (-1)]).cell? ⟨b7,0,none⟩=some (.int .i64 0)∧w0.heap.size<=b6∧∀k,k<w0.heap.size->rh X k 10=0:=by
 obtain⟨c6,d⟩:=h.c6 b6 rfl;obtain⟨c7,s⟩:=h.c7 b7 rfl;have a:=h.x X rfl;have c:=kP c6 11 oD;have r:=kP c7 2 oD;have q:b6≠b7:=fun e=>by rw[e,c7] at c6;simp at c6
 have k1:Kp (fun k=>k=b6∨k=b7) W (W.setCells b6 0 (cb X).toList):=aK (.inl (.inl rfl)) _ _ _ (aV _ _);have k2:Kp (fun k=>k=b6∨k=b7) W ((W.setCells b6 0 (cb X).toList).setCells b7 0 [.int .i64 0,.int .i64 (-1)]):=aK (.inl (.inr rfl)) _ _ _ k1;have f:Kp (fun k=>k=b7) (W.setCells b6 0 (cb X).toList) ((W.setCells b6 0 (cb X).toList).setCells b7 0 [.int .i64 0,.int .i64 (-1)]):=aK (T:=fun k=>k=b7) (.inl rfl) _ _ _ (aV _ _);have b:=Fz a c6;have o:=Fx a c7;have n:=(Array.getElem?_eq_some_iff.1 c6).1;refine⟨Wb.box (B:=w0.heap.size) ⟨⟨aF n k2.size,fun i hi=>iM (a.own i hi) k2 (fun k e hk=>by rcases hk with hk|hk;exact b i hi (hk▸e);exact o i hi (hk▸e)),a.dj,b⟩,eY (World.rangeAt_setCells_same W b6 0 (cb X).toList c) f q,World.there_setCells (World.there_setCells c _ _ _) _ _ _⟩ a.f4 a.f7 a.f8 a.t g j m,k2.below h.be h.be.size (fun k hk e=>oA),?_,d,fun k hk=>yq 10 (fun i hi e=>?_)⟩
 ·exact World.rangeAt_setCells_same _ b7 0 [.int .i64 0,.int .i64 (-1)] (World.there_setCells r _ _ _) 0 _ rfl
 ·have:=((a.own i hi).lt k e).1;omega
theorem uB {op:Oper} {a:Act} {w:World} {K:Act->World->Prop} {Q:Exit->Act->World->Prop} {x y:Tmp} (c:op.op=.store 71 (.tmp x) (.tmp y)) (b:Nat) (e:a.eval (.tmp x)=.pointer (some ⟨b,0,none⟩)) (f:a.eval (.tmp y)=.agg #[.int .i64 0,.int .i64 (-1)]) (d:w.there b 0 2)
  (h:K (a.put op.dst undef) (w.setCells b 0 [.int .i64 0,.int .i64 (-1)])):op.wp Tryz.prog a w K Q:=
 wp_store_mid 71 _ _ c b 0 #[.int .i64 0,.int .i64 (-1)] e f d jG yQ h
theorem AE {P:Program} {md:Region.Mode} {ops:Array Oper} {Q:Exit->Act->World->Prop} {S R:World->Prop} {fs:List Nat} {fuel:Nat} {c:Array Bool} {a:Act} {w:World} (F:(Nat->Value)->Nat->Nat->World->Prop) (l2:Array Bool) (b:(Nat->Value)->Nat->Nat->Act)
  (d:∀m X b6 b7 W,F X b6 b7 W->Rf.d7 P md ops Q S R fs (m+2) l2 (b X b6 b7) W) (h:Hid (∀X b6 b7 W,F X b6 b7 W->Rf.d7 P md ops Q S R fs 2 l2 (b X b6 b7) W)->Rf.d7 P md ops Q S R fs fuel c a w):Rf.d7 P md ops Q S R fs fuel c a w:=h (d 0)
theorem pQ (b off cap f c:Nat) (zs:List Int) (l:List ByteArray) (w:World) (hS:gg w b off l) (av:∀t∈l,gz t=true) (hl:l.length<=100) (hm:l.map Prs.ig=(f:Int)::(c:Int)::zs) (f0:1<=f) (f1:f<=24) (c0:1<=c) (c1:c<=4) (z0:1<=zs.length) (z1:zs.length<=8) (hz:∀z∈zs,0<=z∧z<=3):
  Calls Tryz.prog 71 #[.slice (some ⟨b,off,none⟩) l.length cap] w fun r w'=>∃X tag,r=.returned (.tuple #[.agg (cb X),.int .i64 0])∧gh w' tag X (wlP f c zs)∧(∀k,k<w.heap.size->tag k=0)∧Below w.heap.size w w':=by
 have B0:=hid (bal (ag w.heap.size w) (.cells zW 28));have T0:=hid (aR w zW 28 w.heap.size 11 rfl oD);have HN:=hid (i4 b off cap l _ (gg.Jh hS B0) av hl);rw[hm] at HN;have ax:=hid (show l.length=zs.length+2 by have:=dJ List.length hm;simpa using this);have ZL:(zs.length:Int)<=8:=oA;have aQ:(1:Int)<=zs.length:=oA;have HZ:=hid hz;clear hm hS av hl;go_enter Tryz.func71,Tryz.ntmps71
 go_wp2_with fail
 refine HN.mono ?_;rintro r w1 ⟨u,rfl,hu,ap⟩;rw[ax.out] at hu;obtain⟨b2,n,rfl,aI,aL,hi⟩:=j5 hu oS oA;have I:=hid hi;have g3:¬n=2:=oA;have B1:=hid (btr B0 ap);have aq:=hid ap;clear ap;clear hu aI hi aL;have g0:(0:Int)<(zs.length:Int)+2:=oA;have g1:(1:Int)<(zs.length:Int)+2:=oA;have Q:(2:Int)<=(zs.length:Int)+2:=oA;have n0:=I.out 0 oS;have n1:=I.out 1 oS;rw[bO] at n0;rw[aC] at n1;simp only[aS,aX] at n0 n1;have KC:=hid (fun W (h:Below w1.heap.size w1 W)=>(⟨cup h n0,cup h n1⟩:_∧_));have A:=hid (fun W (h:Below w1.drew.heap.size w1.drew W)=>qK f c (.slice (some ⟨b2,2,none⟩) zs.length (n - 2)) zs W ⟨_,b2,2,_,rfl,fun _=>rfl,fun j hj=>by
  have:=(I.below (btr (aD w1 1) h)) (j+2) (by simp;omega);simp only[aX] at this;rw[show 2+j=0+(j+2) by omega];exact this⟩ f0 f1 c0 c1 z0 z1 HZ)
 have P:=hid (show Pw w1.drew w1.drew (om f c zs) none none none from⟨ag _ _,fun _ h=>(by cases h),fun _ h=>(by cases h),fun _ h=>(by cases h)⟩);clear n0 n1;have U:=hid (show Below w1.heap.size w1 w1.drew from aD w1 1);go_upto_region 6 with fail
 refine bG (R:=fun W=>Below w1.drew.heap.size w1.drew W) [14] [0,1,2,3,4,5,6,7] 8 oK (ag _ _) oK oK oK (fun _=>?_)
 repeat (refine Rf.rs ?_ rfl oR (fun W h=>by obtain⟨h1,h2⟩:=KC.out _ (btr (aD w1 1) h);clear h;go_simp;try rfl);simp only[jj])
 refine aJ ?_;clear KC I;generalize w1.drew=w2 at*;refine AE (fun X b6 b7 W=>Pw w2 W (om f c zs) (some b6) (some b7) (some X)) #[true,true,true,true,true,true,true,true,true,true,true,true,true,true,false,false] (fun X b6 b7=>⟨#[.slice (some ⟨b,off,none⟩) l.length cap,undef,.pointer (some ⟨w.heap.size,0,none⟩),.int .i64 0,.slice (some ⟨b2,0,none⟩) (zs.length+2) n,.int .i64 0,.pointer (some ⟨b6,0,none⟩),.pointer (some ⟨b7,0,none⟩),.tuple #[.slice (some ⟨b2,0,none⟩) (zs.length+2) n,.int .i64 0],.slice (some ⟨b,off,none⟩) l.length cap,.tuple #[.slice (some ⟨b2,0,none⟩) (zs.length+2) n,.int .i64 0],.slice (some ⟨b2,0,none⟩) (zs.length+2) n,.int .i64 0,.int .i64 0,.bool false,undef,undef,.slice (some ⟨b2,0,none⟩) (zs.length+2) n,.int .i64 ((zs.length:Int)+2),.bool (decide ((zs.length:Int)+2<3)),undef,.tuple #[.agg (cb X),.agg #[.int .i64 0,.int .i64 (-1)]],.slice (some ⟨b2,0,none⟩) (zs.length+2) n,.pointer (some ⟨b2,0,none⟩),.int .i64 f,.slice (some ⟨b2,0,none⟩) (zs.length+2) n,.pointer (some ⟨b2,1,none⟩),.int .i64 c,.slice (some ⟨b2,0,none⟩) (zs.length+2) n,.slice (some ⟨b2,2,none⟩) zs.length (n - 2),.tuple #[.agg (cb X),.agg #[.int .i64 0,.int .i64 (-1)]],.agg (cb X),.agg #[.int .i64 0,.int .i64 (-1)],undef,undef,undef,undef,undef,undef,undef,undef,undef,undef,undef,undef,undef,undef,undef],[]⟩) ?_ (fun y=>?_)
 ·intro m X b6 b7 W H;dsimp only;have p:=hid (H.box (fun l h=>(List.mem_replicate.1 h).2) (fun l h=>(List.mem_replicate.1 h).2) (fun l h=>(List.mem_replicate.1 h).2));have T6:=hid (kP (H.c6 b6 rfl).1 11 oD);have T7:=hid (show (W.setCells b6 0 [X 0,X 1,X 2,X 3,X 4,X 5,X 6,X 7,X 8,X 9,X 10]).there b7 0 2 from World.there_setCells (kP (H.c7 b7 rfl).1 2 oD) _ _ _);have O1:=hid (Array.all_eq_true'.2 (xB (H.x X rfl)));clear H;refine Rf.r1 14 rfl (fun K a=>?_);refine wnt oR ?_;simp only[dg,aX,aS];refine wp_store_mid 28 _ _ rfl b6 0 (cb X) rfl rfl T6 fq O1 ?_;refine a _ _ trivial (cg oK) (fun _ _=>?_);clear a K
  try simp only[jj]
  change Hid (di ((W.setCells b6 0 [X 0,X 1,X 2,X 3,X 4,X 5,X 6,X 7,X 8,X 9,X 10]).setCells b7 0 [.int .i64 0,.int .i64 (-1)]) b6 (Bn X b6) X (om f c zs)∧Below w2.heap.size w2 ((W.setCells b6 0 [X 0,X 1,X 2,X 3,X 4,X 5,X 6,X 7,X 8,X 9,X 10]).setCells b7 0 [.int .i64 0,.int .i64 (-1)])∧((W.setCells b6 0 [X 0,X 1,X 2,X 3,X 4,X 5,X 6,X 7,X 8,X 9,X 10]).setCells b7 0 [.int .i64 0,.int .i64 (-1)]).cell? ⟨b7,0,none⟩=some (.int .i64 0)∧w2.heap.size<=b6∧∀k,k<w2.heap.size->rh X k 10=0) at p;clear T6 O1;generalize W.setCells b6 0 [X 0,X 1,X 2,X 3,X 4,X 5,X 6,X 7,X 8,X 9,X 10]=W2 at T7 p ⊢;refine Rf.r1 15 rfl (fun K a=>?_);refine wnt oR ?_;simp only[dg,aX,aS];refine uB rfl b7 rfl rfl T7 ?_;refine a _ _ trivial (cg oK) (fun _ _=>?_);clear a K
  try simp only[jj]
  refine bk oK ?_ _;clear T7 A P;generalize W2.setCells b7 0 [.int .i64 0,.int .i64 (-1)]=W3 at p ⊢;have s:=hid p.1;have S:=hid (btr B1 (btr U p.2.1));have BA:=hid (btr aq (btr U p.2.1));have c7:=p.2.2.1;have O:=hid (show ∀k,k<w1.heap.size->Bn X b6 k=0 from fun k hk=>by
   have h1:=p.2.2.2.1;unfold Bn;have h2:=U.size;rw[ae oA];exact p.2.2.2.2 k oA)
  obtain⟨g1,k1,e1⟩:=s.o.kinds.form (show 0<(om f c zs).kinds.length by rw[show (om f c zs).kinds.length=f from bz];omega);obtain⟨Q,k2,e2⟩:=s.o.IB.form (show 0<(om f c zs).IB.length by rw[show (om f c zs).IB.length=f*16 from bz];omega);have r1:W3.cell? ⟨b6,1,none⟩=some (X 1):=ai s.r rfl;rw[e1] at r1;have J:=s.o.kinds;rw[e1] at J;obtain⟨u1,aw⟩:=Option.isSome_iff_exists.1 (J.there 0 1 (by rw[show (om f c zs).kinds.length=f from bz];omega) 0 oA).1;rw[bO] at aw;have aH:=J.frozen 0;have aM:(0:Int)<((om f c zs).kinds.length:Int):=by rw[show (om f c zs).kinds.length=f from bz];omega
  have Z:=hid (s.IL e1 0 5);clear p J;go_upto_region 10 with fail
  clear r1 aw aH aM c7;have C:=hid Z.1;have aa:=hid Z.2;clear Z s;generalize W3.setCell ⟨g1,0,none⟩ (.int .i64 5)=W4 at C aa ⊢;have r2:W4.cell? ⟨b6,2,none⟩=some (X 2):=ai C.r rfl;rw[e2] at r2;have Y:=C.o.IB;rw[e2] at Y;have V:=hid (show (om f c zs).IB.length=f*16 from bz);have au:=hid (show W4.there Q (0*7) 7 from Y.there (0*7) 7 (by show 0*7+7<=(om f c zs).IB.length*7;rw[V.out];omega));have aN:(0:Int)<((om f c zs).IB.length:Int):=by rw[V.out];omega
  have K2:=hid (C.IV e2 (i:=0) (by show 0<(om f c zs).IB.length;rw[V.out];omega) ndk);clear Y;go_upto_region 11 with (first|((with_reducible refine gst 80 ?_);refine rE rfl _ _ rfl Q (0*7) rfl (cf 7 ndk) rfl (az _ _) (cC _ _) au ?_))
  have D:=hid K2.1;have E:=hid (aa.trans K2.2);clear r2 aN au K2 C aa;generalize W4.setCells Q (0*7) (cf 7 ndk)=B at D E ⊢;have L0:w.heap.size<w1.heap.size:=aF oS aq.size;have T5:=hid (eo (eo T0 (T:=fun _=>False) (.IG BA) id) E.k (by rw[O.out _ L0];exact fun h=>h rfl));have O5:=hid (D.o.I6);have RX:=hid (show (B.setCells w.heap.size 0 [X 0,X 1,X 2,X 3,X 4,X 5,X 6,X 7,X 8,X 9,X 10]).rangeAt w.heap.size 0 (cb X).toList from World.rangeAt_setCells_same B w.heap.size 0 (cb X).toList T5);have KX:=hid (show Kp (fun k=>k=w.heap.size) B (B.setCells w.heap.size 0 [X 0,X 1,X 2,X 3,X 4,X 5,X 6,X 7,X 8,X 9,X 10]) from aK (T:=fun k=>k=w.heap.size) (.inl rfl) _ _ _ (aV _ _));have B6:=hid (D.kp KX (fun k _ e=>by rw[e];exact O _ L0) (fun _ _=>rfl));have BE:=hid (show Below w.heap.size w (B.setCells w.heap.size 0 [X 0,X 1,X 2,X 3,X 4,X 5,X 6,X 7,X 8,X 9,X 10]) from KX.below (E.k.below S S.size (fun k hk h=>h (O.out k oA))) (aB S.size E.k.size) (fun k hk e=>oA));clear e1 e2;go_wp2_with (first|((with_reducible refine gld 28 ?_);refine jV rfl _ rfl b6 rfl X D.r ?_)|((with_reducible refine gst 28 ?_);refine wpList_store_mid rfl 28 _ _ rfl w.heap.size 0 (cb X) rfl rfl T5 fq O5 ?_))
  clear KX T5 O5 D E;generalize B.setCells w.heap.size 0 [X 0,X 1,X 2,X 3,X 4,X 5,X 6,X 7,X 8,X 9,X 10]=W6 at RX B6 BE ⊢;exact ar (v:=.tuple #[.agg (cb X),.int .i64 0]) (iO rfl rfl (run_loadVar_mid _ w.heap.size 0 28 (cb X).toList _ RX Tryz.underlying28 rfl fq) rfl) rfl ⟨X,rfl,Bn X b6,B6.o,fun k hk=>O.out k oA,BE.out⟩
 refine Rf.dx (rs:=[8,12,13]) oK oS (dW rfl (fun K a=>?_) (dW rfl (fun K a=>?_) (dW rfl (fun K a=>?_) Rf.dk.nil)))
 ·skip
  refine wnt oR ?_;go_simp
  refine (A.out _ P.be).mono ?_;rintro q w3 ⟨X,rfl,g,d⟩;have N:=hid (P.call d g);clear g d;go_wp2_with fail
  refine a _ _ trivial (fun _=>N.be) (fun _ _=>?_);clear a K
  try simp only[jj]
  refine bQ (R:=fun W=>Below w2.heap.size w2 W) oK _ N.be [9,10,11] 4 _ _ oK ?_
  repeat (refine Rf.rs ?_;simp only[jj])
  refine aJ ?_;refine Rf.dx (rs:=[12,13]) oK oS (dW rfl (fun K a=>?_) (dW rfl (fun K a=>?_) Rf.dk.nil))
  ·skip
   refine wnt oR ?_;have al:=hid N.JV;go_simp
   refine a _ _ trivial (fun _=>al.be) (fun _ _=>?_);clear a K
   try simp only[jj]
   generalize World.alloc _ _=ay at al ⊢;refine Rf.r1 13 rfl (fun K a=>?_)
   ·skip
    refine wnt oR ?_;have am:=hid al.JW;go_simp
    refine a _ _ trivial (fun _=>am.be) (fun _ _=>?_);clear a K
    try simp only[jj]
    generalize World.alloc _ _=aG at am ⊢;exact y _ _ _ _ am
  ·skip
   refine wnt oR ?_;have an:=hid N.JW;go_simp
   refine a _ _ trivial (fun _=>an.be) (fun _ _=>?_);clear a K
   try simp only[jj]
   generalize World.alloc _ _=aE at an ⊢;refine Rf.r1 12 rfl (fun K a=>?_)
   ·skip
    refine wnt oR ?_;have ao:=hid an.JV;go_simp
    refine a _ _ trivial (fun _=>ao.be) (fun _ _=>?_);clear a K
    try simp only[jj]
    generalize World.alloc _ _=aA at ao ⊢;exact y _ _ _ _ ao
 ·skip
  refine wnt oR ?_;have F:=hid P.JV;go_simp
  refine a _ _ trivial (fun _=>F.be) (fun _ _=>?_);clear a K
  try simp only[jj]
  generalize World.alloc _ _=aO at F ⊢;refine Rf.dx (rs:=[8,13]) oK oS (dW rfl (fun K a=>?_) (dW rfl (fun K a=>?_) Rf.dk.nil))
  ·skip
   refine wnt oR ?_;go_simp
   refine (A.out _ F.be).mono ?_;rintro q w4 ⟨X,rfl,g,d⟩;have ac:=hid (F.call d g);clear g d;go_wp2_with fail
   refine a _ _ trivial (fun _=>ac.be) (fun _ _=>?_);clear a K
   try simp only[jj]
   refine bQ (R:=fun W=>Below w2.heap.size w2 W) oK _ ac.be [9,10,11] 3 _ _ oK ?_
   repeat (refine Rf.rs ?_;simp only[jj])
   refine aJ ?_;refine Rf.r1 13 rfl (fun K a=>?_)
   ·skip
    refine wnt oR ?_;have ad:=hid ac.JW;go_simp
    refine a _ _ trivial (fun _=>ad.be) (fun _ _=>?_);clear a K
    try simp only[jj]
    generalize World.alloc _ _=aG at ad ⊢;exact y _ _ _ _ ad
  ·skip
   refine wnt oR ?_;have L:=hid F.JW;go_simp
   refine a _ _ trivial (fun _=>L.be) (fun _ _=>?_);clear a K
   try simp only[jj]
   generalize World.alloc _ _=aE at L ⊢;refine Rf.r1 8 rfl (fun K a=>?_)
   ·skip
    refine wnt oR ?_;go_simp
    refine (A.out _ L.be).mono ?_;rintro q w5 ⟨X,rfl,g,d⟩;have ab:=hid (L.call d g);clear g d;go_wp2_with fail
    refine a _ _ trivial (fun _=>ab.be) (fun _ _=>?_);clear a K
    try simp only[jj]
    refine bQ (R:=fun W=>Below w2.heap.size w2 W) oK _ ab.be [9,10,11] 2 _ _ oK ?_
    repeat (refine Rf.rs ?_;simp only[jj])
    refine aJ ?_;exact y _ _ _ _ ab
 ·skip
  refine wnt oR ?_;have G:=hid P.JW;go_simp
  refine a _ _ trivial (fun _=>G.be) (fun _ _=>?_);clear a K
  try simp only[jj]
  generalize World.alloc _ _=aP at G ⊢;refine Rf.dx (rs:=[8,12]) oK oS (dW rfl (fun K a=>?_) (dW rfl (fun K a=>?_) Rf.dk.nil))
  ·skip
   refine wnt oR ?_;go_simp
   refine (A.out _ G.be).mono ?_;rintro q w4 ⟨X,rfl,g,d⟩;have ah:=hid (G.call d g);clear g d;go_wp2_with fail
   refine a _ _ trivial (fun _=>ah.be) (fun _ _=>?_);clear a K
   try simp only[jj]
   refine bQ (R:=fun W=>Below w2.heap.size w2 W) oK _ ah.be [9,10,11] 3 _ _ oK ?_
   repeat (refine Rf.rs ?_;simp only[jj])
   refine aJ ?_;refine Rf.r1 12 rfl (fun K a=>?_)
   ·skip
    refine wnt oR ?_;have aj:=hid ah.JV;go_simp
    refine a _ _ trivial (fun _=>aj.be) (fun _ _=>?_);clear a K
    try simp only[jj]
    generalize World.alloc _ _=aA at aj ⊢;exact y _ _ _ _ aj
  ·skip
   refine wnt oR ?_;have M:=hid G.JV;go_simp
   refine a _ _ trivial (fun _=>M.be) (fun _ _=>?_);clear a K
   try simp only[jj]
   generalize World.alloc _ _=ay at M ⊢;refine Rf.r1 8 rfl (fun K a=>?_)
   ·skip
    refine wnt oR ?_;go_simp
    refine (A.out _ M.be).mono ?_;rintro q w5 ⟨X,rfl,g,d⟩;have af:=hid (M.call d g);clear g d;go_wp2_with fail
    refine a _ _ trivial (fun _=>af.be) (fun _ _=>?_);clear a K
    try simp only[jj]
    refine bQ (R:=fun W=>Below w2.heap.size w2 W) oK _ af.be [9,10,11] 2 _ _ oK ?_
    repeat (refine Rf.rs ?_;simp only[jj])
    refine aJ ?_;exact y _ _ _ _ af
end Wd
namespace Wd
open Go.RowKit Mem Bw Nums Mmu
def fmE (p:PW) (f k:Int):Int:=if f<0∨(p.kinds.length:Int)<=f then 2 else if p.kinds.getD f.toNat 0=k then 0 else 3
theorem iB (vb:Nat) (V:Nat->Value) (p:PW) (f k:Int) (w:World) (e:ei w vb V p):
  Calls Tryz.prog 169 #[.pointer (some ⟨vb,0,none⟩),.int .i64 f,.int .i64 k] w fun r w'=>r=.returned (.int .i64 (fmE p f k))∧w=w':=by
 have c1:=r11 1 e.r;obtain⟨q1,b1,s,k1,e1,j,l⟩:=e.v.kinds;have hl:(p.kinds.length:Int)<=1000:=by have:=e.f.kinds;omega
 rw[e1] at c1;have a:=hid (show fmE p f k=if f<0∨(p.kinds.length:Int)<=f then 2 else if p.kinds.getD f.toNat 0=k then 0 else 3 from rfl);by_cases b:f<0
 ·have g:=aA b;rw[ah (.inl b)] at a;go_enter Tryz.func169,Tryz.ntmps169
  go_wp2_with fail
  go_ret
  exact⟨by rw[a.out];rfl,rfl⟩
 have g:=aw b;by_cases c:(p.kinds.length:Int)<=f
 ·have h:=aA c;rw[ah (.inr c)] at a;go_enter Tryz.func169,Tryz.ntmps169
  go_wp2_with fail
  go_ret
  exact⟨by rw[a.out];rfl,rfl⟩
 have h:=aw c;obtain⟨n,rfl⟩:∃n:Nat,f=n:=⟨f.toNat,oA⟩
 have i:n<p.kinds.length:=oA;have q:(n:Int)<(p.kinds.length:Int):=oA;rw[ae oA,af,aa,ac i] at a;obtain rfl:=j oA;have m:=l n i;replace a:=hid (show fmE p n k=if p.kinds[n]=k then 0 else 3 from a);generalize p.kinds[n]=z at m a;clear b c j l g h;by_cases d:z=k
 ·rw[ah d] at a;have o:(z==k)=true:=by simpa using d
  go_enter Tryz.func169,Tryz.ntmps169
  go_wp2_with fail
  go_ret
  exact⟨by rw[a.out];rfl,rfl⟩
 ·rw[ae d] at a;have o:(z==k)=false:=by simpa using d
  go_enter Tryz.func169,Tryz.ntmps169
  go_wp2_with fail
  go_ret
  exact⟨by rw[a.out];rfl,rfl⟩
theorem hX {b W:World} (h:Below b.heap.size b W) {a:Addr} {v:Value} (e:b.cell? a=some v):W.cell? a=some v:=(h.cell (aj _ _ e)).trans e
theorem nD (wb:Nat) (tag:Nat->Nat) (V:Nat->Value) (p:PW) (H Y ca s g f wr:Nat) (w:World) (bt:di w wb tag V p) (J:p.Fits) (hl:∀l∈p.ID,l.length<=100) (u:gj w H Y [(s:Int),(g:Int),(f:Int),(wr:Int)]) (ht:tag H=0)
  (t:fmE p s 4=0) (hg:g<=255) (hw:wr<=1) (hf:f<p.kinds.length) (hr:p.IE.length=p.kinds.length*16) (hk:p.kinds.getD f 0=3) (X:p.IE.getD (s*16+g/16) 0=0):
  Calls Tryz.prog 128 #[.pointer (some ⟨wb,0,none⟩),.slice (some ⟨H,Y,none⟩) 4 ca] w fun r w'=>r=.returned (.int .i64 0)∧di w' wb tag V {p with IE:=p.IE.set (s*16+g/16) (32768+(f:Int))}∧Kt tag tag w w':=by
 have M:=hid (bt.view J hl);have BT:=hid bt;have hs:s<p.kinds.length:=by
  unfold fmE at t;by_cases h:(s:Int)<0∨(p.kinds.length:Int)<=(s:Int)
  ·rw[ah h] at t;cases t
  ·omega
 have a0:=u 0 oS;have a1:=u 1 oS;have Q:=u 2 oS;have S:=u 3 oS;rw[bO] at a0;simp only[aS,aX] at a0 a1 Q S;have c0:=r11 0 bt.r;have c1:=r11 1 bt.r;obtain⟨q1,b1,o1,k1,e1,af,ai⟩:=M.v.kinds;have an:=J.kinds;have ap:=J.IE;have ax:(p.kinds.length:Int)<=1000:=oA;have ay:(p.IE.length:Int)<=1000:=oA;obtain rfl:=af oA;have T:=ai f hf;rw[show p.kinds[f]=3 by rw[aa,ac hf] at hk;exact hk] at T;obtain⟨a,cap0,G⟩:∃a cap0,V 0=.slice (some ⟨a,0,none⟩) p.IE.length cap0:=bt.o.IE.form (by show 0<p.IE.length;omega)
 have I:s*16+g/16<p.IE.length:=oA;rw[G] at c0;rw[e1] at c1;have cr:w.cell? ⟨a,s*16+g/16,none⟩=some (.int .i64 0):=by
  obtain⟨q,b,o,k,e,hq,aq⟩:=M.v.IE;rw[G] at e
  cases e
  have:=hq oA
  cases this
  have:=aq _ I;rw[aC] at this;rw[this,show p.IE[s*16+g/16]=0 by rw[aa,ac I] at X;exact X]
 have N:=hid (fun W (h:Below w.heap.size w W)=>(⟨hX h a0,hX h a1,hX h Q,hX h S,hX h c0,hX h c1,hX h T,hX h cr⟩:_∧_∧_∧_∧_∧_∧_∧_));have HM:=hid (iB wb V p s 4 w M);rw[t] at HM;have al:=hid (fun nq=>show Calls Tryz.prog 33 #[.int .i64 g,.int .i64 255] (w.drewN nq) fun e w'=>e=.returned (.bool false)∧w'=w.drewN nq from (Isa.fF g 255 (w.drewN nq)).mono fun e w' ⟨U,i⟩=>⟨by rw[U,show decide ((g:Int)<0∨255<(g:Int))=false from aw oA],i.symm⟩);have am:=hid (fun nq=>show Calls Tryz.prog 33 #[.int .i64 wr,.int .i64 1] (w.drewN nq) fun e w'=>e=.returned (.bool false)∧w'=w.drewN nq from (Isa.fF wr 1 (w.drewN nq)).mono fun e w' ⟨U,i⟩=>⟨by rw[U,show decide ((wr:Int)<0∨1<(wr:Int))=false from aw oA],i.symm⟩);have f1:decide ((f:Int)<0)=false:=aw oA;have f2:decide ((p.kinds.length:Int)<=(f:Int))=false:=aw oA;clear u t hk X ai af e1 bt T cr;have HT:=hid ht;have ad:=hid G;have ar:=hid hr;have HD:=hid I;clear ht G hr I an ap hl J;go_enter Tryz.func128,Tryz.ntmps128
 go_wp2_with fail
 refine HM.mono ?_;rintro r w1 ⟨rfl,rfl⟩;go_upto_region 4 with fail
 refine bC oK oK ?_
 repeat (first|go_big_quiet_skip|(go_big_quiet_want;go_big_quiet_op;first|go_big_quiet_on|go_big_quiet_call (first|((with_reducible (show Calls _ 33 #[.int .i64 (g:Int),_] _ _));refine bD (al.out _))|((with_reducible (show Calls _ 33 #[.int .i64 (wr:Int),_] _ _));refine bD (am.out _)))))
 refine cY ?_;intro _ x;obtain⟨nq,y⟩:=x;subst y;have Z:=hid (aE (ag w.heap.size w) nq);obtain⟨z,A,j,B,m,C,D,n⟩:=N.out _ Z;clear a0 a1 Q S c0 c1;have f3:decide (p.kinds.length<=f)=false:=aw oA;generalize w.drewN nq=w1 at*;have ao:(g:Int).tdiv 16=((g/16:Nat):Int):=by rw[bP oA];omega
 go_upto_region 6 with fail
 refine bC oK oK ?_
 repeat (first|go_big_quiet_skip|(go_big_quiet_want;go_big_quiet_op;first|go_big_quiet_on|go_big_quiet_call (fail)))
 refine cY ?_;intro _ x;obtain⟨nq,y⟩:=x;subst y;rw[show (s:Int)*16+(g:Int)/16=((s*16+g/16:Nat):Int) by omega];generalize ae:s*16+g/16=d at*;have aj:=hid ae;clear ae;have au:(d:Int)<(p.IE.length:Int):=by have:=HD.out;omega
 have av:(f:Int)<(p.kinds.length:Int):=oA;clear ao z A j B m C D n;have B2:=hid (aE Z nq);obtain⟨z,A,j,B,m,C,D,n⟩:=N.out _ B2;generalize w1.drewN nq=w2 at*;go_upto_region 7 with fail
 refine bC oK oK ?_
 repeat (first|go_big_quiet_skip|(go_big_quiet_want;go_big_quiet_op;first|go_big_quiet_on|go_big_quiet_call (fail)))
 refine cY ?_;intro _ x;obtain⟨nq,y⟩:=x;subst y;clear z A j B m C D n;have E:=hid (aE B2 nq);obtain⟨z,A,j,B,m,C,D,n⟩:=N.out _ E;generalize w2.drewN nq=c at*;clear z A B C D;go_upto_region 10 with fail
 have F:=hid (aD c 1);have ab:=hid (BT.below (btr E F));have FZ:=hid (show c.drew.frozen? ⟨a,d,none⟩=false from by
  have i:=ab.o.IE;rw[ad.out] at i;exact i.frozen d)
 refine bG (R:=fun W=>W.cell? ⟨wb,0,none⟩=some (.slice (some ⟨a,0,none⟩) p.IE.length cap0)∧W.cell? ⟨H,Y+2,none⟩=some (.int .i64 f)) [10] [0,1,2,3,4,5,6,7,8,9] 1 oK ⟨hX F m,hX F j⟩ oK oK oK (fun _=>?_)
 repeat (refine Rf.rs ?_;simp only[jj])
 refine aJ ?_;refine Rf.r1 10 rfl (fun K hK=>?_);have y4:=hX F n;have fz:=FZ.out;go_simp
 refine hK _ _ trivial (cg oK) (fun _ _=>?_);clear hK K
 try simp only[jj]
 refine bk oK ?_ _;rw[show IntKind.i64.wrap (32768+(f:Int))=32768+(f:Int) from bZ _ oA oA];have P:=hid ((BT.below E).IS ad d (32768+(f:Int)));have L:=hid (show Below (c.setCell ⟨a,d,none⟩ (.int .i64 (32768+(f:Int)))).heap.size (c.setCell ⟨a,d,none⟩ (.int .i64 (32768+(f:Int)))) (c.setCell ⟨a,d,none⟩ (.int .i64 (32768+(f:Int)))).drew from aD _ 1);have O:=hid (show di (c.setCell ⟨a,d,none⟩ (.int .i64 (32768+(f:Int)))).drew wb tag V {p with IE:=p.IE.set d (32768+(f:Int))}∧Kt tag tag w (c.setCell ⟨a,d,none⟩ (.int .i64 (32768+(f:Int)))).drew from⟨P.1.below L,((bE E).trans P.2).trans (bE L)⟩);generalize (c.setCell ⟨a,d,none⟩ (.int .i64 (32768+(f:Int)))).drew=W9 at O ⊢;clear P L FZ fz y4 n m j ab;go_wp2_with fail
 go_ret
 exact⟨rfl,by rw[aj.out];exact O.1,O.2⟩
theorem oV (wb:Nat) (tag:Nat->Nat) (V:Nat->Value) (p:PW) (D M ca s g f wr a:Nat) (w:World) (bt:di w wb tag V p) (J:p.Fits) (hl:∀l∈p.ID,l.length<=100) (F:gj w D M [(s:Int),(g:Int),(f:Int),(wr:Int)]) (ht:tag D=0)
  (E:fmE p s 4=0) (hg:g<=255) (hw:wr<=1) (hf:f<p.kinds.length) (hr:p.IE.length=p.kinds.length*16) (hk:p.kinds.getD f 0=2) (Z:p.IE.getD (s*16+g/16) 0=a) (aF:0<a) (au:a<=65535) (L:a%1024*16+g%16<p.IE.length) (Y:p.IE.getD (a%1024*16+g%16) 0=0):
  Calls Tryz.prog 128 #[.pointer (some ⟨wb,0,none⟩),.slice (some ⟨D,M,none⟩) 4 ca] w fun r w'=>r=.returned (.int .i64 0)∧di w' wb tag V {p with IE:=p.IE.set (a%1024*16+g%16) (32768+(wr:Int)*16384+(f:Int))}∧Kt tag tag w w':=by
 have O:=hid (bt.view J hl);have BT:=hid bt;have hs:s<p.kinds.length:=by
  unfold fmE at E;by_cases h:(s:Int)<0∨(p.kinds.length:Int)<=(s:Int)
  ·rw[ah h] at E;cases E
  ·omega
 have a0:=F 0 oS;have a1:=F 1 oS;have S:=F 2 oS;have T:=F 3 oS;rw[bO] at a0;simp only[aS,aX] at a0 a1 S T;have c0:=r11 0 bt.r;have c1:=r11 1 bt.r;obtain⟨q1,b1,o1,k1,e1,aj,am⟩:=O.v.kinds;have av:=J.kinds;have ay:=J.IE;have aK:(p.kinds.length:Int)<=1000:=oA;have aM:(p.IE.length:Int)<=1000:=oA;obtain rfl:=aj oA;have U:=am f hf;rw[show p.kinds[f]=2 by rw[aa,ac hf] at hk;exact hk] at U;obtain⟨b,cap0,H⟩:∃b cap0,V 0=.slice (some ⟨b,0,none⟩) p.IE.length cap0:=bt.o.IE.form (by show 0<p.IE.length;omega)
 have I:s*16+g/16<p.IE.length:=oA;rw[H] at c0;rw[e1] at c1;obtain⟨qr,br,aN,kr,er,al,ab⟩:=O.v.IE;rw[H] at er
 cases er
 have ar:=al oA
 cases ar
 have cr:w.cell? ⟨b,s*16+g/16,none⟩=some (.int .i64 a):=by
  have:=ab _ I;rw[aC] at this;rw[this,show p.IE[s*16+g/16]=(a:Int) by rw[aa,ac I] at Z;exact Z]
 have cp:w.cell? ⟨b,a%1024*16+g%16,none⟩=some (.int .i64 0):=by
  have:=ab _ L;rw[aC] at this;rw[this,show p.IE[a%1024*16+g%16]=0 by rw[aa,ac L] at Y;exact Y]
 have C:=hid (fun W (h:Below w.heap.size w W)=>(⟨hX h a0,hX h a1,hX h S,hX h T,hX h c0,hX h c1,hX h U,hX h cr,hX h cp⟩:_∧_∧_∧_∧_∧_∧_∧_∧_));have HM:=hid (iB wb V p s 4 w O);rw[E] at HM;have an:=hid (fun nq=>show Calls Tryz.prog 33 #[.int .i64 g,.int .i64 255] (w.drewN nq) fun e w'=>e=.returned (.bool false)∧w'=w.drewN nq from (Isa.fF g 255 (w.drewN nq)).mono fun e w' ⟨X,A⟩=>⟨by rw[X,show decide ((g:Int)<0∨255<(g:Int))=false from aw oA],A.symm⟩);have ao:=hid (fun nq=>show Calls Tryz.prog 33 #[.int .i64 wr,.int .i64 1] (w.drewN nq) fun e w'=>e=.returned (.bool false)∧w'=w.drewN nq from (Isa.fF wr 1 (w.drewN nq)).mono fun e w' ⟨X,A⟩=>⟨by rw[X,show decide ((wr:Int)<0∨1<(wr:Int))=false from aw oA],A.symm⟩);have f1:decide ((f:Int)<0)=false:=aw oA;have f2:decide ((p.kinds.length:Int)<=(f:Int))=false:=aw oA;clear F E hk Z am aj e1 bt U cr cp al ab Y;have HT:=hid ht;have ae:=hid H;have aA:=hid hr;have HD:=hid I;have aq:=hid L;have aG:((a:Int)==0)=false:=by simp;omega
 have aH:(a:Int)<=65535:=oA;clear L au;clear ht H hr I av ay hl J;go_enter Tryz.func128,Tryz.ntmps128
 go_wp2_with fail
 refine HM.mono ?_;rintro r w1 ⟨rfl,rfl⟩;go_upto_region 4 with fail
 refine bC oK oK ?_
 repeat (first|go_big_quiet_skip|(go_big_quiet_want;go_big_quiet_op;first|go_big_quiet_on|go_big_quiet_call (first|((with_reducible (show Calls _ 33 #[.int .i64 (g:Int),_] _ _));refine bD (an.out _))|((with_reducible (show Calls _ 33 #[.int .i64 (wr:Int),_] _ _));refine bD (ao.out _)))))
 refine cY ?_;intro _ m;obtain⟨nq,n⟩:=m;subst n;have B1:=hid (aE (ag w.heap.size w) nq);obtain⟨q,t,c,i,j,u,x,y,k⟩:=C.out _ B1;clear a0 a1 S T c0 c1;have f3:decide (p.kinds.length<=f)=false:=aw oA;generalize w.drewN nq=w1 at*;have ax:(g:Int).tdiv 16=((g/16:Nat):Int):=by rw[bP oA];omega
 go_upto_region 6 with fail
 refine bC oK oK ?_
 repeat (first|go_big_quiet_skip|(go_big_quiet_want;go_big_quiet_op;first|go_big_quiet_on|go_big_quiet_call (fail)))
 refine cY ?_;intro _ m;obtain⟨nq,n⟩:=m;subst n;rw[show (s:Int)*16+(g:Int)/16=((s*16+g/16:Nat):Int) by omega];generalize af:s*16+g/16=d at*;have az:=hid af;clear af;have aB:(d:Int)<(p.IE.length:Int):=by have:=HD.out;omega
 have aI:(f:Int)<(p.kinds.length:Int):=oA;clear ax q t c i j u x y k;have B2:=hid (aE B1 nq);obtain⟨q,t,c,i,j,u,x,y,k⟩:=C.out _ B2;generalize w1.drewN nq=w2 at*;go_upto_region 7 with fail
 refine bC oK oK ?_
 repeat (first|go_big_quiet_skip|(go_big_quiet_want;go_big_quiet_op;first|go_big_quiet_on|go_big_quiet_call (fail)))
 refine cY ?_;intro _ m;obtain⟨nq,n⟩:=m;subst n;clear q t c i j u x y k;have B3:=hid (aE B2 nq);obtain⟨q,t,c,i,j,u,x,y,k⟩:=C.out _ B3;generalize w2.drewN nq=w3 at*;go_upto_region 12 with fail
 refine bC oK oK ?_
 repeat (first|go_big_quiet_skip|(go_big_quiet_want;go_big_quiet_op;first|go_big_quiet_on|go_big_quiet_call (fail)))
 refine cY ?_;intro _ m;obtain⟨nq,n⟩:=m;subst n;clear q t c i j u x y k;have B4:=hid (aE B3 nq);obtain⟨q,t,c,i,j,u,x,y,k⟩:=C.out _ B4;generalize w3.drewN nq=w4 at*;go_upto_region 16 with fail
 refine bC oK oK ?_
 repeat (first|go_big_quiet_skip|(go_big_quiet_want;go_big_quiet_op;first|go_big_quiet_on|go_big_quiet_call (fail)))
 refine cY ?_;intro _ m;obtain⟨nq,n⟩:=m;subst n;rw[show (a:Int)%1024*16+(g:Int)%16=((a%1024*16+g%16:Nat):Int) by omega];generalize ai:a%1024*16+g%16=pg at*;have ap:=hid ai;clear ai;have aL:(pg:Int)<(p.IE.length:Int):=by have:=aq.out;omega
 clear q t c i j u x y k;have G:=hid (aE B4 nq);obtain⟨q,t,c,i,j,u,x,y,k⟩:=C.out _ G;generalize w4.drewN nq=z at*;clear q t u x y;go_upto_region 19 with fail
 have B:=hid (aD z 1);have ad:=hid (BT.below (btr G B));have FZ:=hid (show z.drew.frozen? ⟨b,pg,none⟩=false from by
  have A:=ad.o.IE;rw[ae.out] at A;exact A.frozen pg)
 refine bG (R:=fun W=>W.cell? ⟨wb,0,none⟩=some (.slice (some ⟨b,0,none⟩) p.IE.length cap0)∧W.cell? ⟨D,M+3,none⟩=some (.int .i64 wr)∧W.cell? ⟨D,M+2,none⟩=some (.int .i64 f)) [15] [0,1,2,3,4,5,6,7,8,9,10,11,12,13,14] 1 oK ⟨hX B j,hX B i,hX B c⟩ oK oK oK (fun _=>?_)
 repeat (refine Rf.rs ?_;simp only[jj])
 refine aJ ?_;refine Rf.r1 15 rfl (fun K hK=>?_);have y4:=hX B k;have fz:=FZ.out;go_simp
 refine hK _ _ trivial (cg oK) (fun _ _=>?_);clear hK K
 try simp only[jj]
 refine bk oK ?_ _
 try simp only[show IntKind.i64.wrap ((wr:Int)*16384)=(wr:Int)*16384 from bZ _ oA oA,show IntKind.i64.wrap (32768+(wr:Int)*16384)=32768+(wr:Int)*16384 from bZ _ oA oA,show IntKind.i64.wrap (32768+(wr:Int)*16384+(f:Int))=32768+(wr:Int)*16384+(f:Int) from bZ _ oA oA]
 have Q:=hid ((BT.below G).IS ae pg (32768+(wr:Int)*16384+(f:Int)));have N:=hid (show Below (z.setCell ⟨b,pg,none⟩ (.int .i64 (32768+(wr:Int)*16384+(f:Int)))).heap.size (z.setCell ⟨b,pg,none⟩ (.int .i64 (32768+(wr:Int)*16384+(f:Int)))) (z.setCell ⟨b,pg,none⟩ (.int .i64 (32768+(wr:Int)*16384+(f:Int)))).drew from aD _ 1);have P:=hid (show di (z.setCell ⟨b,pg,none⟩ (.int .i64 (32768+(wr:Int)*16384+(f:Int)))).drew wb tag V {p with IE:=p.IE.set pg (32768+(wr:Int)*16384+(f:Int))}∧Kt tag tag w (z.setCell ⟨b,pg,none⟩ (.int .i64 (32768+(wr:Int)*16384+(f:Int)))).drew from⟨Q.1.below N,((bE G).trans Q.2).trans (bE N)⟩);generalize (z.setCell ⟨b,pg,none⟩ (.int .i64 (32768+(wr:Int)*16384+(f:Int)))).drew=W9 at P ⊢;clear Q N FZ fz y4 k j c i ad;go_wp2_with fail
 go_ret
 exact⟨rfl,by rw[ap.out];exact P.1,P.2⟩
