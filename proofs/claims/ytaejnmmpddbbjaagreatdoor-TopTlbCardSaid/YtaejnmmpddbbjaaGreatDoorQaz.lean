/- Qaz -/
import Derived.BigGuard
import Derived.Test.YtaejnmmpddbbjaaGreatDoorQay
namespace Go.Proofs.YtaejnmmpddbbjaaGreatDoor.Wd
open Go.RowKit Mem Bw Nums Mmu
theorem InT.re {w w':World} {tag:Nat→Nat} {t I s wb:Nat} {u:Value} {c:Nat×List Value} (h:InT w tag t I s u c) (d:t≠0) (b:tag wb=0) (hk:Kp (fun k=>k=wb) w w'):InT w' (fun k=>if k=wb then 1 else tag k) t I s u c:=by
 have a:∀k,u.ownBlock=some k→k≠wb:=fun k e f=>d (by rw[←h.2 k e,f,b]);exact⟨own_kp h.1 hk a,fun k e=>(ae (a k e)).trans (h.2 k e)⟩
theorem ListT.re {w w':World} {tag:Nat→Nat} {t i O I s n wb:Nat} {v:Value} {cc:Nat→Nat×List Value} (h:ListT w tag t i O I s n v cc) (q:t≠0) (hi:i≠0) (a:tag wb=0) (hk:Kp (fun k=>k=wb) w w'):ListT w' (fun k=>if k=wb then 1 else tag k) t i O I s n v cc:=by
 obtain⟨g,us,d,b,l,m,o⟩:=h;have c:g≠wb:=fun f=>q (by rw[←b,f,a]);refine⟨g,us,d,(ae c).trans b,l,own_kp m hk (fun k e=>?_),fun j p=>(o j p).re (by omega) a hk⟩;have:g=k:=by simpa [Value.ownBlock] using e
 rw[←this];exact c
theorem TlbT.re {w w':World} {tag:Nat→Nat} {n wb:Nat} {v:Value} {ls:List (List Ent)} (h:TlbT w tag n v ls) (d:tag wb=0) (hk:Kp (fun k=>k=wb) w w'):TlbT w' (fun k=>if k=wb then 1 else tag k) n v ls:=by
 obtain⟨g,us,s,l,t,u,y⟩:=h;have q:g≠wb:=fun f=>by rw[←f,l] at d;cases d
 refine⟨g,us,s,(ae q).trans l,t,own_kp u hk (fun k e=>?_),fun j A=>?_⟩
 ·have:g=k:=by simpa [Value.ownBlock] using e
  rw[←this];exact q
 ·rcases y j A with x|⟨b,off,cap,B,a,C,r,D,E⟩
  ·exact .inl (x.re (by omega) d hk)
  ·have m:b≠wb:=fun f=>by rw[←f] at d;omega
   have z:b<w.heap.size:=al _ _ (a 0 r).1;have c:∀{o:Nat} {v:Value},w.cell? ⟨b,o,none⟩=some v→w'.cell? ⟨b,o,none⟩=some v:=fun {o v} e=>(hk.cell (p:=⟨b,o,none⟩) z m).trans e;exact .inr ⟨b,off,cap,B,fun i hi=>⟨c (a i hi).1,c (a i hi).2.1,c (a i hi).2.2.1,c (a i hi).2.2.2⟩,(ae m).trans C,r,D,E⟩
theorem WorldT.box {W:World} {tag:Nat→Nat} {X:Nat→Value} {p:PW} {wb:Nat} (h:WorldT W tag X p) (a:tag wb=0) (b:W.there wb 0 11):BoxT (W.setCells wb 0 (arr11 X).toList) wb (fun k=>if k=wb then 1 else tag k) X p:=by
 have hk:Kp (fun k=>k=wb) W (W.setCells wb 0 (arr11 X).toList):=aG (T:=fun k=>k=wb) (.inl rfl) _ _ _ (aR _ _);exact⟨World.rangeAt_setCells_same W wb 0 (arr11 X).toList b,World.there_setCells b _ _ _,ag rfl,⟨h.ram.re (by decide) a hk,h.kinds.re (by decide) a hk,h.slots.re (by decide) a hk,h.tasks.re (by decide) a hk,h.lines.re (by decide) (by decide) a hk,h.bits.re (by decide) a hk,h.cores.re (by decide) a hk,h.ready.re (by decide) (by decide) a hk,h.tlbs.re a hk,h.doms.re (by decide) a hk,h.time⟩⟩
theorem InT.one {w:World} {tag:Nat→Nat} {t I s:Nat} {u:Value} {c:Nat×List Value} (h:InT w tag t I s u c):u.oneCell'=true:=by obtain⟨q,k,e⟩:=own_formN h.1;rw[e];rfl
theorem ListT.one {w:World} {tag:Nat→Nat} {t i O I s n:Nat} {v:Value} {a:Nat→Nat×List Value} (h:ListT w tag t i O I s n v a):v.oneCell'=true:=by obtain⟨g,us,rfl,_⟩:=h;rfl
theorem TlbT.one {w:World} {tag:Nat→Nat} {n:Nat} {v:Value} {ls:List (List Ent)} (h:TlbT w tag n v ls):v.oneCell'=true:=by obtain⟨g,us,rfl,_⟩:=h;rfl
theorem WorldT.ones {w:World} {tag:Nat→Nat} {X:Nat→Value} {p:PW} (h:WorldT w tag X p):(arr11 X).all (·.oneCell')=true:=by
 simp only[List.all_toArray,List.all_cons,List.all_nil,Bool.and_true,h.ram.one,h.kinds.one,h.slots.one,h.tasks.one,h.lines.one,h.bits.one,h.cores.one,h.ready.one,h.tlbs.one,h.doms.one,Bool.true_and];rw[h.time];rfl
end Go.Proofs.YtaejnmmpddbbjaaGreatDoor.Wd
namespace Go.Proofs.YtaejnmmpddbbjaaGreatDoor.Wd
open Go.RowKit Mem Bw Nums Mmu Hex
structure Pw (w0 W:World) (p:PW) (b6 b7:Option Nat) (X:Option (Nat→Value)):Prop where
 be:Below w0.heap.size w0 W
 c6:∀b,b6=some b→W.heap[b]? =some (.cells #[.slice none 0 0,.slice none 0 0,.slice none 0 0,.slice none 0 0,.slice none 0 0,.slice none 0 0,.slice none 0 0,.slice none 0 0,.slice none 0 0,.slice none 0 0,.int .i64 0] 28)∧w0.heap.size≤b
 c7:∀b,b7=some b→W.heap[b]? =some (.cells #[.int .i64 0,.int .i64 0] 71)∧w0.heap.size≤b
 x:∀V,X=some V→NwX W w0.heap.size p V
theorem blk_up {W a:World} (h:Below W.heap.size W a) {b:Nat} {o:Obj} (e:W.heap[b]? =some o):a.heap[b]? =some o:=(h.block b (Array.getElem?_eq_some_iff.1 e).1).trans e
theorem Pw.next {w0 W c:World} {p:PW} {b6 b7:Option Nat} {X:Option (Nat→Value)} (h:Pw w0 W p b6 b7 X) (a:Below W.heap.size W c):Pw w0 c p b6 b7 X:=
 ⟨btr h.be a,fun b e=>⟨blk_up a (h.c6 b e).1,(h.c6 b e).2⟩,fun b e=>⟨blk_up a (h.c7 b e).1,(h.c7 b e).2⟩,fun V e=>(h.x V e).below a⟩
theorem cup {b W:World} (h:Below b.heap.size b W) {a:Addr} {v:Value} (e:b.cell? a=some v):W.cell? a=some v:=(h.cell (al _ _ e)).trans e
theorem blk_new (W:World) (o:Obj):(W.alloc o).heap[W.heap.size]? =some o:=by unfold World.alloc;simp
theorem Pw.al6 {w0 W:World} {p:PW} {b7:Option Nat} {X:Option (Nat→Value)} (h:Pw w0 W p none b7 X):Pw w0 (W.alloc (.cells #[.slice none 0 0,.slice none 0 0,.slice none 0 0,.slice none 0 0,.slice none 0 0,.slice none 0 0,.slice none 0 0,.slice none 0 0,.slice none 0 0,.slice none 0 0,.int .i64 0] 28)) p (some W.heap.size) b7 X:=
 have n:=h.next (bal (aj _ _) _)
 ⟨n.be,fun b e=>by cases e;exact⟨blk_new _ _,h.be.size⟩,n.c7,n.x⟩
theorem Pw.al7 {w0 W:World} {p:PW} {b6:Option Nat} {X:Option (Nat→Value)} (h:Pw w0 W p b6 none X):Pw w0 (W.alloc (.cells #[.int .i64 0,.int .i64 0] 71)) p b6 (some W.heap.size) X:=
 have n:=h.next (bal (aj _ _) _)
 ⟨n.be,n.c6,fun b e=>by cases e;exact⟨blk_new _ _,h.be.size⟩,n.x⟩
theorem NwX.low {w:World} {L M:Nat} {p:PW} {X:Nat→Value} (h:NwX w M p X) (hl:L≤M):NwX w L p X:=⟨fun i hi=>own_mono (h.own i hi) hl,h.dj,h.f4,h.f7,h.f8,h.t⟩
theorem Pw.call {w0 W a:World} {p:PW} {b6 b7:Option Nat} (h:Pw w0 W p b6 b7 none) {V:Nat→Value} (b:Below W.heap.size W a) (c:NwX a W.heap.size p V):Pw w0 a p b6 b7 (some V):=
 have n:=h.next b
 ⟨n.be,n.c6,n.c7,fun d e=>by cases e;exact c.low h.be.size⟩
theorem there_blk {W:World} {b:Nat} {a:Array Value} {T:TypeId} (h:W.heap[b]? =some (.cells a T)) (k:Nat) (hk:k≤a.size):W.there b 0 k:=fun j c=>by
 have e:W.cell? ⟨b,0+j,none⟩=a[0+j]? :=by simp[World.cell?,h]
 refine⟨?_,by simp[World.frozen?,h]⟩;rw[e,Array.getElem?_eq_getElem (by omega)];rfl
theorem nx_bad {w:World} {L x:Nat} {p:PW} {X:Nat→Value} (h:NwX w L p X) {b:Array Value} (d:w.heap[x]? =some (.cells b 71)):∀i,i<10→(X i).ownBlock≠some x:=fun i hi e=>by
 rcases (h.own i hi).2 with ⟨e1,_⟩|⟨g,cap,f,e1,_,a,_⟩
 ·rw[e1] at e;cases e
 ·rw[e1] at e;obtain rfl:g=x:=by simpa [Value.ownBlock] using e
  rw[d] at a;have:wE i=71:=by simp at a;exact a.2.symm
  have c:∀i,i<10→wE i≠71:=by decide
  exact c i hi this
theorem tag_low {X:Nat→Value} {k:Nat}:∀n,(∀i,i<n→(X i).ownBlock≠some k)→tagN' X k n=0
 |0,_=>rfl
 |n+1,h=>by
  unfold tagN';rw[ae (h n (by omega))];exact tag_low n (fun i hi=>h i (by omega))
theorem Pw.box {w0 W:World} {p:PW} {b6 b7:Nat} {X:Nat→Value} (h:Pw w0 W p (some b6) (some b7) (some X)) (g:∀l∈p.lines,l=[]) (j:∀l∈p.ready,l=[]) (m:∀l∈p.tlbs,l=[]):
  BoxT ((W.setCells b6 0 (arr11 X).toList).setCells b7 0 [.int .i64 0,.int .i64 (-1)]) b6 (tagW X b6) X p∧Below w0.heap.size w0 ((W.setCells b6 0 (arr11 X).toList).setCells b7 0 [.int .i64 0,.int .i64 (-1)])∧((W.setCells b6 0 (arr11 X).toList).setCells b7 0 [.int .i64 0,.int .i64 (-1)]).cell? ⟨b7,0,none⟩=some (.int .i64 0)∧w0.heap.size≤b6∧∀k,k<w0.heap.size→tagN' X k 10=0:=by
 obtain⟨c6,d⟩:=h.c6 b6 rfl;obtain⟨c7,s⟩:=h.c7 b7 rfl;have a:=h.x X rfl;have c:=there_blk c6 11 (by decide);have r:=there_blk c7 2 (by decide);have q:b6≠b7:=fun e=>by rw[e,c7] at c6;simp at c6
 have k1:Kp (fun k=>k=b6∨k=b7) W (W.setCells b6 0 (arr11 X).toList):=aG (.inl (.inl rfl)) _ _ _ (aR _ _);have k2:Kp (fun k=>k=b6∨k=b7) W ((W.setCells b6 0 (arr11 X).toList).setCells b7 0 [.int .i64 0,.int .i64 (-1)]):=aG (.inl (.inr rfl)) _ _ _ k1;have f:Kp (fun k=>k=b7) (W.setCells b6 0 (arr11 X).toList) ((W.setCells b6 0 (arr11 X).toList).setCells b7 0 [.int .i64 0,.int .i64 (-1)]):=aG (T:=fun k=>k=b7) (.inl rfl) _ _ _ (aR _ _);have b:=nx_of a c6;have o:=nx_bad a c7;have n:b6<W.heap.size:=(Array.getElem?_eq_some_iff.1 c6).1;refine⟨Wb.box (B:=w0.heap.size) ⟨⟨aB n k2.size,fun i hi=>own_kp (a.own i hi) k2 (fun k e hk=>by rcases hk with hk|hk;exact b i hi (hk▸e);exact o i hi (hk▸e)),a.dj,b⟩,ef (World.rangeAt_setCells_same W b6 0 (arr11 X).toList c) f q,World.there_setCells (World.there_setCells c _ _ _) _ _ _⟩ a.f4 a.f7 a.f8 a.t g j m,k2.below h.be h.be.size (fun k hk e=>by omega),?_,d,fun k hk=>tag_low 10 (fun i hi e=>?_)⟩
 ·exact World.rangeAt_setCells_same _ b7 0 [.int .i64 0,.int .i64 (-1)] (World.there_setCells r _ _ _) 0 _ rfl
 ·have:=((a.own i hi).lt k e).1;omega
theorem wp_stBad {op:Oper} {a:Act} {w:World} {K:Act→World→Prop} {Q:Exit→Act→World→Prop} {x y:Tmp} (c:op.op=.store 71 (.tmp x) (.tmp y)) (b:Nat) (e:a.eval (.tmp x)=.pointer (some ⟨b,0,none⟩)) (f:a.eval (.tmp y)=.agg #[.int .i64 0,.int .i64 (-1)]) (d:w.there b 0 2)
  (h:K (a.put op.dst undef) (w.setCells b 0 [.int .i64 0,.int .i64 (-1)])):op.wp Tryz.prog a w K Q:=
 wp_store_mid 71 _ _ c b 0 #[.int .i64 0,.int .i64 (-1)] e f d infoBadx bOnex h
theorem with_fin {P:Program} {md:Region.Mode} {ops:Array Oper} {Q:Exit→Act→World→Prop} {S R:World→Prop} {fs:List Nat} {fuel:Nat} {c:Array Bool} {a:Act} {w:World} (F:(Nat→Value)→Nat→Nat→World→Prop) (l2:Array Bool) (b:(Nat→Value)→Nat→Nat→Act)
  (d:∀m X b6 b7 W,F X b6 b7 W→Rf.wpAnyF P md ops Q S R fs (m+2) l2 (b X b6 b7) W) (h:Hid (∀X b6 b7 W,F X b6 b7 W→Rf.wpAnyF P md ops Q S R fs 2 l2 (b X b6 b7) W)→Rf.wpAnyF P md ops Q S R fs fuel c a w):Rf.wpAnyF P md ops Q S R fs fuel c a w:=h (d 0)
set_option maxRecDepth 100000
set_option maxHeartbeats 8000000
theorem worldLine_ref (b off cap f c:Nat) (zs:List Int) (l:List ByteArray) (w:World) (hS:StrsAt w b off l) (av:∀t∈l,numOk t=true) (hl:l.length≤100) (hm:l.map Prs.decV=(f:Int)::(c:Int)::zs) (f0:1≤f) (f1:f≤24) (c0:1≤c) (c1:c≤4) (z0:1≤zs.length) (z1:zs.length≤8) (hz:∀z∈zs,0≤z∧z≤3):
  Calls Tryz.prog 71 #[.slice (some ⟨b,off,none⟩) l.length cap] w fun r w'=>∃X tag,r=.returned (.tuple #[.agg (arr11 X),.int .i64 0])∧WorldT w' tag X (wlP f c zs)∧(∀k,k<w.heap.size→tag k=0)∧Below w.heap.size w w':=by
 have B0:=hid (bal (aj w.heap.size w) (.cells #[.slice none 0 0,.slice none 0 0,.slice none 0 0,.slice none 0 0,.slice none 0 0,.slice none 0 0,.slice none 0 0,.slice none 0 0,.slice none 0 0,.slice none 0 0,.int .i64 0] 28));have T0:=hid (aM w #[.slice none 0 0,.slice none 0 0,.slice none 0 0,.slice none 0 0,.slice none 0 0,.slice none 0 0,.slice none 0 0,.slice none 0 0,.slice none 0 0,.slice none 0 0,.int .i64 0] 28 w.heap.size 11 rfl (by decide));have HN:=hid (nums_any b off cap l _ (StrsAt.below' hS B0) av hl);rw[hm] at HN;have ay:=hid (show l.length=zs.length+2 by have:=cX List.length hm;simpa using this);have ZL:(zs.length:Int)≤8:=by omega
 have aU:(1:Int)≤zs.length:=by omega
 have HZ:=hid hz;clear hm hS av hl;go_enter Tryz.func71,Tryz.ntmps71
 go_wp2_with fail
 refine HN.mono ?_;rintro r w1 ⟨u,rfl,hu,ap⟩;rw[ay.out] at hu;obtain⟨b2,n,rfl,aN,aO,hi⟩:=own_pos hu (by simp) (by omega);have I:=hid hi;have g3:¬n=2:=by omega
 have B1:=hid (btr B0 ap);have ar:=hid ap;clear ap;clear hu aN hi aO;have g0:(0:Int)<(zs.length:Int)+2:=by omega
 have g1:(1:Int)<(zs.length:Int)+2:=by omega
 have Q:(2:Int)≤(zs.length:Int)+2:=by omega
 have n0:=I.out 0 (by simp);have n1:=I.out 1 (by simp);rw[bz] at n0;rw[aC] at n1;simp only[aV,bk] at n0 n1;have KC:=hid (fun W (h:Below w1.heap.size w1 W)=>(⟨cup h n0,cup h n1⟩:_∧_));have A:=hid (fun W (h:Below w1.drew.heap.size w1.drew W)=>newWorld_own f c (.slice (some ⟨b2,2,none⟩) zs.length (n - 2)) zs W ⟨_,b2,2,_,rfl,fun _=>rfl,fun j hj=>by
  have:=(I.below (btr (aA w1 1) h)) (j+2) (by simp;omega);simp only[bk] at this;rw[show 2+j=0+(j+2) by omega];exact this⟩ f0 f1 c0 c1 z0 z1 HZ)
 have P:=hid (show Pw w1.drew w1.drew (newP f c zs) none none none from⟨aj _ _,fun _ h=>(by cases h),fun _ h=>(by cases h),fun _ h=>(by cases h)⟩);clear n0 n1;have U:=hid (show Below w1.heap.size w1 w1.drew from aA w1 1);go_upto_region 6 with fail
 refine aX (R:=fun W=>Below w1.drew.heap.size w1.drew W) [14] [0,1,2,3,4,5,6,7] 8 (by kernel_rfl) (aj _ _) (by kernel_rfl) (by kernel_rfl) (by kernel_rfl) (fun _=>?_)
 repeat (refine aJ rfl (by rfl) (fun _ _ _ _ h=>h) ?_;apply Exists.intro;refine⟨fun W h=>?_,?_⟩;(focus (obtain⟨h1,h2⟩:=KC.out _ (btr (aA w1 1) h);clear h;go_simp;try rfl));simp only[jj])
 refine aE ?_;clear KC I;generalize w1.drew=w2 at*;refine with_fin (fun X b6 b7 W=>Pw w2 W (newP f c zs) (some b6) (some b7) (some X)) #[true,true,true,true,true,true,true,true,true,true,true,true,true,true,false,false] (fun X b6 b7=>⟨#[.slice (some ⟨b,off,none⟩) l.length cap,undef,.pointer (some ⟨w.heap.size,0,none⟩),.int .i64 0,.slice (some ⟨b2,0,none⟩) (zs.length+2) n,.int .i64 0,.pointer (some ⟨b6,0,none⟩),.pointer (some ⟨b7,0,none⟩),.tuple #[.slice (some ⟨b2,0,none⟩) (zs.length+2) n,.int .i64 0],.slice (some ⟨b,off,none⟩) l.length cap,.tuple #[.slice (some ⟨b2,0,none⟩) (zs.length+2) n,.int .i64 0],.slice (some ⟨b2,0,none⟩) (zs.length+2) n,.int .i64 0,.int .i64 0,.bool false,undef,undef,.slice (some ⟨b2,0,none⟩) (zs.length+2) n,.int .i64 ((zs.length:Int)+2),.bool (decide ((zs.length:Int)+2<3)),undef,.tuple #[.agg (arr11 X),.agg #[.int .i64 0,.int .i64 (-1)]],.slice (some ⟨b2,0,none⟩) (zs.length+2) n,.pointer (some ⟨b2,0,none⟩),.int .i64 f,.slice (some ⟨b2,0,none⟩) (zs.length+2) n,.pointer (some ⟨b2,1,none⟩),.int .i64 c,.slice (some ⟨b2,0,none⟩) (zs.length+2) n,.slice (some ⟨b2,2,none⟩) zs.length (n - 2),.tuple #[.agg (arr11 X),.agg #[.int .i64 0,.int .i64 (-1)]],.agg (arr11 X),.agg #[.int .i64 0,.int .i64 (-1)],undef,undef,undef,undef,undef,undef,undef,undef,undef,undef,undef,undef,undef,undef,undef],[]⟩) ?_ (fun y=>?_)
 ·intro m X b6 b7 W H;dsimp only;have p:=hid (H.box (fun l h=>(List.mem_replicate.1 h).2) (fun l h=>(List.mem_replicate.1 h).2) (fun l h=>(List.mem_replicate.1 h).2));have T6:=hid (there_blk (H.c6 b6 rfl).1 11 (by decide));have T7:=hid (show (W.setCells b6 0 [X 0,X 1,X 2,X 3,X 4,X 5,X 6,X 7,X 8,X 9,X 10]).there b7 0 2 from World.there_setCells (there_blk (H.c7 b7 rfl).1 2 (by decide)) _ _ _);have O1:=hid (Array.all_eq_true'.2 (nw_one (H.x X rfl)));clear H;refine Rf.r1 14 rfl (fun K a=>?_);refine wnt (by rfl) ?_;simp only[cK,bk,aV];refine wp_store_mid 28 _ _ rfl b6 0 (arr11 X) rfl rfl T6 infoW O1 ?_;refine a _ _ trivial (bF (by kernel_rfl)) (fun _ _=>?_);clear a K
  try simp only[jj]
  change Hid (BoxT ((W.setCells b6 0 [X 0,X 1,X 2,X 3,X 4,X 5,X 6,X 7,X 8,X 9,X 10]).setCells b7 0 [.int .i64 0,.int .i64 (-1)]) b6 (tagW X b6) X (newP f c zs)∧Below w2.heap.size w2 ((W.setCells b6 0 [X 0,X 1,X 2,X 3,X 4,X 5,X 6,X 7,X 8,X 9,X 10]).setCells b7 0 [.int .i64 0,.int .i64 (-1)])∧((W.setCells b6 0 [X 0,X 1,X 2,X 3,X 4,X 5,X 6,X 7,X 8,X 9,X 10]).setCells b7 0 [.int .i64 0,.int .i64 (-1)]).cell? ⟨b7,0,none⟩=some (.int .i64 0)∧w2.heap.size≤b6∧∀k,k<w2.heap.size→tagN' X k 10=0) at p;clear T6 O1;generalize W.setCells b6 0 [X 0,X 1,X 2,X 3,X 4,X 5,X 6,X 7,X 8,X 9,X 10]=W2 at T7 p ⊢;refine Rf.r1 15 rfl (fun K a=>?_);refine wnt (by rfl) ?_;simp only[cK,bk,aV];refine wp_stBad rfl b7 rfl rfl T7 ?_;refine a _ _ trivial (bF (by kernel_rfl)) (fun _ _=>?_);clear a K
  try simp only[jj]
  refine aL (by kernel_rfl) ?_ _;clear T7 A P;generalize W2.setCells b7 0 [.int .i64 0,.int .i64 (-1)]=W3 at p ⊢;have s:=hid p.1;have S:=hid (btr B1 (btr U p.2.1));have BA:=hid (btr ar (btr U p.2.1));have c7:=p.2.2.1;have O:=hid (show ∀k,k<w1.heap.size→tagW X b6 k=0 from fun k hk=>by
   have h1:=p.2.2.2.1;unfold tagW;have h2:=U.size;rw[ae (by omega)];exact p.2.2.2.2 k (by omega))
  obtain⟨g1,k1,e1⟩:=s.o.kinds.form (show 0<(newP f c zs).kinds.length by rw[show (newP f c zs).kinds.length=f from ba];omega);obtain⟨Q,k2,e2⟩:=s.o.slots.form (show 0<(newP f c zs).slots.length by rw[show (newP f c zs).slots.length=f*16 from ba];omega);have r1:W3.cell? ⟨b6,1,none⟩=some (X 1):=af s.r rfl;rw[e1] at r1;have J:=s.o.kinds;rw[e1] at J;obtain⟨u1,aw⟩:=Option.isSome_iff_exists.1 (J.there 0 1 (by rw[show (newP f c zs).kinds.length=f from ba];omega) 0 (by omega)).1;rw[bz] at aw;have aK:=J.frozen 0;have aP:(0:Int)<((newP f c zs).kinds.length:Int):=by rw[show (newP f c zs).kinds.length=f from ba];omega
  have Z:=hid (s.kindsCell e1 0 5);clear p J;go_upto_region 10 with fail
  clear r1 aw aK aP c7;have C:=hid Z.1;have aa:=hid Z.2;clear Z s;generalize W3.setCell ⟨g1,0,none⟩ (.int .i64 5)=W4 at C aa ⊢;have r2:W4.cell? ⟨b6,2,none⟩=some (X 2):=af C.r rfl;rw[e2] at r2;have Y:=C.o.slots;rw[e2] at Y;have V:=hid (show (newP f c zs).slots.length=f*16 from ba);have au:=hid (show W4.there Q (0*7) 7 from Y.there (0*7) 7 (by show 0*7+7≤(newP f c zs).slots.length*7;rw[V.out];omega));have aQ:(0:Int)<((newP f c zs).slots.length:Int):=by rw[V.out];omega
  have K2:=hid (C.slotsRow e2 (i:=0) (by show 0<(newP f c zs).slots.length;rw[V.out];omega) ndk);clear Y;go_upto_region 11 with (first|((with_reducible refine gst 80 ?_);refine wp_stS rfl _ _ rfl Q (0*7) rfl (cf 7 ndk) rfl (ax _ _) (bK _ _) au ?_))
  have D:=hid K2.1;have E:=hid (aa.trans K2.2);clear r2 aQ au K2 C aa;generalize W4.setCells Q (0*7) (cf 7 ndk)=B at D E ⊢;have L0:w.heap.size<w1.heap.size:=aB (by simp) ar.size;have T5:=hid (dN (dN T0 (T:=fun _=>False) (.of_below BA) id) E.k (by rw[O.out _ L0];exact fun h=>h rfl));have O5:=hid (D.o.ones);have RX:=hid (show (B.setCells w.heap.size 0 [X 0,X 1,X 2,X 3,X 4,X 5,X 6,X 7,X 8,X 9,X 10]).rangeAt w.heap.size 0 (arr11 X).toList from World.rangeAt_setCells_same B w.heap.size 0 (arr11 X).toList T5);have KX:=hid (show Kp (fun k=>k=w.heap.size) B (B.setCells w.heap.size 0 [X 0,X 1,X 2,X 3,X 4,X 5,X 6,X 7,X 8,X 9,X 10]) from aG (T:=fun k=>k=w.heap.size) (.inl rfl) _ _ _ (aR _ _));have B6:=hid (D.kp KX (fun k _ e=>by rw[e];exact O _ L0) (fun _ _=>rfl));have BE:=hid (show Below w.heap.size w (B.setCells w.heap.size 0 [X 0,X 1,X 2,X 3,X 4,X 5,X 6,X 7,X 8,X 9,X 10]) from KX.below (E.k.below S S.size (fun k hk h=>h (O.out k (by omega)))) (aD S.size E.k.size) (fun k hk e=>by omega));clear e1 e2;go_wp2_with (first|((with_reducible refine gld 28 ?_);refine wp_ldW rfl _ rfl b6 rfl X D.r ?_)|((with_reducible refine gst 28 ?_);refine wpList_store_mid rfl 28 _ _ rfl w.heap.size 0 (arr11 X) rfl rfl T5 infoW O5 ?_))
  clear KX T5 O5 D E;generalize B.setCells w.heap.size 0 [X 0,X 1,X 2,X 3,X 4,X 5,X 6,X 7,X 8,X 9,X 10]=W6 at RX B6 BE ⊢;exact aq (v:=.tuple #[.agg (arr11 X),.int .i64 0]) (results_d2 rfl rfl (run_loadVar_mid _ w.heap.size 0 28 (arr11 X).toList _ RX Tryz.underlying28 rfl infoW) rfl) rfl ⟨X,rfl,tagW X b6,B6.o,fun k hk=>O.out k (by omega),BE.out⟩
 refine Rf.wpAnyF_ready (rs:=[8,12,13]) (by kernel_rfl) (by simp) (dO rfl (fun K a=>?_) (dO rfl (fun K a=>?_) (dO rfl (fun K a=>?_) Rf.AllReadyF.nil)))
 ·skip
  refine wnt (by rfl) ?_;go_simp
  refine (A.out _ P.be).mono ?_;rintro q w3 ⟨X,rfl,g,d⟩;have N:=hid (P.call d g);clear g d;go_wp2_with fail
  refine a _ _ trivial (fun _=>N.be) (fun _ _=>?_);clear a K
  try simp only[jj]
  refine aZ (R:=fun W=>Below w2.heap.size w2 W) (by kernel_rfl) _ N.be [9,10,11] 4 _ _ (by kernel_rfl) ?_
  repeat (refine aJ rfl (by rfl) (fun _ _ _ _ h=>h) ?_;apply Exists.intro;refine⟨fun W h=>?_,?_⟩;(focus (clear h;go_simp;try rfl));simp only[jj])
  refine aE ?_;refine Rf.wpAnyF_ready (rs:=[12,13]) (by kernel_rfl) (by simp) (dO rfl (fun K a=>?_) (dO rfl (fun K a=>?_) Rf.AllReadyF.nil))
  ·skip
   refine wnt (by rfl) ?_;have al:=hid N.al6;go_simp
   refine a _ _ trivial (fun _=>al.be) (fun _ _=>?_);clear a K
   try simp only[jj]
   generalize World.alloc _ _=az at al ⊢;refine Rf.r1 13 rfl (fun K a=>?_)
   ·skip
    refine wnt (by rfl) ?_;have am:=hid al.al7;go_simp
    refine a _ _ trivial (fun _=>am.be) (fun _ _=>?_);clear a K
    try simp only[jj]
    generalize World.alloc _ _=aI at am ⊢;exact y _ _ _ _ am
  ·skip
   refine wnt (by rfl) ?_;have an:=hid N.al7;go_simp
   refine a _ _ trivial (fun _=>an.be) (fun _ _=>?_);clear a K
   try simp only[jj]
   generalize World.alloc _ _=aH at an ⊢;refine Rf.r1 12 rfl (fun K a=>?_)
   ·skip
    refine wnt (by rfl) ?_;have ao:=hid an.al6;go_simp
    refine a _ _ trivial (fun _=>ao.be) (fun _ _=>?_);clear a K
    try simp only[jj]
    generalize World.alloc _ _=aF at ao ⊢;exact y _ _ _ _ ao
 ·skip
  refine wnt (by rfl) ?_;have F:=hid P.al6;go_simp
  refine a _ _ trivial (fun _=>F.be) (fun _ _=>?_);clear a K
  try simp only[jj]
  generalize World.alloc _ _=aS at F ⊢;refine Rf.wpAnyF_ready (rs:=[8,13]) (by kernel_rfl) (by simp) (dO rfl (fun K a=>?_) (dO rfl (fun K a=>?_) Rf.AllReadyF.nil))
  ·skip
   refine wnt (by rfl) ?_;go_simp
   refine (A.out _ F.be).mono ?_;rintro q w4 ⟨X,rfl,g,d⟩;have ac:=hid (F.call d g);clear g d;go_wp2_with fail
   refine a _ _ trivial (fun _=>ac.be) (fun _ _=>?_);clear a K
   try simp only[jj]
   refine aZ (R:=fun W=>Below w2.heap.size w2 W) (by kernel_rfl) _ ac.be [9,10,11] 3 _ _ (by kernel_rfl) ?_
   repeat (refine aJ rfl (by rfl) (fun _ _ _ _ h=>h) ?_;apply Exists.intro;refine⟨fun W h=>?_,?_⟩;(focus (clear h;go_simp;try rfl));simp only[jj])
   refine aE ?_;refine Rf.r1 13 rfl (fun K a=>?_)
   ·skip
    refine wnt (by rfl) ?_;have ad:=hid ac.al7;go_simp
    refine a _ _ trivial (fun _=>ad.be) (fun _ _=>?_);clear a K
    try simp only[jj]
    generalize World.alloc _ _=aI at ad ⊢;exact y _ _ _ _ ad
  ·skip
   refine wnt (by rfl) ?_;have L:=hid F.al7;go_simp
   refine a _ _ trivial (fun _=>L.be) (fun _ _=>?_);clear a K
   try simp only[jj]
   generalize World.alloc _ _=aH at L ⊢;refine Rf.r1 8 rfl (fun K a=>?_)
   ·skip
    refine wnt (by rfl) ?_;go_simp
    refine (A.out _ L.be).mono ?_;rintro q w5 ⟨X,rfl,g,d⟩;have ab:=hid (L.call d g);clear g d;go_wp2_with fail
    refine a _ _ trivial (fun _=>ab.be) (fun _ _=>?_);clear a K
    try simp only[jj]
    refine aZ (R:=fun W=>Below w2.heap.size w2 W) (by kernel_rfl) _ ab.be [9,10,11] 2 _ _ (by kernel_rfl) ?_
    repeat (refine aJ rfl (by rfl) (fun _ _ _ _ h=>h) ?_;apply Exists.intro;refine⟨fun W h=>?_,?_⟩;(focus (clear h;go_simp;try rfl));simp only[jj])
    refine aE ?_;exact y _ _ _ _ ab
 ·skip
  refine wnt (by rfl) ?_;have G:=hid P.al7;go_simp
  refine a _ _ trivial (fun _=>G.be) (fun _ _=>?_);clear a K
  try simp only[jj]
  generalize World.alloc _ _=aT at G ⊢;refine Rf.wpAnyF_ready (rs:=[8,12]) (by kernel_rfl) (by simp) (dO rfl (fun K a=>?_) (dO rfl (fun K a=>?_) Rf.AllReadyF.nil))
  ·skip
   refine wnt (by rfl) ?_;go_simp
   refine (A.out _ G.be).mono ?_;rintro q w4 ⟨X,rfl,g,d⟩;have ah:=hid (G.call d g);clear g d;go_wp2_with fail
   refine a _ _ trivial (fun _=>ah.be) (fun _ _=>?_);clear a K
   try simp only[jj]
   refine aZ (R:=fun W=>Below w2.heap.size w2 W) (by kernel_rfl) _ ah.be [9,10,11] 3 _ _ (by kernel_rfl) ?_
   repeat (refine aJ rfl (by rfl) (fun _ _ _ _ h=>h) ?_;apply Exists.intro;refine⟨fun W h=>?_,?_⟩;(focus (clear h;go_simp;try rfl));simp only[jj])
   refine aE ?_;refine Rf.r1 12 rfl (fun K a=>?_)
   ·skip
    refine wnt (by rfl) ?_;have ai:=hid ah.al6;go_simp
    refine a _ _ trivial (fun _=>ai.be) (fun _ _=>?_);clear a K
    try simp only[jj]
    generalize World.alloc _ _=aF at ai ⊢;exact y _ _ _ _ ai
  ·skip
   refine wnt (by rfl) ?_;have M:=hid G.al6;go_simp
   refine a _ _ trivial (fun _=>M.be) (fun _ _=>?_);clear a K
   try simp only[jj]
   generalize World.alloc _ _=az at M ⊢;refine Rf.r1 8 rfl (fun K a=>?_)
   ·skip
    refine wnt (by rfl) ?_;go_simp
    refine (A.out _ M.be).mono ?_;rintro q w5 ⟨X,rfl,g,d⟩;have ag:=hid (M.call d g);clear g d;go_wp2_with fail
    refine a _ _ trivial (fun _=>ag.be) (fun _ _=>?_);clear a K
    try simp only[jj]
    refine aZ (R:=fun W=>Below w2.heap.size w2 W) (by kernel_rfl) _ ag.be [9,10,11] 2 _ _ (by kernel_rfl) ?_
    repeat (refine aJ rfl (by rfl) (fun _ _ _ _ h=>h) ?_;apply Exists.intro;refine⟨fun W h=>?_,?_⟩;(focus (clear h;go_simp;try rfl));simp only[jj])
    refine aE ?_;exact y _ _ _ _ ag
end Go.Proofs.YtaejnmmpddbbjaaGreatDoor.Wd
namespace Go.Proofs.YtaejnmmpddbbjaaGreatDoor.Wd
open Go.RowKit Mem Bw Nums Mmu
set_option maxRecDepth 512
set_option maxHeartbeats 200000
def fmE (p:PW) (f k:Int):Int:=if f<0∨(p.kinds.length:Int)≤f then 2 else if p.kinds.getD f.toNat 0=k then 0 else 3
set_option maxRecDepth 100000
theorem frameMay_ref (vb:Nat) (V:Nat→Value) (p:PW) (f k:Int) (w:World) (e:ViewAt w vb V p):
  Calls Tryz.prog 169 #[.pointer (some ⟨vb,0,none⟩),.int .i64 f,.int .i64 k] w fun r w'=>r=.returned (.int .i64 (fmE p f k))∧w=w':=by
 have c1:w.cell? ⟨vb,1,none⟩=some (V 1):=af e.r rfl;obtain⟨q1,b1,s,k1,e1,j,l⟩:=e.v.kinds;have hl:(p.kinds.length:Int)≤1000:=by have:=e.f.kinds;omega
 rw[e1] at c1;have a:=hid (show fmE p f k=if f<0∨(p.kinds.length:Int)≤f then 2 else if p.kinds.getD f.toNat 0=k then 0 else 3 from rfl);clear e1 e;by_cases c:f<0
 ·have g:decide (f<0)=true:=aF c;rw[ag (.inl c)] at a;go_enter Tryz.func169,Tryz.ntmps169
  go_wp2_with fail
  go_ret
  exact⟨by rw[a.out];rfl,rfl⟩
 have g:decide (f<0)=false:=ay c;by_cases d:(p.kinds.length:Int)≤f
 ·have h:decide ((p.kinds.length:Int)≤f)=true:=aF d;rw[ag (.inr d)] at a;go_enter Tryz.func169,Tryz.ntmps169
  go_wp2_with fail
  go_ret
  exact⟨by rw[a.out];rfl,rfl⟩
 have h:decide ((p.kinds.length:Int)≤f)=false:=ay d;obtain⟨n,rfl⟩:∃n:Nat,f=n:=⟨f.toNat,by omega⟩
 have i:n<p.kinds.length:=by omega
 have q:(n:Int)<(p.kinds.length:Int):=by omega
 rw[ae (by omega),ah,aa,ac i] at a;obtain rfl:=j (by omega);have m:=l n i;replace a:=hid (show fmE p n k=if p.kinds[n]=k then 0 else 3 from a);generalize p.kinds[n]=z at m a;clear c d j l g h;by_cases b:z=k
 ·rw[ag b] at a;have o:(z==k)=true:=by simpa using b
  clear b;go_enter Tryz.func169,Tryz.ntmps169
  go_wp2_with fail
  go_ret
  exact⟨by rw[a.out];rfl,rfl⟩
 ·rw[ae b] at a;have o:(z==k)=false:=by simpa using b
  clear b;go_enter Tryz.func169,Tryz.ntmps169
  go_wp2_with fail
  go_ret
  exact⟨by rw[a.out];rfl,rfl⟩
end Go.Proofs.YtaejnmmpddbbjaaGreatDoor.Wd
