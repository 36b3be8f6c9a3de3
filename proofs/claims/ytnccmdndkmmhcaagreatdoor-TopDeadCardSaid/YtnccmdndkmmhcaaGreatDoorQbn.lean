/- Qbn -/
import Derived.Deep.RegionHeld3
import Derived.BigQuiet
import Derived.Test.YtnccmdndkmmhcaaGreatDoorQbm
set_option maxRecDepth 100000
set_option maxHeartbeats 16000000
namespace Go.Proofs.YtnccmdndkmmhcaaGreatDoor
namespace Wd
open Go.RowKit Mem Bw Nums Mmu
def Dn (p:PW) (wb:Nat) (tag0:Nat->Nat) (w0:World) (l:List Nat) (W:World):Prop:=
 ∃tag V q,cb W wb tag V q∧Rm p q∧Kt tag0 tag w0 W∧(∀k∈l,tag k=0∧w0.heap.size<=k∧k<W.heap.size)∧w0.rangeAt wb 0 (de V).toList
theorem Dn.start {p:PW} {wb:Nat} {tag:Nat->Nat} {V:Nat->Value} {w:World} (a:Lv p) (bt:cb w wb tag V p):Dn p wb tag w [] w:=⟨tag,V,p,bt,Rm.refl a,en _ _,(fun _ h=>by cases h),bt.r⟩
theorem Dn.own {p:PW} {wb:Nat} {tag0:Nat->Nat} {w0 W:World} {l:List Nat} (h:Dn p wb tag0 w0 l W) {k:Nat} (hk:k∈l):k<W.heap.size:=by
 obtain⟨tag,V,q,_,_,_,o,_⟩:=h;exact (o k hk).2.2
theorem Dn.alloc {p:PW} {wb:Nat} {tag0:Nat->Nat} {w0 W:World} {l:List Nat} (h:Dn p wb tag0 w0 l W) (o:Obj):Dn p wb tag0 w0 (W.heap.size::l) (W.alloc o):=by
 obtain⟨tag,V,q,bt,g,kt,ow,i⟩:=h;have b:Kp (fun _=>False) W (W.alloc o):=.IF (bal (af _ _) o);have a:∀k,k<W.heap.size->(if k<W.heap.size then tag k else 0)=tag k:=fun k hk=>ag hk;have j:(W.alloc o).heap.size=W.heap.size+1:=oS;have ks:=kt.k.size;refine⟨fun k=>if k<W.heap.size then tag k else 0,V,q,bt.kp b (fun _ _ e=>e.elim) a,g,kt.trans (.of b (fun _ e=>e.elim) a),fun k hk=>?_,i⟩;rcases bL.1 hk with rfl|hk
 ·exact⟨ae (Nat.lt_irrefl _),ks,oA⟩
 ·obtain⟨c,d,f⟩:=ow k hk;exact⟨(a k f).trans c,d,oA⟩
theorem Dn.kp {p:PW} {wb:Nat} {tag0:Nat->Nat} {w0 W W':World} {l:List Nat} (h:Dn p wb tag0 w0 l W) (k:Kp (fun k=>k∈l) W W'):Dn p wb tag0 w0 l W':=by
 obtain⟨tag,V,q,bt,i,kt,ow,j⟩:=h;have ks:=kt.k.size;refine⟨tag,V,q,bt.kp k (fun b _ a=>(ow b a).1) (fun _ _=>rfl),i,⟨⟨k.os.trans kt.k.os,k.tape.trans kt.k.tape,k.output.trans kt.k.output,aD ks k.size,fun b a g=>(k.block b oA (fun f=>by have:=(ow b f).2.1;omega)).trans (kt.k.block b a g)⟩,kt.t⟩,fun b a=>?_,j⟩;obtain⟨c,d,e⟩:=ow b a;exact⟨c,d,aE e k.size⟩
theorem Dn.below {p:PW} {wb:Nat} {tag0:Nat->Nat} {w0 W W':World} {l:List Nat} (h:Dn p wb tag0 w0 l W) (a:Below W.heap.size W W'):Dn p wb tag0 w0 l W':=h.kp (.IF a)
theorem Dn.less {p:PW} {wb:Nat} {tag0:Nat->Nat} {w0 W:World} {l m:List Nat} (h:Dn p wb tag0 w0 l W) (a:∀k∈m,k∈l):Dn p wb tag0 w0 m W:=by
 obtain⟨tag,V,q,bt,b,kt,ow,c⟩:=h;exact⟨tag,V,q,bt,b,kt,fun k hk=>ow k (a k hk),c⟩
theorem Dn.step {p q:PW} {wb:Nat} {tag0 tag tag':Nat->Nat} {V:Nat->Value} {w0 W W':World} {l:List Nat} (g:Rm p q) (kt:Kt tag0 tag w0 W) (ow:∀k∈l,tag k=0∧w0.heap.size<=k∧k<W.heap.size) {a:PW} (i:w0.rangeAt wb 0 (de V).toList) (k2:Kt tag tag' W W') (b2:cb W' wb tag' V a) (f:Rm q a):
  Dn p wb tag0 w0 l W'∧Kp (fun k=>k∉l) W W':=
 ⟨⟨tag',V,a,b2,g.trans f,kt.trans k2,fun k hk=>by
  obtain⟨c,d,b⟩:=ow k hk;exact⟨k2.t k b c,d,aE b k2.k.size⟩,i⟩,k2.k.wider fun k _ h e=>h (ow k e).1⟩
theorem Dn.load {p:PW} {wb:Nat} {tag0:Nat->Nat} {w0 W:World} {l:List Nat} (h:Dn p wb tag0 w0 l W) {b2 b3 b4 c t:Nat} (n:c<p.ID.length) (m:p.k t=6) (cs:jc [(b2,ptr wb),(b3,.int .i64 (c:Int)),(b4,.int .i64 (t:Int))] tag0 w0) (a:Int):
  Calls Tryz.prog 127 #[.int .i64 a,ptr b2,ptr b3,ptr b4] W fun r W'=>∃(v:Int) (ok:Bool),r=.returned (.tuple #[.int .i64 v,.bool ok])∧(0<=v∧v<=65535)∧Dn p wb tag0 w0 l W'∧Kp (fun k=>k∉l) W W':=by
 obtain⟨tag,V,q,bt,s,kt,ow,u⟩:=h;obtain⟨b,X,R,e⟩:=s;refine (Cz wb tag V q b2 b3 b4 c t a W bt b.w (by rw[b.c];exact n) (by rw[e];exact m) (cs.kt kt)).mono ?_;rintro r W' ⟨v,ok,i,j,tag',x,k2,d,o⟩;obtain⟨f,g⟩:=Dn.step (l:=l) ⟨b,X,R,e⟩ kt ow u k2 d o;exact⟨v,ok,i,j,f,g⟩
theorem Dn.store {p:PW} {wb:Nat} {tag0:Nat->Nat} {w0 W:World} {l:List Nat} (h:Dn p wb tag0 w0 l W) {b2 b3 b4 c t:Nat} (m:c<p.ID.length) (j:p.k t=6) (cs:jc [(b2,ptr wb),(b3,.int .i64 (c:Int)),(b4,.int .i64 (t:Int))] tag0 w0) (a v:Int) (hv:0<=v∧v<=65535):
  Calls Tryz.prog 129 #[.int .i64 a,.int .i64 v,ptr b2,ptr b3,ptr b4] W fun r W'=>∃ok:Bool,r=.returned (.bool ok)∧Dn p wb tag0 w0 l W'∧Kp (fun k=>k∉l) W W':=by
 obtain⟨tag,V,q,bt,o,kt,ow,s⟩:=h;obtain⟨b,X,R,e⟩:=o;refine (Aw wb tag V q b2 b3 b4 c t a v hv W bt b.w (by rw[b.c];exact m) (by rw[e];exact j) (cs.kt kt)).mono ?_;rintro r W' ⟨ok,i,tag',u,k2,d,n⟩;obtain⟨f,g⟩:=Dn.step (l:=l) ⟨b,X,R,e⟩ kt ow s k2 d n;exact⟨ok,i,f,g⟩
theorem Dn.pre {p:PW} {wb:Nat} {tag0:Nat->Nat} {w0 w1 W:World} {b:Nat} (h:Dn p wb tag0 w1 [] W) (c:Below w0.heap.size w0 w1) (h0:w0.heap.size<=b) (a:b<w1.heap.size) (e:tag0 b=0) (d:wb<w0.heap.size):Dn p wb tag0 w0 [b] W:=by
 obtain⟨tag,V,q,bt,f,kt,_,g⟩:=h;exact⟨tag,V,q,bt,f,(bj c).trans kt,fun k hk=>by rw[dm.1 hk];exact⟨kt.t b a e,h0,aE a kt.k.size⟩,fun j v hv=>(c.cell (p:=⟨wb,0+j,none⟩) d).symm.trans (g j v hv)⟩
structure Gq (f g:Nat->Int):Prop where
 w:∀k,k<9->0<=g k∧g k<=65535
 s:∀k,9<=k->g k=f k
theorem Gq.refl {f:Nat->Int} (h:∀k,k<9->0<=f k∧f k<=65535):Gq f f:=⟨h,fun _ _=>rfl⟩
theorem Gq.Jo {f g:Nat->Int} (h:Gq f g) {k:Nat} (hk:k<9) {v:Int} (hv:0<=v∧v<=65535):Gq f (upd g k v):=by
 refine⟨fun j a=>?_,fun j a=>?_⟩
 ·unfold Wd.upd;split
  ·exact hv
  ·exact h.w j a
 ·unfold Wd.upd;rw[ae oA];exact h.s j a
theorem El (n:Nat) (f:Nat->Int) (k:Nat) (v:Int):(cf n f).set k (.int .i64 v)=cf n (upd f k v):=by
 apply List.ext_getElem?;intro j;rw[List.getElem?_set];unfold cf Wd.upd;by_cases e:k=j
 ·subst e;by_cases a:k<n
  ·simp[a]
  ·simp[a]
 ·rw[ae e];by_cases a:j<n
  ·simp[a,Ne.symm e]
  ·simp[a]
structure Gw (W:World) (f g:Nat->Int) (o A B i:Int) (b r c n:Nat):Prop where
 t:W.rangeAt b 0 (cf 20 f)
 r:W.there r 0 20
 i0:W.cell? ⟨c,0,none⟩=some (.int .i64 o)
 i1:W.cell? ⟨c,1,none⟩=some (.int .i64 A)
 i2:W.cell? ⟨c,2,none⟩=some (.int .i64 B)
 i3:W.cell? ⟨c,3,none⟩=some (.int .i64 i)
 m:W.rangeAt n 0 (cf 20 g)
 nt:W.there n 0 20
 d:b≠n∧c≠n
theorem Gw.set {W:World} {f g:Nat->Int} {o A B i:Int} {b r c n:Nat} (h:Gw W f g o A B i b r c n) (k:Nat) (hk:k<20) (v:Int):Gw (W.setCell ⟨n,k,none⟩ (.int .i64 v)) f (upd g k v) o A B i b r c n where
 t:=qQ h.t (Ne.symm h.d.1) _
 r:=ib h.r _ _
 i0:=(aQ W _ _ _ (by intro e;have:=dG Addr.block e;exact h.d.2 this.symm)).trans h.i0
 i1:=(aQ W _ _ _ (by intro e;have:=dG Addr.block e;exact h.d.2 this.symm)).trans h.i1
 i2:=(aQ W _ _ _ (by intro e;have:=dG Addr.block e;exact h.d.2 this.symm)).trans h.i2
 i3:=(aQ W _ _ _ (by intro e;have:=dG Addr.block e;exact h.d.2 this.symm)).trans h.i3
 m:=by rw[<-El];exact mR h.m (by rw[ay];exact hk) _
 nt:=ib h.nt _ _
 d:=h.d
theorem Gw.kept {W e:World} {f g:Nat->Int} {o A B i:Int} {b r c n:Nat} {T:Nat->Prop} (h:Gw W f g o A B i b r c n) (k:Kp T W e) (l:¬T b) (p:¬T r) (a:¬T c) (j:¬T n):Gw e f g o A B i b r c n:=
 ⟨eN h.t k l,d9 h.r k p,(k.cell (aj _ _ h.i0) a).trans h.i0,(k.cell (aj _ _ h.i1) a).trans h.i1,(k.cell (aj _ _ h.i2) a).trans h.i2,(k.cell (aj _ _ h.i3) a).trans h.i3,eN h.m k j,d9 h.nt k j,h.d⟩
theorem zC {W:World} {f:Nat->Int} {o A B i:Int} {b r:Nat} {z:Array Value} (h:z.size=20) (t:W.rangeAt b 0 (cf 20 f)) (e:W.there r 0 20) (c:b<W.heap.size) (u v:TypeId):
  Gw (((W.alloc (.cells #[.int .i64 o,.int .i64 A,.int .i64 B,.int .i64 i] u)).alloc (.cells z v)).setCells (W.heap.size+1) 0 (cf 20 f)) f f o A B i b r W.heap.size (W.heap.size+1):=by
 have g:=fh (cq W #[.int .i64 o,.int .i64 A,.int .i64 B,.int .i64 i] u) oS (.cells z v);have a:∀k,(((W.alloc (.cells #[.int .i64 o,.int .i64 A,.int .i64 B,.int .i64 i] u)).alloc (.cells z v)).setCells (W.heap.size+1) 0 (cf 20 f)).cell? ⟨W.heap.size,k,none⟩=(#[.int .i64 o,.int .i64 A,.int .i64 B,.int .i64 i]:Array Value)[k]? :=fun k=>by
  rw[gZ oA];exact g k
 exact {
  t:=World.rangeAt_setCells_apart (World.rangeAt_alloc (World.rangeAt_alloc t _) _) _ _ _ (.inl oA)
  r:=World.there_setCells (World.there_alloc (World.there_alloc e _) _) _ _ _
  i0:=a 0
  i1:=a 1
  i2:=a 2
  i3:=a 3
  m:=World.rangeAt_setCells_same _ _ _ _ (by rw[ay];exact aP _ _ _ _ _ oS oA)
  nt:=World.there_setCells (aP _ _ _ _ _ oS oA) _ _ _
  d:=⟨Nat.ne_of_lt (Nat.lt_succ_of_lt c),Nat.ne_of_lt (dL _)⟩}
def lH (g:Nat->Int) (ev n:Int):Value:=.tuple #[.agg (cf 20 g).toArray,.int .i64 ev,.int .i64 n]
def yQ (p:PW) (wb:Nat) (tag0:Nat->Nat) (w0:World) (f:Nat->Int) (e:Ending) (w':World):Prop:=
 ∃g ev n,e=.returned (lH g ev n)∧Gq f g∧(0<=ev∧ev<=3)∧(-32768<=n∧n<=65535)∧(ev=2-> -1<=n)∧Dn p wb tag0 w0 [] w'
theorem rp (wb:Nat) (tag:Nat->Nat) (V:Nat->Value) (p:PW) (t:Nat) (d:Int) (W:World) (bt:cb W wb tag V p) (c:p.Fits) (e:t<p.IB.length) (b:¬p.IB.getD t bl 17= -1):
  Calls Tryz.prog 232 #[.pointer (some ⟨wb,0,none⟩),.int .i64 t,.int .i64 d] W fun r W'=>r=.returned (.int .i64 7)∧W=W':=by
 have j:(p.IB.length:Int)<=1000:=by have:=c.IB;omega
 have k:(t:Int)<(p.IB.length:Int):=oA;obtain⟨i,h,a⟩:=bt.o.IB.form oA;have g:=bk bt a;have f:=bt.IH a e (show 17<20 by omega);generalize p.IB.getD t bl 17=y at f b;have l:(y== -1)=false:=by simpa using b
 go_enter Tryz.func232,Tryz.ntmps232
 go_wp2_with fail
 go_ret
 exact⟨rfl,rfl⟩
theorem ry (wb:Nat) (tag:Nat->Nat) (V:Nat->Value) (p:PW) (t d:Nat) (W:World) (bt:cb W wb tag V p) (b:p.Fits) (c:t<p.IB.length) (k:d<p.lines.length) (i:p.IB.getD t bl 17= -1)
  (l:Calls Tryz.prog 183 #[.pointer (some ⟨wb,0,none⟩),.int .i64 d,.bool false] W fun r W'=>r=.returned (.int .i64 (-1))∧W=W'):
  Calls Tryz.prog 232 #[.pointer (some ⟨wb,0,none⟩),.int .i64 t,.int .i64 d] W fun r W'=>r=.returned (.int .i64 0)∧∃tag',cb W' wb tag' V (ssP p t d 4)∧Kt tag tag' W W':=by
 have v:(p.IB.length:Int)<=1000:=by have:=b.IB;omega
 have w:(t:Int)<(p.IB.length:Int):=oA;obtain⟨u,s,a⟩:=bt.o.IB.form oA;have q:=bk bt a;have n:=bt.IH a c (show 17<20 by omega);have f:=hid l;have g:=hid (lg wb tag V p t d 4 W bt b c k);rw[i] at n;go_enter Tryz.func232,Tryz.ntmps232
 go_wp2_with fail
 refine f.mono ?_;rintro r w1 ⟨rfl,rfl⟩;go_wp2_with fail
 refine g.mono ?_;rintro r w2 ⟨rfl,m,j,k2⟩;have e:=hid j;have h:=hid k2;go_wp2_with fail
 go_ret
 exact⟨rfl,m,e.out,h.out⟩
theorem sQ (wb:Nat) (tag:Nat->Nat) (V:Nat->Value) (p:PW) (t d u:Nat) (l:List Int) (W:World) (bt:cb W wb tag V p) (D:p.Fits) (hs:Snd p) (M:t<p.IB.length) (hd:d<p.lines.length) (am:p.IB.getD t bl 17= -1) (hz:p.lines.getD d []=(u:Int)::l) (hu:u<p.kinds.length) (f:u<p.IB.length) (hk:p.kinds[u]=6) (s:t≠u) (an:p.IB.getD u bl 9=2∨p.IB.getD u bl 9=3):
  Calls Tryz.prog 232 #[.pointer (some ⟨wb,0,none⟩),.int .i64 t,.int .i64 d] W fun r W'=>r=.returned (.int .i64 0)∧∃tag',cb W' wb tag' V (if p.IB.getD u bl 9=3 then ((tkQ p d t u l).task u 9 5).task t 17 u else wnP (tkQ p d t u l) u (rdN p u))∧Kt tag tag' W W':=by
 have ay:(p.IB.length:Int)<=1000:=by have:=D.IB;omega
 have aA:(t:Int)<(p.IB.length:Int):=oA;obtain⟨a,c,z⟩:=bt.o.IB.form oA;have C:=bk bt z;have av:=bt.IH z M (show 17<20 by omega);obtain⟨r1,r2,r3,r4⟩:=mS hs hu hk;have az:=F1 D hz;have HF:=hid (mB wb tag V p d false W bt D hd u l hz f (aw oA));have ao:=kT D d u l oA;have aq:=AB D d t u l oA;obtain⟨g,hg⟩:∃g,p.IB.getD u bl 16=g:=⟨_,rfl⟩
 obtain⟨v,hv⟩:∃v,p.IB.getD u bl 15=v:=⟨_,rfl⟩
 have Q:=hid ((sk p d u l 16 f oD).trans hg);have U:=hid ((sk p d u l 15 f oD).trans hv);have ah:=hid (jN p d u l);have HH:=hid (fun X tg (h:cb X wb tg V (frP p d u l))=>iF wb tg V (frP p d u l) t g v X h ao (by rw[jN];exact M));have HQ:=hid (show (((((frP p d u l).task t 1 g).task t 2 v).task u 16 0).task u 15 0)=tkQ p d t u l by rw[<-hg, <-hv];exact Dv p d t u l s f);have ac:=hid (show (((frP p d u l).task t 1 g).task t 2 v).IB.getD u bl 15=v by rw[gM _ u t 2 _ s,gM _ u t 1 _ s];exact U);have ad:=hid (show (((frP p d u l).task t 1 g).task t 2 v).IB.getD u bl 16=g by rw[gM _ u t 2 _ s,gM _ u t 1 _ s];exact Q);have x:=hid (show (((frP p d u l).task t 1 g).task t 2 v).IB.length=p.IB.length by rw[ap,ap,jN]);have n:=hid (yF p d t u l);have L9:=hid (yE p d t u 9 l s f oD oD oD);have ab:=yE p d t u 18 l s f oD oD oD;have aa:=yE p d t u 10 l s f oD oD oD;have HW:=hid (fun X tg (h:cb X wb tg V (tkQ p d t u l))=>gP wb tg V (tkQ p d t u l) u (rdN p u) X h aq (by rw[yF];exact f) r1 (by rw[ab];exact r3) (by rw[aa];exact r4) (by rw[ab,aa];exact r2));have Z:=hid (fun X tg q (h:cb X wb tg V q) (H:q.IB.length=p.IB.length) (aj:q.IB.getD u bl 15=v) (al:q.IB.getD u bl 16=g)=>show X.cell? ⟨wb,3,none⟩=some (.slice (some ⟨a,0,none⟩) p.IB.length c)∧X.cell? ⟨a,u*20+16,none⟩=some (.int .i64 g)∧X.cell? ⟨a,u*20+15,none⟩=some (.int .i64 v) from⟨by rw[ai h.r (k:=3) rfl,z],by have e:=h.IH (show V 3=.slice (some ⟨a,0,none⟩) q.IB.length c by rw[H];exact z) (i:=u) (by rw[H];exact f) (show 16<20 by omega);rw[al] at e;exact e,by have e:=h.IH (show V 3=.slice (some ⟨a,0,none⟩) q.IB.length c by rw[H];exact z) (i:=u) (by rw[H];exact f) (show 15<20 by omega);rw[aj] at e;exact e⟩);have aC:¬((u:Int)<0):=oA;have aD:(u:Int)<(p.IB.length:Int):=oA;have j:=hid z;have T:=hid M;have w:=hid f;have af:=hid an;rw[am] at av;generalize hR:(if p.IB.getD u bl 9=3 then ((tkQ p d t u l).task u 9 5).task t 17 u else wnP (tkQ p d t u l) u (rdN p u))=R;have F:=hid hR;go_enter Tryz.func232,Tryz.ntmps232
 go_wp2_with fail
 refine HF.mono ?_;rintro r w1 ⟨rfl,ar,e,k1⟩;have B1:=hid e;have K1:=hid k1;go_upto_region 7 with fail
 have P:=hid (B1.below (aB w1 1));have KD:=hid (K1.trans (.below (aB w1 1)));refine wp_region_held_drew (S:=fun X=>X.cell? ⟨wb,3,none⟩=some (.slice (some ⟨a,0,none⟩) p.IB.length c)∧X.cell? ⟨a,u*20+16,none⟩=some (.int .i64 g)∧X.cell? ⟨a,u*20+15,none⟩=some (.int .i64 v)) oK (Z.out _ _ _ P ah U Q) (fun L=>?_);have b:=hid L;refine tk 0 (.pointer (some ⟨wb,0,none⟩)) rfl b ?_;simp only[jj];refine tk 1 (.int .i64 t) rfl b ?_;simp only[jj];refine tk 2 (.pointer (some ⟨wb,0,none⟩)) rfl b ?_;simp only[jj];refine tk 3 (.pointer (some ⟨wb,0,none⟩)) rfl b ?_;simp only[jj];refine tk 4 (.pointer (some ⟨wb,3,none⟩)) rfl b ?_;simp only[jj];refine eE 5 (.slice (some ⟨a,0,none⟩) p.IB.length c) rfl (Or.inl ⟨oR,fun W h=>by have A:=h.1;clear h;go_simp⟩) b ?_;simp only[jj];refine tk 6 (.int .i64 u) rfl b ?_;simp only[jj];refine tk 7 (.pointer (some ⟨a,u*20,none⟩)) rfl b ?_;simp only[jj];refine tk 8 (.pointer (some ⟨a,u*20+16,none⟩)) rfl b ?_;simp only[jj];refine eE 9 (.int .i64 g) rfl (Or.inl ⟨oR,fun W h=>by have A:=h.2.1;clear h;go_simp⟩) b ?_;simp only[jj];refine tk 10 (.pointer (some ⟨wb,0,none⟩)) rfl b ?_;simp only[jj];refine tk 11 (.pointer (some ⟨wb,0,none⟩)) rfl b ?_;simp only[jj];refine tk 12 (.pointer (some ⟨wb,3,none⟩)) rfl b ?_;simp only[jj];refine eE 13 (.slice (some ⟨a,0,none⟩) p.IB.length c) rfl (Or.inl ⟨oR,fun W h=>by have A:=h.1;clear h;go_simp⟩) b ?_;simp only[jj];refine tk 14 (.int .i64 u) rfl b ?_;simp only[jj];refine tk 15 (.pointer (some ⟨a,u*20,none⟩)) rfl b ?_;simp only[jj];refine tk 16 (.pointer (some ⟨a,u*20+15,none⟩)) rfl b ?_;simp only[jj];refine eE 17 (.int .i64 v) rfl (Or.inl ⟨oR,fun W h=>by have A:=h.2.2;clear h;go_simp⟩) b ?_;simp only[jj];refine wpAnyH_ready (rs:=[18]) oK oS (AllReadyH.cons rfl (fun K hK=>?_) AllReadyH.nil);go_simp
 refine (HH.out _ _ P).mono ?_;rintro q w2 ⟨rfl,e,G⟩;have B:=hid e;have K2:=hid (KD.trans G);go_wp2_with fail
 refine hK _ _ (Z.out _ _ _ B x ac ad) (fun L=>?_);have ax:=hid L
 try simp only[Act.put,jD,jE,jF]
 refine dc oK ?_ _;have e4:=hid (show V 3=.slice (some ⟨a,0,none⟩) (((frP p d u l).task t 1 g).task t 2 v).IB.length c by rw[x.out];exact j);have C:=bk B j;have O:=B.IH e4 (i:=u) (by rw[x.out];exact w) (show 16<20 by omega);have J:=B.II e4 (u*20+16);obtain⟨b1,q1⟩:=B.task e4 (i:=u) (by rw[x.out];exact w) (show 16<20 by omega) 0;have E:=hid b1;have K3:=hid (K2.trans q1);go_upto_region 9 with fail
 generalize World.setCell _ _ _=W3 at*;have e4:=hid (show V 3=.slice (some ⟨a,0,none⟩) ((((frP p d u l).task t 1 g).task t 2 v).task u 16 0).IB.length c by rw[ap,x.out];exact j);have C:=bk E j;have O:=E.IH e4 (i:=u) (by rw[ap,x.out];exact w) (show 15<20 by omega);have J:=E.II e4 (u*20+15);obtain⟨b1,q1⟩:=E.task e4 (i:=u) (by rw[ap,x.out];exact w) (show 15<20 by omega) 0;have m:=hid b1;have Y:=hid (K3.trans q1);go_upto_region 10 with fail
 generalize World.setCell _ _ _=W4 at*;rw[HQ.out] at m;have C:=bk m j;have N:=m.IH (show V 3=.slice (some ⟨a,0,none⟩) (tkQ p d t u l).IB.length c by rw[n.out];exact j) (i:=u) (by rw[n.out];exact w) (show 9<20 by omega);rw[L9.out] at N;rcases af.out with G|A
 ·rw[ae (by rw[G];decide)] at F;rw[G] at N;go_wp2_with fail
  refine (HW.out _ _ m).mono ?_;rintro q w5 ⟨rfl,au,e,k1⟩;have y:=hid e;have I:=hid (Y.trans k1);go_wp2_with fail
  go_ret
  exact⟨rfl,au,by rw[<-F.out];exact y,I.out⟩
 ·rw[ag A] at F;rw[A] at N;go_upto_region 11 with fail
  have e4:=hid (show V 3=.slice (some ⟨a,0,none⟩) (tkQ p d t u l).IB.length c by rw[n.out];exact j);have C:=bk m j;have O:=m.IH e4 (i:=u) (by rw[n.out];exact w) (show 9<20 by omega);have J:=m.II e4 (u*20+9);obtain⟨b1,q1⟩:=m.task e4 (i:=u) (by rw[n.out];exact w) (show 9<20 by omega) 5;have y:=hid b1;have I:=hid (Y.trans q1);go_upto_region 12 with fail
  generalize World.setCell _ _ _=W5 at*;have e4:=hid (show V 3=.slice (some ⟨a,0,none⟩) ((tkQ p d t u l).task u 9 5).IB.length c by rw[ap,n.out];exact j);have C:=bk y j;have O:=y.IH e4 (i:=t) (by rw[ap,n.out];exact T) (show 17<20 by omega);have J:=y.II e4 (t*20+17);obtain⟨b1,q1⟩:=y.task e4 (i:=t) (by rw[ap,n.out];exact T) (show 17<20 by omega) u;have B6:=hid b1;have K6:=hid (I.trans q1);go_wp2_with fail
  go_ret
  exact⟨rfl,ar,by rw[<-F.out];exact B6,K6.out⟩
theorem ns (wb:Nat) (tag:Nat->Nat) (V:Nat->Value) (p:PW) (t:Nat) (v:Int) (W:World) (bt:cb W wb tag V p) (c:p.Fits) (d:t<p.IB.length) (b:p.IB.getD t bl 17= -1):
  Calls Tryz.prog 233 #[.pointer (some ⟨wb,0,none⟩),.int .i64 t,.int .i64 v] W fun r W'=>r=.returned (.int .i64 6)∧W=W':=by
 have i:(p.IB.length:Int)<=1000:=by have:=c.IB;omega
 have j:(t:Int)<(p.IB.length:Int):=oA;obtain⟨h,g,a⟩:=bt.o.IB.form oA;have f:=bk bt a;have e:=bt.IH a d (show 17<20 by omega);rw[b] at e;go_enter Tryz.func233,Tryz.ntmps233
 go_wp2_with fail
 go_ret
 exact⟨rfl,rfl⟩
theorem oF (wb:Nat) (tag:Nat->Nat) (V:Nat->Value) (p:PW) (t u:Nat) (v:Int) (W:World) (bt:cb W wb tag V p) (e:p.Fits) (z:Snd p) (g:t<p.IB.length) (w:p.IB.getD t bl 17=u) (A:u<p.kinds.length) (B:u<p.IB.length) (hk:p.kinds[u]=6) (d:t≠u):
  Calls Tryz.prog 233 #[.pointer (some ⟨wb,0,none⟩),.int .i64 t,.int .i64 v] W fun r W'=>r=.returned (.int .i64 0)∧∃tag',cb W' wb tag' V (wnP (((p.task t 17 (-1)).task u 1 0).task u 2 v) u (rdN p u))∧Kt tag tag' W W':=by
 have N:(p.IB.length:Int)<=1000:=by have:=e.IB;omega
 have O:(t:Int)<(p.IB.length:Int):=oA;obtain⟨M,K,b⟩:=bt.o.IB.form oA;have J:=bk bt b;have H:=bt.IH b g (show 17<20 by omega);obtain⟨D,E,F,r4⟩:=mS z A hk;have a:u<(p.task t 17 (-1)).IB.length:=by rw[ap];exact B
 have f:=fo e t 17 (-1);have l:=hid (fun X tg (h:cb X wb tg V (p.task t 17 (-1)))=>iF wb tg V (p.task t 17 (-1)) u 0 v X h f a);have c:(((p.task t 17 (-1)).task u 1 0).task u 2 v).IB.getD u bl 18=p.IB.getD u bl 18:=by rw[ia _ u 2 18 _ (by rw[ap];exact a) oD,ia _ u 1 18 _ a oD,gM _ u t 17 _ d]
 have e10:(((p.task t 17 (-1)).task u 1 0).task u 2 v).IB.getD u bl 10=p.IB.getD u bl 10:=by rw[ia _ u 2 10 _ (by rw[ap];exact a) oD,ia _ u 1 10 _ a oD,gM _ u t 17 _ d]
 have m:=hid (fun X tg (h:cb X wb tg V (((p.task t 17 (-1)).task u 1 0).task u 2 v))=>gP wb tg V (((p.task t 17 (-1)).task u 1 0).task u 2 v) u (rdN p u) X h (fo (fo f u 1 0) u 2 v) (by rw[ap,ap];exact a) D (by rw[c];exact F) (by rw[e10];exact r4) (by rw[c,e10];exact E));have P:¬((u:Int)= -1):=oA;have Q:((u:Int)== -1)=false:=oS;have L:=bt.II b (t*20+17);obtain⟨b1,q1⟩:=bt.task b g (show 17<20 by omega) (-1);have i:=hid b1;have n:=hid q1;rw[w] at H;go_enter Tryz.func233,Tryz.ntmps233
 go_upto_region 5 with fail
 generalize World.setCell _ _ _=I at*;go_wp2_with fail
 refine (l.out _ _ i).mono ?_;rintro r w2 ⟨rfl,x,k2⟩;have j:=hid x;have q:=hid (n.trans k2);go_wp2_with fail
 refine (m.out _ _ j).mono ?_;rintro r R ⟨rfl,G,y,C⟩;have k:=hid y;have s:=hid (q.trans C);go_wp2_with fail
 go_ret
 exact⟨rfl,G,k.out,s.out⟩
theorem orW {a b:Int} (c:0<=a∧a<=65535) (d:0<=b∧b<=65535):0<=bits .or .i64 a b∧bits .or .i64 a b<=65535:=by
 have h:=Bw.Bc a.toNat b.toNat oA oA;rw[show ((a.toNat:Nat):Int)=a by omega,show ((b.toNat:Nat):Int)=b by omega] at h;rw[h];have:=Nat.or_lt_two_pow (n:=16) (show a.toNat<2 ^ 16 by omega) (show b.toNat<2 ^ 16 by omega);omega
theorem kd {p:PW} {a:Nat} {k:Int} (h:p.k a=k) (h0:k≠0):∃b:a<p.kinds.length,p.kinds[a]=k:=⟨iM oA,by rw[xl];exact h⟩
theorem Ho (p:PW) (t d b v:Int) (c:Bool):Rs p (snP p t d b v c):=by
 unfold snP;split
 ·exact vA (((dO p).task _ _ _).task _ _ _)
 ·split
  ·unfold akP;exact ((((vG _ _ _ _ _ _).trans ((dO _).ls (L:=(wdP p d.toNat (fsV p d.toNat).toNat (p.lines.getD d.toNat []).tail b v).lines) (R:=(wdP p d.toNat (fsV p d.toNat).toNat (p.lines.getD d.toNat []).tail b v).ready) (B:=(wdP p d.toNat (fsV p d.toNat).toNat (p.lines.getD d.toNat []).tail b v).bits) (C:=(wdP p d.toNat (fsV p d.toNat).toNat (p.lines.getD d.toNat []).tail b v).IC.map (noT t.toNat))))).task _ _ _).task _ _ _
  ·exact vG _ _ _ _ _ _
theorem Hq (p:PW) (t d:Int):Rs p (tkP p t d):=by
 unfold tkP;split
 ·exact vA (dO p)
 ·split
  ·exact ((uF _ _ _ _ _).task _ _ _).task _ _ _
  ·exact (uF _ _ _ _ _).wn _ _
theorem Gf (p:PW) (t v:Int):Rs p (anP p t v):=(((dO p).task _ _ _).task _ _ _).task _ _ _ |>.wn _ _
theorem Hg (p:PW) (a g:Int):Rs p (rgP p a g):=by
 unfold rgP;split
 ·exact (dO p).ls (L:=p.lines) (R:=p.ready) (C:=p.IC)
 ·exact vG _ _ _ _ _ _
theorem GN (p:PW) (t a:Int):Rs p (hbP p t a):=by
 unfold hbP;split
 ·exact vA (dO p)
 ·exact (((dO p).task t.toNat 1 0).task t.toNat 2 (p.bits.getD a.toNat 0)).ls (L:=p.lines) (R:=p.ready) (C:=p.IC) (B:=p.bits.set a.toNat 0)
theorem Lw.Kh {p:PW} (h:Lw p):∀l∈p.ready,l.length<=50:=fun l hl=>by have:=h.Jv.2 l hl;omega
theorem iW {p:PW} (h:Lv p) {D t d:Nat} {b v:Int} {c:Bool} (x:p.co D=t) (y:p.k d=7) (G:0<=b∧b<=65535) (hv:0<=v∧v<=65535) (W:World) (wb:Nat) (tag:Nat->Nat) (V:Nat->Value) (bt:cb W wb tag V p):
  Calls Tryz.prog 133 #[.pointer (some ⟨wb,0,none⟩),.int .i64 t,.int .i64 d,.int .i64 b,.int .i64 v,.bool c] W fun r W'=>r=.returned (.tuple #[])∧Bx p wb tag W W':=by
 have i:=h.s;obtain⟨_,E,_⟩:=h.w.m.tk.q.inc x;have A:=h.w.m.tk.tl E;have f:=(h.w.m.tk.JI y).2;have H:=h.rs (h.w.send (b:=b) (v:=v) (cl:=c) x y G hv) (Ho p t d b v c);have B:Calls Tryz.prog 133 #[.pointer (some ⟨wb,0,none⟩),.int .i64 t,.int .i64 d,.int .i64 b,.int .i64 v,.bool c] W fun r W'=>r=.returned (.tuple #[])∧∃tag',cb W' wb tag' V (snP p t d b v c)∧Kt tag tag' W W':=by
  rcases zy i f with o|⟨u,l,j,o,a,I,F,n⟩
  ·rw[FU b v c o];refine rh wb tag V p t d b v c W bt h.w.fits A f ?_
   cases a:p.lines.getD d [] with
   |nil=>exact qi wb tag V p d true W bt h.w.fits f a
   |cons z l=>
    obtain⟨u,j,rfl,hk,F⟩:=iG i f a;exact tL wb tag V p d true W bt h.w.fits f u l a (by rw[i.lf.IB];exact j) (fun e=>by
     have n:=aA e;have J:fsV p d=u:=by unfold fsV;rw[a];show (if p.IB.getD u bl 9=4 then (u:Int) else -1)=u;rw[ag n]
     omega)
  ·rw[Dk b v c o a];exact sM wb tag V p t d u l b v c W bt h.w.fits h.w.Kh i A f a j (by rw[i.lf.IB];exact j) I n
 refine B.mono fun r W' g=>?_;obtain⟨rfl,tag',C,k⟩:=g;exact⟨rfl,tag',V,_,k,C,H⟩
theorem sP {p:PW} (h:Lv p) {A t d:Nat} (v:p.co A=t) (j:p.k d=7) (W:World) (wb:Nat) (tag:Nat->Nat) (V:Nat->Value) (bt:cb W wb tag V p):
  Calls Tryz.prog 232 #[.pointer (some ⟨wb,0,none⟩),.int .i64 t,.int .i64 d] W (Okd p wb tag W):=by
 have e:=h.s;obtain⟨_,C,e9,_⟩:=h.w.m.tk.q.inc v;have n:=h.w.m.tk.tl C;have b:=(h.w.m.tk.JI j).2;obtain⟨E,G⟩:=kd j oD;by_cases f:p.IB.getD t bl 17= -1
 ·have F:=h.rs (h.w.take v j f) (Hq p t d);have x:Calls Tryz.prog 232 #[.pointer (some ⟨wb,0,none⟩),.int .i64 t,.int .i64 d] W fun r W'=>r=.returned (.int .i64 0)∧∃tag',cb W' wb tag' V (tkP p t d)∧Kt tag tag' W W':=by
   rcases zu e E G with c|⟨u,l,i,c,a,H,D,o⟩
   ·rw[FY c];refine ry wb tag V p t d W bt h.w.fits n b f ?_
    cases a:p.lines.getD d [] with
    |nil=>exact qi wb tag V p d false W bt h.w.fits b a
    |cons z l=>
     obtain⟨u,i,rfl,hk,D⟩:=iG e b a;have B:p.IB.getD u bl 9=4:=by
      rw[EF a] at c;by_cases h:p.IB.getD u bl 9=4
      ·exact h
      ·rw[ae h] at c;omega
     exact tL wb tag V p d false W bt h.w.fits b u l a (by rw[e.lf.IB];exact i) (by rw[B];decide)
   ·rw[Du c a];exact sQ wb tag V p t d u l W bt h.w.fits e n b f a i (by rw[e.lf.IB];exact i) H (by rintro rfl;have:p.t t 9=2∨p.t t 9=3:=o;omega) o
  refine x.mono fun r W' g=>?_;obtain⟨rfl,tag',y,k⟩:=g;exact⟨0,rfl,oD,tag',V,_,k,y,F⟩
 ·refine (rp wb tag V p t d W bt h.w.fits n f).mono fun r W' g=>?_;obtain⟨rfl,rfl⟩:=g;exact⟨7,rfl,oD,du h bt (af _ _)⟩
theorem oE {p:PW} (h:Lv p) {n t:Nat} {v:Int} (x:p.co n=t) (hv:0<=v∧v<=65535) (W:World) (wb:Nat) (tag:Nat->Nat) (V:Nat->Value) (bt:cb W wb tag V p):
  Calls Tryz.prog 233 #[.pointer (some ⟨wb,0,none⟩),.int .i64 t,.int .i64 v] W (Okd p wb tag W):=by
 have c:=h.s;obtain⟨_,b,e9,_⟩:=h.w.m.tk.q.inc x;have f:=h.w.m.tk.tl b;obtain⟨z,hk⟩:=kd b oD;by_cases a:p.IB.getD t bl 17= -1
 ·refine (ns wb tag V p t v W bt h.w.fits f a).mono fun r j g=>?_;obtain⟨rfl,rfl⟩:=g;exact⟨6,rfl,oD,du h bt (af _ _)⟩
 ·obtain⟨u,i,d,y,o, -, -, -⟩:=CO c z hk a;have e:=h.rs (h.w.answer (v:=v) b a hv) (Gf p t v);rw[DP v d] at e;refine (oF wb tag V p t u v W bt h.w.fits c f d i (by rw[c.lf.IB];exact i) y (by rintro rfl;have:p.t t 9=5:=o;omega)).mono fun r j g=>?_;obtain⟨rfl,tag',l,k⟩:=g;exact⟨0,rfl,oD,tag',V,_,k,l,e⟩
theorem mV {p:PW} (h:Lv p) {a:Nat} {g:Int} (i:p.k a=8) (j:0<=g∧g<=65535) (W:World) (wb:Nat) (tag:Nat->Nat) (V:Nat->Value) (bt:cb W wb tag V p):
  Calls Tryz.prog 235 #[.pointer (some ⟨wb,0,none⟩),.int .i64 a,.int .i64 g] W fun r W'=>r=.returned (.tuple #[])∧Bx p wb tag W W':=by
 have b:=h.s;obtain⟨d,B⟩:=kd i oD;have f:a<p.lines.length:=by rw[b.lf.lines];exact d
 have y:a<p.bits.length:=by rw[b.lf.bits];exact d
 have C:=(h.w.m.tk.q.bt a).elim (fun e=>by rw[e];decide) fun e=>e.2.2;have x:=h.rs (h.w.ring i j (orW C j)) (Hg p a g);have o:Calls Tryz.prog 235 #[.pointer (some ⟨wb,0,none⟩),.int .i64 a,.int .i64 g] W fun r W'=>r=.returned (.tuple #[])∧∃tag',cb W' wb tag' V (rgP p a g)∧Kt tag tag' W W':=by
  obtain⟨zs,c⟩:∃zs,p.lines.getD a []=zs:=⟨_,rfl⟩
  unfold rgP;rw[ah,c]
  cases zs with
  |nil=>exact qV wb tag V p a g W bt h.w.fits f y c (by have:p.bits.getD a 0=p.bi a:=rfl;omega) oA
  |cons z l=>
   obtain⟨t,n,rfl,hk,A⟩:=iG b f c;have v:=uS b d B n hk A;exact pH wb tag V p a t l g W bt h.w.fits b f c n hk v
 refine o.mono fun r W' g=>?_;obtain⟨rfl,tag',u,k⟩:=g;exact⟨rfl,tag',V,_,k,u,x⟩
theorem sn {p:PW} (h:Lv p) {i t a:Nat} (d:p.co i=t) (b:p.k a=8) (W:World) (wb:Nat) (tag:Nat->Nat) (V:Nat->Value) (bt:cb W wb tag V p):
  Calls Tryz.prog 234 #[.pointer (some ⟨wb,0,none⟩),.int .i64 t,.int .i64 a] W fun r W'=>r=.returned (.tuple #[])∧Bx p wb tag W W':=by
 have e:=h.s;obtain⟨_,j,_⟩:=h.w.m.tk.q.inc d;obtain⟨c,l⟩:=kd b oD;refine (qn wb tag V p t a W bt h.w.fits (h.w.m.tk.tl j) (by rw[e.lf.lines];exact c) (by rw[e.lf.bits];exact c)).mono fun r W' g=>?_;obtain⟨rfl,tag',f,k⟩:=g;exact⟨rfl,tag',V,_,k,f,h.rs (h.w.J6 d b) (GN p t a)⟩
theorem Lv.row {p:PW} (h:Lv p) {t:Nat} (b:p.k t=6) {g:Nat->Int} (d:Gq (p.t t) g):Sm p {p with IB:=p.IB.set t g}:=by
 have lf:=h.w.m.tk.lf;have a:t<p.IB.length:=by have:=lf.IB;have:=iM (p:=p) (f:=t) (by rw[b];decide);omega
 have key:∀n,n<=9->Sm p {p with IB:=p.IB.set t (fun k=>if k<n then g k else p.t t k)}:=by
  intro n
  induction n with
  |zero=>
   intro _;have e:p.IB.set t (fun k=>if k<0 then g k else p.t t k)=p.IB:=by
    apply List.ext_getElem?;intro j;rw[List.getElem?_set];split
    ·rename_i e;subst e;rw[ac a]
     congr 1
     funext k
     rw[ae (ex k)];show p.IB.getD t bl k=_
     rw[aa,ac a];rfl
    ·rfl
   rw[e];exact Sm.refl h
  |succ n ih=>
   intro l;have s:=ih oA;have i:=s.w.Jq (t:=t) b (k:=n) (v:=g n) oA (d.w n oA);refine s.trans ?_;have e:(({p with IB:=p.IB.set t (fun k=>if k<n then g k else p.t t k)}:PW).task t n (g n))={p with IB:=p.IB.set t (fun k=>if k<n+1 then g k else p.t t k)}:=by
    unfold PW.task;simp only[eh]
    congr 2
    funext k
    have e2:(p.IB.set t (fun k=>if k<n then g k else p.t t k)).getD t bl=fun k=>if k<n then g k else p.t t k:=by
     rw[aa,cP a];rfl
    rw[e2];unfold Wd.upd;by_cases c:k=n
    ·rw[ag c,ag oA,c]
    ·rw[ae c];show (if k<n then g k else p.t t k)=_
     by_cases c2:k<n
     ·rw[ag c2,ag oA]
     ·rw[ae c2,ae oA]
   rw[e] at i;exact i
 have s:=key 9 (aq _);have e:(fun k=>if k<9 then g k else p.t t k)=g:=by
  funext k
  split
  ·rfl
  ·exact (d.s k oA).symm
 rw[e] at s;exact s
theorem m3 (wb:Nat) (tag:Nat->Nat) (V:Nat->Value) (p:PW) (t:Nat) (W:World) (bt:cb W wb tag V p) (h:Lv p) (a:p.k t=6):
  Calls Tryz.prog 132 #[.pointer (some ⟨wb,0,none⟩),.int .i64 t] W fun r W'=>r=.returned (.tuple #[])∧Bx p wb tag W W':=by
 refine (j4 wb tag V p t W bt h.w.fits (by have:=h.w.m.tk.lf.IB;have:=iM (p:=p) (f:=t) (by rw[a];decide);omega)).mono ?_;rintro r W' ⟨c,tag',b,kt⟩;exact⟨c,tag',V,_,kt,b,h.rs (h.w.stop a) ⟨rfl,rfl,rfl,rfl,rfl,rfl⟩⟩
theorem Hj (p:PW) (c:Nat):Rs p (rlP p c):=by
 unfold rlP;split
 ·exact kH 4
 split
 ·exact dO p
 ·exact Rs.trans (Rs.wn (p:=p) (q:={p with IC:=p.IC.set c (-1)}) ⟨rfl,rfl,rfl,rfl,rfl,rfl⟩ _ _) (kH 4)
theorem yo (wb:Nat) (tag:Nat->Nat) (V:Nat->Value) (p:PW) (c:Nat) (W:World) (bt:cb W wb tag V p) (h:Lv p) (a:c<p.IC.length):
  Calls Tryz.prog 126 #[.pointer (some ⟨wb,0,none⟩),.int .i64 c] W fun r W'=>r=.returned (.tuple #[])∧Bx p wb tag W W':=by
 have b:∀{r:Ending} {W':World},(r=.returned (.tuple #[])∧∃tag',cb W' wb tag' V (rlP p c)∧Kt tag tag' W W')->r=.returned (.tuple #[])∧Bx p wb tag W W':=by
  rintro r W' ⟨j,tag',i,kt⟩;exact⟨j,tag',V,_,kt,i,h.rs (h.w.settle a) (Hj p c)⟩
 rcases h.w.m.tk.q.cr c with e|⟨t,e,_,g,_⟩
 ·exact (ri wb tag V p c W bt h.w.fits h.s a e).mono fun _ _=>b
 ·have d:=iM (p:=p) (f:=t) (by rw[g];decide)
  cases hd:dmB p (tnV p) t with
  |true=>exact (rj wb tag V p c t W bt h.w.fits h.s a d e hd).mono fun _ _=>b
  |false=>exact (sN wb tag V p c t W bt h.w.fits (fun l hl=>by have:=h.w.Jv.2 l hl;omega) h.s a d ((xl d).trans g) e hd).mono fun _ _=>b
