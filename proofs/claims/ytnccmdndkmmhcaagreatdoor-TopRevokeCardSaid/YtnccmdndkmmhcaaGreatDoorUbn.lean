/- Ubn -/
import Derived.Deep.RegionWith
import Derived.Deep.RegionHeld3
import Derived.BigQuiet
import Derived.Test.YtnccmdndkmmhcaaGreatDoorUbl
set_option maxRecDepth 100000
set_option maxHeartbeats 16000000
namespace Go.Proofs.YtnccmdndkmmhcaaGreatDoor
namespace IP
theorem tR (v:Int) (has:Bool) (lo hi:Int):tQ v has lo hi=true↔(has=true->lo<=v∧v<=hi)∧(has=false->v=0):=by
 unfold tQ
 cases has<;>simp
theorem zX {o a b i:Int} (h:may o a b i=0):0<=o∧o<=14∧0<=a∧a<=7∧0<=b∧b<=7∧ -32768<=i∧i<=32767:=by
 unfold may at h;split at h
 ·omega
 split at h
 ·rename_i h1 h2;obtain⟨x,y,z⟩:=h2;rw[tR] at x y z;have A:0<=a∧a<=7:=by cases hh:hA o with
   |true=>exact x.1 hh
   |false=>have:=x.2 hh;omega
  have B:0<=b∧b<=7:=by cases hh:hB o with
   |true=>exact y.1 hh
   |false=>have:=y.2 hh;omega
  have C: -32768<=i∧i<=32767:=by cases hh:hC o with
   |true=>exact z.1 hh
   |false=>have:=z.2 hh;omega
  omega
 ·omega
theorem xE (o a b i:Int):may o a b i=
  if o<0∨14<o then 1
  else if (a<0∨7<a)∨(b<0∨7<b)∨i< -32768∨32767<i∨(hA o=false∧a≠0)∨(hB o=false∧b≠0)∨(hC o=false∧i≠0) then 2 else 0:=by
 unfold may;by_cases h:o<0∨14<o
 ·rw[ag h,ag h]
 rw[ae h,ae h];simp only[tR]
 cases hA o<;>cases hB o<;>cases hC o<;>simp<;>(split<;>split<;>omega)
def dI (y:Int):Int:=if 32767<y then y - 65536 else y
end IP
namespace Isa
open Go.RowKit Mem
theorem Cn (o:Int) (w:World):
  Calls Tryz.prog 257 #[.int .i64 o] w fun e w'=>e=.returned (.tuple #[.bool (IP.hA o),.bool (IP.hB o),.bool (IP.hC o)])∧w=w':=by
 by_cases a:o=0
 ·subst a;go_enter Tryz.func257,Tryz.ntmps257
  go_wp2
  go_ret3
  exact⟨rfl,rfl⟩
 by_cases b:o=1
 ·subst b;go_enter Tryz.func257,Tryz.ntmps257
  go_wp2
  go_ret3
  exact⟨rfl,rfl⟩
 by_cases g:o=13
 ·subst g;go_enter Tryz.func257,Tryz.ntmps257
  go_wp2
  go_ret3
  exact⟨rfl,rfl⟩
 by_cases c:o=10
 ·subst c;go_enter Tryz.func257,Tryz.ntmps257
  go_wp2
  go_ret3
  exact⟨rfl,rfl⟩
 by_cases d:o=11
 ·subst d;go_enter Tryz.func257,Tryz.ntmps257
  go_wp2
  go_ret3
  exact⟨rfl,rfl⟩
 by_cases f:o=12
 ·subst f;go_enter Tryz.func257,Tryz.ntmps257
  go_wp2
  go_ret3
  exact⟨rfl,rfl⟩
 by_cases h:o=14
 ·subst h;go_enter Tryz.func257,Tryz.ntmps257
  go_wp2
  go_ret3
  exact⟨rfl,rfl⟩
 have i:=beq_eq_false_iff_ne.2 a;have e1:=beq_eq_false_iff_ne.2 b;have l:=beq_eq_false_iff_ne.2 g;have e10:=beq_eq_false_iff_ne.2 c;have j:=beq_eq_false_iff_ne.2 d;have k:=beq_eq_false_iff_ne.2 f;have m:=beq_eq_false_iff_ne.2 h;rw[show IP.hA o=true from by simp[IP.hA];omega,show IP.hB o=true from by simp[IP.hB];omega,show IP.hC o=false from by simp[IP.hC];omega];go_enter Tryz.func257,Tryz.ntmps257
 go_wp2
 go_ret3
 exact⟨rfl,rfl⟩
theorem ob (o a b i:Int) (w:World):
  Calls Tryz.prog 229 #[.agg #[.int .i64 o,.int .i64 a,.int .i64 b,.int .i64 i]] w
   fun e w'=>e=.returned (.int .i64 (IP.may o a b i))∧Below w.heap.size w w':=by
 go_enter Tryz.func229,Tryz.ntmps229
 go_wp2_with (first|(go_at_call 62;refine (fy _ _ _).mono ?_;rintro e w' ⟨rfl,rfl⟩)|(go_at_call 257;refine (Cn _ _).mono ?_;rintro e w' ⟨rfl,rfl⟩))
 all_goals
  go_ret
  refine⟨pS ?_,bal (af _ _) _⟩;rw[IP.xE];simp at*
  (repeat' split)<;>simp_all<;>omega
theorem nS {W:World} {C:Nat} {a:Array Value} (h:∀o,W.cell? ⟨C,o,none⟩=a[o]?):∀o,W.drew.cell? ⟨C,o,none⟩=a[o]? :=h
theorem vj (x y:Int) (w:World) (d:IP.word x y):
  Calls Tryz.prog 180 #[.agg #[.int .i64 x,.int .i64 y]] w
   fun e w'=>e=.returned (.tuple #[.agg #[.int .i64 (x/256),.int .i64 (x/16%16),.int .i64 (x%16),.int .i64 (IP.dI y)],.bool (IP.may (x/256) (x/16%16) (x%16) (IP.dI y)==0)])∧Below w.heap.size w w':=by
 obtain⟨i,x1,j,k⟩:=d;have d1:decide (x<0∨65535<x)=false:=aw oA;have d2:decide (y<0∨65535<y)=false:=aw oA;by_cases hi:32767<y
 ·rw[show IP.dI y=(y - 65536) from by unfold IP.dI;rw[ag hi]];go_enter Tryz.func180,Tryz.ntmps180
  go_wp2_with fail
  refine (fy _ _ _).mono ?_;rw[d1];rintro e w' ⟨rfl,rfl⟩;go_wp2_with fail
  refine (fy _ _ _).mono ?_;rw[d2];rintro e w' ⟨rfl,rfl⟩;go_wp2_with fail
  go_region_with (go_at_call 229;refine (ob _ _ _ _ _).mono ?_;rintro e w1 ⟨rfl,a⟩;obtain⟨c,f⟩:=se a;have h:w.heap.size+1+1<w1.heap.size:=(by have:=a.size;simp at this;omega);have g:w.heap.size+1<w1.heap.size:=oA;have z0:w.heap.size<w1.heap.size:=oA)
  all_goals
   go_wp2
   have b:=jA (v0:=.int .i64 (x/256)) (v1:=.int .i64 (x/16%16)) (v2:=.int .i64 (x%16)) (v3:=.int .i64 (y - 65536)) (cT (nS (fe (ir (w.alloc (.cells #[.int .i64 x,.int .i64 y] 158)) zQ 161 (w.heap.size+1) oS) oS _)) (by simp<;>omega) a);refine ar (v:=.tuple #[.agg #[.int .i64 (x/256),.int .i64 (x/16%16),.int .i64 (x%16),.int .i64 (y - 65536)],.bool (IP.may (x/256) (x/16%16) (x%16) (y - 65536)==0)]) (by simp[results,Tryz.results180,go_sem,b]) rfl ⟨rfl,?_⟩;exact iq (iq (iq (iq (btr (bal (bal (bal (af _ _) _) _) _).drew a) oS _) oS _) oS _) oS _
 ·rw[show IP.dI y=y from by unfold IP.dI;rw[ae hi]];go_enter Tryz.func180,Tryz.ntmps180
  go_wp2_with fail
  refine (fy _ _ _).mono ?_;rw[d1];rintro e w' ⟨rfl,rfl⟩;go_wp2_with fail
  refine (fy _ _ _).mono ?_;rw[d2];rintro e w' ⟨rfl,rfl⟩;go_wp2_with fail
  go_region_with (go_at_call 229;refine (ob _ _ _ _ _).mono ?_;rintro e w1 ⟨rfl,a⟩;obtain⟨c,f⟩:=se a;have h:w.heap.size+1+1<w1.heap.size:=(by have:=a.size;simp at this;omega);have g:w.heap.size+1<w1.heap.size:=oA;have z0:w.heap.size<w1.heap.size:=oA)
  all_goals
   go_wp2
   have b:=jA (v0:=.int .i64 (x/256)) (v1:=.int .i64 (x/16%16)) (v2:=.int .i64 (x%16)) (v3:=.int .i64 y) (cT (nS (fe (ir (w.alloc (.cells #[.int .i64 x,.int .i64 y] 158)) zQ 161 (w.heap.size+1) oS) oS _)) (by simp<;>omega) a);refine ar (v:=.tuple #[.agg #[.int .i64 (x/256),.int .i64 (x/16%16),.int .i64 (x%16),.int .i64 y],.bool (IP.may (x/256) (x/16%16) (x%16) y==0)]) (by simp[results,Tryz.results180,go_sem,b]) rfl ⟨rfl,?_⟩;exact iq (iq (iq (iq (btr (bal (bal (bal (af _ _) _) _) _).drew a) oS _) oS _) oS _) oS _
theorem Fa (x y:Int) (w:World) (c:0<=x∧x<=65535) (d:0<=y∧y<=65535):
  Calls Tryz.prog 180 #[.agg #[.int .i64 x,.int .i64 y]] w fun e w'=>∃(o a b i:Int) (ok:Bool),e=.returned (.tuple #[.agg #[.int .i64 o,.int .i64 a,.int .i64 b,.int .i64 i],.bool ok])∧(ok=true->(0<=o∧o<=14)∧(0<=a∧a<=7)∧(0<=b∧b<=7)∧(-32768<=i∧i<=32767))∧Below w.heap.size w w':=
 (vj x y w ⟨c.1,c.2,d.1,d.2⟩).mono fun e w' ⟨f,g⟩=>⟨_,_,_,_,_,f,fun h=>by
  obtain⟨j,k,a0,a1,b0,b1,i0,i1⟩:=IP.zX (bz.1 h);exact⟨⟨j,k⟩,⟨a0,a1⟩,⟨b0,b1⟩,i0,i1⟩,g⟩
end Isa
namespace Wd
open Go.RowKit Mem Bw Nums Mmu
def Dn (p:PW) (wb:Nat) (tag0:Nat->Nat) (w0:World) (l:List Nat) (W:World):Prop:=
 ∃tag V q,cb W wb tag V q∧Rm p q∧Kt tag0 tag w0 W∧(∀k∈l,tag k=0∧w0.heap.size<=k∧k<W.heap.size)∧w0.rangeAt wb 0 (de V).toList
theorem Dn.start {p:PW} {wb:Nat} {tag:Nat->Nat} {V:Nat->Value} {w:World} (a:Lv p) (bt:cb w wb tag V p):Dn p wb tag w [] w:=⟨tag,V,p,bt,Rm.refl a,ew _ _,(fun _ h=>by cases h),bt.r⟩
theorem Dn.own {p:PW} {wb:Nat} {tag0:Nat->Nat} {w0 W:World} {l:List Nat} (h:Dn p wb tag0 w0 l W) {k:Nat} (hk:k∈l):k<W.heap.size:=by
 obtain⟨tag,V,q,_,_,_,o,_⟩:=h;exact (o k hk).2.2
theorem Dn.alloc {p:PW} {wb:Nat} {tag0:Nat->Nat} {w0 W:World} {l:List Nat} (h:Dn p wb tag0 w0 l W) (o:Obj):Dn p wb tag0 w0 (W.heap.size::l) (W.alloc o):=by
 obtain⟨tag,V,q,bt,g,kt,ow,i⟩:=h;have b:Kp (fun _=>False) W (W.alloc o):=.IM (bal (af _ _) o);have a:∀k,k<W.heap.size->(if k<W.heap.size then tag k else 0)=tag k:=fun k hk=>ag hk;have j:(W.alloc o).heap.size=W.heap.size+1:=oS;have ks:=kt.k.size;refine⟨fun k=>if k<W.heap.size then tag k else 0,V,q,bt.kp b (fun _ _ e=>e.elim) a,g,kt.trans (.of b (fun _ e=>e.elim) a),fun k hk=>?_,i⟩;rcases bK.1 hk with rfl|hk
 ·exact⟨ae (Nat.lt_irrefl _),ks,oA⟩
 ·obtain⟨c,d,f⟩:=ow k hk;exact⟨(a k f).trans c,d,oA⟩
theorem Dn.kp {p:PW} {wb:Nat} {tag0:Nat->Nat} {w0 W W':World} {l:List Nat} (h:Dn p wb tag0 w0 l W) (k:Kp (fun k=>k∈l) W W'):Dn p wb tag0 w0 l W':=by
 obtain⟨tag,V,q,bt,i,kt,ow,j⟩:=h;have ks:=kt.k.size;refine⟨tag,V,q,bt.kp k (fun b _ a=>(ow b a).1) (fun _ _=>rfl),i,⟨⟨k.os.trans kt.k.os,k.tape.trans kt.k.tape,k.output.trans kt.k.output,aB ks k.size,fun b a g=>(k.block b oA (fun f=>by have:=(ow b f).2.1;omega)).trans (kt.k.block b a g)⟩,kt.t⟩,fun b a=>?_,j⟩;obtain⟨c,d,e⟩:=ow b a;exact⟨c,d,aE e k.size⟩
theorem Dn.below {p:PW} {wb:Nat} {tag0:Nat->Nat} {w0 W W':World} {l:List Nat} (h:Dn p wb tag0 w0 l W) (a:Below W.heap.size W W'):Dn p wb tag0 w0 l W':=h.kp (.IM a)
theorem Dn.less {p:PW} {wb:Nat} {tag0:Nat->Nat} {w0 W:World} {l m:List Nat} (h:Dn p wb tag0 w0 l W) (a:∀k∈m,k∈l):Dn p wb tag0 w0 m W:=by
 obtain⟨tag,V,q,bt,b,kt,ow,c⟩:=h;exact⟨tag,V,q,bt,b,kt,fun k hk=>ow k (a k hk),c⟩
theorem Dn.step {p q:PW} {wb:Nat} {tag0 tag tag':Nat->Nat} {V:Nat->Value} {w0 W W':World} {l:List Nat} (g:Rm p q) (kt:Kt tag0 tag w0 W) (ow:∀k∈l,tag k=0∧w0.heap.size<=k∧k<W.heap.size) {a:PW} (i:w0.rangeAt wb 0 (de V).toList) (k2:Kt tag tag' W W') (b2:cb W' wb tag' V a) (f:Rm q a):
  Dn p wb tag0 w0 l W'∧Kp (fun k=>k∉l) W W':=
 ⟨⟨tag',V,a,b2,g.trans f,kt.trans k2,fun k hk=>by
  obtain⟨c,d,b⟩:=ow k hk;exact⟨k2.t k b c,d,aE b k2.k.size⟩,i⟩,k2.k.wider fun k _ h e=>h (ow k e).1⟩
theorem Dn.load {p:PW} {wb:Nat} {tag0:Nat->Nat} {w0 W:World} {l:List Nat} (h:Dn p wb tag0 w0 l W) {b2 b3 b4 c t:Nat} (n:c<p.IK.length) (m:p.k t=6) (cs:je [(b2,ptr wb),(b3,.int .i64 (c:Int)),(b4,.int .i64 (t:Int))] tag0 w0) (a:Int):
  Calls Tryz.prog 127 #[.int .i64 a,ptr b2,ptr b3,ptr b4] W fun r W'=>∃(v:Int) (ok:Bool),r=.returned (.tuple #[.int .i64 v,.bool ok])∧(0<=v∧v<=65535)∧Dn p wb tag0 w0 l W'∧Kp (fun k=>k∉l) W W':=by
 obtain⟨tag,V,q,bt,s,kt,ow,u⟩:=h;obtain⟨b,X,R,e⟩:=s;refine (CC wb tag V q b2 b3 b4 c t a W bt b.w (by rw[b.c];exact n) (by rw[e];exact m) (cs.kt kt)).mono ?_;rintro r W' ⟨v,ok,i,j,tag',x,k2,d,o⟩;obtain⟨f,g⟩:=Dn.step (l:=l) ⟨b,X,R,e⟩ kt ow u k2 d o;exact⟨v,ok,i,j,f,g⟩
theorem Dn.store {p:PW} {wb:Nat} {tag0:Nat->Nat} {w0 W:World} {l:List Nat} (h:Dn p wb tag0 w0 l W) {b2 b3 b4 c t:Nat} (m:c<p.IK.length) (j:p.k t=6) (cs:je [(b2,ptr wb),(b3,.int .i64 (c:Int)),(b4,.int .i64 (t:Int))] tag0 w0) (a v:Int) (hv:0<=v∧v<=65535):
  Calls Tryz.prog 129 #[.int .i64 a,.int .i64 v,ptr b2,ptr b3,ptr b4] W fun r W'=>∃ok:Bool,r=.returned (.bool ok)∧Dn p wb tag0 w0 l W'∧Kp (fun k=>k∉l) W W':=by
 obtain⟨tag,V,q,bt,o,kt,ow,s⟩:=h;obtain⟨b,X,R,e⟩:=o;refine (Av wb tag V q b2 b3 b4 c t a v hv W bt b.w (by rw[b.c];exact m) (by rw[e];exact j) (cs.kt kt)).mono ?_;rintro r W' ⟨ok,i,tag',u,k2,d,n⟩;obtain⟨f,g⟩:=Dn.step (l:=l) ⟨b,X,R,e⟩ kt ow s k2 d n;exact⟨ok,i,f,g⟩
theorem Dn.pre {p:PW} {wb:Nat} {tag0:Nat->Nat} {w0 w1 W:World} {b:Nat} (h:Dn p wb tag0 w1 [] W) (c:Below w0.heap.size w0 w1) (d:w0.heap.size<=b) (a:b<w1.heap.size) (f:tag0 b=0) (e:wb<w0.heap.size):Dn p wb tag0 w0 [b] W:=by
 obtain⟨tag,V,q,bt,g,kt,_,i⟩:=h;exact⟨tag,V,q,bt,g,(bp c).trans kt,fun k hk=>by rw[dm.1 hk];exact⟨kt.t b a f,d,aE a kt.k.size⟩,fun j v hv=>(c.cell (p:=⟨wb,0+j,none⟩) e).symm.trans (i j v hv)⟩
structure Gq (f g:Nat->Int):Prop where
 w:∀k,k<9->0<=g k∧g k<=65535
 s:∀k,9<=k->g k=f k
theorem Gq.refl {f:Nat->Int} (h:∀k,k<9->0<=f k∧f k<=65535):Gq f f:=⟨h,fun _ _=>rfl⟩
theorem Gq.Jv {f g:Nat->Int} (h:Gq f g) {k:Nat} (hk:k<9) {v:Int} (hv:0<=v∧v<=65535):Gq f (upd g k v):=by
 refine⟨fun j a=>?_,fun j a=>?_⟩
 ·unfold Wd.upd;split
  ·exact hv
  ·exact h.w j a
 ·unfold Wd.upd;rw[ae oA];exact h.s j a
theorem El (n:Nat) (f:Nat->Int) (k:Nat) (v:Int):(cf n f).set k (.int .i64 v)=cf n (upd f k v):=by
 apply List.ext_getElem?;intro j;rw[List.getElem?_set];unfold cf Wd.upd;by_cases e:k=j
 ·subst e;by_cases a:k<n
  ·simp[a]
  ·simp[a]
 ·rw[ae e];by_cases a:j<n
  ·simp[a,Ne.symm e]
  ·simp[a]
structure Gw (W:World) (f g:Nat->Int) (o A B i:Int) (b r c n:Nat):Prop where
 t:W.rangeAt b 0 (cf 20 f)
 r:W.there r 0 20
 i0:W.cell? ⟨c,0,none⟩=some (.int .i64 o)
 i1:W.cell? ⟨c,1,none⟩=some (.int .i64 A)
 i2:W.cell? ⟨c,2,none⟩=some (.int .i64 B)
 i3:W.cell? ⟨c,3,none⟩=some (.int .i64 i)
 m:W.rangeAt n 0 (cf 20 g)
 nt:W.there n 0 20
 d:b≠n∧c≠n
theorem Gw.set {W:World} {f g:Nat->Int} {o A B i:Int} {b r c n:Nat} (h:Gw W f g o A B i b r c n) (k:Nat) (hk:k<20) (v:Int):Gw (W.setCell ⟨n,k,none⟩ (.int .i64 v)) f (upd g k v) o A B i b r c n where
 t:=rp h.t (Ne.symm h.d.1) _
 r:=ib h.r _ _
 i0:=(aO W _ _ _ (by intro e;have:=dF Addr.block e;exact h.d.2 this.symm)).trans h.i0
 i1:=(aO W _ _ _ (by intro e;have:=dF Addr.block e;exact h.d.2 this.symm)).trans h.i1
 i2:=(aO W _ _ _ (by intro e;have:=dF Addr.block e;exact h.d.2 this.symm)).trans h.i2
 i3:=(aO W _ _ _ (by intro e;have:=dF Addr.block e;exact h.d.2 this.symm)).trans h.i3
 m:=by rw[<-El];exact m6 h.m (by rw[ay];exact hk) _
 nt:=ib h.nt _ _
 d:=h.d
theorem Gw.kept {W e:World} {f g:Nat->Int} {o A B i:Int} {b r c n:Nat} {T:Nat->Prop} (h:Gw W f g o A B i b r c n) (k:Kp T W e) (l:¬T b) (p:¬T r) (a:¬T c) (j:¬T n):Gw e f g o A B i b r c n:=
 ⟨eM h.t k l,eg h.r k p,(k.cell (aj _ _ h.i0) a).trans h.i0,(k.cell (aj _ _ h.i1) a).trans h.i1,(k.cell (aj _ _ h.i2) a).trans h.i2,(k.cell (aj _ _ h.i3) a).trans h.i3,eM h.m k j,eg h.nt k j,h.d⟩
theorem zC {W:World} {f:Nat->Int} {o A B i:Int} {b r:Nat} {z:Array Value} (h:z.size=20) (t:W.rangeAt b 0 (cf 20 f)) (e:W.there r 0 20) (c:b<W.heap.size) (u v:TypeId):
  Gw (((W.alloc (.cells #[.int .i64 o,.int .i64 A,.int .i64 B,.int .i64 i] u)).alloc (.cells z v)).setCells (W.heap.size+1) 0 (cf 20 f)) f f o A B i b r W.heap.size (W.heap.size+1):=by
 have g:=fe (cq W #[.int .i64 o,.int .i64 A,.int .i64 B,.int .i64 i] u) oS (.cells z v);have a:∀k,(((W.alloc (.cells #[.int .i64 o,.int .i64 A,.int .i64 B,.int .i64 i] u)).alloc (.cells z v)).setCells (W.heap.size+1) 0 (cf 20 f)).cell? ⟨W.heap.size,k,none⟩=(#[.int .i64 o,.int .i64 A,.int .i64 B,.int .i64 i]:Array Value)[k]? :=fun k=>by
  rw[gW oA];exact g k
 exact {
  t:=World.rangeAt_setCells_apart (World.rangeAt_alloc (World.rangeAt_alloc t _) _) _ _ _ (.inl oA)
  r:=World.there_setCells (World.there_alloc (World.there_alloc e _) _) _ _ _
  i0:=a 0
  i1:=a 1
  i2:=a 2
  i3:=a 3
  m:=World.rangeAt_setCells_same _ _ _ _ (by rw[ay];exact aP _ _ _ _ _ oS oA)
  nt:=World.there_setCells (aP _ _ _ _ _ oS oA) _ _ _
  d:=⟨Nat.ne_of_lt (Nat.lt_succ_of_lt c),Nat.ne_of_lt (dM _)⟩}
def lM (g:Nat->Int) (ev n:Int):Value:=.tuple #[.agg (cf 20 g).toArray,.int .i64 ev,.int .i64 n]
def yR (p:PW) (wb:Nat) (tag0:Nat->Nat) (w0:World) (f:Nat->Int) (e:Ending) (w':World):Prop:=
 ∃g ev n,e=.returned (lM g ev n)∧Gq f g∧(0<=ev∧ev<=3)∧(-32768<=n∧n<=65535)∧(ev=2-> -1<=n)∧Dn p wb tag0 w0 [] w'
theorem rO (wb:Nat) (tag:Nat->Nat) (V:Nat->Value) (p:PW) (t:Nat) (d:Int) (W:World) (bt:cb W wb tag V p) (c:p.Fits) (e:t<p.II.length) (b:¬p.II.getD t bl 17= -1):
  Calls Tryz.prog 232 #[.pointer (some ⟨wb,0,none⟩),.int .i64 t,.int .i64 d] W fun r W'=>r=.returned (.int .i64 7)∧W=W':=by
 have j:(p.II.length:Int)<=1000:=by have:=c.II;omega
 have k:(t:Int)<(p.II.length:Int):=oA;obtain⟨i,h,a⟩:=bt.o.II.form oA;have g:=bD bt a;have f:=bt.IS a e (show 17<20 by omega);generalize p.II.getD t bl 17=y at f b;have l:(y== -1)=false:=by simpa using b
 go_enter Tryz.func232,Tryz.ntmps232
 go_wp2_with fail
 go_ret
 exact⟨rfl,rfl⟩
theorem rP (wb:Nat) (tag:Nat->Nat) (V:Nat->Value) (p:PW) (t d:Nat) (W:World) (bt:cb W wb tag V p) (b:p.Fits) (c:t<p.II.length) (k:d<p.lines.length) (i:p.II.getD t bl 17= -1)
  (l:Calls Tryz.prog 183 #[.pointer (some ⟨wb,0,none⟩),.int .i64 d,.bool false] W fun r W'=>r=.returned (.int .i64 (-1))∧W=W'):
  Calls Tryz.prog 232 #[.pointer (some ⟨wb,0,none⟩),.int .i64 t,.int .i64 d] W fun r W'=>r=.returned (.int .i64 0)∧∃tag',cb W' wb tag' V (ssP p t d 4)∧Kt tag tag' W W':=by
 have v:(p.II.length:Int)<=1000:=by have:=b.II;omega
 have w:(t:Int)<(p.II.length:Int):=oA;obtain⟨u,s,a⟩:=bt.o.II.form oA;have q:=bD bt a;have n:=bt.IS a c (show 17<20 by omega);have f:=hid l;have g:=hid (lq wb tag V p t d 4 W bt b c k);rw[i] at n;go_enter Tryz.func232,Tryz.ntmps232
 go_wp2_with fail
 refine f.mono ?_;rintro r w1 ⟨rfl,rfl⟩;go_wp2_with fail
 refine g.mono ?_;rintro r w2 ⟨rfl,m,j,k2⟩;have e:=hid j;have h:=hid k2;go_wp2_with fail
 go_ret
 exact⟨rfl,m,e.out,h.out⟩
theorem tr (wb:Nat) (tag:Nat->Nat) (V:Nat->Value) (p:PW) (t d u:Nat) (l:List Int) (W:World) (bt:cb W wb tag V p) (D:p.Fits) (hs:Snd p) (M:t<p.II.length) (hd:d<p.lines.length) (am:p.II.getD t bl 17= -1) (hz:p.lines.getD d []=(u:Int)::l) (hu:u<p.kinds.length) (f:u<p.II.length) (hk:p.kinds[u]=6) (s:t≠u) (an:p.II.getD u bl 9=2∨p.II.getD u bl 9=3):
  Calls Tryz.prog 232 #[.pointer (some ⟨wb,0,none⟩),.int .i64 t,.int .i64 d] W fun r W'=>r=.returned (.int .i64 0)∧∃tag',cb W' wb tag' V (if p.II.getD u bl 9=3 then ((tkQ p d t u l).task u 9 5).task t 17 u else wnP (tkQ p d t u l) u (rdN p u))∧Kt tag tag' W W':=by
 have ay:(p.II.length:Int)<=1000:=by have:=D.II;omega
 have aA:(t:Int)<(p.II.length:Int):=oA;obtain⟨a,c,z⟩:=bt.o.II.form oA;have C:=bD bt z;have av:=bt.IS z M (show 17<20 by omega);obtain⟨r1,r2,r3,r4⟩:=m9 hs hu hk;have az:=F5 D hz;have HF:=hid (mI wb tag V p d false W bt D hd u l hz f (aw oA));have ao:=kX D d u l oA;have aq:=Az D d t u l oA;obtain⟨g,hg⟩:∃g,p.II.getD u bl 16=g:=⟨_,rfl⟩
 obtain⟨v,hv⟩:∃v,p.II.getD u bl 15=v:=⟨_,rfl⟩
 have Q:=hid ((sD p d u l 16 f oD).trans hg);have U:=hid ((sD p d u l 15 f oD).trans hv);have ah:=hid (jT p d u l);have HH:=hid (fun X tg (h:cb X wb tg V (frP p d u l))=>iG wb tg V (frP p d u l) t g v X h ao (by rw[jT];exact M));have HQ:=hid (show (((((frP p d u l).task t 1 g).task t 2 v).task u 16 0).task u 15 0)=tkQ p d t u l by rw[<-hg, <-hv];exact Dx p d t u l s f);have ac:=hid (show (((frP p d u l).task t 1 g).task t 2 v).II.getD u bl 15=v by rw[gJ _ u t 2 _ s,gJ _ u t 1 _ s];exact U);have ad:=hid (show (((frP p d u l).task t 1 g).task t 2 v).II.getD u bl 16=g by rw[gJ _ u t 2 _ s,gJ _ u t 1 _ s];exact Q);have x:=hid (show (((frP p d u l).task t 1 g).task t 2 v).II.length=p.II.length by rw[ap,ap,jT]);have n:=hid (yG p d t u l);have L9:=hid (yF p d t u 9 l s f oD oD oD);have ab:=yF p d t u 18 l s f oD oD oD;have aa:=yF p d t u 10 l s f oD oD oD;have HW:=hid (fun X tg (h:cb X wb tg V (tkQ p d t u l))=>gN wb tg V (tkQ p d t u l) u (rdN p u) X h aq (by rw[yG];exact f) r1 (by rw[ab];exact r3) (by rw[aa];exact r4) (by rw[ab,aa];exact r2));have Z:=hid (fun X tg q (h:cb X wb tg V q) (H:q.II.length=p.II.length) (aj:q.II.getD u bl 15=v) (al:q.II.getD u bl 16=g)=>show X.cell? ⟨wb,3,none⟩=some (.slice (some ⟨a,0,none⟩) p.II.length c)∧X.cell? ⟨a,u*20+16,none⟩=some (.int .i64 g)∧X.cell? ⟨a,u*20+15,none⟩=some (.int .i64 v) from⟨by rw[ai h.r (k:=3) rfl,z],by have e:=h.IS (show V 3=.slice (some ⟨a,0,none⟩) q.II.length c by rw[H];exact z) (i:=u) (by rw[H];exact f) (show 16<20 by omega);rw[al] at e;exact e,by have e:=h.IS (show V 3=.slice (some ⟨a,0,none⟩) q.II.length c by rw[H];exact z) (i:=u) (by rw[H];exact f) (show 15<20 by omega);rw[aj] at e;exact e⟩);have aB:¬((u:Int)<0):=oA;have aC:(u:Int)<(p.II.length:Int):=oA;have j:=hid z;have T:=hid M;have w:=hid f;have af:=hid an;rw[am] at av;generalize hR:(if p.II.getD u bl 9=3 then ((tkQ p d t u l).task u 9 5).task t 17 u else wnP (tkQ p d t u l) u (rdN p u))=R;have F:=hid hR;go_enter Tryz.func232,Tryz.ntmps232
 go_wp2_with fail
 refine HF.mono ?_;rintro r w1 ⟨rfl,ar,e,k1⟩;have B1:=hid e;have K1:=hid k1;go_upto_region 7 with fail
 have P:=hid (B1.below (aD w1 1));have KD:=hid (K1.trans (.below (aD w1 1)));refine wp_region_held_drew (S:=fun X=>X.cell? ⟨wb,3,none⟩=some (.slice (some ⟨a,0,none⟩) p.II.length c)∧X.cell? ⟨a,u*20+16,none⟩=some (.int .i64 g)∧X.cell? ⟨a,u*20+15,none⟩=some (.int .i64 v)) oK (Z.out _ _ _ P ah U Q) (fun L=>?_);have b:=hid L;refine tk 0 (.pointer (some ⟨wb,0,none⟩)) rfl b ?_;simp only[jj];refine tk 1 (.int .i64 t) rfl b ?_;simp only[jj];refine tk 2 (.pointer (some ⟨wb,0,none⟩)) rfl b ?_;simp only[jj];refine tk 3 (.pointer (some ⟨wb,0,none⟩)) rfl b ?_;simp only[jj];refine tk 4 (.pointer (some ⟨wb,3,none⟩)) rfl b ?_;simp only[jj];refine Mem.tg 5 (.slice (some ⟨a,0,none⟩) p.II.length c) rfl (Or.inl ⟨oR,fun W h=>by have A:=h.1;clear h;go_simp⟩) b ?_;simp only[jj];refine tk 6 (.int .i64 u) rfl b ?_;simp only[jj];refine tk 7 (.pointer (some ⟨a,u*20,none⟩)) rfl b ?_;simp only[jj];refine tk 8 (.pointer (some ⟨a,u*20+16,none⟩)) rfl b ?_;simp only[jj];refine Mem.tg 9 (.int .i64 g) rfl (Or.inl ⟨oR,fun W h=>by have A:=h.2.1;clear h;go_simp⟩) b ?_;simp only[jj];refine tk 10 (.pointer (some ⟨wb,0,none⟩)) rfl b ?_;simp only[jj];refine tk 11 (.pointer (some ⟨wb,0,none⟩)) rfl b ?_;simp only[jj];refine tk 12 (.pointer (some ⟨wb,3,none⟩)) rfl b ?_;simp only[jj];refine Mem.tg 13 (.slice (some ⟨a,0,none⟩) p.II.length c) rfl (Or.inl ⟨oR,fun W h=>by have A:=h.1;clear h;go_simp⟩) b ?_;simp only[jj];refine tk 14 (.int .i64 u) rfl b ?_;simp only[jj];refine tk 15 (.pointer (some ⟨a,u*20,none⟩)) rfl b ?_;simp only[jj];refine tk 16 (.pointer (some ⟨a,u*20+15,none⟩)) rfl b ?_;simp only[jj];refine Mem.tg 17 (.int .i64 v) rfl (Or.inl ⟨oR,fun W h=>by have A:=h.2.2;clear h;go_simp⟩) b ?_;simp only[jj];refine wpAnyH_ready (rs:=[18]) oK oS (AllReadyH.cons rfl (fun K hK=>?_) AllReadyH.nil);go_simp
 refine (HH.out _ _ P).mono ?_;rintro q w2 ⟨rfl,e,G⟩;have B:=hid e;have K2:=hid (KD.trans G);go_wp2_with fail
 refine hK _ _ (Z.out _ _ _ B x ac ad) (fun L=>?_);have ax:=hid L
 try simp only[Act.put,jD,jE,jF]
 refine dw oK ?_ _;have e4:=hid (show V 3=.slice (some ⟨a,0,none⟩) (((frP p d u l).task t 1 g).task t 2 v).II.length c by rw[x.out];exact j);have C:=bD B j;have O:=B.IS e4 (i:=u) (by rw[x.out];exact w) (show 16<20 by omega);have J:=B.IT e4 (u*20+16);obtain⟨b1,q1⟩:=B.task e4 (i:=u) (by rw[x.out];exact w) (show 16<20 by omega) 0;have E:=hid b1;have K3:=hid (K2.trans q1);go_upto_region 9 with fail
 generalize World.setCell _ _ _=W3 at*;have e4:=hid (show V 3=.slice (some ⟨a,0,none⟩) ((((frP p d u l).task t 1 g).task t 2 v).task u 16 0).II.length c by rw[ap,x.out];exact j);have C:=bD E j;have O:=E.IS e4 (i:=u) (by rw[ap,x.out];exact w) (show 15<20 by omega);have J:=E.IT e4 (u*20+15);obtain⟨b1,q1⟩:=E.task e4 (i:=u) (by rw[ap,x.out];exact w) (show 15<20 by omega) 0;have m:=hid b1;have Y:=hid (K3.trans q1);go_upto_region 10 with fail
 generalize World.setCell _ _ _=W4 at*;rw[HQ.out] at m;have C:=bD m j;have N:=m.IS (show V 3=.slice (some ⟨a,0,none⟩) (tkQ p d t u l).II.length c by rw[n.out];exact j) (i:=u) (by rw[n.out];exact w) (show 9<20 by omega);rw[L9.out] at N;rcases af.out with G|A
 ·rw[ae (by rw[G];decide)] at F;rw[G] at N;go_wp2_with fail
  refine (HW.out _ _ m).mono ?_;rintro q w5 ⟨rfl,au,e,k1⟩;have y:=hid e;have I:=hid (Y.trans k1);go_wp2_with fail
  go_ret
  exact⟨rfl,au,by rw[<-F.out];exact y,I.out⟩
 ·rw[ag A] at F;rw[A] at N;go_upto_region 11 with fail
  have e4:=hid (show V 3=.slice (some ⟨a,0,none⟩) (tkQ p d t u l).II.length c by rw[n.out];exact j);have C:=bD m j;have O:=m.IS e4 (i:=u) (by rw[n.out];exact w) (show 9<20 by omega);have J:=m.IT e4 (u*20+9);obtain⟨b1,q1⟩:=m.task e4 (i:=u) (by rw[n.out];exact w) (show 9<20 by omega) 5;have y:=hid b1;have I:=hid (Y.trans q1);go_upto_region 12 with fail
  generalize World.setCell _ _ _=W5 at*;have e4:=hid (show V 3=.slice (some ⟨a,0,none⟩) ((tkQ p d t u l).task u 9 5).II.length c by rw[ap,n.out];exact j);have C:=bD y j;have O:=y.IS e4 (i:=t) (by rw[ap,n.out];exact T) (show 17<20 by omega);have J:=y.IT e4 (t*20+17);obtain⟨b1,q1⟩:=y.task e4 (i:=t) (by rw[ap,n.out];exact T) (show 17<20 by omega) u;have B6:=hid b1;have K6:=hid (I.trans q1);go_wp2_with fail
  go_ret
  exact⟨rfl,ar,by rw[<-F.out];exact B6,K6.out⟩
theorem nH (wb:Nat) (tag:Nat->Nat) (V:Nat->Value) (p:PW) (t:Nat) (v:Int) (W:World) (bt:cb W wb tag V p) (c:p.Fits) (d:t<p.II.length) (b:p.II.getD t bl 17= -1):
  Calls Tryz.prog 233 #[.pointer (some ⟨wb,0,none⟩),.int .i64 t,.int .i64 v] W fun r W'=>r=.returned (.int .i64 6)∧W=W':=by
 have i:(p.II.length:Int)<=1000:=by have:=c.II;omega
 have j:(t:Int)<(p.II.length:Int):=oA;obtain⟨h,g,a⟩:=bt.o.II.form oA;have f:=bD bt a;have e:=bt.IS a d (show 17<20 by omega);rw[b] at e;go_enter Tryz.func233,Tryz.ntmps233
 go_wp2_with fail
 go_ret
 exact⟨rfl,rfl⟩
theorem oQ (wb:Nat) (tag:Nat->Nat) (V:Nat->Value) (p:PW) (t u:Nat) (v:Int) (W:World) (bt:cb W wb tag V p) (e:p.Fits) (z:Snd p) (g:t<p.II.length) (w:p.II.getD t bl 17=u) (A:u<p.kinds.length) (B:u<p.II.length) (hk:p.kinds[u]=6) (d:t≠u):
  Calls Tryz.prog 233 #[.pointer (some ⟨wb,0,none⟩),.int .i64 t,.int .i64 v] W fun r W'=>r=.returned (.int .i64 0)∧∃tag',cb W' wb tag' V (wnP (((p.task t 17 (-1)).task u 1 0).task u 2 v) u (rdN p u))∧Kt tag tag' W W':=by
 have N:(p.II.length:Int)<=1000:=by have:=e.II;omega
 have O:(t:Int)<(p.II.length:Int):=oA;obtain⟨M,K,b⟩:=bt.o.II.form oA;have J:=bD bt b;have H:=bt.IS b g (show 17<20 by omega);obtain⟨D,E,F,r4⟩:=m9 z A hk;have a:u<(p.task t 17 (-1)).II.length:=by rw[ap];exact B
 have f:=fm e t 17 (-1);have l:=hid (fun X tg (h:cb X wb tg V (p.task t 17 (-1)))=>iG wb tg V (p.task t 17 (-1)) u 0 v X h f a);have c:(((p.task t 17 (-1)).task u 1 0).task u 2 v).II.getD u bl 18=p.II.getD u bl 18:=by rw[ia _ u 2 18 _ (by rw[ap];exact a) oD,ia _ u 1 18 _ a oD,gJ _ u t 17 _ d]
 have e10:(((p.task t 17 (-1)).task u 1 0).task u 2 v).II.getD u bl 10=p.II.getD u bl 10:=by rw[ia _ u 2 10 _ (by rw[ap];exact a) oD,ia _ u 1 10 _ a oD,gJ _ u t 17 _ d]
 have m:=hid (fun X tg (h:cb X wb tg V (((p.task t 17 (-1)).task u 1 0).task u 2 v))=>gN wb tg V (((p.task t 17 (-1)).task u 1 0).task u 2 v) u (rdN p u) X h (fm (fm f u 1 0) u 2 v) (by rw[ap,ap];exact a) D (by rw[c];exact F) (by rw[e10];exact r4) (by rw[c,e10];exact E));have P:¬((u:Int)= -1):=oA;have Q:((u:Int)== -1)=false:=oS;have L:=bt.IT b (t*20+17);obtain⟨b1,q1⟩:=bt.task b g (show 17<20 by omega) (-1);have i:=hid b1;have n:=hid q1;rw[w] at H;go_enter Tryz.func233,Tryz.ntmps233
 go_upto_region 5 with fail
 generalize World.setCell _ _ _=I at*;go_wp2_with fail
 refine (l.out _ _ i).mono ?_;rintro r w2 ⟨rfl,x,k2⟩;have j:=hid x;have q:=hid (n.trans k2);go_wp2_with fail
 refine (m.out _ _ j).mono ?_;rintro r R ⟨rfl,G,y,C⟩;have k:=hid y;have s:=hid (q.trans C);go_wp2_with fail
 go_ret
 exact⟨rfl,G,k.out,s.out⟩
theorem orW {a b:Int} (c:0<=a∧a<=65535) (d:0<=b∧b<=65535):0<=bits .or .i64 a b∧bits .or .i64 a b<=65535:=by
 have h:=Bw.Bc a.toNat b.toNat oA oA;rw[show ((a.toNat:Nat):Int)=a by omega,show ((b.toNat:Nat):Int)=b by omega] at h;rw[h];have:=Nat.or_lt_two_pow (n:=16) (show a.toNat<2 ^ 16 by omega) (show b.toNat<2 ^ 16 by omega);omega
theorem kd {p:PW} {a:Nat} {k:Int} (h:p.k a=k) (b:k≠0):∃c:a<p.kinds.length,p.kinds[a]=k:=⟨iN oA,by rw[vK];exact h⟩
theorem Ht (p:PW) (t d b v:Int) (c:Bool):Rs p (snP p t d b v c):=by
 unfold snP;split
 ·exact vB (((dR p).task _ _ _).task _ _ _)
 ·split
  ·unfold akP;exact ((((vH _ _ _ _ _ _).trans ((dR _).ls (L:=(wdP p d.toNat (fsV p d.toNat).toNat (p.lines.getD d.toNat []).tail b v).lines) (R:=(wdP p d.toNat (fsV p d.toNat).toNat (p.lines.getD d.toNat []).tail b v).ready) (B:=(wdP p d.toNat (fsV p d.toNat).toNat (p.lines.getD d.toNat []).tail b v).bits) (C:=(wdP p d.toNat (fsV p d.toNat).toNat (p.lines.getD d.toNat []).tail b v).IJ.map (noT t.toNat))))).task _ _ _).task _ _ _
  ·exact vH _ _ _ _ _ _
theorem Hv (p:PW) (t d:Int):Rs p (tkP p t d):=by
 unfold tkP;split
 ·exact vB (dR p)
 ·split
  ·exact ((uJ _ _ _ _ _).task _ _ _).task _ _ _
  ·exact (uJ _ _ _ _ _).wn _ _
theorem Gk (p:PW) (t v:Int):Rs p (anP p t v):=(((dR p).task _ _ _).task _ _ _).task _ _ _ |>.wn _ _
theorem Hm (p:PW) (a g:Int):Rs p (rgP p a g):=by
 unfold rgP;split
 ·exact (dR p).ls (L:=p.lines) (R:=p.ready) (C:=p.IJ)
 ·exact vH _ _ _ _ _ _
theorem GS (p:PW) (t a:Int):Rs p (hbP p t a):=by
 unfold hbP;split
 ·exact vB (dR p)
 ·exact (((dR p).task t.toNat 1 0).task t.toNat 2 (p.bits.getD a.toNat 0)).ls (L:=p.lines) (R:=p.ready) (C:=p.IJ) (B:=p.bits.set a.toNat 0)
theorem Lw.Ko {p:PW} (h:Lw p):∀l∈p.ready,l.length<=50:=fun l hl=>by have:=h.JC.2 l hl;omega
theorem iX {p:PW} (h:Lv p) {D t d:Nat} {b v:Int} {c:Bool} (x:p.co D=t) (y:p.k d=7) (G:0<=b∧b<=65535) (hv:0<=v∧v<=65535) (W:World) (wb:Nat) (tag:Nat->Nat) (V:Nat->Value) (bt:cb W wb tag V p):
  Calls Tryz.prog 133 #[.pointer (some ⟨wb,0,none⟩),.int .i64 t,.int .i64 d,.int .i64 b,.int .i64 v,.bool c] W fun r W'=>r=.returned (.tuple #[])∧Bx p wb tag W W':=by
 have i:=h.s;obtain⟨_,E,_⟩:=h.w.m.tk.q.inc x;have A:=h.w.m.tk.tl E;have f:=(h.w.m.tk.JP y).2;have H:=h.rs (h.w.send (b:=b) (v:=v) (cl:=c) x y G hv) (Ht p t d b v c);have B:Calls Tryz.prog 133 #[.pointer (some ⟨wb,0,none⟩),.int .i64 t,.int .i64 d,.int .i64 b,.int .i64 v,.bool c] W fun r W'=>r=.returned (.tuple #[])∧∃tag',cb W' wb tag' V (snP p t d b v c)∧Kt tag tag' W W':=by
  rcases zA i f with o|⟨u,l,j,o,a,I,F,n⟩
  ·rw[F1 b v c o];refine rI wb tag V p t d b v c W bt h.w.fits A f ?_
   cases a:p.lines.getD d [] with
   |nil=>exact qG wb tag V p d true W bt h.w.fits f a
   |cons z l=>
    obtain⟨u,j,rfl,hk,F⟩:=iH i f a;exact tT wb tag V p d true W bt h.w.fits f u l a (by rw[i.lf.II];exact j) (fun e=>by
     have n:=aA e;have J:fsV p d=u:=by unfold fsV;rw[a];show (if p.II.getD u bl 9=4 then (u:Int) else -1)=u;rw[ag n]
     omega)
  ·rw[Dm b v c o a];exact te wb tag V p t d u l b v c W bt h.w.fits h.w.Ko i A f a j (by rw[i.lf.II];exact j) I n
 refine B.mono fun r W' g=>?_;obtain⟨rfl,tag',C,k⟩:=g;exact⟨rfl,tag',V,_,k,C,H⟩
theorem tj {p:PW} (h:Lv p) {A t d:Nat} (v:p.co A=t) (j:p.k d=7) (W:World) (wb:Nat) (tag:Nat->Nat) (V:Nat->Value) (bt:cb W wb tag V p):
  Calls Tryz.prog 232 #[.pointer (some ⟨wb,0,none⟩),.int .i64 t,.int .i64 d] W (Okd p wb tag W):=by
 have e:=h.s;obtain⟨_,C,e9,_⟩:=h.w.m.tk.q.inc v;have n:=h.w.m.tk.tl C;have b:=(h.w.m.tk.JP j).2;obtain⟨E,G⟩:=kd j oD;by_cases f:p.II.getD t bl 17= -1
 ·have F:=h.rs (h.w.take v j f) (Hv p t d);have x:Calls Tryz.prog 232 #[.pointer (some ⟨wb,0,none⟩),.int .i64 t,.int .i64 d] W fun r W'=>r=.returned (.int .i64 0)∧∃tag',cb W' wb tag' V (tkP p t d)∧Kt tag tag' W W':=by
   rcases zv e E G with c|⟨u,l,i,c,a,H,D,o⟩
   ·rw[F3 c];refine rP wb tag V p t d W bt h.w.fits n b f ?_
    cases a:p.lines.getD d [] with
    |nil=>exact qG wb tag V p d false W bt h.w.fits b a
    |cons z l=>
     obtain⟨u,i,rfl,hk,D⟩:=iH e b a;have B:p.II.getD u bl 9=4:=by
      rw[EH a] at c;by_cases h:p.II.getD u bl 9=4
      ·exact h
      ·rw[ae h] at c;omega
     exact tT wb tag V p d false W bt h.w.fits b u l a (by rw[e.lf.II];exact i) (by rw[B];decide)
   ·rw[Dw c a];exact tr wb tag V p t d u l W bt h.w.fits e n b f a i (by rw[e.lf.II];exact i) H (by rintro rfl;have:p.t t 9=2∨p.t t 9=3:=o;omega) o
  refine x.mono fun r W' g=>?_;obtain⟨rfl,tag',y,k⟩:=g;exact⟨0,rfl,oD,tag',V,_,k,y,F⟩
 ·refine (rO wb tag V p t d W bt h.w.fits n f).mono fun r W' g=>?_;obtain⟨rfl,rfl⟩:=g;exact⟨7,rfl,oD,dt h bt (af _ _)⟩
theorem oP {p:PW} (h:Lv p) {n t:Nat} {v:Int} (x:p.co n=t) (hv:0<=v∧v<=65535) (W:World) (wb:Nat) (tag:Nat->Nat) (V:Nat->Value) (bt:cb W wb tag V p):
  Calls Tryz.prog 233 #[.pointer (some ⟨wb,0,none⟩),.int .i64 t,.int .i64 v] W (Okd p wb tag W):=by
 have c:=h.s;obtain⟨_,b,e9,_⟩:=h.w.m.tk.q.inc x;have f:=h.w.m.tk.tl b;obtain⟨z,hk⟩:=kd b oD;by_cases a:p.II.getD t bl 17= -1
 ·refine (nH wb tag V p t v W bt h.w.fits f a).mono fun r j g=>?_;obtain⟨rfl,rfl⟩:=g;exact⟨6,rfl,oD,dt h bt (af _ _)⟩
 ·obtain⟨u,i,d,y,o, -, -, -⟩:=CY c z hk a;have e:=h.rs (h.w.answer (v:=v) b a hv) (Gk p t v);rw[DT v d] at e;refine (oQ wb tag V p t u v W bt h.w.fits c f d i (by rw[c.lf.II];exact i) y (by rintro rfl;have:p.t t 9=5:=o;omega)).mono fun r j g=>?_;obtain⟨rfl,tag',l,k⟩:=g;exact⟨0,rfl,oD,tag',V,_,k,l,e⟩
theorem ng {p:PW} (h:Lv p) {a:Nat} {g:Int} (i:p.k a=8) (j:0<=g∧g<=65535) (W:World) (wb:Nat) (tag:Nat->Nat) (V:Nat->Value) (bt:cb W wb tag V p):
  Calls Tryz.prog 235 #[.pointer (some ⟨wb,0,none⟩),.int .i64 a,.int .i64 g] W fun r W'=>r=.returned (.tuple #[])∧Bx p wb tag W W':=by
 have b:=h.s;obtain⟨d,B⟩:=kd i oD;have f:a<p.lines.length:=by rw[b.lf.lines];exact d
 have y:a<p.bits.length:=by rw[b.lf.bits];exact d
 have C:=(h.w.m.tk.q.bt a).elim (fun e=>by rw[e];decide) fun e=>e.2.2;have x:=h.rs (h.w.ring i j (orW C j)) (Hm p a g);have o:Calls Tryz.prog 235 #[.pointer (some ⟨wb,0,none⟩),.int .i64 a,.int .i64 g] W fun r W'=>r=.returned (.tuple #[])∧∃tag',cb W' wb tag' V (rgP p a g)∧Kt tag tag' W W':=by
  obtain⟨zs,c⟩:∃zs,p.lines.getD a []=zs:=⟨_,rfl⟩
  unfold rgP;rw[ah,c]
  cases zs with
  |nil=>exact rC wb tag V p a g W bt h.w.fits f y c (by have:p.bits.getD a 0=p.bi a:=rfl;omega) oA
  |cons z l=>
   obtain⟨t,n,rfl,hk,A⟩:=iH b f c;have v:=uT b d B n hk A;exact pT wb tag V p a t l g W bt h.w.fits b f c n hk v
 refine o.mono fun r W' g=>?_;obtain⟨rfl,tag',u,k⟩:=g;exact⟨rfl,tag',V,_,k,u,x⟩
theorem sE {p:PW} (h:Lv p) {i t a:Nat} (d:p.co i=t) (b:p.k a=8) (W:World) (wb:Nat) (tag:Nat->Nat) (V:Nat->Value) (bt:cb W wb tag V p):
  Calls Tryz.prog 234 #[.pointer (some ⟨wb,0,none⟩),.int .i64 t,.int .i64 a] W fun r W'=>r=.returned (.tuple #[])∧Bx p wb tag W W':=by
 have e:=h.s;obtain⟨_,j,_⟩:=h.w.m.tk.q.inc d;obtain⟨c,l⟩:=kd b oD;refine (qK wb tag V p t a W bt h.w.fits (h.w.m.tk.tl j) (by rw[e.lf.lines];exact c) (by rw[e.lf.bits];exact c)).mono fun r W' g=>?_;obtain⟨rfl,tag',f,k⟩:=g;exact⟨rfl,tag',V,_,k,f,h.rs (h.w.Kd d b) (GS p t a)⟩
