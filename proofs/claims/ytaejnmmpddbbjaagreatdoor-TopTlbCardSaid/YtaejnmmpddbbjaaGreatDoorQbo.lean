/- Qbo -/
import Derived.Deep.RegionWith
import Derived.Deep.RegionHeld3
import Derived.BigQuiet
import Derived.Test.YtaejnmmpddbbjaaGreatDoorQbm
set_option maxRecDepth 100000
set_option maxHeartbeats 16000000
namespace Go.Proofs.YtaejnmmpddbbjaaGreatDoor
namespace IP
theorem qI (v:Int) (has:Bool) (lo hi:Int):qH v has lo hi=true↔(has=true->lo<=v∧v<=hi)∧(has=false->v=0):=by
 unfold qH
 cases has<;>simp
theorem wt {o a b i:Int} (h:may o a b i=0):0<=o∧o<=14∧0<=a∧a<=7∧0<=b∧b<=7∧ -32768<=i∧i<=32767:=by
 unfold may at h;split at h
 ·omega
 split at h
 ·rename_i h1 h2;obtain⟨x,y,z⟩:=h2;rw[qI] at x y z;have A:0<=a∧a<=7:=by cases hh:hA o with
   |true=>exact x.1 hh
   |false=>have:=x.2 hh;omega
  have B:0<=b∧b<=7:=by cases hh:hB o with
   |true=>exact y.1 hh
   |false=>have:=y.2 hh;omega
  have C: -32768<=i∧i<=32767:=by cases hh:hC o with
   |true=>exact z.1 hh
   |false=>have:=z.2 hh;omega
  omega
 ·omega
theorem uq (o a b i:Int):may o a b i=
  if o<0∨14<o then 1
  else if (a<0∨7<a)∨(b<0∨7<b)∨i< -32768∨32767<i∨(hA o=false∧a≠0)∨(hB o=false∧b≠0)∨(hC o=false∧i≠0) then 2 else 0:=by
 unfold may;by_cases h:o<0∨14<o
 ·rw[af h,af h]
 rw[ae h,ae h];simp only[qI]
 cases hA o<;>cases hB o<;>cases hC o<;>simp<;>(split<;>split<;>omega)
def dI (y:Int):Int:=if 32767<y then y - 65536 else y
end IP
namespace Isa
open Go.RowKit Mem
theorem yL (o:Int) (w:World):
  Calls Tryz.prog 170 #[.int .i64 o] w fun e w'=>e=.returned (.tuple #[.bool (IP.hA o),.bool (IP.hB o),.bool (IP.hC o)])∧w=w':=by
 by_cases a:o=0
 ·subst a;go_enter Tryz.func170,Tryz.ntmps170
  go_wp2
  go_ret3
  exact⟨rfl,rfl⟩
 by_cases b:o=1
 ·subst b;go_enter Tryz.func170,Tryz.ntmps170
  go_wp2
  go_ret3
  exact⟨rfl,rfl⟩
 by_cases g:o=13
 ·subst g;go_enter Tryz.func170,Tryz.ntmps170
  go_wp2
  go_ret3
  exact⟨rfl,rfl⟩
 by_cases c:o=10
 ·subst c;go_enter Tryz.func170,Tryz.ntmps170
  go_wp2
  go_ret3
  exact⟨rfl,rfl⟩
 by_cases d:o=11
 ·subst d;go_enter Tryz.func170,Tryz.ntmps170
  go_wp2
  go_ret3
  exact⟨rfl,rfl⟩
 by_cases f:o=12
 ·subst f;go_enter Tryz.func170,Tryz.ntmps170
  go_wp2
  go_ret3
  exact⟨rfl,rfl⟩
 by_cases h:o=14
 ·subst h;go_enter Tryz.func170,Tryz.ntmps170
  go_wp2
  go_ret3
  exact⟨rfl,rfl⟩
 have i:=beq_eq_false_iff_ne.2 a;have e1:=beq_eq_false_iff_ne.2 b;have l:=beq_eq_false_iff_ne.2 g;have e10:=beq_eq_false_iff_ne.2 c;have j:=beq_eq_false_iff_ne.2 d;have k:=beq_eq_false_iff_ne.2 f;have m:=beq_eq_false_iff_ne.2 h;rw[show IP.hA o=true from by simp[IP.hA];omega,show IP.hB o=true from by simp[IP.hB];omega,show IP.hC o=false from by simp[IP.hC];omega];go_enter Tryz.func170,Tryz.ntmps170
 go_wp2
 go_ret3
 exact⟨rfl,rfl⟩
theorem mu (o a b i:Int) (w:World):
  Calls Tryz.prog 133 #[.agg #[.int .i64 o,.int .i64 a,.int .i64 b,.int .i64 i]] w
   fun e w'=>e=.returned (.int .i64 (IP.may o a b i))∧Below w.heap.size w w':=by
 go_enter Tryz.func133,Tryz.ntmps133
 go_wp2_with (first|(go_at_call 33;refine (eI _ _ _).mono ?_;rintro e w' ⟨rfl,rfl⟩)|(go_at_call 170;refine (yL _ _).mono ?_;rintro e w' ⟨rfl,rfl⟩))
 all_goals
  go_ret
  refine⟨nF ?_,bal (ai _ _) _⟩;rw[IP.uq];simp at*
  (repeat' split)<;>simp_all<;>omega
theorem mf {W:World} {C:Nat} {a:Array Value} (h:∀o,W.cell? ⟨C,o,none⟩=a[o]?):∀o,W.drew.cell? ⟨C,o,none⟩=a[o]? :=h
theorem sw (x y:Int) (w:World) (d:IP.word x y):
  Calls Tryz.prog 84 #[.agg #[.int .i64 x,.int .i64 y]] w
   fun e w'=>e=.returned (.tuple #[.agg #[.int .i64 (x/256),.int .i64 (x/16%16),.int .i64 (x%16),.int .i64 (IP.dI y)],.bool (IP.may (x/256) (x/16%16) (x%16) (IP.dI y)==0)])∧Below w.heap.size w w':=by
 obtain⟨j,k,l,m⟩:=d;have d1:decide (x<0∨65535<x)=false:=ax oA;have d2:decide (y<0∨65535<y)=false:=ax oA;by_cases hi:32767<y
 ·rw[show IP.dI y=(y - 65536) from by unfold IP.dI;rw[af hi]];go_enter Tryz.func84,Tryz.ntmps84
  go_wp2_with fail
  refine (eI _ _ _).mono ?_;rw[d1];rintro e w' ⟨rfl,rfl⟩;go_wp2_with fail
  refine (eI _ _ _).mono ?_;rw[d2];rintro e w' ⟨rfl,rfl⟩;go_wp2_with fail
  go_region_with (go_at_call 133;refine (mu _ _ _ _ _).mono ?_;rintro e w1 ⟨rfl,a⟩;obtain⟨c,f⟩:=Ax a;have i:w.heap.size+1+1<w1.heap.size:=(by have:=a.size;simp at this;omega);have h:w.heap.size+1<w1.heap.size:=oA;have g:w.heap.size<w1.heap.size:=oA)
  all_goals
   go_wp2
   have b:=gE (v0:=.int .i64 (x/256)) (v1:=.int .i64 (x/16%16)) (v2:=.int .i64 (x%16)) (v3:=.int .i64 (y - 65536)) (fp (mf (fV (mU (w.alloc (.cells #[.int .i64 x,.int .i64 y] 128)) zQ 131 (w.heap.size+1) oS) oS _)) (by simp<;>omega) a);refine aq (v:=.tuple #[.agg #[.int .i64 (x/256),.int .i64 (x/16%16),.int .i64 (x%16),.int .i64 (y - 65536)],.bool (IP.may (x/256) (x/16%16) (x%16) (y - 65536)==0)]) (by simp[results,Tryz.results84,go_sem,b]) rfl ⟨rfl,?_⟩;exact gz (gz (gz (gz (btr (bal (bal (bal (ai _ _) _) _) _).drew a) oS _) oS _) oS _) oS _
 ·rw[show IP.dI y=y from by unfold IP.dI;rw[ae hi]];go_enter Tryz.func84,Tryz.ntmps84
  go_wp2_with fail
  refine (eI _ _ _).mono ?_;rw[d1];rintro e w' ⟨rfl,rfl⟩;go_wp2_with fail
  refine (eI _ _ _).mono ?_;rw[d2];rintro e w' ⟨rfl,rfl⟩;go_wp2_with fail
  go_region_with (go_at_call 133;refine (mu _ _ _ _ _).mono ?_;rintro e w1 ⟨rfl,a⟩;obtain⟨c,f⟩:=Ax a;have i:w.heap.size+1+1<w1.heap.size:=(by have:=a.size;simp at this;omega);have h:w.heap.size+1<w1.heap.size:=oA;have g:w.heap.size<w1.heap.size:=oA)
  all_goals
   go_wp2
   have b:=gE (v0:=.int .i64 (x/256)) (v1:=.int .i64 (x/16%16)) (v2:=.int .i64 (x%16)) (v3:=.int .i64 y) (fp (mf (fV (mU (w.alloc (.cells #[.int .i64 x,.int .i64 y] 128)) zQ 131 (w.heap.size+1) oS) oS _)) (by simp<;>omega) a);refine aq (v:=.tuple #[.agg #[.int .i64 (x/256),.int .i64 (x/16%16),.int .i64 (x%16),.int .i64 y],.bool (IP.may (x/256) (x/16%16) (x%16) y==0)]) (by simp[results,Tryz.results84,go_sem,b]) rfl ⟨rfl,?_⟩;exact gz (gz (gz (gz (btr (bal (bal (bal (ai _ _) _) _) _).drew a) oS _) oS _) oS _) oS _
theorem A4 (x y:Int) (w:World) (c:0<=x∧x<=65535) (d:0<=y∧y<=65535):
  Calls Tryz.prog 84 #[.agg #[.int .i64 x,.int .i64 y]] w fun e w'=>∃(o a b i:Int) (ok:Bool),e=.returned (.tuple #[.agg #[.int .i64 o,.int .i64 a,.int .i64 b,.int .i64 i],.bool ok])∧(ok=true->(0<=o∧o<=14)∧(0<=a∧a<=7)∧(0<=b∧b<=7)∧(-32768<=i∧i<=32767))∧Below w.heap.size w w':=
 (sw x y w ⟨c.1,c.2,d.1,d.2⟩).mono fun e w' ⟨f,g⟩=>⟨_,_,_,_,_,f,fun h=>by
  obtain⟨j,k,a0,a1,b0,b1,i0,i1⟩:=IP.wt (bh.1 h);exact⟨⟨j,k⟩,⟨a0,a1⟩,⟨b0,b1⟩,i0,i1⟩,g⟩
end Isa
namespace Wd
open Go.RowKit Mem Bw Nums Mmu
def Dn (p:PW) (wb:Nat) (tag0:Nat->Nat) (w0:World) (l:List Nat) (W:World):Prop:=
 ∃tag V q,cb W wb tag V q∧Rm p q∧Kt tag0 tag w0 W∧(∀k∈l,tag k=0∧w0.heap.size<=k∧k<W.heap.size)∧w0.rangeAt wb 0 (dk V).toList
theorem Dn.start {p:PW} {wb:Nat} {tag:Nat->Nat} {V:Nat->Value} {w:World} (a:Lv p) (bt:cb w wb tag V p):Dn p wb tag w [] w:=⟨tag,V,p,bt,Rm.refl a,Kt.refl _ _,(fun _ h=>by cases h),bt.r⟩
theorem Dn.own {p:PW} {wb:Nat} {tag0:Nat->Nat} {w0 W:World} {l:List Nat} (h:Dn p wb tag0 w0 l W) {k:Nat} (hk:k∈l):k<W.heap.size:=by
 obtain⟨tag,V,q,_,_,_,o,_⟩:=h;exact (o k hk).2.2
theorem Dn.alloc {p:PW} {wb:Nat} {tag0:Nat->Nat} {w0 W:World} {l:List Nat} (h:Dn p wb tag0 w0 l W) (o:Obj):Dn p wb tag0 w0 (W.heap.size::l) (W.alloc o):=by
 obtain⟨tag,V,q,bt,g,kt,ow,i⟩:=h;have b:Kp (fun _=>False) W (W.alloc o):=.Ed (bal (ai _ _) o);have a:∀k,k<W.heap.size->(if k<W.heap.size then tag k else 0)=tag k:=fun k hk=>af hk;have j:(W.alloc o).heap.size=W.heap.size+1:=oS;have ks:=kt.k.size;refine⟨fun k=>if k<W.heap.size then tag k else 0,V,q,bt.kp b (fun _ _ e=>e.elim) a,g,kt.trans (.of b (fun _ e=>e.elim) a),fun k hk=>?_,i⟩;rcases bM.1 hk with rfl|hk
 ·exact⟨ae (Nat.lt_irrefl _),ks,oA⟩
 ·obtain⟨c,d,f⟩:=ow k hk;exact⟨(a k f).trans c,d,oA⟩
theorem Dn.kp {p:PW} {wb:Nat} {tag0:Nat->Nat} {w0 W W':World} {l:List Nat} (h:Dn p wb tag0 w0 l W) (k:Kp (fun k=>k∈l) W W'):Dn p wb tag0 w0 l W':=by
 obtain⟨tag,V,q,bt,i,kt,ow,j⟩:=h;have ks:=kt.k.size;refine⟨tag,V,q,bt.kp k (fun b _ a=>(ow b a).1) (fun _ _=>rfl),i,⟨⟨k.os.trans kt.k.os,k.tape.trans kt.k.tape,k.output.trans kt.k.output,aB ks k.size,fun b a g=>(k.block b oA (fun f=>by have:=(ow b f).2.1;omega)).trans (kt.k.block b a g)⟩,kt.t⟩,fun b a=>?_,j⟩;obtain⟨c,d,e⟩:=ow b a;exact⟨c,d,aE e k.size⟩
theorem Dn.below {p:PW} {wb:Nat} {tag0:Nat->Nat} {w0 W W':World} {l:List Nat} (h:Dn p wb tag0 w0 l W) (a:Below W.heap.size W W'):Dn p wb tag0 w0 l W':=h.kp (.Ed a)
theorem Dn.less {p:PW} {wb:Nat} {tag0:Nat->Nat} {w0 W:World} {l m:List Nat} (h:Dn p wb tag0 w0 l W) (a:∀k∈m,k∈l):Dn p wb tag0 w0 m W:=by
 obtain⟨tag,V,q,bt,b,kt,ow,c⟩:=h;exact⟨tag,V,q,bt,b,kt,fun k hk=>ow k (a k hk),c⟩
theorem Dn.step {p q:PW} {wb:Nat} {tag0 tag tag':Nat->Nat} {V:Nat->Value} {w0 W W':World} {l:List Nat} (g:Rm p q) (kt:Kt tag0 tag w0 W) (ow:∀k∈l,tag k=0∧w0.heap.size<=k∧k<W.heap.size) {a:PW} (i:w0.rangeAt wb 0 (dk V).toList) (k2:Kt tag tag' W W') (b2:cb W' wb tag' V a) (f:Rm q a):
  Dn p wb tag0 w0 l W'∧Kp (fun k=>k∉l) W W':=
 ⟨⟨tag',V,a,b2,g.trans f,kt.trans k2,fun k hk=>by
  obtain⟨c,d,b⟩:=ow k hk;exact⟨k2.t k b c,d,aE b k2.k.size⟩,i⟩,k2.k.wider fun k _ h e=>h (ow k e).1⟩
theorem Dn.load {p:PW} {wb:Nat} {tag0:Nat->Nat} {w0 W:World} {l:List Nat} (h:Dn p wb tag0 w0 l W) {b2 b3 b4 c t:Nat} (n:c<p.D9.length) (m:p.k t=6) (cs:kD [(b2,ptr wb),(b3,.int .i64 (c:Int)),(b4,.int .i64 (t:Int))] tag0 w0) (a:Int):
  Calls Tryz.prog 45 #[.int .i64 a,ptr b2,ptr b3,ptr b4] W fun r W'=>∃(v:Int) (ok:Bool),r=.returned (.tuple #[.int .i64 v,.bool ok])∧(0<=v∧v<=65535)∧Dn p wb tag0 w0 l W'∧Kp (fun k=>k∉l) W W':=by
 obtain⟨tag,V,q,bt,s,kt,ow,u⟩:=h;obtain⟨b,X,R,e⟩:=s;refine (zc wb tag V q b2 b3 b4 c t a W bt b.w (by rw[b.c];exact n) (by rw[e];exact m) (cs.kt kt)).mono ?_;rintro r W' ⟨v,ok,i,j,tag',x,k2,d,o⟩;obtain⟨f,g⟩:=Dn.step (l:=l) ⟨b,X,R,e⟩ kt ow u k2 d o;exact⟨v,ok,i,j,f,g⟩
theorem Dn.store {p:PW} {wb:Nat} {tag0:Nat->Nat} {w0 W:World} {l:List Nat} (h:Dn p wb tag0 w0 l W) {b2 b3 b4 c t:Nat} (m:c<p.D9.length) (j:p.k t=6) (cs:kD [(b2,ptr wb),(b3,.int .i64 (c:Int)),(b4,.int .i64 (t:Int))] tag0 w0) (a v:Int) (n:0<=v∧v<=65535):
  Calls Tryz.prog 47 #[.int .i64 a,.int .i64 v,ptr b2,ptr b3,ptr b4] W fun r W'=>∃ok:Bool,r=.returned (.bool ok)∧Dn p wb tag0 w0 l W'∧Kp (fun k=>k∉l) W W':=by
 obtain⟨tag,V,q,bt,s,kt,ow,u⟩:=h;obtain⟨b,X,R,e⟩:=s;refine (xe wb tag V q b2 b3 b4 c t a v n W bt b.w (by rw[b.c];exact m) (by rw[e];exact j) (cs.kt kt)).mono ?_;rintro r W' ⟨ok,i,tag',x,k2,d,o⟩;obtain⟨f,g⟩:=Dn.step (l:=l) ⟨b,X,R,e⟩ kt ow u k2 d o;exact⟨ok,i,f,g⟩
theorem Dn.pre {p:PW} {wb:Nat} {tag0:Nat->Nat} {w0 w1 W:World} {b:Nat} (h:Dn p wb tag0 w1 [] W) (c:Below w0.heap.size w0 w1) (d:w0.heap.size<=b) (a:b<w1.heap.size) (g:tag0 b=0) (f:wb<w0.heap.size):Dn p wb tag0 w0 [b] W:=by
 obtain⟨tag,V,q,bt,i,kt,_,l⟩:=h;exact⟨tag,V,q,bt,i,(bf c).trans kt,fun k hk=>by rw[bU.1 hk];exact⟨kt.t b a g,d,aE a kt.k.size⟩,fun j v e=>(c.cell (p:=⟨wb,0+j,none⟩) f).symm.trans (l j v e)⟩
structure Gq (f g:Nat->Int):Prop where
 w:∀k,k<9->0<=g k∧g k<=65535
 s:∀k,9<=k->g k=f k
theorem Gq.refl {f:Nat->Int} (h:∀k,k<9->0<=f k∧f k<=65535):Gq f f:=⟨h,fun _ _=>rfl⟩
theorem Gq.EU {f g:Nat->Int} (h:Gq f g) {k:Nat} (hk:k<9) {v:Int} (b:0<=v∧v<=65535):Gq f (upd g k v):=by
 refine⟨fun j a=>?_,fun j a=>?_⟩
 ·unfold Wd.upd;split
  ·exact b
  ·exact h.w j a
 ·unfold Wd.upd;rw[ae oA];exact h.s j a
theorem AE (n:Nat) (f:Nat->Int) (k:Nat) (v:Int):(cf n f).set k (.int .i64 v)=cf n (upd f k v):=by
 apply List.ext_getElem?;intro j;rw[List.getElem?_set];unfold cf Wd.upd;by_cases e:k=j
 ·subst e;by_cases a:k<n
  ·simp[a]
  ·simp[a]
 ·rw[ae e];by_cases a:j<n
  ·simp[a,Ne.symm e]
  ·simp[a]
structure Gw (W:World) (f g:Nat->Int) (o A B i:Int) (b r c n:Nat):Prop where
 t:W.rangeAt b 0 (cf 20 f)
 r:W.there r 0 20
 i0:W.cell? ⟨c,0,none⟩=some (.int .i64 o)
 i1:W.cell? ⟨c,1,none⟩=some (.int .i64 A)
 i2:W.cell? ⟨c,2,none⟩=some (.int .i64 B)
 i3:W.cell? ⟨c,3,none⟩=some (.int .i64 i)
 m:W.rangeAt n 0 (cf 20 g)
 nt:W.there n 0 20
 d:b≠n∧c≠n
theorem Gw.set {W:World} {f g:Nat->Int} {o A B i:Int} {b r c n:Nat} (h:Gw W f g o A B i b r c n) (k:Nat) (hk:k<20) (v:Int):Gw (W.setCell ⟨n,k,none⟩ (.int .i64 v)) f (upd g k v) o A B i b r c n where
 t:=oT h.t (Ne.symm h.d.1) _
 r:=gO h.r _ _
 i0:=(aJ W _ _ _ (by intro e;have:=cX Addr.block e;exact h.d.2 this.symm)).trans h.i0
 i1:=(aJ W _ _ _ (by intro e;have:=cX Addr.block e;exact h.d.2 this.symm)).trans h.i1
 i2:=(aJ W _ _ _ (by intro e;have:=cX Addr.block e;exact h.d.2 this.symm)).trans h.i2
 i3:=(aJ W _ _ _ (by intro e;have:=cX Addr.block e;exact h.d.2 this.symm)).trans h.i3
 m:=by rw[<-AE];exact lC h.m (by rw[aA];exact hk) _
 nt:=gO h.nt _ _
 d:=h.d
theorem Gw.kept {W e:World} {f g:Nat->Int} {o A B i:Int} {b r c n:Nat} {T:Nat->Prop} (h:Gw W f g o A B i b r c n) (k:Kp T W e) (l:¬T b) (p:¬T r) (a:¬T c) (j:¬T n):Gw e f g o A B i b r c n:=
 ⟨dY h.t k l,dJ h.r k p,(k.cell (aj _ _ h.i0) a).trans h.i0,(k.cell (aj _ _ h.i1) a).trans h.i1,(k.cell (aj _ _ h.i2) a).trans h.i2,(k.cell (aj _ _ h.i3) a).trans h.i3,dY h.m k j,dJ h.nt k j,h.d⟩
theorem vV {W:World} {f:Nat->Int} {o A B i:Int} {b r:Nat} {z:Array Value} (h:z.size=20) (t:W.rangeAt b 0 (cf 20 f)) (e:W.there r 0 20) (c:b<W.heap.size) (u v:TypeId):
  Gw (((W.alloc (.cells #[.int .i64 o,.int .i64 A,.int .i64 B,.int .i64 i] u)).alloc (.cells z v)).setCells (W.heap.size+1) 0 (cf 20 f)) f f o A B i b r W.heap.size (W.heap.size+1):=by
 have g:=fV (cD W #[.int .i64 o,.int .i64 A,.int .i64 B,.int .i64 i] u) oS (.cells z v);have a:∀k,(((W.alloc (.cells #[.int .i64 o,.int .i64 A,.int .i64 B,.int .i64 i] u)).alloc (.cells z v)).setCells (W.heap.size+1) 0 (cf 20 f)).cell? ⟨W.heap.size,k,none⟩=(#[.int .i64 o,.int .i64 A,.int .i64 B,.int .i64 i]:Array Value)[k]? :=fun k=>by
  rw[gD oA];exact g k
 exact {
  t:=World.rangeAt_setCells_apart (World.rangeAt_alloc (World.rangeAt_alloc t _) _) _ _ _ (.inl oA)
  r:=World.there_setCells (World.there_alloc (World.there_alloc e _) _) _ _ _
  i0:=a 0
  i1:=a 1
  i2:=a 2
  i3:=a 3
  m:=World.rangeAt_setCells_same _ _ _ _ (by rw[aA];exact aY _ _ _ _ _ oS oA)
  nt:=World.there_setCells (aY _ _ _ _ _ oS oA) _ _ _
  d:=⟨Nat.ne_of_lt (Nat.lt_succ_of_lt c),Nat.ne_of_lt (Nat.lt_succ_self _)⟩}
def kz (g:Nat->Int) (ev n:Int):Value:=.tuple #[.agg (cf 20 g).toArray,.int .i64 ev,.int .i64 n]
def vp (p:PW) (wb:Nat) (tag0:Nat->Nat) (w0:World) (f:Nat->Int) (e:Ending) (w':World):Prop:=
 ∃g ev n,e=.returned (kz g ev n)∧Gq f g∧(0<=ev∧ev<=3)∧(-32768<=n∧n<=65535)∧(ev=2-> -1<=n)∧Dn p wb tag0 w0 [] w'
theorem pd (wb:Nat) (tag:Nat->Nat) (V:Nat->Value) (p:PW) (t:Nat) (d:Int) (W:World) (bt:cb W wb tag V p) (c:p.Fits) (e:t<p.DY.length) (b:¬p.DY.getD t bl 17= -1):
  Calls Tryz.prog 136 #[.pointer (some ⟨wb,0,none⟩),.int .i64 t,.int .i64 d] W fun r W'=>r=.returned (.int .i64 7)∧W=W':=by
 have j:(p.DY.length:Int)<=1000:=by have:=c.DY;omega
 have k:(t:Int)<(p.DY.length:Int):=oA;obtain⟨i,h,a⟩:=bt.o.DY.form oA;have g:=bg bt a;have f:=bt.Ec a e (show 17<20 by omega);generalize p.DY.getD t bl 17=y at f b;have l:(y== -1)=false:=by simpa using b
 go_enter Tryz.func136,Tryz.ntmps136
 go_wp2_with fail
 go_ret
 exact⟨rfl,rfl⟩
theorem pe (wb:Nat) (tag:Nat->Nat) (V:Nat->Value) (p:PW) (t d:Nat) (W:World) (bt:cb W wb tag V p) (b:p.Fits) (c:t<p.DY.length) (k:d<p.lines.length) (i:p.DY.getD t bl 17= -1)
  (l:Calls Tryz.prog 87 #[.pointer (some ⟨wb,0,none⟩),.int .i64 d,.bool false] W fun r W'=>r=.returned (.int .i64 (-1))∧W=W'):
  Calls Tryz.prog 136 #[.pointer (some ⟨wb,0,none⟩),.int .i64 t,.int .i64 d] W fun r W'=>r=.returned (.int .i64 0)∧∃tag',cb W' wb tag' V (ssP p t d 4)∧Kt tag tag' W W':=by
 have v:(p.DY.length:Int)<=1000:=by have:=b.DY;omega
 have w:(t:Int)<(p.DY.length:Int):=oA;obtain⟨u,s,a⟩:=bt.o.DY.form oA;have q:=bg bt a;have n:=bt.Ec a c (show 17<20 by omega);have f:=hid l;have g:=hid (ke wb tag V p t d 4 W bt b c k);rw[i] at n;go_enter Tryz.func136,Tryz.ntmps136
 go_wp2_with fail
 refine f.mono ?_;rintro r w1 ⟨rfl,rfl⟩;go_wp2_with fail
 refine g.mono ?_;rintro r w2 ⟨rfl,m,j,k2⟩;have e:=hid j;have h:=hid k2;go_wp2_with fail
 go_ret
 exact⟨rfl,m,e.out,h.out⟩
theorem qg (wb:Nat) (tag:Nat->Nat) (V:Nat->Value) (p:PW) (t d u:Nat) (l:List Int) (W:World) (bt:cb W wb tag V p) (D:p.Fits) (hs:Snd p) (M:t<p.DY.length) (hd:d<p.lines.length) (an:p.DY.getD t bl 17= -1) (hz:p.lines.getD d []=(u:Int)::l) (hu:u<p.kinds.length) (f:u<p.DY.length) (hk:p.kinds[u]=6) (s:t≠u) (ao:p.DY.getD u bl 9=2∨p.DY.getD u bl 9=3):
  Calls Tryz.prog 136 #[.pointer (some ⟨wb,0,none⟩),.int .i64 t,.int .i64 d] W fun r W'=>r=.returned (.int .i64 0)∧∃tag',cb W' wb tag' V (if p.DY.getD u bl 9=3 then ((tkQ p d t u l).task u 9 5).task t 17 u else wnP (tkQ p d t u l) u (rdN p u))∧Kt tag tag' W W':=by
 have ay:(p.DY.length:Int)<=1000:=by have:=D.DY;omega
 have aA:(t:Int)<(p.DY.length:Int):=oA;obtain⟨a,c,z⟩:=bt.o.DY.form oA;have C:=bg bt z;have av:=bt.Ec z M (show 17<20 by omega);obtain⟨r1,r2,r3,r4⟩:=lD hs hu hk;have az:=Ce D hz;have HF:=hid (ld wb tag V p d false W bt D hd u l hz f (ax oA));have ap:=jV D d u l oA;have aq:=xh D d t u l oA;obtain⟨g,hg⟩:∃g,p.DY.getD u bl 16=g:=⟨_,rfl⟩
 obtain⟨v,hv⟩:∃v,p.DY.getD u bl 15=v:=⟨_,rfl⟩
 have Q:=hid ((pP p d u l 16 f oD).trans hg);have U:=hid ((pP p d u l 15 f oD).trans hv);have ai:=hid (i5 p d u l);have HH:=hid (fun X tg (h:cb X wb tg V (frP p d u l))=>hJ wb tg V (frP p d u l) t g v X h ap (by rw[i5];exact M));have HQ:=hid (show (((((frP p d u l).task t 1 g).task t 2 v).task u 16 0).task u 15 0)=tkQ p d t u l by rw[<-hg, <-hv];exact zO p d t u l s f);have ac:=hid (show (((frP p d u l).task t 1 g).task t 2 v).DY.getD u bl 15=v by rw[gh _ u t 2 _ s,gh _ u t 1 _ s];exact U);have ad:=hid (show (((frP p d u l).task t 1 g).task t 2 v).DY.getD u bl 16=g by rw[gh _ u t 2 _ s,gh _ u t 1 _ s];exact Q);have x:=hid (show (((frP p d u l).task t 1 g).task t 2 v).DY.length=p.DY.length by rw[am,am,i5]);have n:=hid (vf p d t u l);have L9:=hid (ve p d t u 9 l s f oD oD oD);have ab:=ve p d t u 18 l s f oD oD oD;have aa:=ve p d t u 10 l s f oD oD oD;have HW:=hid (fun X tg (h:cb X wb tg V (tkQ p d t u l))=>gn wb tg V (tkQ p d t u l) u (rdN p u) X h aq (by rw[vf];exact f) r1 (by rw[ab];exact r3) (by rw[aa];exact r4) (by rw[ab,aa];exact r2));have Z:=hid (fun X tg q (h:cb X wb tg V q) (H:q.DY.length=p.DY.length) (aj:q.DY.getD u bl 15=v) (al:q.DY.getD u bl 16=g)=>show X.cell? ⟨wb,3,none⟩=some (.slice (some ⟨a,0,none⟩) p.DY.length c)∧X.cell? ⟨a,u*20+16,none⟩=some (.int .i64 g)∧X.cell? ⟨a,u*20+15,none⟩=some (.int .i64 v) from⟨by rw[ah h.r (k:=3) rfl,z],by have e:=h.Ec (show V 3=.slice (some ⟨a,0,none⟩) q.DY.length c by rw[H];exact z) (i:=u) (by rw[H];exact f) (show 16<20 by omega);rw[al] at e;exact e,by have e:=h.Ec (show V 3=.slice (some ⟨a,0,none⟩) q.DY.length c by rw[H];exact z) (i:=u) (by rw[H];exact f) (show 15<20 by omega);rw[aj] at e;exact e⟩);have aB:¬((u:Int)<0):=oA;have aD:(u:Int)<(p.DY.length:Int):=oA;have j:=hid z;have T:=hid M;have w:=hid f;have ag:=hid ao;rw[an] at av;generalize hR:(if p.DY.getD u bl 9=3 then ((tkQ p d t u l).task u 9 5).task t 17 u else wnP (tkQ p d t u l) u (rdN p u))=R;have F:=hid hR;go_enter Tryz.func136,Tryz.ntmps136
 go_wp2_with fail
 refine HF.mono ?_;rintro r w1 ⟨rfl,ar,e,k1⟩;have B1:=hid e;have K1:=hid k1;go_upto_region 7 with fail
 have P:=hid (B1.below (aC w1 1));have KD:=hid (K1.trans (.below (aC w1 1)));refine wp_region_held_drew (S:=fun X=>X.cell? ⟨wb,3,none⟩=some (.slice (some ⟨a,0,none⟩) p.DY.length c)∧X.cell? ⟨a,u*20+16,none⟩=some (.int .i64 g)∧X.cell? ⟨a,u*20+15,none⟩=some (.int .i64 v)) oK (Z.out _ _ _ P ai U Q) (fun L=>?_);have b:=hid L;refine tk 0 (.pointer (some ⟨wb,0,none⟩)) rfl b ?_;simp only[jj];refine tk 1 (.int .i64 t) rfl b ?_;simp only[jj];refine tk 2 (.pointer (some ⟨wb,0,none⟩)) rfl b ?_;simp only[jj];refine tk 3 (.pointer (some ⟨wb,0,none⟩)) rfl b ?_;simp only[jj];refine tk 4 (.pointer (some ⟨wb,3,none⟩)) rfl b ?_;simp only[jj];refine dW 5 (.slice (some ⟨a,0,none⟩) p.DY.length c) rfl (Or.inl ⟨oR,fun W h=>by have A:=h.1;clear h;go_simp⟩) b ?_;simp only[jj];refine tk 6 (.int .i64 u) rfl b ?_;simp only[jj];refine tk 7 (.pointer (some ⟨a,u*20,none⟩)) rfl b ?_;simp only[jj];refine tk 8 (.pointer (some ⟨a,u*20+16,none⟩)) rfl b ?_;simp only[jj];refine dW 9 (.int .i64 g) rfl (Or.inl ⟨oR,fun W h=>by have A:=h.2.1;clear h;go_simp⟩) b ?_;simp only[jj];refine tk 10 (.pointer (some ⟨wb,0,none⟩)) rfl b ?_;simp only[jj];refine tk 11 (.pointer (some ⟨wb,0,none⟩)) rfl b ?_;simp only[jj];refine tk 12 (.pointer (some ⟨wb,3,none⟩)) rfl b ?_;simp only[jj];refine dW 13 (.slice (some ⟨a,0,none⟩) p.DY.length c) rfl (Or.inl ⟨oR,fun W h=>by have A:=h.1;clear h;go_simp⟩) b ?_;simp only[jj];refine tk 14 (.int .i64 u) rfl b ?_;simp only[jj];refine tk 15 (.pointer (some ⟨a,u*20,none⟩)) rfl b ?_;simp only[jj];refine tk 16 (.pointer (some ⟨a,u*20+15,none⟩)) rfl b ?_;simp only[jj];refine dW 17 (.int .i64 v) rfl (Or.inl ⟨oR,fun W h=>by have A:=h.2.2;clear h;go_simp⟩) b ?_;simp only[jj];refine wpAnyH_ready (rs:=[18]) oK oS (AllReadyH.cons rfl (fun K hK=>?_) AllReadyH.nil);go_simp
 refine (HH.out _ _ P).mono ?_;rintro q w2 ⟨rfl,e,G⟩;have B:=hid e;have K2:=hid (KD.trans G);go_wp2_with fail
 refine hK _ _ (Z.out _ _ _ B x ac ad) (fun L=>?_);have aw:=hid L
 try simp only[Act.put,jD,jE,jF]
 refine dN oK ?_ _;have e4:=hid (show V 3=.slice (some ⟨a,0,none⟩) (((frP p d u l).task t 1 g).task t 2 v).DY.length c by rw[x.out];exact j);have C:=bg B j;have O:=B.Ec e4 (i:=u) (by rw[x.out];exact w) (show 16<20 by omega);have J:=B.Ef e4 (u*20+16);obtain⟨b1,q1⟩:=B.task e4 (i:=u) (by rw[x.out];exact w) (show 16<20 by omega) 0;have E:=hid b1;have K3:=hid (K2.trans q1);go_upto_region 9 with fail
 generalize World.setCell _ _ _=W3 at*;have e4:=hid (show V 3=.slice (some ⟨a,0,none⟩) ((((frP p d u l).task t 1 g).task t 2 v).task u 16 0).DY.length c by rw[am,x.out];exact j);have C:=bg E j;have O:=E.Ec e4 (i:=u) (by rw[am,x.out];exact w) (show 15<20 by omega);have J:=E.Ef e4 (u*20+15);obtain⟨b1,q1⟩:=E.task e4 (i:=u) (by rw[am,x.out];exact w) (show 15<20 by omega) 0;have m:=hid b1;have Y:=hid (K3.trans q1);go_upto_region 10 with fail
 generalize World.setCell _ _ _=W4 at*;rw[HQ.out] at m;have C:=bg m j;have N:=m.Ec (show V 3=.slice (some ⟨a,0,none⟩) (tkQ p d t u l).DY.length c by rw[n.out];exact j) (i:=u) (by rw[n.out];exact w) (show 9<20 by omega);rw[L9.out] at N;rcases ag.out with G|A
 ·rw[ae (by rw[G];decide)] at F;rw[G] at N;go_wp2_with fail
  refine (HW.out _ _ m).mono ?_;rintro q w5 ⟨rfl,au,e,k1⟩;have y:=hid e;have I:=hid (Y.trans k1);go_wp2_with fail
  go_ret
  exact⟨rfl,au,by rw[<-F.out];exact y,I.out⟩
 ·rw[af A] at F;rw[A] at N;go_upto_region 11 with fail
  have e4:=hid (show V 3=.slice (some ⟨a,0,none⟩) (tkQ p d t u l).DY.length c by rw[n.out];exact j);have C:=bg m j;have O:=m.Ec e4 (i:=u) (by rw[n.out];exact w) (show 9<20 by omega);have J:=m.Ef e4 (u*20+9);obtain⟨b1,q1⟩:=m.task e4 (i:=u) (by rw[n.out];exact w) (show 9<20 by omega) 5;have y:=hid b1;have I:=hid (Y.trans q1);go_upto_region 12 with fail
  generalize World.setCell _ _ _=W5 at*;have e4:=hid (show V 3=.slice (some ⟨a,0,none⟩) ((tkQ p d t u l).task u 9 5).DY.length c by rw[am,n.out];exact j);have C:=bg y j;have O:=y.Ec e4 (i:=t) (by rw[am,n.out];exact T) (show 17<20 by omega);have J:=y.Ef e4 (t*20+17);obtain⟨b1,q1⟩:=y.task e4 (i:=t) (by rw[am,n.out];exact T) (show 17<20 by omega) u;have B6:=hid b1;have K6:=hid (I.trans q1);go_wp2_with fail
  go_ret
  exact⟨rfl,ar,by rw[<-F.out];exact B6,K6.out⟩
theorem l3 (wb:Nat) (tag:Nat->Nat) (V:Nat->Value) (p:PW) (t:Nat) (v:Int) (W:World) (bt:cb W wb tag V p) (c:p.Fits) (d:t<p.DY.length) (b:p.DY.getD t bl 17= -1):
  Calls Tryz.prog 137 #[.pointer (some ⟨wb,0,none⟩),.int .i64 t,.int .i64 v] W fun r W'=>r=.returned (.int .i64 6)∧W=W':=by
 have i:(p.DY.length:Int)<=1000:=by have:=c.DY;omega
 have j:(t:Int)<(p.DY.length:Int):=oA;obtain⟨h,g,a⟩:=bt.o.DY.form oA;have f:=bg bt a;have e:=bt.Ec a d (show 17<20 by omega);rw[b] at e;go_enter Tryz.func137,Tryz.ntmps137
 go_wp2_with fail
 go_ret
 exact⟨rfl,rfl⟩
theorem mT (wb:Nat) (tag:Nat->Nat) (V:Nat->Value) (p:PW) (t u:Nat) (v:Int) (W:World) (bt:cb W wb tag V p) (e:p.Fits) (z:Snd p) (g:t<p.DY.length) (w:p.DY.getD t bl 17=u) (A:u<p.kinds.length) (B:u<p.DY.length) (hk:p.kinds[u]=6) (d:t≠u):
  Calls Tryz.prog 137 #[.pointer (some ⟨wb,0,none⟩),.int .i64 t,.int .i64 v] W fun r W'=>r=.returned (.int .i64 0)∧∃tag',cb W' wb tag' V (wnP (((p.task t 17 (-1)).task u 1 0).task u 2 v) u (rdN p u))∧Kt tag tag' W W':=by
 have N:(p.DY.length:Int)<=1000:=by have:=e.DY;omega
 have O:(t:Int)<(p.DY.length:Int):=oA;obtain⟨M,K,b⟩:=bt.o.DY.form oA;have J:=bg bt b;have H:=bt.Ec b g (show 17<20 by omega);obtain⟨D,E,F,r4⟩:=lD z A hk;have a:u<(p.task t 17 (-1)).DY.length:=by rw[am];exact B
 have f:=eB e t 17 (-1);have l:=hid (fun X tg (h:cb X wb tg V (p.task t 17 (-1)))=>hJ wb tg V (p.task t 17 (-1)) u 0 v X h f a);have c:(((p.task t 17 (-1)).task u 1 0).task u 2 v).DY.getD u bl 18=p.DY.getD u bl 18:=by rw[gN _ u 2 18 _ (by rw[am];exact a) oD,gN _ u 1 18 _ a oD,gh _ u t 17 _ d]
 have e10:(((p.task t 17 (-1)).task u 1 0).task u 2 v).DY.getD u bl 10=p.DY.getD u bl 10:=by rw[gN _ u 2 10 _ (by rw[am];exact a) oD,gN _ u 1 10 _ a oD,gh _ u t 17 _ d]
 have m:=hid (fun X tg (h:cb X wb tg V (((p.task t 17 (-1)).task u 1 0).task u 2 v))=>gn wb tg V (((p.task t 17 (-1)).task u 1 0).task u 2 v) u (rdN p u) X h (eB (eB f u 1 0) u 2 v) (by rw[am,am];exact a) D (by rw[c];exact F) (by rw[e10];exact r4) (by rw[c,e10];exact E));have P:¬((u:Int)= -1):=oA;have Q:((u:Int)== -1)=false:=oS;have L:=bt.Ef b (t*20+17);obtain⟨b1,q1⟩:=bt.task b g (show 17<20 by omega) (-1);have i:=hid b1;have n:=hid q1;rw[w] at H;go_enter Tryz.func137,Tryz.ntmps137
 go_upto_region 5 with fail
 generalize World.setCell _ _ _=I at*;go_wp2_with fail
 refine (l.out _ _ i).mono ?_;rintro r w2 ⟨rfl,x,k2⟩;have j:=hid x;have q:=hid (n.trans k2);go_wp2_with fail
 refine (m.out _ _ j).mono ?_;rintro r R ⟨rfl,G,y,C⟩;have k:=hid y;have s:=hid (q.trans C);go_wp2_with fail
 go_ret
 exact⟨rfl,G,k.out,s.out⟩
