/- Qbn -/
import Derived.Deep.RegionWith
import Derived.Deep.RegionHeld3
import Derived.BigQuiet
import Derived.Test.YtaejnmmpddbbjaaGreatDoorQbk
namespace Go.Proofs.YtaejnmmpddbbjaaGreatDoor
namespace IP
theorem fitB_iff (v:Int) (has:Bool) (lo hi:Int):fitB v has lo hi=true↔(has=true→lo≤v∧v≤hi)∧(has=false→v=0):=by
 unfold fitB
 cases has<;>simp
theorem may_zero {o a b i:Int} (h:may o a b i=0):0≤o∧o≤14∧0≤a∧a≤7∧0≤b∧b≤7∧ -32768≤i∧i≤32767:=by
 unfold may at h;split at h
 ·omega
 split at h
 ·rename_i h1 h2;obtain⟨x,y,z⟩:=h2;rw[fitB_iff] at x y z;have A:0≤a∧a≤7:=by cases hh:hA o with
   |true=>exact x.1 hh
   |false=>have:=x.2 hh;omega
  have B:0≤b∧b≤7:=by cases hh:hB o with
   |true=>exact y.1 hh
   |false=>have:=y.2 hh;omega
  have C: -32768≤i∧i≤32767:=by cases hh:hC o with
   |true=>exact z.1 hh
   |false=>have:=z.2 hh;omega
  omega
 ·omega
theorem may_plain (o a b i:Int):may o a b i=
  if o<0∨14<o then 1
  else if (a<0∨7<a)∨(b<0∨7<b)∨i< -32768∨32767<i∨(hA o=false∧a≠0)∨(hB o=false∧b≠0)∨(hC o=false∧i≠0) then 2 else 0:=by
 unfold may;by_cases h:o<0∨14<o
 ·rw[ag h,ag h]
 rw[ae h,ae h];simp only[fitB_iff]
 cases hA o<;>cases hB o<;>cases hC o<;>simp<;>(split<;>split<;>omega)
def dI (y:Int):Int:=if 32767<y then y - 65536 else y
end IP
end Go.Proofs.YtaejnmmpddbbjaaGreatDoor
namespace Go.Proofs.YtaejnmmpddbbjaaGreatDoor.Isa
open Go.RowKit Mem
set_option maxHeartbeats 1000000
theorem has_any (o:Int) (w:World):
  Calls Tryz.prog 170 #[.int .i64 o] w fun e w'=>e=.returned (.tuple #[.bool (IP.hA o),.bool (IP.hB o),.bool (IP.hC o)])∧w=w':=by
 by_cases a:o=0
 ·subst a;go_enter Tryz.func170,Tryz.ntmps170
  go_wp2
  go_ret3
  exact⟨rfl,rfl⟩
 by_cases b:o=1
 ·subst b;go_enter Tryz.func170,Tryz.ntmps170
  go_wp2
  go_ret3
  exact⟨rfl,rfl⟩
 by_cases g:o=13
 ·subst g;go_enter Tryz.func170,Tryz.ntmps170
  go_wp2
  go_ret3
  exact⟨rfl,rfl⟩
 by_cases c:o=10
 ·subst c;go_enter Tryz.func170,Tryz.ntmps170
  go_wp2
  go_ret3
  exact⟨rfl,rfl⟩
 by_cases d:o=11
 ·subst d;go_enter Tryz.func170,Tryz.ntmps170
  go_wp2
  go_ret3
  exact⟨rfl,rfl⟩
 by_cases f:o=12
 ·subst f;go_enter Tryz.func170,Tryz.ntmps170
  go_wp2
  go_ret3
  exact⟨rfl,rfl⟩
 by_cases h:o=14
 ·subst h;go_enter Tryz.func170,Tryz.ntmps170
  go_wp2
  go_ret3
  exact⟨rfl,rfl⟩
 have i:(o==0)=false:=beq_eq_false_iff_ne.2 a;have e1:(o==1)=false:=beq_eq_false_iff_ne.2 b;have l:(o==13)=false:=beq_eq_false_iff_ne.2 g;have e10:(o==10)=false:=beq_eq_false_iff_ne.2 c;have j:(o==11)=false:=beq_eq_false_iff_ne.2 d;have k:(o==12)=false:=beq_eq_false_iff_ne.2 f;have m:(o==14)=false:=beq_eq_false_iff_ne.2 h;rw[show IP.hA o=true from by simp[IP.hA];omega,show IP.hB o=true from by simp[IP.hB];omega,show IP.hC o=false from by simp[IP.hC];omega];clear a b g c d f h;go_enter Tryz.func170,Tryz.ntmps170
 go_wp2
 go_ret3
 exact⟨rfl,rfl⟩
set_option maxHeartbeats 2000000
theorem insMay_any (o a b i:Int) (w:World):
  Calls Tryz.prog 133 #[.agg #[.int .i64 o,.int .i64 a,.int .i64 b,.int .i64 i]] w
   fun e w'=>e=.returned (.int .i64 (IP.may o a b i))∧Below w.heap.size w w':=by
 go_enter Tryz.func133,Tryz.ntmps133
 go_wp2_with (first|(go_at_call 33;refine (far_any _ _ _).mono ?_;rintro e w' ⟨rfl,rfl⟩)|(go_at_call 170;refine (has_any _ _).mono ?_;rintro e w' ⟨rfl,rfl⟩))
 all_goals
  go_ret
  refine⟨ret_int ?_,bal (aj _ _) _⟩;rw[IP.may_plain];simp at*
  (repeat' split)<;>simp_all<;>omega
set_option maxHeartbeats 200000
theorem cells_drew {W:World} {C:Nat} {a:Array Value} (h:∀o,W.cell? ⟨C,o,none⟩=a[o]?):∀o,W.drew.cell? ⟨C,o,none⟩=a[o]? :=h
set_option maxHeartbeats 1000000
theorem insOf_word (x y:Int) (w:World) (d:IP.word x y):
  Calls Tryz.prog 84 #[.agg #[.int .i64 x,.int .i64 y]] w
   fun e w'=>e=.returned (.tuple #[.agg #[.int .i64 (x/256),.int .i64 (x/16%16),.int .i64 (x%16),.int .i64 (IP.dI y)],.bool (IP.may (x/256) (x/16%16) (x%16) (IP.dI y)==0)])∧Below w.heap.size w w':=by
 obtain⟨j,k,l,m⟩:=d;have d1:decide (x<0∨65535<x)=false:=ay (by omega);have d2:decide (y<0∨65535<y)=false:=ay (by omega);by_cases hi:32767<y
 ·rw[show IP.dI y=(y - 65536) from by unfold IP.dI;rw[ag hi]];go_enter Tryz.func84,Tryz.ntmps84
  go_wp2_with fail
  refine (far_any _ _ _).mono ?_;rw[d1];rintro e w' ⟨rfl,rfl⟩;go_wp2_with fail
  refine (far_any _ _ _).mono ?_;rw[d2];rintro e w' ⟨rfl,rfl⟩;go_wp2_with fail
  go_region_with (go_at_call 133;refine (insMay_any _ _ _ _ _).mono ?_;rintro e w1 ⟨rfl,a⟩;obtain⟨c,f⟩:=bcell a;have i:w.heap.size+1+1<w1.heap.size:=(by have:=a.size;simp at this;omega);have h:w.heap.size+1<w1.heap.size:=(by omega);have g:w.heap.size<w1.heap.size:=(by omega))
  all_goals
   go_wp2
   have b:=four_set (v0:=.int .i64 (x/256)) (v1:=.int .i64 (x/16%16)) (v2:=.int .i64 (x%16)) (v3:=.int .i64 (y - 65536)) (cells_next (cells_drew (cells_alloc (cells_at (w.alloc (.cells #[.int .i64 x,.int .i64 y] 128)) #[.int .i64 0,.int .i64 0,.int .i64 0,.int .i64 0] 131 (w.heap.size+1) (by simp)) (by simp) _)) (by simp<;>omega) a);refine aq (v:=.tuple #[.agg #[.int .i64 (x/256),.int .i64 (x/16%16),.int .i64 (x%16),.int .i64 (y - 65536)],.bool (IP.may (x/256) (x/16%16) (x%16) (y - 65536)==0)]) (by simp[results,Tryz.results84,go_sem,b]) rfl ⟨rfl,?_⟩;exact bset (bset (bset (bset (btr (bal (bal (bal (aj _ _) _) _) _).drew a) (by simp) _) (by simp) _) (by simp) _) (by simp) _
 ·rw[show IP.dI y=y from by unfold IP.dI;rw[ae hi]];go_enter Tryz.func84,Tryz.ntmps84
  go_wp2_with fail
  refine (far_any _ _ _).mono ?_;rw[d1];rintro e w' ⟨rfl,rfl⟩;go_wp2_with fail
  refine (far_any _ _ _).mono ?_;rw[d2];rintro e w' ⟨rfl,rfl⟩;go_wp2_with fail
  go_region_with (go_at_call 133;refine (insMay_any _ _ _ _ _).mono ?_;rintro e w1 ⟨rfl,a⟩;obtain⟨c,f⟩:=bcell a;have i:w.heap.size+1+1<w1.heap.size:=(by have:=a.size;simp at this;omega);have h:w.heap.size+1<w1.heap.size:=(by omega);have g:w.heap.size<w1.heap.size:=(by omega))
  all_goals
   go_wp2
   have b:=four_set (v0:=.int .i64 (x/256)) (v1:=.int .i64 (x/16%16)) (v2:=.int .i64 (x%16)) (v3:=.int .i64 y) (cells_next (cells_drew (cells_alloc (cells_at (w.alloc (.cells #[.int .i64 x,.int .i64 y] 128)) #[.int .i64 0,.int .i64 0,.int .i64 0,.int .i64 0] 131 (w.heap.size+1) (by simp)) (by simp) _)) (by simp<;>omega) a);refine aq (v:=.tuple #[.agg #[.int .i64 (x/256),.int .i64 (x/16%16),.int .i64 (x%16),.int .i64 y],.bool (IP.may (x/256) (x/16%16) (x%16) y==0)]) (by simp[results,Tryz.results84,go_sem,b]) rfl ⟨rfl,?_⟩;exact bset (bset (bset (bset (btr (bal (bal (bal (aj _ _) _) _) _).drew a) (by simp) _) (by simp) _) (by simp) _) (by simp) _
set_option maxHeartbeats 200000
theorem ins_ok (x y:Int) (w:World) (c:0≤x∧x≤65535) (d:0≤y∧y≤65535):
  Calls Tryz.prog 84 #[.agg #[.int .i64 x,.int .i64 y]] w fun e w'=>∃(o a b i:Int) (ok:Bool),e=.returned (.tuple #[.agg #[.int .i64 o,.int .i64 a,.int .i64 b,.int .i64 i],.bool ok])∧(ok=true→(0≤o∧o≤14)∧(0≤a∧a≤7)∧(0≤b∧b≤7)∧(-32768≤i∧i≤32767))∧Below w.heap.size w w':=
 (insOf_word x y w ⟨c.1,c.2,d.1,d.2⟩).mono fun e w' ⟨f,g⟩=>⟨_,_,_,_,_,f,fun h=>by
  obtain⟨j,k,a0,a1,b0,b1,i0,i1⟩:=IP.may_zero (bp.1 h);exact⟨⟨j,k⟩,⟨a0,a1⟩,⟨b0,b1⟩,i0,i1⟩,g⟩
end Go.Proofs.YtaejnmmpddbbjaaGreatDoor.Isa
namespace Go.Proofs.YtaejnmmpddbbjaaGreatDoor.Wd
open Go.RowKit Mem Bw Nums Mmu
def Dn (p:PW) (wb:Nat) (tag0:Nat→Nat) (w0:World) (l:List Nat) (W:World):Prop:=
 ∃tag V q,BoxT W wb tag V q∧Rm p q∧Kt tag0 tag w0 W∧(∀k∈l,tag k=0∧w0.heap.size≤k∧k<W.heap.size)∧w0.rangeAt wb 0 (arr11 V).toList
theorem Dn.start {p:PW} {wb:Nat} {tag:Nat→Nat} {V:Nat→Value} {w:World} (a:Lv p) (bt:BoxT w wb tag V p):Dn p wb tag w [] w:=⟨tag,V,p,bt,Rm.refl a,Kt.refl _ _,(fun _ h=>by cases h),bt.r⟩
theorem Dn.own {p:PW} {wb:Nat} {tag0:Nat→Nat} {w0 W:World} {l:List Nat} (h:Dn p wb tag0 w0 l W) {k:Nat} (hk:k∈l):k<W.heap.size:=by
 obtain⟨tag,V,q,_,_,_,o,_⟩:=h;exact (o k hk).2.2
theorem Dn.alloc {p:PW} {wb:Nat} {tag0:Nat→Nat} {w0 W:World} {l:List Nat} (h:Dn p wb tag0 w0 l W) (o:Obj):Dn p wb tag0 w0 (W.heap.size::l) (W.alloc o):=by
 obtain⟨tag,V,q,bt,g,kt,ow,i⟩:=h;have b:Kp (fun _=>False) W (W.alloc o):=.of_below (bal (aj _ _) o);have a:∀k,k<W.heap.size→(if k<W.heap.size then tag k else 0)=tag k:=fun k hk=>ag hk;have j:(W.alloc o).heap.size=W.heap.size+1:=by simp
 have ks:=kt.k.size;refine⟨fun k=>if k<W.heap.size then tag k else 0,V,q,bt.kp b (fun _ _ e=>e.elim) a,g,kt.trans (.of b (fun _ e=>e.elim) a),fun k hk=>?_,i⟩;rcases bQ.1 hk with rfl|hk
 ·exact⟨ae (Nat.lt_irrefl _),ks,by omega⟩
 ·obtain⟨c,d,f⟩:=ow k hk;exact⟨(a k f).trans c,d,by omega⟩
theorem Dn.kp {p:PW} {wb:Nat} {tag0:Nat→Nat} {w0 W W':World} {l:List Nat} (h:Dn p wb tag0 w0 l W) (k:Kp (fun k=>k∈l) W W'):Dn p wb tag0 w0 l W':=by
 obtain⟨tag,V,q,bt,i,kt,ow,j⟩:=h;have ks:=kt.k.size;refine⟨tag,V,q,bt.kp k (fun b _ a=>(ow b a).1) (fun _ _=>rfl),i,⟨⟨k.os.trans kt.k.os,k.tape.trans kt.k.tape,k.output.trans kt.k.output,aD ks k.size,fun b a g=>(k.block b (by omega) (fun f=>by have:=(ow b f).2.1;omega)).trans (kt.k.block b a g)⟩,kt.t⟩,fun b a=>?_,j⟩;obtain⟨c,d,e⟩:=ow b a;exact⟨c,d,aB e k.size⟩
theorem Dn.below {p:PW} {wb:Nat} {tag0:Nat→Nat} {w0 W W':World} {l:List Nat} (h:Dn p wb tag0 w0 l W) (a:Below W.heap.size W W'):Dn p wb tag0 w0 l W':=h.kp (.of_below a)
theorem Dn.less {p:PW} {wb:Nat} {tag0:Nat→Nat} {w0 W:World} {l m:List Nat} (h:Dn p wb tag0 w0 l W) (a:∀k∈m,k∈l):Dn p wb tag0 w0 m W:=by
 obtain⟨tag,V,q,bt,b,kt,ow,c⟩:=h;exact⟨tag,V,q,bt,b,kt,fun k hk=>ow k (a k hk),c⟩
theorem Dn.step {p q:PW} {wb:Nat} {tag0 tag tag':Nat→Nat} {V:Nat→Value} {w0 W W':World} {l:List Nat} (g:Rm p q) (kt:Kt tag0 tag w0 W) (ow:∀k∈l,tag k=0∧w0.heap.size≤k∧k<W.heap.size) {a:PW} (i:w0.rangeAt wb 0 (arr11 V).toList) (k2:Kt tag tag' W W') (b2:BoxT W' wb tag' V a) (f:Rm q a):
  Dn p wb tag0 w0 l W'∧Kp (fun k=>k∉l) W W':=
 ⟨⟨tag',V,a,b2,g.trans f,kt.trans k2,fun k hk=>by
  obtain⟨c,d,b⟩:=ow k hk;exact⟨k2.t k b c,d,aB b k2.k.size⟩,i⟩,k2.k.wider fun k _ h e=>h (ow k e).1⟩
theorem Dn.load {p:PW} {wb:Nat} {tag0:Nat→Nat} {w0 W:World} {l:List Nat} (h:Dn p wb tag0 w0 l W) {b2 b3 b4 c t:Nat} (n:c<p.tlbs.length) (m:p.k t=6) (cs:CapsT [(b2,ptr wb),(b3,.int .i64 (c:Int)),(b4,.int .i64 (t:Int))] tag0 w0) (a:Int):
  Calls Tryz.prog 45 #[.int .i64 a,ptr b2,ptr b3,ptr b4] W fun r W'=>∃(v:Int) (ok:Bool),r=.returned (.tuple #[.int .i64 v,.bool ok])∧(0≤v∧v≤65535)∧Dn p wb tag0 w0 l W'∧Kp (fun k=>k∉l) W W':=by
 obtain⟨tag,V,q,bt,s,kt,ow,u⟩:=h;obtain⟨b,X,R,e⟩:=s;refine (load_ok wb tag V q b2 b3 b4 c t a W bt b.w (by rw[b.c];exact n) (by rw[e];exact m) (cs.kt kt)).mono ?_;rintro r W' ⟨v,ok,i,j,tag',x,k2,d,o⟩;obtain⟨f,g⟩:=Dn.step (l:=l) ⟨b,X,R,e⟩ kt ow u k2 d o;exact⟨v,ok,i,j,f,g⟩
theorem Dn.store {p:PW} {wb:Nat} {tag0:Nat→Nat} {w0 W:World} {l:List Nat} (h:Dn p wb tag0 w0 l W) {b2 b3 b4 c t:Nat} (m:c<p.tlbs.length) (j:p.k t=6) (cs:CapsT [(b2,ptr wb),(b3,.int .i64 (c:Int)),(b4,.int .i64 (t:Int))] tag0 w0) (a v:Int) (n:0≤v∧v≤65535):
  Calls Tryz.prog 47 #[.int .i64 a,.int .i64 v,ptr b2,ptr b3,ptr b4] W fun r W'=>∃ok:Bool,r=.returned (.bool ok)∧Dn p wb tag0 w0 l W'∧Kp (fun k=>k∉l) W W':=by
 obtain⟨tag,V,q,bt,s,kt,ow,u⟩:=h;obtain⟨b,X,R,e⟩:=s;refine (store_ok wb tag V q b2 b3 b4 c t a v n W bt b.w (by rw[b.c];exact m) (by rw[e];exact j) (cs.kt kt)).mono ?_;rintro r W' ⟨ok,i,tag',x,k2,d,o⟩;obtain⟨f,g⟩:=Dn.step (l:=l) ⟨b,X,R,e⟩ kt ow u k2 d o;exact⟨ok,i,f,g⟩
theorem Dn.pre {p:PW} {wb:Nat} {tag0:Nat→Nat} {w0 w1 W:World} {b:Nat} (h:Dn p wb tag0 w1 [] W) (c:Below w0.heap.size w0 w1) (d:w0.heap.size≤b) (a:b<w1.heap.size) (g:tag0 b=0) (f:wb<w0.heap.size):Dn p wb tag0 w0 [b] W:=by
 obtain⟨tag,V,q,bt,i,kt,_,l⟩:=h;exact⟨tag,V,q,bt,i,(aW c).trans kt,fun k hk=>by rw[cg.1 hk];exact⟨kt.t b a g,d,aB a kt.k.size⟩,fun j v e=>(c.cell (p:=⟨wb,0+j,none⟩) f).symm.trans (l j v e)⟩
structure Gq (f g:Nat→Int):Prop where
 w:∀k,k<9→0≤g k∧g k≤65535
 s:∀k,9≤k→g k=f k
theorem Gq.refl {f:Nat→Int} (h:∀k,k<9→0≤f k∧f k≤65535):Gq f f:=⟨h,fun _ _=>rfl⟩
theorem Gq.upd {f g:Nat→Int} (h:Gq f g) {k:Nat} (hk:k<9) {v:Int} (b:0≤v∧v≤65535):Gq f (upd g k v):=by
 refine⟨fun j a=>?_,fun j a=>?_⟩
 ·unfold Wd.upd;split
  ·exact b
  ·exact h.w j a
 ·unfold Wd.upd;rw[ae (by omega)];exact h.s j a
theorem cf_set (n:Nat) (f:Nat→Int) (k:Nat) (v:Int):(cf n f).set k (.int .i64 v)=cf n (upd f k v):=by
 apply List.ext_getElem?;intro j;rw[List.getElem?_set];unfold cf Wd.upd;by_cases e:k=j
 ·subst e;by_cases a:k<n
  ·simp[a]
  ·simp[a]
 ·rw[ae e];by_cases a:j<n
  ·simp[a,Ne.symm e]
  ·simp[a]
structure Gw (W:World) (f g:Nat→Int) (o A B i:Int) (b r c n:Nat):Prop where
 t:W.rangeAt b 0 (cf 20 f)
 r:W.there r 0 20
 i0:W.cell? ⟨c,0,none⟩=some (.int .i64 o)
 i1:W.cell? ⟨c,1,none⟩=some (.int .i64 A)
 i2:W.cell? ⟨c,2,none⟩=some (.int .i64 B)
 i3:W.cell? ⟨c,3,none⟩=some (.int .i64 i)
 m:W.rangeAt n 0 (cf 20 g)
 nt:W.there n 0 20
 d:b≠n∧c≠n
theorem Gw.set {W:World} {f g:Nat→Int} {o A B i:Int} {b r c n:Nat} (h:Gw W f g o A B i b r c n) (k:Nat) (hk:k<20) (v:Int):Gw (W.setCell ⟨n,k,none⟩ (.int .i64 v)) f (upd g k v) o A B i b r c n where
 t:=range_far h.t (Ne.symm h.d.1) _
 r:=there_set h.r _ _
 i0:=(aI W _ _ _ (by intro e;have:=cX Addr.block e;exact h.d.2 this.symm)).trans h.i0
 i1:=(aI W _ _ _ (by intro e;have:=cX Addr.block e;exact h.d.2 this.symm)).trans h.i1
 i2:=(aI W _ _ _ (by intro e;have:=cX Addr.block e;exact h.d.2 this.symm)).trans h.i2
 i3:=(aI W _ _ _ (by intro e;have:=cX Addr.block e;exact h.d.2 this.symm)).trans h.i3
 m:=by rw[←cf_set];exact range_set h.m (by rw[ax];exact hk) _
 nt:=there_set h.nt _ _
 d:=h.d
theorem Gw.kept {W e:World} {f g:Nat→Int} {o A B i:Int} {b r c n:Nat} {T:Nat→Prop} (h:Gw W f g o A B i b r c n) (k:Kp T W e) (l:¬T b) (p:¬T r) (a:¬T c) (j:¬T n):Gw e f g o A B i b r c n:=
 ⟨ef h.t k l,dN h.r k p,(k.cell (al _ _ h.i0) a).trans h.i0,(k.cell (al _ _ h.i1) a).trans h.i1,(k.cell (al _ _ h.i2) a).trans h.i2,(k.cell (al _ _ h.i3) a).trans h.i3,ef h.m k j,dN h.nt k j,h.d⟩
theorem gw_start {W:World} {f:Nat→Int} {o A B i:Int} {b r:Nat} {z:Array Value} (h:z.size=20) (t:W.rangeAt b 0 (cf 20 f)) (e:W.there r 0 20) (c:b<W.heap.size) (u v:TypeId):
  Gw (((W.alloc (.cells #[.int .i64 o,.int .i64 A,.int .i64 B,.int .i64 i] u)).alloc (.cells z v)).setCells (W.heap.size+1) 0 (cf 20 f)) f f o A B i b r W.heap.size (W.heap.size+1):=by
 have g:=cells_alloc (cJ W #[.int .i64 o,.int .i64 A,.int .i64 B,.int .i64 i] u) (by simp) (.cells z v);have a:∀k,(((W.alloc (.cells #[.int .i64 o,.int .i64 A,.int .i64 B,.int .i64 i] u)).alloc (.cells z v)).setCells (W.heap.size+1) 0 (cf 20 f)).cell? ⟨W.heap.size,k,none⟩=(#[.int .i64 o,.int .i64 A,.int .i64 B,.int .i64 i]:Array Value)[k]? :=fun k=>by
  rw[cell_setCells (by omega)];exact g k
 exact {
  t:=World.rangeAt_setCells_apart (World.rangeAt_alloc (World.rangeAt_alloc t _) _) _ _ _ (.inl (by omega))
  r:=World.there_setCells (World.there_alloc (World.there_alloc e _) _) _ _ _
  i0:=a 0
  i1:=a 1
  i2:=a 2
  i3:=a 3
  m:=World.rangeAt_setCells_same _ _ _ _ (by rw[ax];exact aM _ _ _ _ _ (by simp) (by omega))
  nt:=World.there_setCells (aM _ _ _ _ _ (by simp) (by omega)) _ _ _
  d:=⟨Nat.ne_of_lt (Nat.lt_succ_of_lt c),Nat.ne_of_lt (bY _)⟩}
def retD (g:Nat→Int) (ev n:Int):Value:=.tuple #[.agg (cf 20 g).toArray,.int .i64 ev,.int .i64 n]
def DidOk (p:PW) (wb:Nat) (tag0:Nat→Nat) (w0:World) (f:Nat→Int) (e:Ending) (w':World):Prop:=
 ∃g ev n,e=.returned (retD g ev n)∧Gq f g∧(0≤ev∧ev≤3)∧(-32768≤n∧n≤65535)∧(ev=2→ -1≤n)∧Dn p wb tag0 w0 [] w'
set_option maxRecDepth 100000
set_option maxHeartbeats 4000000
theorem takeBusy_ref (wb:Nat) (tag:Nat→Nat) (V:Nat→Value) (p:PW) (t:Nat) (d:Int) (W:World) (bt:BoxT W wb tag V p) (c:p.Fits) (e:t<p.tasks.length) (b:¬p.tasks.getD t bl 17= -1):
  Calls Tryz.prog 136 #[.pointer (some ⟨wb,0,none⟩),.int .i64 t,.int .i64 d] W fun r W'=>r=.returned (.int .i64 7)∧W=W':=by
 have j:(p.tasks.length:Int)≤1000:=by have:=c.tasks;omega
 have l:(t:Int)<(p.tasks.length:Int):=by omega
 obtain⟨g,f,a⟩:=bt.o.tasks.form (by omega);have i:W.cell? ⟨wb,3,none⟩=some (.slice (some ⟨g,0,none⟩) p.tasks.length f):=by rw[af bt.r (k:=3) rfl,a]
 have h:=bt.taskAt a e (show 17<20 by omega);generalize p.tasks.getD t bl 17=y at h b;have m:(y== -1)=false:=by simpa using b
 clear bt c e a;go_enter Tryz.func136,Tryz.ntmps136
 go_wp2_with fail
 go_ret
 exact⟨rfl,rfl⟩
theorem takeNone_ref (wb:Nat) (tag:Nat→Nat) (V:Nat→Value) (p:PW) (t d:Nat) (W:World) (bt:BoxT W wb tag V p) (b:p.Fits) (c:t<p.tasks.length) (i:d<p.lines.length) (g:p.tasks.getD t bl 17= -1)
  (j:Calls Tryz.prog 87 #[.pointer (some ⟨wb,0,none⟩),.int .i64 d,.bool false] W fun r W'=>r=.returned (.int .i64 (-1))∧W=W'):
  Calls Tryz.prog 136 #[.pointer (some ⟨wb,0,none⟩),.int .i64 t,.int .i64 d] W fun r W'=>r=.returned (.int .i64 0)∧∃tag',BoxT W' wb tag' V (ssP p t d 4)∧Kt tag tag' W W':=by
 have w:(p.tasks.length:Int)≤1000:=by have:=b.tasks;omega
 have x:(t:Int)<(p.tasks.length:Int):=by omega
 obtain⟨q,n,a⟩:=bt.o.tasks.form (by omega);have v:W.cell? ⟨wb,3,none⟩=some (.slice (some ⟨q,0,none⟩) p.tasks.length n):=by rw[af bt.r (k:=3) rfl,a]
 have u:=bt.taskAt a c (show 17<20 by omega);have e:=hid j;have f:=hid (stands_ref wb tag V p t d 4 W bt b c i);rw[g] at u;clear bt b c a g i j;go_enter Tryz.func136,Tryz.ntmps136
 go_wp2_with fail
 refine e.mono ?_;rintro r w1 ⟨rfl,rfl⟩;clear e;go_wp2_with fail
 refine f.mono ?_;rintro r w2 ⟨rfl,s,h,k2⟩;have l:=hid h;have m:=hid k2;clear h k2 f;go_wp2_with fail
 go_ret
 exact⟨rfl,s,l.out,m.out⟩
theorem takeYes_ref (wb:Nat) (tag:Nat→Nat) (V:Nat→Value) (p:PW) (t d u:Nat) (l:List Int) (W:World) (bt:BoxT W wb tag V p) (F:p.Fits) (hs:Snd p) (N:t<p.tasks.length) (hd:d<p.lines.length) (aj:p.tasks.getD t bl 17= -1) (hz:p.lines.getD d []=(u:Int)::l) (hu:u<p.kinds.length) (f:u<p.tasks.length) (hk:p.kinds[u]=6) (s:t≠u) (al:p.tasks.getD u bl 9=2∨p.tasks.getD u bl 9=3):
  Calls Tryz.prog 136 #[.pointer (some ⟨wb,0,none⟩),.int .i64 t,.int .i64 d] W fun r W'=>r=.returned (.int .i64 0)∧∃tag',BoxT W' wb tag' V (if p.tasks.getD u bl 9=3 then ((tkQ p d t u l).task u 9 5).task t 17 u else wnP (tkQ p d t u l) u (rdN p u))∧Kt tag tag' W W':=by
 have az:(p.tasks.length:Int)≤1000:=by have:=F.tasks;omega
 have aB:(t:Int)<(p.tasks.length:Int):=by omega
 obtain⟨a,c,A⟩:=bt.o.tasks.form (by omega);have m:W.cell? ⟨wb,3,none⟩=some (.slice (some ⟨a,0,none⟩) p.tasks.length c):=by rw[af bt.r (k:=3) rfl,A]
 have ao:=bt.taskAt A N (show 17<20 by omega);obtain⟨r1,r2,r3,r4⟩:=rdN_eq hs hu hk;have aw:=tl_le F hz;have HF:=hid (front_yes wb tag V p d false W bt F hd u l hz f (ay (by omega)));have am:=fr_fits F d u l (by omega);have an:=tkQ_fits F d t u l (by omega);obtain⟨g,hg⟩:∃g,p.tasks.getD u bl 16=g:=⟨_,rfl⟩
 obtain⟨v,hv⟩:∃v,p.tasks.getD u bl 15=v:=⟨_,rfl⟩
 have T:=hid ((fr_task p d u l 16 f (by decide)).trans hg);have U:=hid ((fr_task p d u l 15 f (by decide)).trans hv);have aq:=hid (fr_len p d u l);have HH:=hid (fun X tg (h:BoxT X wb tg V (frP p d u l))=>handed_ref wb tg V (frP p d u l) t g v X h am (by rw[fr_len];exact N));have HQ:=hid (show (((((frP p d u l).task t 1 g).task t 2 v).task u 16 0).task u 15 0)=tkQ p d t u l by rw[←hg, ←hv];exact tkQ_ref p d t u l s f);have ad:=hid (show (((frP p d u l).task t 1 g).task t 2 v).tasks.getD u bl 15=v by rw[task_els _ u t 2 _ s,task_els _ u t 1 _ s];exact U);have ah:=hid (show (((frP p d u l).task t 1 g).task t 2 v).tasks.getD u bl 16=g by rw[task_els _ u t 2 _ s,task_els _ u t 1 _ s];exact T);have z:=hid (show (((frP p d u l).task t 1 g).task t 2 v).tasks.length=p.tasks.length by rw[ap,ap,fr_len]);have w:=hid (tkQ_len p d t u l);have L9:=hid (tkQ_at p d t u 9 l s f (by decide) (by decide) (by decide));have ab:=tkQ_at p d t u 18 l s f (by decide) (by decide) (by decide);have aa:=tkQ_at p d t u 10 l s f (by decide) (by decide) (by decide);have Y:=hid (fun X tg (h:BoxT X wb tg V (tkQ p d t u l))=>woken_ref wb tg V (tkQ p d t u l) u (rdN p u) X h an (by rw[tkQ_len];exact f) r1 (by rw[ab];exact r3) (by rw[aa];exact r4) (by rw[ab,aa];exact r2));have KS:=hid (fun X tg q (h:BoxT X wb tg V q) (M:q.tasks.length=p.tasks.length) (ar:q.tasks.getD u bl 15=v) (au:q.tasks.getD u bl 16=g)=>show X.cell? ⟨wb,3,none⟩=some (.slice (some ⟨a,0,none⟩) p.tasks.length c)∧X.cell? ⟨a,u*20+16,none⟩=some (.int .i64 g)∧X.cell? ⟨a,u*20+15,none⟩=some (.int .i64 v) from⟨by rw[af h.r (k:=3) rfl,A],by have e:=h.taskAt (show V 3=.slice (some ⟨a,0,none⟩) q.tasks.length c by rw[M];exact A) (i:=u) (by rw[M];exact f) (show 16<20 by omega);rw[au] at e;exact e,by have e:=h.taskAt (show V 3=.slice (some ⟨a,0,none⟩) q.tasks.length c by rw[M];exact A) (i:=u) (by rw[M];exact f) (show 15<20 by omega);rw[ar] at e;exact e⟩);have aC:¬((u:Int)<0):=by omega
 have aD:(u:Int)<(p.tasks.length:Int):=by omega
 have j:=hid A;have ai:=hid N;have y:=hid f;have Q:=hid al;rw[aj] at ao;generalize hR:(if p.tasks.getD u bl 9=3 then ((tkQ p d t u l).task u 9 5).task t 17 u else wnP (tkQ p d t u l) u (rdN p u))=R;have J:=hid hR;clear hR;clear bt F hs hd aj hz hu hk s al r1 r2 r3 r4 aw am an hg hv ab aa A N f;go_enter Tryz.func136,Tryz.ntmps136
 go_wp2_with fail
 refine HF.mono ?_;rintro r w1 ⟨rfl,ac,e,k1⟩;have B1:=hid e;have K1:=hid k1;clear e k1 HF m ao;go_upto_region 7 with fail
 have P:Hid (BoxT w1.drew wb ac V (frP p d u l)):=hid (B1.below (aA w1 1));have KD:Hid (Kt tag ac W w1.drew):=hid (K1.trans (.below (aA w1 1)));refine wp_region_held_drew (S:=fun X=>X.cell? ⟨wb,3,none⟩=some (.slice (some ⟨a,0,none⟩) p.tasks.length c)∧X.cell? ⟨a,u*20+16,none⟩=some (.int .i64 g)∧X.cell? ⟨a,u*20+15,none⟩=some (.int .i64 v)) (by kernel_rfl) (KS.out _ _ _ P aq U T) (fun I=>?_);have b:=hid I;clear I;refine tk 0 (.pointer (some ⟨wb,0,none⟩)) rfl b ?_;simp only[jj];refine tk 1 (.int .i64 t) rfl b ?_;simp only[jj];refine tk 2 (.pointer (some ⟨wb,0,none⟩)) rfl b ?_;simp only[jj];refine tk 3 (.pointer (some ⟨wb,0,none⟩)) rfl b ?_;simp only[jj];refine tk 4 (.pointer (some ⟨wb,3,none⟩)) rfl b ?_;simp only[jj];refine dV 5 (.slice (some ⟨a,0,none⟩) p.tasks.length c) rfl (Or.inl ⟨by rfl,fun W h=>by have B:=h.1;clear h;go_simp⟩) b ?_;simp only[jj];refine tk 6 (.int .i64 u) rfl b ?_;simp only[jj];refine tk 7 (.pointer (some ⟨a,u*20,none⟩)) rfl b ?_;simp only[jj];refine tk 8 (.pointer (some ⟨a,u*20+16,none⟩)) rfl b ?_;simp only[jj];refine dV 9 (.int .i64 g) rfl (Or.inl ⟨by rfl,fun W h=>by have B:=h.2.1;clear h;go_simp⟩) b ?_;simp only[jj];refine tk 10 (.pointer (some ⟨wb,0,none⟩)) rfl b ?_;simp only[jj];refine tk 11 (.pointer (some ⟨wb,0,none⟩)) rfl b ?_;simp only[jj];refine tk 12 (.pointer (some ⟨wb,3,none⟩)) rfl b ?_;simp only[jj];refine dV 13 (.slice (some ⟨a,0,none⟩) p.tasks.length c) rfl (Or.inl ⟨by rfl,fun W h=>by have B:=h.1;clear h;go_simp⟩) b ?_;simp only[jj];refine tk 14 (.int .i64 u) rfl b ?_;simp only[jj];refine tk 15 (.pointer (some ⟨a,u*20,none⟩)) rfl b ?_;simp only[jj];refine tk 16 (.pointer (some ⟨a,u*20+15,none⟩)) rfl b ?_;simp only[jj];refine dV 17 (.int .i64 v) rfl (Or.inl ⟨by rfl,fun W h=>by have B:=h.2.2;clear h;go_simp⟩) b ?_;simp only[jj];refine wpAnyH_ready (rs:=[18]) (by kernel_rfl) (by simp) (AllReadyH.cons rfl (fun K hK=>?_) AllReadyH.nil);go_simp
 refine (HH.out _ _ P).mono ?_;rintro q w2 ⟨rfl,e,E⟩;have C:=hid e;have K2:=hid (KD.trans E);clear e E;go_wp2_with fail
 refine hK _ _ (KS.out _ _ _ C z ad ah) (fun I=>?_);have av:=hid I;clear hK K I
 try simp only[Act.put,jD,jE,jF]
 refine dC (by kernel_rfl) ?_ _;clear b av KS HH P KD B1 K1 U T ad ah;have e4:=hid (show V 3=.slice (some ⟨a,0,none⟩) (((frP p d u l).task t 1 g).task t 2 v).tasks.length c by rw[z.out];exact j);have m:w2.cell? ⟨wb,3,none⟩=some (.slice (some ⟨a,0,none⟩) p.tasks.length c):=by rw[af C.r (k:=3) rfl,j.out]
 have G:=C.taskAt e4 (i:=u) (by rw[z.out];exact y) (show 16<20 by omega);have D:=C.tasksFr e4 (u*20+16);obtain⟨b1,q1⟩:=C.task e4 (i:=u) (by rw[z.out];exact y) (show 16<20 by omega) 0;have H:=hid b1;have K3:=hid (K2.trans q1);clear b1 q1 e4;clear C K2;go_upto_region 9 with fail
 generalize World.setCell _ _ _=W3 at*;clear m G D;have e4:=hid (show V 3=.slice (some ⟨a,0,none⟩) ((((frP p d u l).task t 1 g).task t 2 v).task u 16 0).tasks.length c by rw[ap,z.out];exact j);have m:W3.cell? ⟨wb,3,none⟩=some (.slice (some ⟨a,0,none⟩) p.tasks.length c):=by rw[af H.r (k:=3) rfl,j.out]
 have G:=H.taskAt e4 (i:=u) (by rw[ap,z.out];exact y) (show 15<20 by omega);have D:=H.tasksFr e4 (u*20+15);obtain⟨b1,q1⟩:=H.task e4 (i:=u) (by rw[ap,z.out];exact y) (show 15<20 by omega) 0;have n:=hid b1;have Z:=hid (K3.trans q1);clear b1 q1 e4;clear H K3;go_upto_region 10 with fail
 generalize World.setCell _ _ _=W4 at*;clear m G D;rw[HQ.out] at n;have m:W4.cell? ⟨wb,3,none⟩=some (.slice (some ⟨a,0,none⟩) p.tasks.length c):=by rw[af n.r (k:=3) rfl,j.out]
 have O:=n.taskAt (show V 3=.slice (some ⟨a,0,none⟩) (tkQ p d t u l).tasks.length c by rw[w.out];exact j) (i:=u) (by rw[w.out];exact y) (show 9<20 by omega);rw[L9.out] at O;rcases Q.out with E|B
 ·rw[ae (by rw[E];decide)] at J;rw[E] at O;clear E Q;go_wp2_with fail
  refine (Y.out _ _ n).mono ?_;rintro q w5 ⟨rfl,ax,e,k1⟩;have x:=hid e;have L:=hid (Z.trans k1);clear e k1 Y;go_wp2_with fail
  go_ret
  exact⟨rfl,ax,by rw[←J.out];exact x,L.out⟩
 ·rw[ag B] at J;rw[B] at O;clear B Q Y;go_upto_region 11 with fail
  clear m O;have e4:=hid (show V 3=.slice (some ⟨a,0,none⟩) (tkQ p d t u l).tasks.length c by rw[w.out];exact j);have m:W4.cell? ⟨wb,3,none⟩=some (.slice (some ⟨a,0,none⟩) p.tasks.length c):=by rw[af n.r (k:=3) rfl,j.out]
  have G:=n.taskAt e4 (i:=u) (by rw[w.out];exact y) (show 9<20 by omega);have D:=n.tasksFr e4 (u*20+9);obtain⟨b1,q1⟩:=n.task e4 (i:=u) (by rw[w.out];exact y) (show 9<20 by omega) 5;have x:=hid b1;have L:=hid (Z.trans q1);clear b1 q1 e4;clear n Z;go_upto_region 12 with fail
  generalize World.setCell _ _ _=W5 at*;clear m G D;have e4:=hid (show V 3=.slice (some ⟨a,0,none⟩) ((tkQ p d t u l).task u 9 5).tasks.length c by rw[ap,w.out];exact j);have m:W5.cell? ⟨wb,3,none⟩=some (.slice (some ⟨a,0,none⟩) p.tasks.length c):=by rw[af x.r (k:=3) rfl,j.out]
  have G:=x.taskAt e4 (i:=t) (by rw[ap,w.out];exact ai) (show 17<20 by omega);have D:=x.tasksFr e4 (t*20+17);obtain⟨b1,q1⟩:=x.task e4 (i:=t) (by rw[ap,w.out];exact ai) (show 17<20 by omega) u;have B6:=hid b1;have K6:=hid (L.trans q1);clear b1 q1 e4;clear x L;go_wp2_with fail
  go_ret
  exact⟨rfl,ac,by rw[←J.out];exact B6,K6.out⟩
theorem answerNone_ref (wb:Nat) (tag:Nat→Nat) (V:Nat→Value) (p:PW) (t:Nat) (v:Int) (W:World) (bt:BoxT W wb tag V p) (c:p.Fits) (d:t<p.tasks.length) (b:p.tasks.getD t bl 17= -1):
  Calls Tryz.prog 137 #[.pointer (some ⟨wb,0,none⟩),.int .i64 t,.int .i64 v] W fun r W'=>r=.returned (.int .i64 6)∧W=W':=by
 have i:(p.tasks.length:Int)≤1000:=by have:=c.tasks;omega
 have j:(t:Int)<(p.tasks.length:Int):=by omega
 obtain⟨f,e,a⟩:=bt.o.tasks.form (by omega);have h:W.cell? ⟨wb,3,none⟩=some (.slice (some ⟨f,0,none⟩) p.tasks.length e):=by rw[af bt.r (k:=3) rfl,a]
 have g:=bt.taskAt a d (show 17<20 by omega);rw[b] at g;clear bt c d a b;go_enter Tryz.func137,Tryz.ntmps137
 go_wp2_with fail
 go_ret
 exact⟨rfl,rfl⟩
theorem answerYes_ref (wb:Nat) (tag:Nat→Nat) (V:Nat→Value) (p:PW) (t u:Nat) (v:Int) (W:World) (bt:BoxT W wb tag V p) (e:p.Fits) (y:Snd p) (g:t<p.tasks.length) (s:p.tasks.getD t bl 17=u) (z:u<p.kinds.length) (A:u<p.tasks.length) (hk:p.kinds[u]=6) (d:t≠u):
  Calls Tryz.prog 137 #[.pointer (some ⟨wb,0,none⟩),.int .i64 t,.int .i64 v] W fun r W'=>r=.returned (.int .i64 0)∧∃tag',BoxT W' wb tag' V (wnP (((p.task t 17 (-1)).task u 1 0).task u 2 v) u (rdN p u))∧Kt tag tag' W W':=by
 have O:(p.tasks.length:Int)≤1000:=by have:=e.tasks;omega
 have P:(t:Int)<(p.tasks.length:Int):=by omega
 obtain⟨L,J,b⟩:=bt.o.tasks.form (by omega);have I:W.cell? ⟨wb,3,none⟩=some (.slice (some ⟨L,0,none⟩) p.tasks.length J):=by rw[af bt.r (k:=3) rfl,b]
 have F:=bt.taskAt b g (show 17<20 by omega);obtain⟨C,D,E,r4⟩:=rdN_eq y z hk;have a:u<(p.task t 17 (-1)).tasks.length:=by rw[ap];exact A
 have f:=tsk_fits e t 17 (-1);have l:=hid (fun X tg (h:BoxT X wb tg V (p.task t 17 (-1)))=>handed_ref wb tg V (p.task t 17 (-1)) u 0 v X h f a);have c:(((p.task t 17 (-1)).task u 1 0).task u 2 v).tasks.getD u bl 18=p.tasks.getD u bl 18:=by rw[task_at _ u 2 18 _ (by rw[ap];exact a) (by decide),task_at _ u 1 18 _ a (by decide),task_els _ u t 17 _ d]
 have e10:(((p.task t 17 (-1)).task u 1 0).task u 2 v).tasks.getD u bl 10=p.tasks.getD u bl 10:=by rw[task_at _ u 2 10 _ (by rw[ap];exact a) (by decide),task_at _ u 1 10 _ a (by decide),task_els _ u t 17 _ d]
 have m:=hid (fun X tg (h:BoxT X wb tg V (((p.task t 17 (-1)).task u 1 0).task u 2 v))=>woken_ref wb tg V (((p.task t 17 (-1)).task u 1 0).task u 2 v) u (rdN p u) X h (tsk_fits (tsk_fits f u 1 0) u 2 v) (by rw[ap,ap];exact a) C (by rw[c];exact E) (by rw[e10];exact r4) (by rw[c,e10];exact D));have Q:¬((u:Int)= -1):=by omega
 have R:((u:Int)== -1)=false:=by simp
 have K:=bt.tasksFr b (t*20+17);obtain⟨b1,q1⟩:=bt.task b g (show 17<20 by omega) (-1);have i:=hid b1;have n:=hid q1;rw[s] at F;clear bt e y s z A hk d C D E r4 a f c e10 b g b1 q1;go_enter Tryz.func137,Tryz.ntmps137
 go_upto_region 5 with fail
 generalize World.setCell _ _ _=N at*;clear I F K;go_wp2_with fail
 refine (l.out _ _ i).mono ?_;rintro r w2 ⟨rfl,w,k2⟩;have j:=hid w;have q:=hid (n.trans k2);clear w k2 l i n;go_wp2_with fail
 refine (m.out _ _ j).mono ?_;rintro r S ⟨rfl,M,x,B⟩;have G:=hid x;have H:=hid (q.trans B);clear x B m j q;go_wp2_with fail
 go_ret
 exact⟨rfl,M,G.out,H.out⟩
end Go.Proofs.YtaejnmmpddbbjaaGreatDoor.Wd
