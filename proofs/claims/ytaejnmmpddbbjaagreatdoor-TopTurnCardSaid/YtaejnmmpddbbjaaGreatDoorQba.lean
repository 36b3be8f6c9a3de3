/- Qba -/
import Derived.Deep.RegionHeld3
import Derived.Deep.AppendLies
import Derived.Lib.Split
import Derived.Lib.SplitLaws
import Derived.Laws.OwnMore
import Derived.OwnWalk
import Derived.Deep.QuietTactic
import Derived.BigQuiet
import Derived.Test.YtaejnmmpddbbjaaGreatDoorQak
set_option maxRecDepth 100000
set_option maxHeartbeats 16000000
namespace Go.Proofs.YtaejnmmpddbbjaaGreatDoor
namespace Hd2
open Go.RowKit Mem
def nX (md:Region.Mode) (ops:Array Oper) (n1 N:Nat):Bool:=
 decide (n1<=ops.size)&&(List.range ops.size).all fun i=>match ops[i]? with
  |none=>true
  |some o=>if i<n1 then o.guard.isNone&&o.after.all (fun e=>decide (e.on<i))&&(match o.dst with|none=>false|some d=>decide (d<N)&&(List.range i).all fun j=>(ops[j]?).bind (·.dst) !=some d)
   else (List.range n1).all fun j=>o.after.any fun e=>Region.binds md e&&e.on==j
def left (listed:Array Bool):Nat->Nat
 |0=>0
 |n+1=>left listed n+(if listed.getD n false=true then 0 else 1)
theorem dz {l:Array Bool} {i j:Nat} (hi:i<l.size):(l.setIfInBounds i true).getD j false=if j=i then true else l.getD j false:=by
 simp only[cX,Array.getElem?_setIfInBounds];by_cases h:i=j
 ·subst h;simp[hi]
 ·have:¬j=i:=fun e=>h e.symm;simp[h,this]
theorem ob {l:Array Bool} {i:Nat} (hi:i<l.size):∀n,n<=i->left (l.setIfInBounds i true) n=left l n
 |0,_=>rfl
 |n+1,h=>by
  have e:¬n=i:=oA;simp only[left];rw[ob hi n oA,dz hi,ae e]
theorem tC {l:Array Bool} {i:Nat} (hi:i<l.size) (a:l.getD i false=false):∀n,i<n->left (l.setIfInBounds i true) n+1=left l n
 |0,h=>oA
 |n+1,h=>by
  simp only[left];rw[dz hi];by_cases e:n=i
  ·subst e;rw[ob hi n (aq _),ah rfl,a];simp
  ·rw[ae e];have:=tC hi a n oA;omega
theorem mP {l:Array Bool}:∀n,left l n=0->∀j,j<n->l.getD j false=true
 |0,_,j,hj=>oA
 |n+1,h,j,hj=>by
  simp only[left] at h;by_cases e:j=n
  ·subst e;by_cases hl:l.getD j false=true
   ·exact hl
   ·rw[ae hl] at h;omega
  ·exact mP n oA j oA
theorem oc {l:Array Bool}:∀n,left l n≠0->∃j,j<n∧l.getD j false=false∧∀k,k<j->l.getD k false=true
 |0,h=>absurd rfl h
 |n+1,h=>by
  by_cases a:left l n=0
  ·refine⟨n,oA,?_,mP n a⟩;simp only[left,a] at h;by_cases hl:l.getD n false=true
   ·rw[ah hl] at h;exact absurd rfl h
   ·simpa using hl
  ·obtain⟨j,d,b,c⟩:=oc n a;exact⟨j,oA,b,c⟩
structure Hd (ops:Array Oper) (n1:Nat) (F:Nat->Bool) (R:Nat->Value->World->Prop) (w0:World) (a0:Act) (listed:Array Bool) (a:Act) (w:World):Prop where
 sz:listed.size=ops.size
 tail:∀i,n1<=i->listed.getD i false=false
 Jr:Below w0.heap.size w0 w
 df:a.defers=a0.defers
 ts:a.tmps.size=a0.tmps.size
 J6:∀i o d,ops[i]? =some o->o.dst=some d->listed.getD i false=true->R i (a.tmps.getD d undef) w
 old:∀s,(∀i o,i<n1->ops[i]? =some o->o.dst≠some s)->a.tmps.getD s undef=a0.tmps.getD s undef
 dj:∀i j o o' d d',ops[i]? =some o->o.dst=some d->ops[j]? =some o'->o'.dst=some d'->listed.getD i false=true->listed.getD j false=true->F i=true->F j=true->i≠j->∀k,(a.tmps.getD d undef).ownBlock=some k->(a.tmps.getD d' undef).ownBlock≠some k
theorem kn {n:Nat} {p:Nat->Bool} (h:(List.range n).all p=true) {i:Nat} (hi:i<n):p i=true:=bf.1 h i (List.mem_range.2 hi)
theorem Hd.Ja {ops:Array Oper} {n1:Nat} {F:Nat->Bool} {R:Nat->Value->World->Prop} {w0:World} {a0:Act} {d:Array Bool} {a:Act} {w:World} (h:Hd ops n1 F R w0 a0 d a w) (s:Nat) (c:((List.range n1).all fun i=>(ops[i]?).bind (·.dst) !=some s)=true):a.eval (.tmp s)=a0.eval (.tmp s):=
 h.old s fun i o hi b e=>by
  have:=kn c hi;rw[b] at this;simp[e] at this
theorem Hd.IW {ops:Array Oper} {n1:Nat} {F:Nat->Bool} {R:Nat->Value->World->Prop} {w0:World} {a0:Act} {c:Array Bool} {a:Act} {w:World} (h:Hd ops n1 F R w0 a0 c a w) (i d:Nat) (b:(ops[i]?).bind (·.dst)=some d) (hl:c.getD i false=true):R i (a.eval (.tmp d)) w:=by
 cases ho:ops[i]? with
 |none=>rw[ho] at b;cases b
 |some o=>rw[ho] at b;exact h.J6 i o d ho b hl
section
variable {P : Program} {md : Region.Mode} {ops : Array Oper} {Q : Exit -> Act -> World -> Prop} {n1 N : Nat} {F : Nat -> Bool} {R : Nat -> Value -> World -> Prop} {w0 : World} {a0 : Act}
theorem js (h:nX md ops n1 N=true) {i:Nat} {o:Oper} (k:ops[i]? =some o):
  (i<n1->o.guard=none∧(∀e∈o.after,e.on<i)∧∃d,o.dst=some d∧d<N∧∀j g,j<i->ops[j]? =some g->g.dst≠some d)∧
  (n1<=i->∀j,j<n1->∃e∈o.after,Region.binds md e=true∧e.on=j):=by
 unfold nX at h;rw[am] at h;have hi:=(Array.getElem?_eq_some_iff.1 k).1;have:=kn h.2 hi;rw[k] at this;simp only at this;constructor
 ·intro n;rw[ah n] at this;simp only[am,Option.isNone_iff_eq_none,Array.all_eq_true'] at this;obtain⟨⟨l,m⟩,a⟩:=this;refine⟨l,fun e c=>by simpa using m e c,?_⟩
  cases hd:o.dst with
  |none=>rw[hd] at a;simp at a
  |some d=>
   rw[hd] at a;simp only[am,bp] at a;refine⟨d,rfl,a.1,fun j g f p e=>?_⟩;have:=kn a.2 f;rw[p] at this;simp[e] at this
 ·intro q j f;rw[ae oA] at this;have:=kn this f;rw[Array.any_eq_true'] at this;obtain⟨e,c,b⟩:=this;rw[am] at b;exact⟨e,c,b.1,by simpa using b.2⟩
theorem xV {b:Array Bool} {i:Nat} (h:i∈Region.ready md ops b):∃o,ops[i]? =some o∧i<ops.size∧b.getD i true=false∧∀e∈o.after,Region.binds md e=true->b.getD e.on false=true:=by
 unfold Region.ready at h;obtain⟨f,c⟩:=List.mem_filter.1 h;have hi:=List.mem_range.1 f;rw[am] at c;obtain⟨g,a⟩:=c;have d:=Array.getElem?_eq_getElem hi;rw[d] at a;simp only[Option.map_some,aG,Array.all_eq_true'] at a;refine⟨ops[i],d,hi,by simpa using g,fun e k j=>?_⟩;have:=a e k;simpa [j] using this
theorem mem_ready {listed:Array Bool} {i:Nat} {o:Oper} (a:ops[i]? =some o) (hl:listed.getD i true=false) (b:∀e∈o.after,listed.getD e.on false=true):i∈Region.ready md ops listed:=by
 unfold Region.ready;refine List.mem_filter.2 ⟨List.mem_range.2 (Array.getElem?_eq_some_iff.1 a).1,?_⟩;rw[a,hl];simp only[Bool.not_false,dF,Option.map_some,aG,Array.all_eq_true'];intro e c;simp[b e c]
theorem wj {l:Array Bool} {i:Nat} (h:i<l.size):l.getD i true=l.getD i false:=by
 simp[Array.getD_eq_getD_getElem?,h]
theorem vq (m:nX md ops n1 N=true) (hN:N<=a0.tmps.size) (E:Array Bool) (hE:E.size=ops.size) (ai:∀i,i<ops.size->E.getD i false=decide (i<n1))
  (av:∀i v w w',Below w.heap.size w w'->R i v w->R i v w') (af:∀i v w,F i=true->R i v w->∀k,v.ownBlock=some k->k<w.heap.size)
  (ay:∀i o,i<n1->ops[i]? =some o->∀listed a w,Hd ops n1 F R w0 a0 listed a w->(∀e∈o.after,Region.binds md e=true->listed.getD e.on false=true)->o.wp P a w (fun Y w'=>∃v,Y=a.put o.dst v∧R i v w'∧Below w.heap.size w w'∧(F i=true->∀k,v.ownBlock=some k->w.heap.size<=k)) Q)
  (ap:∀a w,Hd ops n1 F R w0 a0 E a w->wpAny P md ops Q (ops.size - n1) E a w):
  ∀k listed a w,left listed n1=k->Hd ops n1 F R w0 a0 listed a w->wpAny P md ops Q (k+(ops.size - n1)) listed a w:=by
 have aD:n1<=ops.size:=by
  unfold nX at m;rw[am] at m;simpa using m.1
 intro k
 induction k with
 |zero=>
  intro listed a w hk h;have z:listed=E:=by
   apply Array.ext
   ·rw[h.sz,hE]
   ·intro i b h2;have e1:listed.getD i false=listed[i]:=by simp[Array.getD_eq_getD_getElem?,b]
    have e2:E.getD i false=E[i]:=by simp[Array.getD_eq_getD_getElem?,h2]
    rw[<-e1, <-e2,ai i oA];by_cases hi:i<n1
    ·rw[mP n1 hk i hi,aA hi]
    ·rw[h.tail i oA,aw hi]
  subst z;rw[aC];exact ap a w h
 |succ k ih=>
  intro listed a w hk h;rw[show k+1+(ops.size - n1)=(k+(ops.size - n1))+1 by omega];obtain⟨j,j1,j2,j3⟩:=oc (l:=listed) n1 oA;have hj:j<ops.size:=oA;have ac:j∈Region.ready md ops listed:=by
   have c:=Array.getElem?_eq_getElem hj;refine mem_ready c (by rw[wj (by rw[h.sz];exact hj)];exact j2) fun e z=>?_;exact j3 _ (((js m c).1 j1).2.1 e z)
  refine⟨fun hr=>by rw[hr] at ac;simp at ac,fun i hi=>?_⟩;obtain⟨o,c,A,hl,hd⟩:=xV hi;rw[wj (by rw[h.sz];exact A)] at hl;have I:i<n1:=by
   rcases cU i n1 with b|b
   ·exact b
   ·obtain⟨e,z,D,ax⟩:=(js m c).2 b j j1;have:=hd e z D;rw[ax,j2] at this
    cases this
  obtain⟨hg,_,d,f,al,aa⟩:=(js m c).1 I;unfold wpOp;rw[c];simp only;rw[ah (by unfold Region.wanted;rw[hg])];refine Or.inl (Oper.wp_mono (fun Y w' hv=>?_) (ay i o I c listed a w h hd));obtain⟨v,rfl,hR,D,ab⟩:=hv;refine ih (listed.setIfInBounds i true) (a.put o.dst v) w' (by have:=tC (by rw[h.sz];exact A) hl n1 I;omega) ?_;have an:d<a.tmps.size:=by
   rw[h.ts];exact aF al hN
  have L:∀s,(a.put o.dst v).tmps.getD s undef=if s=d then v else a.tmps.getD s undef:=by
   intro s;rw[f];simp only[Act.put,cX,Array.getElem?_setIfInBounds];by_cases e:d=s
   ·subst e;simp[an]
   ·have:¬s=d:=fun x=>e x.symm;simp[e,this]
  refine⟨by rw[Array.size_setIfInBounds];exact h.sz,fun n aq=>?_,h.Jr.trans (D.mono h.Jr.size),by rw[f];exact h.df,by rw[f];simp only[Act.put,Array.size_setIfInBounds];exact h.ts,fun n o' Z J G B=>?_,fun s hs=>?_,fun i1 y X O d1 d2 K H C p ad W U V u k t q=>?_⟩
  ·rw[dz (by rw[h.sz];exact A),ae oA];exact h.tail n aq
  ·rw[dz (by rw[h.sz];exact A)] at B;by_cases e:n=i
   ·subst e;obtain rfl:=aL (c.symm.trans J);obtain rfl:=aL (f.symm.trans G);rw[L,ah rfl];exact hR
   ·rw[ae e] at B;have ar:n<n1:=by
     rcases cU n n1 with b|b
     ·exact b
     ·rw[h.tail n b] at B;cases B
    have u:¬Z=d:=by
     rintro rfl;rcases Nat.lt_or_gt_of_ne e with b|b
     ·exact aa n o' b J G
     ·obtain⟨_,_,d2,p,_,M⟩:=(js m J).1 ar;obtain rfl:=aL (G.symm.trans p);exact M i o b c f
    rw[L,ae u];exact av _ _ _ _ D (h.J6 n o' Z J G B)
  ·have u:¬s=d:=by
    rintro rfl;exact hs i o I c f
   rw[L,ae u];exact h.old s hs
  ·rw[dz (by rw[h.sz];exact A)] at ad W;have far:∀x S T,ops[x]? =some S->S.dst=some T->(if x=i then true else listed.getD x false)=true->x≠i->listed.getD x false=true∧¬T=d:=fun x S T ag r g M=>by
    rw[ae M] at g;have aB:x<n1:=by
     rcases cU x n1 with b|b
     ·exact b
     ·rw[h.tail x b] at g;cases g
    refine⟨g,?_⟩;rintro rfl;rcases Nat.lt_or_gt_of_ne M with b|b
    ·exact aa x S b ag r
    ·obtain⟨_,_,d3,aj,_,az⟩:=(js m ag).1 aB;obtain rfl:=aL (r.symm.trans aj);exact az i o b c f
   rw[L] at t q;by_cases e1:i1=i
   ·subst e1;obtain rfl:=aL (c.symm.trans K);obtain rfl:=aL (f.symm.trans H);rw[ah rfl] at t;obtain⟨g,r⟩:=far y O d2 C p W (Ne.symm u);rw[ae r] at q;have:=af y _ w V (h.J6 y O d2 C p g) k q;have:=ab U k t;omega
   ·obtain⟨g,r⟩:=far i1 X d1 K H ad e1;rw[ae r] at t;by_cases e2:y=i
    ·subst e2;obtain rfl:=aL (c.symm.trans C);obtain rfl:=aL (f.symm.trans p);rw[ah rfl] at q;have:=af i1 _ w U (h.J6 i1 X d1 K H g) k t;have:=ab V k q;omega
    ·obtain⟨au,ao⟩:=far y O d2 C p W e2;rw[ae ao] at q;exact h.dj i1 y X O d1 d2 K H C p g au U V u k t q
theorem kK (n k:Nat):(Array.replicate n false).getD k false=false:=by
 rw[cX,Array.getElem?_replicate];split<;>rfl
theorem qB (n:Nat):∀k,k<=n->left (Array.replicate n false) k=k
 |0,_=>rfl
 |k+1,h=>by
  simp only[left];rw[qB n k oA,kK];simp
theorem DI {id:Nat} {a:Act} {w:World} (q:P.follows .mixedOrders=true) (c:nX .any ops n1 N=true) (m:N<=a.tmps.size) (E:Array Bool) (h:E.size=ops.size) (l:∀i,i<ops.size->E.getD i false=decide (i<n1))
  (r:∀i v w w',Below w.heap.size w w'->R i v w->R i v w') (p:∀i v w,F i=true->R i v w->∀k,v.ownBlock=some k->k<w.heap.size)
  (u:∀i o,i<n1->ops[i]? =some o->∀f b w',Hd ops n1 F R w.drew a f b w'->(∀e∈o.after,Region.binds .any e=true->f.getD e.on false=true)->o.wp P b w' (fun g w2=>∃v,g=b.put o.dst v∧R i v w2∧Below w'.heap.size w' w2∧(F i=true->∀k,v.ownBlock=some k->w'.heap.size<=k)) Q)
  (n:∀b w',Hd ops n1 F R w.drew a E b w'->wpAny P .any ops Q (ops.size - n1) E b w'):(Code.region id ops true).wp P Q a w:=by
 have t:n1<=ops.size:=by
  unfold nX at c;rw[am] at c;simpa using c.1
 refine wp_region_any q ?_;have:=vq c m E h l r p u n n1 (Array.replicate ops.size false) a w.drew (qB ops.size n1 t)
  ⟨oS,fun i _=>kK _ _,ag _ _,rfl,rfl,fun i o d _ _ hl=>(by rw[kK] at hl;cases hl),fun s _=>rfl,fun i j o y d x _ _ _ _ hl=>(by rw[kK] at hl;cases hl)⟩
 rw[show n1+(ops.size - n1)=ops.size by omega] at this;exact this
end
end Hd2
namespace Wd
open Go.RowKit Mem Bw Nums Mmu
def wE:Nat->TypeId
 |2=>80
 |3=>45
 |4=>22
 |7=>22
 |8=>31
 |_=>3
def wS:Nat->Nat
 |2=>7
 |3=>20
 |_=>1
def ud {α:Type} (f:Nat->α) (i:Nat) (v:α):Nat->α:=fun j=>if j=i then v else f j
theorem vn {α:Type} (f:Nat->α) (i:Nat) (v:α):ud f i v i=v:=ah rfl
theorem ni {α:Type} (f:Nat->α) {i j:Nat} (v:α) (h:j≠i):ud f i v j=f j:=ae h
structure Wr (W:World) (B x:Nat) (X:Nat->Value) (nn:Nat->Nat) (c:Nat->List Value):Prop where
 lt:x<W.heap.size
 own:∀i,i<10->W.ownsRow B (wE i) (wS i) (X i) (nn i) (c i)
 dj:∀i j,i<10->j<10->i≠j->∀k,(X i).ownBlock=some k->(X j).ownBlock≠some k
 nx:∀i,i<10->(X i).ownBlock≠some x
theorem Wr.kp {W a:World} {T:Nat->Prop} {B x:Nat} {X:Nat->Value} {nn:Nat->Nat} {c:Nat->List Value} (h:Wr W B x X nn c) (hk:Kp T W a) (b:∀i,i<10->∀k,(X i).ownBlock=some k->¬T k):Wr a B x X nn c:=
 ⟨aF h.lt hk.size,fun i hi=>iM (h.own i hi) hk (b i hi),h.dj,h.nx⟩
theorem wK {W W':World} {row:Option Nat} (h:W.grownBy W' row):Kp (fun k=>row=some k) W W':=⟨h.os,h.tape,h.output,h.size,fun k hk a=>h.block k hk fun e=>a e.symm⟩
theorem Wr.app {W:World} {B x:Nat} {X:Nat->Value} {nn:Nat->Nat} {c:Nat->List Value} (h:Wr W B x X nn c) (hB:B<=W.heap.size) {i:Nat} (hi:i<10) {T:TypeId} {z:Value} {bytes:Nat} (C:Tryz.prog.underlying T=some (.slice (wE i))) (G:(Tryz.prog.info? (wE i)).map (fun i=>(i.zero,i.size,i.bytes))=some (some z,wS i,bytes)) (S:z.cells.size=wS i) (O:0<wS i) (D:bytes<=1000)
  (o:Addr) (m t:Nat) (n:List Value) (hl:n.length=m*wS i) (K:∀j u,n[j]? =some u->W.cell? (o.add j)=some u) (A:∀u∈n,u.oneCell'=true) (I:0<m) (J:nn i+m<=1000):
  ∃g cap w',(Builtin.append_ #[T,T] T #[X i,.slice (some o) m t]).run Tryz.prog W=.ok (.slice (some ⟨g,0,none⟩) (nn i+m) cap) w'∧Wr w' B x (ud X i (.slice (some ⟨g,0,none⟩) (nn i+m) cap)) (ud nn i (nn i+m)) (ud c i (c i++n))∧Kp (fun k=>(X i).ownBlock=some k) W w'∧((X i).ownBlock=some g∨g=W.heap.size):=by
 obtain⟨f,E,R,N,Q⟩:=fj G;have U:=Nat.mul_le_mul J D;obtain⟨g,cap,w',M,L,w,q,V⟩:=run_append_lies (P:=Tryz.prog) W T T B (wE i) f z (wS i) bytes C E R N Q S O (X i) (nn i) (c i) (h.own i hi) o m t n hl K A I (by unfold maxLen;omega) oA hB W.heap.size rfl;have y:=wK w;have s:(Value.slice (some ⟨g,0,none⟩) (nn i+m) cap).ownBlock=some g:=rfl;have far:∀j,j<10->j≠i->(X j).ownBlock≠some g:=fun j a H e=>by
  rcases q with d|d
  ·exact h.dj i j hi a (Ne.symm H) g d e
  ·have:=((h.own j a).lt g e).2;omega
 refine⟨g,cap,w',M,⟨aF h.lt w.size,fun j a=>?_,fun j k a hk r b l=>?_,fun j a=>?_⟩,y,q⟩
 ·by_cases e:j=i
  ·subst e;rw[vn,vn,vn];exact L
  ·rw[ni _ _ e,ni _ _ e,ni _ _ e];exact iM (h.own j a) y fun k hk F=>h.dj i j hi a (Ne.symm e) k F hk
 ·by_cases p:j=i
  ·subst p;rw[vn,s] at l;rw[ni _ _ (Ne.symm r), <-l];exact far k hk (Ne.symm r)
  ·rw[ni _ _ p] at l;by_cases v:k=i
   ·subst v;rw[vn,s];intro e;rw[<-e] at l;exact far j a p l
   ·rw[ni _ _ v];exact h.dj j k a hk r b l
 ·by_cases e:j=i
  ·subst e;rw[vn,s];intro e;have e:g=x:=by simpa using e
   rcases q with d|d
   ·rw[e] at d;exact h.nx j a d
   ·have:=h.lt;omega
  ·rw[ni _ _ e];exact h.nx j a
structure Wb (W:World) (B x:Nat) (X:Nat->Value) (nn:Nat->Nat) (c:Nat->List Value):Prop where
 r:Wr W B x X nn c
 b:W.rangeAt x 0 (cb X).toList
 t:W.there x 0 11
theorem Wb.next {W d:World} {B x:Nat} {X:Nat->Value} {nn:Nat->Nat} {c:Nat->List Value} (h:Wb W B x X nn c) (a:Below W.heap.size W d):Wb d B x X nn c:=
 ⟨h.r.kp (T:=fun _=>False) (.IG a) (fun _ _ _ _=>id),eY h.b (T:=fun _=>False) (.IG a) id,eo h.t (T:=fun _=>False) (.IG a) id⟩
theorem yO (X:Nat->Value) (i:Nat) (hi:i<10) (v:Value):(cb X).toList.set i v=(cb (ud X i v)).toList:=by
 match i,hi with
 |0,_=>rfl
 |1,_=>rfl
 |2,_=>rfl
 |3,_=>rfl
 |4,_=>rfl
 |5,_=>rfl
 |6,_=>rfl
 |7,_=>rfl
 |8,_=>rfl
 |9,_=>rfl
 |_+10,h=>omega
theorem Wb.put {W w':World} {B x:Nat} {X:Nat->Value} {nn:Nat->Nat} {c:Nat->List Value} (h:Wb W B x X nn c) {i:Nat} (hi:i<10) {v:Value} {f:Nat->Nat} {a:Nat->List Value} (d:Wr w' B x (ud X i v) f a) (hk:Kp (fun k=>(X i).ownBlock=some k) W w'):
  Wb (w'.setCell ⟨x,i,none⟩ v) B x (ud X i v) f a∧Kp (fun k=>(X i).ownBlock=some k∨k=x) W (w'.setCell ⟨x,i,none⟩ v):=by
 have k2:=(aV (fun k=>k=x) w').setCell (b:=x) (o:=i) (Or.inl rfl) v;refine⟨⟨d.kp k2 fun j g k hk e=>?_,?_,?_⟩,(hk.wider fun k _ e=>.inl e).trans (k2.wider fun k _ e=>.inr e)⟩
 ·subst e;exact d.nx j g hk
 ·have l:=eY h.b hk (h.r.nx i hi);rw[<-yO X i hi v];exact mV l (by show i<11;omega) v
 ·exact iv (eo h.t hk (h.r.nx i hi)) _ v
def wN (p:PW):Nat->Nat
 |0=>p.IE.length
 |1=>p.kinds.length
 |2=>p.IB.length
 |3=>p.IA.length
 |4=>p.lines.length
 |5=>p.bits.length
 |6=>p.IC.length
 |7=>p.ready.length
 |8=>p.ID.length
 |9=>p.IF.length
 |_=>0
def wC (p:PW):Nat->List Value
 |0=>d6 p.IE
 |1=>d6 p.kinds
 |2=>fo 7 p.IB
 |3=>fo 20 p.IA
 |4=>List.replicate p.lines.length (.slice none 0 0)
 |5=>d6 p.bits
 |6=>d6 p.IC
 |7=>List.replicate p.ready.length (.slice none 0 0)
 |8=>List.replicate p.ID.length (.slice none 0 0)
 |9=>d6 p.IF
 |_=>[]
def rh (X:Nat->Value) (k:Nat):Nat->Nat
 |0=>0
 |n+1=>if (X n).ownBlock=some k then n+2 else rh X k n
def Bn (X:Nat->Value) (x k:Nat):Nat:=if k=x then 1 else rh X k 10
theorem yo {X:Nat->Value} {k i:Nat} (hk:(X i).ownBlock=some k):∀n,i<n->(∀j,j<n->j≠i->(X j).ownBlock≠some k)->rh X k n=i+2
 |0,h,_=>oA
 |n+1,h,hd=>by
  unfold rh;by_cases e:n=i
  ·subst e;rw[ah hk]
  ·rw[ae (hd n oA e)];exact yo hk n oA fun j b a=>hd j oA a
theorem Wr.tag {W:World} {B x:Nat} {X:Nat->Value} {nn:Nat->Nat} {c:Nat->List Value} (h:Wr W B x X nn c) {i:Nat} (hi:i<10) {k:Nat} (hk:(X i).ownBlock=some k):Bn X x k=i+2:=by
 unfold Bn;rw[ae (show ¬k=x from fun e=>h.nx i hi (by rw[<-e];exact hk))];exact yo hk 10 hi fun j a b=>h.dj i j hi a (Ne.symm b) k hk
theorem Hb {W:World} {B e size n:Nat} {v:Value} {xs:List Value} (h:W.ownsRow B e size v n xs):W.ownsRow 0 e size v n xs:=by
 refine⟨h.1,?_⟩;rcases h.2 with b|⟨g,cap,a,rfl,f,c,d⟩
 ·exact .inl b
 ·exact .inr ⟨g,cap,a,rfl,bN _,c,d⟩
theorem sq {w:World} {tag:Nat->Nat} {t O I s n g:Nat} {i:Nat} {v:Value} {cc:Nat->Nat×List Value} (h:v=.slice (some ⟨g,0,none⟩) n n) (f:tag g=t) (d:w.ownsRow 0 O 1 v n (List.replicate n (.slice none 0 0))) (a:∀j,j<n->cc j=(0,[])):fE w tag t i O I s n v cc:=by
 subst h;refine⟨g,List.replicate n (.slice none 0 0),rfl,f,oS,d,fun j b=>?_⟩;have c:j<n:=by simpa using b
 rw[a j c,List.getElem_replicate];exact⟨cO _ _ _ _,fun k e=>by cases e⟩
theorem Wb.box {W:World} {B x:Nat} {X:Nat->Value} {p:PW} (h:Wb W B x X (wN p) (wC p)) (m:∃g,X 4=.slice (some ⟨g,0,none⟩) p.lines.length p.lines.length) (n:∃g,X 7=.slice (some ⟨g,0,none⟩) p.ready.length p.ready.length) (o:∃g,X 8=.slice (some ⟨g,0,none⟩) p.ID.length p.ID.length) (q:X 10=.int .i64 p.time)
  (s:∀l∈p.lines,l=[]) (u:∀l∈p.ready,l=[]) (v:∀l∈p.ID,l=[]):di W x (Bn X x) X p:=by
 have own:=fun i (hi:i<10)=>Hb (h.r.own i hi);have tg:=fun i (hi:i<10) k (e:(X i).ownBlock=some k)=>h.r.tag hi e;obtain⟨c,e4⟩:=m;obtain⟨d,e7⟩:=n;obtain⟨f,e8⟩:=o;refine⟨h.b,h.t,ah rfl,⟨⟨own 0 oA,tg 0 oA⟩,⟨own 1 oA,tg 1 oA⟩,⟨own 2 oA,tg 2 oA⟩,⟨own 3 oA,tg 3 oA⟩,sq e4 (tg 4 oA c (by rw[e4];rfl)) (own 4 oA) fun j a=>?_,⟨own 5 oA,tg 5 oA⟩,⟨own 6 oA,tg 6 oA⟩,sq e7 (tg 7 oA d (by rw[e7];rfl)) (own 7 oA) fun j a=>?_,(sq e8 (tg 8 oA f (by rw[e8];rfl)) (own 8 oA) fun j a=>?_).e,⟨own 9 oA,tg 9 oA⟩,q⟩⟩
 ·unfold ci;rw[aa,ac a];rw[show (some p.lines[j]).getD []=[] from s _ (av a)];rfl
 ·unfold ci;rw[aa,ac a];rw[show (some p.ready[j]).getD []=[] from u _ (av a)];rfl
 ·unfold ce;rw[aa,ac a];rw[show (some p.ID[j]).getD []=[] from v _ (av a)];rfl
end Wd
namespace Hex
open Go.RowKit Mem Nums Wd
theorem mo {a b:ByteArray} (h:a.data.toList=b.data.toList):a=b:=by
 cases a;cases b
 simp only at h;rw[Array.ext' h]
theorem jy (a:ByteArray):a.size=a.data.toList.length:=rfl
def DM (c:UInt8):List (List UInt8)->List (List UInt8)
 |[]=>[[c]]
 |p::ps=>(c::p)::ps
def lS (at_:UInt8):List UInt8->List (List UInt8)
 |[]=>[[]]
 |c::s=>if c=at_ then []::lS at_ s else DM c (lS at_ s)
def ahead (p:List UInt8):List (List UInt8)->List (List UInt8)
 |[]=>[p]
 |q::qs=>(p++q)::qs
theorem rV (a:UInt8) (s:List UInt8):lS a s≠[]:=by
 cases s with
 |nil=>simp[lS]
 |cons c s=>
  rw[lS];split
  ·simp
  ·unfold DM;split<;>simp
theorem pR (a:UInt8) (s:List UInt8):ahead [] (lS a s)=lS a s:=by
 rcases h:lS a s with _|⟨q,b⟩
 ·exact absurd h (rV a s)
 ·rfl
theorem uD (p:List UInt8) (c:UInt8) (l:List (List UInt8)):ahead p (DM c l)=ahead (p++[c]) l:=by
 cases l<;>simp[DM,ahead]
theorem oG (p:List UInt8) (a c:UInt8) (s:List UInt8) (h:c≠a):ahead p (lS a (c::s))=ahead (p++[c]) (lS a s):=by
 rw[lS,ae h,uD]
theorem nA (p:List UInt8) (a:UInt8) (s:List UInt8):ahead p (lS a (a::s))=p::lS a s:=by
 rw[lS,ah rfl,ahead];simp
theorem zb (a:UInt8) (s:List UInt8):(lS a s).length<=s.length+1:=by
 induction s with
 |nil=>simp[lS]
 |cons c s ih=>
  rw[lS];split
  ·simp;exact ih
  ·have:(DM c (lS a s)).length<=s.length+1+1:=by
    unfold DM;split
    ·simp
    ·rename_i h;rw[h] at ih;simp at ih ⊢;omega
   simpa using this
def kR (c:UInt8) (s:ByteArray):List ByteArray:=(lS c s.data.toList).map fun l=>⟨l.toArray⟩
end Hex
namespace Prs
open Go.RowKit Mem Nums Hex
abbrev kB (n:Nat):Prop:=48<=n∧n<=57
def yG (l:List UInt8):Nat:=l.foldl (fun n b=>n*10+(b.toNat - 48)) 0
theorem qa (l:List UInt8) (b:UInt8):yG (l++[b])=yG l*10+(b.toNat - 48):=by simp[yG]
abbrev Gh (t:ByteArray):Prop:=t.size≠0∧t.size<=5∧(∀h:0<t.size,t[0].toNat=48->t.size=1)∧∀j (h:j<t.size),kB t[j].toNat
def ig (t:ByteArray):Int:=if Gh t then yG t.data.toList else -1
theorem Ce {t:ByteArray} (h:Gh t):ig t=yG t.data.toList:=by unfold ig;rw[ah h]
theorem AL {t:ByteArray} (h:¬Gh t):ig t= -1:=by unfold ig;rw[ae h]
theorem Cc (l:List UInt8) (k:Nat) (h:l.length=k) (c:∀b∈l,b.toNat<=57):yG l<10 ^ k:=by
 induction k generalizing l with
 |zero=>rw[List.length_eq_zero_iff.1 h];decide
 |succ k ih=>
  have a:l≠[]:=by rintro rfl;cases h
  rw[<-List.dropLast_concat_getLast a,qa];have e:=ih l.dropLast (by simp[h]) (fun b d=>c b (List.dropLast_subset l d));have f:=c (l.getLast a) (List.getLast_mem a);rw[Nat.pow_succ];omega
theorem qb (t:ByteArray) (k:Nat) (hk:k<=t.size) (l:t.size<=5) (d:∀j (h:j<t.size),j<k->kB t[j].toNat):yG (t.data.toList.take k)<100000:=by
 have a:(t.data.toList.take k).length=k:=by rw[bL, <-jy];omega
 have g:=Cc (t.data.toList.take k) k a (fun b c=>by
  obtain⟨j,e,rfl⟩:=dY c;have f:j<t.size:=by rw[jy];rw[bL] at e;omega
  have:=d j f oA;rw[List.getElem_take];exact this.2)
 have i:(10:Nat) ^ k<=10 ^ 5:=Nat.pow_le_pow_right oD oA;omega
def gJ (s:ByteArray):List ByteArray:=if (kR 10 s).getLast?=some ⟨#[]⟩ then (kR 10 s).dropLast else kR 10 s
end Prs
namespace Hex
open Go.RowKit Mem Nums Wd
def gg (w:World) (b off:Nat) (zs:List ByteArray):Prop:=∀j (h:j<zs.length),w.cell? ⟨b,off+j,none⟩=some (.string zs[j])
theorem Ct:(Tryz.prog.info? 9).map (fun i=>(i.zero,i.size,i.bytes))=some (some (.string ByteArray.empty),1,16):=oK
def strs (l:List (List UInt8)):List Value:=l.map fun p=>.string ⟨p.toArray⟩
theorem uk (s:ByteArray):s=⟨s.data.toList.toArray⟩:=by cases s;simp
theorem vd (s:ByteArray) (a k:Nat) (c:a<=k) (b:k<s.size):(s.extract a (k+1)).data.toList=(s.extract a k).data.toList++[s[k]]:=by
 rw[Lib.extract_data,Lib.extract_data];have e:k+1 - a=k - a+1:=oA;rw[e,List.take_add_one,dQ,show a+(k - a)=k by omega];rw[ac (by simpa using b)];rfl
theorem ox (s:ByteArray) (a:Nat):(s.extract a a).data.toList=[]:=by
 rw[Lib.extract_data];simp
theorem z9 {w:World} {B:Nat} {v:Value} {l:List (List UInt8)} (h:w.ownsRow B 9 1 v l.length (strs l)) (a:l≠[]):
  ∃b cap,v=.slice (some ⟨b,0,none⟩) l.length cap∧gg w b 0 (l.map fun p=>⟨p.toArray⟩)∧l.length<=cap:=by
 rcases h.2 with ⟨_,c⟩|⟨g,cap,i,rfl,_,_,f,_⟩
 ·exact absurd (List.length_eq_zero_iff.1 c) a
 ·refine⟨g,cap,rfl,fun j d=>?_,f⟩;have e:j<l.length:=by simpa using d
  rw[aC,h.cellAt j oA];simp[strs,List.getElem?_eq_getElem e]
theorem vM (s:ByteArray) (c:UInt8) (w:World) (T:s.size<=100000):
  Calls Tryz.prog 70 #[.string s,.int .u8 c.toNat] w fun e w'=>∃b cap,e=.returned (.slice (some ⟨b,0,none⟩) (kR c s).length cap)∧gg w' b 0 (kR c s)∧Below w.heap.size w w'∧(kR c s).length<=cap:=by
 obtain⟨i0,hi,A,B,C⟩:=info_parts Ct;go_enter Tryz.func70,Tryz.ntmps70
 go_wp2_with fail
 go_loopw [5,6,7] (fun v f i wr=>∃(k a:Nat) (done:List (List UInt8)),k<=s.size∧a<=k∧done.length<=k∧i=.int .i64 k∧f=.int .i64 a∧wr.ownsRow w.heap.size 9 1 v done.length (strs done)∧Below w.heap.size w wr∧done++ahead (s.extract a k).data.toList (lS c (s.data.toList.drop k))=lS c s.data.toList) (fun _ _ i _=>s.size - (intOf i).toNat)
 case atStart=>exact⟨0,0,[],oA,oA,oS,rfl,rfl,cO _ _ _ _,ag _ _,by rw[ox];simp[pR]⟩
 case round=>
  obtain⟨k,a,done,hk,M,Q,rfl,rfl,K,hB,J⟩:=hrel;have g:=hid K;have d:=hid hB;have o:=hid J;by_cases y:k<s.size
  ·have S:(k:Int)<(s.size:Int):=oA;have t:=hid (show s.data.toList.drop k=s[k]::s.data.toList.drop (k+1) from List.drop_eq_getElem_cons (by simpa using y));have H:=hid (vd s a k M y);have N:(a:Int)<=(k:Int):=oA;by_cases h:s[k]=c
   ·have O:((s[k].toNat:Int)==(c.toNat:Int))=true:=by rw[h];simp
    have n:=hid h;go_wp2_with (at_builtin;refine bg _ rfl _ _ 119 rfl w.heap.size 9 i0 (.string ByteArray.empty) 1 16 Tryz.underlying119 hi A B C rfl oD _ _ _ rfl (g.alloc _) ⟨wr.heap.size,0,none⟩ 1 1 [.string (s.extract a k)] rfl rfl ?c1 ?c2 ?c3 ?c4 ?c5 ?_)
    case c1=>
     intro j u l
     match j,l with
     |0,l=>simp at l;subst l;simp[Addr.add]
    case c2=>intro u z;simp at z;subst z;rfl
    case c3=>unfold maxLen;omega
    case c4=>omega
    case c5=>have:=d.size;simp;omega
    intro D w2 r q _;have m:=hid ((bal d _).grown q (by have:=d.size;simp;omega) (fun k hk=>(g.lt k hk).1));have p:=hid r;go_wp2_with fail
    refine⟨⟨k+1,k+1,done++[(s.extract a k).data.toList],oA,oA,by simp;omega,by go_num,by go_num,?_,m.out,?_⟩,by simp[intOf];omega⟩
    ·have e:=p.out;simp only[strs,ew,ax,aW,fe,eh,List.length_nil];rw[<-uk];exact e
    ·rw[ox,pR,List.append_assoc, <-o.out,t.out,n.out,nA];rfl
   ·have O:((s[k].toNat:Int)==(c.toNat:Int))=false:=by
     rw[beq_eq_false_iff_ne];intro e;exact h (UInt8.toNat_inj.1 oA)
    have n:=hid h;go_wp2_with fail
    refine⟨⟨k+1,a,done,oA,oA,oA,by go_num,rfl,g.out,d.out,?_⟩,by simp[intOf];omega⟩;rw[H.out, <-oG _ _ _ _ n, <-t.out];exact o
  ·obtain rfl:k=s.size:=oA;have R:¬((s.size:Int)<(s.size:Int)):=oA;have N:(a:Int)<=(s.size:Int):=oA;have E:=o.out;rw[List.drop_eq_nil_of_le (by rw[Array.length_toList];exact aq _),lS,ahead,d9] at E;have F:=hid E;go_wp2_with (at_builtin;refine bg _ rfl _ _ 119 rfl w.heap.size 9 i0 (.string ByteArray.empty) 1 16 Tryz.underlying119 hi A B C rfl oD _ _ _ rfl (g.alloc _) ⟨wr.heap.size,0,none⟩ 1 1 [.string (s.extract a s.size)] rfl rfl ?c1 ?c2 ?c3 ?c4 ?c5 ?_)
   case c2=>rfl
   case c3=>unfold maxLen;omega
   case c4=>omega
   case c5=>have:=d.size;simp;omega
   intro D w2 r q _;have m:=hid ((bal d _).grown q (by have:=d.size;simp;omega) (fun k hk=>(g.lt k hk).1));have p:w2.ownsRow w.heap.size 9 1 D (lS c s.data.toList).length (strs (lS c s.data.toList)):=by
    rw[<-F.out];simp only[strs,ew,ax,aW,fe,eh,List.length_nil];rw[<-uk];exact r
   obtain⟨b,cap,rfl,L,P⟩:=z9 p (rV _ _);have I:=hid L;have G:=hid P;go_wp2_with fail
   go_ret
   have x:(kR c s).length=(lS c s.data.toList).length:=by simp[kR]
   exact⟨b,cap,by rw[x];rfl,I.out,m.out,by rw[x];exact G⟩
end Hex
namespace Prs
open Go.RowKit Mem Nums Hex
theorem tA {s:ByteArray} (h:s.size=0):s.toList.isEmpty=true:=by
 rw[List.isEmpty_iff,ByteArray.toList_eq, <-List.length_eq_zero_iff];exact h
theorem ly {s:ByteArray} (h:s.size≠0):s.toList.isEmpty=false:=by
 rw[<-Bool.not_eq_true];intro e;rw[List.isEmpty_iff,ByteArray.toList_eq, <-List.length_eq_zero_iff] at e;exact h e
theorem rW (t:ByteArray) (w:World) (h:t.size=0∨5<t.size∨∃h:0<t.size,t[0].toNat=48∧1<t.size):
  Calls Tryz.prog 166 #[.string t] w fun e w'=>e=.returned (.int .i64 (ig t))∧Below w.heap.size w w':=by
 rw[AL (t:=t) (fun e=>by
  obtain⟨a,b,c,_⟩:=e;rcases h with h|h|⟨f,h,g⟩
  ·omega
  ·omega
  ·have:=c f h;omega)]
 by_cases d:t.size=0
 ·have i:=tA d;go_enter Tryz.func166,Tryz.ntmps166
  go_wp2_with fail
  go_ret
  exact⟨rfl,ag _ _⟩
 ·have i:=ly d;by_cases k:(5:Int)<(t.size:Int)
  ·clear h;go_enter Tryz.func166,Tryz.ntmps166
   go_wp2_with fail
   go_ret
   exact⟨rfl,ag _ _⟩
  ·have f:0<t.size:=oA;have m:(0:Int)<(t.size:Int):=oA;obtain⟨hl,g⟩:t[0].toNat=48∧1<t.size:=by
    rcases h with h|h|⟨_,h⟩
    ·omega
    ·omega
    ·exact h
   have l:(t[0].toNat:Int)=48:=oA;have j:(1:Int)<(t.size:Int):=oA;go_enter Tryz.func166,Tryz.ntmps166
   go_wp2_with fail
   go_ret
   exact⟨rfl,ag _ _⟩
theorem uI (t:ByteArray) (w:World):
  Calls Tryz.prog 166 #[.string t] w fun e w'=>e=.returned (.int .i64 (ig t))∧Below w.heap.size w w':=by
 by_cases hh:t.size=0∨5<t.size∨∃h:0<t.size,t[0].toNat=48∧1<t.size
 ·exact rW t w hh
 have u:=ly (s:=t) oA;have r:¬(5:Int)<(t.size:Int):=oA;have q:0<t.size:=oA;have B:(0:Int)<(t.size:Int):=oA;have hl:t[0].toNat=48->t.size=1:=fun e=>by
  by_cases a:t.size=1
  ·exact a
  ·exact absurd (.inr (.inr ⟨q,e,oA⟩)) hh
 have a:((t[0].toNat:Int)=48∧¬(1:Int)<(t.size:Int))∨((t[0].toNat:Int)≠48):=oA;have l:=hid hl;rcases a with ⟨a,d⟩|a
 all_goals
  go_enter Tryz.func166,Tryz.ntmps166
  go_wp2_with fail
  go_loopw [3,4] (fun v i wr=>∃k:Nat,k<=t.size∧i=.int .i64 k∧v=.int .i64 (yG (t.data.toList.take k))∧(∀j (h:j<t.size),j<k->kB t[j].toNat)∧wr=w) (fun _ i _=>t.size - (intOf i).toNat)
  case atStart=>exact⟨0,oA,rfl,rfl,fun j _ h=>oA,rfl⟩
  case round=>
   obtain⟨k,hk,rfl,rfl,f,rfl⟩:=hrel;have c:=hid f;have A:=qb t k hk oA f;by_cases g:k<t.size
   ·have z:(k:Int)<(t.size:Int):=oA;have o:=hid (show t.data.toList.take (k+1)=t.data.toList.take k++[t[k]] from bF (by simpa using g));have b:=hid (show ¬kB t[k].toNat->ig t= -1 from fun h=>AL fun e=>h (e.2.2.2 k g));have n:=hid (show kB t[k].toNat->∀j (h:j<t.size),j<k+1->kB t[j].toNat from fun h j p y=>by
      by_cases e:j=k
      ·subst e;exact h
      ·exact c j p oA)
    have a:((t[k].toNat:Int)<48)∨(¬(t[k].toNat:Int)<48∧(57:Int)<t[k].toNat)∨(¬(t[k].toNat:Int)<48∧¬(57:Int)<t[k].toNat):=oA;rcases a with a|⟨a,d⟩|⟨a,d⟩
    ·go_wp2_with fail
     go_ret
     exact⟨by rw[b.out (by unfold kB;omega)];rfl,ag _ _⟩
    ·go_wp2_with fail
     go_ret
     exact⟨by rw[b.out (by unfold kB;omega)];rfl,ag _ _⟩
    ·go_wp2_with fail
     refine⟨⟨k+1,oA,by go_num,?_,n.out (by unfold kB;omega),trivial⟩,by simp[intOf];omega⟩;rw[o.out,qa]
     go_num
   ·obtain rfl:k=t.size:=oA;have x:¬((t.size:Int)<(t.size:Int)):=oA;have b:=hid (Ce ⟨oA,oA,fun _=>l.out,fun j h=>c.out j h h⟩);have m:=hid (show yG (t.data.toList.take t.size)=yG t.data.toList by rw[jy,cT]);go_wp2_with fail
    go_ret
    exact⟨by rw[b.out, <-m.out];rfl,ag _ _⟩
def qE (zs:List ByteArray):List ByteArray:=if zs.getLast?=some ⟨#[]⟩ then zs.dropLast else zs
theorem wQ (s:ByteArray):gJ s=qE (kR 10 s):=rfl
theorem Cy {zs:List ByteArray} {L:Nat} (a:zs.length=L+1):∃zl,zs.getLast?=some zl∧∀h:L<zs.length,zs[L]=zl:=by
 have h:L<zs.length:=oA;refine⟨zs[L],?_,fun _=>rfl⟩;have e:zs.length - 1=L:=oA;rw[List.getLast?_eq_getElem?,e,ac h]
theorem uU {zs:List ByteArray} {a:ByteArray} (hl:zs.getLast?=some a) (h:a.size=0):qE zs=zs.dropLast:=by
 have e:a=⟨#[]⟩:=by
  apply mo;rw[jy] at h;rw[List.length_eq_zero_iff.1 h]
 unfold qE;rw[hl,e,ah rfl]
theorem wT {zs:List ByteArray} {a:ByteArray} (hl:zs.getLast?=some a) (h:a.size≠0):qE zs=zs:=by
 unfold qE;rw[hl,ae];intro e;have:=aL e;rw[this] at h;exact h rfl
theorem gg.drop {w:World} {b:Nat} {zs:List ByteArray} (h:gg w b 0 zs):gg w b 0 zs.dropLast:=fun j a=>by
 have c:j<zs.length:=by simp at a;omega
 rw[h j c];simp
theorem qR (s:ByteArray) (w:World) (u:s.size<=100000):
  Calls Tryz.prog 69 #[.string s] w fun e w'=>∃b cap,e=.returned (.slice (some ⟨b,0,none⟩) (gJ s).length cap)∧gg w' b 0 (gJ s)∧Below w.heap.size w w':=by
 rw[wQ];have n:=hid (vM s 10 w u);have p:=hid (show ∃L,(kR 10 s).length=L+1 by
  have:(kR 10 s)≠[]:=by unfold kR;simp[rV]
  exact⟨(kR 10 s).length - 1,by have:=List.length_pos_iff.2 this;omega⟩)
 have o:=hid (show (kR 10 s).length<=100001 by
  have:=zb 10 s.data.toList;rw[<-jy] at this;simp only[kR,bJ];omega)
 generalize kR 10 s=zs at*;obtain⟨L,d⟩:=p.out;have z:L<=100000:=by have:=o.out;omega
 go_enter Tryz.func69,Tryz.ntmps69
 go_wp2_with fail
 refine n.mono ?_;rintro e w1 ⟨m,f,rfl,l,r,A⟩;have j:=hid l;have g:=hid r;have B:(L:Int)+1<=(f:Int):=oA;obtain⟨y,x,v⟩:=Cy d;have k:L<zs.length:=oA;have q:=l L k;rw[aC,v k] at q;have h:=hid d;have i:=hid x;rw[d];by_cases c:y.size=0
 ·have a:=hid (uU i c);have t:=tA c;go_wp2_with fail
  go_ret
  refine⟨m,f,?_,?_,g.out⟩
  ·rw[a.out,List.length_dropLast,h.out];rfl
  ·rw[a.out];exact gg.drop j
 ·have a:=hid (wT i c);have t:=ly c;go_wp2_with fail
  go_ret
  refine⟨m,f,?_,?_,g.out⟩
  ·rw[a.out,h.out];rfl
  ·rw[a.out];exact j
