/- Qbb -/
import Derived.Test.YtaejnmmpddbbjaaGreatDoorProg
import Derived.Deep.RegionHeld3
import Derived.Test.YtaejnmmpddbbjaaGreatDoorQba
import Derived.Test.YtaejnmmpddbbjaaGreatDoorQan
set_option maxRecDepth 100000
set_option maxHeartbeats 16000000
namespace Go.Proofs.YtaejnmmpddbbjaaGreatDoor
namespace Wd
open Go.RowKit Mem Bw Nums Mmu Hex
def gz (t:ByteArray):Bool:=decide (t=(⟨#[45]⟩:ByteArray))||decide (0<=Prs.ig t)
theorem jR {P:Program} {w w':World} {ops:Array Oper} {rest:List Oper} {o:Oper} {a:Act} {Q:Exit->Act->World->Prop} (d:o.guard=none) (s x:Operand) (t:TypeId)
  (e:o.op=.call {callee:=.builtin .append,args:=#[s,x],argTypes:=#[t,t]}) (v u b:Value) (g:a.eval s=v) (i:a.eval x=u) (f:(Builtin.append_ #[t,t] o.type #[v,u]).run P w=.ok b w')
  (h:wpList P ops Q rest (a.put o.dst b) w'):wpList P ops Q (o::rest) a w:=by
 refine wpList_plain d fun K c=>?_;unfold Oper.wp;simp[execOp,e,resolve,invoke,builtin,g,i,f,Result.andThen];exact c _ _ h
theorem fP {B e size n:Nat} {w:World} {v:Value} {xs:List Value} (h:w.ownsRow B e size v n xs):∃q c,v=.slice q n c:=by
 rcases h.2 with ⟨rfl,rfl⟩|⟨g,cap,a,rfl,_⟩
 ·exact⟨_,_,rfl⟩
 ·exact⟨_,_,rfl⟩
theorem Gl {w wr:World} {zs:List Int} {n:Nat} {y:Int} {h:Option Addr} {cu:Nat} (hB:Below w.heap.size w wr) (hl:n<=1000) (m:zs.length=n) (f:wr.ownsRow w.heap.size 3 1 (.slice h n cu) n (d6 zs)):
  ∃q c w',(Builtin.append_ #[22,22] 22 #[.slice h n cu,.slice (some ⟨wr.heap.size,0,none⟩) 1 1]).run Tryz.prog (wr.alloc (.cells #[.int .i64 y] 3))=.ok (.slice q (n+1) c) w'∧w'.ownsRow w.heap.size 3 1 (.slice q (n+1) c) (n+1) (d6 (zs++[y]))∧Below w.heap.size w w':=by
 subst m;have b:=bal (ag wr.heap.size wr) (.cells #[.int .i64 y] 3);have g:=aB hB.size b.size;obtain⟨i,hi,s,p,r⟩:=fj j0;obtain⟨t,w',o,d,l,_⟩:=run_append_own (P:=Tryz.prog) (wr.alloc (.cells #[.int .i64 y] 3)) w.heap.size 22 22 3 i (.int .i64 0) 1 8 Tryz.underlying22 hi s p r rfl oD _ _ _ (fO f b) ⟨wr.heap.size,0,none⟩ 1 1 [.int .i64 y] rfl (fun j v a=>by
  match j,a with
  |0,a=>cases a;exact bM wr #[.int .i64 y] 3 0
  |j+1,a=>simp at a) (DN y) (by unfold maxLen;omega) oA g
 obtain⟨q,c,rfl⟩:=fP d;have e:d6 zs++[Value.int .i64 y]=d6 (zs++[y]):=by unfold d6;simp
 exact⟨q,c,w',o,by rw[<-e];exact d,(btr hB b).grown l g (fun k hk=>(f.lt k hk).1)⟩
theorem gg.Jh {w w':World} {b off:Nat} {zs:List ByteArray} (h:gg w b off zs) (c:Below w.heap.size w w'):gg w' b off zs:=
 fun j a=>(c.cell (aj _ _ (h j a))).trans (h j a)
theorem j5 {w:World} {B n:Nat} {v:Value} {zs:List Int} (h:w.ownsRow B 3 1 v n (d6 zs)) (f:zs.length=n) (a:0<n):∃g cap,v=.slice (some ⟨g,0,none⟩) n cap∧n<=cap∧B<=g∧gj w g 0 zs:=by
 subst f;obtain⟨q,b,off,cap,e,i,hi⟩:=dS h;rcases h.2 with ⟨_,l⟩|⟨g,j,k,rfl,c,_,d,_⟩
 ·omega
 ·cases e
  have:=i a
  cases this
  exact⟨b,cap,rfl,d,c,hi⟩
theorem i4 (b off cap:Nat) (l:List ByteArray) (w:World) (J:gg w b off l) (K:∀t∈l,gz t=true) (hl:l.length<=100):
  Calls Tryz.prog 122 #[.slice (some ⟨b,off,none⟩) l.length cap] w fun r w'=>∃u,r=.returned (.tuple #[u,.int .i64 0])∧w'.ownsRow w.heap.size 3 1 u l.length (d6 (l.map Prs.ig))∧Below w.heap.size w w':=by
 have G:=hid J;have E:=hid K;have Q:(l.length:Int)<=100:=oA;go_enter Tryz.func122,Tryz.ntmps122
 go_wp2_with fail
 go_loopw [4,5] (fun u i wr=>∃(k:Nat) (a:Option Addr) (cu:Nat),k<=l.length∧i=.int .i64 k∧u=.slice a k cu∧Hid (wr.ownsRow w.heap.size 3 1 (.slice a k cu) k (d6 ((l.take k).map Prs.ig)))∧Hid (Below w.heap.size w wr)) (fun _ i _=>l.length - (intOf i).toNat)
 case atStart=>exact⟨0,none,0,oA,rfl,rfl,hid (cO _ _ _ _),hid (ag _ _)⟩
 case round=>
  obtain⟨k,a,cu,hk,rfl,rfl,g,e⟩:=hrel;by_cases n:k<l.length
  rotate_left
  ·obtain rfl:l.length=k:=oA;have P:¬((l.length:Int)<(l.length:Int)):=oA;have v:=g.out;rw[cT] at v;have j:=hid v;go_wp2_with fail
   go_ret2
   exact⟨_,rfl,j.out,e.out⟩
  have R:(k:Int)<(l.length:Int):=oA;have x:=(gg.Jh G e) k n;have f:=hid (show (l.take (k+1)).map Prs.ig=(l.take k).map Prs.ig++[Prs.ig l[k]] by rw[bF n,ew];rfl);have F:=hid (E.out l[k] (av n));have p:=hid (show ((l.take k).map Prs.ig).length=k by rw[bJ,bL];omega);have D:=hid (Prs.uI l[k] wr);generalize l[k]=t at*;generalize (l.take k).map Prs.ig=zs at g f p ⊢;go_wp2_with fail
  refine D.mono ?_;rintro r B ⟨rfl,m⟩;have C:=hid (btr e m);have j:=hid (fO g m);have M:=(m.cell (aj _ _ x)).trans x;obtain⟨d,c,w',L,H,I⟩:=Gl (y:=Prs.ig t) C oA p j;have s:=hid L;have q:=hid H;have o:=hid I;by_cases A:t=⟨#[45]⟩
  ·subst A;go_wp2_with (first|(at_builtin;refine jR rfl _ _ 22 rfl (.slice a k cu) (.slice (some ⟨B.heap.size,0,none⟩) 1 1) (.slice d (k+1) c) rfl rfl s ?_))
   exact⟨⟨k+1,d,c,oA,by go_num,rfl,hid (by rw[f.out];exact q),o⟩,by simp[intOf];omega⟩
  ·have N:0<=Prs.ig t:=by
    have:=F.out;unfold gz at this;rw[cJ] at this;rcases this with h|h
    ·exact absurd (ay h) A
    ·exact ay h
   have O:=aw oA;generalize Prs.ig t=z at*;go_wp2_with (first|(at_builtin;refine jR rfl _ _ 22 rfl (.slice a k cu) (.slice (some ⟨B.heap.size,0,none⟩) 1 1) (.slice d (k+1) c) rfl rfl s ?_))
   all_goals exact⟨⟨k+1,d,c,oA,by go_num,rfl,hid (by rw[f.out];exact q),o⟩,by simp[intOf];omega⟩
end Wd
namespace Rf
section
variable {P : Program} {ops : Array Oper} {Q : Exit -> Act -> World -> Prop} {md : Region.Mode} {S R : World -> Prop} {fs : List Nat}
def fA (fs:List Nat) (listed:Array Bool):Bool:=fs.all fun f=> !(listed.getD f true)
def rB (md:Region.Mode) (ops:Array Oper) (fs:List Nat) (i:Nat):Bool:=fs.all fun f=>match ops[f]? with
 |some o=>o.after.any fun e=>Region.binds md e&&e.on==i
 |none=>false
theorem gC {i:Nat} {listed:Array Bool} (hi:fs.contains i=false):fA fs (listed.setIfInBounds i true)=fA fs listed:=by
 have b:∀f∈fs,i≠f:=fun f a e=>by
  subst e;have:fs.contains i=true:=by simpa using a
  rw[this] at hi
  cases hi
 unfold fA;rw[db,bf,bf];exact⟨fun h f a=>by have:=h f a;rwa [getD_set_ne true (b f a)] at this,fun h f a=>by rw[getD_set_ne true (b f a)];exact h f a⟩
theorem eK {a:Array Bool} {X:Prop} (h:fA fs a=false):fA fs a=true->X:=fun e=>by rw[h] at e;cases e
theorem _root_.Go.Proofs.YtaejnmmpddbbjaaGreatDoor.cg:type_of% @eK:= @eK
def d7 (P:Program) (md:Region.Mode) (ops:Array Oper) (Q:Exit->Act->World->Prop) (S R:World->Prop) (fs:List Nat):Nat->Array Bool->Act->World->Prop
 |0,listed,a,w=>Region.ready md ops listed=[]∧Q .normal a w
 |fuel+1,listed,a,w=>
  (Region.ready md ops listed=[]->Q .normal a w)∧
  ∀i∈Region.ready md ops listed,wpOp P ops Q i (fun a' w'=>(S w'∧(fA fs (listed.setIfInBounds i true)=true->R w'))∧d7 P md ops Q S R fs fuel (listed.setIfInBounds i true) a' w') a w
theorem iR:∀(fuel:Nat) (b:Array Bool) (a:Act) (w:World),d7 P md ops Q S R fs fuel b a w->wpAny P md ops Q fuel b a w
 |0,_,_,_,h=>h
 |fuel+1,_,_,_,h=>⟨h.1,fun i hi=>wpOp_mono (fun c w' d=>iR fuel _ c w' d.2) (h.2 i hi)⟩
theorem hD {i:Nat} {m:Oper} {v:Value} {r:Bool} (hi:ops[i]? =some m) (N:∀(j:Nat) (o:Oper) cs b,ops[j]? =some o->o.op≠.select cs b)
  (U:∀c a w,Q (.panic c) (a.put m.dst v) w->Q (.panic c) a w) (E:fs.contains i=false) (hw:r=true->rB md ops fs i=true):
  ∀(fuel:Nat) (d:Array Bool) (a:Act) (w:World),
   (∀j n,ops[j]? =some n->j≠i->d.getD j true=false->(∀e∈n.after,Region.binds md e=true->e.on≠i)->m.apart ops n=true)->
   i∈Region.ready md ops d->(r=true->fA fs d=true)->YieldsIf P ops (fun w=>S w∧(r=true->R w)) m v a->S w->(r=true->R w)->(fA fs d=true->R w)->
   d7 P md ops Q S R fs fuel (d.setIfInBounds i true) (a.put m.dst v) w->d7 P md ops Q S R fs (fuel+1) d a w:=by
 intro fuel
 induction fuel with
 |zero=>
  intro d a w _ l _ z s B hC H;refine⟨fun h=>(by rw[h] at l;cases l),fun j x=>?_⟩;by_cases f:j=i
  ·subst f;exact z.wpOp hi ⟨s,B⟩ ⟨⟨s,fun h=>hC (by rwa [gC E] at h)⟩,H⟩
  ·have:=ready_mono x f;rw[H.1] at this
   cases this
 |succ fuel ih=>
  intro d a w J l W z s B hC H;refine⟨fun h=>(by rw[h] at l;cases l),fun j x=>?_⟩;by_cases f:j=i
  ·subst f;exact z.wpOp hi ⟨s,B⟩ ⟨⟨s,fun h=>hC (by rwa [gC E] at h)⟩,H⟩
  ·have g:=H.2 j (ready_mono x f);obtain⟨L,n,y,V⟩:=mem_ready.1 x;have M:∀e∈n.after,Region.binds md e=true->e.on≠i:=fun e D t X=>by
    have g:=V e D t;have G:=(mem_ready.1 l).1;rw[X] at g;rcases cU i d.size with A|A
    ·simp[A] at G g;rw[G] at g;cases g
    ·simp[Array.getElem?_eq_none A] at g
   have aa:r=true->fs.contains j=false:=fun p=>by
    cases hc:fs.contains j with
    |false=>rfl
    |true=>
     have Z:j∈fs:=by simpa using hc
     have F:=hw p;unfold rB at F;rw[bf] at F;have u:=F j Z;rw[y] at u;obtain⟨e,D,t⟩:=Array.any_eq_true'.1 u;simp only[am,bH] at t;exact absurd t.2 (M e D t.1)
   have u:=wpOp_putIf y (J j n y f L M) (fun cs b=>N i m cs b hi) (fun cs b=>N j n cs b y) U z g;have Y:∀k ok,ops[k]? =some ok->k≠i->(d.setIfInBounds j true).getD k true=false->
     (∀e∈ok.after,Region.binds md e=true->e.on≠i)->m.apart ops ok=true:=fun k ok hk ab O ac=>by
    refine J k ok hk ab ?_ ac;by_cases K:j=k
    ·subst K;exact L
    ·rw[getD_set_ne true K] at O;exact O
   have ad:fA fs ((d.setIfInBounds i true).setIfInBounds j true)=fA fs (d.setIfInBounds j true):=by
    rw[Array.setIfInBounds_comm _ _ (Ne.symm f),gC E]
   refine wpOp_mono (fun T w' q=>?_) u;have C:fA fs (d.setIfInBounds j true)=true->R w':=fun h=>q.2.1.2 (by rw[ad];exact h);have I:r=true->fA fs (d.setIfInBounds j true)=true:=fun p=>by rw[gC (aa p)];exact W p
   refine⟨⟨q.2.1.1,C⟩,ih (d.setIfInBounds j true) T w' Y (ready_mono l (Ne.symm f)) I q.1 q.2.1.1 (fun p=>C (I p)) C ?_⟩;rw[Array.setIfInBounds_comm _ _ f];exact q.2.2
theorem fD {i:Nat} {d:Oper} {v:Value} {fuel:Nat} {b:Array Bool} {a:Act} {w:World} (hi:ops[i]? =some d)
  (n:Region.noSelect ops=true) (k:Region.free md ops b i=true) (m:(Region.ready md ops b).contains i=true) (l:fs.contains i=false)
  (f:∀c a w,Q (.panic c) (a.put d.dst v) w->Q (.panic c) a w) (p:YieldsIf P ops S d v a) (j:S w) (g:fA fs b=true->R w)
  (h:d7 P md ops Q S R fs fuel (b.setIfInBounds i true) (a.put d.dst v) w):d7 P md ops Q S R fs (fuel+1) b a w:=
 hD (r:=false) hi (Region.noSelect_spec n) f l (fun e=>by cases e) fuel b a w (Region.free_spec hi k) (by simpa using m) (fun e=>by cases e) (by rcases p with h|h;exact .inl ⟨h.1,fun w o=>h.2 w o.1⟩;exact .inr h) j (fun e=>by cases e) g h
theorem ek {i:Nat} {e:Oper} {v:Value} {fuel:Nat} {b:Array Bool} {a:Act} {w:World} (hi:ops[i]? =some e)
  (o:Region.noSelect ops=true) (l:Region.free md ops b i=true) (n:(Region.ready md ops b).contains i=true) (m:fs.contains i=false) (d:rB md ops fs i=true) (g:fA fs b=true)
  (j:∀c a w,Q (.panic c) (a.put e.dst v) w->Q (.panic c) a w) (p:YieldsIf P ops (fun w=>S w∧R w) e v a) (k:S w) (f:fA fs b=true->R w)
  (h:d7 P md ops Q S R fs fuel (b.setIfInBounds i true) (a.put e.dst v) w):d7 P md ops Q S R fs (fuel+1) b a w:=
 hD (r:=true) hi (Region.noSelect_spec o) j m (fun _=>d) fuel b a w (Region.free_spec hi l) (by simpa using n) (fun _=>g) (by rcases p with h|h;exact .inl ⟨h.1,fun w d=>h.2 w ⟨d.1,d.2 rfl⟩⟩;exact .inr h) k (fun _=>f g) f h
theorem dL {c:Array Bool} {a:Act} {w:World} (b:Region.ready md ops c=[]) (h:Q .normal a w):
  ∀fuel,d7 P md ops Q S R fs fuel c a w
 |0=>⟨b,h⟩
 |_+1=>⟨fun _=>h,by rw[b];simp⟩
theorem _root_.Go.Proofs.YtaejnmmpddbbjaaGreatDoor.bk:type_of% @dL:= @dL
def dk (P:Program) (md:Region.Mode) (ops:Array Oper) (Q:Exit->Act->World->Prop) (S R:World->Prop) (fs:List Nat) (fuel:Nat) (listed:Array Bool) (a:Act) (w:World) (rs:List Nat):Prop:=
 ∀i∈rs,wpOp P ops Q i (fun a' w'=>(S w'∧(fA fs (listed.setIfInBounds i true)=true->R w'))∧d7 P md ops Q S R fs fuel (listed.setIfInBounds i true) a' w') a w
theorem dk.nil {fuel:Nat} {b:Array Bool} {a:Act} {w:World}:dk P md ops Q S R fs fuel b a w []:=fun _ h=>by cases h
theorem dk.cons {fuel:Nat} {c:Array Bool} {a:Act} {w:World} {i:Nat} {o:Oper} {rs:List Nat} (l:ops[i]? =some o)
  (h:∀b:Act->World->Prop,Shut (∀a w,S w->(fA fs (c.setIfInBounds i true)=true->R w)->(S w->(fA fs (c.setIfInBounds i true)=true->R w)->d7 P md ops Q S R fs fuel (c.setIfInBounds i true) a w)->b a w)->if Region.wanted o (yielded ops a.tmps)=true then Oper.wp P o a w b Q else b (a.put o.dst undef) w)
  (m:dk P md ops Q S R fs fuel c a w rs):dk P md ops Q S R fs fuel c a w (i::rs):=fun j d=>by
 rcases bI.1 d with rfl|d
 ·exact wpOp_step l (fun b g=>h b (fun a w f e k=>g a w ⟨⟨f,e⟩,k f e⟩))
 ·exact m j d
theorem _root_.Go.Proofs.YtaejnmmpddbbjaaGreatDoor.dW:type_of% @dk.cons:= @dk.cons
theorem dx {rs:List Nat} {fuel:Nat} {b:Array Bool} {a:Act} {w:World} (c:Region.ready md ops b=rs) (e:rs≠[])
  (h:dk P md ops Q S R fs fuel b a w rs):d7 P md ops Q S R fs (fuel+1) b a w:=⟨fun d=>absurd (c▸d) e,c▸h⟩
theorem dZ {id:Nat} {a:Act} {w:World} (fs:List Nat) (d:P.follows .mixedOrders=true) (c:S w.drew) (b:R w.drew)
  (h:S w.drew->R w.drew->d7 P .any ops Q S R fs ops.size (Array.replicate ops.size false) a w.drew):(Code.region id ops true).wp P Q a w:=
 wp_region_any d (iR _ _ _ _ (h c b))
def rd (P:Program) (ops:Array Oper) (Q:Exit->Act->World->Prop) (C:World->Prop) (K:Act->Prop):List Nat->Act->Prop
 |[],a=>K a
 |i::r,a=>match ops[i]? with
  |some o=>∃v,YieldsIf P ops C o v a∧(∀c a w,Q (.panic c) (a.put o.dst v) w->Q (.panic c) a w)∧rd P ops Q C K r (a.put o.dst v)
  |none=>False
def tkB (md:Region.Mode) (ops:Array Oper) (fs:List Nat):List Nat->Array Bool->Bool
 |[],_=>true
 |i::r,l=>(Region.free md ops l i&&((Region.ready md ops l).contains i&&(!fs.contains i&&(rB md ops fs i&&fA fs l))))&&tkB md ops fs r (l.setIfInBounds i true)
def FR (l:Array Bool):List Nat->Array Bool
 |[]=>l
 |i::r=>FR (l.setIfInBounds i true) r
theorem jA (d:Region.noSelect ops=true) (w:World) (c:R w):∀(is:List Nat) (fuel:Nat) (b:Array Bool) (a:Act),tkB md ops fs is b=true->
  rd P ops Q R (fun e=>d7 P md ops Q (fun _=>True) R fs fuel (FR b is) e w) is a->d7 P md ops Q (fun _=>True) R fs (fuel+is.length) b a w
 |[],_,_,_,_,h=>h
 |i::r,fuel,b,a,hb,h=>by
  unfold tkB at hb;simp only[am,dX] at hb;obtain⟨⟨f,g,j,k,l⟩,m⟩:=hb;unfold rd at h
  cases ho:ops[i]? with
  |none=>rw[ho] at h;exact h.elim
  |some o=>
   rw[ho] at h;obtain⟨v,s,n,p⟩:=h;exact ek ho d f g j k l n (by rcases s with h|h;exact .inl ⟨h.1,fun w q=>h.2 w q.2⟩;exact .inr h) trivial (fun _=>c) (jA d w c r fuel (b.setIfInBounds i true) (a.put o.dst v) m p)
def tkS (md:Region.Mode) (ops:Array Oper) (fs:List Nat):List Nat->Array Bool->Bool
 |[],_=>true
 |i::r,l=>(Region.free md ops l i&&((Region.ready md ops l).contains i&& !fs.contains i))&&tkS md ops fs r (l.setIfInBounds i true)
theorem jb (d:Region.noSelect ops=true) (w:World) (c:R w):∀(is:List Nat) (fuel:Nat) (b:Array Bool) (a:Act),tkS md ops fs is b=true->
  rd P ops Q (fun _=>True) (fun e=>d7 P md ops Q (fun _=>True) R fs fuel (FR b is) e w) is a->d7 P md ops Q (fun _=>True) R fs (fuel+is.length) b a w
 |[],_,_,_,_,h=>h
 |i::r,fuel,b,a,hb,h=>by
  unfold tkS at hb;simp only[am,dX] at hb;obtain⟨⟨f,g,j⟩,k⟩:=hb;unfold rd at h
  cases ho:ops[i]? with
  |none=>rw[ho] at h;exact h.elim
  |some o=>
   rw[ho] at h;obtain⟨v,n,l,m⟩:=h;exact fD ho d f g j l n trivial (fun _=>c) (jb d w c r fuel (b.setIfInBounds i true) (a.put o.dst v) k m)
theorem _root_.Go.Proofs.YtaejnmmpddbbjaaGreatDoor.bQ:type_of% @jb:= @jb
theorem sN {id:Nat} {a:Act} {w:World} (fs:List Nat) (d:P.follows .mixedOrders=true) (c:R w.drew)
  (h:R w.drew->d7 P .any ops Q (fun _=>True) R fs ops.size (Array.replicate ops.size false) a w.drew):(Code.region id ops true).wp P Q a w:=
 dZ fs d trivial c fun _ b=>h b
theorem kj {id:Nat} {a:Act} {w:World} (fs is:List Nat) (n:Nat) (f:P.follows .mixedOrders=true) (d:R w.drew) (g:ops.size=n+is.length) (i:Region.noSelect ops=true)
  (e:tkB .any ops fs is (Array.replicate ops.size false)=true) (h:R w.drew->rd P ops Q R (fun c=>d7 P .any ops Q (fun _=>True) R fs n (FR (Array.replicate ops.size false) is) c w.drew) is a):(Code.region id ops true).wp P Q a w:=
 sN fs f d fun b=>by
  have:=jA (md:=.any) i w.drew b is n (Array.replicate ops.size false) a e (h b);rw[<-g] at this;exact this
theorem _root_.Go.Proofs.YtaejnmmpddbbjaaGreatDoor.bG:type_of% @kj:= @kj
theorem xU {C:World->Prop} {K:Act->Prop} {a:Act} (h:K a):rd P ops Q C K [] a:=h
theorem _root_.Go.Proofs.YtaejnmmpddbbjaaGreatDoor.aJ:type_of% @xU:= @xU
theorem He {C:World->Prop} {K:Act->Prop} {i:Nat} {r:List Nat} {a:Act} {o:Oper} (b:ops[i]? =some o) (v:Value) (e:YieldsIf P ops C o v a) (d:∀c a w,Q (.panic c) (a.put o.dst v) w->Q (.panic c) a w) (h:rd P ops Q C K r (a.put o.dst v)):rd P ops Q C K (i::r) a:=by
 unfold rd;rw[b];exact⟨v,e,d,h⟩
theorem Ae {C:World->Prop} {K:Act->Prop} {i:Nat} {r:List Nat} {a:Act} {o:Oper} (e:ops[i]? =some o) (g:Region.wanted o (yielded ops a.tmps)=true) (f:∀v c a w,Q (.panic c) (a.put o.dst v) w->Q (.panic c) a w)
  (h:∃v,(∀W,C W->(execOp a.eval o).run P W=.ok (.value v) W)∧rd P ops Q C K r (a.put o.dst v)):rd P ops Q C K (i::r) a:=by
 obtain⟨v,b,d⟩:=h;exact He e v (.inl ⟨g,b⟩) (f v) d
end
theorem rs {C:World->Prop} {K:Act->Prop} {i:Nat} {r:List Nat} {a:Act} {o:Oper} {v:Value} {P:Program} {ops:Array Oper} {Q:Exit->Act->World->Prop} (d:rd P ops Q C K r (a.put o.dst v)) (e:ops[i]? =some o:=by exact rfl) (g:Region.wanted o (yielded ops a.tmps)=true:=by rfl) (b:∀W,C W->(execOp a.eval o).run P W=.ok (.value v) W:=by intro W h;(repeat (obtain⟨_,h⟩:=h));go_simp;try rfl) (f:∀v c a w,Q (.panic c) (a.put o.dst v) w->Q (.panic c) a w:=by exact fun _ _ _ _ h=>h):rd P ops Q C K (i::r) a:=He e v (.inl ⟨g,b⟩) (f v) d
section
variable {P : Program} {ops : Array Oper} {Q : Exit -> Act -> World -> Prop} {md : Region.Mode} {S R : World -> Prop} {fs : List Nat}
theorem r1 (i:Nat) {fuel:Nat} {b:Array Bool} {a:Act} {w:World} {o:Oper} (d:ops[i]? =some o) (h:∀c:Act->World->Prop,Shut (∀a w,S w->(fA fs (b.setIfInBounds i true)=true->R w)->(S w->(fA fs (b.setIfInBounds i true)=true->R w)->d7 P md ops Q S R fs fuel (b.setIfInBounds i true) a w)->c a w)->if Region.wanted o (yielded ops a.tmps)=true then Oper.wp P o a w c Q else c (a.put o.dst undef) w) (e:Region.ready md ops b=[i]:=by kernel_rfl):d7 P md ops Q S R fs (fuel+1) b a w:=dx e (by simp) (dk.cons d h dk.nil)
end
end Rf
namespace Wd
theorem wnt {c:Bool} {A B:Prop} (a:c=true) (h:A):if c=true then A else B:=by rw[ah a];exact h
