/- Uay -/
import Derived.Test.YtnccmdndkmmhcaaGreatDoorProg
import Derived.Deep.RegionHeld3
import Derived.Test.YtnccmdndkmmhcaaGreatDoorUaa
set_option maxRecDepth 100000
set_option maxHeartbeats 16000000
namespace Go.Proofs.YtnccmdndkmmhcaaGreatDoor
namespace Rf
section
variable {P : Program} {ops : Array Oper} {Q : Exit -> Act -> World -> Prop} {md : Region.Mode} {S R : World -> Prop} {fs : List Nat}
def fp (fs:List Nat) (listed:Array Bool):Bool:=fs.all fun f=> !(listed.getD f true)
def rW (md:Region.Mode) (ops:Array Oper) (fs:List Nat) (i:Nat):Bool:=fs.all fun f=>match ops[f]? with
 |some o=>o.after.any fun e=>Region.binds md e&&e.on==i
 |none=>false
theorem gl {i:Nat} {listed:Array Bool} (hi:fs.contains i=false):fp fs (listed.setIfInBounds i true)=fp fs listed:=by
 have b:∀f∈fs,i≠f:=fun f a e=>by
  subst e;have:fs.contains i=true:=by simpa using a
  rw[this] at hi
  cases hi
 unfold fp;rw[cY,aU,aU];exact⟨fun h f a=>by have:=h f a;rwa [getD_set_ne true (b f a)] at this,fun h f a=>by rw[getD_set_ne true (b f a)];exact h f a⟩
theorem fv {a:Array Bool} {X:Prop} (h:fp fs a=false):fp fs a=true->X:=fun e=>by rw[h] at e;cases e
theorem _root_.Go.Proofs.YtnccmdndkmmhcaaGreatDoor.bX:type_of% @fv:= @fv
def dK (P:Program) (md:Region.Mode) (ops:Array Oper) (Q:Exit->Act->World->Prop) (S R:World->Prop) (fs:List Nat):Nat->Array Bool->Act->World->Prop
 |0,listed,a,w=>Region.ready md ops listed=[]∧Q .normal a w
 |fuel+1,listed,a,w=>
  (Region.ready md ops listed=[]->Q .normal a w)∧
  ∀i∈Region.ready md ops listed,wpOp P ops Q i (fun a' w'=>(S w'∧(fp fs (listed.setIfInBounds i true)=true->R w'))∧dK P md ops Q S R fs fuel (listed.setIfInBounds i true) a' w') a w
theorem iM:∀(fuel:Nat) (b:Array Bool) (a:Act) (w:World),dK P md ops Q S R fs fuel b a w->wpAny P md ops Q fuel b a w
 |0,_,_,_,h=>h
 |fuel+1,_,_,_,h=>⟨h.1,fun i hi=>wpOp_mono (fun c w' d=>iM fuel _ c w' d.2) (h.2 i hi)⟩
theorem gP {i:Nat} {m:Oper} {v:Value} {r:Bool} (hi:ops[i]? =some m) (N:∀(j:Nat) (o:Oper) cs b,ops[j]? =some o->o.op≠.select cs b)
  (U:∀c a w,Q (.panic c) (a.put m.dst v) w->Q (.panic c) a w) (E:fs.contains i=false) (hw:r=true->rW md ops fs i=true):
  ∀(fuel:Nat) (d:Array Bool) (a:Act) (w:World),
   (∀j n,ops[j]? =some n->j≠i->d.getD j true=false->(∀e∈n.after,Region.binds md e=true->e.on≠i)->m.apart ops n=true)->
   i∈Region.ready md ops d->(r=true->fp fs d=true)->YieldsIf P ops (fun w=>S w∧(r=true->R w)) m v a->S w->(r=true->R w)->(fp fs d=true->R w)->
   dK P md ops Q S R fs fuel (d.setIfInBounds i true) (a.put m.dst v) w->dK P md ops Q S R fs (fuel+1) d a w:=by
 intro fuel
 induction fuel with
 |zero=>
  intro d a w _ l _ z s B hC H;refine⟨fun h=>(by rw[h] at l;cases l),fun j x=>?_⟩;by_cases f:j=i
  ·subst f;exact z.wpOp hi ⟨s,B⟩ ⟨⟨s,fun h=>hC (by rwa [gl E] at h)⟩,H⟩
  ·have:=ready_mono x f;rw[H.1] at this
   cases this
 |succ fuel ih=>
  intro d a w J l W z s B hC H;refine⟨fun h=>(by rw[h] at l;cases l),fun j x=>?_⟩;by_cases f:j=i
  ·subst f;exact z.wpOp hi ⟨s,B⟩ ⟨⟨s,fun h=>hC (by rwa [gl E] at h)⟩,H⟩
  ·have g:=H.2 j (ready_mono x f);obtain⟨L,n,y,V⟩:=mem_ready.1 x;have M:∀e∈n.after,Region.binds md e=true->e.on≠i:=fun e D t X=>by
    have g:=V e D t;have G:=(mem_ready.1 l).1;rw[X] at g;rcases cP i d.size with A|A
    ·simp[A] at G g;rw[G] at g;cases g
    ·simp[Array.getElem?_eq_none A] at g
   have aa:r=true->fs.contains j=false:=fun p=>by
    cases hc:fs.contains j with
    |false=>rfl
    |true=>
     have Z:j∈fs:=by simpa using hc
     have F:=hw p;unfold rW at F;rw[aU] at F;have u:=F j Z;rw[y] at u;obtain⟨e,D,t⟩:=Array.any_eq_true'.1 u;simp only[am,bz] at t;exact absurd t.2 (M e D t.1)
   have u:=wpOp_putIf y (J j n y f L M) (fun cs b=>N i m cs b hi) (fun cs b=>N j n cs b y) U z g;have Y:∀k ok,ops[k]? =some ok->k≠i->(d.setIfInBounds j true).getD k true=false->
     (∀e∈ok.after,Region.binds md e=true->e.on≠i)->m.apart ops ok=true:=fun k ok hk ab O ac=>by
    refine J k ok hk ab ?_ ac;by_cases K:j=k
    ·subst K;exact L
    ·rw[getD_set_ne true K] at O;exact O
   have ad:fp fs ((d.setIfInBounds i true).setIfInBounds j true)=fp fs (d.setIfInBounds j true):=by
    rw[Array.setIfInBounds_comm _ _ (Ne.symm f),gl E]
   refine wpOp_mono (fun T w' q=>?_) u;have C:fp fs (d.setIfInBounds j true)=true->R w':=fun h=>q.2.1.2 (by rw[ad];exact h);have I:r=true->fp fs (d.setIfInBounds j true)=true:=fun p=>by rw[gl (aa p)];exact W p
   refine⟨⟨q.2.1.1,C⟩,ih (d.setIfInBounds j true) T w' Y (ready_mono l (Ne.symm f)) I q.1 q.2.1.1 (fun p=>C (I p)) C ?_⟩;rw[Array.setIfInBounds_comm _ _ f];exact q.2.2
theorem ig {i:Nat} {d:Oper} {v:Value} {fuel:Nat} {b:Array Bool} {a:Act} {w:World} (hi:ops[i]? =some d)
  (n:Region.noSelect ops=true) (k:Region.free md ops b i=true) (m:(Region.ready md ops b).contains i=true) (l:fs.contains i=false)
  (f:∀c a w,Q (.panic c) (a.put d.dst v) w->Q (.panic c) a w) (p:YieldsIf P ops S d v a) (j:S w) (g:fp fs b=true->R w)
  (h:dK P md ops Q S R fs fuel (b.setIfInBounds i true) (a.put d.dst v) w):dK P md ops Q S R fs (fuel+1) b a w:=
 gP (r:=false) hi (Region.noSelect_spec n) f l (fun e=>by cases e) fuel b a w (Region.free_spec hi k) (by simpa using m) (fun e=>by cases e) (by rcases p with h|h;exact .inl ⟨h.1,fun w o=>h.2 w o.1⟩;exact .inr h) j (fun e=>by cases e) g h
theorem eZ {i:Nat} {e:Oper} {v:Value} {fuel:Nat} {b:Array Bool} {a:Act} {w:World} (hi:ops[i]? =some e)
  (o:Region.noSelect ops=true) (l:Region.free md ops b i=true) (n:(Region.ready md ops b).contains i=true) (m:fs.contains i=false) (d:rW md ops fs i=true) (g:fp fs b=true)
  (j:∀c a w,Q (.panic c) (a.put e.dst v) w->Q (.panic c) a w) (p:YieldsIf P ops (fun w=>S w∧R w) e v a) (k:S w) (f:fp fs b=true->R w)
  (h:dK P md ops Q S R fs fuel (b.setIfInBounds i true) (a.put e.dst v) w):dK P md ops Q S R fs (fuel+1) b a w:=
 gP (r:=true) hi (Region.noSelect_spec o) j m (fun _=>d) fuel b a w (Region.free_spec hi l) (by simpa using n) (fun _=>g) (by rcases p with h|h;exact .inl ⟨h.1,fun w d=>h.2 w ⟨d.1,d.2 rfl⟩⟩;exact .inr h) k (fun _=>f g) f h
theorem ec {c:Array Bool} {a:Act} {w:World} (b:Region.ready md ops c=[]) (h:Q .normal a w):
  ∀fuel,dK P md ops Q S R fs fuel c a w
 |0=>⟨b,h⟩
 |_+1=>⟨fun _=>h,by rw[b];simp⟩
theorem _root_.Go.Proofs.YtnccmdndkmmhcaaGreatDoor.bc:type_of% @ec:= @ec
def di (P:Program) (md:Region.Mode) (ops:Array Oper) (Q:Exit->Act->World->Prop) (S R:World->Prop) (fs:List Nat) (fuel:Nat) (listed:Array Bool) (a:Act) (w:World) (rs:List Nat):Prop:=
 ∀i∈rs,wpOp P ops Q i (fun a' w'=>(S w'∧(fp fs (listed.setIfInBounds i true)=true->R w'))∧dK P md ops Q S R fs fuel (listed.setIfInBounds i true) a' w') a w
theorem di.nil {fuel:Nat} {b:Array Bool} {a:Act} {w:World}:di P md ops Q S R fs fuel b a w []:=fun _ h=>by cases h
theorem di.cons {fuel:Nat} {c:Array Bool} {a:Act} {w:World} {i:Nat} {o:Oper} {rs:List Nat} (l:ops[i]? =some o)
  (h:∀b:Act->World->Prop,Shut (∀a w,S w->(fp fs (c.setIfInBounds i true)=true->R w)->(S w->(fp fs (c.setIfInBounds i true)=true->R w)->dK P md ops Q S R fs fuel (c.setIfInBounds i true) a w)->b a w)->if Region.wanted o (yielded ops a.tmps)=true then Oper.wp P o a w b Q else b (a.put o.dst undef) w)
  (m:di P md ops Q S R fs fuel c a w rs):di P md ops Q S R fs fuel c a w (i::rs):=fun j d=>by
 rcases bK.1 d with rfl|d
 ·exact wpOp_step l (fun b g=>h b (fun a w f e k=>g a w ⟨⟨f,e⟩,k f e⟩))
 ·exact m j d
theorem _root_.Go.Proofs.YtnccmdndkmmhcaaGreatDoor.dT:type_of% @di.cons:= @di.cons
theorem dp {rs:List Nat} {fuel:Nat} {b:Array Bool} {a:Act} {w:World} (c:Region.ready md ops b=rs) (e:rs≠[])
  (h:di P md ops Q S R fs fuel b a w rs):dK P md ops Q S R fs (fuel+1) b a w:=⟨fun d=>absurd (c▸d) e,c▸h⟩
theorem ei {id:Nat} {a:Act} {w:World} (fs:List Nat) (d:P.follows .mixedOrders=true) (c:S w.drew) (b:R w.drew)
  (h:S w.drew->R w.drew->dK P .any ops Q S R fs ops.size (Array.replicate ops.size false) a w.drew):(Code.region id ops true).wp P Q a w:=
 wp_region_any d (iM _ _ _ _ (h c b))
def rd (P:Program) (ops:Array Oper) (Q:Exit->Act->World->Prop) (C:World->Prop) (K:Act->Prop):List Nat->Act->Prop
 |[],a=>K a
 |i::r,a=>match ops[i]? with
  |some o=>∃v,YieldsIf P ops C o v a∧(∀c a w,Q (.panic c) (a.put o.dst v) w->Q (.panic c) a w)∧rd P ops Q C K r (a.put o.dst v)
  |none=>False
def tkB (md:Region.Mode) (ops:Array Oper) (fs:List Nat):List Nat->Array Bool->Bool
 |[],_=>true
 |i::r,l=>(Region.free md ops l i&&((Region.ready md ops l).contains i&&(!fs.contains i&&(rW md ops fs i&&fp fs l))))&&tkB md ops fs r (l.setIfInBounds i true)
def F0 (l:Array Bool):List Nat->Array Bool
 |[]=>l
 |i::r=>F0 (l.setIfInBounds i true) r
theorem jy (d:Region.noSelect ops=true) (w:World) (c:R w):∀(is:List Nat) (fuel:Nat) (b:Array Bool) (a:Act),tkB md ops fs is b=true->
  rd P ops Q R (fun e=>dK P md ops Q (fun _=>True) R fs fuel (F0 b is) e w) is a->dK P md ops Q (fun _=>True) R fs (fuel+is.length) b a w
 |[],_,_,_,_,h=>h
 |i::r,fuel,b,a,hb,h=>by
  unfold tkB at hb;simp only[am,dD] at hb;obtain⟨⟨f,g,j,k,l⟩,m⟩:=hb;unfold rd at h
  cases ho:ops[i]? with
  |none=>rw[ho] at h;exact h.elim
  |some o=>
   rw[ho] at h;obtain⟨v,s,n,p⟩:=h;exact eZ ho d f g j k l n (by rcases s with h|h;exact .inl ⟨h.1,fun w q=>h.2 w q.2⟩;exact .inr h) trivial (fun _=>c) (jy d w c r fuel (b.setIfInBounds i true) (a.put o.dst v) m p)
def tkS (md:Region.Mode) (ops:Array Oper) (fs:List Nat):List Nat->Array Bool->Bool
 |[],_=>true
 |i::r,l=>(Region.free md ops l i&&((Region.ready md ops l).contains i&& !fs.contains i))&&tkS md ops fs r (l.setIfInBounds i true)
theorem i5 (d:Region.noSelect ops=true) (w:World) (c:R w):∀(is:List Nat) (fuel:Nat) (b:Array Bool) (a:Act),tkS md ops fs is b=true->
  rd P ops Q (fun _=>True) (fun e=>dK P md ops Q (fun _=>True) R fs fuel (F0 b is) e w) is a->dK P md ops Q (fun _=>True) R fs (fuel+is.length) b a w
 |[],_,_,_,_,h=>h
 |i::r,fuel,b,a,hb,h=>by
  unfold tkS at hb;simp only[am,dD] at hb;obtain⟨⟨f,g,j⟩,k⟩:=hb;unfold rd at h
  cases ho:ops[i]? with
  |none=>rw[ho] at h;exact h.elim
  |some o=>
   rw[ho] at h;obtain⟨v,n,l,m⟩:=h;exact ig ho d f g j l n trivial (fun _=>c) (i5 d w c r fuel (b.setIfInBounds i true) (a.put o.dst v) k m)
theorem _root_.Go.Proofs.YtnccmdndkmmhcaaGreatDoor.bN:type_of% @i5:= @i5
theorem tC {id:Nat} {a:Act} {w:World} (fs:List Nat) (d:P.follows .mixedOrders=true) (c:R w.drew)
  (h:R w.drew->dK P .any ops Q (fun _=>True) R fs ops.size (Array.replicate ops.size false) a w.drew):(Code.region id ops true).wp P Q a w:=
 ei fs d trivial c fun _ b=>h b
theorem kh {id:Nat} {a:Act} {w:World} (fs is:List Nat) (n:Nat) (f:P.follows .mixedOrders=true) (d:R w.drew) (g:ops.size=n+is.length) (i:Region.noSelect ops=true)
  (e:tkB .any ops fs is (Array.replicate ops.size false)=true) (h:R w.drew->rd P ops Q R (fun c=>dK P .any ops Q (fun _=>True) R fs n (F0 (Array.replicate ops.size false) is) c w.drew) is a):(Code.region id ops true).wp P Q a w:=
 tC fs f d fun b=>by
  have:=jy (md:=.any) i w.drew b is n (Array.replicate ops.size false) a e (h b);rw[<-g] at this;exact this
theorem _root_.Go.Proofs.YtnccmdndkmmhcaaGreatDoor.bI:type_of% @kh:= @kh
theorem yh {C:World->Prop} {K:Act->Prop} {a:Act} (h:K a):rd P ops Q C K [] a:=h
theorem _root_.Go.Proofs.YtnccmdndkmmhcaaGreatDoor.aL:type_of% @yh:= @yh
theorem Hj {C:World->Prop} {K:Act->Prop} {i:Nat} {r:List Nat} {a:Act} {o:Oper} (b:ops[i]? =some o) (v:Value) (e:YieldsIf P ops C o v a) (d:∀c a w,Q (.panic c) (a.put o.dst v) w->Q (.panic c) a w) (h:rd P ops Q C K r (a.put o.dst v)):rd P ops Q C K (i::r) a:=by
 unfold rd;rw[b];exact⟨v,e,d,h⟩
theorem Ak {C:World->Prop} {K:Act->Prop} {i:Nat} {r:List Nat} {a:Act} {o:Oper} (e:ops[i]? =some o) (g:Region.wanted o (yielded ops a.tmps)=true) (f:∀v c a w,Q (.panic c) (a.put o.dst v) w->Q (.panic c) a w)
  (h:∃v,(∀W,C W->(execOp a.eval o).run P W=.ok (.value v) W)∧rd P ops Q C K r (a.put o.dst v)):rd P ops Q C K (i::r) a:=by
 obtain⟨v,b,d⟩:=h;exact Hj e v (.inl ⟨g,b⟩) (f v) d
end
theorem rs {C:World->Prop} {K:Act->Prop} {i:Nat} {r:List Nat} {a:Act} {o:Oper} {v:Value} {P:Program} {ops:Array Oper} {Q:Exit->Act->World->Prop} (d:rd P ops Q C K r (a.put o.dst v)) (e:ops[i]? =some o:=by exact rfl) (g:Region.wanted o (yielded ops a.tmps)=true:=by rfl) (b:∀W,C W->(execOp a.eval o).run P W=.ok (.value v) W:=by intro W h;(repeat (obtain⟨_,h⟩:=h));go_simp;try rfl) (f:∀v c a w,Q (.panic c) (a.put o.dst v) w->Q (.panic c) a w:=by exact fun _ _ _ _ h=>h):rd P ops Q C K (i::r) a:=Hj e v (.inl ⟨g,b⟩) (f v) d
section
variable {P : Program} {ops : Array Oper} {Q : Exit -> Act -> World -> Prop} {md : Region.Mode} {S R : World -> Prop} {fs : List Nat}
theorem r1 (i:Nat) {fuel:Nat} {b:Array Bool} {a:Act} {w:World} {o:Oper} (d:ops[i]? =some o) (h:∀c:Act->World->Prop,Shut (∀a w,S w->(fp fs (b.setIfInBounds i true)=true->R w)->(S w->(fp fs (b.setIfInBounds i true)=true->R w)->dK P md ops Q S R fs fuel (b.setIfInBounds i true) a w)->c a w)->if Region.wanted o (yielded ops a.tmps)=true then Oper.wp P o a w c Q else c (a.put o.dst undef) w) (e:Region.ready md ops b=[i]:=by kernel_rfl):dK P md ops Q S R fs (fuel+1) b a w:=dp e (by simp) (di.cons d h di.nil)
end
end Rf
namespace Wd
theorem wnt {c:Bool} {A B:Prop} (a:c=true) (h:A):if c=true then A else B:=by rw[ag a];exact h
