/- Qab -/
import Derived.Laws.StructEq
import Derived.Test.YtaejnmmpddbbjaaGreatDoorChecked
import Derived.Deep.MidRow
import Derived.Deep.RegionHeld3
import Derived.ChangeKeysEq
import Derived.Deep.DeepCutAuto
import Derived.ProofKit
import Derived.OpenShut
import Derived.Deep.Slices
import Derived.Carry
import Derived.Lib.SmallJoins
import Derived.Deep.RegionLaw
import Derived.Laws.MakeOwn
import Derived.Lib.SliceRun
import Derived.Deep.RegionWith
import Derived.Test.YtaejnmmpddbbjaaGreatDoorQaa
set_option maxRecDepth 100000
set_option maxHeartbeats 16000000
namespace Go.Proofs.YtaejnmmpddbbjaaGreatDoor
namespace Mmu
open Go.RowKit Mem Bw Nums
abbrev Ent:=Int×Int×Int×Bool
def iy (w:World) (b off:Nat) (l:List Ent):Prop:=
 ∀j (h:j<l.length),w.cell? ⟨b,off+j*4,none⟩=some (.int .i64 l[j].1)∧w.cell? ⟨b,off+j*4+1,none⟩=some (.int .i64 l[j].2.1)∧w.cell? ⟨b,off+j*4+2,none⟩=some (.int .i64 l[j].2.2.1)∧w.cell? ⟨b,off+j*4+3,none⟩=some (.bool l[j].2.2.2)
theorem iy.below {w w':World} {b off:Nat} {l:List Ent} (h:iy w b off l) (c:Below w.heap.size w w'):iy w' b off l:=fun j a=>
 ⟨(c.cell (aj _ _ (h j a).1)).trans (h j a).1,(c.cell (aj _ _ (h j a).2.1)).trans (h j a).2.1,(c.cell (aj _ _ (h j a).2.2.1)).trans (h j a).2.2.1,(c.cell (aj _ _ (h j a).2.2.2)).trans (h j a).2.2.2⟩
def gB (w:World) (v:Value) (l:List Ent):Prop:=∃q b off cap,v=.slice q l.length cap∧(0<l.length->q=some ⟨b,off,none⟩)∧iy w b off l∧l.length<=100
theorem gB.below {w w':World} {v:Value} {l:List Ent} (h:gB w v l) (f:Below w.heap.size w w'):gB w' v l:=by
 obtain⟨q,b,off,cap,a,c,d,e⟩:=h;exact⟨q,b,off,cap,a,c,d.below f,e⟩
def pg (s p:Int) (e:Ent):Bool:=e.1==s&&e.2.1==p
def yj (w:World) (h:Nat) (s p:Int):Prop:=w.cell? ⟨h,0,none⟩=some (.int .i64 s)∧w.cell? ⟨h+1,0,none⟩=some (.int .i64 p)
theorem yj.below {w w':World} {h:Nat} {s p:Int} (k:yj w h s p) (a:Below w.heap.size w w'):yj w' h s p:=
 ⟨(a.cell (aj _ _ k.1)).trans k.1,(a.cell (aj _ _ k.2)).trans k.2⟩
theorem mI (s p:Int) (w:World):
  Calls Tryz.prog 92 #[.int .i64 s,.int .i64 p] w fun e w'=>e=.returned (.func (.func 145) #[] #[.pointer (some ⟨w.heap.size,0,none⟩),.pointer (some ⟨w.heap.size+1,0,none⟩)])∧yj w' w.heap.size s p∧Below w.heap.size w w':=by
 have b:∀(a:Fn) (first cap:Array Value) (w:World),(Instr.makeFunc a first cap).run Tryz.prog w=.ok (.func a first cap) w:=fun _ _ _ _=>rfl;go_enter Tryz.func92,Tryz.ntmps92
 go_wp2_with fail
 go_ret
 exact⟨rfl,⟨fV (cD w #[.int .i64 s] 3) oS _ 0,mU (w.alloc (.cells #[.int .i64 s] 3)) #[.int .i64 p] 3 (w.heap.size+1) oS 0⟩,bal (bal (ai _ _) _) _⟩
theorem xJ (e:Ent) (h:Nat) (s p:Int) (w:World) (b:yj w h s p):
  Calls Tryz.prog 145 #[.agg #[.int .i64 e.1,.int .i64 e.2.1,.int .i64 e.2.2.1,.bool e.2.2.2],.pointer (some ⟨h,0,none⟩),.pointer (some ⟨h+1,0,none⟩)] w fun r w'=>r=.returned (.bool (pg s p e))∧Below w.heap.size w w':=by
 obtain⟨x,y,z,u⟩:=e;have k:=b.below (bal (ai _ _) (.cells #[.int .i64 x,.int .i64 y,.int .i64 z,.bool u] 56));obtain⟨c,k1⟩:=k;have a:=hid (show pg s p (x,y,z,u)=(x==s&&y==p) from rfl)
 cases hx:(x==s) with
 |true=>
  go_enter Tryz.func145,Tryz.ntmps145
  go_wp2_with fail
  go_ret
  exact⟨by rw[a.out,hx];rfl,bal (ai _ _) _⟩
 |false=>
  go_enter Tryz.func145,Tryz.ntmps145
  go_wp2_with fail
  go_ret
  exact⟨by rw[a.out,hx];rfl,bal (ai _ _) _⟩
def ixV (p:Ent->Bool) (l:List Ent):Int:=if l.findIdx p<l.length then (l.findIdx p:Int) else -1
theorem mq (v:Value) (l:List Ent) (h:Nat) (s p:Int) (w:World) (H:gB w v l) (C:yj w h s p):
  Calls Tryz.prog 91 #[v,.func (.func 145) #[] #[.pointer (some ⟨h,0,none⟩),.pointer (some ⟨h+1,0,none⟩)]] w fun r w'=>r=.returned (.int .i64 (ixV (pg s p) l))∧Below w.heap.size w w':=by
 obtain⟨q,b,off,cap,rfl,E,I,hl⟩:=H;have z:=hid E;have A:=hid I;have x:=hid C;have L:(l.length:Int)<=100:=oA;go_enter Tryz.func91,Tryz.ntmps91
 go_wp2_with fail
 go_loopw [8] (fun i wr=>∃k:Nat,k<=l.length∧i=.int .i64 k∧Hid ((∀j (c:j<l.length),j<k->pg s p l[j]=false)∧Below w.heap.size w wr)) (fun i _=>l.length - (intOf i).toNat)
 case atStart=>exact⟨0,oA,rfl,fun j _ h=>oA,ai _ _⟩
 case round=>
  obtain⟨k,hk,rfl,a⟩:=hrel;by_cases m:k<l.length
  ·have d:(k:Int)<(l.length:Int):=oA;have F:=z.out oA;subst F;obtain⟨c0,c1,c2,B⟩:=(A.below a.2) k m;have t:=hid (fun W (g:Below w.heap.size w W)=>xJ l[k] h s p W (x.below g));have o:=hid (show pg s p l[k]=true->ixV (pg s p) l=k from fun G=>by
    have:l.findIdx (pg s p)=k:=(List.findIdx_eq m).2 ⟨G,fun j c=>a.1 j oA c⟩;unfold ixV;rw[this,af m])
   have u:=hid (show pg s p l[k]=false->∀j (c:j<l.length),j<k+1->pg s p l[j]=false from fun D j c K=>by
    by_cases e:j=k
    ·subst e;exact D
    ·exact a.1 j c oA)
   generalize l[k]=e at c0 c1 c2 B t o u;go_wp2_with fail
   refine (t.out _ a.2).mono ?_;rintro r w1 ⟨rfl,g⟩;have n:=hid (btr a.2 g)
   cases hpe:pg s p e with
   |true=>
    have f:=hid (o.out hpe);go_wp2_with fail
    go_ret
    exact⟨by rw[f.out];rfl,n.out⟩
   |false=>
    have y:=hid (u.out hpe);go_wp2_with fail
    exact⟨⟨k+1,oA,by go_num,y.out,n.out⟩,by simp[intOf];omega⟩
  ·obtain rfl:k=l.length:=oA;have J:¬((l.length:Int)<(l.length:Int)):=oA;have f:=hid (show ixV (pg s p) l= -1 by
    unfold ixV;rw[ae];intro d;have:=dS (w:=d);rw[a.1 _ d d] at this
    cases this)
   go_wp2_with fail
   go_ret
   exact⟨by rw[f.out];rfl,a.2⟩
def hD (l:List Ent) (s p:Int):Ent×Bool:=if h:l.findIdx (pg s p)<l.length then (l[l.findIdx (pg s p)],true) else ((0,0,0,false),false)
def iA (r:Ent×Bool):Value:=.tuple #[.agg #[.int .i64 r.1.1,.int .i64 r.1.2.1,.int .i64 r.1.2.2.1,.bool r.1.2.2.2],.bool r.2]
theorem qG {l:List Ent} {s p:Int} {k:Nat} (hk:k<l.length) (h:l.findIdx (pg s p)=k):hD l s p=(l[k],true):=by
 subst h;unfold hD;rw[dif_pos hk]
theorem pM {l:List Ent} {s p:Int} (h:¬l.findIdx (pg s p)<l.length):hD l s p=((0,0,0,false),false):=by
 unfold hD;rw[dif_neg h]
theorem kg (w:World):∀k,k<4->(w.alloc (.cells #[.int .i64 0,.int .i64 0,.int .i64 0,.bool false] 56)).frozen? ⟨w.heap.size,k,none⟩=false:=fun k _=>oS
theorem vQ (v:Value) (l:List Ent) (s p:Int) (w:World) (E:gB w v l):
  Calls Tryz.prog 52 #[v,.int .i64 s,.int .i64 p] w fun r w'=>r=.returned (iA (hD l s p))∧Below w.heap.size w w':=by
 have I:=hid E;obtain⟨q,b,off,cap,rfl,M,O,hl⟩:=E;have H:=hid M;have J:=hid O;have o:=hid (bal (ai w.heap.size w) (.cells #[.int .i64 0,.int .i64 0,.int .i64 0,.bool false] 56));have i:=hid (cD w #[.int .i64 0,.int .i64 0,.int .i64 0,.bool false] 56);have F:(w.alloc (.cells #[.int .i64 0,.int .i64 0,.int .i64 0,.bool false] 56)).heap.size=w.heap.size+1:=oS;have j:=hid (kg w);go_enter Tryz.func52,Tryz.ntmps52
 go_wp2_with fail
 refine (mI s p _).mono ?_;generalize World.alloc _ _=W at o i F j ⊢;rintro r w1 ⟨rfl,D,f⟩;have K:=hid D;have t:=hid (btr o f);have A:=hid (fp i oA f);have L:=hid (fun k (hk:k<4)=>(f.frozen (p:=⟨w.heap.size,k,none⟩) (by simp;omega)).trans (j.out k hk));clear D f i j F;go_wp2_with fail
 refine (mq _ l W.heap.size s p w1 (I.below t) K).mono ?_;rintro r w2 ⟨rfl,n⟩;have g:=hid (btr t n);have G:=aj w1 ⟨w.heap.size,0,none⟩ (A.out 0);have B:=fp A G n;have d:=hid (fun k (hk:k<4)=>(n.frozen (p:=⟨w.heap.size,k,none⟩) G).trans (L.out k hk));have R:=d.out 0 oD;have S:=d.out 1 oD;have T:=d.out 2 oD;have U:=d.out 3 oD;by_cases a:l.findIdx (pg s p)<l.length
 ·have N:=H.out oA;subst N;have h:=hid (show ixV (pg s p) l=(l.findIdx (pg s p):Int) by unfold ixV;rw[af a]);have c:=hid (qG a rfl);obtain⟨c0,c1,c2,C⟩:=(J.below g) _ a;rw[h.out];generalize l[l.findIdx (pg s p)]=e at c c0 c1 c2 C;generalize l.findIdx (pg s p)=k at*;have P:(k:Int)<(l.length:Int):=oA;have Q:¬((k:Int)<0):=oA;obtain⟨x,y,z,u⟩:=e;simp only at c0 c1 c2 C;go_wp2_with fail
  have m:=gE (v0:=.int .i64 x) (v1:=.int .i64 y) (v2:=.int .i64 z) (v3:=.bool u) B;refine aq (v:=iA ((x,y,z,u),true)) (by simp[iA,results,Tryz.results52,go_sem,m]) rfl ⟨by rw[c.out],?_⟩;exact gz (gz (gz (gz g (ar _) _) (ar _) _) (ar _) _) (ar _) _
 ·have h:=hid (show ixV (pg s p) l= -1 by unfold ixV;rw[ae a]);have c:=hid (pM a);rw[h.out];go_wp2_with fail
  have m:=gE (v0:=.int .i64 0) (v1:=.int .i64 0) (v2:=.int .i64 0) (v3:=.bool false) B;refine aq (v:=iA ((0,0,0,false),false)) (by simp[iA,results,Tryz.results52,go_sem,m]) rfl ⟨by rw[c.out],?_⟩;exact gz (gz (gz (gz g (ar _) _) (ar _) _) (ar _) _) (ar _) _
theorem jX:(Tryz.prog.info? 56).map (fun i=>(i.zero,i.size,i.bytes))=some (some (.agg #[.int .i64 0,.int .i64 0,.int .i64 0,.bool false]),4,32):=oK
def dE (l:List Ent):List Value:=l.flatMap fun q=>[.int .i64 q.1,.int .i64 q.2.1,.int .i64 q.2.2.1,.bool q.2.2.2]
theorem fU (q:Ent) (l:List Ent):dE (q::l)=.int .i64 q.1::.int .i64 q.2.1::.int .i64 q.2.2.1::.bool q.2.2.2::dE l:=rfl
theorem jQ (l:List Ent):(dE l).length=l.length*4:=by
 induction l with
 |nil=>rfl
 |cons q l ih=>
  rw[fU];simp only[dO,ih];omega
theorem fL (l:List Ent) (j:Nat) (h:j<l.length):(dE l)[j*4]? =some (.int .i64 l[j].1)∧(dE l)[j*4+1]? =some (.int .i64 l[j].2.1)∧(dE l)[j*4+2]? =some (.int .i64 l[j].2.2.1)∧(dE l)[j*4+3]? =some (.bool l[j].2.2.2):=by
 induction l generalizing j with
 |nil=>simp at h
 |cons q l ih=>
  rw[fU]
  cases j with
  |zero=>exact⟨rfl,rfl,rfl,rfl⟩
  |succ j=>
   have:=ih j (by simpa using h);have e2:(j+1)*4=j*4+4:=oA;rw[e2];exact this
theorem eJ (a b c:Int) (d:Bool):∀x∈[Value.int .i64 a,.int .i64 b,.int .i64 c,.bool d],x.oneCell'=true:=by
 intro x e;simp at e;rcases e with rfl|rfl|rfl|rfl<;>rfl
end Mmu
namespace Mem
open Go.RowKit
theorem gK (w:World) (cs:List Value) (t:TypeId) (n:Nat) (a:n=w.heap.size):(w.alloc (.cells cs.toArray t)).rangeAt n 0 cs:=fun j v b=>by
 rw[dH _ _ _ _ a];simpa using b
theorem lO (w:World) (a:Array Value) (t:TypeId) (n k:Nat) (b:n=w.heap.size) (hk:k<=a.size):(w.alloc (.cells a t)).there n 0 k:=fun j c=>by
 constructor
 ·rw[dH _ _ _ _ b];simp;omega
 ·subst b;simp
theorem _root_.Go.Proofs.YtaejnmmpddbbjaaGreatDoor.aY:type_of% @lO:= @lO
theorem lB {w w':World} {b:Nat} {cs:List Value} (h:w.rangeAt b 0 cs) (a:Below w.heap.size w w'):w'.rangeAt b 0 cs:=fun j v c=>by
 have:=h j v c;exact (a.cell (aj _ _ this)).trans this
theorem _root_.Go.Proofs.YtaejnmmpddbbjaaGreatDoor.dV:type_of% @lB:= @lB
theorem rH {T:Nat->Prop} {w w':World} {b:Nat} {cs:List Value} (h:w.rangeAt b 0 cs) (a:Kp T w w') (c:¬T b):w'.rangeAt b 0 cs:=fun j v d=>by
 have:=h j v d;exact (a.cell (aj _ _ this) c).trans this
theorem _root_.Go.Proofs.YtaejnmmpddbbjaaGreatDoor.dY:type_of% @rH:= @rH
theorem rU {T:Nat->Prop} {w w':World} {b n:Nat} (h:w.there b 0 n) (c:Kp T w w') (d:¬T b):w'.there b 0 n:=fun j f=>by
 obtain⟨a,e⟩:=h j f;obtain⟨u,g⟩:=Option.isSome_iff_exists.1 a;have hl:=aj _ _ g;exact⟨by rw[c.cell hl d];exact a,by rw[c.frozen hl d];exact e⟩
theorem _root_.Go.Proofs.YtaejnmmpddbbjaaGreatDoor.dJ:type_of% @rU:= @rU
theorem lC {w:World} {b k:Nat} {cs:List Value} (h:w.rangeAt b 0 cs) (hk:k<cs.length) (v:Value):(w.setCell ⟨b,k,none⟩ v).rangeAt b 0 (cs.set k v):=fun j u a=>by
 rw[az];by_cases e:k=j
 ·subst e;have:=h k _ (ac hk);rw[az] at this;rw[cR w _ _ this];rw[cJ hk] at a;exact a
 ·rw[aJ w _ _ _ (by intro h;cases h;omega)];rw[cF e] at a;have:=h j u a;rw[az] at this;exact this
theorem oT {w:World} {b B k:Nat} {cs:List Value} (h:w.rangeAt b 0 cs) (c:B≠b) (v:Value):(w.setCell ⟨B,k,none⟩ v).rangeAt b 0 cs:=fun j u a=>by
 rw[aJ w _ _ _ (by intro h;cases h;omega)];exact h j u a
theorem gO {w:World} {b n:Nat} (h:w.there b 0 n) (a:Addr) (v:Value):(w.setCell a v).there b 0 n:=fun j g=>by
 obtain⟨d,f⟩:=h j g;obtain⟨u,c⟩:=Option.isSome_iff_exists.1 d;refine⟨?_,by rw[World.frozen?_setCell];exact f⟩;by_cases e:a=⟨b,0+j,none⟩
 ·subst e;rw[cR _ _ _ c];rfl
 ·rw[aJ _ _ _ _ e,c];rfl
theorem iU {w:World} {b k:Nat} {cs:List Value} {v:Value} (h:w.rangeAt b 0 cs) (hk:cs[k]? =some v):w.cell? ⟨b,k,none⟩=some v:=by
 have:=h k v hk
 rwa [az] at this
theorem _root_.Go.Proofs.YtaejnmmpddbbjaaGreatDoor.ah:type_of% @iU:= @iU
theorem Kp.setCells {T:Nat->Prop} {w:World} {b:Nat} (a:T b∨w.heap.size<=b):∀(c:List Value) (o:Nat) (w':World),Kp T w w'->Kp T w (w'.setCells b o c)
 |[],_,_,h=>h
 |v::r,o,w',h=>by
  rw[World.setCells];exact Kp.setCells a r (o+1) _ (h.setCell a v)
theorem _root_.Go.Proofs.YtaejnmmpddbbjaaGreatDoor.aI:type_of% @Kp.setCells:= @Kp.setCells
theorem ft (b:Nat):∀(a:List Value) (o:Nat) (w:World),(w.setCells b o a).heap.size=w.heap.size
 |[],_,_=>rfl
 |v::r,o,w=>by
  rw[World.setCells,ft b r (o+1) _];simp[World.setCell]
theorem gD {w:World} {b C o:Nat} (e:C≠b) (c:List Value) (a:Nat):(w.setCells b a c).cell? ⟨C,o,none⟩=w.cell? ⟨C,o,none⟩:=by
 rw[World.cell?_setCells_out b c a w ⟨C,o,none⟩ (fun d _=>absurd d e)]
theorem i7:(Tryz.prog.info? 45).map (·.size)=some 20:=oK
theorem gR {ops:Array Oper} {rest:List Oper} {op:Oper} {a:Act} {w:World} {Q:Exit->Act->World->Prop} (d:op.guard=none) (x:Operand) (e:op.op=.load 45 x)
  (b:Nat) (f:a.eval x=.pointer (some ⟨b,0,none⟩)) (cs:List Value) (hl:cs.length=20) (c:w.rangeAt b 0 cs)
  (h:wpList Tryz.prog ops Q rest (a.put op.dst (.agg cs.toArray)) w):wpList Tryz.prog ops Q (op::rest) a w:=
 wpList_load_mid d 45 x e b 0 f cs _ c Tryz.underlying45 rfl (by rw[i7,hl]) h
theorem gQ {ops:Array Oper} {rest:List Oper} {op:Oper} {a:Act} {w:World} {Q:Exit->Act->World->Prop} (d:op.guard=none) (x y:Operand) (e:op.op=.store 45 x y)
  (b:Nat) (g:a.eval x=.pointer (some ⟨b,0,none⟩)) (cs:List Value) (i:a.eval y=.agg cs.toArray) (hl:cs.length=20) (c:∀v∈cs,v.oneCell'=true) (f:w.there b 0 20)
  (h:wpList Tryz.prog ops Q rest (a.put op.dst undef) (w.setCells b 0 cs)):wpList Tryz.prog ops Q (op::rest) a w:=
 wpList_store_mid d 45 x y e b 0 cs.toArray g i (by simpa [hl] using f) (by rw[i7];simp[hl]) (all_oneCell_toArray c) (by simpa using h)
theorem fi (w:World) (b:Nat) (cs:List Value) (a:w.rangeAt b 0 cs) (hl:cs.length=20):(loadVar 45 ⟨b,0,none⟩).run Tryz.prog w=.ok (.agg cs.toArray) w:=
 run_loadVar_mid w b 0 45 cs _ a Tryz.underlying45 rfl (by rw[i7,hl])
theorem mL {c:Func} {p u v:Tmp} {g:TypeId} (h:c.results=#[.cell p g,.tmp u,.tmp v]) {a:Array Value} {P:Program} {w:World} {b:Nat} {x y z:Value} (i:a.getD p undef=.pointer (some ⟨b,0,none⟩)) (hl:(loadVar g ⟨b,0,none⟩).run P w=.ok x w) (j:a.getD u undef=y) (k:a.getD v undef=z):
  (results c a).run P w=.ok (.tuple #[x,y,z]) w:=by
 simp only[results,h];simp[Sem.run_bind,Result.andThen,asAddr];have d:=i;have e:=j;have f:=k;simp at d e f;rw[d,e,f];simp[hl]
theorem _root_.Go.Proofs.YtaejnmmpddbbjaaGreatDoor.cQ:type_of% @mL:= @mL
theorem hU {a:Func} {p:Tmp} {e:TypeId} (h:a.results=#[.cell p e]) {d:Array Value} {P:Program} {w:World} {b:Nat} {x:Value} (f:d.getD p undef=.pointer (some ⟨b,0,none⟩)) (hl:(loadVar e ⟨b,0,none⟩).run P w=.ok x w):
  (results a d).run P w=.ok x w:=by
 simp only[results,h];simp[Sem.run_bind,Result.andThen,asAddr];have c:=f;simp at c;rw[c];simp[hl]
end Mem
namespace Wd
open Go.RowKit Mem Bw Nums Mmu
def cf (n:Nat) (f:Nat->Int):List Value:=(List.range n).map fun k=>.int .i64 (f k)
theorem g5 (n:Nat) (f:Nat->Int):(cf n f).length=n:=by simp[cf]
theorem _root_.Go.Proofs.YtaejnmmpddbbjaaGreatDoor.aA:type_of% @g5:= @g5
theorem dp (n:Nat) (f:Nat->Int) (k:Nat) (h:k<n):(cf n f)[k]? =some (.int .i64 (f k)):=by simp[cf,h]
theorem qz (n:Nat) (f:Nat->Int):∀v∈cf n f,v.oneCell'=true:=by
 intro v a;obtain⟨k,_,rfl⟩:=List.mem_map.1 a;rfl
theorem _root_.Go.Proofs.YtaejnmmpddbbjaaGreatDoor.bR:type_of% @qz:= @qz
theorem fJ {w w':World} {b o:Nat} {cs:List Value} (h:w.rangeAt b o cs) (a:Below w.heap.size w w'):w'.rangeAt b o cs:=fun j v c=>by
 have:=h j v c;exact (a.cell (aj _ _ this)).trans this
def ey (w:World) (v:Value) (zs:List Int):Prop:=∃q b off cap,v=.slice q zs.length cap∧(0<zs.length->q=some ⟨b,off,none⟩)∧fu w b off zs
theorem ey.below {w w':World} {v:Value} {zs:List Int} (h:ey w v zs) (e:Below w.heap.size w w'):ey w' v zs:=by
 obtain⟨q,b,off,cap,a,c,d⟩:=h;exact⟨q,b,off,cap,a,c,d.below e⟩
def gX (w:World) (v:Value) (ls:List (List Int)):Prop:=∃q b off cap,v=.slice q ls.length cap∧(0<ls.length->q=some ⟨b,off,none⟩)∧∀j (h:j<ls.length),∃x,w.cell? ⟨b,off+j,none⟩=some x∧ey w x ls[j]
theorem gX.below {w w':World} {v:Value} {ls:List (List Int)} (h:gX w v ls) (a:Below w.heap.size w w'):gX w' v ls:=by
 obtain⟨q,b,off,cap,d,e,f⟩:=h;refine⟨q,b,off,cap,d,e,fun j g=>?_⟩;obtain⟨x,c,hi⟩:=f j g;exact⟨x,(a.cell (aj _ _ c)).trans c,hi.below a⟩
def yl:Value->Prop
 | .slice _ n cap=>n<=cap
 |_=>True
def jm (w:World) (v:Value) (ls:List (List Ent)):Prop:=∃q b off cap,v=.slice q ls.length cap∧(0<ls.length->q=some ⟨b,off,none⟩)∧∀j (h:j<ls.length),∃x,w.cell? ⟨b,off+j,none⟩=some x∧gB w x ls[j]∧yl x
theorem jm.below {w w':World} {v:Value} {ls:List (List Ent)} (h:jm w v ls) (a:Below w.heap.size w w'):jm w' v ls:=by
 obtain⟨q,b,off,cap,d,e,f⟩:=h;refine⟨q,b,off,cap,d,e,fun j g=>?_⟩;obtain⟨x,c,hi⟩:=f j g;exact⟨x,(a.cell (aj _ _ c)).trans c,hi.1.below a,hi.2⟩
def RowsIn (n:Nat) (w:World) (v:Value) (fs:List (Nat->Int)):Prop:=∃q b off cap,v=.slice q fs.length cap∧(0<fs.length->q=some ⟨b,off,none⟩)∧∀j (h:j<fs.length),w.rangeAt b (off+j*n) (cf n fs[j])
theorem RowsIn.below {n:Nat} {w w':World} {v:Value} {fs:List (Nat->Int)} (h:RowsIn n w v fs) (e:Below w.heap.size w w'):RowsIn n w' v fs:=by
 obtain⟨q,b,off,cap,a,c,d⟩:=h;exact⟨q,b,off,cap,a,c,fun j f=>fJ (d j f) e⟩
structure PW where
 Eb:List Int
 kinds:List Int
 DZ:List (Nat->Int)
 DY:List (Nat->Int)
 lines:List (List Int)
 bits:List Int
 D6:List Int
 ready:List (List Int)
 D9:List (List Ent)
 Ee:List Int
 time:Int
structure PW.Fits (p:PW):Prop where
 Eb:p.Eb.length<=1000
 kinds:p.kinds.length<=1000
 DZ:p.DZ.length<=1000
 DY:p.DY.length<=1000
 lines:p.lines.length<=1000
 line:∀l∈p.lines,l.length<=1000
 bits:p.bits.length<=1000
 D6:p.D6.length<=1000
 ready:p.ready.length<=1000
 next:∀l∈p.ready,l.length<=1000
 D9:p.D9.length<=1000
 Ee:p.Ee.length<=1000
structure jn (w:World) (v:Nat->Value) (p:PW):Prop where
 Eb:ey w (v 0) p.Eb
 kinds:ey w (v 1) p.kinds
 DZ:RowsIn 7 w (v 2) p.DZ
 DY:RowsIn 20 w (v 3) p.DY
 lines:gX w (v 4) p.lines
 bits:ey w (v 5) p.bits
 D6:ey w (v 6) p.D6
 ready:gX w (v 7) p.ready
 D9:jm w (v 8) p.D9
 Ee:ey w (v 9) p.Ee
 time:v 10=.int .i64 p.time
theorem jn.below {w w':World} {v:Nat->Value} {p:PW} (h:jn w v p) (a:Below w.heap.size w w'):jn w' v p:=
 ⟨h.Eb.below a,h.kinds.below a,h.DZ.below a,h.DY.below a,h.lines.below a,h.bits.below a,h.D6.below a,h.ready.below a,h.D9.below a,h.Ee.below a,h.time⟩
end Wd
namespace Mem
open Go.RowKit
end Mem
namespace Wd
open Go.RowKit Mem Bw Nums Mmu
abbrev dk (v:Nat->Value):Array Value:=#[v 0,v 1,v 2,v 3,v 4,v 5,v 6,v 7,v 8,v 9,v 10]
theorem r11 {w:World} {b:Nat} {V:Nat->Value} (k:Nat) (h:w.rangeAt b 0 (dk V).toList) (hk:(dk V).toList[k]? =some (V k):=by rfl):w.cell? ⟨b,k,none⟩=some (V k):=ah h hk
end Wd
open Go.ChangeShapes Go.WideShapes
theorem vD {P:Program} {w:World} {r:Reach} {base:Nat} {u:TypeId} {k:IntKind} {v:Value} (a:P.underlying u=some (.int k)) (h:Cell.okWide P w r base u v):
  ∃n,v=.int k n∧k.has n:=by
 simp only[Cell.okWide,a] at h
 cases v<;>simp_all [Cell.ok]
theorem ql {P:Program} {w:World} {r:Reach} {base:Nat} {u:TypeId} {k:IntKind} {v:Value} (a:P.underlying u=some (.int k)) (h:Value.okWide P w r base u v):
  ∃n,v=.int k n∧k.has n:=by
 simp only[Value.okWide,a] at h;exact vD a h
theorem jW {n:Int} (h:IntKind.i64.has n): -9223372036854775808<=n∧n<=9223372036854775807:=by
 obtain⟨a,b⟩:=h;simp[IntKind.min,IntKind.max,IntKind.signed,IntKind.bits] at a b;omega
open Go.ChangeShapes Go.WideShapes Go.RowKit Go.Deep
namespace Nums
open Mem
theorem ma (b o k:Nat):(⟨b,o,none⟩:Addr).add k=⟨b,o+k,none⟩:=by unfold Addr.add;split<;>simp_all
theorem AD:Tryz.prog.cellsOf 3=1:=oK
end Nums
namespace Mmu
open Go.ChangeShapes Go.WideShapes Go.RowKit Go.Deep Go.Joins Mem Nums
section
variable {H : Type} {enc : TypeId × Value -> H} {P : Program} {w : World} {base : Nat} {spare : Nat -> Bool} {held : Bool}
end
theorem xo {P:Program} {w:World} {r:Reach} {base:Nat} {u:TypeId} {v:Value} (a:P.underlying u=some .bool) (h:Value.okWide P w r base u v):∃b,v=.bool b:=by
 simp only[Value.okWide,a,Cell.okWide] at h
 cases v<;>simp_all [Cell.ok]
end Mmu
namespace Wd
open Go.ChangeShapes Go.WideShapes Go.RowKit Go.Deep Go.Joins Mem Nums Mmu
section
variable {H : Type} {enc : TypeId × Value -> H} {w : World} {base : Nat} {spare : Nat -> Bool} {held : Bool} {fuel : Nat} {cs : List Value} {x : DataW H × List MemPlace}
end
section
variable {H : Type} {enc : TypeId × Value -> H} {w : World} {base : Nat} {spare : Nat -> Bool} {held : Bool} {fuel : Nat} {cs : List Value} {x : DataW H × List MemPlace}
end
end Wd
namespace Wd
open Go.RowKit Mem Bw Nums Mmu
theorem gY {w w':World} (h:Below w.heap.size w w') {b:Nat} (a:w.heap.size<=b):∀(c:List Value) (o:Nat),Below w.heap.size w (w'.setCells b o c)
 |[],_=>h
 |v::r,o=>by
  rw[World.setCells];exact gY (gz h a v) a r (o+1)
theorem _root_.Go.Proofs.YtaejnmmpddbbjaaGreatDoor.dT:type_of% @gY:= @gY
theorem gV {T E:TypeId} {z:Value} {sz bytes:Nat} (d:Tryz.prog.underlying T=some (.slice E)) (f:(Tryz.prog.info? E).map (fun i=>(i.zero,i.size,i.bytes))=some (some z,sz,bytes)) (g:sz<=100) (e:bytes<=1000) (n:Nat) (b:n<=1000) (w:World):
  (Instr.makeSlice T (.int .i64 n) (.int .i64 n)).run Tryz.prog w=.ok (.slice (some ⟨w.heap.size,0,none⟩) n n) (w.alloc (.cells (madeCells z.cells (n*sz)) E)):=by
 obtain⟨i0,hi,h,c,j⟩:=eH f;have k:n*i0.size<=1000*100:=by rw[c];exact Nat.mul_le_mul b g
 have l:i0.bytes*n<=1000*1000:=by rw[j];exact Nat.mul_le_mul e b
 have a:=run_makeSlice (P:=Tryz.prog) w T E i0 z d hi h .i64 .i64 n n oA (Int.le_refl _) (by simp only[ag];omega) (by
  have:((i0.bytes*n:Nat):Int)<=281474976710656:=oA
  rwa [Int.natCast_mul] at this) oA
 simp only[ag] at a;rw[c] at a;exact a
end Wd
namespace Mmu
open Go.RowKit Mem Bw Nums
theorem qt (b off j:Nat):(⟨b,off,none⟩:Addr).add j=⟨b,off+j,none⟩:=by
 unfold Addr.add;split<;>simp_all
theorem mj {w:World} {b off:Nat} {l:List Ent} (h:iy w b off l):∀(j:Nat) (u:Value),(dE l)[j]? =some u->w.cell? ((⟨b,off,none⟩:Addr).add j)=some u:=by
 intro j u a;have i:=(List.getElem?_eq_some_iff.1 a).1;rw[jQ] at i;rw[qt];have hk:j/4<l.length:=oA;obtain⟨a0,a1,d,e⟩:=h _ hk;obtain⟨f,e1,e2,g⟩:=fL l _ hk;have c:j=j/4*4∨j=j/4*4+1∨j=j/4*4+2∨j=j/4*4+3:=oA;rcases c with c|c|c|c
 ·rw[c] at a ⊢;rw[<-a,f];exact a0
 ·rw[c] at a ⊢;rw[<-a,e1, <-a1];rfl
 ·rw[c] at a ⊢;rw[<-a,e2, <-d];rfl
 ·rw[c] at a ⊢;rw[<-a,g, <-e];rfl
theorem mc (l:List Ent):∀u∈dE l,u.oneCell'=true:=by
 intro u b;obtain⟨q,_,a⟩:=List.mem_flatMap.1 b;exact eJ _ _ _ _ u a
theorem kS (v:Value) (l:List Ent) (w:World) (F:gB w v l):
  Calls Tryz.prog 53 #[v] w fun r w'=>∃u,r=.returned u∧w'.ownsRow w.heap.size 56 4 u l.length (dE l)∧Below w.heap.size w w':=by
 obtain⟨i0,hi,H,I,J⟩:=eH jX;have L:∀(w:World) (a:Option Addr) (n c g f:Nat),(binOp .eql 31 (.slice a n c) (.slice none g f)).run Tryz.prog w=.ok (.bool a.isNone) w:=fun w a n c g f=>Lib.run_eql_slice_nil w _ _ a n c g f Tryz.underlying31;obtain⟨q,b,off,cap,rfl,E,G,hl⟩:=F;have i:=hid E;have B:=hid G
 cases q with
 |none=>
  have d:l=[]:=by
   cases l with
   |nil=>rfl
   |cons x l=>have:=i.out oS;cases this
  subst d;go_enter Tryz.func53,Tryz.ntmps53
  go_wp2_with fail
  go_ret
  exact⟨_,rfl,cO _ _ _ _,ai _ _⟩
 |some ad=>
  have A:=hid (show ∀(W:World),Below w.heap.size w W->∀(j:Nat) (u:Value),(dE l)[j]? =some u->W.cell? (ad.add j)=some u from fun W D=>by
   by_cases d:0<l.length
   ·have:=i.out d
    cases this
    exact mj (B.below D)
   ·intro j u p;have:l=[]:=by
     cases l with
     |nil=>rfl
     |cons x l=>simp at d
    rw[this] at p;simp[dE] at p)
  have z:=hid (jQ l);have y:=hid (mc l);have K:l.length<=maxLen:=by unfold maxLen;omega
  have h:=hid (bal (ai w.heap.size w) (.cells #[] 56));have m:=hid (dF (base:=w.heap.size) (e:=56) (size:=4) w #[] 0 (ar _) (bF _) oS);generalize dE l=cs at*;go_enter Tryz.func53,Tryz.ntmps53
  go_wp2_with (at_builtin;refine aW _ rfl _ _ 31 rfl w.heap.size 56 i0 (.agg #[.int .i64 0,.int .i64 0,.int .i64 0,.bool false]) 4 32 Tryz.underlying31 hi H I J rfl oD _ _ _ rfl m ad l.length cap cs rfl z (A.out _ h) y oA oA oS ?_;intro M N s o _;have t:=hid (h.grown o oS (fun k hk=>(m.lt k hk).1));have C:=hid s;clear s o)
  go_ret
  refine⟨_,rfl,?_,t.out⟩;have:=C.out;rw[az,List.nil_append] at this;exact this
end Mmu
namespace IP
def hA (o:Int):Bool:= !decide (o=0∨o=12∨o=14)
def hB (o:Int):Bool:= !decide (o=0∨o=1∨o=13∨o=12∨o=14)
def hC (o:Int):Bool:=decide (o=1∨o=13∨o=10∨o=11∨o=12∨o=14)
def qH (v:Int) (has:Bool) (lo hi:Int):Bool:=if has=true then decide (lo<=v∧v<=hi) else decide (v=0)
def may (o a b i:Int):Int:=
 if o<0∨14<o then 1
 else if qH a (hA o) 0 7=true∧qH b (hB o) 0 7=true∧qH i (hC o) (-32768) 32767=true then 0 else 2
def word (x y:Int):Prop:=0<=x∧x<=65535∧0<=y∧y<=65535
end IP
namespace Isa
open Go.RowKit Mem
theorem eI (v a:Int) (w:World):
  Calls Tryz.prog 33 #[.int .i64 v,.int .i64 a] w fun e w'=>e=.returned (.bool (decide (v<0∨a<v)))∧w=w':=by
 go_enter Tryz.func33,Tryz.ntmps33
 go_wp2
 all_goals
  go_ret
  exact⟨nE (by first|rfl|simp|(rw[dy];simp;omega)),rfl⟩
