/- Qbi -/
import Derived.Below
import Derived.ChangeOld
import Derived.Deep.DeepCutAuto
import Derived.Deep.MidRow
import Derived.Deep.RegionHeld3
import Derived.Deep.RegionLaw
import Derived.Laws.StructEq
import Derived.Lay
import Derived.Lib.SliceRun
import Derived.Maps.AppendAt
import Derived.OpenShut
import Derived.Test.YtaejnmmpddbbjaaGreatDoorQbh
set_option maxRecDepth 100000
set_option maxHeartbeats 16000000
namespace Go.Proofs.YtaejnmmpddbbjaaGreatDoor
namespace Mml
open Go.RowKit Mem Bw Nums Mmu
theorem zp {w:World} {B e g n cap:Nat} {xs:List Value} (h:w.ownsRow B e 4 (.slice (some ⟨g,0,none⟩) n cap) n xs) (i:Nat) (hi:i<=n):w.ownsRow B e 4 (.slice (some ⟨g,0,none⟩) i cap) i (xs.take (i*4)):=by
 have hl:=h.1;rcases h.2 with ⟨a,_⟩|⟨m,l,b,a,c,j,o,d,f,k⟩
 ·simp at a
 ·simp only[Value.slice.injEq,bo,Addr.mk.injEq,and_true,true_and] at a;obtain⟨rfl,rfl⟩:=a;refine⟨by rw[bI];omega,.inr ⟨g,cap,b,rfl,c,j,oA,d,f,?_⟩⟩;rw[<-k,List.take_take,Nat.min_eq_left oA]
theorem oP {B e g n cap:Nat} (i:Nat):∀(L:List Value) (o:Nat) (w:World) (xs:List Value),w.ownsRow B e 4 (.slice (some ⟨g,0,none⟩) n cap) n xs->i<=o->
  ∃ys,(w.setCells g o L).ownsRow B e 4 (.slice (some ⟨g,0,none⟩) n cap) n ys∧ys.take i=xs.take i∧w.grownBy (w.setCells g o L) (some g)
 |[],o,w,xs,h,_=>⟨xs,h,rfl,⟨rfl,rfl,rfl,ar _,fun _ _ _=>rfl⟩⟩
 |v::r,o,w,xs,h,ho=>by
  obtain⟨c,a⟩:=h.stored o v;obtain⟨ys,d,e2,b⟩:=oP i r (o+1) _ _ c oA;refine⟨ys,d,?_,a.trans b⟩;rw[e2,List.take_set_of_le oA]
theorem nX {w:World} {B g n cap:Nat} {xs:List Value} (h:w.ownsRow B 56 4 (.slice (some ⟨g,0,none⟩) n cap) n xs) (i:Nat) (hi:i<n) (s:TypeId) (c:Nat):
  ∃w',(Builtin.clear_ #[31] s #[.slice (some ⟨g,i*4,none⟩) (n - i) c]).run Tryz.prog w=.ok (.tuple #[]) w'∧w'.ownsRow B 56 4 (.slice (some ⟨g,0,none⟩) i cap) i (xs.take (i*4))∧w.grownBy w' (some g):=by
 obtain⟨m,q⟩:∃m,n - i=m+1:=⟨n - i - 1,oA⟩
 obtain⟨L,a⟩:∃L,(Builtin.zeroCells (Value.agg #[.int .i64 0,.int .i64 0,.int .i64 0,.bool false]).cells (n - i)).toList=L:=⟨_,rfl⟩
 have u:L.length=(n - i)*4:=by
  rw[<-a];simp[Builtin.zeroCells,Value.cells]
 have r:∀v∈L,v.oneCell'=true:=by
  intro v b;rw[<-a] at b;simp[Builtin.zeroCells,Value.cells] at b;obtain⟨k,_,rfl⟩:=b;have:k%4=0∨k%4=1∨k%4=2∨k%4=3:=oA;rcases this with e|e|e|e<;>simp[e,Value.oneCell']
 obtain⟨ys,l,e2,f⟩:=oP (i*4) L (i*4) w xs h (ar _);have o:∀j,j<L.length->(w.cell? ⟨g,i*4+0+j,none⟩).isSome=true:=fun j t=>by
  rw[h.cellAt _ oA];have:=h.1;rw[ac oA];rfl
 have p:∀j,j<L.length->w.frozen? ⟨g,i*4+0+j,none⟩=false:=fun j _=>h.frozenAt _;have d:=run_storeCells_cells (P:=Tryz.prog) g (i*4) L 0 w o p r;simp only[bG] at d;refine⟨w.setCells g (i*4) L,?_,?_,f⟩
 ·rw[q] at a ⊢;simp[Builtin.clear_,run_underlying Tryz.underlying31,a,d]
 ·have:=zp l i oA;rw[e2] at this;exact this
theorem pU (v:Value) (l:List Ent) (h:Nat) (s:Int) (w:World) (H:gB w v l) (x:w.cell? ⟨h,0,none⟩=some (.int .i64 s)):
  Calls Tryz.prog 91 #[v,.func (.func 171) #[] #[.pointer (some ⟨h,0,none⟩)]] w fun r w'=>r=.returned (.int .i64 (ixV (sp s) l))∧Below w.heap.size w w':=by
 obtain⟨q,b,off,cap,rfl,y,z,hl⟩:=H;have B:=hid y;have C:=hid z;have o:=hid x;clear y z x;have K:(l.length:Int)<=100:=oA;go_enter Tryz.func91,Tryz.ntmps91
 go_wp2_with fail
 go_loopw [8] (fun i wr=>∃k:Nat,k<=l.length∧i=.int .i64 k∧Hid ((∀j (c:j<l.length),j<k->sp s l[j]=false)∧Below w.heap.size w wr)) (fun i _=>l.length - (intOf i).toNat)
 case atStart=>exact⟨0,oA,rfl,fun j _ h=>oA,ai _ _⟩
 case round=>
  obtain⟨k,hk,rfl,a⟩:=hrel;by_cases m:k<l.length
  ·have f:(k:Int)<(l.length:Int):=oA;have F:=B.out oA;subst F;obtain⟨c0,c1,c2,D⟩:=(C.out.below a.out.2) k m;have t:=hid (fun W (d:Below w.heap.size w W)=>tZ l[k] h s W ((d.cell (aj _ _ o.out)).trans o.out));have p:=hid (show sp s l[k]=true->ixV (sp s) l=k from fun G=>by
    have:l.findIdx (sp s)=k:=(List.findIdx_eq m).2 ⟨G,fun j c=>a.out.1 j oA c⟩;unfold ixV;rw[this,af m])
   have u:=hid (show sp s l[k]=false->∀j (c:j<l.length),j<k+1->sp s l[j]=false from fun E j c J=>by
    by_cases e:j=k
    ·subst e;exact E
    ·exact a.out.1 j c oA)
   generalize l[k]=e at c0 c1 c2 D t p u;go_wp2_with fail
   refine (t.out _ a.out.2).mono ?_;rintro r w1 ⟨rfl,d⟩;have n:=hid (btr a.out.2 d);clear d
   cases hpe:sp s e with
   |true=>
    have g:=hid (p.out hpe);go_wp2_with fail
    go_ret
    exact⟨by rw[g.out];rfl,n.out⟩
   |false=>
    have A:=hid (u.out hpe);go_wp2_with fail
    exact⟨⟨k+1,oA,by go_num,A.out,n.out⟩,by simp[intOf];omega⟩
  ·obtain rfl:k=l.length:=oA;have I:¬((l.length:Int)<(l.length:Int)):=oA;have g:=hid (show ixV (sp s) l= -1 by
    unfold ixV;rw[ae];intro f;have:=dS (w:=f);rw[a.out.1 _ f f] at this
    cases this)
   go_wp2_with fail
   go_ret
   exact⟨by rw[g.out];rfl,a.out.2⟩
theorem me (m:List Ent) (i:Nat) (h:i<m.length) (x y z:Int) (u:Bool):((((dE m).set (i*4) (.int .i64 x)).set (i*4+1) (.int .i64 y)).set (i*4+2) (.int .i64 z)).set (i*4+3) (.bool u)=dE (m.set i (x,y,z,u)):=by
 induction m generalizing i with
 |nil=>simp at h
 |cons q m ih=>
  cases i with
  |zero=>rfl
  |succ i=>
   have e2:(i+1)*4=i*4+4:=oA;rw[List.set_cons_succ,fU,fU, <-ih i (by simpa using h),e2];rfl
def iG (p:Ent->Bool) (l:List Ent):List Ent:=l.filter fun e=> !p e
structure Mid (p:Ent->Bool) (l m:List Ent) (i j:Nat):Prop where
 lt:i<j
 le:j<=l.length
 len:m.length=l.length
 lo:m.take i=iG p (l.take j)
 hi:m.drop j=l.drop j
theorem Mid.start {p:Ent->Bool} {l:List Ent} (h:l.findIdx p<l.length):Mid p l l (l.findIdx p) (l.findIdx p+1):=by
 refine⟨oA,oA,rfl,?_,rfl⟩;unfold iG;rw[bu h,eg];have b:(l.take (l.findIdx p)).filter (fun e=> !p e)=l.take (l.findIdx p):=by
  rw[List.filter_eq_self];intro a d;obtain⟨k,hk,rfl⟩:=List.mem_iff_getElem.1 d;rw[List.getElem_take];rw[bI] at hk;have:=List.not_of_lt_findIdx (p:=p) (xs:=l) (i:=k) oA;simpa using this
 have c:=dS (w:=h);rw[b,List.filter_cons_of_neg (by simp[c])];simp
theorem Mid.at {p:Ent->Bool} {l m:List Ent} {i j:Nat} (h:Mid p l m i j) (a:j<l.length) (b:j<m.length):m[j]=l[j]:=by
 have:=cX (fun x=>x[0]?) h.hi;simp only[cW,bG] at this;rw[ac b,ac a] at this;exact aH this
theorem Mid.skip {p:Ent->Bool} {l m:List Ent} {i j:Nat} (h:Mid p l m i j) (a:j<l.length) (b:p l[j]=true):Mid p l m i (j+1):=by
 refine⟨by have:=h.lt;omega,oA,h.len,?_,?_⟩
 ·rw[h.lo];unfold iG;rw[bu a,eg,List.filter_cons_of_neg (by simp[b])];simp
 ·rw[<-List.drop_drop,h.hi,List.drop_drop]
theorem Mid.ES {p:Ent->Bool} {l m:List Ent} {i j:Nat} (h:Mid p l m i j) (a:j<l.length) (b:p l[j]=false):Mid p l (m.set i l[j]) (i+1) (j+1):=by
 have d:=h.lt;have c:=h.len;refine⟨oA,oA,by rw[au,h.len],?_,?_⟩
 ·rw[bu (by rw[au];omega),List.take_set_of_le (ar _),h.lo,dQ];unfold iG;rw[bu a,eg,List.filter_cons_of_pos (by simp[b])];simp
 ·rw[List.drop_set_of_lt oA, <-List.drop_drop,h.hi,List.drop_drop]
theorem Mid.done {p:Ent->Bool} {l m:List Ent} {i:Nat} (h:Mid p l m i l.length):iG p l=m.take i:=by
 rw[h.lo,cY]
theorem kR (m:List Ent) (i:Nat):(dE m).take (i*4)=dE (m.take i):=by
 induction m generalizing i with
 |nil=>simp[dE]
 |cons q m ih=>
  cases i with
  |zero=>simp[dE]
  |succ i=>
   have e2:(i+1)*4=i*4+4:=oA;rw[List.take_succ_cons,fU,fU, <-ih i,e2];rfl
theorem qN {p:Ent->Bool} {l:List Ent} (h:¬l.findIdx p<l.length):iG p l=l:=by
 unfold iG;rw[List.filter_eq_self];intro a b;obtain⟨k,hk,rfl⟩:=List.mem_iff_getElem.1 b;have:=List.not_of_lt_findIdx (p:=p) (xs:=l) (i:=k) oA;simpa using this
theorem pH (v:Value) (l:List Ent) (B h:Nat) (s p:Int) (w:World) (hB:B<=w.heap.size) (hh:h+1<B) (O:w.ownsRow B 56 4 v l.length (dE l)) (hl:l.length<=100) (J:yj w h s p):
  Calls Tryz.prog 148 #[v,.func (.func 145) #[] #[.pointer (some ⟨h,0,none⟩),.pointer (some ⟨h+1,0,none⟩)]] w fun r w'=>∃u,r=.returned u∧w'.ownsRow B 56 4 u (iG (pg s p) l).length (dE (iG (pg s p) l))∧Below B w w':=by
 have ax:(l.length:Int)<=100:=oA;have X:=hid (mq v l h s p w (rB O hl) J);have HP:=hid (fun (e:Ent) (W:World) (hb:Below B w W)=>xJ e h s p W ⟨(hb.cell (p:=⟨h,0,none⟩) (by simp;omega)).trans J.1,(hb.cell (p:=⟨h+1,0,none⟩) (by simp;omega)).trans J.2⟩);have c:=hid O;clear O J;go_enter Tryz.func148,Tryz.ntmps148
 go_wp2_with fail
 refine X.out.mono ?_;rintro r w1 ⟨rfl,P⟩;have N:=hid (ex c.out P);have Q:=hid (P.mono hB);clear P X c;by_cases E:l.findIdx (pg s p)<l.length
 ·have G:=hid (show ixV (pg s p) l=(l.findIdx (pg s p):Int) by unfold ixV;rw[af E]);have f:=hid (Mid.start E);rw[G.out];clear G;generalize l.findIdx (pg s p)=k at*;have av:¬((k:Int)= -1):=oA;have aw:((k:Int)== -1)=false:=oS;obtain⟨g,cap,rfl⟩:∃g cap,v=.slice (some ⟨g,0,none⟩) l.length cap:=by
   rcases N.out.2 with ⟨_,q⟩|⟨g,cap,ag,q,_⟩
   ·omega
   ·exact⟨g,cap,q⟩
  go_wp2_with fail
  go_loopw [5,6] (fun a b wr=>∃(i j:Nat) (m:List Ent),a=.int .i64 i∧b=.int .i64 j∧Hid (Mid (pg s p) l m i j)∧Hid (wr.ownsRow B 56 4 (.slice (some ⟨g,0,none⟩) l.length cap) l.length (dE m))∧Hid (Below B w wr)) (fun _ b _=>l.length - (intOf b).toNat)
  case atStart=>exact⟨k,k+1,l,rfl,by go_num,f,N,Q⟩
  case round=>
   obtain⟨i,j,m,rfl,rfl,f,c,F⟩:=hrel;have ad:=f.out.lt;have au:=f.out.le;have A:=hid f.out.len;have an:¬((i:Int)<0):=oA;have ar:¬((j:Int)<0):=oA;have ao:(i:Int)<(l.length:Int):=oA;by_cases D:j<l.length
   ·have aq:(j:Int)<(l.length:Int):=oA;have n:=hid (fL m j (by rw[A.out];exact D));have V:=hid (show pg s p l[j]=true->Mid (pg s p) l m i (j+1) from f.out.skip D);have U:=hid (show pg s p l[j]=false->Mid (pg s p) l (m.set i l[j]) (i+1) (j+1) from f.out.ES D);have S:=hid (f.out.at D (by rw[A.out];exact D));rw[S.out] at n;clear S;generalize l[j]=e at n V U;obtain⟨x,y,z,u⟩:=e;have c0:=(c.out.cellAt (j*4) oA).trans n.out.1;have c1:=(c.out.cellAt (j*4+1) oA).trans n.out.2.1;have c2:=(c.out.cellAt (j*4+2) oA).trans n.out.2.2.1;have c3:=(c.out.cellAt (j*4+3) oA).trans n.out.2.2.2;simp only at c0 c1 c2 c3;have I:B<=wr.heap.size:=aB hB F.out.size;obtain⟨W,t⟩:∃W,W=wr.alloc (.cells #[.int .i64 x,.int .i64 y,.int .i64 z,.bool u] 56):=⟨_,rfl⟩
    have L:=hid (show Below B w W by rw[t];exact F.out.alloc I _);have Z:=hid (show ∀o,W.cell? ⟨wr.heap.size,o,none⟩=(#[.int .i64 x,.int .i64 y,.int .i64 z,.bool u]:Array Value)[o]? by rw[t];exact cD wr _ _);have Y:=hid (show W.ownsRow B 56 4 (.slice (some ⟨g,0,none⟩) l.length cap) l.length (dE m) by rw[t];exact c.out.alloc _);have sW:W.heap.size=wr.heap.size+1:=by rw[t];simp
    go_wp2_with fail
    rw[<-t];clear t c0 c1 c2 c3 n;refine (HP.out (x,y,z,u) W L.out).mono ?_;rintro r w2 ⟨rfl,C⟩;have R:=hid (L.out.trans (C.mono oA));have d:=hid (ex Y.out C);have X2:=fp Z.out oA C;have ah:=C.size;clear C L Z Y
    cases hpe:pg s p (x,y,z,u) with
    |true=>
     have M:=hid (V.out hpe);go_wp2_with fail
     exact⟨⟨i,j+1,m,rfl,by go_num,M,d,R⟩,by simp[intOf];omega⟩
    |false=>
     have M:=hid (U.out hpe);have z0:=d.out.frozenAt (i*4);have z1:=d.out.frozenAt (i*4+1);have z2:=d.out.frozenAt (i*4+2);have z3:=d.out.frozenAt (i*4+3);have H:=hid (fL m i (by rw[A.out];omega));have d0:=(d.out.cellAt (i*4) oA).trans H.out.1;have d1:=(d.out.cellAt (i*4+1) oA).trans H.out.2.1;have d2:=(d.out.cellAt (i*4+2) oA).trans H.out.2.2.1;have d3:=(d.out.cellAt (i*4+3) oA).trans H.out.2.2.2;go_wp2_with fail
     have K:B<=g:=(d.out.lt g rfl).1;refine⟨⟨i+1,j+1,m.set i (x,y,z,u),by go_num,by go_num,M,hid ?_,hid ((((R.out.setCell K _).setCell K _).setCell K _).setCell K _)⟩,by simp[intOf];omega⟩;rw[<-me m i (by rw[A.out];omega)];exact ((((d.out.stored _ _).1.stored _ _).1.stored _ _).1.stored _ _).1
   ·obtain rfl:j=l.length:=oA;have am:¬((l.length:Int)<(l.length:Int)):=oA;have T:=hid f.out.done;have ai:l.length<=cap:=by
     rcases c.out.2 with ⟨q,_⟩|⟨_,_,_,q,_,_,h2,_⟩
     ·cases q
     ·cases q;exact h2
    have aj:(l.length:Int)<=(cap:Int):=oA;have al:(i:Int)<=(cap:Int):=oA;have ap:(i:Int)<=(l.length:Int):=oA;obtain⟨w3,ay,ab,aa⟩:=nX c.out i ad 0 (cap - i);have O3:=hid ab;have I:B<=wr.heap.size:=aB hB F.out.size;have B3:=hid (F.out.grown aa I (fun k hk=>(c.out.lt k hk).1));have ac:=hid (show (iG (pg s p) l).length=i by rw[T.out,bI,A.out];omega);clear ab aa I;go_wp2_with fail
    go_ret
    refine⟨_,rfl,?_,B3.out⟩;have:=O3.out;rw[kR, <-T.out] at this;rw[ac.out];exact this
 ·have G:=hid (show ixV (pg s p) l= -1 by unfold ixV;rw[ae E]);have HG:=hid (qN E);rw[G.out];clear E;go_wp2_with fail
  go_ret
  refine⟨_,rfl,?_,Q.out⟩;rw[HG.out];exact N.out
theorem oc (v:Value) (l:List Ent) (B h:Nat) (s:Int) (w:World) (hB:B<=w.heap.size) (hh:h<B) (N:w.ownsRow B 56 4 v l.length (dE l)) (hl:l.length<=100) (P:w.cell? ⟨h,0,none⟩=some (.int .i64 s)):
  Calls Tryz.prog 148 #[v,.func (.func 171) #[] #[.pointer (some ⟨h,0,none⟩)]] w fun r w'=>∃u,r=.returned u∧w'.ownsRow B 56 4 u (iG (sp s) l).length (dE (iG (sp s) l))∧Below B w w':=by
 have ax:(l.length:Int)<=100:=oA;have X:=hid (pU v l h s w (rB N hl) P);have HP:=hid (fun (e:Ent) (W:World) (hb:Below B w W)=>tZ e h s W ((hb.cell (p:=⟨h,0,none⟩) (by simp;omega)).trans P));have c:=hid N;clear N P;go_enter Tryz.func148,Tryz.ntmps148
 go_wp2_with fail
 refine X.out.mono ?_;rintro r w1 ⟨rfl,O⟩;have M:=hid (ex c.out O);have Q:=hid (O.mono hB);clear O X c;by_cases E:l.findIdx (sp s)<l.length
 ·have G:=hid (show ixV (sp s) l=(l.findIdx (sp s):Int) by unfold ixV;rw[af E]);have f:=hid (Mid.start E);rw[G.out];clear G;generalize l.findIdx (sp s)=k at*;have av:¬((k:Int)= -1):=oA;have aw:((k:Int)== -1)=false:=oS;obtain⟨g,cap,rfl⟩:∃g cap,v=.slice (some ⟨g,0,none⟩) l.length cap:=by
   rcases M.out.2 with ⟨_,q⟩|⟨g,cap,ag,q,_⟩
   ·omega
   ·exact⟨g,cap,q⟩
  go_wp2_with fail
  go_loopw [5,6] (fun a b wr=>∃(i j:Nat) (m:List Ent),a=.int .i64 i∧b=.int .i64 j∧Hid (Mid (sp s) l m i j)∧Hid (wr.ownsRow B 56 4 (.slice (some ⟨g,0,none⟩) l.length cap) l.length (dE m))∧Hid (Below B w wr)) (fun _ b _=>l.length - (intOf b).toNat)
  case atStart=>exact⟨k,k+1,l,rfl,by go_num,f,M,Q⟩
  case round=>
   obtain⟨i,j,m,rfl,rfl,f,c,F⟩:=hrel;have ad:=f.out.lt;have au:=f.out.le;have A:=hid f.out.len;have an:¬((i:Int)<0):=oA;have ar:¬((j:Int)<0):=oA;have ao:(i:Int)<(l.length:Int):=oA;by_cases D:j<l.length
   ·have aq:(j:Int)<(l.length:Int):=oA;have n:=hid (fL m j (by rw[A.out];exact D));have V:=hid (show sp s l[j]=true->Mid (sp s) l m i (j+1) from f.out.skip D);have U:=hid (show sp s l[j]=false->Mid (sp s) l (m.set i l[j]) (i+1) (j+1) from f.out.ES D);have S:=hid (f.out.at D (by rw[A.out];exact D));rw[S.out] at n;clear S;generalize l[j]=e at n V U;obtain⟨x,y,z,u⟩:=e;have c0:=(c.out.cellAt (j*4) oA).trans n.out.1;have c1:=(c.out.cellAt (j*4+1) oA).trans n.out.2.1;have c2:=(c.out.cellAt (j*4+2) oA).trans n.out.2.2.1;have c3:=(c.out.cellAt (j*4+3) oA).trans n.out.2.2.2;simp only at c0 c1 c2 c3;have I:B<=wr.heap.size:=aB hB F.out.size;obtain⟨W,t⟩:∃W,W=wr.alloc (.cells #[.int .i64 x,.int .i64 y,.int .i64 z,.bool u] 56):=⟨_,rfl⟩
    have K:=hid (show Below B w W by rw[t];exact F.out.alloc I _);have Z:=hid (show ∀o,W.cell? ⟨wr.heap.size,o,none⟩=(#[.int .i64 x,.int .i64 y,.int .i64 z,.bool u]:Array Value)[o]? by rw[t];exact cD wr _ _);have Y:=hid (show W.ownsRow B 56 4 (.slice (some ⟨g,0,none⟩) l.length cap) l.length (dE m) by rw[t];exact c.out.alloc _);have sW:W.heap.size=wr.heap.size+1:=by rw[t];simp
    go_wp2_with fail
    rw[<-t];clear t c0 c1 c2 c3 n;refine (HP.out (x,y,z,u) W K.out).mono ?_;rintro r w2 ⟨rfl,C⟩;have R:=hid (K.out.trans (C.mono oA));have d:=hid (ex Y.out C);have X2:=fp Z.out oA C;have ah:=C.size;clear C K Z Y
    cases hpe:sp s (x,y,z,u) with
    |true=>
     have L:=hid (V.out hpe);go_wp2_with fail
     exact⟨⟨i,j+1,m,rfl,by go_num,L,d,R⟩,by simp[intOf];omega⟩
    |false=>
     have L:=hid (U.out hpe);have z0:=d.out.frozenAt (i*4);have z1:=d.out.frozenAt (i*4+1);have z2:=d.out.frozenAt (i*4+2);have z3:=d.out.frozenAt (i*4+3);have H:=hid (fL m i (by rw[A.out];omega));have d0:=(d.out.cellAt (i*4) oA).trans H.out.1;have d1:=(d.out.cellAt (i*4+1) oA).trans H.out.2.1;have d2:=(d.out.cellAt (i*4+2) oA).trans H.out.2.2.1;have d3:=(d.out.cellAt (i*4+3) oA).trans H.out.2.2.2;go_wp2_with fail
     have J:B<=g:=(d.out.lt g rfl).1;refine⟨⟨i+1,j+1,m.set i (x,y,z,u),by go_num,by go_num,L,hid ?_,hid ((((R.out.setCell J _).setCell J _).setCell J _).setCell J _)⟩,by simp[intOf];omega⟩;rw[<-me m i (by rw[A.out];omega)];exact ((((d.out.stored _ _).1.stored _ _).1.stored _ _).1.stored _ _).1
   ·obtain rfl:j=l.length:=oA;have am:¬((l.length:Int)<(l.length:Int)):=oA;have T:=hid f.out.done;have ai:l.length<=cap:=by
     rcases c.out.2 with ⟨q,_⟩|⟨_,_,_,q,_,_,h2,_⟩
     ·cases q
     ·cases q;exact h2
    have aj:(l.length:Int)<=(cap:Int):=oA;have al:(i:Int)<=(cap:Int):=oA;have ap:(i:Int)<=(l.length:Int):=oA;obtain⟨w3,ay,ab,aa⟩:=nX c.out i ad 0 (cap - i);have O3:=hid ab;have I:B<=wr.heap.size:=aB hB F.out.size;have B3:=hid (F.out.grown aa I (fun k hk=>(c.out.lt k hk).1));have ac:=hid (show (iG (sp s) l).length=i by rw[T.out,bI,A.out];omega);clear ab aa I;go_wp2_with fail
    go_ret
    refine⟨_,rfl,?_,B3.out⟩;have:=O3.out;rw[kR, <-T.out] at this;rw[ac.out];exact this
 ·have G:=hid (show ixV (sp s) l= -1 by unfold ixV;rw[ae E]);have HG:=hid (qN E);rw[G.out];clear E;go_wp2_with fail
  go_ret
  refine⟨_,rfl,?_,Q.out⟩;rw[HG.out];exact M.out
theorem tN (l:List Ent) (s p:Int) (h:0<=p):iG (pg s p) l=fH l s p:=by
 unfold iG fH
 congr 1
 funext e
 simp only[pg,jH,h,decide_true,Bool.true_and,Bool.not_and,bne]
theorem su (l:List Ent) (s p:Int) (h:¬0<=p):iG (sp s) l=fH l s p:=by
 unfold iG fH
 congr 1
 funext e
 simp only[sp,jH,h,decide_false,Bool.false_and,Bool.or_false,bne]
theorem qB (v:Value) (l:List Ent) (s p:Int) (w:World) (o:gB w v l):
  Calls Tryz.prog 94 #[v,.int .i64 s,.int .i64 p] w fun r w'=>∃u,r=.returned u∧w'.ownsRow w.heap.size 56 4 u (fH l s p).length (dE (fH l s p))∧Below w.heap.size w w':=by
 have hl:l.length<=100:=by obtain⟨_,_,_,_,_,_,_,h⟩:=o;exact h
 have t:=hid o;clear o;go_enter Tryz.func94,Tryz.ntmps94
 go_wp2_with fail
 refine (mI s p _).mono ?_;rintro r w1 ⟨rfl,B,z⟩;have x:=hid B;have e:=hid z;clear B z;by_cases f:0<=p
 ·have E:¬(p<0):=oA;have m:=hid (tN l s p f);clear f;go_wp2_with fail
  refine (kS v l w1 (t.out.below e.out)).mono ?_;rintro r w2 ⟨u,rfl,b,a⟩;have g:w.heap.size+1<w1.heap.size:=aj w1 ⟨w.heap.size+1,0,none⟩ x.out.2;have D:=hid (pH u l w1.heap.size w.heap.size s p w2 a.size g b hl (x.out.below a));have j:=hid (btr e.out a);clear b a;go_wp2_with fail
  refine D.out.mono ?_;rintro r G ⟨F,rfl,c,d⟩;have k:=hid (j.out.trans (d.mono oA));have n:=hid c;clear c d D;go_wp2_with fail
  go_ret
  refine⟨_,rfl,?_,k.out⟩;rw[<-m.out];exact fP n.out oA
 ·have E:p<0:=oA;have m:=hid (su l s p f);clear f;go_wp2_with fail
  refine (p7 s _).mono ?_;rintro r i ⟨rfl,C,A⟩;have y:=hid C;have q:=hid (btr e.out A);clear C A;go_wp2_with fail
  refine (kS v l i (t.out.below q.out)).mono ?_;rintro r w2 ⟨u,rfl,b,a⟩;have H:w.heap.size<=w1.heap.size:=e.out.size;have g:w1.heap.size<i.heap.size:=aj i ⟨w1.heap.size,0,none⟩ y.out;have D:=hid (oc u l i.heap.size w1.heap.size s w2 a.size g b hl ((a.cell (p:=⟨w1.heap.size,0,none⟩) g).trans y.out));have j:=hid (btr q.out a);clear b a;go_wp2_with fail
  refine D.out.mono ?_;rintro r G ⟨F,rfl,c,d⟩;have k:=hid (j.out.trans (d.mono oA));have n:=hid c;clear c d D;go_wp2_with fail
  go_ret
  refine⟨_,rfl,?_,k.out⟩;rw[<-m.out];exact fP n.out oA
def fh (B:Nat) (w:World) (v:Value) (l:List Ent):Prop:=∃q b off cap,v=.slice q l.length cap∧(0<l.length->q=some ⟨b,off,none⟩)∧iy w b off l∧l.length<=100∧B<=b
theorem fh.Fx {B:Nat} {w:World} {v:Value} {l:List Ent} (h:fh B w v l):gB w v l:=by
 obtain⟨q,b,off,cap,a,c,d,e,_⟩:=h;exact⟨q,b,off,cap,a,c,d,e⟩
theorem fh.set {B C i:Nat} {w:World} {v x:Value} {l:List Ent} (h:fh B w v l) (hC:C<B):fh B (w.setCell ⟨C,i,none⟩ x) v l:=by
 obtain⟨q,b,off,cap,a,c,d,f,g⟩:=h;have k:∀o,(w.setCell ⟨C,i,none⟩ x).cell? ⟨b,o,none⟩=w.cell? ⟨b,o,none⟩:=fun o=>aJ w _ _ _ (by intro e;cases e;omega);refine⟨q,b,off,cap,a,c,fun j m=>?_,f,g⟩;simp only[k];exact d j m
theorem fh.FR {B C:Nat} {w:World} {v a b c d:Value} {l:List Ent} (h:fh B w v l) (hC:C<B):gB ((((w.setCell ⟨C,0,none⟩ a).setCell ⟨C,1,none⟩ b).setCell ⟨C,2,none⟩ c).setCell ⟨C,3,none⟩ d) v l:=((((h.set hC).set hC).set hC).set hC).Fx
theorem zt {w:World} {B:Nat} {v:Value} {l:List Ent} (h:w.ownsRow B 56 4 v l.length (dE l)) (hl:l.length<=100):fh B w v l:=by
 rcases h.2 with ⟨rfl,a⟩|⟨g,cap,f,rfl,a,_⟩
 ·rw[List.length_eq_zero_iff.1 a];exact⟨none,B,0,0,rfl,fun e=>by simp at e,fun j b=>by simp at b,oS,ar _⟩
 ·refine⟨some ⟨g,0,none⟩,g,0,cap,rfl,fun _=>rfl,fun j b=>?_,hl,a⟩;obtain⟨c,e1,e2,d⟩:=fL l j b;simp only[az];rw[h.cellAt (j*4) oA,h.cellAt (j*4+1) oA,h.cellAt (j*4+2) oA,h.cellAt (j*4+3) oA];exact⟨c,e1,e2,d⟩
theorem nL {w:World} {B g cap:Nat} {m:List Ent} (hB:B<=g) (h:iy w g ((m.length - 4)*4) (m.drop (m.length - 4))):fh B w (.slice (some ⟨g,(m.length - 4)*4,none⟩) (m.length - (m.length - 4)) cap) (iZ m):=by
 refine⟨some ⟨g,(m.length - 4)*4,none⟩,g,(m.length - 4)*4,cap,?_,fun _=>rfl,h,aB (jv m) oD,hB⟩;unfold iZ;rw[dD]
theorem vN (v:Value) (l:List Ent) (a:Int) (e1:Int) (e2:Int) (b:Bool) (w:World) (C:gB w v l):
  Calls Tryz.prog 55 #[v,.agg #[.int .i64 a,.int .i64 e1,.int .i64 e2,.bool b]] w fun r w'=>∃u,r=.returned u∧fh w.heap.size w' u (kZ l (a,e1,e2,b))∧Below w.heap.size w w':=by
 obtain⟨i0,hi,O,P,Q⟩:=eH jX;have hl:l.length<=100:=by obtain⟨_,_,_,_,_,_,_,h⟩:=C;exact h
 have H:=hid C;clear C;have i:=hid (bal (ai w.heap.size w) (.cells #[.int .i64 a,.int .i64 e1,.int .i64 e2,.bool b] 56));have j:=hid (cD w #[.int .i64 a,.int .i64 e1,.int .i64 e2,.bool b] 56);have L:=hid (show (w.alloc (.cells #[.int .i64 a,.int .i64 e1,.int .i64 e2,.bool b] 56)).heap.size=w.heap.size+1 by simp);obtain⟨e,B⟩:∃W,W=w.alloc (.cells #[.int .i64 a,.int .i64 e1,.int .i64 e2,.bool b] 56):=⟨_,rfl⟩
 rw[<-B] at i j L;have R:=hid B;have Y:=kJ l a e1;have I:(fH l a e1).length+1<=maxLen:=by unfold maxLen;omega
 have J:((fH l a e1).length+1)*32<=140737488355328:=oA;clear B;go_enter Tryz.func55,Tryz.ntmps55
 go_upto_region 1 with fail
 rw[<-R.out];go_cut [5] (fun x wx=>∃m:List Ent,Hid (m=fH l a e1++[(a,e1,e2,b)])∧Hid (wx.ownsRow e.heap.size 56 4 x m.length (dE m))∧Hid (Below e.heap.size e wx))
 case first=>
  have f:=hid (aC e 1);have n:=hid (show ∀W,Below e.heap.size e W->W.cell? ⟨w.heap.size,0,none⟩=some (.int .i64 a)∧W.cell? ⟨w.heap.size,1,none⟩=some (.int .i64 e1)∧W.cell? ⟨w.heap.size,2,none⟩=some (.int .i64 e2)∧W.cell? ⟨w.heap.size,3,none⟩=some (.bool b) from fun W c=>by
   have y:w.heap.size<e.heap.size:=by have:=L.out;omega
   exact⟨(c.cell y).trans (j.out 0),(c.cell y).trans (j.out 1),(c.cell y).trans (j.out 2),(c.cell y).trans (j.out 3)⟩)
  go_region_held3 (fun W=>W.cell? ⟨w.heap.size,0,none⟩=some (.int .i64 a)∧W.cell? ⟨w.heap.size,1,none⟩=some (.int .i64 e1)∧W.cell? ⟨w.heap.size,2,none⟩=some (.int .i64 e2)∧W.cell? ⟨w.heap.size,3,none⟩=some (.bool b))
   (first
    |exact n.out _ z.out
    |exact n.out _ (bal d.out _)
    |exact n.out _ d.out
    |exact n.out _ (bal f.out _)
    |exact n.out _ f.out)
   (first
    |(refine eQ rfl (.tmp 11) (.tmp 13) 31 rfl e.heap.size 56 i0 (.agg #[.int .i64 0,.int .i64 0,.int .i64 0,.bool false]) 4 32 Tryz.underlying31 hi O P Q rfl oD _ _ _ rfl o.out ⟨_,0,none⟩ 1 1 [.int .i64 a,.int .i64 e1,.int .i64 e2,.bool b] rfl rfl S.out (eJ _ _ _ _) I J d.out.size ?_;intro V X s q;have z:=hid (d.out.grown q d.out.size (fun k hk=>(o.out.lt k hk).1));have K:=hid s;clear s q)
    |(refine eQ rfl (.tmp 11) (.tmp 13) 31 rfl e.heap.size 56 i0 (.agg #[.int .i64 0,.int .i64 0,.int .i64 0,.bool false]) 4 32 Tryz.underlying31 hi O P Q rfl oD _ _ _ rfl (o.out.alloc _) ⟨_,0,none⟩ 1 1 [.int .i64 a,.int .i64 e1,.int .i64 e2,.bool b] rfl rfl (gj _ _ _ _ _ _) (eJ _ _ _ _) I J (bal d.out _).size ?_;intro V X s q;have z:=hid ((bal d.out _).grown q (bal d.out _).size (fun k hk=>(o.out.lt k hk).1));have K:=hid s;clear s q)
    |(go_at_call 94;refine (qB v l a e1 _ (H.out.below (btr i.out f.out))).mono ?_;rintro r w1 ⟨u,rfl,p,c⟩;have d:=hid (btr f.out c);have o:=hid (fP p f.out.size);clear p c)
    |(go_at_call 94;refine (qB v l a e1 _ (H.out.below (btr i.out (bal f.out _)))).mono ?_;rintro r w1 ⟨u,rfl,p,c⟩;have d:=hid (btr (bal f.out _) c);have o:=hid (fP p (bal f.out _).size);have S:=hid (j6 c);clear p c))
  all_goals (go_wp2_with fail;go_meet;exact⟨_,hid rfl,hid (by rw[fG,av];exact K.out),z⟩)
 case rest=>
  obtain⟨m,t,F,D⟩:=hcut;have T:0<m.length:=by rw[t.out,av];simp
  have ab:m.length<=101:=by rw[t.out,av];simp;omega
  obtain⟨g,cap,rfl,aa,N,M⟩:=rD F.out T;have G:=hid (show kZ l (a,e1,e2,b)=iZ m by rw[t.out];rfl);have A:=hid (nL (w:=wc) (cap:=cap - (m.length - 4)) (aB i.out.size N) (M (m.length - 4) oA));have E:=hid (btr i.out D.out);clear M t F D N;by_cases Z:m.length<=4
  ·have U:m.length - 4=0:=oA;have t1:(m.length:Int) - 4<=0:=oA;rw[U] at A;go_wp2_with fail
   go_ret
   refine⟨_,rfl,?_,E.out⟩;rw[G.out];exact A.out
  ·go_wp2_with fail
   go_ret
   refine⟨_,rfl,?_,E.out⟩;rw[G.out];exact A.out
def xz (e:Ent):Value:=.agg #[.int .i64 e.1,.int .i64 e.2.1,.int .i64 e.2.2.1,.bool e.2.2.2]
def r6 (w:World) (B:Nat) (a b c d:Value):Prop:=(∀o,w.cell? ⟨B,o,none⟩=(#[a,b,c,d]:Array Value)[o]?)∧∀k,k<4->w.frozen? ⟨B,k,none⟩=false
theorem r6.lt {w:World} {B:Nat} {a b c d:Value} (h:r6 w B a b c d):B<w.heap.size:=aj w ⟨B,0,none⟩ (h.1 0)
theorem r6.below {w w':World} {B:Nat} {a b c d:Value} (h:r6 w B a b c d) (e:Below w.heap.size w w'):r6 w' B a b c d:=
 ⟨fp h.1 h.lt e,fun k hk=>(e.frozen (p:=⟨B,k,none⟩) h.lt).trans (h.2 k hk)⟩
theorem qJ {W:World} {B C:Nat} {v0 v1 v2 v3 a b c d:Value} (f:B≠C) (h:W.cell? ⟨C,0,none⟩=some a∧W.cell? ⟨C,1,none⟩=some b∧W.cell? ⟨C,2,none⟩=some c∧W.cell? ⟨C,3,none⟩=some d):
  ((((W.setCell ⟨B,0,none⟩ v0).setCell ⟨B,1,none⟩ v1).setCell ⟨B,2,none⟩ v2).setCell ⟨B,3,none⟩ v3).cell? ⟨C,0,none⟩=some a∧((((W.setCell ⟨B,0,none⟩ v0).setCell ⟨B,1,none⟩ v1).setCell ⟨B,2,none⟩ v2).setCell ⟨B,3,none⟩ v3).cell? ⟨C,1,none⟩=some b∧((((W.setCell ⟨B,0,none⟩ v0).setCell ⟨B,1,none⟩ v1).setCell ⟨B,2,none⟩ v2).setCell ⟨B,3,none⟩ v3).cell? ⟨C,2,none⟩=some c∧((((W.setCell ⟨B,0,none⟩ v0).setCell ⟨B,1,none⟩ v1).setCell ⟨B,2,none⟩ v2).setCell ⟨B,3,none⟩ v3).cell? ⟨C,3,none⟩=some d:=by
 have k:∀(W:World) (i o:Nat) (x:Value),(W.setCell ⟨B,i,none⟩ x).cell? ⟨C,o,none⟩=W.cell? ⟨C,o,none⟩:=fun W i o x=>aJ W _ _ _ (by intro e;cases e;exact f rfl);simp only[k];exact h
theorem sB (X v:Value) (zs:List Int) (l:List Ent) (s a:Int) (w:World) (V:lY w X zs) (S:gB w v l) (a0:0<=a) (a1:a<4096):
  Calls Tryz.prog 22 #[X,v,.int .i64 s,.int .i64 a] w fun r w'=>∃u,r=.returned (.tuple #[xz (lF zs l s a).1,u,kX (lF zs l s a).2.2])∧gB w' u (lF zs l s a).2.1∧Below w.heap.size w w':=by
 have hl:l.length<=100:=by obtain⟨_,_,_,_,_,_,_,h⟩:=S;exact h
 have O:=hid S;have HR:=hid V;clear S V;have M:=hid (bal (ai w.heap.size w) (.cells #[.int .i64 0,.int .i64 0,.int .i64 0,.bool false] 56));have P:=hid (show r6 (w.alloc (.cells #[.int .i64 0,.int .i64 0,.int .i64 0,.bool false] 56)) w.heap.size _ _ _ _ from⟨cD w #[.int .i64 0,.int .i64 0,.int .i64 0,.bool false] 56,kg w⟩);go_enter Tryz.func22,Tryz.ntmps22
 go_wp2_with fail
 generalize World.alloc _ _=W at M P ⊢;refine (vQ _ l s (a/16) W (O.out.below M.out)).mono ?_;rintro r w1 ⟨rfl,Q⟩;have J:=hid (btr M.out Q);have F:=hid (P.out.below Q);clear Q P;obtain⟨f,C⟩:∃f,hD l s (a/16)=f:=⟨_,rfl⟩
 rw[C];obtain⟨⟨x,y,z,u⟩,ok⟩:=f;unfold iA
 cases ok with
 |true=>
  have A:=hid (jB (zs:=zs) C);clear C;have j:=hid (bal J.out (.cells #[.int .i64 x,.int .i64 y,.int .i64 z,.bool u] 56));have d:=hid (F.out.below (bal (ai w1.heap.size w1) (.cells #[.int .i64 x,.int .i64 y,.int .i64 z,.bool u] 56)));have D:=hid (cD w1 #[.int .i64 x,.int .i64 y,.int .i64 z,.bool u] 56);have s1:w.heap.size<w1.heap.size:=F.out.lt;clear F J;go_wp2_with fail
  generalize World.alloc _ _=c at j d D ⊢;have m:=hid (aC c 1);have N:Hid (Below c.heap.size c c.drew):=m;have B:=hid (show ∀W,Below c.heap.size c W->W.cell? ⟨w1.heap.size,0,none⟩=some (.int .i64 x)∧W.cell? ⟨w1.heap.size,1,none⟩=some (.int .i64 y)∧W.cell? ⟨w1.heap.size,2,none⟩=some (.int .i64 z)∧W.cell? ⟨w1.heap.size,3,none⟩=some (.bool u) from fun W e=>by
   have p:w1.heap.size<c.heap.size:=aj c ⟨w1.heap.size,0,none⟩ (D.out 0);exact⟨(e.cell p).trans (D.out 0),(e.cell p).trans (D.out 1),(e.cell p).trans (D.out 2),(e.cell p).trans (D.out 3)⟩)
  have R:w.heap.size≠w1.heap.size:=oA;have ac:w.heap.size<(c.drewN 1).heap.size:=aE d.out.lt m.out.size
  go_region_held3 (fun W=>W.cell? ⟨w1.heap.size,0,none⟩=some (.int .i64 x)∧W.cell? ⟨w1.heap.size,1,none⟩=some (.int .i64 y)∧W.cell? ⟨w1.heap.size,2,none⟩=some (.int .i64 z)∧W.cell? ⟨w1.heap.size,3,none⟩=some (.bool u))
   (first
    |(with_reducible exact B.out _ N.out)
    |(with_reducible exact B.out _ q.out)
    |(with_reducible exact qJ R (B.out _ q.out)))
   (first
    |(go_at_call 53;refine (kS v l _ (O.out.below (btr j.out m.out))).mono ?_;rintro r w3 ⟨I,rfl,T,e⟩;have q:=hid (btr m.out e);have aa:=hid (zt T hl);have i:=hid (d.out.below q.out);have Y:=i.out.1 0;have Z:=i.out.1 1;have x2:=i.out.1 2;have x3:=i.out.1 3;have z0:=i.out.2 0 oD;have z1:=i.out.2 1 oD;have z2:=i.out.2 2 oD;have z3:=i.out.2 3 oD;clear T e))
  go_wp2_with fail
  have G:=gE (v0:=.int .i64 x) (v1:=.int .i64 y) (v2:=.int .i64 z) (v3:=.bool u) i.out.1;refine aq (v:=.tuple #[xz (x,y,z,u),I,kX 0]) (by simp[xz,kX,results,Tryz.results22,go_sem,G]) rfl ⟨I,by rw[A.out],?_,?_⟩
  ·rw[A.out];exact aa.out.FR ac
  ·exact gz (gz (gz (gz (btr j.out q.out) (ar _) _) (ar _) _) (ar _) _) (ar _) _
 |false=>
  have j:=hid (bal J.out (.cells #[.int .i64 x,.int .i64 y,.int .i64 z,.bool u] 56));have d:=hid (F.out.below (bal (ai w1.heap.size w1) (.cells #[.int .i64 x,.int .i64 y,.int .i64 z,.bool u] 56)));clear F J;go_wp2_with fail
  generalize World.alloc _ _=c at j d ⊢;refine (xp _ zs s a c (HR.out.below j.out)).mono ?_;rintro r w2 ⟨rfl,rfl⟩;obtain⟨g,H⟩:∃g,ei zs s a=g:=⟨_,rfl⟩
  rw[H];obtain⟨t,b,k⟩:=g;by_cases hk:k=0
  ·subst hk;have A:=hid (j9 C H);clear C H;have L:=hid (show kX 0=.nilIface by unfold kX;rw[af rfl]);simp only;rw[L.out];have q:=hid (bal j.out (.cells #[.int .i64 s,.int .i64 (a/16),.int .i64 t,.bool b] 56));have i:=hid (d.out.below (bal (ai c.heap.size c) (.cells #[.int .i64 s,.int .i64 (a/16),.int .i64 t,.bool b] 56)));have E:=hid (cD c #[.int .i64 s,.int .i64 (a/16),.int .i64 t,.bool b] 56);have s1:w.heap.size<c.heap.size:=d.out.lt;clear d j;go_wp2_with fail
   generalize World.alloc _ _=n at q i E ⊢;have m:=hid (aC n 1);have N:Hid (Below n.heap.size n n.drew):=m;have B:=hid (show ∀W,Below n.heap.size n W->W.cell? ⟨c.heap.size,0,none⟩=some (.int .i64 s)∧W.cell? ⟨c.heap.size,1,none⟩=some (.int .i64 (a/16))∧W.cell? ⟨c.heap.size,2,none⟩=some (.int .i64 t)∧W.cell? ⟨c.heap.size,3,none⟩=some (.bool b) from fun W e=>by
    have p:c.heap.size<n.heap.size:=aj n ⟨c.heap.size,0,none⟩ (E.out 0);exact⟨(e.cell p).trans (E.out 0),(e.cell p).trans (E.out 1),(e.cell p).trans (E.out 2),(e.cell p).trans (E.out 3)⟩)
   have R:w.heap.size≠c.heap.size:=oA;have ad:w.heap.size<(n.drewN 1).heap.size:=aE i.out.lt m.out.size
   go_region_held3 (fun W=>W.cell? ⟨c.heap.size,0,none⟩=some (.int .i64 s)∧W.cell? ⟨c.heap.size,1,none⟩=some (.int .i64 (a/16))∧W.cell? ⟨c.heap.size,2,none⟩=some (.int .i64 t)∧W.cell? ⟨c.heap.size,3,none⟩=some (.bool b))
    (first
     |(with_reducible exact B.out _ N.out)
     |(with_reducible exact B.out _ K.out)
     |(with_reducible exact qJ R (B.out _ K.out)))
    (first
     |(go_at_call 55;refine (vN v l s (a/16) t b _ (O.out.below (btr q.out m.out))).mono ?_;rintro r w3 ⟨I,rfl,U,e⟩;have K:=hid (btr m.out e);have ab:=hid U;have o:=hid (i.out.below K.out);have Y:=o.out.1 0;have Z:=o.out.1 1;have x2:=o.out.1 2;have x3:=o.out.1 3;have z0:=o.out.2 0 oD;have z1:=o.out.2 1 oD;have z2:=o.out.2 2 oD;have z3:=o.out.2 3 oD;clear U e))
   go_wp2_with fail
   have G:=gE (v0:=.int .i64 s) (v1:=.int .i64 (a/16)) (v2:=.int .i64 t) (v3:=.bool b) o.out.1;refine aq (v:=.tuple #[xz (s,a/16,t,b),I,kX 0]) (by simp[xz,kX,results,Tryz.results22,go_sem,G]) rfl ⟨I,by rw[A.out],?_,?_⟩
   ·rw[A.out];exact ab.out.FR ad
   ·exact gz (gz (gz (gz (btr q.out K.out) (ar _) _) (ar _) _) (ar _) _) (ar _) _
  ·have A:=hid (oW C H hk);clear C H;have L:=hid (show kX k=.iface 36 (.int .i64 k) by unfold kX;rw[ae hk]);simp only;rw[L.out];have Y:=d.out.1 0;have Z:=d.out.1 1;have x2:=d.out.1 2;have x3:=d.out.1 3;have z0:=d.out.2 0 oD;have z1:=d.out.2 1 oD;have z2:=d.out.2 2 oD;have z3:=d.out.2 3 oD;clear hk;go_wp2_with fail
   have G:=gE (v0:=.int .i64 0) (v1:=.int .i64 0) (v2:=.int .i64 0) (v3:=.bool false) d.out.1;refine aq (v:=.tuple #[xz (0,0,0,false),.slice none 0 0,kX k]) (by simp[xz,L.out,results,Tryz.results22,go_sem,G]) rfl ⟨_,by rw[A.out],?_,?_⟩
   ·rw[A.out];exact lP _
   ·exact gz (gz (gz (gz j.out (ar _) _) (ar _) _) (ar _) _) (ar _) _
theorem vL:kX 0=.nilIface:=by unfold kX;rw[af rfl]
theorem tz {k:Int} (hk:k≠0):kX k=.iface 36 (.int .i64 k):=by unfold kX;rw[ae hk]
theorem qT (i v:Value) (zs:List Int) (l:List Ent) (s a:Int) (wr:Bool) (w:World) (B:lY w i zs) (C:gB w v l):
  Calls Tryz.prog 7 #[i,v,.int .i64 s,.int .i64 a,.bool wr] w fun r w'=>∃u,r=.returned (.tuple #[.int .i64 (fC zs l s a wr).1,u,kX (fC zs l s a wr).2.2])∧gB w' u (fC zs l s a wr).2.1∧Below w.heap.size w w':=by
 have E:=hid C;have n:=hid B;clear C B;by_cases e:inb zs.length s a
 ·have f:=hid e;have j:=hid (aD e);have a0:=e.2.2.2.2.1;have a1:=e.2.2.2.2.2;clear e;go_enter Tryz.func7,Tryz.ntmps7
  go_wp2_with fail
  refine (iJ i zs s a w n.out).mono ?_;rintro r w0 ⟨rfl,rfl⟩;rw[j.out];go_wp2_with fail
  refine (sB i v zs l s a w n.out E.out f.out.2.2.2.2.1 f.out.2.2.2.2.2).mono ?_;rintro r w1 ⟨u,rfl,t,A⟩;have p:=hid t;have o:=hid A;clear t A;obtain⟨g,d⟩:∃g,lF zs l s a=g:=⟨_,rfl⟩
  rw[d] at p ⊢;obtain⟨⟨x,y,z,b⟩,m,k⟩:=g;unfold xz;simp only;by_cases hk:k=0
  ·subst hk;rw[vL];have q:=hid (p.out.below (bal (ai w1.heap.size w1) (.cells #[.int .i64 x,.int .i64 y,.int .i64 z,.bool b] 56)));have h:=hid (bal o.out (.cells #[.int .i64 x,.int .i64 y,.int .i64 z,.bool b] 56))
   cases wr with
   |false=>
    have c:=hid (j0 (wr:=false) f.out d (Or.inl rfl));clear d;go_wp2_with fail
    refine aq (v:=.tuple #[.int .i64 (i4 z a),u,kX 0]) (by simp[vL,i4,results,Tryz.results7,go_sem]) rfl ⟨u,by rw[c.out],by rw[c.out];exact q.out,h.out⟩
   |true=>
    cases b with
    |false=>
     have c:=hid (j4 f.out d);clear d;go_wp2_with fail
     refine aq (v:=.tuple #[.int .i64 0,.slice none 0 0,kX 4]) (by simp[tz,results,Tryz.results7,go_sem]) rfl ⟨_,by rw[c.out],by rw[c.out];exact lP _,h.out⟩
    |true=>
     have c:=hid (j0 (wr:=true) f.out d (Or.inr rfl));clear d;go_wp2_with fail
     refine aq (v:=.tuple #[.int .i64 (i4 z a),u,kX 0]) (by simp[vL,i4,results,Tryz.results7,go_sem]) rfl ⟨u,by rw[c.out],by rw[c.out];exact q.out,h.out⟩
  ·have c:=hid (qU (wr:=wr) f.out d hk);have D:=hid hk;rw[tz hk];have h:=hid (bal o.out (.cells #[.int .i64 x,.int .i64 y,.int .i64 z,.bool b] 56));clear d hk;go_wp2_with fail
   refine aq (v:=.tuple #[.int .i64 0,.slice none 0 0,kX k]) (by simp[tz D.out,results,Tryz.results7,go_sem]) rfl ⟨_,by rw[c.out],by rw[c.out];exact lP _,h.out⟩
 ·have c:=hid (mB (l:=l) (wr:=wr) e);have j:=hid (ax e);clear e;go_enter Tryz.func7,Tryz.ntmps7
  go_wp2_with fail
  refine (iJ i zs s a w n.out).mono ?_;rintro r w0 ⟨rfl,rfl⟩;rw[j.out];go_wp2_with fail
  refine aq (v:=.tuple #[.int .i64 0,.slice none 0 0,kX 2]) (by simp[tz,results,Tryz.results7,go_sem]) rfl ⟨_,by rw[c.out],by rw[c.out];exact lP _,ai _ _⟩
