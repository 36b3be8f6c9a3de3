/- Qag -/
import Derived.Laws.AppendOwnNone
import Derived.Deep.RegionHeld3
import Derived.Test.YtaejnmmpddbbjaaGreatDoorQaf
set_option maxRecDepth 100000
set_option maxHeartbeats 16000000
namespace Go.Proofs.YtaejnmmpddbbjaaGreatDoor
namespace Wd
open Go.RowKit Mem Bw Nums Mmu
theorem o5 {P:Program} {w:World} (base:Nat) (t f e:TypeId) (i:TypeInfo) (size c:Nat) (a:P.underlying t=some (.slice e)) (hi:P.info? e=some i) (v:Value) (n:Nat) (xs:List Value) (d:w.ownsRow base e size v n xs):
  (Builtin.append_ #[t,t] f #[v,.slice none 0 c]).run P w=.ok v w:=by
 rcases d.2 with ⟨rfl,rfl⟩|⟨g,cap,h,rfl,_,_,b,_⟩
 ·simp[Builtin.append_,run_underlying a,sizeOf,typeInfo,hi,Builtin.lenOf,Builtin.firstCells]
 ·simp[Builtin.append_,run_underlying a,sizeOf,typeInfo,hi,Builtin.lenOf,Builtin.firstCells,b,storeCells]
theorem uT {P:Program} {w:World} (t g e:TypeId) (i:TypeInfo) (z:Value) (size bytes:Nat) (l:P.underlying t=some (.slice e)) (hi:P.info? e=some i) (F:i.zero=some z) (D:i.size=size) (r:i.bytes=bytes) (G:z.cells.size=size) (E:0<size)
  (base:Nat) (v:Value) (f:w.ownsRow base e size v 0 []) (q:Option Addr) (m c:Nat) (b:List Value) (B:0<m->q.isSome=true) (hl:b.length=m*size) (A:∀a,q=some a->∀j u,b[j]? =some u->w.cell? (a.add j)=some u) (n:∀u∈b,u.oneCell'=true)
  (H:m<=maxLen) (s:m*bytes<=140737488355328) (p:base<=w.heap.size):
  ∃d w',(Builtin.append_ #[t,t] g #[v,.slice q m c]).run P w=.ok d w'∧w'.ownsRow base e size d m b∧w.grownBy w' v.ownBlock:=by
 cases q with
 |none=>
  have x:m=0:=by
   rcases Nat.eq_zero_or_pos m with h|h
   ·exact h
   ·have:=B h
    cases this
  subst x;have y:=List.length_eq_zero_iff.1 (by rw[hl,Nat.zero_mul]);subst y;exact⟨v,w,o5 base t g e i size c l hi v 0 [] f,f,⟨rfl,rfl,rfl,ar _,fun _ _ _=>rfl⟩⟩
 |some a=>
  obtain⟨d,w',C,k,o,_⟩:=run_append_own (P:=P) w base t g e i z size bytes l hi F D r G E v 0 [] f a m c b hl (A a rfl) n oA (by rw[az];exact s) p;rw[az,List.nil_append] at k;exact⟨d,w',C,k,o⟩
theorem jd {P:Program} (w:World) (t l e:TypeId) (z:Value) (size bytes:Nat) (C:P.underlying t=some (.slice e)) (s:(P.info? e).map (fun i=>(i.zero,i.size,i.bytes))=some (some z,size,bytes)) (F:z.cells.size=size) (B:0<size)
  (q:Option Addr) (m c:Nat) (a:List Value) (x:0<m->q.isSome=true) (hl:a.length=m*size) (v:∀g,q=some g->∀j u,a[j]? =some u->(w.alloc (.cells #[] e)).cell? (g.add j)=some u) (n:∀u∈a,u.oneCell'=true)
  (p:m<=1000) (r:bytes<=1000):
  ∃d b w',(Builtin.append_ #[t,t] l #[.slice (some ⟨w.heap.size,0,none⟩) 0 0,.slice q m c]).run P (w.alloc (.cells #[] e))=.ok (.slice d m b) w'∧w'.ownsRow w.heap.size e size (.slice d m b) m a∧Below w.heap.size w w':=by
 obtain⟨i,hi,E,A,D⟩:=eH s;have f:=dF (base:=w.heap.size) (e:=e) (size:=size) w #[] 0 (ar _) (bF _) oS;have G:=Nat.mul_le_mul p r;obtain⟨H,w',y,h,o⟩:=uT t l e i z size bytes C hi E A D F B w.heap.size _ f q m c a x hl v n (by unfold maxLen;omega) oA oS;obtain⟨d,b,rfl⟩:=fZ h;exact⟨d,b,w',y,h,(bal (ai w.heap.size w) (.cells #[] e)).grown o oS (fun k hk=>(f.lt k hk).1)⟩
theorem fe {P:Program} {w w':World} {ops:Array Oper} {rest:List Oper} {o:Oper} {a:Act} {Q:Exit->Act->World->Prop} (d:o.guard=none) (s x:Operand) (t:TypeId)
  (e:o.op=.call {callee:=.builtin .append,args:=#[s,x],argTypes:=#[t,t]}) (v u b:Value) (g:a.eval s=v) (i:a.eval x=u) (f:(Builtin.append_ #[t,t] o.type #[v,u]).run P w=.ok b w')
  (h:wpList P ops Q rest (a.put o.dst b) w'):wpList P ops Q (o::rest) a w:=by
 refine wpList_plain d fun K c=>?_;unfold Oper.wp;simp[execOp,e,resolve,invoke,builtin,g,i,f,Result.andThen];exact c _ _ h
theorem ni {w W:World} {q:Option Addr} {b off:Nat} {zs:List Int} (d:0<zs.length->q=some ⟨b,off,none⟩) (i:fu w b off zs) (g:Below w.heap.size w W):(0<zs.length->q.isSome=true)∧∀a,q=some a->∀j u,(ec zs)[j]? =some u->W.cell? (a.add j)=some u:=by
 refine⟨fun h=>by rw[d h];rfl,fun a e j u c=>?_⟩;by_cases f:0<zs.length
 ·rw[d f] at e
  cases e
  exact ints_at (i.below g) j u c
 ·have:zs=[]:=List.length_eq_zero_iff.1 oA;rw[this] at c;simp[ec] at c
theorem kU (v:Value) (ls:List (List Int)) (w:World) (U:gX w v ls) (hl:ls.length<=1000) (N:∀l∈ls,l.length<=1000):
  Calls Tryz.prog 134 #[v] w fun r w'=>∃u,r=.returned u∧i9 w' w.heap.size w'.heap.size 22 3 1 ls.length u (ci ls)∧Below w.heap.size w w':=by
 obtain⟨q,b,off,cap,rfl,O,W⟩:=U;have H:=hid O;have K:=hid W;have J:=hid N;have ag:(ls.length:Int)<=1000:=oA;have mk:=gV Tryz.underlying25 yS oD oD ls.length hl w;rw[jw] at mk;have t:=hid (mP.start w ls.length 22 3 1 (ci ls) (by unfold maxLen;omega) _ rfl);have n:=hid (bal (ai w.heap.size w) (.cells (Array.replicate ls.length (Value.slice none 0 0)) 22));go_enter Tryz.func134,Tryz.ntmps134
 go_wp2_with fail
 generalize World.alloc _ _=Y at t n ⊢
 go_loopw [4] (fun i wr=>∃(k:Nat),k<=ls.length∧i=.int .i64 k∧Hid (∃us m,mP wr w.heap.size ls.length 22 3 1 (ci ls) k us m∧∀j,j<k->m j<=m (j+1))∧Hid (Below w.heap.size w wr)) (fun i _=>ls.length - (intOf i).toNat)
 case atStart=>exact⟨0,oA,rfl,hid ⟨[],_,t.out,fun j M=>oA⟩,n⟩
 case round=>
  obtain⟨k,hk,rfl,p,f⟩:=hrel;by_cases d:k<ls.length
  ·have ah:(k:Int)<(ls.length:Int):=oA;obtain⟨us,m,a,h⟩:=p.out;have R:=H.out oA;subst R;obtain⟨x,B,V⟩:=K.out k d;have A:=(f.out.cell (aj _ _ B)).trans B;have ab:=(bJ wr (.cells #[] 3) _ (aj _ _ A)).trans A;obtain⟨q1,b1,al,L,rfl,Q,X⟩:=V;have y:=ni Q X (bal f.out (.cells #[] 3));obtain⟨C,z,w1,S,T,c⟩:=jd (P:=Tryz.prog) wr 22 22 3 (.int .i64 0) 1 8 Tryz.underlying22 jY rfl oD q1 ls[k].length L (ec ls[k]) y.1 (nh _) y.2 (qP _) (J.out _ (aw d)) oD;have F:=hid (show (ci ls) k=(ls[k].length,ec ls[k]) by unfold ci;rw[aa,ac d];rfl);have Z:=(a.below c).cell d;have fk:=(a.below c).row.frozenAt k;have G:=hid (a.more d c (u:=.slice C ls[k].length z) (by rw[F.out];exact T));have D:=hid (gz (btr f.out c) (o:=k) (ar _) (.slice C ls[k].length z));have E:=hid (aB a.hi c.size);have g:=hid h;have I:=hid S;go_wp2_with (at_builtin;refine fe rfl _ _ _ rfl _ _ _ rfl rfl I.out ?_)
   refine⟨⟨k+1,oA,by go_num,hid ⟨_,_,G.out,fun j M=>?_⟩,D⟩,by simp[intOf];omega⟩;by_cases e:j<k
   ·rw[af oA,af oA];exact g.out j e
   ·rw[af oA,ae oA,show j=k by omega];exact E.out
  ·obtain rfl:k=ls.length:=oA;have ad:¬((ls.length:Int)<(ls.length:Int)):=oA;obtain⟨us,m,a,h⟩:=p.out;have s:=hid a;have g:=hid h;go_wp2_with fail
   go_ret
   exact⟨_,rfl,⟨w.heap.size,us,m,rfl,ar _,s.out.hi,g.out,s.out⟩,f.out⟩
theorem mJ {w w':World} {N B e size n:Nat} {v:Value} {xs:List Value} (h:w.ownsRow B e size v n xs) (j:∀k,v.ownBlock=some k->k<N) (i:Below N w w'):w'.ownsRow B e size v n xs:=by
 refine⟨h.1,?_⟩;rcases h.2 with b|⟨g,cap,a,rfl,c,d,f⟩
 ·exact .inl b
 ·exact .inr ⟨g,cap,a,rfl,c,by rw[i.block g (j g rfl)];exact d,f⟩
theorem InO.Ej {w w':World} {N lo hi I s:Nat} {u:Value} {c:Nat×List Value} (h:InO w lo hi I s u c) (a:hi<=N) (b:Below N w w'):InO w' lo hi I s u c:=⟨mJ h.1 (fun k hk=>aE (h.2 k hk) a) b,h.2⟩
theorem i9.Ej {w w':World} {N lo hi O I s n:Nat} {v:Value} {cc:Nat->Nat×List Value} (h:i9 w lo hi O I s n v cc) (e:hi<=N) (i:Below N w w') (p:N<=w'.heap.size):i9 w' lo hi O I s n v cc:=by
 obtain⟨g,us,m,l,o,b,f,a⟩:=h;have up:∀d j,j+d=n->m j<=m n:=fun d=>by
  induction d with
  |zero=>intro j c;rw[show j=n by omega];exact ar _
  |succ d ih=>intro j c;exact aB (f j oA) (ih (j+1) oA)
 have q:=aE (a.lo n (ar _)) (aB b e);refine⟨g,us,m,l,o,b,f,⟨a.len,mJ a.row (fun k hk=>?_) i,a.lo,aB b (aB e p),fun j c=>(a.each j c).Ej (aB (up (n - (j+1)) (j+1) (by rw[a.len] at c;omega)) (aB b e)) i⟩⟩;have:g=k:=by simpa [Value.ownBlock] using hk
 omega
structure CS (w:World) (V:Nat->Value) (W:World) (xs:List Value):Prop where
 Fc:Below w.heap.size w W
 src:W.rangeAt w.heap.size 0 (dk V).toList
 out:W.rangeAt (w.heap.size+2) 0 xs
 th:W.there (w.heap.size+2) 0 11
 res:W.there (w.heap.size+1) 0 11
 sz:w.heap.size+3<=W.heap.size
theorem CS.grow {w W b:World} {V:Nat->Value} {xs:List Value} (h:CS w V W xs) (a:Below W.heap.size W b):CS w V b xs:=
 ⟨btr h.Fc a,dV h.src a,dV h.out a,cP h.th a,cP h.res a,aB h.sz a.size⟩
theorem CS.put {w W:World} {V:Nat->Value} {xs:List Value} (h:CS w V W xs) {j:Nat} (a:j<xs.length) (v:Value):CS w V (W.setCell ⟨w.heap.size+2,j,none⟩ v) (xs.set j v):=
 ⟨gz h.Fc oA v,oT h.src oA v,lC h.out a v,gO h.th _ v,gO h.res _ v,by simpa using h.sz⟩
theorem CS.cell {w W:World} {V:Nat->Value} {xs:List Value} (h:CS w V W xs) {j:Nat} {v:Value} (a:(dk V).toList[j]? =some v):W.cell? ⟨w.heap.size,j,none⟩=some v:=ah h.src a
theorem CS.FC {w W:World} {V:Nat->Value} {xs:List Value} (h:CS w V W xs) {j:Nat} {v:Value} (a:xs[j]? =some v):W.cell? ⟨w.heap.size+2,j,none⟩=some v:=ah h.out a
theorem CS.F7 {w W:World} {V:Nat->Value} {xs:List Value} (h:CS w V W xs) {j:Nat} (a:j<11):W.frozen? ⟨w.heap.size+2,j,none⟩=false:=by
 have:=(h.th j a).2
 rwa [az] at this
theorem vd {N:Nat} {w w':World} {b n:Nat} (h:w.there b 0 n) (c:Below N w w') (a:b<N):w'.there b 0 n:=fun j f=>by
 obtain⟨d,e⟩:=h j f;exact⟨by rw[c.cell (p:=⟨b,0+j,none⟩) a];exact d,by rw[c.frozen (p:=⟨b,0+j,none⟩) a];exact e⟩
theorem uO {N:Nat} {w w':World} {b:Nat} {cs:List Value} (h:w.rangeAt b 0 cs) (c:Below N w w') (a:b<N):w'.rangeAt b 0 cs:=fun j v d=>(c.cell (p:=⟨b,0+j,none⟩) a).trans (h j v d)
theorem CS.Fm {w W b:World} {N:Nat} {V:Nat->Value} {xs:List Value} (h:CS w V W xs) (c:w.heap.size+3<=N) (a:Below N W b) (d:N<=b.heap.size):CS w V b xs:=
 ⟨h.Fc.trans (a.mono oA),uO h.src a oA,uO h.out a oA,vd h.th a oA,vd h.res a oA,aB c d⟩
theorem rJ {n:Nat} {w W:World} {q:Option Addr} {b off:Nat} {fs:List (Nat->Int)} (d:0<fs.length->q=some ⟨b,off,none⟩) (i:∀j (h:j<fs.length),w.rangeAt b (off+j*n) (cf n fs[j])) (g:Below w.heap.size w W):(0<fs.length->q.isSome=true)∧∀c,q=some c->∀j u,(eT n fs)[j]? =some u->W.cell? (c.add j)=some u:=by
 refine⟨fun h=>by rw[d h];rfl,fun c e j u a=>?_⟩;by_cases f:0<fs.length
 ·rw[d f] at e
  cases e
  exact qa (fun j a=>fJ (i j a) g) j u a
 ·have:fs=[]:=List.length_eq_zero_iff.1 oA;rw[this] at a;simp[eT] at a
theorem vK {w W:World} {q:Option Addr} {b off:Nat} {l:List Ent} (d:0<l.length->q=some ⟨b,off,none⟩) (i:iy w b off l) (g:Below w.heap.size w W):(0<l.length->q.isSome=true)∧∀a,q=some a->∀j u,(dE l)[j]? =some u->W.cell? (a.add j)=some u:=by
 refine⟨fun h=>by rw[d h];rfl,fun a e j u c=>?_⟩;by_cases f:0<l.length
 ·rw[d f] at e
  cases e
  exact mj (i.below g) j u c
 ·have:l=[]:=List.length_eq_zero_iff.1 oA;rw[this] at c;simp[dE] at c
theorem ff {P:Program} {w w':World} {o:Oper} {a:Act} {K:Act->World->Prop} {Q:Exit->Act->World->Prop} (s x:Operand) (t:TypeId)
  (c:o.op=.call {callee:=.builtin .append,args:=#[s,x],argTypes:=#[t,t]}) (v u b:Value) (e:a.eval s=v) (f:a.eval x=u) (d:(Builtin.append_ #[t,t] o.type #[v,u]).run P w=.ok b w')
  (h:K (a.put o.dst b) w'):o.wp P a w K Q:=by
 unfold Oper.wp;simp[execOp,c,resolve,invoke,builtin,e,f,d,Result.andThen];exact h
theorem ey.one {w:World} {v:Value} {zs:List Int} (h:ey w v zs):v.oneCell'=true:=by obtain⟨q,b,off,cap,rfl,_⟩:=h;rfl
theorem gX.one {w:World} {v:Value} {zs:List (List Int)} (h:gX w v zs):v.oneCell'=true:=by obtain⟨q,b,off,cap,rfl,_⟩:=h;rfl
theorem jm.one {w:World} {v:Value} {zs:List (List Ent)} (h:jm w v zs):v.oneCell'=true:=by obtain⟨q,b,off,cap,rfl,_⟩:=h;rfl
theorem RowsIn.one {n:Nat} {w:World} {v:Value} {zs:List (Nat->Int)} (h:RowsIn n w v zs):v.oneCell'=true:=by obtain⟨q,b,off,cap,rfl,_⟩:=h;rfl
theorem hX {b n B:Nat}:∀(a:List Value) (o:Nat) (w:World),w.there b 0 n->(w.setCells B o a).there b 0 n
 |[],_,_,h=>h
 |v::r,o,w,h=>by
  rw[World.setCells];exact hX r (o+1) _ (gO h ⟨B,o,none⟩ v)
theorem lT {w:World} {V:Nat->Value} {p:PW} (h:jn w V p):(dk V).all (·.oneCell')=true:=Array.all_eq_true'.2 fun x a=>by
 simp only[List.mem_toArray,bM,dB,or_false] at a;rcases a with rfl|rfl|rfl|rfl|rfl|rfl|rfl|rfl|rfl|rfl|rfl
 ·exact h.Eb.one
 ·exact h.kinds.one
 ·exact h.DZ.one
 ·exact h.DY.one
 ·exact h.lines.one
 ·exact h.bits.one
 ·exact h.D6.one
 ·exact h.ready.one
 ·exact h.D9.one
 ·exact h.Ee.one
 ·rw[h.time];rfl
def Fo (W:World) (lo hi:Nat) (p:PW) (v:Value):Nat->Prop
 |0=>InO W lo hi 3 1 v (p.Eb.length,ec p.Eb)
 |1=>InO W lo hi 3 1 v (p.kinds.length,ec p.kinds)
 |2=>InO W lo hi 80 7 v (p.DZ.length,eT 7 p.DZ)
 |3=>InO W lo hi 45 20 v (p.DY.length,eT 20 p.DY)
 |4=>i9 W lo hi 22 3 1 p.lines.length v (ci p.lines)
 |5=>InO W lo hi 3 1 v (p.bits.length,ec p.bits)
 |6=>InO W lo hi 3 1 v (p.D6.length,ec p.D6)
 |7=>i9 W lo hi 22 3 1 p.ready.length v (ci p.ready)
 |8=>i9 W lo hi 31 56 4 p.D9.length v (ce p.D9)
 |9=>InO W lo hi 3 1 v (p.Ee.length,ec p.Ee)
 |_=>True
theorem Fo.to {W i g:World} {lo hi N:Nat} {p:PW} {v x:Value} {a:Addr} (b:Below W.heap.size W i) (c:a.block<lo) (d:hi<=N) (e:Below N (i.setCell a x) g) (f:N<=g.heap.size):∀{j:Nat},Fo W lo hi p v j->Fo g lo hi p v j
 |0,h|1,h|2,h|3,h|5,h|6,h|9,h=>(InO.set (InO.below h b) c x).Ej d e
 |4,h|7,h|8,h=>(i9.set (i9.below h b) c x).Ej d e f
 |_+10,_=>trivial
def upf {α:Type} (f:Nat->α) (k:Nat) (v:α) (i:Nat):α:=if i=k then v else f i
theorem qk {α:Type} {f:Nat->α} {k i:Nat} {v:α} (h:i≠k):upf f k v i=f i:=ae h
theorem xm {α:Type} {f:Nat->α} {k:Nat} {v:α}:upf f k v k=v:=af rfl
theorem Am (X:Nat->Value) (v:Value):∀k,k<10->(dk X).toList.set k v=(dk (upf X k v)).toList
 |0,_|1,_|2,_|3,_|4,_|5,_|6,_|7,_|8,_|9,_=>rfl
 |n+10,h=>absurd h oA
theorem xu (X:Nat->Value):∀k,k<10->(dk X).toList[k]? =some (X k)
 |0,_|1,_|2,_|3,_|4,_|5,_|6,_|7,_|8,_|9,_=>rfl
 |n+10,h=>absurd h oA
theorem zZ {L:Nat->Nat} {k:Nat} (m:∀j,j<k->L j<=L (j+1)):∀d j,j+d<=k->L j<=L (j+d)
 |0,_,_=>ar _
 |d+1,j,h=>aB (zZ m d j oA) (m (j+d) oA)
structure CP (w:World) (V:Nat->Value) (p:PW) (k:Nat) (X:Nat->Value) (L:Nat->Nat) (W:World):Prop where
 c:CS w V W (dk X).toList
 l:L k=W.heap.size
 z:w.heap.size+3<=L 0
 m:∀j,j<k->L j<=L (j+1)
 f:∀j,j<k->Fo W (L j) (L (j+1)) p (X j) j
 t:X 10=.int .i64 p.time
theorem CP.next {w W:World} {V X:Nat->Value} {p:PW} {L:Nat->Nat} {k:Nat} (h:CP w V p k X L W) (hk:k<10) (v:Value) {g W2:World} (i:Below W.heap.size W g) (n:Below W.heap.size (g.setCell ⟨w.heap.size+2,k,none⟩ v) W2) (d:W.heap.size<=W2.heap.size) (f:Fo W2 W.heap.size W2.heap.size p v k):CP w V p (k+1) (upf X k v) (upf L (k+1) W2.heap.size) W2:=by
 refine⟨by rw[<-Am X v k hk];exact ((h.c.grow i).put (j:=k) (show k<11 by omega) v).Fm h.c.sz n d,xm,by rw[qk oA];exact h.z,fun j o=>?_,fun j o=>?_,by rw[qk oA];exact h.t⟩
 ·rw[qk (show j≠k+1 by omega)];by_cases e:j=k
  ·subst e;rw[xm,h.l];exact d
  ·rw[qk oA];exact h.m j oA
 ·rw[qk (show j≠k+1 by omega)];by_cases e:j=k
  ·subst e;rw[xm,xm,h.l];exact f
  ·rw[qk oA,qk e];have a:=zZ h.m j 0 oA;have b:=zZ h.m (k - (j+1)) (j+1) oA;rw[az] at a;rw[show j+1+(k - (j+1))=k by omega,h.l] at b;exact Fo.to i (show w.heap.size+2<L j by have:=h.z;omega) b n d (h.f j oA)
theorem CP.put {w W:World} {V X:Nat->Value} {p:PW} {L:Nat->Nat} {k:Nat} (h:CP w V p k X L W) (hk:k<10) {w1:World} (a:Below W.heap.size W w1) (v:Value) (f:Fo w1 W.heap.size w1.heap.size p v k):∃d b,Hid (CP w V p (k+1) d b (w1.setCell ⟨w.heap.size+2,k,none⟩ v)):=by
 have e:(w1.setCell ⟨w.heap.size+2,k,none⟩ v).heap.size=w1.heap.size:=oS;exact⟨_,_,hid (h.next hk v a (ai _ _) (by rw[e];exact a.size) (by rw[e];exact Fo.to (ai _ _) (show w.heap.size+2<W.heap.size from h.c.sz) (ar _) (ai _ _) (by rw[e];exact ar _) f))⟩
theorem CP.cells {w W a:World} {V X:Nat->Value} {p:PW} {L:Nat->Nat} {k:Nat} (h:CP w V p k X L W) (hk:k<10) (b:Below W.heap.size W a):a.cell? ⟨w.heap.size,k,none⟩=some (V k)∧a.cell? ⟨w.heap.size+2,k,none⟩=some (X k)∧a.frozen? ⟨w.heap.size+2,k,none⟩=false:=
 ⟨(h.c.grow b).cell (xu V k hk),(h.c.grow b).FC (xu X k hk),(h.c.grow b).F7 oA⟩
theorem CP.app {w W:World} {V X:Nat->Value} {p:PW} {L:Nat->Nat} {k:Nat} (h:CP w V p k X L W) (hk:k<10) {q:Option Addr} {m c:Nat} (eV:V k=.slice q m c) (t e:TypeId) (z:Value) (size bytes:Nat) (I:Tryz.prog.underlying t=some (.slice e)) (E:(Tryz.prog.info? e).map (fun i=>(i.zero,i.size,i.bytes))=some (some z,size,bytes)) (K:z.cells.size=size) (H:0<size) (f:List Value)
  (A:(0<m->q.isSome=true)∧∀r,q=some r->∀j u,f[j]? =some u->(W.alloc (.cells #[] e)).cell? (r.add j)=some u) (hl:f.length=m*size) (B:∀u∈f,u.oneCell'=true) (C:m<=1000) (D:bytes<=1000) (hF:∀l v,InO l W.heap.size l.heap.size e size v (m,f)->Fo l W.heap.size l.heap.size p v k):
  ∃g d w1 o n,Hid ((Builtin.append_ #[t,t] t #[.slice (some ⟨W.heap.size,0,none⟩) 0 0,.slice q m c]).run Tryz.prog (W.alloc (.cells #[] e))=.ok (.slice g m d) w1)∧(W.alloc (.cells #[] e)).cell? ⟨w.heap.size,k,none⟩=some (.slice q m c)∧w1.cell? ⟨w.heap.size+2,k,none⟩=some (X k)∧w1.frozen? ⟨w.heap.size+2,k,none⟩=false∧Hid (CP w V p (k+1) o n (w1.setCell ⟨w.heap.size+2,k,none⟩ (.slice g m d))):=by
 obtain⟨g,d,w1,G,y,s⟩:=jd (P:=Tryz.prog) W t t e z size bytes I E K H q m c f A.1 hl A.2 B C D;obtain⟨o,n,F⟩:=h.put hk s (.slice g m d) (hF w1 _ ⟨y,fun x J=>(y.lt x J).2⟩);have a:=h.cells hk (bal (ai _ W) (.cells #[] e));have b:=h.cells hk s;rw[eV] at a;exact⟨g,d,w1,o,n,hid G,a.1,b.2.1,b.2.2,F⟩
theorem CP.row {w W:World} {V X:Nat->Value} {p:PW} {L:Nat->Nat} {k:Nat} {zs:List Int} (h:CP w V p k X L W) (hk:k<10) (m:ey w (V k) zs) (j:zs.length<=1000) (hF:∀a v,InO a W.heap.size a.heap.size 3 1 v (zs.length,ec zs)->Fo a W.heap.size a.heap.size p v k):
  ∃q c f d w1 i g,Hid ((Builtin.append_ #[22,22] 22 #[.slice (some ⟨W.heap.size,0,none⟩) 0 0,.slice q zs.length c]).run Tryz.prog (W.alloc (.cells #[] 3))=.ok (.slice f zs.length d) w1)∧(W.alloc (.cells #[] 3)).cell? ⟨w.heap.size,k,none⟩=some (.slice q zs.length c)∧w1.cell? ⟨w.heap.size+2,k,none⟩=some (X k)∧w1.frozen? ⟨w.heap.size+2,k,none⟩=false∧Hid (CP w V p (k+1) i g (w1.setCell ⟨w.heap.size+2,k,none⟩ (.slice f zs.length d))):=by
 obtain⟨q,b,off,cap,e,l,n⟩:=m;obtain⟨f,d,w1,i,g,r⟩:=h.app hk e 22 3 (.int .i64 0) 1 8 Tryz.underlying22 jY rfl oD (ec zs) (ni l n (h.c.grow (bal (ai _ W) (.cells #[] 3))).Fc) (nh _) (qP _) j oD hF;exact⟨q,cap,f,d,w1,i,g,r⟩
theorem CP.own {w W:World} {V X:Nat->Value} {p:PW} {L:Nat->Nat} (h:CP w V p 10 X L W):gi W L X p:=
 ⟨h.m,h.f 0 oD,h.f 1 oD,h.f 2 oD,h.f 3 oD,h.f 4 oD,h.f 5 oD,h.f 6 oD,h.f 7 oD,h.f 8 oD,h.f 9 oD,h.t⟩
theorem vF (V:Nat->Value) (p:PW) (w:World) (hv:jn w V p) (hp:p.Fits):
  Calls Tryz.prog 85 #[.agg (dk V)] w fun r w'=>∃V' L,r=.returned (.agg (dk V'))∧gi w' L V' p∧w.heap.size<=L 0∧L 10<=w'.heap.size∧Below w.heap.size w w':=by
 have R:=bal (ai w.heap.size w) (.cells (dk V) 28);have B2:=bal (ai _ (w.alloc (.cells (dk V) 28))) (.cells zW 28);have T:=bal (ai _ ((w.alloc (.cells (dk V) 28)).alloc (.cells zW 28))) (.cells zW 28);have RG:=hid (dV (CE w V 28) B2);have Y:=hid (aY ((w.alloc (.cells (dk V) 28)).alloc (.cells zW 28)) zW 28 (w.heap.size+2) 11 oS oD);have TR:=cP (aY (w.alloc (.cells (dk V) 28)) zW 28 (w.heap.size+1) 11 oS oD) T;have one:=hid (lT hv);have H0:=hid (show CP w V p 0 V (fun _=>w.heap.size+3) ((((w.alloc (.cells (dk V) 28)).alloc (.cells zW 28)).alloc (.cells zW 28)).setCells (w.heap.size+2) 0 (dk V).toList) from⟨⟨dT (btr (btr R B2) T) oA _ 0,
  fun k v hk=>by
   rw[World.cell?_setCells_out (w.heap.size+2) _ 0 _ ⟨w.heap.size,0+k,none⟩ (fun e _=>by simp at e)];exact dV RG.out T k v hk,
  World.rangeAt_setCells_same _ (w.heap.size+2) 0 (dk V).toList Y.out,hX (dk V).toList 0 _ Y.out,hX (dk V).toList 0 _ TR,by rw[ft];simp⟩,by rw[ft];simp,ar _,fun j h=>oA,fun j h=>oA,hv.time⟩)
 have n:=hid hv;have f:=hid hp;go_enter Tryz.func85,Tryz.ntmps85
 go_upto_region 2 with (first|((with_reducible refine gld 28 ?_);refine qn oR _ rfl _ rfl V RG.out ?_)|((with_reducible refine gst 28 ?_);refine wpList_store_mid rfl 28 _ _ rfl (w.heap.size+2) 0 (dk V) rfl rfl Y.out fO one.out ?_))
 generalize World.setCells _ _ _ _=W0 at*;obtain⟨Q,cs,a4,aN,w1,X1,L1,d,c0,s,g,U⟩:=CP.row H0.out oD n.out.Eb f.out.Eb (fun _ _ x=>x);go_upto_region 3 with (at_builtin;refine fe rfl _ _ _ rfl _ _ _ rfl rfl d.out ?_)
 generalize World.setCell _ _ _=W1 at*;obtain⟨Q,cs,a5,aO,w1,X2,L2,d,c0,s,g,H2⟩:=CP.row U.out oD n.out.kinds f.out.kinds (fun _ _ x=>x);go_upto_region 4 with (at_builtin;refine fe rfl _ _ _ rfl _ _ _ rfl rfl d.out ?_)
 generalize World.setCell _ _ _=W2 at*;obtain⟨q2,b2,a2,aL,e2,az,aI⟩:=n.out.DZ;obtain⟨a6,aP,w1,X3,L3,d,c0,s,g,H3⟩:=CP.app H2.out oD e2 23 80 (.agg zV) 7 56 Tryz.underlying23 oz rfl oD (eT 7 p.DZ) (rJ az aI (H2.out.c.grow (bal (ai _ W2) (.cells #[] 80))).Fc) (gM 7 _) (o3 7 _) f.out.DZ oD (fun _ _ x=>x);go_upto_region 5 with (at_builtin;refine fe rfl _ _ _ rfl _ _ _ rfl rfl d.out ?_)
 generalize World.setCell _ _ _=W3 at*;obtain⟨q3,b3,a3,aM,e3,aA,aJ⟩:=n.out.DY;obtain⟨a7,aQ,w1,X4,L4,d,c0,s,g,I⟩:=CP.app H3.out oD e3 24 45 (.agg zT) 20 160 Tryz.underlying24 tU rfl oD (eT 20 p.DY) (rJ aA aJ (H3.out.c.grow (bal (ai _ W3) (.cells #[] 45))).Fc) (gM 20 _) (o3 20 _) f.out.DY oD (fun _ _ x=>x);go_upto_region 6 with (at_builtin;refine fe rfl _ _ _ rfl _ _ _ rfl rfl d.out ?_)
 generalize World.setCell _ _ _=W4 at*;have c0:=(I.out.cells oD (ai _ _)).1;go_wp2_with fail
 refine (kU _ p.lines W4 (n.out.below I.out.c.Fc).lines f.out.lines f.out.line).mono ?_;rintro r w1 ⟨u,rfl,B,q⟩;obtain⟨qu,rfl⟩:=oQ B;obtain⟨X5,L5,H5⟩:=I.out.put oD q _ B;have g:=(I.out.cells oD q).2;obtain⟨s,g⟩:=g;go_upto_region 7 with fail
 generalize World.setCell _ _ _=W5 at*;obtain⟨Q,cs,a8,aR,w1,X6,L6,d,c0,s,g,H6⟩:=CP.row H5.out oD n.out.bits f.out.bits (fun _ _ x=>x);go_upto_region 8 with (at_builtin;refine fe rfl _ _ _ rfl _ _ _ rfl rfl d.out ?_)
 generalize World.setCell _ _ _=W6 at*;obtain⟨Q,cs,a9,aS,w1,X7,L7,d,c0,s,g,J⟩:=CP.row H6.out oD n.out.D6 f.out.D6 (fun _ _ x=>x);go_upto_region 9 with (at_builtin;refine fe rfl _ _ _ rfl _ _ _ rfl rfl d.out ?_)
 generalize World.setCell _ _ _=W7 at*;have c0:=(J.out.cells oD (ai _ _)).1;go_wp2_with fail
 refine (kU _ p.ready W7 (n.out.below J.out.c.Fc).ready f.out.ready f.out.next).mono ?_;rintro r w1 ⟨u,rfl,B,q⟩;obtain⟨qu,rfl⟩:=oQ B;obtain⟨X8,L8,D⟩:=J.out.put oD q _ B;have g:=(J.out.cells oD q).2;obtain⟨s,g⟩:=g;go_upto_region 10 with fail
 generalize World.setCell _ _ _=b at*;obtain⟨q8,b8,C,ab,e8,aD,aK⟩:=n.out.D9;have ap:=hid aD;have au:=hid aK;have aX:(p.D9.length:Int)<=1000:=by have:=f.out.D9;omega
 have mk:=gV Tryz.underlying26 A2 oD oD p.D9.length f.out.D9 b;rw[jw] at mk;have P0:=hid (mP.set (mP.start b p.D9.length 31 56 4 (ce p.D9) (by have:=f.out.D9;unfold maxLen;omega) _ rfl) (a:=⟨w.heap.size+2,8,none⟩) (show w.heap.size+2<b.heap.size from D.out.c.sz) (.slice (some ⟨b.heap.size,0,none⟩) p.D9.length p.D9.length));obtain⟨Z,s,g⟩:=D.out.cells oD (bal (ai _ b) (.cells (Array.replicate p.D9.length (Value.slice none 0 0)) 31));have aw:=(D.out.cells oD (ai _ _)).1;rw[e8] at Z aw;have an:=hid (fun (W:World) (h2:Below b.heap.size ((b.alloc (.cells (Array.replicate p.D9.length (Value.slice none 0 0)) 31)).setCell ⟨w.heap.size+2,8,none⟩ (.slice (some ⟨b.heap.size,0,none⟩) p.D9.length p.D9.length)) W)=>D.out.next oD (.slice (some ⟨b.heap.size,0,none⟩) p.D9.length p.D9.length) (bal (ai _ b) (.cells (Array.replicate p.D9.length (Value.slice none 0 0)) 31)) h2);have am:=hid (((D.out.c.grow (bal (ai _ b) (.cells (Array.replicate p.D9.length (Value.slice none 0 0)) 31))).put (j:=8) (show 8<11 by decide) (.slice (some ⟨b.heap.size,0,none⟩) p.D9.length p.D9.length)));have ag:=hid D.out.c.sz;go_upto_region 11 with fail
 generalize World.setCell _ _ _=Wa at*;go_wp2_with fail
 go_loopw [4] (fun i wr=>∃(k:Nat),k<=p.D9.length∧i=.int .i64 k∧Hid (∃us m,mP wr b.heap.size p.D9.length 31 56 4 (ce p.D9) k us m∧∀j,j<k->m j<=m (j+1))∧Hid (Below b.heap.size Wa wr)) (fun i _=>p.D9.length - (intOf i).toNat)
 case atStart=>exact⟨0,oA,rfl,hid ⟨[],_,P0.out,fun j hj=>oA⟩,hid (ai _ _)⟩
 case round=>
  obtain⟨k,hk,rfl,ao,X⟩:=hrel;obtain⟨uz,m,y,al⟩:=ao.out;have ad:=aB (Nat.le_of_lt (y.lo k (ar _))) y.hi;have HC:=hid (am.out.Fm ag.out X.out ad);have Z:=HC.out.cell (j:=8) rfl;rw[e8] at Z;by_cases O:k<p.D9.length
  ·have aZ:(k:Int)<(p.D9.length:Int):=oA;have aE:=ap.out oA;subst aE;obtain⟨x,hx,aG, -⟩:=au.out k O;obtain⟨q1,b1,a0,N,rfl,ay,aH,aW⟩:=aG;have BD:=aC wr 1;have G:=hid (HC.out.grow BD);have SR:=vK ay aH (bal G.out.Fc (.cells #[] 56));obtain⟨qv,cv,w1,aF,B,q⟩:=jd (P:=Tryz.prog) wr.drew 31 31 56 (.agg #[.int .i64 0,.int .i64 0,.int .i64 0,.bool false]) 4 32 Tryz.underlying31 jX rfl oD q1 p.D9[k].length N (dE p.D9[k]) SR.1 (jQ _) SR.2 (mc _) oA oD;have F:=btr BD q;have ck:=(y.below F).cell O;have fk:=(y.below F).row.frozenAt k;have HN:=hid (y.more O F (u:=.slice qv p.D9[k].length cv) (by rw[show (ce p.D9) k=(p.D9[k].length,dE p.D9[k]) by unfold ce;rw[aa,ac O];rfl];exact B));have R:=hid (show Below b.heap.size Wa (w1.setCell ⟨b.heap.size,k,none⟩ (.slice qv p.D9[k].length cv)) from (X.out.trans (F.mono ad)).setCell (ar _) _);have U:=hid (aB y.hi F.size);have HM:=hid al;have M:=hid (show ∀W,CS w V W ((dk X8).toList.set 8 (.slice (some ⟨b.heap.size,0,none⟩) p.D9.length p.D9.length))->(W.cell? ⟨w.heap.size,8,none⟩=some (.slice (some ⟨b8,C,none⟩) p.D9.length ab)∧W.cell? ⟨w.heap.size+2,8,none⟩=some (.slice (some ⟨b.heap.size,0,none⟩) p.D9.length p.D9.length)∧W.cell? ⟨b8,C+k,none⟩=some (.slice q1 p.D9[k].length N)) from fun W h=>⟨by rw[h.cell (j:=8) rfl,e8],h.FC (j:=8) rfl,(h.Fc.cell (p:=⟨b8,C+k,none⟩) (aj _ _ hx)).trans hx⟩);have S1:=hid (M.out _ G.out);have S2:=hid (M.out _ (G.out.grow (bal (ai _ wr.drew) (.cells #[] 56))));have S3:=hid (M.out _ (G.out.grow q));have S4:=hid (M.out _ ((G.out.grow q).Fm ag.out (show Below b.heap.size w1 (w1.setCell ⟨b.heap.size,k,none⟩ (.slice qv p.D9[k].length cv)) from Below.setCell (ai b.heap.size w1) (show b.heap.size<=(⟨b.heap.size,k,none⟩:Addr).block from ar _) _) (by simp;have:=F.size;omega)));have d:=hid aF;go_wp2_with fail
   refine wp_region_held_drew (S:=fun W=>(W.cell? ⟨w.heap.size,8,none⟩=some (.slice (some ⟨b8,C,none⟩) p.D9.length ab)∧W.cell? ⟨w.heap.size+2,8,none⟩=some (.slice (some ⟨b.heap.size,0,none⟩) p.D9.length p.D9.length)∧W.cell? ⟨b8,C+k,none⟩=some (.slice q1 p.D9[k].length N))) oK S1.out (fun E=>?_);have t:=hid E;refine tk 0 (.pointer (some ⟨w.heap.size+2,8,none⟩)) rfl t.out ?_;simp only[jj];refine tg 1 ((.slice (some ⟨b.heap.size,0,none⟩) p.D9.length p.D9.length)) rfl (Or.inl ⟨oR,fun W h=>by have h3:=h.2.1;clear h;go_simp⟩) t.out ?_;simp only[jj];refine tk 2 (.int .i64 k) rfl t.out ?_;simp only[jj];refine tk 4 (.pointer (some ⟨w.heap.size,8,none⟩)) rfl t.out ?_;simp only[jj];refine tg 5 (.slice (some ⟨b8,C,none⟩) p.D9.length ab) rfl (Or.inl ⟨oR,fun W h=>by have h3:=h.1;clear h;go_simp⟩) t.out ?_;simp only[jj];refine tk 6 (.int .i64 k) rfl t.out ?_;simp only[jj];refine tk 7 (.pointer (some ⟨b8,C+k,none⟩)) rfl t.out ?_;simp only[jj];refine tg 8 (.slice q1 p.D9[k].length N) rfl (Or.inl ⟨oR,fun W h=>by have h3:=h.2.2;clear h;go_simp⟩) t.out ?_;simp only[jj];refine wpAnyH_ready (rs:=[3]) oK oS (AllReadyH.cons rfl (fun K H=>?_) AllReadyH.nil);go_simp
   refine H.out _ _ S2.out (fun E=>?_);have aU:=hid E;refine wpAnyH_ready (rs:=[9]) oK oS (AllReadyH.cons rfl (fun K H=>?_) AllReadyH.nil);refine ff _ _ _ rfl _ _ _ rfl rfl d.out ?_;refine H.out _ _ S3.out (fun E=>?_);have ax:=hid E
   try simp only[Act.put,jD]
   refine tk 10 (.pointer (some ⟨b.heap.size,k,none⟩)) rfl ax.out ?_;simp only[jj];refine wpAnyH_ready (rs:=[11]) oK oS (AllReadyH.cons rfl (fun K H=>?_) AllReadyH.nil);go_simp
   refine H.out _ _ S4.out (fun E=>?_)
   try simp only[Act.put]
   refine dN oK ?_ _;go_wp2_with fail
   refine⟨⟨k+1,oA,by go_num,hid ⟨_,_,HN.out,fun j hj=>?_⟩,R⟩,by simp[intOf];omega⟩;by_cases e:j<k
   ·rw[af oA,af oA];exact HM.out j e
   ·rw[af oA,ae oA,show j=k by omega];exact U.out
  ·obtain rfl:k=p.D9.length:=oA;have aV:¬((p.D9.length:Int)<(p.D9.length:Int)):=oA;have H9:=hid (an.out wr X.out ad (show i9 wr b.heap.size wr.heap.size 31 56 4 p.D9.length (.slice (some ⟨b.heap.size,0,none⟩) p.D9.length p.D9.length) (ce p.D9) from⟨b.heap.size,uz,m,rfl,ar _,y.hi,al,y⟩));go_upto_region 15 with fail
   generalize wr=W9 at*;obtain⟨Q,cs,ba,aT,w1,A,ah,d,c0,s,g,o⟩:=CP.row H9.out oD n.out.Ee f.out.Ee (fun _ _ x=>x);go_upto_region 16 with (at_builtin;refine fe rfl _ _ _ rfl _ _ _ rfl rfl d.out ?_)
   generalize World.setCell _ _ _=av at*;have one:=hid (lT (o.out.own.v (zS n.out.D9)));have RX:=hid (World.rangeAt_setCells_same av (w.heap.size+1) 0 (dk A).toList o.out.c.res);have BX:=hid (dT o.out.c.Fc (show w.heap.size<=w.heap.size+1 by omega) (dk A).toList 0);go_wp2_with (first|((with_reducible refine gld 28 ?_);refine lU rfl _ rfl (w.heap.size+2) rfl A o.out.c.out ?_)|((with_reducible refine gst 28 ?_);refine wpList_store_mid rfl 28 _ _ rfl (w.heap.size+1) 0 (dk A) rfl rfl o.out.c.res fO one.out ?_))
   refine aq (v:=.agg (dk A)) (hU rfl rfl (run_loadVar_mid _ (w.heap.size+1) 0 28 (dk A).toList _ RX.out Tryz.underlying28 rfl fO)) rfl ⟨A,rfl,ah,o.out.own.Ev (show w.heap.size+1<ah 0 by have:=o.out.z;omega) _ 0,by have:=o.out.z;omega,by rw[ft,o.out.l];exact ar _,BX.out⟩
