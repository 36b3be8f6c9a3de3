/- Qaf -/
import Derived.Laws.AppendOwnNone
import Derived.Deep.RegionHeld3
import Derived.Test.YtaejnmmpddbbjaaGreatDoorQae
namespace Go.Proofs.YtaejnmmpddbbjaaGreatDoor.Wd
open Go.RowKit Mem Bw Nums Mmu
theorem run_app_none {P:Program} {w:World} (base:Nat) (t f e:TypeId) (i:TypeInfo) (size c:Nat) (a:P.underlying t=some (.slice e)) (hi:P.info? e=some i) (v:Value) (n:Nat) (xs:List Value) (d:w.ownsRow base e size v n xs):
  (Builtin.append_ #[t,t] f #[v,.slice none 0 c]).run P w=.ok v w:=by
 rcases d.2 with ⟨rfl,rfl⟩|⟨g,cap,h,rfl,_,_,b,_⟩
 ·simp[Builtin.append_,run_underlying a,sizeOf,typeInfo,hi,Builtin.lenOf,Builtin.firstCells]
 ·simp[Builtin.append_,run_underlying a,sizeOf,typeInfo,hi,Builtin.lenOf,Builtin.firstCells,b,storeCells]
theorem run_app {P:Program} {w:World} (t g e:TypeId) (i:TypeInfo) (z:Value) (size bytes:Nat) (l:P.underlying t=some (.slice e)) (hi:P.info? e=some i) (F:i.zero=some z) (D:i.size=size) (r:i.bytes=bytes) (G:z.cells.size=size) (E:0<size)
  (base:Nat) (v:Value) (f:w.ownsRow base e size v 0 []) (q:Option Addr) (m c:Nat) (a:List Value) (B:0<m→q.isSome=true) (hl:a.length=m*size) (A:∀b,q=some b→∀j u,a[j]? =some u→w.cell? (b.add j)=some u) (n:∀u∈a,u.oneCell'=true)
  (H:m≤maxLen) (s:m*bytes≤140737488355328) (p:base≤w.heap.size):
  ∃d w',(Builtin.append_ #[t,t] g #[v,.slice q m c]).run P w=.ok d w'∧w'.ownsRow base e size d m a∧w.grownBy w' v.ownBlock:=by
 cases q with
 |none=>
  have x:m=0:=by
   rcases Nat.eq_zero_or_pos m with h|h
   ·exact h
   ·have:=B h
    cases this
  subst x;have y:a=[]:=List.length_eq_zero_iff.1 (by rw[hl,Nat.zero_mul]);subst y;exact⟨v,w,run_app_none base t g e i size c l hi v 0 [] f,f,⟨rfl,rfl,rfl,au _,fun _ _ _=>rfl⟩⟩
 |some b=>
  obtain⟨d,w',C,k,o,_⟩:=run_append_own (P:=P) w base t g e i z size bytes l hi F D r G E v 0 [] f b m c a hl (A b rfl) n (by omega) (by rw[aC];exact s) p;rw[aC,List.nil_append] at k;exact⟨d,w',C,k,o⟩
theorem run_app_new {P:Program} (w:World) (t l e:TypeId) (z:Value) (size bytes:Nat) (C:P.underlying t=some (.slice e)) (s:(P.info? e).map (fun i=>(i.zero,i.size,i.bytes))=some (some z,size,bytes)) (F:z.cells.size=size) (B:0<size)
  (q:Option Addr) (m c:Nat) (a:List Value) (x:0<m→q.isSome=true) (hl:a.length=m*size) (v:∀g,q=some g→∀j u,a[j]? =some u→(w.alloc (.cells #[] e)).cell? (g.add j)=some u) (n:∀u∈a,u.oneCell'=true)
  (p:m≤1000) (r:bytes≤1000):
  ∃d b w',(Builtin.append_ #[t,t] l #[.slice (some ⟨w.heap.size,0,none⟩) 0 0,.slice q m c]).run P (w.alloc (.cells #[] e))=.ok (.slice d m b) w'∧w'.ownsRow w.heap.size e size (.slice d m b) m a∧Below w.heap.size w w':=by
 obtain⟨i,hi,E,A,D⟩:=info_get s;have f:=de (base:=w.heap.size) (e:=e) (size:=size) w #[] 0 (au _) (bI _) (by simp);have G:m*bytes≤1000*1000:=Nat.mul_le_mul p r;obtain⟨H,w',y,h,o⟩:=run_app t l e i z size bytes C hi E A D F B w.heap.size _ f q m c a x hl v n (by unfold maxLen;omega) (by omega) (by simp);obtain⟨d,b,rfl⟩:=own_form h;exact⟨d,b,w',y,h,(bal (aj w.heap.size w) (.cells #[] e)).grown o (by simp) (fun k hk=>(f.lt k hk).1)⟩
theorem wpList_app {P:Program} {w w':World} {ops:Array Oper} {rest:List Oper} {o:Oper} {a:Act} {Q:Exit→Act→World→Prop} (d:o.guard=none) (s x:Operand) (t:TypeId)
  (e:o.op=.call {callee:=.builtin .append,args:=#[s,x],argTypes:=#[t,t]}) (v u b:Value) (g:a.eval s=v) (i:a.eval x=u) (f:(Builtin.append_ #[t,t] o.type #[v,u]).run P w=.ok b w')
  (h:wpList P ops Q rest (a.put o.dst b) w'):wpList P ops Q (o::rest) a w:=by
 refine wpList_plain d fun K c=>?_;unfold Oper.wp;simp[execOp,e,resolve,invoke,builtin,g,i,f,Result.andThen];exact c _ _ h
theorem ints_src {w W:World} {q:Option Addr} {b off:Nat} {zs:List Int} (d:0<zs.length→q=some ⟨b,off,none⟩) (i:IntsAt w b off zs) (g:Below w.heap.size w W):(0<zs.length→q.isSome=true)∧∀a,q=some a→∀j u,(ints zs)[j]? =some u→W.cell? (a.add j)=some u:=by
 refine⟨fun h=>by rw[d h];rfl,fun a e j u c=>?_⟩;by_cases f:0<zs.length
 ·rw[d f] at e
  cases e
  exact ints_at (i.below g) j u c
 ·have:zs=[]:=List.length_eq_zero_iff.1 (by omega);rw[this] at c;simp[ints] at c
set_option maxRecDepth 100000
set_option maxHeartbeats 4000000
theorem copyAll_any (v:Value) (ls:List (List Int)) (w:World) (W:ListsIn w v ls) (hl:ls.length≤1000) (D:∀l∈ls,l.length≤1000):
  Calls Tryz.prog 134 #[v] w fun r w'=>∃u,r=.returned u∧OwnL w' w.heap.size w'.heap.size 22 3 1 ls.length u (ci ls)∧Below w.heap.size w w':=by
 obtain⟨q,b,off,cap,rfl,E,I⟩:=W;have O:=hid E;have S:=hid I;have R:=hid D;have af:(ls.length:Int)≤1000:=by omega
 have mk:=make_row Tryz.underlying25 infoL (by decide) (by decide) ls.length hl w;rw[made_nil] at mk;have A:=hid (Part.start w ls.length 22 3 1 (ci ls) (by unfold maxLen;omega) _ rfl);have t:=hid (bal (aj w.heap.size w) (.cells (Array.replicate ls.length (Value.slice none 0 0)) 22));clear E I D;go_enter Tryz.func134,Tryz.ntmps134
 go_wp2_with fail
 generalize World.alloc _ _=Y at A t ⊢;clear mk
 go_loopw [4] (fun i wr=>∃(k:Nat),k≤ls.length∧i=.int .i64 k∧Hid (∃us m,Part wr w.heap.size ls.length 22 3 1 (ci ls) k us m∧∀j,j<k→m j≤m (j+1))∧Hid (Below w.heap.size w wr)) (fun i _=>ls.length - (intOf i).toNat)
 case atStart=>exact⟨0,by omega,rfl,hid ⟨[],_,A.out,fun j U=>by omega⟩,t⟩
 case round=>
  obtain⟨k,hk,rfl,h,g⟩:=hrel;by_cases d:k<ls.length
  ·have ah:(k:Int)<(ls.length:Int):=by omega
   obtain⟨us,m,a,f⟩:=h.out;have V:=O.out (by omega);subst V;obtain⟨x,s,X⟩:=S.out k d;have C:=(g.out.cell (al _ _ s)).trans s;have ab:=(bJ wr (.cells #[] 3) _ (al _ _ C)).trans C;obtain⟨q1,b1,ai,T,rfl,F,J⟩:=X;have p:=ints_src F J (bal g.out (.cells #[] 3));obtain⟨K,B,w1,G,H,c⟩:=run_app_new (P:=Tryz.prog) wr 22 22 3 (.int .i64 0) 1 8 Tryz.underlying22 infoI rfl (by decide) q1 ls[k].length T (ints ls[k]) p.1 (ints_len _) p.2 (ints_one _) (R.out _ (aw d)) (by decide);have y:=hid (show (ci ls) k=(ls[k].length,ints ls[k]) by unfold ci;rw[aa,ac d];rfl);have Z:=(a.below c).cell d;have fk:=(a.below c).row.frozenAt k;have N:=hid (a.more d c (u:=.slice K ls[k].length B) (by rw[y.out];exact H));have L:=hid (bset (btr g.out c) (o:=k) (au _) (.slice K ls[k].length B));have M:=hid (show m k≤w1.heap.size from aD a.hi c.size);have n:=hid f;have Q:=hid G;clear s a f h F J p H c y G;go_wp2_with (at_builtin;refine wpList_app rfl _ _ _ rfl _ _ _ rfl rfl Q.out ?_)
   refine⟨⟨k+1,by omega,by go_num,hid ⟨_,_,N.out,fun j U=>?_⟩,L⟩,by simp[intOf];omega⟩;by_cases e:j<k
   ·rw[ag (by omega),ag (by omega)];exact n.out j e
   ·rw[ag (by omega),ae (by omega),show j=k by omega];exact M.out
  ·obtain rfl:k=ls.length:=by omega
   have ad:¬((ls.length:Int)<(ls.length:Int)):=by omega
   obtain⟨us,m,a,f⟩:=h.out;have z:=hid a;have n:=hid f;clear a f h;go_wp2_with fail
   go_ret
   exact⟨_,rfl,⟨w.heap.size,us,m,rfl,au _,z.out.hi,n.out,z.out⟩,g.out⟩
set_option maxRecDepth 512
set_option maxHeartbeats 200000
theorem own_belowN {w w':World} {N B e size n:Nat} {v:Value} {xs:List Value} (h:w.ownsRow B e size v n xs) (j:∀k,v.ownBlock=some k→k<N) (i:Below N w w'):w'.ownsRow B e size v n xs:=by
 refine⟨h.1,?_⟩;rcases h.2 with b|⟨g,cap,a,rfl,c,d,f⟩
 ·exact .inl b
 ·exact .inr ⟨g,cap,a,rfl,c,by rw[i.block g (j g rfl)];exact d,f⟩
theorem InO.belowN {w w':World} {N lo hi I s:Nat} {u:Value} {c:Nat×List Value} (h:InO w lo hi I s u c) (a:hi≤N) (b:Below N w w'):InO w' lo hi I s u c:=⟨own_belowN h.1 (fun k hk=>aB (h.2 k hk) a) b,h.2⟩
theorem OwnL.belowN {w w':World} {N lo hi O I s n:Nat} {v:Value} {cc:Nat→Nat×List Value} (h:OwnL w lo hi O I s n v cc) (e:hi≤N) (i:Below N w w') (p:N≤w'.heap.size):OwnL w' lo hi O I s n v cc:=by
 obtain⟨g,us,m,l,o,b,f,a⟩:=h;have up:∀d j,j+d=n→m j≤m n:=fun d=>by
  induction d with
  |zero=>intro j c;rw[show j=n by omega];exact au _
  |succ d ih=>intro j c;exact aD (f j (by omega)) (ih (j+1) (by omega))
 have q:g<N:=aB (a.lo n (au _)) (aD b e);refine⟨g,us,m,l,o,b,f,⟨a.len,own_belowN a.row (fun k hk=>?_) i,a.lo,aD b (aD e p),fun j c=>(a.each j c).belowN (aD (up (n - (j+1)) (j+1) (by rw[a.len] at c;omega)) (aD b e)) i⟩⟩;have:g=k:=by simpa [Value.ownBlock] using hk
 omega
structure CS (w:World) (V:Nat→Value) (W:World) (xs:List Value):Prop where
 bel:Below w.heap.size w W
 src:W.rangeAt w.heap.size 0 (arr11 V).toList
 out:W.rangeAt (w.heap.size+2) 0 xs
 th:W.there (w.heap.size+2) 0 11
 res:W.there (w.heap.size+1) 0 11
 sz:w.heap.size+3≤W.heap.size
theorem CS.grow {w W b:World} {V:Nat→Value} {xs:List Value} (h:CS w V W xs) (a:Below W.heap.size W b):CS w V b xs:=
 ⟨btr h.bel a,d9 h.src a,d9 h.out a,cU h.th a,cU h.res a,aD h.sz a.size⟩
theorem CS.put {w W:World} {V:Nat→Value} {xs:List Value} (h:CS w V W xs) {j:Nat} (a:j<xs.length) (v:Value):CS w V (W.setCell ⟨w.heap.size+2,j,none⟩ v) (xs.set j v):=
 ⟨bset h.bel (by omega) v,range_far h.src (by omega) v,range_set h.out a v,there_set h.th _ v,there_set h.res _ v,by simpa using h.sz⟩
theorem CS.cell {w W:World} {V:Nat→Value} {xs:List Value} (h:CS w V W xs) {j:Nat} {v:Value} (a:(arr11 V).toList[j]? =some v):W.cell? ⟨w.heap.size,j,none⟩=some v:=af h.src a
theorem CS.ocell {w W:World} {V:Nat→Value} {xs:List Value} (h:CS w V W xs) {j:Nat} {v:Value} (a:xs[j]? =some v):W.cell? ⟨w.heap.size+2,j,none⟩=some v:=af h.out a
theorem CS.frz {w W:World} {V:Nat→Value} {xs:List Value} (h:CS w V W xs) {j:Nat} (a:j<11):W.frozen? ⟨w.heap.size+2,j,none⟩=false:=by
 have:=(h.th j a).2
 rwa [aC] at this
theorem there_N {N:Nat} {w w':World} {b n:Nat} (h:w.there b 0 n) (c:Below N w w') (a:b<N):w'.there b 0 n:=fun j f=>by
 obtain⟨d,e⟩:=h j f;exact⟨by rw[c.cell (p:=⟨b,0+j,none⟩) a];exact d,by rw[c.frozen (p:=⟨b,0+j,none⟩) a];exact e⟩
theorem range_N {N:Nat} {w w':World} {b:Nat} {cs:List Value} (h:w.rangeAt b 0 cs) (c:Below N w w') (a:b<N):w'.rangeAt b 0 cs:=fun j v d=>(c.cell (p:=⟨b,0+j,none⟩) a).trans (h j v d)
theorem CS.growN {w W b:World} {N:Nat} {V:Nat→Value} {xs:List Value} (h:CS w V W xs) (c:w.heap.size+3≤N) (a:Below N W b) (d:N≤b.heap.size):CS w V b xs:=
 ⟨h.bel.trans (a.mono (by omega)),range_N h.src a (by omega),range_N h.out a (by omega),there_N h.th a (by omega),there_N h.res a (by omega),aD c d⟩
theorem rows_src {n:Nat} {w W:World} {q:Option Addr} {b off:Nat} {fs:List (Nat→Int)} (d:0<fs.length→q=some ⟨b,off,none⟩) (i:∀j (h:j<fs.length),w.rangeAt b (off+j*n) (cf n fs[j])) (g:Below w.heap.size w W):(0<fs.length→q.isSome=true)∧∀c,q=some c→∀j u,(rowsC n fs)[j]? =some u→W.cell? (c.add j)=some u:=by
 refine⟨fun h=>by rw[d h];rfl,fun c e j u a=>?_⟩;by_cases f:0<fs.length
 ·rw[d f] at e
  cases e
  exact rowsC_cells (fun j a=>range_belowO (i j a) g) j u a
 ·have:fs=[]:=List.length_eq_zero_iff.1 (by omega);rw[this] at a;simp[rowsC] at a
theorem ents_src {w W:World} {q:Option Addr} {b off:Nat} {l:List Ent} (d:0<l.length→q=some ⟨b,off,none⟩) (i:EntsAt w b off l) (g:Below w.heap.size w W):(0<l.length→q.isSome=true)∧∀a,q=some a→∀j u,(cellsE l)[j]? =some u→W.cell? (a.add j)=some u:=by
 refine⟨fun h=>by rw[d h];rfl,fun a e j u c=>?_⟩;by_cases f:0<l.length
 ·rw[d f] at e
  cases e
  exact ents_cells (i.below g) j u c
 ·have:l=[]:=List.length_eq_zero_iff.1 (by omega);rw[this] at c;simp[cellsE] at c
theorem wp_app1 {P:Program} {w w':World} {o:Oper} {a:Act} {K:Act→World→Prop} {Q:Exit→Act→World→Prop} (s x:Operand) (t:TypeId)
  (c:o.op=.call {callee:=.builtin .append,args:=#[s,x],argTypes:=#[t,t]}) (v u b:Value) (e:a.eval s=v) (f:a.eval x=u) (d:(Builtin.append_ #[t,t] o.type #[v,u]).run P w=.ok b w')
  (h:K (a.put o.dst b) w'):o.wp P a w K Q:=by
 unfold Oper.wp;simp[execOp,c,resolve,invoke,builtin,e,f,d,Result.andThen];exact h
theorem IntsIn.one {w:World} {v:Value} {zs:List Int} (h:IntsIn w v zs):v.oneCell'=true:=by obtain⟨q,b,off,cap,rfl,_⟩:=h;rfl
theorem ListsIn.one {w:World} {v:Value} {zs:List (List Int)} (h:ListsIn w v zs):v.oneCell'=true:=by obtain⟨q,b,off,cap,rfl,_⟩:=h;rfl
theorem TlbsIn.one {w:World} {v:Value} {zs:List (List Ent)} (h:TlbsIn w v zs):v.oneCell'=true:=by obtain⟨q,b,off,cap,rfl,_⟩:=h;rfl
theorem RowsIn.one {n:Nat} {w:World} {v:Value} {zs:List (Nat→Int)} (h:RowsIn n w v zs):v.oneCell'=true:=by obtain⟨q,b,off,cap,rfl,_⟩:=h;rfl
theorem there_sets {b n B:Nat}:∀(a:List Value) (o:Nat) (w:World),w.there b 0 n→(w.setCells B o a).there b 0 n
 |[],_,_,h=>h
 |v::r,o,w,h=>by
  rw[World.setCells];exact there_sets r (o+1) _ (there_set h ⟨B,o,none⟩ v)
theorem world_one {w:World} {V:Nat→Value} {p:PW} (h:WorldV w V p):(arr11 V).all (·.oneCell')=true:=Array.all_eq_true'.2 fun x a=>by
 simp only[List.mem_toArray,bQ,dJ,or_false] at a;rcases a with rfl|rfl|rfl|rfl|rfl|rfl|rfl|rfl|rfl|rfl|rfl
 ·exact h.ram.one
 ·exact h.kinds.one
 ·exact h.slots.one
 ·exact h.tasks.one
 ·exact h.lines.one
 ·exact h.bits.one
 ·exact h.cores.one
 ·exact h.ready.one
 ·exact h.tlbs.one
 ·exact h.doms.one
 ·rw[h.time];rfl
set_option maxRecDepth 100000
set_option maxHeartbeats 20000000
theorem copy_ref (V:Nat→Value) (p:PW) (w:World) (hv:WorldV w V p) (hp:p.Fits):
  Calls Tryz.prog 85 #[.agg (arr11 V)] w fun r w'=>∃V' L,r=.returned (.agg (arr11 V'))∧WorldO w' L V' p∧w.heap.size≤L 0∧L 10≤w'.heap.size∧Below w.heap.size w w':=by
 have aT:=boxed w V 28;have aO:=d9 aT (bal (aj _ (w.alloc (.cells (arr11 V) 28))) (.cells #[.slice none 0 0,.slice none 0 0,.slice none 0 0,.slice none 0 0,.slice none 0 0,.slice none 0 0,.slice none 0 0,.slice none 0 0,.slice none 0 0,.slice none 0 0,.int .i64 0] 28));have RG:=hid aO;have aU:=d9 aO (bal (aj _ ((w.alloc (.cells (arr11 V) 28)).alloc (.cells #[.slice none 0 0,.slice none 0 0,.slice none 0 0,.slice none 0 0,.slice none 0 0,.slice none 0 0,.slice none 0 0,.slice none 0 0,.slice none 0 0,.slice none 0 0,.int .i64 0] 28))) (.cells #[.slice none 0 0,.slice none 0 0,.slice none 0 0,.slice none 0 0,.slice none 0 0,.slice none 0 0,.slice none 0 0,.slice none 0 0,.slice none 0 0,.slice none 0 0,.int .i64 0] 28));have TO:=hid (aM ((w.alloc (.cells (arr11 V) 28)).alloc (.cells #[.slice none 0 0,.slice none 0 0,.slice none 0 0,.slice none 0 0,.slice none 0 0,.slice none 0 0,.slice none 0 0,.slice none 0 0,.slice none 0 0,.slice none 0 0,.int .i64 0] 28)) #[.slice none 0 0,.slice none 0 0,.slice none 0 0,.slice none 0 0,.slice none 0 0,.slice none 0 0,.slice none 0 0,.slice none 0 0,.slice none 0 0,.slice none 0 0,.int .i64 0] 28 (w.heap.size+2) 11 (by simp) (by decide));have TR:=hid (cU (aM (w.alloc (.cells (arr11 V) 28)) #[.slice none 0 0,.slice none 0 0,.slice none 0 0,.slice none 0 0,.slice none 0 0,.slice none 0 0,.slice none 0 0,.slice none 0 0,.slice none 0 0,.slice none 0 0,.int .i64 0] 28 (w.heap.size+1) 11 (by simp) (by decide)) (bal (aj _ ((w.alloc (.cells (arr11 V) 28)).alloc (.cells #[.slice none 0 0,.slice none 0 0,.slice none 0 0,.slice none 0 0,.slice none 0 0,.slice none 0 0,.slice none 0 0,.slice none 0 0,.slice none 0 0,.slice none 0 0,.int .i64 0] 28))) (.cells #[.slice none 0 0,.slice none 0 0,.slice none 0 0,.slice none 0 0,.slice none 0 0,.slice none 0 0,.slice none 0 0,.slice none 0 0,.slice none 0 0,.slice none 0 0,.int .i64 0] 28)));have one:=hid (world_one hv);have H0:=hid (show CS w V ((((w.alloc (.cells (arr11 V) 28)).alloc (.cells #[.slice none 0 0,.slice none 0 0,.slice none 0 0,.slice none 0 0,.slice none 0 0,.slice none 0 0,.slice none 0 0,.slice none 0 0,.slice none 0 0,.slice none 0 0,.int .i64 0] 28)).alloc (.cells #[.slice none 0 0,.slice none 0 0,.slice none 0 0,.slice none 0 0,.slice none 0 0,.slice none 0 0,.slice none 0 0,.slice none 0 0,.slice none 0 0,.slice none 0 0,.int .i64 0] 28)).setCells (w.heap.size+2) 0 (arr11 V).toList) (arr11 V).toList from⟨dZ (bal (bal (bal (aj w.heap.size w) (.cells (arr11 V) 28)) (.cells #[.slice none 0 0,.slice none 0 0,.slice none 0 0,.slice none 0 0,.slice none 0 0,.slice none 0 0,.slice none 0 0,.slice none 0 0,.slice none 0 0,.slice none 0 0,.int .i64 0] 28)) (.cells #[.slice none 0 0,.slice none 0 0,.slice none 0 0,.slice none 0 0,.slice none 0 0,.slice none 0 0,.slice none 0 0,.slice none 0 0,.slice none 0 0,.slice none 0 0,.int .i64 0] 28)) (by omega) _ 0,
  fun k v hk=>by
   rw[World.cell?_setCells_out (w.heap.size+2) _ 0 _ ⟨w.heap.size,0+k,none⟩ (fun e _=>by simp at e)];exact aU k v hk,
  World.rangeAt_setCells_same _ (w.heap.size+2) 0 (arr11 V).toList TO.out,there_sets (arr11 V).toList 0 _ TO.out,there_sets (arr11 V).toList 0 _ TR.out,by rw[setCells_size];simp⟩)
 clear aT aO aU;obtain⟨q0,b0,bZ,bD,e0,aY,a6⟩:=hv.ram;have bf:=hid aY;have bq:=hid a6;clear aY a6;obtain⟨q1,b1,bR,ay,e1,aF,aG⟩:=hv.kinds;have bg:=hid aF;have br:=hid aG;clear aF aG;obtain⟨q2,b2,cc,bE,e2,aZ,a7⟩:=hv.slots;have bh:=hid aZ;have bs:=hid a7;clear aZ a7;obtain⟨q3,b3,cd,bF,e3,a0,a8⟩:=hv.tasks;have bj:=hid a0;have bu:=hid a8;clear a0 a8;obtain⟨q4,b4,cg,bT,e4, -, -⟩:=hv.lines;obtain⟨q5,b5,cj,bG,e5,a2,a9⟩:=hv.bits;have bk:=hid a2;have bv:=hid a9;clear a2 a9;obtain⟨q6,b6,cm,bH,e6,a3,ba⟩:=hv.cores;have bn:=hid a3;have bz:=hid ba;clear a3 ba;obtain⟨q7,b7,cp,bU,e7, -, -⟩:=hv.ready;obtain⟨q8,b8,ax,aK,e8,a4,bb⟩:=hv.tlbs;have bo:=hid a4;have bA:=hid bb;clear a4 bb;obtain⟨q9,b9,cs,bI,e9,a5,bc⟩:=hv.doms;have bp:=hid a5;have bB:=hid bc;clear a5 bc;have HP:=hid hp;have aS:=hid (fun W (b:Below w.heap.size w W)=>hv.below b);have e10:=hv.time;clear hv hp;go_enter Tryz.func85,Tryz.ntmps85
 go_upto_region 2 with (first|((with_reducible refine gld 28 ?_);refine wp_ldWg (by rfl) _ rfl _ rfl V RG.out ?_)|((with_reducible refine gst 28 ?_);refine wpList_store_mid rfl 28 _ _ rfl (w.heap.size+2) 0 (arr11 V) rfl rfl TO.out infoW one.out ?_))
 generalize World.setCells _ _ _ _=n at*;clear TO TR RG one;have M0:=hid (show ∀i,i<0→w.heap.size+2<(ll []) i from fun i hi=>by omega);have G0:=hid (H0.out.grow (bal (aj _ n) (.cells #[] 3)));have c0:=G0.out.cell (j:=0) rfl;have f:=ints_src bf.out bq.out G0.out.bel;obtain⟨C,s,w1,T,d,b⟩:=run_app_new (P:=Tryz.prog) n 22 22 3 (.int .i64 0) 1 8 Tryz.underlying22 infoI rfl (by decide) q0 p.ram.length bD (ints p.ram) f.1 (ints_len _) f.2 (ints_one _) HP.out.ram (by decide);have M:=hid T;have K0:=hid (H0.out.grow b);have oc:=K0.out.ocell (j:=0) rfl;have fz:=K0.out.frz (j:=0) (by decide);have H1:=hid (show CS w V (w1.setCell ⟨w.heap.size+2,0,none⟩ (.slice C p.ram.length s)) [.slice C p.ram.length s,V 1,V 2,V 3,V 4,V 5,V 6,V 7,V 8,V 9,V 10] from K0.out.put (j:=0) (show 0<11 by decide) (.slice C p.ram.length s));have l:=hid (show w.heap.size+2<n.heap.size from aB (bY _) H0.out.sz);have g:=hid (cy (show InO w1 n.heap.size w1.heap.size _ _ _ (p.ram.length,ints p.ram) from⟨d,fun x hx=>(d.lt x hx).2⟩) (a:=⟨w.heap.size+2,0,none⟩) l.out (.slice C p.ram.length s));have S1:=hid (show w1.heap.size=(w1.setCell ⟨w.heap.size+2,0,none⟩ (.slice C p.ram.length s)).heap.size by simp);have af:=hid (show n.heap.size≤w1.heap.size from b.size);clear T d b f G0 K0 l;go_upto_region 3 with (at_builtin;refine wpList_app rfl _ _ _ rfl _ _ _ rfl rfl M.out ?_)
 rw[S1.out] at af g;generalize World.setCell _ _ _=Q at*;clear oc fz c0 S1 M;have M1:=hid (show ∀i,i<1→w.heap.size+2<(ll [n.heap.size]) i from fun i hi=>by
  have:=H0.out.sz;have t0:=af.out;have ab:i=0:=by omega
  subst ab;show _<n.heap.size
  omega)
 have G1:=hid (H1.out.grow (bal (aj _ Q) (.cells #[] 3)));have c1:=G1.out.cell (j:=1) rfl;have f:=ints_src bg.out br.out G1.out.bel;obtain⟨D,t,w1,T,d,b⟩:=run_app_new (P:=Tryz.prog) Q 22 22 3 (.int .i64 0) 1 8 Tryz.underlying22 infoI rfl (by decide) q1 p.kinds.length ay (ints p.kinds) f.1 (ints_len _) f.2 (ints_one _) HP.out.kinds (by decide);have M:=hid T;have K1:=hid (H1.out.grow b);have oc:=K1.out.ocell (j:=1) rfl;have fz:=K1.out.frz (j:=1) (by decide);have H2:=hid (show CS w V (w1.setCell ⟨w.heap.size+2,1,none⟩ (.slice D p.kinds.length t)) [.slice C p.ram.length s,.slice D p.kinds.length t,V 2,V 3,V 4,V 5,V 6,V 7,V 8,V 9,V 10] from K1.out.put (j:=1) (show 1<11 by decide) (.slice D p.kinds.length t));have l:=hid (show w.heap.size+2<Q.heap.size from aB (bY _) H1.out.sz);have o:=hid (cy (show InO w1 Q.heap.size w1.heap.size _ _ _ (p.kinds.length,ints p.kinds) from⟨d,fun x hx=>(d.lt x hx).2⟩) (a:=⟨w.heap.size+2,1,none⟩) l.out (.slice D p.kinds.length t));have q:=hid (cy (bM g.out b) (a:=⟨w.heap.size+2,1,none⟩) (M1.out 0 (by decide)) (.slice D p.kinds.length t));have S2:=hid (show w1.heap.size=(w1.setCell ⟨w.heap.size+2,1,none⟩ (.slice D p.kinds.length t)).heap.size by simp);have ah:=hid (show Q.heap.size≤w1.heap.size from b.size);clear T d b f G1 K1 l;go_upto_region 4 with (at_builtin;refine wpList_app rfl _ _ _ rfl _ _ _ rfl rfl M.out ?_)
 clear g;have g:=q;clear q;rw[S2.out] at ah o;generalize World.setCell _ _ _=X at*;clear oc fz c1 S2 M;have M2:=hid (show ∀i,i<2→w.heap.size+2<(ll [n.heap.size,Q.heap.size]) i from fun i hi=>by
  have:=H0.out.sz;have t0:=af.out;have t1:=ah.out;have ab:i=0∨i=1:=by omega
  rcases ab with rfl|rfl
  ·show _<n.heap.size;omega
  ·show _<Q.heap.size;omega)
 have G2:=hid (H2.out.grow (bal (aj _ X) (.cells #[] 80)));have c2:=G2.out.cell (j:=2) rfl;have f:=rows_src bh.out bs.out G2.out.bel;obtain⟨E,y,w1,T,d,b⟩:=run_app_new (P:=Tryz.prog) X 23 23 80 (.agg #[.int .i64 0,.int .i64 0,.int .i64 0,.int .i64 0,.int .i64 0,.int .i64 0,.int .i64 0]) 7 56 Tryz.underlying23 infoslots rfl (by decide) q2 p.slots.length bE (rowsC 7 p.slots) f.1 (rowsC_len 7 _) f.2 (rowsC_one 7 _) HP.out.slots (by decide);have M:=hid T;have K2:=hid (H2.out.grow b);have oc:=K2.out.ocell (j:=2) rfl;have fz:=K2.out.frz (j:=2) (by decide);have H3:=hid (show CS w V (w1.setCell ⟨w.heap.size+2,2,none⟩ (.slice E p.slots.length y)) [.slice C p.ram.length s,.slice D p.kinds.length t,.slice E p.slots.length y,V 3,V 4,V 5,V 6,V 7,V 8,V 9,V 10] from K2.out.put (j:=2) (show 2<11 by decide) (.slice E p.slots.length y));have l:=hid (show w.heap.size+2<X.heap.size from aB (bY _) H2.out.sz);have N:=hid (cy (show InO w1 X.heap.size w1.heap.size _ _ _ (p.slots.length,rowsC 7 p.slots) from⟨d,fun x hx=>(d.lt x hx).2⟩) (a:=⟨w.heap.size+2,2,none⟩) l.out (.slice E p.slots.length y));have q:=hid (cy (bM g.out b) (a:=⟨w.heap.size+2,2,none⟩) (M2.out 0 (by decide)) (.slice E p.slots.length y));have O:=hid (cy (bM o.out b) (a:=⟨w.heap.size+2,2,none⟩) (M2.out 1 (by decide)) (.slice E p.slots.length y));have S3:=hid (show w1.heap.size=(w1.setCell ⟨w.heap.size+2,2,none⟩ (.slice E p.slots.length y)).heap.size by simp);have ai:=hid (show X.heap.size≤w1.heap.size from b.size);clear T d b f G2 K2 l;go_upto_region 5 with (at_builtin;refine wpList_app rfl _ _ _ rfl _ _ _ rfl rfl M.out ?_)
 clear g o;have g:=q;have o:=O;clear q O;rw[S3.out] at ai N;generalize World.setCell _ _ _=W3 at*;clear oc fz c2 S3 M;have M3:=hid (show ∀i,i<3→w.heap.size+2<(ll [n.heap.size,Q.heap.size,X.heap.size]) i from fun i hi=>by
  have:=H0.out.sz;have t0:=af.out;have t1:=ah.out;have t2:=ai.out;have ab:i=0∨i=1∨i=2:=by omega
  rcases ab with rfl|rfl|rfl
  ·show _<n.heap.size;omega
  ·show _<Q.heap.size;omega
  ·show _<X.heap.size;omega)
 have G3:=hid (H3.out.grow (bal (aj _ W3) (.cells #[] 45)));have c3:=G3.out.cell (j:=3) rfl;have f:=rows_src bj.out bu.out G3.out.bel;obtain⟨F,z,w1,T,d,b⟩:=run_app_new (P:=Tryz.prog) W3 24 24 45 (.agg #[.int .i64 0,.int .i64 0,.int .i64 0,.int .i64 0,.int .i64 0,.int .i64 0,.int .i64 0,.int .i64 0,.int .i64 0,.int .i64 0,.int .i64 0,.int .i64 0,.int .i64 0,.int .i64 0,.int .i64 0,.int .i64 0,.int .i64 0,.int .i64 0,.int .i64 0,.int .i64 0]) 20 160 Tryz.underlying24 infotasks rfl (by decide) q3 p.tasks.length bF (rowsC 20 p.tasks) f.1 (rowsC_len 20 _) f.2 (rowsC_one 20 _) HP.out.tasks (by decide);have M:=hid T;have K3:=hid (H3.out.grow b);have oc:=K3.out.ocell (j:=3) rfl;have fz:=K3.out.frz (j:=3) (by decide);have H4:=hid (show CS w V (w1.setCell ⟨w.heap.size+2,3,none⟩ (.slice F p.tasks.length z)) [.slice C p.ram.length s,.slice D p.kinds.length t,.slice E p.slots.length y,.slice F p.tasks.length z,V 4,V 5,V 6,V 7,V 8,V 9,V 10] from K3.out.put (j:=3) (show 3<11 by decide) (.slice F p.tasks.length z));have l:=hid (show w.heap.size+2<W3.heap.size from aB (bY _) H3.out.sz);have Y:=hid (cy (show InO w1 W3.heap.size w1.heap.size _ _ _ (p.tasks.length,rowsC 20 p.tasks) from⟨d,fun x hx=>(d.lt x hx).2⟩) (a:=⟨w.heap.size+2,3,none⟩) l.out (.slice F p.tasks.length z));have q:=hid (cy (bM g.out b) (a:=⟨w.heap.size+2,3,none⟩) (M3.out 0 (by decide)) (.slice F p.tasks.length z));have O:=hid (cy (bM o.out b) (a:=⟨w.heap.size+2,3,none⟩) (M3.out 1 (by decide)) (.slice F p.tasks.length z));have Z:=hid (cy (bM N.out b) (a:=⟨w.heap.size+2,3,none⟩) (M3.out 2 (by decide)) (.slice F p.tasks.length z));have S4:=hid (show w1.heap.size=(w1.setCell ⟨w.heap.size+2,3,none⟩ (.slice F p.tasks.length z)).heap.size by simp);have am:=hid (show W3.heap.size≤w1.heap.size from b.size);clear T d b f G3 K3 l;go_upto_region 6 with (at_builtin;refine wpList_app rfl _ _ _ rfl _ _ _ rfl rfl M.out ?_)
 clear g o N;have g:=q;have o:=O;have N:=Z;clear q O Z;rw[S4.out] at am Y;generalize World.setCell _ _ _=W4 at*;clear oc fz c3 S4 M;have M4:=hid (show ∀i,i<4→w.heap.size+2<(ll [n.heap.size,Q.heap.size,X.heap.size,W3.heap.size]) i from fun i hi=>by
  have:=H0.out.sz;have t0:=af.out;have t1:=ah.out;have t2:=ai.out;have t3:=am.out;have ab:i=0∨i=1∨i=2∨i=3:=by omega
  rcases ab with rfl|rfl|rfl|rfl
  ·show _<n.heap.size;omega
  ·show _<Q.heap.size;omega
  ·show _<X.heap.size;omega
  ·show _<W3.heap.size;omega)
 have c4:=H4.out.cell (j:=4) rfl;go_wp2_with fail
 refine (copyAll_any _ p.lines W4 (e4▸(aS.out _ H4.out.bel).lines) HP.out.lines HP.out.line).mono ?_;rintro r w1 ⟨u,rfl,d,b⟩;obtain⟨G,rfl⟩:=ownl_form d;have K4:=hid (H4.out.grow b);have oc:=K4.out.ocell (j:=4) rfl;have fz:=K4.out.frz (j:=4) (by decide);have H5:=hid (show CS w V (w1.setCell ⟨w.heap.size+2,4,none⟩ (.slice G p.lines.length p.lines.length)) [.slice C p.ram.length s,.slice D p.kinds.length t,.slice E p.slots.length y,.slice F p.tasks.length z,.slice G p.lines.length p.lines.length,V 5,V 6,V 7,V 8,V 9,V 10] from K4.out.put (j:=4) (show 4<11 by decide) (.slice G p.lines.length p.lines.length));have l:=hid (show w.heap.size+2<W4.heap.size from aB (bY _) H4.out.sz);have O4:=hid (OwnL.set d (a:=⟨w.heap.size+2,4,none⟩) l.out (.slice G p.lines.length p.lines.length));have q:=hid (cy (bM g.out b) (a:=⟨w.heap.size+2,4,none⟩) (M4.out 0 (by decide)) (.slice G p.lines.length p.lines.length));have O:=hid (cy (bM o.out b) (a:=⟨w.heap.size+2,4,none⟩) (M4.out 1 (by decide)) (.slice G p.lines.length p.lines.length));have Z:=hid (cy (bM N.out b) (a:=⟨w.heap.size+2,4,none⟩) (M4.out 2 (by decide)) (.slice G p.lines.length p.lines.length));have P3:=hid (cy (bM Y.out b) (a:=⟨w.heap.size+2,4,none⟩) (M4.out 3 (by decide)) (.slice G p.lines.length p.lines.length));have S5:=hid (show w1.heap.size=(w1.setCell ⟨w.heap.size+2,4,none⟩ (.slice G p.lines.length p.lines.length)).heap.size by simp);have an:=hid (show W4.heap.size≤w1.heap.size from b.size);clear d b K4 l;go_upto_region 7 with fail
 clear g o N Y;have g:=q;have o:=O;have N:=Z;have Y:=P3;clear q O Z P3;rw[S5.out] at an O4;generalize World.setCell _ _ _=W5 at*;clear oc fz c4 S5;have M5:=hid (show ∀i,i<5→w.heap.size+2<(ll [n.heap.size,Q.heap.size,X.heap.size,W3.heap.size,W4.heap.size]) i from fun i hi=>by
  have:=H0.out.sz;have t0:=af.out;have t1:=ah.out;have t2:=ai.out;have t3:=am.out;have t4:=an.out;have ab:i=0∨i=1∨i=2∨i=3∨i=4:=by omega
  rcases ab with rfl|rfl|rfl|rfl|rfl
  ·show _<n.heap.size;omega
  ·show _<Q.heap.size;omega
  ·show _<X.heap.size;omega
  ·show _<W3.heap.size;omega
  ·show _<W4.heap.size;omega)
 have G5:=hid (H5.out.grow (bal (aj _ W5) (.cells #[] 3)));have c5:=G5.out.cell (j:=5) rfl;have f:=ints_src bk.out bv.out G5.out.bel;obtain⟨H,A,w1,T,d,b⟩:=run_app_new (P:=Tryz.prog) W5 22 22 3 (.int .i64 0) 1 8 Tryz.underlying22 infoI rfl (by decide) q5 p.bits.length bG (ints p.bits) f.1 (ints_len _) f.2 (ints_one _) HP.out.bits (by decide);have M:=hid T;have K5:=hid (H5.out.grow b);have oc:=K5.out.ocell (j:=5) rfl;have fz:=K5.out.frz (j:=5) (by decide);have H6:=hid (show CS w V (w1.setCell ⟨w.heap.size+2,5,none⟩ (.slice H p.bits.length A)) [.slice C p.ram.length s,.slice D p.kinds.length t,.slice E p.slots.length y,.slice F p.tasks.length z,.slice G p.lines.length p.lines.length,.slice H p.bits.length A,V 6,V 7,V 8,V 9,V 10] from K5.out.put (j:=5) (show 5<11 by decide) (.slice H p.bits.length A));have l:=hid (show w.heap.size+2<W5.heap.size from aB (bY _) H5.out.sz);have O5:=hid (cy (show InO w1 W5.heap.size w1.heap.size _ _ _ (p.bits.length,ints p.bits) from⟨d,fun x hx=>(d.lt x hx).2⟩) (a:=⟨w.heap.size+2,5,none⟩) l.out (.slice H p.bits.length A));have q:=hid (cy (bM g.out b) (a:=⟨w.heap.size+2,5,none⟩) (M5.out 0 (by decide)) (.slice H p.bits.length A));have O:=hid (cy (bM o.out b) (a:=⟨w.heap.size+2,5,none⟩) (M5.out 1 (by decide)) (.slice H p.bits.length A));have Z:=hid (cy (bM N.out b) (a:=⟨w.heap.size+2,5,none⟩) (M5.out 2 (by decide)) (.slice H p.bits.length A));have P3:=hid (cy (bM Y.out b) (a:=⟨w.heap.size+2,5,none⟩) (M5.out 3 (by decide)) (.slice H p.bits.length A));have P4:=hid (OwnL.set (OwnL.below O4.out b) (a:=⟨w.heap.size+2,5,none⟩) (M5.out 4 (by decide)) (.slice H p.bits.length A));have S6:=hid (show w1.heap.size=(w1.setCell ⟨w.heap.size+2,5,none⟩ (.slice H p.bits.length A)).heap.size by simp);have ao:=hid (show W5.heap.size≤w1.heap.size from b.size);clear T d b f G5 K5 l;go_upto_region 8 with (at_builtin;refine wpList_app rfl _ _ _ rfl _ _ _ rfl rfl M.out ?_)
 clear g o N Y O4;have g:=q;have o:=O;have N:=Z;have Y:=P3;have O4:=P4;clear q O Z P3 P4;rw[S6.out] at ao O5;generalize World.setCell _ _ _=W6 at*;clear oc fz c5 S6 M;have M6:=hid (show ∀i,i<6→w.heap.size+2<(ll [n.heap.size,Q.heap.size,X.heap.size,W3.heap.size,W4.heap.size,W5.heap.size]) i from fun i hi=>by
  have:=H0.out.sz;have t0:=af.out;have t1:=ah.out;have t2:=ai.out;have t3:=am.out;have t4:=an.out;have t5:=ao.out;have ab:i=0∨i=1∨i=2∨i=3∨i=4∨i=5:=by omega
  rcases ab with rfl|rfl|rfl|rfl|rfl|rfl
  ·show _<n.heap.size;omega
  ·show _<Q.heap.size;omega
  ·show _<X.heap.size;omega
  ·show _<W3.heap.size;omega
  ·show _<W4.heap.size;omega
  ·show _<W5.heap.size;omega)
 have G6:=hid (H6.out.grow (bal (aj _ W6) (.cells #[] 3)));have c6:=G6.out.cell (j:=6) rfl;have f:=ints_src bn.out bz.out G6.out.bel;obtain⟨I,B,w1,T,d,b⟩:=run_app_new (P:=Tryz.prog) W6 22 22 3 (.int .i64 0) 1 8 Tryz.underlying22 infoI rfl (by decide) q6 p.cores.length bH (ints p.cores) f.1 (ints_len _) f.2 (ints_one _) HP.out.cores (by decide);have M:=hid T;have K6:=hid (H6.out.grow b);have oc:=K6.out.ocell (j:=6) rfl;have fz:=K6.out.frz (j:=6) (by decide);have H7:=hid (show CS w V (w1.setCell ⟨w.heap.size+2,6,none⟩ (.slice I p.cores.length B)) [.slice C p.ram.length s,.slice D p.kinds.length t,.slice E p.slots.length y,.slice F p.tasks.length z,.slice G p.lines.length p.lines.length,.slice H p.bits.length A,.slice I p.cores.length B,V 7,V 8,V 9,V 10] from K6.out.put (j:=6) (show 6<11 by decide) (.slice I p.cores.length B));have l:=hid (show w.heap.size+2<W6.heap.size from aB (bY _) H6.out.sz);have O6:=hid (cy (show InO w1 W6.heap.size w1.heap.size _ _ _ (p.cores.length,ints p.cores) from⟨d,fun x hx=>(d.lt x hx).2⟩) (a:=⟨w.heap.size+2,6,none⟩) l.out (.slice I p.cores.length B));have q:=hid (cy (bM g.out b) (a:=⟨w.heap.size+2,6,none⟩) (M6.out 0 (by decide)) (.slice I p.cores.length B));have O:=hid (cy (bM o.out b) (a:=⟨w.heap.size+2,6,none⟩) (M6.out 1 (by decide)) (.slice I p.cores.length B));have Z:=hid (cy (bM N.out b) (a:=⟨w.heap.size+2,6,none⟩) (M6.out 2 (by decide)) (.slice I p.cores.length B));have P3:=hid (cy (bM Y.out b) (a:=⟨w.heap.size+2,6,none⟩) (M6.out 3 (by decide)) (.slice I p.cores.length B));have P4:=hid (OwnL.set (OwnL.below O4.out b) (a:=⟨w.heap.size+2,6,none⟩) (M6.out 4 (by decide)) (.slice I p.cores.length B));have P5:=hid (cy (bM O5.out b) (a:=⟨w.heap.size+2,6,none⟩) (M6.out 5 (by decide)) (.slice I p.cores.length B));have S7:=hid (show w1.heap.size=(w1.setCell ⟨w.heap.size+2,6,none⟩ (.slice I p.cores.length B)).heap.size by simp);have ap:=hid (show W6.heap.size≤w1.heap.size from b.size);clear T d b f G6 K6 l;go_upto_region 9 with (at_builtin;refine wpList_app rfl _ _ _ rfl _ _ _ rfl rfl M.out ?_)
 clear g o N Y O4 O5;have g:=q;have o:=O;have N:=Z;have Y:=P3;have O4:=P4;have O5:=P5;clear q O Z P3 P4 P5;rw[S7.out] at ap O6;generalize World.setCell _ _ _=W7 at*;clear oc fz c6 S7 M;have M7:=hid (show ∀i,i<7→w.heap.size+2<(ll [n.heap.size,Q.heap.size,X.heap.size,W3.heap.size,W4.heap.size,W5.heap.size,W6.heap.size]) i from fun i hi=>by
  have:=H0.out.sz;have t0:=af.out;have t1:=ah.out;have t2:=ai.out;have t3:=am.out;have t4:=an.out;have t5:=ao.out;have t6:=ap.out;have ab:i=0∨i=1∨i=2∨i=3∨i=4∨i=5∨i=6:=by omega
  rcases ab with rfl|rfl|rfl|rfl|rfl|rfl|rfl
  ·show _<n.heap.size;omega
  ·show _<Q.heap.size;omega
  ·show _<X.heap.size;omega
  ·show _<W3.heap.size;omega
  ·show _<W4.heap.size;omega
  ·show _<W5.heap.size;omega
  ·show _<W6.heap.size;omega)
 have c7:=H7.out.cell (j:=7) rfl;go_wp2_with fail
 refine (copyAll_any _ p.ready W7 (e7▸(aS.out _ H7.out.bel).ready) HP.out.ready HP.out.next).mono ?_;rintro r w1 ⟨u,rfl,d,b⟩;obtain⟨J,rfl⟩:=ownl_form d;have K7:=hid (H7.out.grow b);have oc:=K7.out.ocell (j:=7) rfl;have fz:=K7.out.frz (j:=7) (by decide);have H8:=hid (show CS w V (w1.setCell ⟨w.heap.size+2,7,none⟩ (.slice J p.ready.length p.ready.length)) [.slice C p.ram.length s,.slice D p.kinds.length t,.slice E p.slots.length y,.slice F p.tasks.length z,.slice G p.lines.length p.lines.length,.slice H p.bits.length A,.slice I p.cores.length B,.slice J p.ready.length p.ready.length,V 8,V 9,V 10] from K7.out.put (j:=7) (show 7<11 by decide) (.slice J p.ready.length p.ready.length));have l:=hid (show w.heap.size+2<W7.heap.size from aB (bY _) H7.out.sz);have O7:=hid (OwnL.set d (a:=⟨w.heap.size+2,7,none⟩) l.out (.slice J p.ready.length p.ready.length));have q:=hid (cy (bM g.out b) (a:=⟨w.heap.size+2,7,none⟩) (M7.out 0 (by decide)) (.slice J p.ready.length p.ready.length));have O:=hid (cy (bM o.out b) (a:=⟨w.heap.size+2,7,none⟩) (M7.out 1 (by decide)) (.slice J p.ready.length p.ready.length));have Z:=hid (cy (bM N.out b) (a:=⟨w.heap.size+2,7,none⟩) (M7.out 2 (by decide)) (.slice J p.ready.length p.ready.length));have P3:=hid (cy (bM Y.out b) (a:=⟨w.heap.size+2,7,none⟩) (M7.out 3 (by decide)) (.slice J p.ready.length p.ready.length));have P4:=hid (OwnL.set (OwnL.below O4.out b) (a:=⟨w.heap.size+2,7,none⟩) (M7.out 4 (by decide)) (.slice J p.ready.length p.ready.length));have P5:=hid (cy (bM O5.out b) (a:=⟨w.heap.size+2,7,none⟩) (M7.out 5 (by decide)) (.slice J p.ready.length p.ready.length));have P6:=hid (cy (bM O6.out b) (a:=⟨w.heap.size+2,7,none⟩) (M7.out 6 (by decide)) (.slice J p.ready.length p.ready.length));have S8:=hid (show w1.heap.size=(w1.setCell ⟨w.heap.size+2,7,none⟩ (.slice J p.ready.length p.ready.length)).heap.size by simp);have ar:=hid (show W7.heap.size≤w1.heap.size from b.size);clear d b K7 l;go_upto_region 10 with fail
 clear g o N Y O4 O5 O6;have g:=q;have o:=O;have N:=Z;have Y:=P3;have O4:=P4;have O5:=P5;have O6:=P6;clear q O Z P3 P4 P5 P6;rw[S8.out] at ar O7;generalize World.setCell _ _ _=c at*;clear oc fz c7 S8;have M8:=hid (show ∀i,i<8→w.heap.size+2<(ll [n.heap.size,Q.heap.size,X.heap.size,W3.heap.size,W4.heap.size,W5.heap.size,W6.heap.size,W7.heap.size]) i from fun i hi=>by
  have:=H0.out.sz;have t0:=af.out;have t1:=ah.out;have t2:=ai.out;have t3:=am.out;have t4:=an.out;have t5:=ao.out;have t6:=ap.out;have t7:=ar.out;have ab:i=0∨i=1∨i=2∨i=3∨i=4∨i=5∨i=6∨i=7:=by omega
  rcases ab with rfl|rfl|rfl|rfl|rfl|rfl|rfl|rfl
  ·show _<n.heap.size;omega
  ·show _<Q.heap.size;omega
  ·show _<X.heap.size;omega
  ·show _<W3.heap.size;omega
  ·show _<W4.heap.size;omega
  ·show _<W5.heap.size;omega
  ·show _<W6.heap.size;omega
  ·show _<W7.heap.size;omega)
 have bW:(p.tlbs.length:Int)≤1000:=by have:=HP.out.tlbs;omega
 have mk:=make_row Tryz.underlying26 infoB (by decide) (by decide) p.tlbs.length HP.out.tlbs c;rw[made_nil] at mk;have l:=hid (show w.heap.size+2<c.heap.size from aB (bY _) H8.out.sz);have q:=hid (Part.set (Part.start c p.tlbs.length 31 56 4 (ce p.tlbs) (by have:=HP.out.tlbs;unfold maxLen;omega) _ rfl) (a:=⟨w.heap.size+2,8,none⟩) l.out (.slice (some ⟨c.heap.size,0,none⟩) p.tlbs.length p.tlbs.length));have c8:=H8.out.cell (j:=8) rfl;have bC:=(bJ c (.cells (Array.replicate p.tlbs.length (Value.slice none 0 0)) 31) _ (al _ _ c8)).trans c8;have K8:=hid (H8.out.grow (bal (aj _ c) (.cells (Array.replicate p.tlbs.length (Value.slice none 0 0)) 31)));have oc:=K8.out.ocell (j:=8) rfl;have fz:=K8.out.frz (j:=8) (by decide);have Ha:=hid (show CS w V ((c.alloc (.cells (Array.replicate p.tlbs.length (Value.slice none 0 0)) 31)).setCell ⟨w.heap.size+2,8,none⟩ (.slice (some ⟨c.heap.size,0,none⟩) p.tlbs.length p.tlbs.length)) [.slice C p.ram.length s,.slice D p.kinds.length t,.slice E p.slots.length y,.slice F p.tasks.length z,.slice G p.lines.length p.lines.length,.slice H p.bits.length A,.slice I p.cores.length B,.slice J p.ready.length p.ready.length,.slice (some ⟨c.heap.size,0,none⟩) p.tlbs.length p.tlbs.length,V 9,V 10] from K8.out.put (j:=8) (show 8<11 by decide) (.slice (some ⟨c.heap.size,0,none⟩) p.tlbs.length p.tlbs.length));have O:=hid (cy (bM g.out (bal (aj _ c) (.cells (Array.replicate p.tlbs.length (Value.slice none 0 0)) 31))) (a:=⟨w.heap.size+2,8,none⟩) (M8.out 0 (by decide)) (.slice (some ⟨c.heap.size,0,none⟩) p.tlbs.length p.tlbs.length));have Z:=hid (cy (bM o.out (bal (aj _ c) (.cells (Array.replicate p.tlbs.length (Value.slice none 0 0)) 31))) (a:=⟨w.heap.size+2,8,none⟩) (M8.out 1 (by decide)) (.slice (some ⟨c.heap.size,0,none⟩) p.tlbs.length p.tlbs.length));have P3:=hid (cy (bM N.out (bal (aj _ c) (.cells (Array.replicate p.tlbs.length (Value.slice none 0 0)) 31))) (a:=⟨w.heap.size+2,8,none⟩) (M8.out 2 (by decide)) (.slice (some ⟨c.heap.size,0,none⟩) p.tlbs.length p.tlbs.length));have P4:=hid (cy (bM Y.out (bal (aj _ c) (.cells (Array.replicate p.tlbs.length (Value.slice none 0 0)) 31))) (a:=⟨w.heap.size+2,8,none⟩) (M8.out 3 (by decide)) (.slice (some ⟨c.heap.size,0,none⟩) p.tlbs.length p.tlbs.length));have P5:=hid (OwnL.set (OwnL.below O4.out (bal (aj _ c) (.cells (Array.replicate p.tlbs.length (Value.slice none 0 0)) 31))) (a:=⟨w.heap.size+2,8,none⟩) (M8.out 4 (by decide)) (.slice (some ⟨c.heap.size,0,none⟩) p.tlbs.length p.tlbs.length));have P6:=hid (cy (bM O5.out (bal (aj _ c) (.cells (Array.replicate p.tlbs.length (Value.slice none 0 0)) 31))) (a:=⟨w.heap.size+2,8,none⟩) (M8.out 5 (by decide)) (.slice (some ⟨c.heap.size,0,none⟩) p.tlbs.length p.tlbs.length));have P7:=hid (cy (bM O6.out (bal (aj _ c) (.cells (Array.replicate p.tlbs.length (Value.slice none 0 0)) 31))) (a:=⟨w.heap.size+2,8,none⟩) (M8.out 6 (by decide)) (.slice (some ⟨c.heap.size,0,none⟩) p.tlbs.length p.tlbs.length));have P8:=hid (OwnL.set (OwnL.below O7.out (bal (aj _ c) (.cells (Array.replicate p.tlbs.length (Value.slice none 0 0)) 31))) (a:=⟨w.heap.size+2,8,none⟩) (M8.out 7 (by decide)) (.slice (some ⟨c.heap.size,0,none⟩) p.tlbs.length p.tlbs.length));have Sa:=hid (show c.heap.size≤((c.alloc (.cells (Array.replicate p.tlbs.length (Value.slice none 0 0)) 31)).setCell ⟨w.heap.size+2,8,none⟩ (.slice (some ⟨c.heap.size,0,none⟩) p.tlbs.length p.tlbs.length)).heap.size by simp);clear g o N Y O4 O5 O6 O7 K8;go_upto_region 11 with fail
 generalize World.setCell _ _ _=Wa at*;clear mk c8 bC oc fz;go_wp2_with fail
 go_loopw [4] (fun i wr=>∃(k:Nat),k≤p.tlbs.length∧i=.int .i64 k∧Hid (∃us m,Part wr c.heap.size p.tlbs.length 31 56 4 (ce p.tlbs) k us m∧∀j,j<k→m j≤m (j+1))∧Hid (Below c.heap.size Wa wr)) (fun i _=>p.tlbs.length - (intOf i).toNat)
 case atStart=>exact⟨0,by omega,rfl,hid ⟨[],_,q.out,fun j hj=>by omega⟩,hid (aj _ _)⟩
 case round=>
  obtain⟨k,hk,rfl,aN,ad⟩:=hrel;obtain⟨uz,m,aw,aL⟩:=aN.out;have aC:c.heap.size≤wr.heap.size:=aD (Nat.le_of_lt (aw.lo k (au _))) aw.hi;have HC:=hid (Ha.out.growN H8.out.sz ad.out aC);have c8:=HC.out.cell (j:=8) rfl;by_cases aE:k<p.tlbs.length
  ·have bX:(k:Int)<(p.tlbs.length:Int):=by omega
   have bP:=bo.out (by omega);subst bP;obtain⟨x,hx,bQ, -⟩:=bA.out k aE;obtain⟨q1,b1,bR,ay,rfl,aF,aG,bV⟩:=bQ;have bx:=al _ _ hx;have bO:b8≠c.heap.size:=by
    have:b8<w.heap.size:=bx;have:=H8.out.sz;omega
   have BD:=aA wr 1;have aJ:=hid (HC.out.grow BD);have f:=ents_src aF aG (bal aJ.out.bel (.cells #[] 56));obtain⟨qv,cv,w1,T,d,b⟩:=run_app_new (P:=Tryz.prog) wr.drew 31 31 56 (.agg #[.int .i64 0,.int .i64 0,.int .i64 0,.bool false]) 4 32 Tryz.underlying31 infoEnt rfl (by decide) q1 p.tlbs[k].length ay (cellsE p.tlbs[k]) f.1 (cellsE_len _) f.2 (cellsE_one _) (by omega) (by decide);have aR:=hid (show (ce p.tlbs) k=(p.tlbs[k].length,cellsE p.tlbs[k]) by unfold ce;rw[aa,ac aE];rfl);have az:Below wr.heap.size wr w1:=btr BD b;have ck:=(aw.below az).cell aE;have fk:=(aw.below az).row.frozenAt k;have HN:=hid (aw.more aE az (u:=.slice qv p.tlbs[k].length cv) (by rw[aR.out];exact d));have B1:=hid (show Below c.heap.size Wa (w1.setCell ⟨c.heap.size,k,none⟩ (.slice qv p.tlbs[k].length cv)) from (ad.out.trans (az.mono aC)).setCell (au _) _);have H1:=hid (show m k≤w1.heap.size from aD aw.hi az.size);have HM:=hid aL;have KS:=hid (show ∀W,CS w V W [.slice C p.ram.length s,.slice D p.kinds.length t,.slice E p.slots.length y,.slice F p.tasks.length z,.slice G p.lines.length p.lines.length,.slice H p.bits.length A,.slice I p.cores.length B,.slice J p.ready.length p.ready.length,.slice (some ⟨c.heap.size,0,none⟩) p.tlbs.length p.tlbs.length,V 9,V 10]→(w.cell? ⟨b8,ax+k,none⟩=some (.slice q1 p.tlbs[k].length ay))→W.cell? ⟨w.heap.size,8,none⟩=some (.slice (some ⟨b8,ax,none⟩) p.tlbs.length aK)∧W.cell? ⟨w.heap.size+2,8,none⟩=some (.slice (some ⟨c.heap.size,0,none⟩) p.tlbs.length p.tlbs.length)∧W.cell? ⟨b8,ax+k,none⟩=some (.slice q1 p.tlbs[k].length ay) from fun W h hc=>⟨by rw[h.cell (j:=8) rfl,e8],h.ocell (j:=8) rfl,(h.bel.cell (al _ _ hc)).trans hc⟩);have S1:=hid (KS.out _ aJ.out hx);have S2:=hid (KS.out _ (aJ.out.grow (bal (aj _ wr.drew) (.cells #[] 56))) hx);have S3:=hid (KS.out _ (aJ.out.grow b) hx);have S4:=hid (show (fun W=>W.cell? ⟨w.heap.size,8,none⟩=some (.slice (some ⟨b8,ax,none⟩) p.tlbs.length aK)∧W.cell? ⟨w.heap.size+2,8,none⟩=some (.slice (some ⟨c.heap.size,0,none⟩) p.tlbs.length p.tlbs.length)∧W.cell? ⟨b8,ax+k,none⟩=some (.slice q1 p.tlbs[k].length ay)) (w1.setCell ⟨c.heap.size,k,none⟩ (.slice qv p.tlbs[k].length cv)) from⟨by rw[aI _ _ _ _ (fun e=>by have h:=cX Addr.block e;simp only at h;have:=H8.out.sz;omega)];exact S3.out.1,by rw[aI _ _ _ _ (fun e=>by have h:=cX Addr.block e;simp only at h;have:=H8.out.sz;omega)];exact S3.out.2.1,by rw[aI _ _ _ _ (fun e=>by have h:=cX Addr.block e;simp only at h;omega)];exact S3.out.2.2⟩);have M:=hid T;clear hx aw aL aN aF aG f d b aR T az bx bO KS BD;go_wp2_with fail
   refine wp_region_held_drew (S:=fun W=>W.cell? ⟨w.heap.size,8,none⟩=some (.slice (some ⟨b8,ax,none⟩) p.tlbs.length aK)∧W.cell? ⟨w.heap.size+2,8,none⟩=some (.slice (some ⟨c.heap.size,0,none⟩) p.tlbs.length p.tlbs.length)∧W.cell? ⟨b8,ax+k,none⟩=some (.slice q1 p.tlbs[k].length ay)) (by kernel_rfl) S1.out (fun av=>?_);have hH:=hid av;clear av;refine tk 0 (.pointer (some ⟨w.heap.size+2,8,none⟩)) rfl hH.out ?_;simp only[jj];refine tg 1 ((.slice (some ⟨c.heap.size,0,none⟩) p.tlbs.length p.tlbs.length)) rfl (Or.inl ⟨by rfl,fun W h=>by have h3:=h.2.1;clear h;go_simp⟩) hH.out ?_;simp only[jj];refine tk 2 (.int .i64 k) rfl hH.out ?_;simp only[jj];refine tk 4 (.pointer (some ⟨w.heap.size,8,none⟩)) rfl hH.out ?_;simp only[jj];refine tg 5 (.slice (some ⟨b8,ax,none⟩) p.tlbs.length aK) rfl (Or.inl ⟨by rfl,fun W h=>by have h3:=h.1;clear h;go_simp⟩) hH.out ?_;simp only[jj];refine tk 6 (.int .i64 k) rfl hH.out ?_;simp only[jj];refine tk 7 (.pointer (some ⟨b8,ax+k,none⟩)) rfl hH.out ?_;simp only[jj];refine tg 8 (.slice q1 p.tlbs[k].length ay) rfl (Or.inl ⟨by rfl,fun W h=>by have h3:=h.2.2;clear h;go_simp⟩) hH.out ?_;simp only[jj];refine wpAnyH_ready (rs:=[3]) (by kernel_rfl) (by simp) (AllReadyH.cons rfl (fun K hK=>?_) AllReadyH.nil);go_simp
   refine hK.out _ _ S2.out (fun av=>?_);have bK:=hid av;clear hK K av;refine wpAnyH_ready (rs:=[9]) (by kernel_rfl) (by simp) (AllReadyH.cons rfl (fun K hK=>?_) AllReadyH.nil);refine wp_app1 _ _ _ rfl _ _ _ rfl rfl M.out ?_;refine hK.out _ _ S3.out (fun av=>?_);have aX:=hid av;clear hK K av
   try simp only[Act.put,jD]
   refine tk 10 (.pointer (some ⟨c.heap.size,k,none⟩)) rfl aX.out ?_;simp only[jj];refine wpAnyH_ready (rs:=[11]) (by kernel_rfl) (by simp) (AllReadyH.cons rfl (fun K hK=>?_) AllReadyH.nil);go_simp
   refine hK.out _ _ S4.out (fun av=>?_);clear hK K av
   try simp only[Act.put]
   refine dC (by kernel_rfl) ?_ _;clear hH bK aX S1 S2 S3 S4 M ck fk c8;go_wp2_with fail
   refine⟨⟨k+1,by omega,by go_num,hid ⟨_,_,HN.out,fun j hj=>?_⟩,B1⟩,by simp[intOf];omega⟩;by_cases e:j<k
   ·rw[ag (by omega),ag (by omega)];exact HM.out j e
   ·rw[ag (by omega),ae (by omega),show j=k by omega];exact H1.out
  ·obtain rfl:k=p.tlbs.length:=by omega
   have bL:¬((p.tlbs.length:Int)<(p.tlbs.length:Int)):=by omega
   have aW:=hid aC;have H9:=HC;have O8:=hid (show OwnL wr c.heap.size wr.heap.size 31 56 4 p.tlbs.length (.slice (some ⟨c.heap.size,0,none⟩) p.tlbs.length p.tlbs.length) (ce p.tlbs) from⟨c.heap.size,uz,m,rfl,au _,aw.hi,aL,aw⟩);have g:=hid (InO.belowN O.out (by have t1:=ah.out;have t2:=ai.out;have t3:=am.out;have t4:=an.out;have t5:=ao.out;have t6:=ap.out;have t7:=ar.out;omega) ad.out);have o:=hid (InO.belowN Z.out (by have t2:=ai.out;have t3:=am.out;have t4:=an.out;have t5:=ao.out;have t6:=ap.out;have t7:=ar.out;omega) ad.out);have N:=hid (InO.belowN P3.out (by have t3:=am.out;have t4:=an.out;have t5:=ao.out;have t6:=ap.out;have t7:=ar.out;omega) ad.out);have Y:=hid (InO.belowN P4.out (by have t4:=an.out;have t5:=ao.out;have t6:=ap.out;have t7:=ar.out;omega) ad.out);have O4:=hid (OwnL.belowN P5.out (by have t5:=ao.out;have t6:=ap.out;have t7:=ar.out;omega) ad.out aC);have O5:=hid (InO.belowN P6.out (by have t6:=ap.out;have t7:=ar.out;omega) ad.out);have O6:=hid (InO.belowN P7.out (by have t7:=ar.out;omega) ad.out);have O7:=hid (OwnL.belowN P8.out (by exact au _) ad.out aC);clear aw aL aN hk aE HC Ha Sa q ad l O Z P3 P4 P5 P6 P7 P8;go_upto_region 15 with fail
   clear c8;generalize wr=W9 at*;clear bL aC;have M9:=hid (show ∀i,i<9→w.heap.size+2<(ll [n.heap.size,Q.heap.size,X.heap.size,W3.heap.size,W4.heap.size,W5.heap.size,W6.heap.size,W7.heap.size,c.heap.size]) i from fun i hi=>by
    have:=H8.out.sz;rcases cq i 8 with h|h
    ·have:=M8.out i h;have ab:i=0∨i=1∨i=2∨i=3∨i=4∨i=5∨i=6∨i=7:=by omega
     rcases ab with rfl|rfl|rfl|rfl|rfl|rfl|rfl|rfl<;>exact this
    ·rw[show i=8 by omega];show _<c.heap.size
     omega)
   have G9:=hid (H9.out.grow (bal (aj _ W9) (.cells #[] 3)));have c9:=G9.out.cell (j:=9) rfl;have f:=ints_src bp.out bB.out G9.out.bel;obtain⟨U,R,w1,T,d,b⟩:=run_app_new (P:=Tryz.prog) W9 22 22 3 (.int .i64 0) 1 8 Tryz.underlying22 infoI rfl (by decide) q9 p.doms.length bI (ints p.doms) f.1 (ints_len _) f.2 (ints_one _) HP.out.doms (by decide);have M:=hid T;have K9:=hid (H9.out.grow b);have oc:=K9.out.ocell (j:=9) rfl;have fz:=K9.out.frz (j:=9) (by decide);have aH:=hid (show CS w V (w1.setCell ⟨w.heap.size+2,9,none⟩ (.slice U p.doms.length R)) [.slice C p.ram.length s,.slice D p.kinds.length t,.slice E p.slots.length y,.slice F p.tasks.length z,.slice G p.lines.length p.lines.length,.slice H p.bits.length A,.slice I p.cores.length B,.slice J p.ready.length p.ready.length,.slice (some ⟨c.heap.size,0,none⟩) p.tlbs.length p.tlbs.length,.slice U p.doms.length R,V 10] from K9.out.put (j:=9) (show 9<11 by decide) (.slice U p.doms.length R));have l:=hid (show w.heap.size+2<W9.heap.size from aB (bY _) H9.out.sz);have O9:=hid (cy (show InO w1 W9.heap.size w1.heap.size _ _ _ (p.doms.length,ints p.doms) from⟨d,fun x hx=>(d.lt x hx).2⟩) (a:=⟨w.heap.size+2,9,none⟩) l.out (.slice U p.doms.length R));have q:=hid (cy (bM g.out b) (a:=⟨w.heap.size+2,9,none⟩) (M9.out 0 (by decide)) (.slice U p.doms.length R));have O:=hid (cy (bM o.out b) (a:=⟨w.heap.size+2,9,none⟩) (M9.out 1 (by decide)) (.slice U p.doms.length R));have Z:=hid (cy (bM N.out b) (a:=⟨w.heap.size+2,9,none⟩) (M9.out 2 (by decide)) (.slice U p.doms.length R));have P3:=hid (cy (bM Y.out b) (a:=⟨w.heap.size+2,9,none⟩) (M9.out 3 (by decide)) (.slice U p.doms.length R));have P4:=hid (OwnL.set (OwnL.below O4.out b) (a:=⟨w.heap.size+2,9,none⟩) (M9.out 4 (by decide)) (.slice U p.doms.length R));have P5:=hid (cy (bM O5.out b) (a:=⟨w.heap.size+2,9,none⟩) (M9.out 5 (by decide)) (.slice U p.doms.length R));have P6:=hid (cy (bM O6.out b) (a:=⟨w.heap.size+2,9,none⟩) (M9.out 6 (by decide)) (.slice U p.doms.length R));have P7:=hid (OwnL.set (OwnL.below O7.out b) (a:=⟨w.heap.size+2,9,none⟩) (M9.out 7 (by decide)) (.slice U p.doms.length R));have P8:=hid (OwnL.set (OwnL.below O8.out b) (a:=⟨w.heap.size+2,9,none⟩) (M9.out 8 (by decide)) (.slice U p.doms.length R));have aV:=hid (show w1.heap.size=(w1.setCell ⟨w.heap.size+2,9,none⟩ (.slice U p.doms.length R)).heap.size by simp);have aQ:=hid (show W9.heap.size≤w1.heap.size from b.size);clear T d b f G9 K9 l;go_upto_region 16 with (at_builtin;refine wpList_app rfl _ _ _ rfl _ _ _ rfl rfl M.out ?_)
   clear g o N Y O4 O5 O6 O7 O8;have g:=q;have o:=O;have N:=Z;have Y:=P3;have O4:=P4;have O5:=P5;have O6:=P6;have O7:=P7;have O8:=P8;clear q O Z P3 P4 P5 P6 P7 P8;rw[aV.out] at aQ O9;generalize World.setCell _ _ _=aP at*;clear oc fz c9 aV M;have bS:=hid (show ∀i,i<10→w.heap.size+2<(ll [n.heap.size,Q.heap.size,X.heap.size,W3.heap.size,W4.heap.size,W5.heap.size,W6.heap.size,W7.heap.size,c.heap.size,W9.heap.size]) i from fun i hi=>by
    have:=H0.out.sz;have t0:=af.out;have t1:=ah.out;have t2:=ai.out;have t3:=am.out;have t4:=an.out;have t5:=ao.out;have t6:=ap.out;have t7:=ar.out;have t8:=aW.out;have t9:=aQ.out;have ab:i=0∨i=1∨i=2∨i=3∨i=4∨i=5∨i=6∨i=7∨i=8∨i=9:=by omega
    rcases ab with rfl|rfl|rfl|rfl|rfl|rfl|rfl|rfl|rfl|rfl
    ·show _<n.heap.size;omega
    ·show _<Q.heap.size;omega
    ·show _<X.heap.size;omega
    ·show _<W3.heap.size;omega
    ·show _<W4.heap.size;omega
    ·show _<W5.heap.size;omega
    ·show _<W6.heap.size;omega
    ·show _<W7.heap.size;omega
    ·show _<c.heap.size;omega
    ·show _<W9.heap.size;omega)
   have one:=hid (show ([.slice C p.ram.length s,.slice D p.kinds.length t,.slice E p.slots.length y,.slice F p.tasks.length z,.slice G p.lines.length p.lines.length,.slice H p.bits.length A,.slice I p.cores.length B,.slice J p.ready.length p.ready.length,.slice (some ⟨c.heap.size,0,none⟩) p.tlbs.length p.tlbs.length,.slice U p.doms.length R,V 10].toArray).all (·.oneCell')=true by rw[e10];simp[Value.oneCell']);have RX:=hid (World.rangeAt_setCells_same aP (w.heap.size+1) 0 [.slice C p.ram.length s,.slice D p.kinds.length t,.slice E p.slots.length y,.slice F p.tasks.length z,.slice G p.lines.length p.lines.length,.slice H p.bits.length A,.slice I p.cores.length B,.slice J p.ready.length p.ready.length,.slice (some ⟨c.heap.size,0,none⟩) p.tlbs.length p.tlbs.length,.slice U p.doms.length R,V 10] aH.out.res);have BX:=hid (dZ aH.out.bel (show w.heap.size≤w.heap.size+1 by omega) [.slice C p.ram.length s,.slice D p.kinds.length t,.slice E p.slots.length y,.slice F p.tasks.length z,.slice G p.lines.length p.lines.length,.slice H p.bits.length A,.slice I p.cores.length B,.slice J p.ready.length p.ready.length,.slice (some ⟨c.heap.size,0,none⟩) p.tlbs.length p.tlbs.length,.slice U p.doms.length R,V 10] 0);go_wp2_with (first|((with_reducible refine gld 28 ?_);refine wpList_load_mid rfl 28 _ rfl (w.heap.size+2) 0 rfl [.slice C p.ram.length s,.slice D p.kinds.length t,.slice E p.slots.length y,.slice F p.tasks.length z,.slice G p.lines.length p.lines.length,.slice H p.bits.length A,.slice I p.cores.length B,.slice J p.ready.length p.ready.length,.slice (some ⟨c.heap.size,0,none⟩) p.tlbs.length p.tlbs.length,.slice U p.doms.length R,V 10] _ aH.out.out Tryz.underlying28 rfl infoW ?_)|((with_reducible refine gst 28 ?_);refine wpList_store_mid rfl 28 _ _ rfl (w.heap.size+1) 0 [.slice C p.ram.length s,.slice D p.kinds.length t,.slice E p.slots.length y,.slice F p.tasks.length z,.slice G p.lines.length p.lines.length,.slice H p.bits.length A,.slice I p.cores.length B,.slice J p.ready.length p.ready.length,.slice (some ⟨c.heap.size,0,none⟩) p.tlbs.length p.tlbs.length,.slice U p.doms.length R,V 10].toArray rfl rfl aH.out.res infoW one.out ?_))
   refine aq (v:=.agg (arr11 (vv [.slice C p.ram.length s,.slice D p.kinds.length t,.slice E p.slots.length y,.slice F p.tasks.length z,.slice G p.lines.length p.lines.length,.slice H p.bits.length A,.slice I p.cores.length B,.slice J p.ready.length p.ready.length,.slice (some ⟨c.heap.size,0,none⟩) p.tlbs.length p.tlbs.length,.slice U p.doms.length R,V 10]))) (results_c1 rfl rfl (run_loadVar_mid _ (w.heap.size+1) 0 28 [.slice C p.ram.length s,.slice D p.kinds.length t,.slice E p.slots.length y,.slice F p.tasks.length z,.slice G p.lines.length p.lines.length,.slice H p.bits.length A,.slice I p.cores.length B,.slice J p.ready.length p.ready.length,.slice (some ⟨c.heap.size,0,none⟩) p.tlbs.length p.tlbs.length,.slice U p.doms.length R,V 10] _ RX.out Tryz.underlying28 rfl infoW)) rfl ⟨vv [.slice C p.ram.length s,.slice D p.kinds.length t,.slice E p.slots.length y,.slice F p.tasks.length z,.slice G p.lines.length p.lines.length,.slice H p.bits.length A,.slice I p.cores.length B,.slice J p.ready.length p.ready.length,.slice (some ⟨c.heap.size,0,none⟩) p.tlbs.length p.tlbs.length,.slice U p.doms.length R,V 10],ll [n.heap.size,Q.heap.size,X.heap.size,W3.heap.size,W4.heap.size,W5.heap.size,W6.heap.size,W7.heap.size,c.heap.size,W9.heap.size,aP.heap.size],rfl,?_,?_,?_,BX.out⟩
   ·refine WorldO.sets ?_ (show w.heap.size+1<n.heap.size by have:=H0.out.sz;omega) [.slice C p.ram.length s,.slice D p.kinds.length t,.slice E p.slots.length y,.slice F p.tasks.length z,.slice G p.lines.length p.lines.length,.slice H p.bits.length A,.slice I p.cores.length B,.slice J p.ready.length p.ready.length,.slice (some ⟨c.heap.size,0,none⟩) p.tlbs.length p.tlbs.length,.slice U p.doms.length R,V 10] 0;exact⟨fun j hj=>by
     have bN:j=0∨j=1∨j=2∨j=3∨j=4∨j=5∨j=6∨j=7∨j=8∨j=9:=by omega
     rcases bN with rfl|rfl|rfl|rfl|rfl|rfl|rfl|rfl|rfl|rfl
     ·exact af.out
     ·exact ah.out
     ·exact ai.out
     ·exact am.out
     ·exact an.out
     ·exact ao.out
     ·exact ap.out
     ·exact ar.out
     ·exact aW.out
     ·exact aQ.out,g.out,o.out,N.out,Y.out,O4.out,O5.out,O6.out,O7.out,O8.out,O9.out,e10⟩
   ·show w.heap.size≤n.heap.size
    have:=H0.out.sz;omega
   ·show aP.heap.size≤_
    exact Nat.le_of_eq (setCells_size _ _ _ _).symm
end Go.Proofs.YtaejnmmpddbbjaaGreatDoor.Wd
