/- Qae -/
import Derived.Deep.RegionHeld3
import Derived.Deep.Onto
import Derived.Test.YtaejnmmpddbbjaaGreatDoorQab
namespace Go.Proofs.YtaejnmmpddbbjaaGreatDoor.Mem
open Go.RowKit
section
variable {P : Program} {md : Region.Mode} {ops : Array Oper} {Q : Exit → Act → World → Prop} {n1 N : Nat} {R : Nat → Value → World → Prop} {w0 : World} {a0 : Act}
end
end Go.Proofs.YtaejnmmpddbbjaaGreatDoor.Mem
namespace Go.Proofs.YtaejnmmpddbbjaaGreatDoor.Wd
open Go.RowKit Mem Bw Nums Mmu
theorem made_one (z:Value) (n k:Nat) (a:z.cells=#[z]) (h:k<n):(madeCells z.cells (n*1))[k]? =some z:=by
 unfold madeCells;rw[a];simp[h,Nat.mod_one]
theorem infoL:(Tryz.prog.info? 22).map (fun i=>(i.zero,i.size,i.bytes))=some (some (.slice none 0 0),1,24):=by kernel_rfl
theorem infoB:(Tryz.prog.info? 31).map (fun i=>(i.zero,i.size,i.bytes))=some (some (.slice none 0 0),1,24):=by kernel_rfl
theorem ints_nil (w:World):IntsIn w (.slice none 0 0) []:=⟨none,0,0,0,rfl,fun e=>by simp at e,fun j a=>by simp at a⟩
theorem own_ints {w:World} {B:Nat} {v:Value} {zs:List Int} (h:w.ownsRow B 3 1 v zs.length (ints zs)):IntsIn w v zs:=by
 rcases h.2 with ⟨rfl,a⟩|⟨g,cap,c,rfl,a,_⟩
 ·rw[List.length_eq_zero_iff.1 a];exact ints_nil w
 ·refine⟨some ⟨g,0,none⟩,g,0,cap,rfl,fun _=>rfl,fun j b=>?_⟩;rw[aC,h.cellAt j (by omega)];unfold ints;rw[cR,ac b];rfl
theorem _root_.Go.Proofs.YtaejnmmpddbbjaaGreatDoor.dm:type_of% @own_ints:= @own_ints
theorem ints_len (zs:List Int):(ints zs).length=zs.length*1:=by simp[ints]
theorem ints_one (zs:List Int):∀u∈ints zs,u.oneCell'=true:=by
 intro u a;obtain⟨z,_,rfl⟩:=List.mem_map.1 a;rfl
theorem ints_at {w:World} {b off:Nat} {zs:List Int} (h:IntsAt w b off zs):∀(j:Nat) (u:Value),(ints zs)[j]? =some u→w.cell? ((⟨b,off,none⟩:Addr).add j)=some u:=by
 intro j u a;have c:j<zs.length:=by have:=(List.getElem?_eq_some_iff.1 a).1;simpa [ints] using this
 rw[Addr.add_mid,h j c, ←a];simp[ints,c]
def rowsC (n:Nat) (fs:List (Nat→Int)):List Value:=fs.flatMap (cf n)
theorem rowsC_len (n:Nat):∀fs,(rowsC n fs).length=fs.length*n
 |[]=>by simp[rowsC]
 |f::r=>by
  have:=rowsC_len n r;unfold rowsC at this ⊢;rw[List.flatMap_cons,av,ax,this,dU,Nat.succ_mul];omega
theorem rowsC_one (n:Nat) (fs:List (Nat→Int)):∀u∈rowsC n fs,u.oneCell'=true:=by
 intro u a;obtain⟨f,_,h⟩:=List.mem_flatMap.1 a;exact bK n f u h
theorem rowsC_get (n:Nat):∀(fs:List (Nat→Int)) (j:Nat) (u:Value),(rowsC n fs)[j]? =some u→∃(i k:Nat) (h:i<fs.length),k<n∧j=i*n+k∧u=.int .i64 (fs[i] k)
 |[],j,u,h=>by simp[rowsC] at h
 |f::r,j,u,h=>by
  have e:rowsC n (f::r)=cf n f++rowsC n r:=by unfold rowsC;rw[List.flatMap_cons]
  rw[e] at h;by_cases a:j<n
  ·rw[List.getElem?_append_left (by rw[ax];exact a),cf_at n f j a] at h;exact⟨0,j,by simp,a,by simp,(aK h).symm⟩
  ·rw[du (by rw[ax];omega),ax] at h;obtain⟨i,k,hi,hk,c,b⟩:=rowsC_get n r (j - n) u h;exact⟨i+1,k,by simpa using hi,hk,by rw[Nat.succ_mul];omega,by simpa using b⟩
theorem rowsC_at (n:Nat):∀(fs:List (Nat→Int)) (i k:Nat) (h:i<fs.length),k<n→(rowsC n fs)[i*n+k]? =some (.int .i64 (fs[i] k))
 |[],_,_,h,_=>by simp at h
 |f::r,i,k,h,hk=>by
  have e:rowsC n (f::r)=cf n f++rowsC n r:=by unfold rowsC;rw[List.flatMap_cons]
  rw[e]
  match i,h with
  |0,_=>
   rw[List.getElem?_append_left (by rw[ax];omega),Nat.zero_mul,aC,cf_at n f k hk];rfl
  |i+1,h=>
   rw[du (by rw[ax,Nat.succ_mul];omega),ax,show (i+1)*n+k - n=i*n+k by rw[Nat.succ_mul];omega,rowsC_at n r i k (by simpa using h) hk];rfl
theorem rowsC_cells {n b off:Nat} {W:World} {fs:List (Nat→Int)} (h:∀j (c:j<fs.length),W.rangeAt b (off+j*n) (cf n fs[j])):∀(j:Nat) (u:Value),(rowsC n fs)[j]? =some u→W.cell? ((⟨b,off,none⟩:Addr).add j)=some u:=by
 intro j u a;obtain⟨i,k,hi,hk,rfl,rfl⟩:=rowsC_get n fs j u a;rw[Addr.add_mid, ←Nat.add_assoc];exact h i hi k _ (cf_at n _ k hk)
theorem own_rowsC {n E B:Nat} {w:World} {v:Value} {fs:List (Nat→Int)} (h:w.ownsRow B E n v fs.length (rowsC n fs)):RowsIn n w v fs:=by
 rcases h.2 with ⟨rfl,c⟩|⟨g,cap,d,rfl,c,_⟩
 ·exact⟨none,0,0,0,by rw[c],fun h=>by omega,fun j a=>by omega⟩
 ·refine⟨some ⟨g,0,none⟩,g,0,cap,rfl,fun _=>rfl,fun j a k u b=>?_⟩;have hk:k<n:=by
   have:=(List.getElem?_eq_some_iff.1 b).1
   rwa [ax] at this
  rw[cf_at n _ k hk] at b;rw[aC,h.cellAt (j*n+k) (by
   have:(j+1)*n≤fs.length*n:=Nat.mul_le_mul_right n a;rw[Nat.succ_mul] at this;omega),rowsC_at n fs j k a hk]
  exact b
theorem infoslots:(Tryz.prog.info? 80).map (fun i=>(i.zero,i.size,i.bytes))=some (some (.agg #[.int .i64 0,.int .i64 0,.int .i64 0,.int .i64 0,.int .i64 0,.int .i64 0,.int .i64 0]),7,56):=by kernel_rfl
theorem infotasks:(Tryz.prog.info? 45).map (fun i=>(i.zero,i.size,i.bytes))=some (some (.agg #[.int .i64 0,.int .i64 0,.int .i64 0,.int .i64 0,.int .i64 0,.int .i64 0,.int .i64 0,.int .i64 0,.int .i64 0,.int .i64 0,.int .i64 0,.int .i64 0,.int .i64 0,.int .i64 0,.int .i64 0,.int .i64 0,.int .i64 0,.int .i64 0,.int .i64 0,.int .i64 0]),20,160):=by kernel_rfl
def InO (w:World) (lo hi I s:Nat) (u:Value) (c:Nat×List Value):Prop:=w.ownsRow lo I s u c.1 c.2∧∀k,u.ownBlock=some k→k<hi
theorem InO.below {w w':World} {lo hi I s:Nat} {u:Value} {c:Nat×List Value} (h:InO w lo hi I s u c) (a:Below w.heap.size w w'):InO w' lo hi I s u c:=⟨eE h.1 a,h.2⟩
theorem _root_.Go.Proofs.YtaejnmmpddbbjaaGreatDoor.bM:type_of% @InO.below:= @InO.below
theorem InO.set {w:World} {lo hi I s:Nat} {u:Value} {c:Nat×List Value} (h:InO w lo hi I s u c) {a:Addr} (b:a.block<lo) (x:Value):InO (w.setCell a x) lo hi I s u c:=⟨ownsRow_setCell_below h.1 b x,h.2⟩
theorem _root_.Go.Proofs.YtaejnmmpddbbjaaGreatDoor.cy:type_of% @InO.set:= @InO.set
structure Part (w:World) (g n O I s:Nat) (cc:Nat→Nat×List Value) (k:Nat) (us:List Value) (m:Nat→Nat):Prop where
 len:us.length=k
 row:w.ownsRow g O 1 (.slice (some ⟨g,0,none⟩) n n) n (us++List.replicate (n - k) (.slice none 0 0))
 lo:∀j,j≤k→g<m j
 hi:m k≤w.heap.size
 each:∀j (h:j<us.length),InO w (m j) (m (j+1)) I s us[j] (cc j)
theorem Part.below {w w':World} {g n O I s k:Nat} {b:Nat→Nat×List Value} {us:List Value} {m:Nat→Nat} (h:Part w g n O I s b k us m) (a:Below w.heap.size w w'):Part w' g n O I s b k us m:=
 ⟨h.len,eE h.row a,h.lo,aD h.hi a.size,fun j c=>(h.each j c).below a⟩
theorem Part.cell {w:World} {g n O I s k:Nat} {a:Nat→Nat×List Value} {us:List Value} {m:Nat→Nat} (h:Part w g n O I s a k us m) (hk:k<n):w.cell? ⟨g,k,none⟩=some (.slice none 0 0):=by
 rw[h.row.cellAt k (by omega),du (by rw[h.len];exact au _),h.len,Nat.sub_self,List.getElem?_replicate,ag (by omega)]
theorem Part.more {w w1:World} {g n O I s k:Nat} {a:Nat→Nat×List Value} {us:List Value} {m:Nat→Nat} (h:Part w g n O I s a k us m) (hk:k<n) (f:Below w.heap.size w w1) {u:Value} (d:w1.ownsRow w.heap.size I s u (a k).1 (a k).2):
  Part (w1.setCell ⟨g,k,none⟩ u) g n O I s a (k+1) (us++[u]) (fun j=>if j≤k then m j else w1.heap.size):=by
 have b:=h.below f;refine⟨by simp[h.len],?_,fun j c=>?_,?_,fun j c=>?_⟩
 ·have:=(b.row.stored k u).1;have e:(us++List.replicate (n - k) (Value.slice none 0 0)).set k u=us++[u]++List.replicate (n - (k+1)) (.slice none 0 0):=by
   rw[List.set_append_right _ _ (by rw[h.len];exact au _),h.len,Nat.sub_self,show n - k=(n - (k+1))+1 by omega,List.replicate_succ,List.set_cons_zero,List.append_assoc];rfl
  rwa [e] at this
 ·by_cases e:j≤k
  ·rw[ag e];exact h.lo j e
  ·rw[ae e];exact aB (h.lo k (au _)) b.hi
 ·rw[ae (by omega)];simp
 ·by_cases e:j<k
  ·rw[List.getElem_append_left (by rw[h.len];exact e),ag (by omega),ag (by omega)];exact (b.each j (by rw[h.len];exact e)).set (h.lo j (by omega)) u
  ·have i:j=k:=by simp[h.len] at c;omega
   subst i;rw[List.getElem_append_right (by rw[h.len];exact au _),ag (au _),ae (by omega)];simp only[h.len,Nat.sub_self,aV];exact (show InO w1 (m j) w1.heap.size I s u (a j) from⟨d.mono h.hi,fun x l=>(d.lt x l).2⟩).set (h.lo j (au _)) u
theorem Part.start (w:World) (n O I s:Nat) (b:Nat→Nat×List Value) (f:n≤maxLen) (a:Array Value) (c:a=Array.replicate n (.slice none 0 0)):Part (w.alloc (.cells a O)) w.heap.size n O I s b 0 [] (fun _=>w.heap.size+1):=by
 subst c;refine⟨rfl,?_,fun _ _=>bY _,by simp,fun j d=>by simp at d⟩;have:=World.ownsRow_lit (base:=w.heap.size) (e:=O) (size:=1) w (Array.replicate n (.slice none 0 0)) n (au _) f (by simp);simpa using this
def OwnL (w:World) (lo hi O I s n:Nat) (v:Value) (cc:Nat→Nat×List Value):Prop:=∃g us m,v=.slice (some ⟨g,0,none⟩) n n∧lo≤g∧m n≤hi∧(∀j,j<n→m j≤m (j+1))∧Part w g n O I s cc n us m
def ci (ls:List (List Int)) (j:Nat):Nat×List Value:=((ls.getD j []).length,ints (ls.getD j []))
def ce (ls:List (List Ent)) (j:Nat):Nat×List Value:=((ls.getD j []).length,cellsE (ls.getD j []))
theorem made_nil (n:Nat):madeCells (Value.cells (.slice none 0 0)) (n*1)=Array.replicate n (Value.slice none 0 0):=by
 apply Array.ext_getElem?;intro k;by_cases h:k<n
 ·rw[made_one _ _ _ rfl h];simp[h]
 ·rw[Array.getElem?_eq_none (by unfold madeCells;simp;omega)];simp[h]
theorem own_form {B e size n:Nat} {w:World} {v:Value} {xs:List Value} (h:w.ownsRow B e size v n xs):∃q c,v=.slice q n c:=by
 rcases h.2 with ⟨rfl,rfl⟩|⟨g,cap,a,rfl,_⟩
 ·exact⟨_,_,rfl⟩
 ·exact⟨_,_,rfl⟩
theorem InO.sets {lo hi I s:Nat} {u:Value} {c:Nat×List Value} {B:Nat} (hB:B<lo):∀(b:List Value) (o:Nat) (w:World),InO w lo hi I s u c→InO (w.setCells B o b) lo hi I s u c
 |[],_,_,h=>h
 |v::r,o,w,h=>by
  rw[World.setCells];exact InO.sets hB r (o+1) _ (h.set (a:=⟨B,o,none⟩) hB v)
theorem Part.set {w:World} {g n O I s k:Nat} {b:Nat→Nat×List Value} {us:List Value} {m:Nat→Nat} (h:Part w g n O I s b k us m) {a:Addr} (c:a.block<g) (x:Value):Part (w.setCell a x) g n O I s b k us m:=
 ⟨h.len,ownsRow_setCell_below h.row c x,h.lo,by simpa using h.hi,fun j d=>(h.each j d).set (Nat.lt_trans c (h.lo j (by rw[←h.len];omega))) x⟩
theorem OwnL.below {w w':World} {lo hi O I s n:Nat} {v:Value} {cc:Nat→Nat×List Value} (h:OwnL w lo hi O I s n v cc) (f:Below w.heap.size w w'):OwnL w' lo hi O I s n v cc:=by
 obtain⟨g,us,m,a,b,c,d,e⟩:=h;exact⟨g,us,m,a,b,c,d,e.below f⟩
theorem OwnL.set {w:World} {lo hi O I s n:Nat} {v:Value} {cc:Nat→Nat×List Value} (h:OwnL w lo hi O I s n v cc) {a:Addr} (i:a.block<lo) (x:Value):OwnL (w.setCell a x) lo hi O I s n v cc:=by
 obtain⟨g,us,m,c,b,d,e,f⟩:=h;exact⟨g,us,m,c,b,d,e,f.set (aB i b) x⟩
theorem OwnL.sets {lo hi O I s n:Nat} {v:Value} {b:Nat→Nat×List Value} {B:Nat} (hB:B<lo):∀(c:List Value) (o:Nat) (w:World),OwnL w lo hi O I s n v b→OwnL (w.setCells B o c) lo hi O I s n v b
 |[],_,_,h=>h
 |x::r,o,w,h=>by
  rw[World.setCells];exact OwnL.sets hB r (o+1) _ (h.set (a:=⟨B,o,none⟩) hB x)
structure WorldO (w:World) (L:Nat→Nat) (v:Nat→Value) (p:PW):Prop where
 mono:∀j,j<10→L j≤L (j+1)
 ram:InO w (L 0) (L 1) 3 1 (v 0) (p.ram.length,ints p.ram)
 kinds:InO w (L 1) (L 2) 3 1 (v 1) (p.kinds.length,ints p.kinds)
 slots:InO w (L 2) (L 3) 80 7 (v 2) (p.slots.length,rowsC 7 p.slots)
 tasks:InO w (L 3) (L 4) 45 20 (v 3) (p.tasks.length,rowsC 20 p.tasks)
 lines:OwnL w (L 4) (L 5) 22 3 1 p.lines.length (v 4) (ci p.lines)
 bits:InO w (L 5) (L 6) 3 1 (v 5) (p.bits.length,ints p.bits)
 cores:InO w (L 6) (L 7) 3 1 (v 6) (p.cores.length,ints p.cores)
 ready:OwnL w (L 7) (L 8) 22 3 1 p.ready.length (v 7) (ci p.ready)
 tlbs:OwnL w (L 8) (L 9) 31 56 4 p.tlbs.length (v 8) (ce p.tlbs)
 doms:InO w (L 9) (L 10) 3 1 (v 9) (p.doms.length,ints p.doms)
 time:v 10=.int .i64 p.time
theorem WorldO.le {w:World} {L:Nat→Nat} {v:Nat→Value} {p:PW} (h:WorldO w L v p):∀j,j≤10→L 0≤L j
 |0,_=>au _
 |j+1,hj=>aD (h.le j (by omega)) (h.mono j (by omega))
theorem WorldO.below {w w':World} {L:Nat→Nat} {v:Nat→Value} {p:PW} (h:WorldO w L v p) (a:Below w.heap.size w w'):WorldO w' L v p:=
 ⟨h.mono,h.ram.below a,h.kinds.below a,h.slots.below a,h.tasks.below a,h.lines.below a,h.bits.below a,h.cores.below a,h.ready.below a,h.tlbs.below a,h.doms.below a,h.time⟩
theorem WorldO.sets {w:World} {L:Nat→Nat} {v:Nat→Value} {p:PW} (h:WorldO w L v p) {B:Nat} (hB:B<L 0) (a:List Value) (o:Nat):WorldO (w.setCells B o a) L v p:=
 ⟨h.mono,InO.sets (aB hB (h.le 0 (by omega))) a o w h.ram,InO.sets (aB hB (h.le 1 (by omega))) a o w h.kinds,InO.sets (aB hB (h.le 2 (by omega))) a o w h.slots,InO.sets (aB hB (h.le 3 (by omega))) a o w h.tasks,OwnL.sets (aB hB (h.le 4 (by omega))) a o w h.lines,InO.sets (aB hB (h.le 5 (by omega))) a o w h.bits,InO.sets (aB hB (h.le 6 (by omega))) a o w h.cores,OwnL.sets (aB hB (h.le 7 (by omega))) a o w h.ready,OwnL.sets (aB hB (h.le 8 (by omega))) a o w h.tlbs,InO.sets (aB hB (h.le 9 (by omega))) a o w h.doms,h.time⟩
theorem InO.ints {w:World} {lo hi:Nat} {u:Value} {zs:List Int} (h:InO w lo hi 3 1 u (zs.length,ints zs)):IntsIn w u zs:=dm h.1
theorem OwnL.lists {w:World} {lo hi O:Nat} {v:Value} {ls:List (List Int)} (h:OwnL w lo hi O 3 1 ls.length v (ci ls)):ListsIn w v ls:=by
 obtain⟨g,us,m,rfl,_,_,_,a⟩:=h;refine⟨some ⟨g,0,none⟩,g,0,ls.length,rfl,fun _=>rfl,fun j c=>?_⟩;have b:j<us.length:=by rw[a.len];exact c
 have d:=a.row.cellAt j (by omega);rw[List.getElem?_append_left b,ac b] at d;refine⟨us[j],by rw[aC];exact d,?_⟩;have:=(a.each j b).1;unfold ci at this;rw[aa,ac c] at this;exact dm this
theorem own_tlb {w:World} {B:Nat} {v:Value} {l:List Ent} (h:w.ownsRow B 56 4 v l.length (cellsE l)) (hl:l.length≤100):TlbIn w v l∧RoomV v:=by
 rcases h.2 with ⟨rfl,b⟩|⟨g,cap,f,rfl,b,i,d,_⟩
 ·rw[List.length_eq_zero_iff.1 b];exact⟨⟨none,0,0,0,rfl,fun e=>by simp at e,fun j a=>by simp at a,by simp⟩,au _⟩
 ·refine⟨⟨some ⟨g,0,none⟩,g,0,cap,rfl,fun _=>rfl,fun j a=>?_,hl⟩,d⟩;obtain⟨c0,c1,c2,c⟩:=cellsE_at l j a;simp only[aC];exact⟨(h.cellAt (j*4) (by omega)).trans c0,(h.cellAt (j*4+1) (by omega)).trans c1,(h.cellAt (j*4+2) (by omega)).trans c2,(h.cellAt (j*4+3) (by omega)).trans c⟩
theorem OwnL.tlbs {w:World} {lo hi O:Nat} {v:Value} {ls:List (List Ent)} (h:OwnL w lo hi O 56 4 ls.length v (ce ls)) (hl:∀l∈ls,l.length≤100):TlbsIn w v ls:=by
 obtain⟨g,us,m,rfl,_,_,_,a⟩:=h;refine⟨some ⟨g,0,none⟩,g,0,ls.length,rfl,fun _=>rfl,fun j b=>?_⟩;have c:j<us.length:=by rw[a.len];exact b
 have d:=a.row.cellAt j (by omega);rw[List.getElem?_append_left c,ac c] at d;refine⟨us[j],by rw[aC];exact d,?_⟩;have:=(a.each j c).1;unfold ce at this;rw[aa,ac b] at this;exact own_tlb this (hl _ (aw b))
theorem WorldO.v {w:World} {L:Nat→Nat} {v:Nat→Value} {p:PW} (h:WorldO w L v p) (hl:∀l∈p.tlbs,l.length≤100):WorldV w v p:=
 ⟨h.ram.ints,h.kinds.ints,own_rowsC h.slots.1,own_rowsC h.tasks.1,h.lines.lists,h.bits.ints,h.cores.ints,h.ready.lists,h.tlbs.tlbs hl,h.doms.ints,h.time⟩
theorem ownl_form {w:World} {lo hi O I s n:Nat} {v:Value} {a:Nat→Nat×List Value} (h:OwnL w lo hi O I s n v a):∃q,v=.slice q n n:=by
 obtain⟨g,us,m,b,_⟩:=h;exact⟨_,b⟩
theorem there_belowO {w w':World} {b o n:Nat} (h:w.there b o n) (c:Below w.heap.size w w'):w'.there b o n:=fun j e=>by
 obtain⟨a,d⟩:=h j e;obtain⟨u,f⟩:=Option.isSome_iff_exists.1 a;have hl:=al _ _ f;exact⟨by rw[c.cell hl];exact a,by rw[c.frozen hl];exact d⟩
theorem _root_.Go.Proofs.YtaejnmmpddbbjaaGreatDoor.cU:type_of% @there_belowO:= @there_belowO
def vv (l:List Value) (k:Nat):Value:=l.getD k undef
def ll (l:List Nat) (k:Nat):Nat:=l.getD k 0
end Go.Proofs.YtaejnmmpddbbjaaGreatDoor.Wd
