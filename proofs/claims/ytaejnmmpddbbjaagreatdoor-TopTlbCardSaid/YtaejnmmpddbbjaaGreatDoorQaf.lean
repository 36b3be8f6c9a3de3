/- Qaf -/
import Derived.Deep.Onto
import Derived.Deep.RegionHeld3
import Derived.Test.YtaejnmmpddbbjaaGreatDoorQae
set_option maxRecDepth 100000
set_option maxHeartbeats 16000000
namespace Go.Proofs.YtaejnmmpddbbjaaGreatDoor
namespace Wd
open Go.RowKit Mem Bw Nums Mmu
def eT (n:Nat) (fs:List (Nat->Int)):List Value:=fs.flatMap (cf n)
theorem gM (n:Nat):∀fs,(eT n fs).length=fs.length*n
 |[]=>by simp[eT]
 |f::r=>by
  have:=gM n r;unfold eT at this ⊢;rw[List.flatMap_cons,av,aA,this,dO,Nat.succ_mul];omega
theorem o3 (n:Nat) (fs:List (Nat->Int)):∀u∈eT n fs,u.oneCell'=true:=by
 intro u a;obtain⟨f,_,h⟩:=List.mem_flatMap.1 a;exact bR n f u h
theorem oZ (n:Nat):∀(fs:List (Nat->Int)) (j:Nat) (u:Value),(eT n fs)[j]? =some u->∃(i k:Nat) (h:i<fs.length),k<n∧j=i*n+k∧u=.int .i64 (fs[i] k)
 |[],j,u,h=>by simp[eT] at h
 |f::r,j,u,h=>by
  have e:eT n (f::r)=cf n f++eT n r:=by unfold eT;rw[List.flatMap_cons]
  rw[e] at h;by_cases a:j<n
  ·rw[List.getElem?_append_left (by rw[aA];exact a),dp n f j a] at h;exact⟨0,j,oS,a,oS,(aH h).symm⟩
  ·rw[dc (by rw[aA];omega),aA] at h;obtain⟨i,k,hi,hk,c,b⟩:=oZ n r (j - n) u h;exact⟨i+1,k,by simpa using hi,hk,by rw[Nat.succ_mul];omega,by simpa using b⟩
theorem im (n:Nat):∀(fs:List (Nat->Int)) (i k:Nat) (h:i<fs.length),k<n->(eT n fs)[i*n+k]? =some (.int .i64 (fs[i] k))
 |[],_,_,h,_=>by simp at h
 |f::r,i,k,h,hk=>by
  have e:eT n (f::r)=cf n f++eT n r:=by unfold eT;rw[List.flatMap_cons]
  rw[e]
  match i,h with
  |0,_=>
   rw[List.getElem?_append_left (by rw[aA];omega),Nat.zero_mul,az,dp n f k hk];rfl
  |i+1,h=>
   rw[dc (by rw[aA,Nat.succ_mul];omega),aA,show (i+1)*n+k - n=i*n+k by rw[Nat.succ_mul];omega,im n r i k (by simpa using h) hk];rfl
theorem qa {n b off:Nat} {W:World} {fs:List (Nat->Int)} (h:∀j (c:j<fs.length),W.rangeAt b (off+j*n) (cf n fs[j])):∀(j:Nat) (u:Value),(eT n fs)[j]? =some u->W.cell? ((⟨b,off,none⟩:Addr).add j)=some u:=by
 intro j u a;obtain⟨i,k,hi,hk,rfl,rfl⟩:=oZ n fs j u a;rw[Addr.add_mid, <-Nat.add_assoc];exact h i hi k _ (dp n _ k hk)
theorem jz {n E B:Nat} {w:World} {v:Value} {fs:List (Nat->Int)} (h:w.ownsRow B E n v fs.length (eT n fs)):RowsIn n w v fs:=by
 rcases h.2 with ⟨rfl,c⟩|⟨g,cap,d,rfl,c,_⟩
 ·exact⟨none,0,0,0,by rw[c],fun h=>oA,fun j a=>oA⟩
 ·refine⟨some ⟨g,0,none⟩,g,0,cap,rfl,fun _=>rfl,fun j a k u b=>?_⟩;have hk:k<n:=by
   have:=(List.getElem?_eq_some_iff.1 b).1
   rwa [aA] at this
  rw[dp n _ k hk] at b;rw[az,h.cellAt (j*n+k) (by
   have:(j+1)*n<=fs.length*n:=Nat.mul_le_mul_right n a;rw[Nat.succ_mul] at this;omega),im n fs j k a hk]
  exact b
theorem oz:(Tryz.prog.info? 80).map (fun i=>(i.zero,i.size,i.bytes))=some (some (.agg zV),7,56):=oK
theorem tU:(Tryz.prog.info? 45).map (fun i=>(i.zero,i.size,i.bytes))=some (some (.agg zT),20,160):=oK
def InO (w:World) (lo hi I s:Nat) (u:Value) (c:Nat×List Value):Prop:=w.ownsRow lo I s u c.1 c.2∧∀k,u.ownBlock=some k->k<hi
theorem InO.below {w w':World} {lo hi I s:Nat} {u:Value} {c:Nat×List Value} (h:InO w lo hi I s u c) (a:Below w.heap.size w w'):InO w' lo hi I s u c:=⟨ex h.1 a,h.2⟩
theorem InO.set {w:World} {lo hi I s:Nat} {u:Value} {c:Nat×List Value} (h:InO w lo hi I s u c) {a:Addr} (b:a.block<lo) (x:Value):InO (w.setCell a x) lo hi I s u c:=⟨ownsRow_setCell_below h.1 b x,h.2⟩
structure mP (w:World) (g n O I s:Nat) (cc:Nat->Nat×List Value) (k:Nat) (us:List Value) (m:Nat->Nat):Prop where
 len:us.length=k
 row:w.ownsRow g O 1 (.slice (some ⟨g,0,none⟩) n n) n (us++List.replicate (n - k) (.slice none 0 0))
 lo:∀j,j<=k->g<m j
 hi:m k<=w.heap.size
 each:∀j (h:j<us.length),InO w (m j) (m (j+1)) I s us[j] (cc j)
theorem mP.below {w w':World} {g n O I s k:Nat} {b:Nat->Nat×List Value} {us:List Value} {m:Nat->Nat} (h:mP w g n O I s b k us m) (a:Below w.heap.size w w'):mP w' g n O I s b k us m:=
 ⟨h.len,ex h.row a,h.lo,aB h.hi a.size,fun j c=>(h.each j c).below a⟩
theorem mP.cell {w:World} {g n O I s k:Nat} {a:Nat->Nat×List Value} {us:List Value} {m:Nat->Nat} (h:mP w g n O I s a k us m) (hk:k<n):w.cell? ⟨g,k,none⟩=some (.slice none 0 0):=by
 rw[h.row.cellAt k oA,dc (by rw[h.len];exact ar _),h.len,Nat.sub_self,List.getElem?_replicate,af oA]
theorem mP.more {w w1:World} {g n O I s k:Nat} {a:Nat->Nat×List Value} {us:List Value} {m:Nat->Nat} (h:mP w g n O I s a k us m) (hk:k<n) (f:Below w.heap.size w w1) {u:Value} (d:w1.ownsRow w.heap.size I s u (a k).1 (a k).2):
  mP (w1.setCell ⟨g,k,none⟩ u) g n O I s a (k+1) (us++[u]) (fun j=>if j<=k then m j else w1.heap.size):=by
 have b:=h.below f;refine⟨by simp[h.len],?_,fun j c=>?_,?_,fun j c=>?_⟩
 ·have:=(b.row.stored k u).1;have e:(us++List.replicate (n - k) (Value.slice none 0 0)).set k u=us++[u]++List.replicate (n - (k+1)) (.slice none 0 0):=by
   rw[List.set_append_right _ _ (by rw[h.len];exact ar _),h.len,Nat.sub_self,show n - k=(n - (k+1))+1 by omega,List.replicate_succ,List.set_cons_zero,List.append_assoc];rfl
  rwa [e] at this
 ·by_cases e:j<=k
  ·rw[af e];exact h.lo j e
  ·rw[ae e];exact aE (h.lo k (ar _)) b.hi
 ·rw[ae oA];simp
 ·by_cases e:j<k
  ·rw[List.getElem_append_left (by rw[h.len];exact e),af oA,af oA];exact (b.each j (by rw[h.len];exact e)).set (h.lo j oA) u
  ·have i:j=k:=by simp[h.len] at c;omega
   subst i;rw[List.getElem_append_right (by rw[h.len];exact ar _),af (ar _),ae oA];simp only[h.len,Nat.sub_self,aS];exact (show InO w1 (m j) w1.heap.size I s u (a j) from⟨d.mono h.hi,fun x l=>(d.lt x l).2⟩).set (h.lo j (ar _)) u
theorem mP.start (w:World) (n O I s:Nat) (b:Nat->Nat×List Value) (f:n<=maxLen) (a:Array Value) (c:a=Array.replicate n (.slice none 0 0)):mP (w.alloc (.cells a O)) w.heap.size n O I s b 0 [] (fun _=>w.heap.size+1):=by
 subst c;refine⟨rfl,?_,fun _ _=>Nat.lt_succ_self _,oS,fun j d=>by simp at d⟩;have:=World.ownsRow_lit (base:=w.heap.size) (e:=O) (size:=1) w (Array.replicate n (.slice none 0 0)) n (ar _) f oS;simpa using this
def i9 (w:World) (lo hi O I s n:Nat) (v:Value) (cc:Nat->Nat×List Value):Prop:=∃g us m,v=.slice (some ⟨g,0,none⟩) n n∧lo<=g∧m n<=hi∧(∀j,j<n->m j<=m (j+1))∧mP w g n O I s cc n us m
def ci (ls:List (List Int)) (j:Nat):Nat×List Value:=((ls.getD j []).length,ec (ls.getD j []))
def ce (ls:List (List Ent)) (j:Nat):Nat×List Value:=((ls.getD j []).length,dE (ls.getD j []))
theorem jw (n:Nat):madeCells (Value.cells (.slice none 0 0)) (n*1)=Array.replicate n (Value.slice none 0 0):=by
 apply Array.ext_getElem?;intro k;by_cases h:k<n
 ·rw[qV _ _ _ rfl h];simp[h]
 ·rw[Array.getElem?_eq_none (by unfold madeCells;simp;omega)];simp[h]
theorem fZ {B e size n:Nat} {w:World} {v:Value} {xs:List Value} (h:w.ownsRow B e size v n xs):∃q c,v=.slice q n c:=by
 rcases h.2 with ⟨rfl,rfl⟩|⟨g,cap,a,rfl,_⟩
 ·exact⟨_,_,rfl⟩
 ·exact⟨_,_,rfl⟩
theorem InO.Ev {lo hi I s:Nat} {u:Value} {c:Nat×List Value} {B:Nat} (hB:B<lo):∀(b:List Value) (o:Nat) (w:World),InO w lo hi I s u c->InO (w.setCells B o b) lo hi I s u c
 |[],_,_,h=>h
 |v::r,o,w,h=>by
  rw[World.setCells];exact InO.Ev hB r (o+1) _ (h.set (a:=⟨B,o,none⟩) hB v)
theorem mP.set {w:World} {g n O I s k:Nat} {b:Nat->Nat×List Value} {us:List Value} {m:Nat->Nat} (h:mP w g n O I s b k us m) {a:Addr} (c:a.block<g) (x:Value):mP (w.setCell a x) g n O I s b k us m:=
 ⟨h.len,ownsRow_setCell_below h.row c x,h.lo,by simpa using h.hi,fun j d=>(h.each j d).set (Nat.lt_trans c (h.lo j (by rw[<-h.len];omega))) x⟩
theorem i9.below {w w':World} {lo hi O I s n:Nat} {v:Value} {cc:Nat->Nat×List Value} (h:i9 w lo hi O I s n v cc) (f:Below w.heap.size w w'):i9 w' lo hi O I s n v cc:=by
 obtain⟨g,us,m,a,b,c,d,e⟩:=h;exact⟨g,us,m,a,b,c,d,e.below f⟩
theorem i9.set {w:World} {lo hi O I s n:Nat} {v:Value} {cc:Nat->Nat×List Value} (h:i9 w lo hi O I s n v cc) {a:Addr} (i:a.block<lo) (x:Value):i9 (w.setCell a x) lo hi O I s n v cc:=by
 obtain⟨g,us,m,c,b,d,e,f⟩:=h;exact⟨g,us,m,c,b,d,e,f.set (aE i b) x⟩
theorem i9.Ev {lo hi O I s n:Nat} {v:Value} {b:Nat->Nat×List Value} {B:Nat} (hB:B<lo):∀(c:List Value) (o:Nat) (w:World),i9 w lo hi O I s n v b->i9 (w.setCells B o c) lo hi O I s n v b
 |[],_,_,h=>h
 |x::r,o,w,h=>by
  rw[World.setCells];exact i9.Ev hB r (o+1) _ (h.set (a:=⟨B,o,none⟩) hB x)
structure gi (w:World) (L:Nat->Nat) (v:Nat->Value) (p:PW):Prop where
 mono:∀j,j<10->L j<=L (j+1)
 Eb:InO w (L 0) (L 1) 3 1 (v 0) (p.Eb.length,ec p.Eb)
 kinds:InO w (L 1) (L 2) 3 1 (v 1) (p.kinds.length,ec p.kinds)
 DZ:InO w (L 2) (L 3) 80 7 (v 2) (p.DZ.length,eT 7 p.DZ)
 DY:InO w (L 3) (L 4) 45 20 (v 3) (p.DY.length,eT 20 p.DY)
 lines:i9 w (L 4) (L 5) 22 3 1 p.lines.length (v 4) (ci p.lines)
 bits:InO w (L 5) (L 6) 3 1 (v 5) (p.bits.length,ec p.bits)
 D6:InO w (L 6) (L 7) 3 1 (v 6) (p.D6.length,ec p.D6)
 ready:i9 w (L 7) (L 8) 22 3 1 p.ready.length (v 7) (ci p.ready)
 D9:i9 w (L 8) (L 9) 31 56 4 p.D9.length (v 8) (ce p.D9)
 Ee:InO w (L 9) (L 10) 3 1 (v 9) (p.Ee.length,ec p.Ee)
 time:v 10=.int .i64 p.time
theorem gi.le {w:World} {L:Nat->Nat} {v:Nat->Value} {p:PW} (h:gi w L v p):∀j,j<=10->L 0<=L j
 |0,_=>ar _
 |j+1,hj=>aB (h.le j oA) (h.mono j oA)
theorem gi.below {w w':World} {L:Nat->Nat} {v:Nat->Value} {p:PW} (h:gi w L v p) (a:Below w.heap.size w w'):gi w' L v p:=
 ⟨h.mono,h.Eb.below a,h.kinds.below a,h.DZ.below a,h.DY.below a,h.lines.below a,h.bits.below a,h.D6.below a,h.ready.below a,h.D9.below a,h.Ee.below a,h.time⟩
theorem gi.Ev {w:World} {L:Nat->Nat} {v:Nat->Value} {p:PW} (h:gi w L v p) {B:Nat} (hB:B<L 0) (a:List Value) (o:Nat):gi (w.setCells B o a) L v p:=
 ⟨h.mono,InO.Ev (aE hB (h.le 0 oA)) a o w h.Eb,InO.Ev (aE hB (h.le 1 oA)) a o w h.kinds,InO.Ev (aE hB (h.le 2 oA)) a o w h.DZ,InO.Ev (aE hB (h.le 3 oA)) a o w h.DY,i9.Ev (aE hB (h.le 4 oA)) a o w h.lines,InO.Ev (aE hB (h.le 5 oA)) a o w h.bits,InO.Ev (aE hB (h.le 6 oA)) a o w h.D6,i9.Ev (aE hB (h.le 7 oA)) a o w h.ready,i9.Ev (aE hB (h.le 8 oA)) a o w h.D9,InO.Ev (aE hB (h.le 9 oA)) a o w h.Ee,h.time⟩
theorem InO.ints {w:World} {lo hi:Nat} {u:Value} {zs:List Int} (h:InO w lo hi 3 1 u (zs.length,ec zs)):ey w u zs:=de h.1
theorem i9.lists {w:World} {lo hi O:Nat} {v:Value} {ls:List (List Int)} (h:i9 w lo hi O 3 1 ls.length v (ci ls)):gX w v ls:=by
 obtain⟨g,us,m,rfl,_,_,_,a⟩:=h;refine⟨some ⟨g,0,none⟩,g,0,ls.length,rfl,fun _=>rfl,fun j c=>?_⟩;have b:j<us.length:=by rw[a.len];exact c
 have d:=a.row.cellAt j oA;rw[List.getElem?_append_left b,ac b] at d;refine⟨us[j],by rw[az];exact d,?_⟩;have:=(a.each j b).1;unfold ci at this;rw[aa,ac c] at this;exact de this
theorem uL {w:World} {B:Nat} {v:Value} {l:List Ent} (h:w.ownsRow B 56 4 v l.length (dE l)) (hl:l.length<=100):gB w v l∧yl v:=by
 rcases h.2 with ⟨rfl,b⟩|⟨g,cap,f,rfl,b,i,d,_⟩
 ·rw[List.length_eq_zero_iff.1 b];exact⟨⟨none,0,0,0,rfl,fun e=>by simp at e,fun j a=>by simp at a,oS⟩,ar _⟩
 ·refine⟨⟨some ⟨g,0,none⟩,g,0,cap,rfl,fun _=>rfl,fun j a=>?_,hl⟩,d⟩;obtain⟨c0,c1,c2,c⟩:=fL l j a;simp only[az];exact⟨(h.cellAt (j*4) oA).trans c0,(h.cellAt (j*4+1) oA).trans c1,(h.cellAt (j*4+2) oA).trans c2,(h.cellAt (j*4+3) oA).trans c⟩
theorem i9.D9 {w:World} {lo hi O:Nat} {v:Value} {ls:List (List Ent)} (h:i9 w lo hi O 56 4 ls.length v (ce ls)) (hl:∀l∈ls,l.length<=100):jm w v ls:=by
 obtain⟨g,us,m,rfl,_,_,_,a⟩:=h;refine⟨some ⟨g,0,none⟩,g,0,ls.length,rfl,fun _=>rfl,fun j b=>?_⟩;have c:j<us.length:=by rw[a.len];exact b
 have d:=a.row.cellAt j oA;rw[List.getElem?_append_left c,ac c] at d;refine⟨us[j],by rw[az];exact d,?_⟩;have:=(a.each j c).1;unfold ce at this;rw[aa,ac b] at this;exact uL this (hl _ (aw b))
theorem gi.v {w:World} {L:Nat->Nat} {v:Nat->Value} {p:PW} (h:gi w L v p) (hl:∀l∈p.D9,l.length<=100):jn w v p:=
 ⟨h.Eb.ints,h.kinds.ints,jz h.DZ.1,jz h.DY.1,h.lines.lists,h.bits.ints,h.D6.ints,h.ready.lists,h.D9.D9 hl,h.Ee.ints,h.time⟩
theorem zS {w:World} {v:Value} {ls:List (List Ent)} (h:jm w v ls):∀l∈ls,l.length<=100:=by
 intro l hl;obtain⟨_,b,off,_,_,_,a⟩:=h;obtain⟨j,d,rfl⟩:=List.mem_iff_getElem.1 hl;obtain⟨x,_,⟨_,_,_,_,_,_,_,c⟩,_⟩:=a j d;exact c
theorem oQ {w:World} {lo hi O I s n:Nat} {v:Value} {a:Nat->Nat×List Value} (h:i9 w lo hi O I s n v a):∃q,v=.slice q n n:=by
 obtain⟨g,us,m,b,_⟩:=h;exact⟨_,b⟩
theorem kB {w w':World} {b o n:Nat} (h:w.there b o n) (c:Below w.heap.size w w'):w'.there b o n:=fun j e=>by
 obtain⟨a,d⟩:=h j e;obtain⟨u,f⟩:=Option.isSome_iff_exists.1 a;have hl:=aj _ _ f;exact⟨by rw[c.cell hl];exact a,by rw[c.frozen hl];exact d⟩
theorem _root_.Go.Proofs.YtaejnmmpddbbjaaGreatDoor.cP:type_of% @kB:= @kB
