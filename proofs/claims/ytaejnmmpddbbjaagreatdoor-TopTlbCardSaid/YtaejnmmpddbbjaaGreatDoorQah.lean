/- Qah -/
import Derived.BigGuard
import Derived.BigCall
import Derived.Lib.SliceRun
import Derived.Deep.RegionHeld3
import Derived.BigQuiet
import Derived.Test.YtaejnmmpddbbjaaGreatDoorQag
import Derived.Test.YtaejnmmpddbbjaaGreatDoorQad
namespace Go.Proofs.YtaejnmmpddbbjaaGreatDoor.Wd
open Go.RowKit Mem Bw Nums Mmu
theorem eval_get (a:Act) (t:Nat):a.eval (.tmp t)=a.tmps[t]?.getD undef:=by simp[Act.eval,Array.getD_eq_getD_getElem?]
theorem results_c2 {c:Func} {p u:Tmp} {f:TypeId} (h:c.results=#[.cell p f,.tmp u]) {a:Act} {P:Program} {w:World} {b:Nat} {x y:Value} (d:a.eval (.tmp p)=.pointer (some ⟨b,0,none⟩)) (hl:(loadVar f ⟨b,0,none⟩).run P w=.ok x w) (e:a.eval (.tmp u)=y):
  (results c a.tmps).run P w=.ok (.tuple #[x,y]) w:=by
 rw[eval_get] at d e;simp only[results,h];simp[Result.andThen,asAddr,d,e,hl]
theorem results_d2 {d:Func} {p u:Tmp} {e:TypeId} (h:d.results=#[.cell p e,.tmp u]) {c:Array Value} {P:Program} {w:World} {b:Nat} {x y:Value} (f:c.getD p undef=.pointer (some ⟨b,0,none⟩)) (hl:(loadVar e ⟨b,0,none⟩).run P w=.ok x w) (g:c.getD u undef=y):
  (results d c).run P w=.ok (.tuple #[x,y]) w:=results_c2 (a:=⟨c,[]⟩) h f hl g
def hasE (p:PW) (n:Int):Int:=if slotB p n then (if (p.slots.getD n.toNat nkey) 0=0 then 6 else 0) else 2
set_option maxRecDepth 100000
set_option maxHeartbeats 600000
theorem has_ref (vb:Nat) (V:Nat→Value) (p:PW) (n:Int) (w:World) (a:ViewAt w vb V p):
  Calls Tryz.prog 36 #[.pointer (some ⟨vb,0,none⟩),.int .i64 n] w fun r w'=>r=.returned (.int .i64 (hasE p n))∧w=w':=by
 have c2:w.cell? ⟨vb,2,none⟩=some (V 2):=af a.r rfl;have c1:w.cell? ⟨vb,1,none⟩=some (V 1):=af a.r rfl;obtain⟨D,b2,C,s,e2,e,g⟩:=a.v.slots;obtain⟨q1,b1,B,q,e1,l,m⟩:=a.v.kinds;have A:(p.slots.length:Int)≤1000:=by have:=a.f.slots;omega
 have z:(p.kinds.length:Int)≤1000:=by have:=a.f.kinds;omega
 cases hs:slotB p n with
 |false=>
  have b:=hid (show hasE p n=2 by unfold hasE;rw[hs];rfl);have h:=hid hs;have k:=cP hs;clear hs h g e m l a;by_cases c:n<0
  ·clear k;go_enter Tryz.func36,Tryz.ntmps36
   go_wp2_with fail
   go_ret
   exact⟨by rw[b.out];rfl,rfl⟩
  ·have u:(p.slots.length:Int)≤n:=by omega
   clear k;go_enter Tryz.func36,Tryz.ntmps36
   go_wp2_with fail
   go_ret
   exact⟨by rw[b.out];rfl,rfl⟩
 |true=>
  obtain⟨j,rfl,i⟩:=slotB_in hs;have h:=hid hs;have x:(j:Int)<(p.slots.length:Int):=by omega
  obtain rfl:=e (by omega);have o:=range_at0 (g j i) (cf_at 7 _ 0 (by omega));have d:=hid (show hasE p j=if p.slots[j] 0=0 then 6 else 0 by unfold hasE;rw[hs,ag rfl,ah,aa,ac i];rfl);generalize p.slots[j] 0=y at o d;clear hs g e m l a;have n0:¬((j:Int)<0):=by omega
  have n1:¬((p.slots.length:Int)≤(j:Int)):=by omega
  by_cases c:y=0
  ·subst c;have b:=hid (show hasE p j=6 by rw[d.out];rfl);go_enter Tryz.func36,Tryz.ntmps36
   go_wp2_with fail
   go_ret
   exact⟨by rw[b.out];rfl,rfl⟩
  ·have b:=hid (show hasE p j=0 by rw[d.out,ae c]);have t:(y==0)=false:=by simpa using c
   clear c;go_enter Tryz.func36,Tryz.ntmps36
   go_wp2_with fail
   go_ret
   exact⟨by rw[b.out];rfl,rfl⟩
set_option maxRecDepth 512
set_option maxHeartbeats 200000
def spl:List Value→Nat→List Value→List Value
 |xs,_,[]=>xs
 |xs,o,v::r=>spl (xs.set o v) (o+1) r
theorem spl_get:∀(b xs:List Value) (o j:Nat),(spl xs o b)[j]? =if o≤j∧j<o+b.length∧j<xs.length then b[j - o]? else xs[j]?
 |[],xs,o,j=>by
  rw[spl,ae (by simp;omega)]
 |v::r,xs,o,j=>by
  rw[spl,spl_get r (xs.set o v) (o+1) j];simp only[ar,dU];by_cases c:o=j
  ·subst c;rw[ae (by omega)];by_cases a:o<xs.length
   ·rw[ag ⟨au _,by omega,a⟩,cQ a,Nat.sub_self];rfl
   ·rw[ae (by omega),aH (by simp;omega),aH (by omega)]
  ·rw[cM c];by_cases a:o+1≤j∧j<o+1+r.length∧j<xs.length
   ·rw[ag a,ag ⟨by omega,by omega,a.2.2⟩,show j - o=(j - (o+1))+1 by omega];rfl
   ·rw[ae a,ae (by omega)]
theorem owns_spl {base e size g n cap:Nat}:∀(a:List Value) (o:Nat) (w:World) (xs:List Value),w.ownsRow base e size (.slice (some ⟨g,0,none⟩) n cap) n xs→(w.setCells g o a).ownsRow base e size (.slice (some ⟨g,0,none⟩) n cap) n (spl xs o a)
 |[],_,_,_,h=>h
 |v::r,o,w,xs,h=>by
  rw[World.setCells,spl];exact owns_spl r (o+1) _ _ (h.stored o v).1
theorem rowsC_set (n:Nat) (a:0<n) (fs:List (Nat→Int)) (i:Nat) (hi:i<fs.length) (f:Nat→Int):spl (rowsC n fs) (i*n) (cf n f)=rowsC n (fs.set i f):=by
 apply List.ext_getElem?;intro j;rw[spl_get,ax];have hl:(rowsC n fs).length=fs.length*n:=rowsC_len n fs;have m:(rowsC n (fs.set i f)).length=fs.length*n:=by rw[rowsC_len,ar]
 by_cases l:j<fs.length*n
 ·have e:j=j/n*n+j%n:=by rw[Nat.mul_comm];exact (Nat.div_add_mod j n).symm
  have d:j/n<fs.length:=(Nat.div_lt_iff_lt_mul a).2 l;have b:j%n<n:=Nat.mod_lt _ a;have a1:=rowsC_at n fs (j/n) (j%n) d b;have c:=rowsC_at n (fs.set i f) (j/n) (j%n) (by rw[ar];exact d) b;rw[←e] at a1 c;rw[a1,c];by_cases h:j/n=i
  ·have e2:j - i*n=j%n:=by rw[←h];omega
   rw[ag (by rw[hl, ←h];omega),e2,cf_at n f _ b];subst h;rw[dW]
  ·rw[ae (by
    intro hh;apply h;have g:i*n≤j:=hh.1;have k:j<(i+1)*n:=by rw[Nat.succ_mul];exact hh.2.1
    exact Nat.le_antisymm (Nat.lt_succ_iff.1 ((Nat.div_lt_iff_lt_mul a).2 k)) ((Nat.le_div_iff_mul_le a).2 g))]
   rw[List.getElem_set_ne (fun e=>h e.symm)]
 ·rw[ae (by rw[hl];omega),aH (by rw[hl];omega),aH (by rw[m];omega)]
theorem WorldO.upto {w:World} {L:Nat→Nat} {v:Nat→Value} {p:PW} (h:WorldO w L v p):∀d j,j+d≤10→L j≤L (j+d)
 |0,_,_=>au _
 |d+1,j,hj=>aD (h.upto d j (by omega)) (h.mono (j+d) (by omega))
theorem BoxT.ram {W b:World} {wb:Nat} {tag tag':Nat→Nat} {V:Nat→Value} {p:PW} (h:BoxT W wb tag V p) (k:Kp (fun k=>tag k=2) W b) (a:∀k,k<W.heap.size→tag' k=tag k) {x:List Int} (n:InT b tag' 2 3 1 (V 0) (x.length,ints x)):BoxT b wb tag' V {p with ram:=x}:=
 ⟨ef h.r k (by rw[h.g];decide),dN h.t k (by rw[h.g];decide),(a wb h.lt).trans h.g,⟨n,h.o.kinds.kp k a (fun k e=>by omega),h.o.slots.kp k a (fun k e=>by omega),h.o.tasks.kp k a (fun k e=>by omega),h.o.lines.kp k a (fun k e=>by rcases e with e|⟨i,e⟩<;>omega),h.o.bits.kp k a (fun k e=>by omega),h.o.cores.kp k a (fun k e=>by omega),h.o.ready.kp k a (fun k e=>by rcases e with e|⟨i,e⟩<;>omega),h.o.tlbs.kp k a (fun k e=>by rcases e with e|⟨i,e⟩<;>omega),h.o.doms.kp k a (fun k e=>by omega),h.o.time⟩⟩
theorem BoxT.kinds {W b:World} {wb:Nat} {tag tag':Nat→Nat} {V:Nat→Value} {p:PW} (h:BoxT W wb tag V p) (k:Kp (fun k=>tag k=3) W b) (a:∀k,k<W.heap.size→tag' k=tag k) {x:List Int} (n:InT b tag' 3 3 1 (V 1) (x.length,ints x)):BoxT b wb tag' V {p with kinds:=x}:=
 ⟨ef h.r k (by rw[h.g];decide),dN h.t k (by rw[h.g];decide),(a wb h.lt).trans h.g,⟨h.o.ram.kp k a (fun k e=>by omega),n,h.o.slots.kp k a (fun k e=>by omega),h.o.tasks.kp k a (fun k e=>by omega),h.o.lines.kp k a (fun k e=>by rcases e with e|⟨i,e⟩<;>omega),h.o.bits.kp k a (fun k e=>by omega),h.o.cores.kp k a (fun k e=>by omega),h.o.ready.kp k a (fun k e=>by rcases e with e|⟨i,e⟩<;>omega),h.o.tlbs.kp k a (fun k e=>by rcases e with e|⟨i,e⟩<;>omega),h.o.doms.kp k a (fun k e=>by omega),h.o.time⟩⟩
theorem BoxT.slots {W b:World} {wb:Nat} {tag tag':Nat→Nat} {V:Nat→Value} {p:PW} (h:BoxT W wb tag V p) (k:Kp (fun k=>tag k=4) W b) (a:∀k,k<W.heap.size→tag' k=tag k) {x:List (Nat→Int)} (n:InT b tag' 4 80 7 (V 2) (x.length,rowsC 7 x)):BoxT b wb tag' V {p with slots:=x}:=
 ⟨ef h.r k (by rw[h.g];decide),dN h.t k (by rw[h.g];decide),(a wb h.lt).trans h.g,⟨h.o.ram.kp k a (fun k e=>by omega),h.o.kinds.kp k a (fun k e=>by omega),n,h.o.tasks.kp k a (fun k e=>by omega),h.o.lines.kp k a (fun k e=>by rcases e with e|⟨i,e⟩<;>omega),h.o.bits.kp k a (fun k e=>by omega),h.o.cores.kp k a (fun k e=>by omega),h.o.ready.kp k a (fun k e=>by rcases e with e|⟨i,e⟩<;>omega),h.o.tlbs.kp k a (fun k e=>by rcases e with e|⟨i,e⟩<;>omega),h.o.doms.kp k a (fun k e=>by omega),h.o.time⟩⟩
theorem BoxT.tlbs {W b:World} {wb:Nat} {tag tag':Nat→Nat} {V:Nat→Value} {p:PW} (h:BoxT W wb tag V p) (k:Kp (fun k=>tag k=10∨∃j,tag k=14+3*j) W b) (a:∀k,k<W.heap.size→tag' k=tag k) {x:List (List Ent)} (n:TlbT b tag' x.length (V 8) x):BoxT b wb tag' V {p with tlbs:=x}:=
 ⟨ef h.r k (by rw[h.g];rintro (h|⟨j,h⟩)<;>omega),dN h.t k (by rw[h.g];rintro (h|⟨j,h⟩)<;>omega),(a wb h.lt).trans h.g,⟨h.o.ram.kp k a (fun k e=>by rintro (h|⟨j,h⟩)<;>omega),h.o.kinds.kp k a (fun k e=>by rintro (h|⟨j,h⟩)<;>omega),h.o.slots.kp k a (fun k e=>by rintro (h|⟨j,h⟩)<;>omega),h.o.tasks.kp k a (fun k e=>by rintro (h|⟨j,h⟩)<;>omega),h.o.lines.kp k a (fun k e=>by rintro (h|⟨j,h⟩)<;>rcases e with e|⟨i,e⟩<;>omega),h.o.bits.kp k a (fun k e=>by rintro (h|⟨j,h⟩)<;>omega),h.o.cores.kp k a (fun k e=>by rintro (h|⟨j,h⟩)<;>omega),h.o.ready.kp k a (fun k e=>by rintro (h|⟨j,h⟩)<;>rcases e with e|⟨i,e⟩<;>omega),n,h.o.doms.kp k a (fun k e=>by rintro (h|⟨j,h⟩)<;>omega),h.o.time⟩⟩
theorem InT.cells {w:World} {tag:Nat→Nat} {t I s n g cap:Nat} {xs:List Value} (h:InT w tag t I s (.slice (some ⟨g,0,none⟩) n cap) (n,xs)) (o:Nat) (a:List Value):InT (w.setCells g o a) tag t I s (.slice (some ⟨g,0,none⟩) n cap) (n,spl xs o a)∧Kp (fun k=>tag k=t) w (w.setCells g o a):=
 ⟨⟨owns_spl a o w xs h.1,h.2⟩,kp_sets (T:=fun k=>tag k=t) a o w (h.2 g rfl)⟩
theorem InT.there {w:World} {tag:Nat→Nat} {t I s n g cap:Nat} {xs:List Value} (h:InT w tag t I s (.slice (some ⟨g,0,none⟩) n cap) (n,xs)) (o m:Nat) (d:o+m≤n*s):w.there g o m:=fun j c=>by
 refine⟨?_,h.1.frozenAt _⟩;have hl:xs.length=n*s:=h.1.1;have a:o+j<n*s:=by omega
 have b:w.cell? ⟨g,o+j,none⟩=xs[o+j]? :=h.1.cellAt (o+j) a;rw[b,ac (by omega)];rfl
theorem BoxT.slotsCell {W:World} {wb:Nat} {tag:Nat→Nat} {V:Nat→Value} {p:PW} (h:BoxT W wb tag V p) {g cap:Nat} (e:V 2=.slice (some ⟨g,0,none⟩) p.slots.length cap) {i k:Nat} (hi:i<p.slots.length) (hk:k<7) (x:Int):
  BoxT (W.setCell ⟨g,i*7+k,none⟩ (.int .i64 x)) wb tag V {p with slots:=p.slots.set i (upd p.slots[i] k x)}∧Kt tag tag W (W.setCell ⟨g,i*7+k,none⟩ (.int .i64 x)):=by
 have a:=h.o.slots;rw[e] at a;obtain⟨b,c⟩:=a.cell (i*7+k) (.int .i64 x);rw[rowsC_cell 7 (by decide) p.slots i k hi hk x] at b;refine⟨h.slots c (fun _ _=>rfl) ?_,.of c (fun k e=>by omega) (fun _ _=>rfl)⟩;rw[ar,e];exact b
theorem BoxT.slotsRow {W:World} {wb:Nat} {tag:Nat→Nat} {V:Nat→Value} {p:PW} (h:BoxT W wb tag V p) {g cap:Nat} (e:V 2=.slice (some ⟨g,0,none⟩) p.slots.length cap) {i:Nat} (hi:i<p.slots.length) (f:Nat→Int):
  BoxT (W.setCells g (i*7) (cf 7 f)) wb tag V {p with slots:=p.slots.set i f}∧Kt tag tag W (W.setCells g (i*7) (cf 7 f)):=by
 have a:=h.o.slots;rw[e] at a;obtain⟨b,c⟩:=a.cells (i*7) (cf 7 f);rw[rowsC_set 7 (by decide) p.slots i hi f] at b;refine⟨h.slots c (fun _ _=>rfl) ?_,.of c (fun k e=>by omega) (fun _ _=>rfl)⟩;rw[ar,e];exact b
theorem BoxT.tasksRow {W:World} {wb:Nat} {tag:Nat→Nat} {V:Nat→Value} {p:PW} (h:BoxT W wb tag V p) {g cap:Nat} (e:V 3=.slice (some ⟨g,0,none⟩) p.tasks.length cap) {i:Nat} (hi:i<p.tasks.length) (f:Nat→Int):
  BoxT (W.setCells g (i*20) (cf 20 f)) wb tag V {p with tasks:=p.tasks.set i f}∧Kt tag tag W (W.setCells g (i*20) (cf 20 f)):=by
 have a:=h.o.tasks;rw[e] at a;obtain⟨b,c⟩:=a.cells (i*20) (cf 20 f);rw[rowsC_set 20 (by decide) p.tasks i hi f] at b;refine⟨h.tasks c (fun _ _=>rfl) ?_,.of c (fun k e=>by omega) (fun _ _=>rfl)⟩;rw[ar,e];exact b
theorem BoxT.ramCell {W:World} {wb:Nat} {tag:Nat→Nat} {V:Nat→Value} {p:PW} (h:BoxT W wb tag V p) {g cap:Nat} (e:V 0=.slice (some ⟨g,0,none⟩) p.ram.length cap) (i:Nat) (x:Int):
  BoxT (W.setCell ⟨g,i,none⟩ (.int .i64 x)) wb tag V {p with ram:=p.ram.set i x}∧Kt tag tag W (W.setCell ⟨g,i,none⟩ (.int .i64 x)):=by
 have a:=h.o.ram;rw[e] at a;obtain⟨b,c⟩:=a.cell i (.int .i64 x);rw[ints_set] at b;refine⟨h.ram c (fun _ _=>rfl) ?_,.of c (fun k e=>by omega) (fun _ _=>rfl)⟩;rw[ar,e];exact b
theorem BoxT.kindsCell {W:World} {wb:Nat} {tag:Nat→Nat} {V:Nat→Value} {p:PW} (h:BoxT W wb tag V p) {g cap:Nat} (e:V 1=.slice (some ⟨g,0,none⟩) p.kinds.length cap) (i:Nat) (x:Int):
  BoxT (W.setCell ⟨g,i,none⟩ (.int .i64 x)) wb tag V {p with kinds:=p.kinds.set i x}∧Kt tag tag W (W.setCell ⟨g,i,none⟩ (.int .i64 x)):=by
 have a:=h.o.kinds;rw[e] at a;obtain⟨b,c⟩:=a.cell i (.int .i64 x);rw[ints_set] at b;refine⟨h.kinds c (fun _ _=>rfl) ?_,.of c (fun k e=>by omega) (fun _ _=>rfl)⟩;rw[ar,e];exact b
theorem BoxT.slotsAt {W:World} {wb:Nat} {tag:Nat→Nat} {V:Nat→Value} {p:PW} (h:BoxT W wb tag V p) {g cap:Nat} (e:V 2=.slice (some ⟨g,0,none⟩) p.slots.length cap) {i k:Nat} (hi:i<p.slots.length) (hk:k<7):W.cell? ⟨g,i*7+k,none⟩=some (.int .i64 (p.slots[i] k)):=by
 have a:=h.o.slots;rw[e] at a;exact a.range hi k _ (cf_at 7 _ k hk)
theorem BoxT.slotsFr {W:World} {wb:Nat} {tag:Nat→Nat} {V:Nat→Value} {p:PW} (h:BoxT W wb tag V p) {g cap:Nat} (e:V 2=.slice (some ⟨g,0,none⟩) p.slots.length cap) (o:Nat):W.frozen? ⟨g,o,none⟩=false:=by
 have a:=h.o.slots;rw[e] at a;exact a.frozen o
section
variable {P : Program} {ops : Array Oper} {Q : Exit → Act → World → Prop} {md : Region.Mode} {S R : World → Prop} {fs : List Nat}
end
def hnd1 (a b:Int) (f:Nat→Int):Nat→Int:=if f 6=a then upd f 6 b else f
def hnd (a b:Int) (fs:List (Nat→Int)):List (Nat→Int):=fs.map (hnd1 a b)
def hndK (a b:Int) (k:Nat) (fs:List (Nat→Int)):List (Nat→Int):=(fs.take k).map (hnd1 a b)++fs.drop k
theorem hndK_len (a b:Int) (k:Nat) (fs:List (Nat→Int)):(hndK a b k fs).length=fs.length:=by
 unfold hndK;simp;omega
theorem hndK_zero (a b:Int) (fs:List (Nat→Int)):hndK a b 0 fs=fs:=by simp[hndK]
theorem hndK_all (a b:Int) (fs:List (Nat→Int)):hndK a b fs.length fs=hnd a b fs:=by simp[hndK,hnd]
theorem hndK_at (a b:Int) (k:Nat) (fs:List (Nat→Int)) (hk:k<fs.length) (h:k<(hndK a b k fs).length):(hndK a b k fs)[k]=fs[k]:=by
 have e:(hndK a b k fs)[k]? =fs[k]? :=by
  unfold hndK;rw[du (by simp;omega),dc]
  congr 1
  simp;omega
 rw[ac h,ac hk] at e;exact aK e
theorem hndK_succ (a b:Int) (k:Nat) (fs:List (Nat→Int)) (hk:k<fs.length):hndK a b (k+1) fs=(hndK a b k fs).set k (hnd1 a b fs[k]):=by
 unfold hndK;have e:k - (List.map (hnd1 a b) (List.take k fs)).length=0:=by simp;omega
 rw[List.take_add_one,ac hk,dX,List.set_append,ae (by simp;omega),e];simp only[Option.toList_some,bV,ep,List.append_assoc,List.cons_append,List.nil_append];rw[List.drop_eq_getElem_cons hk];rfl
theorem hndK_set {a b:Int} {k:Nat} {fs:List (Nat→Int)} (hk:k<fs.length) (h:k<(hndK a b k fs).length) (c:fs[k] 6=a):(hndK a b k fs).set k (upd (hndK a b k fs)[k] 6 b)=hndK a b (k+1) fs:=by
 rw[hndK_succ a b k fs hk,hndK_at a b k fs hk h];unfold hnd1;rw[ag c]
theorem hndK_same {a b:Int} {k:Nat} {fs:List (Nat→Int)} (hk:k<fs.length) (c:¬fs[k] 6=a):hndK a b k fs=hndK a b (k+1) fs:=by
 have h:k<(hndK a b k fs).length:=by rw[hndK_len];exact hk
 rw[hndK_succ a b k fs hk];unfold hnd1;rw[ae c, ←hndK_at a b k fs hk h,cF]
set_option maxRecDepth 100000
set_option maxHeartbeats 2000000
theorem turn_ref (wb:Nat) (tag:Nat→Nat) (V:Nat→Value) (p:PW) (a b:Int) (W:World) (bt:BoxT W wb tag V p) (hl:p.slots.length≤1000):
  Calls Tryz.prog 35 #[.pointer (some ⟨wb,0,none⟩),.int .i64 a,.int .i64 b] W fun r W'=>r=.returned (.tuple #[])∧BoxT W' wb tag V {p with slots:=hnd a b p.slots}∧Kt tag tag W W':=by
 obtain⟨A,g,cap,e2,t⟩:=bt.o.slots.shape;have u:=hid bt;have w:=hid t;have l:=hid e2;have D:(p.slots.length:Int)≤1000:=by omega
 clear bt t e2;go_enter Tryz.func35,Tryz.ntmps35
 go_wp2_with fail
 go_loopw [6] (fun i wr=>∃(k:Nat),k≤p.slots.length∧i=.int .i64 k∧Hid (BoxT wr wb tag V {p with slots:=hndK a b k p.slots})∧Hid (Kt tag tag W wr)) (fun i _=>p.slots.length - (intOf i).toNat)
 case atStart=>exact⟨0,by omega,rfl,hid (by rw[hndK_zero];exact u),hid (Kt.refl _ _)⟩
 case round=>
  obtain⟨k,hk,rfl,c,m⟩:=hrel;by_cases j:k<p.slots.length
  ·have E:(k:Int)<(p.slots.length:Int):=by omega
   have z:=w.out (by omega);subst z;have h:k<(hndK a b k p.slots).length:=by rw[hndK_len];exact j
   have f:V 2=.slice (some ⟨g,0,none⟩) (hndK a b k p.slots).length cap:=by rw[hndK_len];exact l
   have c2:wr.cell? ⟨wb,2,none⟩=some (.slice (some ⟨g,0,none⟩) p.slots.length cap):=by rw[af c.r (k:=2) rfl,l.out]
   have n:=c.slotsAt f h (show 6<7 by omega);have B:=c.slotsFr f (k*7+6);simp only[hndK_at a b k p.slots j] at n;by_cases d:p.slots[k] 6=a
   ·obtain⟨s,q⟩:=c.slotsCell f h (show 6<7 by omega) b;have e:=hid (show BoxT (wr.setCell ⟨g,k*7+6,none⟩ (.int .i64 b)) wb tag V {p with slots:=hndK a b (k+1) p.slots} by rw[←hndK_set j h d];exact s);have v:=hid (m.trans q);rw[d] at n;clear s q f d h c;go_wp2_with fail
    exact⟨⟨k+1,by omega,by go_num,e,v⟩,by simp[intOf];omega⟩
   ·have e:=hid (show BoxT wr wb tag V {p with slots:=hndK a b (k+1) p.slots} by rw[←hndK_same j d];exact c);have x:(p.slots[k] 6==a)=false:=by simpa using d
    generalize p.slots[k] 6=y at n x;clear f d h c;go_wp2_with fail
    exact⟨⟨k+1,by omega,by go_num,e,m⟩,by simp[intOf];omega⟩
  ·obtain rfl:k=p.slots.length:=by omega
   have c2:wr.cell? ⟨wb,2,none⟩=some (.slice A p.slots.length cap):=by rw[af c.r (k:=2) rfl,l.out]
   have C:¬((p.slots.length:Int)<(p.slots.length:Int)):=by omega
   have e:=hid (show BoxT wr wb tag V {p with slots:=hnd a b p.slots} by rw[←hndK_all];exact c);clear c;go_wp2_with fail
   exact aY (aN rfl _ _ _) rfl ⟨rfl,e.out,m.out⟩
set_option maxRecDepth 512
set_option maxHeartbeats 200000
def eS:Nat→Int:=fun k=>if k=6 then -1 else 0
theorem info7s:(Tryz.prog.info? 80).map (·.size)=some 7:=by kernel_rfl
theorem wp_stS {ops:Array Oper} {rest:List Oper} {op:Oper} {a:Act} {w:World} {Q:Exit→Act→World→Prop} (d:op.guard=none) (x y:Operand) (e:op.op=.store 80 x y)
  (b o:Nat) (g:a.eval x=.pointer (some ⟨b,o,none⟩)) (cs:List Value) (i:a.eval y=.agg cs.toArray) (hl:cs.length=7) (c:∀v∈cs,v.oneCell'=true) (f:w.there b o 7)
  (h:wpList Tryz.prog ops Q rest (a.put op.dst undef) (w.setCells b o cs)):wpList Tryz.prog ops Q (op::rest) a w:=
 wpList_store_mid d 80 x y e b o cs.toArray g i (by simpa [hl] using f) (by rw[info7s];simp[hl]) (all_oneCell_toArray c) (by simpa using h)
theorem wp_ldS {ops:Array Oper} {rest:List Oper} {op:Oper} {a:Act} {w:World} {Q:Exit→Act→World→Prop} (d:op.guard=none) (x:Operand) (e:op.op=.load 80 x)
  (b o:Nat) (f:a.eval x=.pointer (some ⟨b,o,none⟩)) (cs:List Value) (hl:cs.length=7) (c:w.rangeAt b o cs)
  (h:wpList Tryz.prog ops Q rest (a.put op.dst (.agg cs.toArray)) w):wpList Tryz.prog ops Q (op::rest) a w:=
 wpList_load_mid d 80 x e b o f cs _ c Tryz.underlying80 rfl (by rw[info7s,hl]) h
def frm (p:PW) (n:Int):Bool:=p.slots.any (fun f=>f 6==n)
def clE (p:PW) (n:Int):Int:=if hasE p n=0 then (if (p.slots.getD n.toNat nkey) 0=1 then 0 else 3) else hasE p n
def usV (p:PW) (n:Int):Int:=if frm p n=true then (p.slots.getD n.toNat nkey) 3 else 0
theorem info6k:(Tryz.prog.info? 78).map (·.size)=some 6:=by kernel_rfl
theorem has_in {p:PW} {n:Int} (h:hasE p n=0):∃j:Nat,n=j∧j<p.slots.length:=by
 unfold hasE at h
 cases hs:slotB p n with
 |false=>rw[hs] at h;cases h
 |true=>exact slotB_in hs
def usd (p:PW) (t m:Nat):Bool:=((p.slots.drop t).take m).any (fun f=>f 0 !=0)
def fcE (p:PW) (t:Nat) (m:Int):Int:=if p.kinds.getD (t/16) 0=5 then (if within 1 (16 - (t:Int)%16) m=true then (if usd p t m.toNat=true then 12 else 0) else 2) else 3
set_option maxRecDepth 100000
set_option maxHeartbeats 4000000
theorem anyFrom_ref (vb:Nat) (V:Nat→Value) (p:PW) (n:Int) (w:World) (b:ViewAt w vb V p):
  Calls Tryz.prog 38 #[.pointer (some ⟨vb,0,none⟩),.int .i64 n] w fun r w'=>r=.returned (.bool (frm p n))∧w=w':=by
 have c2:w.cell? ⟨vb,2,none⟩=some (V 2):=af b.r rfl;obtain⟨E,b2,D,z,e2,l,m⟩:=b.v.slots;have B:(p.slots.length:Int)≤1000:=by have:=b.f.slots;omega
 rw[e2] at c2;have s:=hid l;have t:=hid m;clear l m b e2;go_enter Tryz.func38,Tryz.ntmps38
 go_wp2_with fail
 go_loopw [5] (fun i wr=>∃(k:Nat),k≤p.slots.length∧i=.int .i64 k∧w=wr∧Hid (∀j (a:j<p.slots.length),j<k→(p.slots[j] 6==n)=false)) (fun i _=>p.slots.length - (intOf i).toNat)
 case atStart=>exact⟨0,by omega,rfl,rfl,hid (fun j _ h=>by omega)⟩
 case round=>
  obtain⟨k,hk,rfl,rfl,d⟩:=hrel;by_cases g:k<p.slots.length
  ·have C:(k:Int)<(p.slots.length:Int):=by omega
   obtain rfl:=s.out (by omega);have o:=ey (t.out k g) (cf_at 7 _ 6 (by omega))
   cases h6:(p.slots[k] 6==n) with
   |true=>
    have c:=hid (show frm p n=true from List.any_eq_true.2 ⟨p.slots[k],aw g,h6⟩);generalize p.slots[k] 6=y at o h6;go_wp2_with fail
    go_ret
    exact⟨by rw[c.out];rfl,rfl⟩
   |false=>
    have q:=hid (show ∀j (a:j<p.slots.length),j<k+1→(p.slots[j] 6==n)=false from fun j a h=>by
     by_cases e:j=k
     ·subst e;exact h6
     ·exact d j a (by omega))
    generalize p.slots[k] 6=y at o h6;go_wp2_with fail
    exact⟨⟨k+1,by omega,by go_num,by first|rfl|trivial,q⟩,by simp[intOf];omega⟩
  ·obtain rfl:k=p.slots.length:=by omega
   have A:¬((p.slots.length:Int)<(p.slots.length:Int)):=by omega
   have c:=hid (show frm p n=false by
    unfold frm;rw[bZ];intro x u;obtain⟨j,a,rfl⟩:=dy u;rw[d.out j a a]
    decide)
   go_wp2_with fail
   go_ret
   exact⟨by rw[c.out];rfl,rfl⟩
set_option maxRecDepth 512
set_option maxHeartbeats 200000
def zr (n:Nat) (l:List Int) (a:Nat):List Int:=if h:n=0 then l else zr (n - 1) (l.set a 0) (a+1)
theorem zr_zero (l:List Int) (a:Nat):zr 0 l a=l:=by rw[zr,dif_pos rfl]
theorem zr_step (n:Nat) (l:List Int) (a:Nat):zr (n+1) l a=zr n (l.set a 0) (a+1):=by rw[zr,dif_neg (Nat.succ_ne_zero n),Nat.add_sub_cancel]
theorem zr_len:∀(n:Nat) (l:List Int) (a:Nat),(zr n l a).length=l.length
 |0,l,a=>by rw[zr_zero]
 |n+1,l,a=>by rw[zr_step,zr_len n,ar]
theorem zr_succ:∀(n:Nat) (l:List Int) (a:Nat),zr (n+1) l a=(zr n l a).set (a+n) 0
 |0,l,a=>by rw[zr_step,zr_zero,zr_zero,bz]
 |n+1,l,a=>by rw[zr_step,zr_succ n,zr_step n,show a+1+n=a+(n+1) by omega]
def shP (p:PW) (f:Nat) (k:Int):PW:={p with kinds:=p.kinds.set f k,ram:=zr 16 p.ram (f*16)}
theorem BoxT.kindsThere {W:World} {wb:Nat} {tag:Nat→Nat} {V:Nat→Value} {p:PW} (h:BoxT W wb tag V p) {g cap:Nat} (e:V 1=.slice (some ⟨g,0,none⟩) p.kinds.length cap) (o m:Nat) (b:o+m≤p.kinds.length):W.there g o m:=by
 have a:=h.o.kinds;rw[e] at a;exact a.there o m (by omega)
theorem BoxT.ramThere {W:World} {wb:Nat} {tag:Nat→Nat} {V:Nat→Value} {p:PW} (h:BoxT W wb tag V p) {g cap:Nat} (e:V 0=.slice (some ⟨g,0,none⟩) p.ram.length cap) (o m:Nat) (b:o+m≤p.ram.length):W.there g o m:=by
 have a:=h.o.ram;rw[e] at a;exact a.there o m (by omega)
def tagC (tag:Nat→Nat) (c k:Nat):Nat:=if k<c then tag k else 0
theorem tagC_lt {tag:Nat→Nat} {c k:Nat} (h:k<c):tagC tag c k=tag k:=ag h
theorem retagC {W:World} {wb:Nat} {tag:Nat→Nat} {V:Nat→Value} {p:PW} (h:BoxT W wb tag V p):BoxT W wb (tagC tag W.heap.size) V p∧Kt tag (tagC tag W.heap.size) W W:=
 ⟨h.kp (T:=fun _=>False) (aR _ _) (fun _ _ e=>e.elim) (fun _ hk=>tagC_lt hk),Kt.of (T:=fun _=>False) (aR _ _) (fun _ e=>e.elim) (fun _ hk=>tagC_lt hk)⟩
theorem Kt.setOut {tag tag':Nat→Nat} {W X:World} (h:Kt tag tag' W X) {b o:Nat} (d:W.heap.size≤b) (v:Value):Kt tag tag' W (X.setCell ⟨b,o,none⟩ v):=by
 have a:=(aj 0 X).setCell (p:=⟨b,o,none⟩) (bI _) v;exact⟨⟨a.os.trans h.k.os,a.tape.trans h.k.tape,a.output.trans h.k.output,aD h.k.size a.size,fun i hi c=>(Below.heap_setCell X ⟨b,o,none⟩ v i (show i≠b by omega)).trans (h.k.block i hi c)⟩,h.t⟩
theorem Kt.there {tag tag':Nat→Nat} {W X:World} (h:Kt tag tag' W X) {b n:Nat} (c:W.there b 0 n) (a:tag b=0):X.there b 0 n:=dN c h.k (fun e=>e a)
theorem range_upd {W:World} {b:Nat} {f:Nat→Int} (h:W.rangeAt b 0 (cf 6 f)) (x:Int):(W.setCell ⟨b,3,none⟩ (.int .i64 x)).rangeAt b 0 (cf 6 (upd f 3 x)):=fun o v a=>by
 have g:o<6:=by
  have:=(List.getElem?_eq_some_iff.1 a).1
  rwa [ax] at this
 rw[cf_at 6 _ o g] at a;have c:=h o _ (cf_at 6 f o g);have d:=h 3 _ (cf_at 6 f 3 (by omega));rw[aC] at c d ⊢;by_cases e:o=3
 ·subst e;rw[←a];exact cZ _ _ _ d
 ·rw[←a,aI _ _ _ _ (by intro e2;cases e2;exact e rfl),c];unfold upd;rw[ae e]
theorem wp_stK {ops:Array Oper} {rest:List Oper} {op:Oper} {a:Act} {w:World} {Q:Exit→Act→World→Prop} (d:op.guard=none) (x y:Operand) (e:op.op=.store 78 x y)
  (b o:Nat) (g:a.eval x=.pointer (some ⟨b,o,none⟩)) (cs:List Value) (i:a.eval y=.agg cs.toArray) (hl:cs.length=6) (c:∀v∈cs,v.oneCell'=true) (f:w.there b o 6)
  (h:wpList Tryz.prog ops Q rest (a.put op.dst undef) (w.setCells b o cs)):wpList Tryz.prog ops Q (op::rest) a w:=
 wpList_store_mid d 78 x y e b o cs.toArray g i (by simpa [hl] using f) (by rw[info6k];simp[hl]) (all_oneCell_toArray c) (by simpa using h)
theorem wp_ldK {ops:Array Oper} {rest:List Oper} {op:Oper} {a:Act} {w:World} {Q:Exit→Act→World→Prop} (d:op.guard=none) (x:Operand) (e:op.op=.load 78 x)
  (b o:Nat) (f:a.eval x=.pointer (some ⟨b,o,none⟩)) (cs:List Value) (hl:cs.length=6) (c:w.rangeAt b o cs)
  (h:wpList Tryz.prog ops Q rest (a.put op.dst (.agg cs.toArray)) w):wpList Tryz.prog ops Q (op::rest) a w:=
 wpList_load_mid d 78 x e b o f cs _ c Tryz.underlying78 rfl (by rw[info6k,hl]) h
theorem six_of {W:World} {b o:Nat} {f:Nat→Int} (h:W.rangeAt b o (cf 7 f)):W.rangeAt b o (cf 6 f):=fun j v a=>h j v (by
 have c:j<6:=by
  have:=(List.getElem?_eq_some_iff.1 a).1
  rwa [ax] at this
 rw[cf_at 6 f j c] at a;rw[cf_at 7 f j (by omega)];exact a)
theorem BoxT.slotsSome {wb:Nat} {tag:Nat→Nat} {V:Nat→Value} {g cap i:Nat} (f:Nat→Int):∀(n a:Nat) (p:PW) (W:World),a+n≤7→BoxT W wb tag V p→V 2=.slice (some ⟨g,0,none⟩) p.slots.length cap→(hi:i<p.slots.length)→BoxT (W.setCells g (i*7+a) ((List.range' a n).map fun k=>.int .i64 (f k))) wb tag V {p with slots:=p.slots.set i (fun k=>if a≤k∧k<a+n then f k else p.slots[i] k)}∧Kt tag tag W (W.setCells g (i*7+a) ((List.range' a n).map fun k=>.int .i64 (f k)))
 |0,a,p,W,_,h,_,hi=>by
  refine⟨?_,Kt.refl _ _⟩;have e:(fun k=>if a≤k∧k<a+0 then f k else p.slots[i] k)=p.slots[i]:=by
   funext k
   rw[ae (by omega)]
  rw[e,cF];exact h
 |n+1,a,p,W,hn,h,e,hi=>by
  rw[List.range'_succ,bV,World.setCells];obtain⟨d,k1⟩:=h.slotsCell e hi (show a<7 by omega) (f a);have l:i<(p.slots.set i (upd p.slots[i] a (f a))).length:=by rw[ar];exact hi
  obtain⟨j,k2⟩:=BoxT.slotsSome f n (a+1) {p with slots:=p.slots.set i (upd p.slots[i] a (f a))} _ (by omega) d (by rw[ar];exact e) l;refine⟨?_,k1.trans k2⟩;have e2:(p.slots.set i (upd p.slots[i] a (f a))).set i (fun k=>if a+1≤k∧k<a+1+n then f k else (p.slots.set i (upd p.slots[i] a (f a)))[i] k)=p.slots.set i (fun k=>if a≤k∧k<a+(n+1) then f k else p.slots[i] k):=by
   rw[eo]
   congr 1
   funext k
   rw[dW];unfold upd;by_cases b:a≤k∧k<a+(n+1)
   ·rw[ag b];by_cases c:k=a
    ·rw[ae (by omega),ag c,c]
    ·rw[ag (by omega)]
   ·rw[ae b,ae (by omega),ae (by omega)]
  rw[←e2];exact j
theorem BoxT.slotsKey {W:World} {wb:Nat} {tag:Nat→Nat} {V:Nat→Value} {p:PW} (h:BoxT W wb tag V p) {g cap:Nat} (e:V 2=.slice (some ⟨g,0,none⟩) p.slots.length cap) {i:Nat} (hi:i<p.slots.length) (f:Nat→Int) (c:f 6=p.slots[i] 6) (d:∀k,7≤k→f k=p.slots[i] k):
  BoxT (W.setCells g (i*7) (cf 6 f)) wb tag V {p with slots:=p.slots.set i f}∧Kt tag tag W (W.setCells g (i*7) (cf 6 f)):=by
 have a:=BoxT.slotsSome (i:=i) f 6 0 p W (by omega) h e hi;have e1:((List.range' 0 6).map fun k=>Value.int .i64 (f k))=cf 6 f:=rfl;have e2:(fun k=>if 0≤k∧k<0+6 then f k else p.slots[i] k)=f:=by
  funext k
  by_cases j:k<6
  ·rw[ag (by omega)]
  ·rw[ae (by omega)];by_cases b:k=6
   ·rw[b,c]
   ·rw[d k (by omega)]
 rw[e1,e2,bz] at a;exact a
theorem BoxT.slotsThere {W:World} {wb:Nat} {tag:Nat→Nat} {V:Nat→Value} {p:PW} (h:BoxT W wb tag V p) {g cap:Nat} (e:V 2=.slice (some ⟨g,0,none⟩) p.slots.length cap) (o m:Nat) (b:o+m≤p.slots.length*7):W.there g o m:=by
 have a:=h.o.slots;rw[e] at a;exact a.there o m b
def nsl (k f n:Int):Nat→Int:=fun i=>if i=0 then k else if i=1 then f else if i=2 then 1 else if i=4 then 7 else if i=6 then n else 0
def mk1 (q:PW) (n k:Int) (b t i:Nat):PW:={shP q (b+i) k with slots:=q.slots.set (t+i) (nsl k ((b+i:Nat):Int) n)}
def mkI (p:PW) (n k:Int) (b t:Nat):Nat→PW
 |0=>p
 |i+1=>mk1 (mkI p n k b t i) n k b t i
theorem mkI_succ (p:PW) (n k:Int) (b t i:Nat):mkI p n k b t (i+1)=mk1 (mkI p n k b t i) n k b t i:=rfl
theorem mk1_kinds (q:PW) (n k:Int) (b t i:Nat):(mk1 q n k b t i).kinds=q.kinds.set (b+i) k:=rfl
theorem mk1_ram (q:PW) (n k:Int) (b t i:Nat):(mk1 q n k b t i).ram=zr 16 q.ram ((b+i)*16):=rfl
theorem mk1_slots (q:PW) (n k:Int) (b t i:Nat):(mk1 q n k b t i).slots=q.slots.set (t+i) (nsl k ((b+i:Nat):Int) n):=rfl
theorem mk1_rest (q:PW) (n k:Int) (b t i:Nat):(mk1 q n k b t i).tasks=q.tasks∧(mk1 q n k b t i).lines=q.lines∧(mk1 q n k b t i).bits=q.bits∧(mk1 q n k b t i).cores=q.cores∧(mk1 q n k b t i).ready=q.ready∧(mk1 q n k b t i).tlbs=q.tlbs∧(mk1 q n k b t i).doms=q.doms:=⟨rfl,rfl,rfl,rfl,rfl,rfl,rfl⟩
theorem mkI_len (p:PW) (n k:Int) (b t:Nat):∀i,(mkI p n k b t i).kinds.length=p.kinds.length∧(mkI p n k b t i).ram.length=p.ram.length∧(mkI p n k b t i).slots.length=p.slots.length
 |0=>⟨rfl,rfl,rfl⟩
 |i+1=>by
  have h:=mkI_len p n k b t i;rw[mkI_succ,mk1_kinds,mk1_ram,mk1_slots,ar,zr_len,ar];exact h
theorem mkI_rest (p:PW) (n k:Int) (b t:Nat):∀i,(mkI p n k b t i).tasks=p.tasks∧(mkI p n k b t i).lines=p.lines∧(mkI p n k b t i).bits=p.bits∧(mkI p n k b t i).cores=p.cores∧(mkI p n k b t i).ready=p.ready∧(mkI p n k b t i).tlbs=p.tlbs∧(mkI p n k b t i).doms=p.doms
 |0=>⟨rfl,rfl,rfl,rfl,rfl,rfl,rfl⟩
 |i+1=>by
  have h:=mkI_rest p n k b t i;obtain⟨a,c,d,r4,e,f,g⟩:=mk1_rest (mkI p n k b t i) n k b t i;rw[mkI_succ,a,c,d,r4,e,f,g];exact h
theorem mkI_fits {p:PW} (h:p.Fits) (n k:Int) (b t i:Nat):(mkI p n k b t i).Fits:=by
 obtain⟨d,e,f⟩:=mkI_len p n k b t i;obtain⟨g,a,j,r4,c,l,m⟩:=mkI_rest p n k b t i;exact⟨by rw[e];exact h.ram,by rw[d];exact h.kinds,by rw[f];exact h.slots,by rw[g];exact h.tasks,by rw[a];exact h.lines,by rw[a];exact h.line,by rw[j];exact h.bits,by rw[r4];exact h.cores,by rw[c];exact h.ready,by rw[c];exact h.next,by rw[l];exact h.tlbs,by rw[m];exact h.doms⟩
theorem mkI_at (p:PW) (n k:Int) (b t j:Nat):∀i,(j<t∨t+i≤j)→(mkI p n k b t i).slots[j]? =p.slots[j]?
 |0,_=>rfl
 |i+1,h=>by
  rw[mkI_succ,mk1_slots,cM (by omega)];exact mkI_at p n k b t j i (by omega)
def mkB (p:PW) (n:Int):Nat:=((p.slots.getD n.toNat nkey) 1+usV p n).toNat
def mkP (p:PW) (n k m t:Int):PW:={mkI p n k (mkB p n) t.toNat m.toNat with slots:=(mkI p n k (mkB p n) t.toNat m.toNat).slots.set n.toNat (upd (p.slots.getD n.toNat nkey) 3 (usV p n+m))}
def mkE (p:PW) (n k m t:Int):Int:=if slotB p t=true then (if clE p n=0 then (if within 2 8 k=true then (if fcE p t.toNat m=0 then (if (p.slots.getD n.toNat nkey) 2 - usV p n<m then 5 else 0) else fcE p t.toNat m) else 3) else clE p n) else 2
theorem clay_in {p:PW} (h:Snd p) {n:Int} (a:clE p n=0):∃(j:Nat) (b:j<p.slots.length),n=j∧p.slots[j] 0=1∧p.slots.getD j nkey=p.slots[j]∧(0≤p.slots[j] 1∧p.slots[j] 1+p.slots[j] 2≤(p.kinds.length:Int))∧(0≤p.slots[j] 2∧p.slots[j] 2≤100)∧(0≤p.slots[j] 3∧p.slots[j] 3≤100)∧(0≤usV p n∧usV p n≤100):=by
 unfold clE at a;by_cases d:hasE p n=0
 ·rw[ag d] at a;obtain⟨j,rfl,b⟩:=has_in d;rw[ah] at a;have e:p.slots.getD j nkey=p.slots[j]:=by rw[aa,ac b];rfl
  rw[e] at a;by_cases f:p.slots[j] 0=1
  ·have c:=snd_kb h p.slots[j] (aw b);obtain⟨k1,k2,g,_⟩:=snd_key h b (by omega);refine⟨j,b,rfl,f,e,⟨k1,g⟩,⟨by omega,c.l1⟩,⟨c.m0,c.m1⟩,?_⟩;unfold usV;rw[ah,e];have:=c.m0;have:=c.m1;split<;>omega
  ·rw[ae f] at a
   cases a
 ·rw[ae d] at a;exact absurd a d
theorem usd_not {p:PW} {t m j:Nat} (h:usd p t m=false) (b:j<p.slots.length) (a:p.slots[j] 0≠0):j<t∨t+m≤j:=by
 apply Classical.byContradiction;intro d;have c:t≤j∧j<t+m:=by omega
 unfold usd at h;rw[bZ] at h;refine h p.slots[j] ?_ (by simpa using a);refine List.mem_iff_getElem?.2 ⟨j - t,?_⟩;rw[List.getElem?_take,ag (by omega),dc,show t+(j - t)=j by omega,ac b]
end Go.Proofs.YtaejnmmpddbbjaaGreatDoor.Wd
