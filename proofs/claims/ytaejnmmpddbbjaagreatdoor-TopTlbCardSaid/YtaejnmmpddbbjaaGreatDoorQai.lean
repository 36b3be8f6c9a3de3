/- Qai -/
import Derived.Maps.AppendAt
import Derived.Test.YtaejnmmpddbbjaaGreatDoorQah
namespace Go.Proofs.YtaejnmmpddbbjaaGreatDoor.Wd
open Go.RowKit Mem Bw Nums Mmu
abbrev PW.s (p:PW) (i:Nat):Nat→Int:=p.slots.getD i eS
abbrev PW.k (p:PW) (f:Nat):Int:=p.kinds.getD f 0
def nfl (S:List (Nat→Int)):Nat:=S.countP fun f=>f 0 !=0
structure KeyOk (p:PW) (s:Nat→Int):Prop where
 c:kc s=0
 le:s 1+s 2≤(p.kinds.length:Int)
 is:s 0=1∨isB p (s 1) (s 0)=true
structure Keys (p:PW) (r:Nat→Nat):Prop where
 em:∀i,p.s i 0=0→(∀k,k<6→p.s i k=0)∧p.s i 6= -1
 nd:∀i,p.s i 0≠0→p.k (i/16)=5
 key:∀i,p.s i 0≠0→KeyOk p (p.s i)
 up:∀i,p.s i 6= -1∨∃u:Nat,p.s i 6=u∧u<p.slots.length∧p.s u 0≠0∧cmB (p.s u) (p.s i)=true∧r u<r i
 rk:∀i,p.s i 0≠0→r i<nfl p.slots
 one:∀(n:Int) i j,clI n (p.s i)=true→clI n (p.s j)=true→i=j
 op:∀n,p.k n≠0→∃i,i<p.slots.length∧opn n (p.s i)=true
 us:∀n,p.k n≠0→∀i,un n (p.s i)=false
 gp:∀i,p.s i 0≠0→p.s i 0≠1→p.s i 6= -1→∀c,clI (p.s i 1) (p.s c)=false
theorem s_at {p:PW} {i:Nat} (h:i<p.slots.length):p.slots[i]=p.s i:=by
 show _=p.slots.getD i eS
 rw[aa,ac h];rfl
theorem s_out {p:PW} {i:Nat} (h:p.slots.length≤i):p.s i=eS:=by
 show p.slots.getD i eS=_
 rw[aa,aH h];rfl
theorem s_in {p:PW} {i:Nat} (h:p.s i 0≠0):i<p.slots.length:=by
 rcases cq i p.slots.length with a|a
 ·exact a
 ·rw[s_out a] at h;exact absurd rfl h
theorem k_at {p:PW} {f:Nat} (h:f<p.kinds.length):p.kinds[f]=p.k f:=by
 show _=p.kinds.getD f 0
 rw[aa,ac h];rfl
theorem isB_k {p:PW} {f:Nat} {k:Int} (h:f<p.kinds.length):isB p f k=(p.k f==k):=by
 unfold isB;rw[kindAt_some h,k_at h];rfl
theorem k_in {p:PW} {f:Nat} (h:p.k f≠0):f<p.kinds.length:=by
 rcases cq f p.kinds.length with a|a
 ·exact a
 ·exact absurd (show p.kinds.getD f 0=0 by rw[aa,aH a];rfl) h
theorem isB_nat {p:PW} {a k:Int} (h:isB p a k=true):∃f:Nat,a=f∧f<p.kinds.length∧p.k f=k:=by
 unfold isB kindAt at h;split at h
 ·rename_i h0;obtain⟨f,rfl⟩:∃f:Nat,a=f:=⟨a.toNat,by omega⟩
  rw[ah] at h;have c:=eq_of_beq h;obtain⟨b,d⟩:=List.getElem?_eq_some_iff.1 c;exact⟨f,rfl,b,by rw[←k_at b];exact d⟩
 ·cases h
theorem nfl_le (S:List (Nat→Int)):nfl S≤S.length:=List.countP_le_length
theorem slotB_lt {p:PW} {u:Nat} (h:u<p.slots.length):slotB p u=true:=aF ⟨by omega,by omega⟩
theorem Keys.ends {p:PW} {r:Nat→Nat} (h:Keys p r):∀(n u:Nat),p.s u 0≠0→r u<n→slotB p (Wd.up p n u)=false
 |0,_,_,h0=>by omega
 |n+1,u,hu,h0=>by
  have hl:=s_in hu;have e:(p.slots.getD ((u:Int)).toNat (fun _=> -1)) 6=p.s u 6:=by
   rw[ah,aa,ac hl, ←s_at hl];rfl
  rw[Wd.up,ag (slotB_lt hl),e];rcases h.up u with a|⟨v,a,_,b,_,c⟩
  ·rw[a,up_no (by exact ay (by omega))];exact ay (by omega)
  ·rw[a];exact h.ends n v b (by omega)
theorem Keys.b3 {p:PW} {r:Nat→Nat} (h:Keys p r):∀k (hk:k<p.slots.length),bad3 p k p.slots[k]=false:=fun k hk=>by
 rw[s_at hk];unfold bad3 bsB;by_cases b:p.s k 0=0
 ·obtain⟨a,d⟩:=h.em k b;have g:zkB (p.s k)=true:=aF ⟨b,a 1 (by decide),a 2 (by decide),a 3 (by decide),a 4 (by decide),a 5 (by decide)⟩;rw[ag g,d];rfl
 ·have g:zkB (p.s k)=false:=ay (fun h=>b h.1);obtain⟨k1,k2,f⟩:=h.key k b;have n:opB p (p.s k)=true:=by
   unfold opB;rw[k1,aF k2];rcases f with f|f
   ·rw[f];rfl
   ·rw[f];simp
  have m:p.kinds.getD (k/16) 0=5:=h.nd k b;have j:mdB p (p.s k)=true∧endB p (p.s k 6)=false:=by
   unfold mdB endB;rcases h.up k with a|⟨u,a,d,i,l,o⟩
   ·rw[a,up_no (by exact ay (by omega))];exact⟨rfl,ay (by omega)⟩
   ·have e:fromV p (p.s k)=p.s u:=by
     unfold fromV;rw[a,ah,aa,ac d, ←s_at d];rfl
    rw[e,(h.key u i).c,l,a,slotB_lt d];refine⟨by simp,h.ends _ u i ?_⟩;have:=h.rk k b;have:=nfl_le p.slots;omega
  rw[ae (by rw[g];decide),m,n,j.1,j.2];rfl
theorem sum_nil0 {α:Type} {g:α→Nat}:∀(l:List α),(∀j (c:j<l.length),g l[j]=0)→sumOf g l=0
 |[],_=>by simp[sumOf]
 |x::l,h=>by
  have a:=sum_nil0 l (fun j c=>h (j+1) (by simp;omega));have b:g x=0:=h 0 (by simp);unfold sumOf at a ⊢;simp only[bV,eB];rw[a,b]
theorem sum_one {α:Type} {q:α→Bool}:∀(l:List α),(∀i j (hi:i<l.length) (e:j<l.length),q l[i]=true→q l[j]=true→i=j)→sumOf (fun x=>if q x then 1 else 0) l≤1
 |[],_=>by simp[sumOf]
 |x::l,h=>by
  have f:=sum_one l (fun i j hi e a b=>by have:=h (i+1) (j+1) (by simp;omega) (by simp;omega) a b;omega);unfold sumOf at f ⊢;simp only[bV,eB];by_cases c:q x=true
  ·have d:=sum_nil0 (g:=fun x=>if q x then 1 else 0) l (fun j e=>by
    cases hq:q l[j] with
    |false=>rfl
    |true=>have:=h 0 (j+1) (by simp) (by simp;omega) c hq;omega)
   unfold sumOf at d;rw[ag c,d];exact au _
  ·rw[ae c];omega
theorem Keys.b4 {p:PW} {r:Nat→Nat} (h:Keys p r):∀k (hk:k<p.kinds.length),bad4 p k p.kinds[k]=false:=fun k hk=>by
 rw[k_at hk];unfold bad4 bfB;have l:sumOf (cl (k:Int)) p.slots≤1:=sum_one (q:=clI (k:Int)) p.slots (fun i j hi e a b=>by
  rw[s_at hi] at a;rw[s_at e] at b;exact h.one k i j a b)
 rw[ay (by omega),Bool.false_or];by_cases d:p.k k=0
 ·rw[d];rfl
 ·have c:p.slots.any (opn (k:Int))=true:=by
   obtain⟨i,hi,c⟩:=h.op k d;rw[←s_at hi] at c;exact List.any_eq_true.2 ⟨_,aw hi,c⟩
  have f:p.slots.any (un (k:Int))=false:=by
   rw[bZ];intro x g;obtain⟨j,e,rfl⟩:=dy g;rw[s_at e,h.us k d j]
   decide
  rw[c,f];simp
def goneP {α:Type} (p:α→Bool) (l:List α):List α:=l.filter fun e=> !p e
section
variable {α : Type} {p : α → Bool} {l m : List α} {i j : Nat}
end
def ixP {α:Type} (p:α→Bool) (l:List α):Int:=if l.findIdx p<l.length then (l.findIdx p:Int) else -1
def mapK {α:Type} (f:α→α) (k:Nat) (l:List α):List α:=(l.take k).map f++l.drop k
section
variable {α : Type} (f : α → α) (k : Nat) (l : List α)
theorem mapK_len:(mapK f k l).length=l.length:=by
 unfold mapK;simp;omega
theorem _root_.Go.Proofs.YtaejnmmpddbbjaaGreatDoor.cV:type_of% @mapK_len:= @mapK_len
theorem mapK_zero:mapK f 0 l=l:=by simp[mapK]
theorem mapK_all:mapK f l.length l=l.map f:=by simp[mapK]
theorem mapK_at (hk:k<l.length) (h:k<(mapK f k l).length):(mapK f k l)[k]=l[k]:=by
 have e:(mapK f k l)[k]? =l[k]? :=by
  unfold mapK;rw[du (by simp;omega),dc]
  congr 1
  simp;omega
 rw[ac h,ac hk] at e;exact aK e
theorem mapK_succ (hk:k<l.length):mapK f (k+1) l=(mapK f k l).set k (f l[k]):=by
 unfold mapK;have e:k - (List.map f (List.take k l)).length=0:=by simp;omega
 rw[List.take_add_one,ac hk,dX,List.set_append,ae (by simp;omega),e];simp only[Option.toList_some,bV,ep,List.append_assoc,List.cons_append,List.nil_append];rw[List.drop_eq_getElem_cons hk];rfl
end
def lvs (t:Int) (ls:List (List Int)):List (List Int):=ls.map (goneP fun x=>x==t)
theorem ci_set (ls:List (List Int)) (j:Nat) (a:j<ls.length) (l:List Int):ci (ls.set j l)=fun i=>if i=j then (l.length,ints l) else ci ls i:=by
 funext i
 unfold ci;by_cases h:i=j
 ·subst h;rw[ag rfl,aa,cQ a];rfl
 ·rw[ae h,aa,cM (fun e=>h e.symm),aa]
theorem ListT.at {w:World} {tag:Nat→Nat} {t c O I s n g:Nat} {a:Nat→Nat×List Value} (h:ListT w tag t c O I s n (.slice (some ⟨g,0,none⟩) n n) a) {j:Nat} (k:j<n):∃u,w.cell? ⟨g,j,none⟩=some u∧InT w tag (c+3*j) I s u (a j):=by
 obtain⟨g',us,d,_,e,f,i⟩:=h;obtain rfl:g=g':=by simpa using d
 have b:j<us.length:=by rw[e];exact k
 refine⟨us[j],?_,i j b⟩;rw[f.cellAt j (by omega),ac b]
theorem ListT.fr {w:World} {tag:Nat→Nat} {t d O I s n g:Nat} {a:Nat→Nat×List Value} (h:ListT w tag t d O I s n (.slice (some ⟨g,0,none⟩) n n) a) (j:Nat):w.frozen? ⟨g,j,none⟩=false:=by
 obtain⟨g',us,b,_,_,c,_⟩:=h;obtain rfl:g=g':=by simpa using b
 exact c.frozenAt j
theorem ListT.tag0 {w:World} {tag:Nat→Nat} {t e O I s n g:Nat} {a:Nat→Nat×List Value} (h:ListT w tag t e O I s n (.slice (some ⟨g,0,none⟩) n n) a):tag g=t∧g<w.heap.size:=by
 obtain⟨g',us,b,c,_,d,_⟩:=h;obtain rfl:g=g':=by simpa using b
 exact⟨c,(d.lt g rfl).2⟩
theorem ListT.form {w:World} {tag:Nat→Nat} {t c O I s n:Nat} {v:Value} {a:Nat→Nat×List Value} (h:ListT w tag t c O I s n v a):∃g,v=.slice (some ⟨g,0,none⟩) n n:=by
 obtain⟨g,_,b,_⟩:=h;exact⟨g,b⟩
theorem ListT.put {w w1:World} {tag tag':Nat→Nat} {t a O I s n g:Nat} {l:Nat→Nat×List Value} (h:ListT w tag t a O I s n (.slice (some ⟨g,0,none⟩) n n) l) {j:Nat} (B:j<n) (d:∀j,t≠a+3*j)
  (hk:Kp (fun b=>tag b=a+3*j) w w1) (o:∀k,k<w.heap.size→tag' k=tag k) {u:Value} {c:Nat×List Value} (z:InT w1 tag' (a+3*j) I s u c):
  ListT (w1.setCell ⟨g,j,none⟩ u) tag' t a O I s n (.slice (some ⟨g,0,none⟩) n n) (fun i=>if i=j then c else l i)∧Kp (fun k=>tag k=t∨∃j,tag k=a+3*j) w (w1.setCell ⟨g,j,none⟩ u):=by
 obtain⟨f,x⟩:=h.tag0;have m:tag' g=t:=(o g x).trans f;obtain⟨g',us,p,A,q,r,v⟩:=h;obtain rfl:g=g':=by simpa using p
 have k2:Kp (fun b=>tag' b=t) w1 (w1.setCell ⟨g,j,none⟩ u):=Kp.setCell (T:=fun b=>tag' b=t) (aR _ w1) (.inl m) u;refine⟨⟨g,us.set j u,rfl,m,by rw[ar];exact q,?_,fun i hi=>?_⟩,?_⟩
 ·exact ((own_kp r hk (fun k e=>by
   have:g=k:=by simpa [Value.ownBlock] using e
   rw[←this,f];exact d j)).stored j u).1
 ·have y:i<us.length:=by rwa [ar] at hi
  by_cases e:i=j
  ·subst e;rw[dW];simp only[ag];exact z.kp k2 (fun _ _=>rfl) (fun k e=>by rw[e];exact fun h=>d i h.symm)
  ·rw[List.getElem_set_ne (fun h=>e h.symm)];simp only[ae e];exact ((v i y).kp hk o (fun k e2=>by rw[e2];omega)).kp k2 (fun _ _=>rfl) (fun k e=>by rw[e];exact fun h=>d i h.symm)
 ·exact Kp.setCell (T:=fun k=>tag k=t∨∃j,tag k=a+3*j) (hk.wider (fun k _ e=>Or.inr ⟨j,e⟩)) (.inl (.inl f)) u
theorem TlbT.at {w:World} {tag:Nat→Nat} {n g:Nat} {ls:List (List Ent)} (h:TlbT w tag n (.slice (some ⟨g,0,none⟩) n n) ls) {j:Nat} (f:j<n):∃u,w.cell? ⟨g,j,none⟩=some u∧InE w tag (14+3*j) u (ls.getD j []):=by
 obtain⟨g',us,b,_,c,d,e⟩:=h;obtain rfl:g=g':=by simpa using b
 have a:j<us.length:=by rw[c];exact f
 refine⟨us[j],?_,e j a⟩;rw[d.cellAt j (by omega),ac a]
theorem TlbT.fr {w:World} {tag:Nat→Nat} {n g:Nat} {ls:List (List Ent)} (h:TlbT w tag n (.slice (some ⟨g,0,none⟩) n n) ls) (j:Nat):w.frozen? ⟨g,j,none⟩=false:=by
 obtain⟨g',us,a,_,_,b,_⟩:=h;obtain rfl:g=g':=by simpa using a
 exact b.frozenAt j
theorem TlbT.tag0 {w:World} {tag:Nat→Nat} {n g:Nat} {ls:List (List Ent)} (h:TlbT w tag n (.slice (some ⟨g,0,none⟩) n n) ls):tag g=10∧g<w.heap.size:=by
 obtain⟨g',us,a,b,_,c,_⟩:=h;obtain rfl:g=g':=by simpa using a
 exact⟨b,(c.lt g rfl).2⟩
theorem TlbT.form {w:World} {tag:Nat→Nat} {n:Nat} {v:Value} {ls:List (List Ent)} (h:TlbT w tag n v ls):∃g,v=.slice (some ⟨g,0,none⟩) n n:=by
 obtain⟨g,_,a,_⟩:=h;exact⟨g,a⟩
theorem TlbT.put {w w1:World} {tag tag':Nat→Nat} {n g:Nat} {ls:List (List Ent)} (h:TlbT w tag n (.slice (some ⟨g,0,none⟩) n n) ls) {j:Nat} (v:j<n) (x:ls.length=n)
  (hk:Kp (fun b=>tag b=14+3*j) w w1) (d:∀k,k<w.heap.size→tag' k=tag k) {u:Value} {l:List Ent} (s:InE w1 tag' (14+3*j) u l):
  TlbT (w1.setCell ⟨g,j,none⟩ u) tag' n (.slice (some ⟨g,0,none⟩) n n) (ls.set j l)∧Kp (fun k=>tag k=10∨∃j,tag k=14+3*j) w (w1.setCell ⟨g,j,none⟩ u):=by
 obtain⟨a,q⟩:=h.tag0;have c:tag' g=10:=(d g q).trans a;obtain⟨g',us,f,t,m,o,p⟩:=h;obtain rfl:g=g':=by simpa using f
 have k2:Kp (fun b=>tag' b=10) w1 (w1.setCell ⟨g,j,none⟩ u):=Kp.setCell (T:=fun b=>tag' b=10) (aR _ w1) (.inl c) u;refine⟨⟨g,us.set j u,rfl,c,by rw[ar];exact m,?_,fun i hi=>?_⟩,?_⟩
 ·exact ((own_kp o hk (fun k e=>by
   have:g=k:=by simpa [Value.ownBlock] using e
   rw[←this,a];omega)).stored j u).1
 ·have r:i<us.length:=by rwa [ar] at hi
  by_cases e:i=j
  ·subst e;rw[dW,aa,cQ (by omega)];exact s.kp k2 (fun _ _=>rfl) (fun k e=>by rw[e];omega)
  ·rw[List.getElem_set_ne (fun h=>e h.symm),aa,cM (fun h=>e h.symm), ←aa];exact ((p i r).kp hk d (fun k e2=>by rw[e2];omega)).kp k2 (fun _ _=>rfl) (fun k e=>by rw[e];omega)
 ·exact Kp.setCell (T:=fun k=>tag k=10∨∃j,tag k=14+3*j) (hk.wider (fun k _ e=>Or.inr ⟨j,e⟩)) (.inl (.inl a)) u
def noT (t x:Int):Int:=if x=t then -1 else x
def PW.task (p:PW) (t k:Nat) (x:Int):PW:={p with tasks:=p.tasks.set t (upd (p.tasks.getD t bl) k x)}
def lvP (p:PW) (t:Nat):PW:={p.task t 14 (-1) with lines:=lvs t p.lines,ready:=lvs t p.ready,cores:=p.cores.map (noT t)}
theorem PW.task_len (p:PW) (t k:Nat) (x:Int):(p.task t k x).tasks.length=p.tasks.length:=by unfold PW.task;simp
theorem _root_.Go.Proofs.YtaejnmmpddbbjaaGreatDoor.ap:type_of% @PW.task_len:= @PW.task_len
theorem BoxT.task {W:World} {wb:Nat} {tag:Nat→Nat} {V:Nat→Value} {p:PW} (h:BoxT W wb tag V p) {g cap:Nat} (e:V 3=.slice (some ⟨g,0,none⟩) p.tasks.length cap) {i k:Nat} (hi:i<p.tasks.length) (hk:k<20) (x:Int):
  BoxT (W.setCell ⟨g,i*20+k,none⟩ (.int .i64 x)) wb tag V (p.task i k x)∧Kt tag tag W (W.setCell ⟨g,i*20+k,none⟩ (.int .i64 x)):=by
 have a:=h.tasksCell e hi hk x;have b:p.tasks.getD i bl=p.tasks[i]:=by rw[aa,ac hi];rfl
 unfold PW.task;rw[b];exact a
theorem BoxT.taskAt {W:World} {wb:Nat} {tag:Nat→Nat} {V:Nat→Value} {p:PW} (h:BoxT W wb tag V p) {g cap:Nat} (e:V 3=.slice (some ⟨g,0,none⟩) p.tasks.length cap) {i k:Nat} (hi:i<p.tasks.length) (hk:k<20):W.cell? ⟨g,i*20+k,none⟩=some (.int .i64 (p.tasks.getD i bl k)):=by
 rw[h.tasksAt e hi hk,aa,ac hi];rfl
theorem lvs_len (t:Int) (ls:List (List Int)):(lvs t ls).length=ls.length:=by unfold lvs;simp
def tagN (tag:Nat→Nat) (c t k:Nat):Nat:=if k<c then tag k else t
theorem tagN_lt {tag:Nat→Nat} {c t k:Nat} (h:k<c):tagN tag c t k=tag k:=ag h
theorem _root_.Go.Proofs.YtaejnmmpddbbjaaGreatDoor.cW:type_of% @tagN_lt:= @tagN_lt
theorem task_getD (p:PW) (t k j:Nat) (x:Int) (a:t<p.tasks.length):(p.task t k x).tasks.getD t bl j=if j=k then x else p.tasks.getD t bl j:=by
 unfold PW.task;simp only;rw[aa,cQ a];rfl
theorem set_getD {α:Type} (l:List α) (t:Nat) (d x:α) (a:t<l.length):(l.set t x).getD t d=x:=by
 rw[aa,cQ a];rfl
theorem upd_comm (f:Nat→Int) (i j:Nat) (x y:Int) (h:i≠j):upd (upd f i x) j y=upd (upd f j y) i x:=by
 funext k
 unfold upd;by_cases a:k=j
 ·rw[ag a,ae (fun e=>h (e.symm.trans a)),ag a]
 ·rw[ae a];by_cases b:k=i
  ·rw[ag b,ag b]
  ·rw[ae b,ae b,ae a]
def thE (p:PW) (f k:Int):Int:=if frB p f then (if isB p f k then 0 else 3) else 2
theorem thE_in {p:PW} {f k:Int} (h:thE p f k=0):∃(t:Nat) (a:t<p.kinds.length),f=t∧p.kinds[t]=k:=by
 unfold thE at h
 cases h1:frB p f with
 |false=>rw[h1] at h;simp at h
 |true=>
  cases h2:isB p f k with
  |false=>rw[h1,h2] at h;simp at h
  |true=>
   unfold frB at h1;have b:=az h1;obtain⟨t,rfl⟩:∃t:Nat,f=t:=⟨f.toNat,by omega⟩
   have a:t<p.kinds.length:=by omega
   unfold isB at h2;rw[kindAt_some a] at h2;exact⟨t,a,rfl,by simpa using h2⟩
theorem snd_task {p:PW} (h:Snd p) {t:Nat} (b:t<p.kinds.length) (hk:p.kinds[t]=6):
  nfB p (p.tasks.getD t bl)=true∧ffB p (p.tasks.getD t bl)=true∧dbB p t (p.tasks.getD t bl)=true∧srB p t (p.tasks.getD t bl)=true∧rrB p t (p.tasks.getD t bl)=true:=by
 have hl:t<p.tasks.length:=by rw[h.lf.tasks];exact b
 have a:btB p t (p.kinds.getD t 0) p.tasks[t]=false:=h.b5 t hl;have c:p.tasks.getD t bl=p.tasks[t]:=by rw[aa,ac hl];rfl
 have d:p.kinds.getD t 0=6:=by rw[aa,ac b,aS];exact hk
 rw[c];unfold btB at a;rw[ag d] at a;simp only[cD,am] at a;exact⟨a.1.1.1.1,a.1.1.1.2,a.1.1.2,a.1.2,a.2⟩
theorem nf_bounds {p:PW} {f:Nat→Int} (h:nfB p f=true):(0≤f 9∧f 9≤6)∧(0≤f 10∧f 10≤3)∧(0≤f 18∧f 18≤(p.cores.length:Int) - 1)∧(0≤f 19∧f 19≤3):=by
 unfold nfB within at h;simp only[am,aU] at h;exact⟨h.1.1.1.2,h.1.1.2,h.1.2,h.2⟩
theorem cn_none {x:Int}:∀{zs:List Int},cn x zs=0→∀z∈zs,z≠x
 |[],_,_,h=>by cases h
 |y::l,h0,z,h=>by
  unfold cn sumOf at h0;simp only[bV,eB] at h0;rcases bQ.1 h with rfl|h
  ·intro e;unfold one at h0;rw[ag e] at h0;omega
  ·exact cn_none (zs:=l) (by unfold cn sumOf;omega) z h
theorem gone_self {x:Int} {zs:List Int} (h:cn x zs=0):goneP (fun y=>y==x) zs=zs:=by
 unfold goneP;rw[List.filter_eq_self];intro a b;simpa using cn_none h a b
theorem lvs_self {x:Int}:∀{ls:List (List Int)},cna x ls=0→lvs x ls=ls
 |[],_=>rfl
 |l::r,h=>by
  unfold cna sumOf at h;simp only[bV,eB] at h;have a:lvs x r=r:=lvs_self (by unfold cna sumOf;omega);unfold lvs at a ⊢;rw[bV,a,gone_self (by omega)]
theorem noT_self {x:Int} {zs:List Int} (h:cn x zs=0):zs.map (noT x)=zs:=by
 have:∀z∈zs,noT x z=z:=fun z a=>ae (cn_none h z a);exact (List.map_congr_left this).trans (List.map_id' zs)
def rdN (p:PW) (t:Nat):Nat:=(p.tasks.getD t bl 18*4+p.tasks.getD t bl 10).toNat
theorem rdN_eq {p:PW} (h:Snd p) {t:Nat} (a:t<p.kinds.length) (hk:p.kinds[t]=6):rdN p t<p.ready.length∧p.tasks.getD t bl 18*4+p.tasks.getD t bl 10=(rdN p t:Int)∧(0≤p.tasks.getD t bl 18∧p.tasks.getD t bl 18≤1000)∧(0≤p.tasks.getD t bl 10∧p.tasks.getD t bl 10≤1000):=by
 obtain⟨b,c,d,_⟩:=nf_bounds (snd_task h a hk).1;have e:=h.lf.c2;unfold rdN;rw[h.lf.ready];omega
theorem task_at (p:PW) (t k j:Nat) (x:Int) (b:t<p.tasks.length) (a:j≠k):(p.task t k x).tasks.getD t bl j=p.tasks.getD t bl j:=by rw[task_getD p t k j x b,ae a]
abbrev PW.t (p:PW) (n:Nat):Nat→Int:=p.tasks.getD n bl
structure RamOk (p:PW):Prop where
 w:∀x∈p.ram,0≤x∧x≤65535
 e:∀i,i<p.ram.length→beB p (p.k (i/16)) (p.ram.getD i 0)=false
theorem t_at {p:PW} {n:Nat} (h:n<p.tasks.length):p.tasks[n]=p.t n:=by
 show _=p.tasks.getD n bl
 rw[aa,ac h];rfl
theorem cn_zero {x:Int} {l:List Int} (h:x∉l):cn x l=0:=sum_nil0 l (fun j a=>by
 unfold one;rw[ae];intro e;exact h (e▸aw a))
def opE (p:PW) (n:Int):Int:=if slotB p n then (if p.kinds.getD (n.toNat/16) 0=5 then (if (p.slots.getD n.toNat nkey) 0=0 then 0 else 12) else 3) else 2
def boE (p:PW) (a b:Int):Int:=if hasE p a=0 then opE p b else hasE p a
set_option maxRecDepth 100000
set_option maxHeartbeats 600000
theorem open_ref (vb:Nat) (V:Nat→Value) (p:PW) (n:Int) (w:World) (b:ViewAt w vb V p) (hk:p.slots.length=p.kinds.length*16):
  Calls Tryz.prog 76 #[.pointer (some ⟨vb,0,none⟩),.int .i64 n] w fun r w'=>r=.returned (.int .i64 (opE p n))∧w=w':=by
 have c2:w.cell? ⟨vb,2,none⟩=some (V 2):=af b.r rfl;have c1:w.cell? ⟨vb,1,none⟩=some (V 1):=af b.r rfl;obtain⟨K,b2,J,z,e2,k,m⟩:=b.v.slots;obtain⟨q1,b1,I,x,e1,h,l⟩:=b.v.kinds;have H:(p.slots.length:Int)≤1000:=by have:=b.f.slots;omega
 have G:(p.kinds.length:Int)≤1000:=by have:=b.f.kinds;omega
 cases hs:slotB p n with
 |false=>
  have a:=hid (show opE p n=2 by unfold opE;rw[hs];rfl);have o:=hid hs;have s:=cP hs;clear hs o m k l h b hk;by_cases d:n<0
  ·clear s;go_enter Tryz.func76,Tryz.ntmps76
   go_wp2_with fail
   go_ret
   exact⟨by rw[a.out];rfl,rfl⟩
  ·have B:(p.slots.length:Int)≤n:=by omega
   clear s;go_enter Tryz.func76,Tryz.ntmps76
   go_wp2_with fail
   go_ret
   exact⟨by rw[a.out];rfl,rfl⟩
 |true=>
  obtain⟨j,rfl,q⟩:=slotB_in hs;have o:=hid hs;have D:(j:Int)<(p.slots.length:Int):=by omega
  obtain rfl:=k (by omega);have t:=range_at0 (m j q) (cf_at 7 _ 0 (by omega));have g:j/16<p.kinds.length:=by omega
  have E:((j:Int)/16)=((j/16:Nat):Int):=by omega
  have F:((j/16:Nat):Int)<(p.kinds.length:Int):=by omega
  obtain rfl:=h (by omega);have u:=l (j/16) g;have c:=hid (show opE p j=if p.kinds[j/16]=5 then (if p.slots[j] 0=0 then 0 else 12) else 3 by unfold opE;rw[hs,ag rfl,ah,getD_at g,aa,ac q];rfl);generalize p.slots[j] 0=y at t c;generalize p.kinds[j/16]=kd at u c;generalize j/16=i at*;clear hs m k l h b hk g;have n0:¬((j:Int)<0):=by omega
  have n1:¬((p.slots.length:Int)≤(j:Int)):=by omega
  by_cases e:kd=5
  rotate_left
  ·have a:=hid (show opE p j=3 by rw[c.out,ae e]);have C:(kd !=5)=true:=by simpa using e
   clear e;go_enter Tryz.func76,Tryz.ntmps76
   go_wp2_with fail
   go_ret
   exact⟨by rw[a.out];rfl,rfl⟩
  subst e;by_cases d:y=0
  ·subst d;have a:=hid (show opE p j=0 by rw[c.out];rfl);go_enter Tryz.func76,Tryz.ntmps76
   go_wp2_with fail
   go_ret
   exact⟨by rw[a.out];rfl,rfl⟩
  ·have a:=hid (show opE p j=12 by rw[c.out,ag rfl,ae d]);have A:(y !=0)=true:=by simpa using d
   clear d;go_enter Tryz.func76,Tryz.ntmps76
   go_wp2_with fail
   go_ret
   exact⟨by rw[a.out];rfl,rfl⟩
set_option maxHeartbeats 200000
theorem both_ref (vb:Nat) (V:Nat→Value) (p:PW) (a b:Int) (w:World) (f:ViewAt w vb V p) (hk:p.slots.length=p.kinds.length*16):
  Calls Tryz.prog 32 #[.pointer (some ⟨vb,0,none⟩),.int .i64 a,.int .i64 b] w fun r w'=>r=.returned (.int .i64 (boE p a b))∧w=w':=by
 have d:=hid (has_ref vb V p a w f);have e:=hid (open_ref vb V p b w f hk);clear f hk;by_cases h:hasE p a=0
 ·have c:=hid (show boE p a b=opE p b from ag h);rw[h] at d;generalize opE p b=x at e c;clear h;go_enter Tryz.func32,Tryz.ntmps32
  go_wp2_with fail
  refine d.mono ?_;rintro r w1 ⟨rfl,rfl⟩;go_wp2_with fail
  refine e.mono ?_;rintro r w1 ⟨rfl,rfl⟩;go_wp2_with fail
  go_ret
  exact⟨by rw[c.out];rfl,rfl⟩
 ·have c:=hid (show boE p a b=hasE p a from ae h);have g:(hasE p a==0)=false:=by simpa using h
  generalize hasE p a=x at d c g;clear h e;go_enter Tryz.func32,Tryz.ntmps32
  go_wp2_with fail
  refine d.mono ?_;rintro r w1 ⟨rfl,rfl⟩;go_wp2_with fail
  go_ret
  exact⟨by rw[c.out];rfl,rfl⟩
set_option maxRecDepth 512
theorem boE_in {p:PW} {a b:Int} (h:boE p a b=0):∃i j:Nat,a=i∧b=j∧i<p.slots.length∧j<p.slots.length:=by
 unfold boE at h;split at h
 ·rename_i h1;unfold hasE at h1;unfold opE at h
  cases ha:slotB p a with
  |false=>rw[ha] at h1;simp at h1
  |true=>
   cases hb:slotB p b with
   |false=>rw[hb] at h;simp at h
   |true=>
    obtain⟨i,hi,c⟩:=slotB_in ha;obtain⟨j,d,e⟩:=slotB_in hb;exact⟨i,j,hi,d,c,e⟩
 ·rename_i h1;exact absurd h h1
end Go.Proofs.YtaejnmmpddbbjaaGreatDoor.Wd
namespace Go.Proofs.YtaejnmmpddbbjaaGreatDoor.Mem
open Go.RowKit
section
variable {P : Program} {md : Region.Mode} {ops : Array Oper} {Q : Exit → Act → World → Prop} {n1 N : Nat} {R : Nat → Value → World → Prop} {w0 : World} {a0 : Act}
end
end Go.Proofs.YtaejnmmpddbbjaaGreatDoor.Mem
namespace Go.Proofs.YtaejnmmpddbbjaaGreatDoor.Wd
open Go.RowKit Mem Bw Nums Mmu
def sl (k:Nat):Int:=if k=6 then -1 else 0
def newP (f c:Nat) (zs:List Int):PW:=
 {ram:=List.replicate (f*16) 0,kinds:=List.replicate f 0,slots:=List.replicate (f*16) sl,tasks:=List.replicate f bl,lines:=List.replicate f [],bits:=List.replicate f 0,cores:=List.replicate c (-1),ready:=List.replicate (c*4) [],tlbs:=List.replicate c [],doms:=zs,time:=0}
def ndk (k:Nat):Int:=[5,0,1,0,7,0, -1].getD k 0
def wlP (f c:Nat) (zs:List Int):PW:={newP f c zs with kinds:=(newP f c zs).kinds.set 0 5,slots:=(newP f c zs).slots.set 0 ndk}
def clk (b n:Nat) (k:Nat):Int:=[1,(b:Int),(n:Int),0,7,0, -1].getD k 0
theorem getD_set {α:Type} {l:List α} {i:Nat} (h:i<l.length) (x d:α) (j:Nat):(l.set i x).getD j d=if j=i then x else l.getD j d:=by
 rw[aa,aa];by_cases e:j=i
 ·subst e;rw[ag rfl,cQ h];rfl
 ·rw[ae e,cM (fun h=>e h.symm)]
theorem nfl_set {S:List (Nat→Int)} {i:Nat} (h:i<S.length) (a:(S.getD i eS) 0=0) {f:Nat→Int} (b:f 0≠0):nfl (S.set i f)=nfl S+1:=by
 unfold nfl;have e:S[i]=S.getD i eS:=by rw[aa,ac h];rfl
 rw[List.countP_set h,e,a];simp[b]
structure KIn (s:Nat→Int):Prop where
 k:1≤s 0∧s 0≤8
 b:0≤s 1
 l:1≤s 2
 bl:s 1+s 2≤24
 m:s 0=1→0≤s 3∧s 3≤s 2
 o:s 0≠1→s 2=1∧s 3=0
 r:0≤s 4∧s 4≤7
 g:(s 0=7∨s 0=8)∧0≤s 5∧s 5≤65535∨¬(s 0=7∨s 0=8)∧s 5=0
theorem kc_in {s:Nat→Int} (h:kc s=0) (b:s 0≠0):KIn s:=by
 unfold kc KP.chk at h;split at h
 ·cases h
 split at h
 ·cases h
 split at h
 ·cases h
 split at h
 ·cases h
 rename_i h1 h2 h3 h4;unfold KP.fitsB at h2;unfold KP.badgeB at h4;split at h2
 ·exact absurd rfl h2
 rename_i h5;have g:(s 0=7∨s 0=8)∧0≤s 5∧s 5≤65535∨¬(s 0=7∨s 0=8)∧s 5=0:=by
  split at h4
  ·rename_i e;exact .inl ⟨e,by simpa using h4⟩
  ·rename_i e;exact .inr ⟨e,by simpa using h4⟩
 by_cases e:s 0=1
 ·rw[ag e] at h2;have a:0≤s 3∧s 3≤s 2:=by simpa using h2
  exact⟨by omega,by omega,by omega,by omega,fun _=>a,fun h=>absurd e h,by omega,g⟩
 ·rw[ae e] at h2;have a:s 2=1∧s 3=0:=by simpa using h2
  exact⟨by omega,by omega,by omega,by omega,fun h=>absurd h e,fun _=>a,by omega,g⟩
theorem kc_of {s:Nat→Int} (h:KIn s):kc s=0:=by
 obtain⟨k,b,l,bl,m,o,r,g⟩:=h;have c:KP.fitsB (s 0) (s 1) (s 2) (s 3)=true:=by
  unfold KP.fitsB;rw[ae (by omega)];by_cases e:s 0=1
  ·rw[ag e];exact aF (m e)
  ·rw[ae e];exact aF (o e)
 have a:KP.badgeB (s 0) (s 5)=true:=by
  unfold KP.badgeB;rcases g with ⟨e,h⟩|⟨e,h⟩
  ·rw[ag e];exact aF h
  ·rw[ae e];exact aF h
 unfold kc KP.chk;rw[ae (by omega),ae (by omega),c,ae (by decide),ae (by omega),a,ae (by decide)]
theorem clI_iff {n:Int} {s:Nat→Int}:clI n s=true↔s 0=1∧s 1≤n∧n≤s 1+s 2 - 1:=by
 unfold clI;rw[am,bp,aU]
theorem opn_iff {n:Int} {s:Nat→Int}:opn n s=true↔s 0≠0∧s 0≠1∧s 1=n:=by
 unfold opn;rw[am,am,bne_iff_ne,bne_iff_ne,bp,and_assoc]
theorem un_cl {n:Int} {s:Nat→Int} (h:clI n s=false):un n s=false:=by unfold un;rw[h];rfl
theorem Keys.add {p:PW} {r:Nat→Nat} (h:Keys p r) {b:Nat} (E:b<p.slots.length) (C:p.s b 0=0) (t:p.k (b/16)=5) {f:Nat→Int} (B:f 0≠0) (hk:KeyOk p f)
  (v:f 6= -1∨∃u:Nat,f 6=u∧u<p.slots.length∧p.s u 0≠0∧cmB (p.s u) f=true)
  (F:f 0=1→∀n:Nat,clI n f=true→p.k n=0∧∀i,clI n (p.s i)=false)
  (G:f 0≠1→f 6= -1→∀c,clI (f 1) (p.s c)=false):∃r',Keys {p with slots:=p.slots.set b f} r':=by
 have S:∀j,PW.s {p with slots:=p.slots.set b f} j=if j=b then f else p.s j:=fun j=>getD_set E f eS j
 have q:∀u,p.s u 0≠0→u≠b:=fun u d e=>d (e▸C);have H:=kc_in hk.c B;have w:∀n:Int,clI n f=true→(∀i,clI n (p.s i)=false)∧∃m:Nat,n=m∧p.k m=0:=fun n d=>by
  obtain⟨e1,e2,I⟩:=clI_iff.1 d;obtain⟨m,rfl⟩:∃m:Nat,n=m:=⟨n.toNat,by have:=H.b;omega⟩
  exact⟨(F e1 m d).2,m,rfl,(F e1 m d).1⟩
 refine⟨fun j=>if j=b then (if f 6= -1 then 0 else r (f 6).toNat+1) else r j,fun j a=>?_,fun j a=>?_,fun j a=>?_,fun j=>?_,fun j a=>?_,fun n i j hi a=>?_,fun n t=>?_,fun n t i=>?_,fun i d l g c=>?_⟩
 ·rw[S] at a ⊢;by_cases e:j=b
  ·rw[ag e] at a;exact absurd a B
  ·rw[ae e] at a ⊢;exact h.em j a
 ·rw[S] at a;split at a
  ·rename_i e;rw[e];exact t
  ·exact h.nd j a
 ·rw[S] at a ⊢;by_cases e:j=b
  ·rw[ag e];exact⟨hk.c,hk.le,hk.is⟩
  ·rw[ae e] at a ⊢;have:=h.key j a;exact⟨this.c,this.le,this.is⟩
 ·rw[S];by_cases e:j=b
  ·rw[ag e];rcases v with v|⟨u,d,l,g,o⟩
   ·exact .inl v
   ·refine .inr ⟨u,d,by rw[ar];exact l,by rw[S,ae (q u g)];exact g,by rw[S,ae (q u g)];exact o,?_⟩;rw[ae (q u g),ag e,ae (by omega),d,ah];omega
  ·rw[ae e];rcases h.up j with d|⟨u,d,l,g,o,z⟩
   ·exact .inl d
   ·refine .inr ⟨u,d,by rw[ar];exact l,by rw[S,ae (q u g)];exact g,by rw[S,ae (q u g)];exact o,?_⟩;rw[ae (q u g),ae e];exact z
 ·rw[S] at a;show _<nfl (p.slots.set b f)
  rw[nfl_set E C B];by_cases e:j=b
  ·rw[ag e];rcases v with v|⟨u,d,l,g,o⟩
   ·rw[ag v];omega
   ·rw[ae (by omega),d,ah];have:=h.rk u g;omega
  ·rw[ae e] at a ⊢;have:=h.rk j a;omega
 ·rw[S] at hi a;by_cases x:i=b<;>by_cases y:j=b
  ·omega
  ·rw[ag x] at hi;rw[ae y,(w n hi).1 j] at a
   cases a
  ·rw[ag y] at a;rw[ae x,(w n a).1 i] at hi
   cases hi
  ·rw[ae x] at hi;rw[ae y] at a;exact h.one n i j hi a
 ·obtain⟨i,d,l⟩:=h.op n t;refine⟨i,by rw[ar];exact d,?_⟩;rw[S,ae (q i (opn_iff.1 l).1)];exact l
 ·rw[S];split
  ·refine un_cl ?_
   cases hx:clI (n:Int) f with
   |false=>rfl
   |true=>
    obtain⟨_,m,g,o⟩:=w n hx;obtain rfl:n=m:=by omega
    exact absurd o t
  ·exact h.us n t i
 ·rw[S] at d l g ⊢;rw[S];by_cases e:i=b
  ·rw[ag e] at d l g ⊢;split
   ·cases hx:clI (f 1) f with
    |false=>rfl
    |true=>exact absurd (clI_iff.1 hx).1 l
   ·exact G l g c
  ·rw[ae e] at d l g ⊢;split
   ·cases hx:clI (p.s i 1) f with
    |false=>rfl
    |true=>
     obtain⟨_,m,o,z⟩:=w _ hx;rcases (h.key i d).is with A|A
     ·exact absurd A l
     ·obtain⟨m2,J,_,D⟩:=isB_nat A;obtain rfl:m=m2:=by omega
      rw[z] at D;exact absurd D.symm d
   ·exact h.gp i d l g c
theorem and_less:∀x y:Fin 8,anB (bits .and .i64 (x.val:Int) (y.val:Int)) (x.val:Int)=0∧0≤bits .and .i64 (x.val:Int) (y.val:Int)∧bits .and .i64 (x.val:Int) (y.val:Int)≤7:=az (by kernel_rfl)
theorem and_in {x y:Int} (a:0≤x∧x≤7) (b:0≤y∧y≤7):anB (bits .and .i64 x y) x=0∧0≤bits .and .i64 x y∧bits .and .i64 x y≤7:=by
 have:=and_less ⟨x.toNat,by omega⟩ ⟨y.toNat,by omega⟩;rw[show (((⟨x.toNat,by omega⟩:Fin 8).val:Nat):Int)=x by simp;omega,show (((⟨y.toNat,by omega⟩:Fin 8).val:Nat):Int)=y by simp;omega] at this;exact this
end Go.Proofs.YtaejnmmpddbbjaaGreatDoor.Wd
