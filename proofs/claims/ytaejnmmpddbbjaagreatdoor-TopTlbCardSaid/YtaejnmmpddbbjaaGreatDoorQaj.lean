/- Qaj -/
import Derived.Maps.AppendAt
import Derived.Test.YtaejnmmpddbbjaaGreatDoorQai
set_option maxRecDepth 100000
set_option maxHeartbeats 16000000
namespace Go.Proofs.YtaejnmmpddbbjaaGreatDoor
namespace Wd
open Go.RowKit Mem Bw Nums Mmu
abbrev PW.s (p:PW) (i:Nat):Nat->Int:=p.DZ.getD i eS
abbrev PW.k (p:PW) (f:Nat):Int:=p.kinds.getD f 0
def nfl (S:List (Nat->Int)):Nat:=S.countP fun f=>f 0 !=0
structure sV (p:PW) (s:Nat->Int):Prop where
 c:kc s=0
 le:s 1+s 2<=(p.kinds.length:Int)
 is:s 0=1∨isB p (s 1) (s 0)=true
structure Keys (p:PW) (r:Nat->Nat):Prop where
 em:∀i,p.s i 0=0->(∀k,k<6->p.s i k=0)∧p.s i 6= -1
 nd:∀i,p.s i 0≠0->p.k (i/16)=5
 key:∀i,p.s i 0≠0->sV p (p.s i)
 up:∀i,p.s i 6= -1∨∃u:Nat,p.s i 6=u∧u<p.DZ.length∧p.s u 0≠0∧cmB (p.s u) (p.s i)=true∧r u<r i
 rk:∀i,p.s i 0≠0->r i<nfl p.DZ
 one:∀(n:Int) i j,clI n (p.s i)=true->clI n (p.s j)=true->i=j
 op:∀n,p.k n≠0->∃i,i<p.DZ.length∧opn n (p.s i)=true
 us:∀n,p.k n≠0->∀i,un n (p.s i)=false
 gp:∀i,p.s i 0≠0->p.s i 0≠1->p.s i 6= -1->∀c,clI (p.s i 1) (p.s c)=false
theorem sE {p:PW} {i:Nat} (h:i<p.DZ.length):p.DZ[i]=p.s i:=by
 show _=p.DZ.getD i eS
 rw[aa,ac h];rfl
theorem BU {p:PW} {i:Nat} (h:p.DZ.length<=i):p.s i=eS:=by
 show p.DZ.getD i eS=_
 rw[aa,aF h];rfl
theorem py {p:PW} {i:Nat} (h:p.s i 0≠0):i<p.DZ.length:=by
 rcases cd i p.DZ.length with a|a
 ·exact a
 ·rw[BU a] at h;exact absurd rfl h
theorem vo {p:PW} {f:Nat} (h:f<p.kinds.length):p.kinds[f]=p.k f:=by
 show _=p.kinds.getD f 0
 rw[aa,ac h];rfl
theorem jZ {p:PW} {f:Nat} {k:Int} (h:f<p.kinds.length):isB p f k=(p.k f==k):=by
 unfold isB;rw[gJ h,vo h];rfl
theorem hZ {p:PW} {f:Nat} (h:p.k f≠0):f<p.kinds.length:=by
 rcases cd f p.kinds.length with a|a
 ·exact a
 ·exact absurd (show p.kinds.getD f 0=0 by rw[aa,aF a];rfl) h
theorem eU {p:PW} {a k:Int} (h:isB p a k=true):∃f:Nat,a=f∧f<p.kinds.length∧p.k f=k:=by
 unfold isB eX at h;split at h
 ·rename_i h0;obtain⟨f,rfl⟩:∃f:Nat,a=f:=⟨a.toNat,oA⟩
  rw[ag] at h;have c:=eq_of_beq h;obtain⟨b,d⟩:=List.getElem?_eq_some_iff.1 c;exact⟨f,rfl,b,by rw[<-vo b];exact d⟩
 ·cases h
theorem Bk (S:List (Nat->Int)):nfl S<=S.length:=List.countP_le_length
theorem rN {p:PW} {u:Nat} (h:u<p.DZ.length):fQ p u=true:=aD ⟨oA,oA⟩
theorem Keys.ends {p:PW} {r:Nat->Nat} (h:Keys p r):∀(n u:Nat),p.s u 0≠0->r u<n->fQ p (Wd.up p n u)=false
 |0,_,_,h0=>oA
 |n+1,u,hu,h0=>by
  have hl:=py hu;have e:(p.DZ.getD ((u:Int)).toNat (fun _=> -1)) 6=p.s u 6:=by
   rw[ag,aa,ac hl, <-sE hl];rfl
  rw[Wd.up,af (rN hl),e];rcases h.up u with a|⟨v,a,_,b,_,c⟩
  ·rw[a,Cg (by exact ax oA)];exact ax oA
  ·rw[a];exact h.ends n v b oA
theorem Keys.b3 {p:PW} {r:Nat->Nat} (h:Keys p r):∀k (hk:k<p.DZ.length),Ar p k p.DZ[k]=false:=fun k hk=>by
 rw[sE hk];unfold Ar bsB;by_cases b:p.s k 0=0
 ·obtain⟨a,d⟩:=h.em k b;have g:zkB (p.s k)=true:=aD ⟨b,a 1 oD,a 2 oD,a 3 oD,a 4 oD,a 5 oD⟩;rw[af g,d];rfl
 ·have g:zkB (p.s k)=false:=ax (fun h=>b h.1);obtain⟨k1,k2,f⟩:=h.key k b;have n:opB p (p.s k)=true:=by
   unfold opB;rw[k1,aD k2];rcases f with f|f
   ·rw[f];rfl
   ·rw[f];simp
  have m:p.kinds.getD (k/16) 0=5:=h.nd k b;have j:mdB p (p.s k)=true∧CM p (p.s k 6)=false:=by
   unfold mdB CM;rcases h.up k with a|⟨u,a,d,i,l,o⟩
   ·rw[a,Cg (by exact ax oA)];exact⟨rfl,ax oA⟩
   ·have e:vS p (p.s k)=p.s u:=by
     unfold vS;rw[a,ag,aa,ac d, <-sE d];rfl
    rw[e,(h.key u i).c,l,a,rN d];refine⟨oS,h.ends _ u i ?_⟩;have:=h.rk k b;have:=Bk p.DZ;omega
  rw[ae (by rw[g];decide),m,n,j.1,j.2];rfl
theorem iW {α:Type} {g:α->Nat}:∀(l:List α),(∀j (c:j<l.length),g l[j]=0)->eZ g l=0
 |[],_=>by simp[eZ]
 |x::l,h=>by
  have a:=iW l (fun j c=>h (j+1) (by simp;omega));have b:g x=0:=h 0 oS;unfold eZ at a ⊢;simp only[bP,ep];rw[a,b]
theorem u7 {α:Type} {q:α->Bool}:∀(l:List α),(∀i j (hi:i<l.length) (e:j<l.length),q l[i]=true->q l[j]=true->i=j)->eZ (fun x=>if q x then 1 else 0) l<=1
 |[],_=>by simp[eZ]
 |x::l,h=>by
  have f:=u7 l (fun i j hi e a b=>by have:=h (i+1) (j+1) (by simp;omega) (by simp;omega) a b;omega);unfold eZ at f ⊢;simp only[bP,ep];by_cases c:q x=true
  ·have d:=iW (g:=fun x=>if q x then 1 else 0) l (fun j e=>by
    cases hq:q l[j] with
    |false=>rfl
    |true=>have:=h 0 (j+1) oS (by simp;omega) c hq;omega)
   unfold eZ at d;rw[af c,d];exact ar _
  ·rw[ae c];omega
theorem Keys.b4 {p:PW} {r:Nat->Nat} (h:Keys p r):∀k (hk:k<p.kinds.length),As p k p.kinds[k]=false:=fun k hk=>by
 rw[vo hk];unfold As bfB;have l:eZ (cl (k:Int)) p.DZ<=1:=u7 (q:=clI (k:Int)) p.DZ (fun i j hi e a b=>by
  rw[sE hi] at a;rw[sE e] at b;exact h.one k i j a b)
 rw[ax oA,Bool.false_or];by_cases d:p.k k=0
 ·rw[d];rfl
 ·have c:p.DZ.any (opn (k:Int))=true:=by
   obtain⟨i,hi,c⟩:=h.op k d;rw[<-sE hi] at c;exact List.any_eq_true.2 ⟨_,aw hi,c⟩
  have f:p.DZ.any (un (k:Int))=false:=by
   rw[bS];intro x g;obtain⟨j,e,rfl⟩:=dm g;rw[sE e,h.us k d j]
   decide
  rw[c,f];simp
def en {α:Type} (p:α->Bool) (l:List α):List α:=l.filter fun e=> !p e
section
variable {α : Type} {p : α -> Bool} {l m : List α} {i j : Nat}
end
def ixP {α:Type} (p:α->Bool) (l:List α):Int:=if l.findIdx p<l.length then (l.findIdx p:Int) else -1
def fx {α:Type} (f:α->α) (k:Nat) (l:List α):List α:=(l.take k).map f++l.drop k
section
variable {α : Type} (f : α -> α) (k : Nat) (l : List α)
theorem qY:(fx f k l).length=l.length:=by
 unfold fx;simp;omega
theorem _root_.Go.Proofs.YtaejnmmpddbbjaaGreatDoor.cS:type_of% @qY:= @qY
theorem fD:fx f 0 l=l:=by simp[fx]
theorem fY:fx f l.length l=l.map f:=by simp[fx]
theorem eN (hk:k<l.length) (h:k<(fx f k l).length):(fx f k l)[k]=l[k]:=by
 have e:(fx f k l)[k]? =l[k]? :=by
  unfold fx;rw[dc (by simp;omega),cW]
  congr 1
  simp;omega
 rw[ac h,ac hk] at e;exact aH e
theorem eO (hk:k<l.length):fx f (k+1) l=(fx f k l).set k (f l[k]):=by
 unfold fx;have e:k - (List.map f (List.take k l)).length=0:=by simp;omega
 rw[List.take_add_one,ac hk,dR,List.set_append,ae (by simp;omega),e];simp only[Option.toList_some,bP,ef,List.append_assoc,List.cons_append,List.nil_append];rw[List.drop_eq_getElem_cons hk];rfl
end
def lvs (t:Int) (ls:List (List Int)):List (List Int):=ls.map (en fun x=>x==t)
theorem jq (ls:List (List Int)) (j:Nat) (a:j<ls.length) (l:List Int):ci (ls.set j l)=fun i=>if i=j then (l.length,ec l) else ci ls i:=by
 funext i
 unfold ci;by_cases h:i=j
 ·subst h;rw[af rfl,aa,cJ a];rfl
 ·rw[ae h,aa,cF (fun e=>h e.symm),aa]
theorem fy.at {w:World} {tag:Nat->Nat} {t c O I s n g:Nat} {a:Nat->Nat×List Value} (h:fy w tag t c O I s n (.slice (some ⟨g,0,none⟩) n n) a) {j:Nat} (k:j<n):∃u,w.cell? ⟨g,j,none⟩=some u∧InT w tag (c+3*j) I s u (a j):=by
 obtain⟨g',us,d,_,e,f,i⟩:=h;obtain rfl:g=g':=by simpa using d
 have b:j<us.length:=by rw[e];exact k
 refine⟨us[j],?_,i j b⟩;rw[f.cellAt j oA,ac b]
theorem fy.fr {w:World} {tag:Nat->Nat} {t d O I s n g:Nat} {a:Nat->Nat×List Value} (h:fy w tag t d O I s n (.slice (some ⟨g,0,none⟩) n n) a) (j:Nat):w.frozen? ⟨g,j,none⟩=false:=by
 obtain⟨g',us,b,_,_,c,_⟩:=h;obtain rfl:g=g':=by simpa using b
 exact c.frozenAt j
theorem fy.EZ {w:World} {tag:Nat->Nat} {t e O I s n g:Nat} {a:Nat->Nat×List Value} (h:fy w tag t e O I s n (.slice (some ⟨g,0,none⟩) n n) a):tag g=t∧g<w.heap.size:=by
 obtain⟨g',us,b,c,_,d,_⟩:=h;obtain rfl:g=g':=by simpa using b
 exact⟨c,(d.lt g rfl).2⟩
theorem fy.form {w:World} {tag:Nat->Nat} {t c O I s n:Nat} {v:Value} {a:Nat->Nat×List Value} (h:fy w tag t c O I s n v a):∃g,v=.slice (some ⟨g,0,none⟩) n n:=by
 obtain⟨g,_,b,_⟩:=h;exact⟨g,b⟩
theorem fy.put {w w1:World} {tag tag':Nat->Nat} {t a O I s n g:Nat} {l:Nat->Nat×List Value} (h:fy w tag t a O I s n (.slice (some ⟨g,0,none⟩) n n) l) {j:Nat} (B:j<n) (d:∀j,t≠a+3*j)
  (hk:Kp (fun b=>tag b=a+3*j) w w1) (o:∀k,k<w.heap.size->tag' k=tag k) {u:Value} {c:Nat×List Value} (z:InT w1 tag' (a+3*j) I s u c):
  fy (w1.setCell ⟨g,j,none⟩ u) tag' t a O I s n (.slice (some ⟨g,0,none⟩) n n) (fun i=>if i=j then c else l i)∧Kp (fun k=>tag k=t∨∃j,tag k=a+3*j) w (w1.setCell ⟨g,j,none⟩ u):=by
 obtain⟨f,x⟩:=h.EZ;have m:=(o g x).trans f;obtain⟨g',us,p,A,q,r,v⟩:=h;obtain rfl:g=g':=by simpa using p
 have k2:Kp (fun b=>tag' b=t) w1 (w1.setCell ⟨g,j,none⟩ u):=Kp.setCell (T:=fun b=>tag' b=t) (aP _ w1) (.inl m) u;refine⟨⟨g,us.set j u,rfl,m,by rw[au];exact q,?_,fun i hi=>?_⟩,?_⟩
 ·exact ((hQ r hk (fun k e=>by
   have:g=k:=by simpa [Value.ownBlock] using e
   rw[<-this,f];exact d j)).stored j u).1
 ·have y:i<us.length:=by rwa [au] at hi
  by_cases e:i=j
  ·subst e;rw[dQ];simp only[af];exact z.kp k2 (fun _ _=>rfl) (fun k e=>by rw[e];exact fun h=>d i h.symm)
  ·rw[List.getElem_set_ne (fun h=>e h.symm)];simp only[ae e];exact ((v i y).kp hk o (fun k e2=>by rw[e2];omega)).kp k2 (fun _ _=>rfl) (fun k e=>by rw[e];exact fun h=>d i h.symm)
 ·exact Kp.setCell (T:=fun k=>tag k=t∨∃j,tag k=a+3*j) (hk.wider (fun k _ e=>Or.inr ⟨j,e⟩)) (.inl (.inl f)) u
theorem jN.at {w:World} {tag:Nat->Nat} {n g:Nat} {ls:List (List Ent)} (h:jN w tag n (.slice (some ⟨g,0,none⟩) n n) ls) {j:Nat} (f:j<n):∃u,w.cell? ⟨g,j,none⟩=some u∧InE w tag (14+3*j) u (ls.getD j []):=by
 obtain⟨g',us,b,_,c,d,e⟩:=h;obtain rfl:g=g':=by simpa using b
 have a:j<us.length:=by rw[c];exact f
 refine⟨us[j],?_,e j a⟩;rw[d.cellAt j oA,ac a]
theorem jN.fr {w:World} {tag:Nat->Nat} {n g:Nat} {ls:List (List Ent)} (h:jN w tag n (.slice (some ⟨g,0,none⟩) n n) ls) (j:Nat):w.frozen? ⟨g,j,none⟩=false:=by
 obtain⟨g',us,a,_,_,b,_⟩:=h;obtain rfl:g=g':=by simpa using a
 exact b.frozenAt j
theorem jN.EZ {w:World} {tag:Nat->Nat} {n g:Nat} {ls:List (List Ent)} (h:jN w tag n (.slice (some ⟨g,0,none⟩) n n) ls):tag g=10∧g<w.heap.size:=by
 obtain⟨g',us,a,b,_,c,_⟩:=h;obtain rfl:g=g':=by simpa using a
 exact⟨b,(c.lt g rfl).2⟩
theorem jN.form {w:World} {tag:Nat->Nat} {n:Nat} {v:Value} {ls:List (List Ent)} (h:jN w tag n v ls):∃g,v=.slice (some ⟨g,0,none⟩) n n:=by
 obtain⟨g,_,a,_⟩:=h;exact⟨g,a⟩
theorem jN.put {w w1:World} {tag tag':Nat->Nat} {n g:Nat} {ls:List (List Ent)} (h:jN w tag n (.slice (some ⟨g,0,none⟩) n n) ls) {j:Nat} (v:j<n) (x:ls.length=n)
  (hk:Kp (fun b=>tag b=14+3*j) w w1) (d:∀k,k<w.heap.size->tag' k=tag k) {u:Value} {l:List Ent} (s:InE w1 tag' (14+3*j) u l):
  jN (w1.setCell ⟨g,j,none⟩ u) tag' n (.slice (some ⟨g,0,none⟩) n n) (ls.set j l)∧Kp (fun k=>tag k=10∨∃j,tag k=14+3*j) w (w1.setCell ⟨g,j,none⟩ u):=by
 obtain⟨a,q⟩:=h.EZ;have c:=(d g q).trans a;obtain⟨g',us,f,t,m,o,p⟩:=h;obtain rfl:g=g':=by simpa using f
 have k2:Kp (fun b=>tag' b=10) w1 (w1.setCell ⟨g,j,none⟩ u):=Kp.setCell (T:=fun b=>tag' b=10) (aP _ w1) (.inl c) u;refine⟨⟨g,us.set j u,rfl,c,by rw[au];exact m,?_,fun i hi=>?_⟩,?_⟩
 ·exact ((hQ o hk (fun k e=>by
   have:g=k:=by simpa [Value.ownBlock] using e
   rw[<-this,a];omega)).stored j u).1
 ·have r:i<us.length:=by rwa [au] at hi
  by_cases e:i=j
  ·subst e;rw[dQ,aa,cJ oA];exact s.kp k2 (fun _ _=>rfl) (fun k e=>by rw[e];omega)
  ·rw[List.getElem_set_ne (fun h=>e h.symm),aa,cF (fun h=>e h.symm), <-aa];exact ((p i r).kp hk d (fun k e2=>by rw[e2];omega)).kp k2 (fun _ _=>rfl) (fun k e=>by rw[e];omega)
 ·exact Kp.setCell (T:=fun k=>tag k=10∨∃j,tag k=14+3*j) (hk.wider (fun k _ e=>Or.inr ⟨j,e⟩)) (.inl (.inl a)) u
def noT (t x:Int):Int:=if x=t then -1 else x
def PW.task (p:PW) (t k:Nat) (x:Int):PW:={p with DY:=p.DY.set t (upd (p.DY.getD t bl) k x)}
def lvP (p:PW) (t:Nat):PW:={p.task t 14 (-1) with lines:=lvs t p.lines,ready:=lvs t p.ready,D6:=p.D6.map (noT t)}
theorem PW.Fa (p:PW) (t k:Nat) (x:Int):(p.task t k x).DY.length=p.DY.length:=by unfold PW.task;simp
theorem _root_.Go.Proofs.YtaejnmmpddbbjaaGreatDoor.am:type_of% @PW.Fa:= @PW.Fa
theorem cb.task {W:World} {wb:Nat} {tag:Nat->Nat} {V:Nat->Value} {p:PW} (h:cb W wb tag V p) {g cap:Nat} (e:V 3=.slice (some ⟨g,0,none⟩) p.DY.length cap) {i k:Nat} (hi:i<p.DY.length) (hk:k<20) (x:Int):
  cb (W.setCell ⟨g,i*20+k,none⟩ (.int .i64 x)) wb tag V (p.task i k x)∧Kt tag tag W (W.setCell ⟨g,i*20+k,none⟩ (.int .i64 x)):=by
 have a:=h.Ei e hi hk x;have b:p.DY.getD i bl=p.DY[i]:=by rw[aa,ac hi];rfl
 unfold PW.task;rw[b];exact a
theorem cb.Ec {W:World} {wb:Nat} {tag:Nat->Nat} {V:Nat->Value} {p:PW} (h:cb W wb tag V p) {g cap:Nat} (e:V 3=.slice (some ⟨g,0,none⟩) p.DY.length cap) {i k:Nat} (hi:i<p.DY.length) (hk:k<20):W.cell? ⟨g,i*20+k,none⟩=some (.int .i64 (p.DY.getD i bl k)):=by
 rw[h.Er e hi hk,aa,ac hi];rfl
theorem lx (t:Int) (ls:List (List Int)):(lvs t ls).length=ls.length:=by unfold lvs;simp
def gy (tag:Nat->Nat) (c t k:Nat):Nat:=if k<c then tag k else t
theorem va {tag:Nat->Nat} {c t k:Nat} (h:k<c):gy tag c t k=tag k:=af h
theorem _root_.Go.Proofs.YtaejnmmpddbbjaaGreatDoor.cV:type_of% @va:= @va
theorem gm (p:PW) (t k j:Nat) (x:Int) (a:t<p.DY.length):(p.task t k x).DY.getD t bl j=if j=k then x else p.DY.getD t bl j:=by
 unfold PW.task;simp only;rw[aa,cJ a];rfl
theorem kL {α:Type} (l:List α) (t:Nat) (d x:α) (a:t<l.length):(l.set t x).getD t d=x:=by
 rw[aa,cJ a];rfl
theorem nO (f:Nat->Int) (i j:Nat) (x y:Int) (h:i≠j):upd (upd f i x) j y=upd (upd f j y) i x:=by
 funext k
 unfold upd;by_cases a:k=j
 ·rw[af a,ae (fun e=>h (e.symm.trans a)),af a]
 ·rw[ae a];by_cases b:k=i
  ·rw[af b,af b]
  ·rw[ae b,ae b,ae a]
def thE (p:PW) (f k:Int):Int:=if frB p f then (if isB p f k then 0 else 3) else 2
theorem rT {p:PW} {f k:Int} (h:thE p f k=0):∃(t:Nat) (a:t<p.kinds.length),f=t∧p.kinds[t]=k:=by
 unfold thE at h
 cases h1:frB p f with
 |false=>rw[h1] at h;simp at h
 |true=>
  cases h2:isB p f k with
  |false=>rw[h1,h2] at h;simp at h
  |true=>
   unfold frB at h1;have b:=ay h1;obtain⟨t,rfl⟩:∃t:Nat,f=t:=⟨f.toNat,oA⟩
   have a:t<p.kinds.length:=oA;unfold isB at h2;rw[gJ a] at h2;exact⟨t,a,rfl,by simpa using h2⟩
theorem ir {p:PW} (h:Snd p) {t:Nat} (b:t<p.kinds.length) (hk:p.kinds[t]=6):
  nfB p (p.DY.getD t bl)=true∧ffB p (p.DY.getD t bl)=true∧dbB p t (p.DY.getD t bl)=true∧srB p t (p.DY.getD t bl)=true∧rrB p t (p.DY.getD t bl)=true:=by
 have hl:t<p.DY.length:=by rw[h.lf.DY];exact b
 have a:btB p t (p.kinds.getD t 0) p.DY[t]=false:=h.b5 t hl;have c:p.DY.getD t bl=p.DY[t]:=by rw[aa,ac hl];rfl
 have d:p.kinds.getD t 0=6:=by rw[aa,ac b,aT];exact hk
 rw[c];unfold btB at a;rw[af d] at a;simp only[cq,al] at a;exact⟨a.1.1.1.1,a.1.1.1.2,a.1.1.2,a.1.2,a.2⟩
theorem oN {p:PW} {f:Nat->Int} (h:nfB p f=true):(0<=f 9∧f 9<=6)∧(0<=f 10∧f 10<=3)∧(0<=f 18∧f 18<=(p.D6.length:Int) - 1)∧(0<=f 19∧f 19<=3):=by
 unfold nfB ed at h;simp only[al,aR] at h;exact⟨h.1.1.1.2,h.1.1.2,h.1.2,h.2⟩
theorem pD {x:Int}:∀{zs:List Int},cn x zs=0->∀z∈zs,z≠x
 |[],_,_,h=>by cases h
 |y::l,h0,z,h=>by
  unfold cn eZ at h0;simp only[bP,ep] at h0;rcases bM.1 h with rfl|h
  ·intro e;unfold one at h0;rw[af e] at h0;omega
  ·exact pD (zs:=l) (by unfold cn eZ;omega) z h
theorem tO {x:Int} {zs:List Int} (h:cn x zs=0):en (fun y=>y==x) zs=zs:=by
 unfold en;rw[List.filter_eq_self];intro a b;simpa using pD h a b
theorem iS {x:Int}:∀{ls:List (List Int)},cna x ls=0->lvs x ls=ls
 |[],_=>rfl
 |l::r,h=>by
  unfold cna eZ at h;simp only[bP,ep] at h;have a:lvs x r=r:=iS (by unfold cna eZ;omega);unfold lvs at a ⊢;rw[bP,a,tO oA]
theorem nA {x:Int} {zs:List Int} (h:cn x zs=0):zs.map (noT x)=zs:=by
 have:∀z∈zs,noT x z=z:=fun z a=>ae (pD h z a);exact (List.map_congr_left this).trans (List.map_id' zs)
def rdN (p:PW) (t:Nat):Nat:=(p.DY.getD t bl 18*4+p.DY.getD t bl 10).toNat
theorem lD {p:PW} (h:Snd p) {t:Nat} (a:t<p.kinds.length) (hk:p.kinds[t]=6):rdN p t<p.ready.length∧p.DY.getD t bl 18*4+p.DY.getD t bl 10=(rdN p t:Int)∧(0<=p.DY.getD t bl 18∧p.DY.getD t bl 18<=1000)∧(0<=p.DY.getD t bl 10∧p.DY.getD t bl 10<=1000):=by
 obtain⟨b,c,d,_⟩:=oN (ir h a hk).1;have e:=h.lf.c2;unfold rdN;rw[h.lf.ready];omega
theorem gN (p:PW) (t k j:Nat) (x:Int) (b:t<p.DY.length) (a:j≠k):(p.task t k x).DY.getD t bl j=p.DY.getD t bl j:=by rw[gm p t k j x b,ae a]
abbrev PW.t (p:PW) (n:Nat):Nat->Int:=p.DY.getD n bl
structure jM (p:PW):Prop where
 w:∀x∈p.Eb,0<=x∧x<=65535
 e:∀i,i<p.Eb.length->beB p (p.k (i/16)) (p.Eb.getD i 0)=false
theorem xf {p:PW} {n:Nat} (h:n<p.DY.length):p.DY[n]=p.t n:=by
 show _=p.DY.getD n bl
 rw[aa,ac h];rfl
theorem kT {x:Int} {l:List Int} (h:x∉l):cn x l=0:=iW l (fun j a=>by
 unfold one;rw[ae];intro e;exact h (e▸aw a))
def opE (p:PW) (n:Int):Int:=if fQ p n then (if p.kinds.getD (n.toNat/16) 0=5 then (if (p.DZ.getD n.toNat eE) 0=0 then 0 else 12) else 3) else 2
def boE (p:PW) (a b:Int):Int:=if fS p a=0 then opE p b else fS p a
theorem rA (vb:Nat) (V:Nat->Value) (p:PW) (n:Int) (w:World) (b:gS w vb V p) (hk:p.DZ.length=p.kinds.length*16):
  Calls Tryz.prog 76 #[.pointer (some ⟨vb,0,none⟩),.int .i64 n] w fun r w'=>r=.returned (.int .i64 (opE p n))∧w=w':=by
 have c2:=r11 2 b.r;have c1:=r11 1 b.r;obtain⟨K,b2,J,z,e2,o,s⟩:=b.v.DZ;obtain⟨q1,b1,I,x,e1,m,q⟩:=b.v.kinds;have H:(p.DZ.length:Int)<=1000:=by have:=b.f.DZ;omega
 have G:(p.kinds.length:Int)<=1000:=by have:=b.f.kinds;omega
 cases hs:fQ p n with
 |false=>
  have a:=hid (show opE p n=2 by unfold opE;rw[hs];rfl);have k:=hid hs;have l:=cH hs;by_cases d:n<0
  ·clear l;go_enter Tryz.func76,Tryz.ntmps76
   go_wp2_with fail
   go_ret
   exact⟨by rw[a.out];rfl,rfl⟩
  ·have B:(p.DZ.length:Int)<=n:=oA;go_enter Tryz.func76,Tryz.ntmps76
   go_wp2_with fail
   go_ret
   exact⟨by rw[a.out];rfl,rfl⟩
 |true=>
  obtain⟨j,rfl,g⟩:=gg hs;have k:=hid hs;have D:(j:Int)<(p.DZ.length:Int):=oA;obtain rfl:=o oA;have t:=iL (s j g) (dp 7 _ 0 oA);have h:j/16<p.kinds.length:=oA;have E:((j:Int)/16)=((j/16:Nat):Int):=oA;have F:((j/16:Nat):Int)<(p.kinds.length:Int):=oA;obtain rfl:=m oA;have u:=q (j/16) h;have c:=hid (show opE p j=if p.kinds[j/16]=5 then (if p.DZ[j] 0=0 then 0 else 12) else 3 by unfold opE;rw[hs,af rfl,ag,tK h,aa,ac g];rfl);generalize p.DZ[j] 0=y at t c;generalize p.kinds[j/16]=kd at u c;generalize j/16=i at*;have n0:¬((j:Int)<0):=oA;have n1:¬((p.DZ.length:Int)<=(j:Int)):=oA;by_cases e:kd=5
  rotate_left
  ·have a:=hid (show opE p j=3 by rw[c.out,ae e]);have C:(kd !=5)=true:=by simpa using e
   go_enter Tryz.func76,Tryz.ntmps76
   go_wp2_with fail
   go_ret
   exact⟨by rw[a.out];rfl,rfl⟩
  subst e;by_cases d:y=0
  ·subst d;have a:=hid (show opE p j=0 by rw[c.out];rfl);go_enter Tryz.func76,Tryz.ntmps76
   go_wp2_with fail
   go_ret
   exact⟨by rw[a.out];rfl,rfl⟩
  ·have a:=hid (show opE p j=12 by rw[c.out,af rfl,ae d]);have A:(y !=0)=true:=by simpa using d
   go_enter Tryz.func76,Tryz.ntmps76
   go_wp2_with fail
   go_ret
   exact⟨by rw[a.out];rfl,rfl⟩
theorem kI (vb:Nat) (V:Nat->Value) (p:PW) (a b:Int) (w:World) (f:gS w vb V p) (hk:p.DZ.length=p.kinds.length*16):
  Calls Tryz.prog 32 #[.pointer (some ⟨vb,0,none⟩),.int .i64 a,.int .i64 b] w fun r w'=>r=.returned (.int .i64 (boE p a b))∧w=w':=by
 have d:=hid (lg vb V p a w f);have e:=hid (rA vb V p b w f hk);by_cases h:fS p a=0
 ·have c:=hid (show boE p a b=opE p b from af h);rw[h] at d;generalize opE p b=x at e c;go_enter Tryz.func32,Tryz.ntmps32
  go_wp2_with fail
  refine d.mono ?_;rintro r w1 ⟨rfl,rfl⟩;go_wp2_with fail
  refine e.mono ?_;rintro r w1 ⟨rfl,rfl⟩;go_wp2_with fail
  go_ret
  exact⟨by rw[c.out];rfl,rfl⟩
 ·have c:=hid (show boE p a b=fS p a from ae h);have g:(fS p a==0)=false:=by simpa using h
  generalize fS p a=x at d c g;go_enter Tryz.func32,Tryz.ntmps32
  go_wp2_with fail
  refine d.mono ?_;rintro r w1 ⟨rfl,rfl⟩;go_wp2_with fail
  go_ret
  exact⟨by rw[c.out];rfl,rfl⟩
theorem Az {p:PW} {a b:Int} (h:boE p a b=0):∃i j:Nat,a=i∧b=j∧i<p.DZ.length∧j<p.DZ.length:=by
 unfold boE at h;split at h
 ·rename_i h1;unfold fS at h1;unfold opE at h
  cases ha:fQ p a with
  |false=>rw[ha] at h1;simp at h1
  |true=>
   cases hb:fQ p b with
   |false=>rw[hb] at h;simp at h
   |true=>
    obtain⟨i,hi,c⟩:=gg ha;obtain⟨j,d,e⟩:=gg hb;exact⟨i,j,hi,d,c,e⟩
 ·rename_i h1;exact absurd h h1
end Wd
namespace Mem
open Go.RowKit
section
variable {P : Program} {md : Region.Mode} {ops : Array Oper} {Q : Exit -> Act -> World -> Prop} {n1 N : Nat} {R : Nat -> Value -> World -> Prop} {w0 : World} {a0 : Act}
end
end Mem
namespace Wd
open Go.RowKit Mem Bw Nums Mmu
def sl (k:Nat):Int:=if k=6 then -1 else 0
def mH (f c:Nat) (zs:List Int):PW:=
 {Eb:=List.replicate (f*16) 0,kinds:=List.replicate f 0,DZ:=List.replicate (f*16) sl,DY:=List.replicate f bl,lines:=List.replicate f [],bits:=List.replicate f 0,D6:=List.replicate c (-1),ready:=List.replicate (c*4) [],D9:=List.replicate c [],Ee:=zs,time:=0}
def ndk (k:Nat):Int:=[5,0,1,0,7,0, -1].getD k 0
def wlP (f c:Nat) (zs:List Int):PW:={mH f c zs with kinds:=(mH f c zs).kinds.set 0 5,DZ:=(mH f c zs).DZ.set 0 ndk}
def clk (b n:Nat) (k:Nat):Int:=[1,(b:Int),(n:Int),0,7,0, -1].getD k 0
theorem dx {α:Type} {l:List α} {i:Nat} (h:i<l.length) (x d:α) (j:Nat):(l.set i x).getD j d=if j=i then x else l.getD j d:=by
 rw[aa,aa];by_cases e:j=i
 ·subst e;rw[af rfl,cJ h];rfl
 ·rw[ae e,cF (fun h=>e h.symm)]
theorem zj {S:List (Nat->Int)} {i:Nat} (h:i<S.length) (a:(S.getD i eS) 0=0) {f:Nat->Int} (b:f 0≠0):nfl (S.set i f)=nfl S+1:=by
 unfold nfl;have e:S[i]=S.getD i eS:=by rw[aa,ac h];rfl
 rw[List.countP_set h,e,a];simp[b]
structure KIn (s:Nat->Int):Prop where
 k:1<=s 0∧s 0<=8
 b:0<=s 1
 l:1<=s 2
 bl:s 1+s 2<=24
 m:s 0=1->0<=s 3∧s 3<=s 2
 o:s 0≠1->s 2=1∧s 3=0
 r:0<=s 4∧s 4<=7
 g:(s 0=7∨s 0=8)∧0<=s 5∧s 5<=65535∨¬(s 0=7∨s 0=8)∧s 5=0
theorem ll {s:Nat->Int} (h:kc s=0) (b:s 0≠0):KIn s:=by
 unfold kc KP.chk at h;split at h
 ·cases h
 split at h
 ·cases h
 split at h
 ·cases h
 split at h
 ·cases h
 rename_i h1 h2 h3 h4;unfold KP.pO at h2;unfold KP.kN at h4;split at h2
 ·exact absurd rfl h2
 rename_i h5;have g:(s 0=7∨s 0=8)∧0<=s 5∧s 5<=65535∨¬(s 0=7∨s 0=8)∧s 5=0:=by
  split at h4
  ·rename_i e;exact .inl ⟨e,by simpa using h4⟩
  ·rename_i e;exact .inr ⟨e,by simpa using h4⟩
 by_cases e:s 0=1
 ·rw[af e] at h2;have a:0<=s 3∧s 3<=s 2:=by simpa using h2
  exact⟨oA,oA,oA,oA,fun _=>a,fun h=>absurd e h,oA,g⟩
 ·rw[ae e] at h2;have a:s 2=1∧s 3=0:=by simpa using h2
  exact⟨oA,oA,oA,oA,fun h=>absurd h e,fun _=>a,oA,g⟩
theorem wj {s:Nat->Int} (h:KIn s):kc s=0:=by
 obtain⟨k,b,l,bl,m,o,r,g⟩:=h;have c:KP.pO (s 0) (s 1) (s 2) (s 3)=true:=by
  unfold KP.pO;rw[ae oA];by_cases e:s 0=1
  ·rw[af e];exact aD (m e)
  ·rw[ae e];exact aD (o e)
 have a:KP.kN (s 0) (s 5)=true:=by
  unfold KP.kN;rcases g with ⟨e,h⟩|⟨e,h⟩
  ·rw[af e];exact aD h
  ·rw[ae e];exact aD h
 unfold kc KP.chk;rw[ae oA,ae oA,c,ae oD,ae oA,a,ae oD]
theorem iF {n:Int} {s:Nat->Int}:clI n s=true↔s 0=1∧s 1<=n∧n<=s 1+s 2 - 1:=by
 unfold clI;rw[al,bh,aR]
theorem gx {n:Int} {s:Nat->Int}:opn n s=true↔s 0≠0∧s 0≠1∧s 1=n:=by
 unfold opn;rw[al,al,bne_iff_ne,bne_iff_ne,bh,and_assoc]
theorem Cf {n:Int} {s:Nat->Int} (h:clI n s=false):un n s=false:=by unfold un;rw[h];rfl
theorem Keys.add {p:PW} {r:Nat->Nat} (h:Keys p r) {b:Nat} (E:b<p.DZ.length) (C:p.s b 0=0) (t:p.k (b/16)=5) {f:Nat->Int} (B:f 0≠0) (hk:sV p f)
  (v:f 6= -1∨∃u:Nat,f 6=u∧u<p.DZ.length∧p.s u 0≠0∧cmB (p.s u) f=true)
  (F:f 0=1->∀n:Nat,clI n f=true->p.k n=0∧∀i,clI n (p.s i)=false)
  (G:f 0≠1->f 6= -1->∀c,clI (f 1) (p.s c)=false):∃r',Keys {p with DZ:=p.DZ.set b f} r':=by
 have S:∀j,PW.s {p with DZ:=p.DZ.set b f} j=if j=b then f else p.s j:=fun j=>dx E f eS j
 have q:∀u,p.s u 0≠0->u≠b:=fun u d e=>d (e▸C);have H:=ll hk.c B;have w:∀n:Int,clI n f=true->(∀i,clI n (p.s i)=false)∧∃m:Nat,n=m∧p.k m=0:=fun n d=>by
  obtain⟨e1,e2,I⟩:=iF.1 d;obtain⟨m,rfl⟩:∃m:Nat,n=m:=⟨n.toNat,by have:=H.b;omega⟩
  exact⟨(F e1 m d).2,m,rfl,(F e1 m d).1⟩
 refine⟨fun j=>if j=b then (if f 6= -1 then 0 else r (f 6).toNat+1) else r j,fun j a=>?_,fun j a=>?_,fun j a=>?_,fun j=>?_,fun j a=>?_,fun n i j hi a=>?_,fun n t=>?_,fun n t i=>?_,fun i d l g c=>?_⟩
 ·rw[S] at a ⊢;by_cases e:j=b
  ·rw[af e] at a;exact absurd a B
  ·rw[ae e] at a ⊢;exact h.em j a
 ·rw[S] at a;split at a
  ·rename_i e;rw[e];exact t
  ·exact h.nd j a
 ·rw[S] at a ⊢;by_cases e:j=b
  ·rw[af e];exact⟨hk.c,hk.le,hk.is⟩
  ·rw[ae e] at a ⊢;have:=h.key j a;exact⟨this.c,this.le,this.is⟩
 ·rw[S];by_cases e:j=b
  ·rw[af e];rcases v with v|⟨u,d,l,g,o⟩
   ·exact .inl v
   ·refine .inr ⟨u,d,by rw[au];exact l,by rw[S,ae (q u g)];exact g,by rw[S,ae (q u g)];exact o,?_⟩;rw[ae (q u g),af e,ae oA,d,ag];omega
  ·rw[ae e];rcases h.up j with d|⟨u,d,l,g,o,z⟩
   ·exact .inl d
   ·refine .inr ⟨u,d,by rw[au];exact l,by rw[S,ae (q u g)];exact g,by rw[S,ae (q u g)];exact o,?_⟩;rw[ae (q u g),ae e];exact z
 ·rw[S] at a;show _<nfl (p.DZ.set b f)
  rw[zj E C B];by_cases e:j=b
  ·rw[af e];rcases v with v|⟨u,d,l,g,o⟩
   ·rw[af v];omega
   ·rw[ae oA,d,ag];have:=h.rk u g;omega
  ·rw[ae e] at a ⊢;have:=h.rk j a;omega
 ·rw[S] at hi a;by_cases x:i=b<;>by_cases y:j=b
  ·omega
  ·rw[af x] at hi;rw[ae y,(w n hi).1 j] at a
   cases a
  ·rw[af y] at a;rw[ae x,(w n a).1 i] at hi
   cases hi
  ·rw[ae x] at hi;rw[ae y] at a;exact h.one n i j hi a
 ·obtain⟨i,d,l⟩:=h.op n t;refine⟨i,by rw[au];exact d,?_⟩;rw[S,ae (q i (gx.1 l).1)];exact l
 ·rw[S];split
  ·refine Cf ?_
   cases hx:clI (n:Int) f with
   |false=>rfl
   |true=>
    obtain⟨_,m,g,o⟩:=w n hx;obtain rfl:n=m:=oA;exact absurd o t
  ·exact h.us n t i
 ·rw[S] at d l g ⊢;rw[S];by_cases e:i=b
  ·rw[af e] at d l g ⊢;split
   ·cases hx:clI (f 1) f with
    |false=>rfl
    |true=>exact absurd (iF.1 hx).1 l
   ·exact G l g c
  ·rw[ae e] at d l g ⊢;split
   ·cases hx:clI (p.s i 1) f with
    |false=>rfl
    |true=>
     obtain⟨_,m,o,z⟩:=w _ hx;rcases (h.key i d).is with A|A
     ·exact absurd A l
     ·obtain⟨m2,J,_,D⟩:=eU A;obtain rfl:m=m2:=oA;rw[z] at D;exact absurd D.symm d
   ·exact h.gp i d l g c
theorem vt:∀x y:Fin 8,anB (bits .and .i64 (x.val:Int) (y.val:Int)) (x.val:Int)=0∧0<=bits .and .i64 (x.val:Int) (y.val:Int)∧bits .and .i64 (x.val:Int) (y.val:Int)<=7:=ay oK
theorem Ak {x y:Int} (a:0<=x∧x<=7) (b:0<=y∧y<=7):anB (bits .and .i64 x y) x=0∧0<=bits .and .i64 x y∧bits .and .i64 x y<=7:=by
 have:=vt ⟨x.toNat,oA⟩ ⟨y.toNat,oA⟩;rw[show (((⟨x.toNat,oA⟩:Fin 8).val:Nat):Int)=x by simp;omega,show (((⟨y.toNat,oA⟩:Fin 8).val:Nat):Int)=y by simp;omega] at this;exact this
