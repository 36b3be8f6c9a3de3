/- Qap -/
import Derived.Test.YtnccmdndkmmhcaaGreatDoorQao
set_option maxRecDepth 100000
set_option maxHeartbeats 16000000
namespace Go.Proofs.YtnccmdndkmmhcaaGreatDoor
namespace Wd
open Go.RowKit Mem Bw Nums Mmu
def fro (S:List (Nat->Int)) (a:Int):Int:=if 0<=a then (S.getD a.toNat eS) 6 else -1
def itf (S:List (Nat->Int)):Nat->Int->Int
 |0,a=>a
 |n+1,a=>itf S n (fro S a)
def UnS (S:List (Nat->Int)) (t:Nat) (a:Int):Prop:=∃n,itf S n a=t
theorem xi (S:List (Nat->Int)):∀n,itf S n (-1)= -1
 |0=>rfl
 |n+1=>xi S n
theorem yH {S:List (Nat->Int)} {t:Nat}:¬UnS S t (-1):=fun ⟨n,h⟩=>by
 rw[xi] at h;omega
theorem uJ {S:List (Nat->Int)} {t:Nat}:UnS S t t:=⟨0,rfl⟩
theorem uK {S:List (Nat->Int)} {t:Nat} {a:Int} (h:a≠t):UnS S t a↔UnS S t (fro S a):=
 ⟨fun ⟨n,e⟩=>by
  cases n with
  |zero=>exact absurd e h
  |succ n=>exact⟨n,e⟩,fun ⟨n,e⟩=>⟨n+1,e⟩⟩
structure Up (r:Nat->Nat) (S:List (Nat->Int)):Prop where
 em:∀i,(S.getD i eS) 0=0->(S.getD i eS) 6= -1
 fr:∀i,(S.getD i eS) 6= -1∨∃u:Nat,(S.getD i eS) 6=u∧u<S.length∧r u<r i
 bd:∀i,r i<=S.length+1
theorem uI {r:Nat->Nat} {S:List (Nat->Int)} (h:Up r S) {t i:Nat} (a:UnS S t (fro S i)):(S.getD i eS) 0≠0:=fun e=>by
 have b:fro S i= -1:=by
  unfold fro;rw[ag oA,ah];exact h.em i e
 rw[b] at a;exact yH a
def rkU (p:PW):Nat->Int->Nat
 |0,_=>0
 |n+1,a=>if fN p a then 1+rkU p n ((p.IA.getD a.toNat eS) 6) else 0
theorem FN (p:PW):∀(n:Nat) (a:Int),rkU p n a<=n
 |0,_=>aq _
 |n+1,a=>by
  rw[rkU];split
  ·have:=FN p n ((p.IA.getD a.toNat eS) 6);omega
  ·omega
theorem yh {p:PW}:∀(n:Nat) (a:Int),fN p (up p n a)=false->∀m,n<=m->rkU p m a=rkU p n a
 |0,a,h,m,_=>by
  have c:fN p a=false:=h
  cases m with
  |zero=>rfl
  |succ m=>
   show (if fN p a then 1+rkU p m ((p.IA.getD a.toNat eS) 6) else 0)=0
   rw[c];rfl
 |n+1,a,h,m,hm=>by
  cases m with
  |zero=>omega
  |succ m=>
   rw[rkU,rkU]
   cases hs:fN p a with
   |false=>rfl
   |true=>
    obtain⟨j,rfl,b⟩:=fT hs;rw[Bl b] at h;rw[ah,gK b,yh n (p.IA[j] 6) h m oA]
theorem tM {S:List (Nat->Int)} {i:Nat} (h:¬i<S.length):S.getD i eS=eS:=by
 rw[aa,aK oA];rfl
theorem yu {p:PW} (h:Snd p):∃r,Up r p.IA:=by
 refine⟨fun i=>rkU p (p.IA.length+1) i,fun i h0=>?_,fun i=>?_,fun i=>FN p _ _⟩
 all_goals
  by_cases hi:i<p.IA.length
  rotate_left
  ·rw[tM hi];first|rfl|exact .inl rfl
  have b:bsB p (p.kinds.getD (i/16) 0) p.IA[i]=false:=h.b3 i hi;unfold bsB at b
 ·rw[gK hi] at h0 ⊢
  cases hz:zkB p.IA[i] with
  |true=>rw[hz,ag rfl] at b;simpa using b
  |false=>
   rw[hz,ae oD] at b;simp only[cS,am] at b;have c:=b.1.1.2;unfold opB at c;simp only[am,bu] at c;have hk:=c.1.1;unfold kc at hk;rw[h0] at hk;have:zkB p.IA[i]=true:=az ⟨h0,Classical.byContradiction fun f=>by rw[KP.En f] at hk;cases hk⟩;rw[hz] at this
   cases this
 ·rw[gK hi]
  cases hz:zkB p.IA[i] with
  |true=>rw[hz,ag rfl] at b;exact .inl (by simpa using b)
  |false=>
   rw[hz,ae oD] at b;simp only[cS,am,dF] at b;obtain⟨⟨-,a⟩,e⟩:=b;unfold mdB at a;rw[bZ] at a;rcases a with a|a
   ·exact .inl (eq_of_beq a)
   ·rw[am] at a;obtain⟨u,d,hl⟩:=fT a.1;refine .inr ⟨u,d,hl,?_⟩;rw[d] at e;show rkU p (p.IA.length+1) u<rkU p (p.IA.length+1) i
    rw[yh p.IA.length u e (p.IA.length+1) oA,rkU,show fN p (i:Int)=true from az oA,ag rfl,ah,gK hi,d];omega
def Sl (a b:List (Nat->Int)):Prop:=a.length=b.length∧∀i,(a.getD i eS) 0=(b.getD i eS) 0∨(a.getD i eS) 0=0
theorem Sl.refl (a:List (Nat->Int)):Sl a a:=⟨rfl,fun _=>.inl rfl⟩
theorem Sl.trans {a b c:List (Nat->Int)} (h:Sl a b) (k:Sl b c):Sl a c:=⟨h.1.trans k.1,fun i=>by
 rcases h.2 i with e|e
 ·rw[e];exact k.2 i
 ·exact .inr e⟩
theorem wV (s:Nat) (x:Int):nA s x eS=eS:=ae (show ¬(-1:Int)=s by omega)
theorem nM (p:PW) (s i:Nat):(drA p s).IA.getD i eS=if i=s then eS else nA s ((p.IA.getD s eS) 6) (p.IA.getD i eS):=by
 show (List.map (nA s ((p.IA.getD s eS) 6)) (p.IA.set s eS)).getD i eS=_
 rw[aa,cZ,List.getElem?_set];by_cases e:i=s
 ·subst e;rw[ag rfl,ag rfl];split
  ·exact wV i _
  ·rfl
 ·rw[ae e,ae (fun h=>e h.symm),aa (l:=p.IA) (i:=i)]
  cases p.IA[i]? with
  |none=>exact (wV s _).symm
  |some f=>rfl
theorem Er {r:Nat->Nat} {p:PW} {s:Nat} (h:Up r p.IA):Up r (drA p s).IA:=by
 have hl:(drA p s).IA.length=p.IA.length:=by show (List.map _ _).length=_;rw[bO,au]
 refine⟨fun i=>?_,fun i=>?_,by rw[hl];exact h.bd⟩<;>rw[nM]
 ·split
  ·exact fun _=>rfl
  ·unfold nA;split
   ·rename_i e;intro h0;have a:=h.em i h0;rw[e] at a;omega
   ·exact h.em i
 ·rw[hl];split
  ·exact .inl rfl
  ·unfold nA;split
   ·rename_i e;show (p.IA.getD s eS) 6= -1∨∃u:Nat,(p.IA.getD s eS) 6=u∧u<p.IA.length∧r u<r i
    rcases h.fr i with a|⟨u,a,f,g⟩
    ·rw[e] at a;omega
    ·have d:u=s:=by rw[e] at a;omega
     subst d;rcases h.fr u with b|⟨v,b,c,j⟩
     ·exact .inl b
     ·exact .inr ⟨v,b,c,oA⟩
   ·exact h.fr i
theorem GC (p:PW) (s:Nat):Sl (drA p s).IA p.IA:=by
 refine⟨by show (List.map _ _).length=_;rw[bO,au],fun i=>?_⟩;rw[nM];split
 ·exact .inr rfl
 ·unfold nA;split
  ·exact .inl rfl
  ·exact .inl rfl
theorem tD (p:PW) (t:Nat):(etP p t).IA=p.IA:=by
 unfold etP;split<;>rfl
theorem tA (p:PW) (f:Nat):(dsP p f).IA=p.IA:=by
 show ((p.lines.getD f []).foldl ds1 p).IA=p.IA
 rw[fW (p.lines.getD f []) p]
theorem wi {r:Nat->Nat} {dr:PW->Nat->PW} (b:∀p s,Up r p.IA->Up r (dr p s).IA∧Sl (dr p s).IA p.IA) {f:Nat}:∀(a:Nat) (p:PW),Up r p.IA->Up r (daF dr f a p).IA∧Sl (daF dr f a p).IA p.IA
 |0,p,h=>by rw[gU];exact⟨h,Sl.refl _⟩
 |a+1,p,h=>by
  rw[gT];split
  ·exact wi b a p h
  ·obtain⟨c,d⟩:=b p (f*16+a) h;obtain⟨e,g⟩:=wi b (f:=f) a _ c;exact⟨e,g.trans d⟩
theorem nv {r:Nat->Nat}:∀(m:Nat) (p:PW) (s:Nat),Up r p.IA->Up r (drF m p s).IA∧Sl (drF m p s).IA p.IA
 |0,p,s,h=>⟨h,Sl.refl _⟩
 |m+1,p,s,h=>by
  have a:=Er (s:=s) h;have b:=GC p s;unfold drF;split
  ·exact⟨a,b⟩
  generalize (p.IA.getD s eS) 0=k;generalize ((p.IA.getD s eS) 1).toNat=f;generalize drA p s=q at a b ⊢
  suffices hx:Up r (lsF (drF m) q k f).IA∧Sl (lsF (drF m) q k f).IA q.IA from⟨hx.1,hx.2.trans b⟩
  unfold lsF;split
  ·exact⟨a,Sl.refl _⟩
  split
  ·exact⟨a,Sl.refl _⟩
  split
  ·exact wi (nv m) 16 (fgP 11 (nkP q f) f) a
  split
  ·rw[tD];exact⟨a,Sl.refl _⟩
  ·show Up r (dsP (nkP q f) f).IA∧Sl (dsP (nkP q f) f).IA q.IA
   rw[tA];exact⟨a,Sl.refl _⟩
theorem GV {m:Nat} {r:Nat->Nat} {q:PW} (a:Up r q.IA) (k:Int) (f:Nat):Sl (lsF (drF m) q k f).IA q.IA:=by
 unfold lsF;split
 ·exact Sl.refl _
 split
 ·exact Sl.refl _
 split
 ·exact (wi (nv m) 16 (fgP 11 (nkP q f) f) a).2
 split
 ·rw[tD];exact Sl.refl _
 ·show Sl (dsP (nkP q f) f).IA q.IA
  rw[tA];exact Sl.refl _
theorem sa {r:Nat->Nat} {m:Nat} {p:PW} {s:Nat} (h:Up r p.IA):((drF (m+1) p s).IA.getD s eS) 0=0:=by
 have h0:((drA p s).IA.getD s eS) 0=0:=by rw[nM,ag rfl];rfl
 unfold drF;split
 ·exact h0
 ·rcases (GV (m:=m) (Er (s:=s) h) ((p.IA.getD s eS) 0) ((p.IA.getD s eS) 1).toNat).2 s with e|e
  ·rw[e];exact h0
  ·exact e
def neS (S:List (Nat->Int)):Nat:=(List.range S.length).countP fun i=>(S.getD i eS) 0 !=0
theorem pZ {α:Type} (P Q:α->Bool):∀l:List α,(∀x∈l,P x=true->Q x=true)->l.countP P<=l.countP Q∧∀y∈l,P y=false->Q y=true->l.countP P<l.countP Q
 |[],_=>⟨aq _,fun _ h=>by cases h⟩
 |x::l,h=>by
  obtain⟨g,f⟩:=pZ P Q l (fun y c=>h y (List.mem_cons_of_mem _ c));have d:=h x (cC ..);rw[List.countP_cons,List.countP_cons];refine⟨?_,fun y c a b=>?_⟩
  ·cases e:P x with
   |false=>simp only[Bool.false_eq_true,if_false];split<;>omega
   |true=>rw[d e];simp only[if_true];omega
  ·rcases bL.1 c with rfl|c
   ·rw[a,b];simp only[Bool.false_eq_true,if_false,if_true];omega
   ·have:=f y c a b
    cases e:P x with
    |false=>simp only[Bool.false_eq_true,if_false];split<;>omega
    |true=>rw[d e];simp only[if_true];omega
theorem Fu {a b:List (Nat->Int)} (h:Sl a b) {s:Nat} (f:(a.getD s eS) 0=0) (c:(b.getD s eS) 0≠0):neS a<neS b:=by
 unfold neS;rw[h.1];refine (pZ _ _ (List.range b.length) fun i _ hi=>?_).2 s (List.mem_range.2 ?_) (by rw[f];rfl) (bne_iff_ne.2 c)
 ·rcases h.2 i with e|e
  ·rw[<-e];exact hi
  ·rw[e] at hi;cases hi
 ·by_cases d:s<b.length
  ·exact d
  ·rw[tM d] at c;exact absurd rfl c
theorem xh {r:Nat->Nat} {S:List (Nat->Int)} (h:Up r S):∀(n:Nat) (u:Nat),r u<n->itf S n u= -1
 |0,_,hr=>absurd hr (ex _)
 |n+1,u,hr=>by
  show itf S n (fro S u)= -1
  have e:fro S u=(S.getD u eS) 6:=by unfold fro;rw[ag oA,ah]
  rw[e];rcases h.fr u with a|⟨v,a, -,b⟩
  ·rw[a];exact xi S n
  ·rw[a];exact xh h n v oA
def unB (S:List (Nat->Int)) (t i:Nat):Bool:=(List.range (S.length+3)).any fun n=>itf S n (fro S i)==(t:Int)
theorem lh {r:Nat->Nat} {S:List (Nat->Int)} (h:Up r S) (t i:Nat):unB S t i=true↔UnS S t (fro S i):=by
 unfold unB;rw[List.any_eq_true];refine⟨fun ⟨n,_,e⟩=>⟨n,eq_of_beq e⟩,fun ⟨n,e⟩=>⟨n,List.mem_range.2 ?_,bu.2 e⟩⟩;refine Nat.lt_of_not_le fun c=>?_;have b:=h.bd i;have a:itf S n (fro S i)= -1:=xh h (n+1) i oA;rw[a] at e;omega
def luF (S:List (Nat->Int)) (t:Nat):Nat->Int
 |0=> -1
 |n+1=>if unB S t n=true then n else luF S t n
def mdL (S:List (Nat->Int)) (t n:Nat):List Int:=((List.range n).filter (unB S t)).map fun i:Nat=>(i:Int)
theorem tY (S:List (Nat->Int)) (t n:Nat):mdL S t (n+1)=mdL S t n++if unB S t n=true then [(n:Int)] else []:=by
 unfold mdL;rw[List.range_succ,eU,eA,List.filter_cons];split<;>rfl
theorem jW (S:List (Nat->Int)) (t:Nat):∀n,(mdL S t n=[]∧luF S t n= -1)∨∃(L:List Int) (j:Nat),mdL S t n=L++[(j:Int)]∧luF S t n=j∧j<n∧unB S t j=true
 |0=>.inl ⟨rfl,rfl⟩
 |n+1=>by
  rw[tY,luF]
  cases e:unB S t n with
  |true=>exact .inr ⟨mdL S t n,n,by rw[ag rfl],by rw[ag rfl],oA,e⟩
  |false=>
   rw[ae oD,ae oD,dT];rcases jW S t n with h|⟨L,j,a,b,d,c⟩
   ·exact .inl h
   ·exact .inr ⟨L,j,a,b,oA,c⟩
def rvN (dr:PW->Nat->PW) (t:Nat):Nat->PW->PW
 |0,p=>p
 |n+1,p=>if luF p.IA t p.IA.length= -1 then p else rvN dr t n (dr p (luF p.IA t p.IA.length).toNat)
theorem ld {dr:PW->Nat->PW} {t:Nat} {p:PW} (h:luF p.IA t p.IA.length= -1):∀n,rvN dr t n p=p
 |0=>rfl
 |n+1=>by rw[rvN,ag h]
theorem vx {dr:PW->Nat->PW} {t n j:Nat} {p:PW} (h:luF p.IA t p.IA.length=j):rvN dr t (n+1) p=rvN dr t n (dr p j):=by
 rw[rvN,ae oA,h,ah]
theorem sy {r:Nat->Nat} {S:List (Nat->Int)} (a:Up r S) {t n j:Nat} (h:luF S t n=j):j<n∧(S.getD j eS) 0≠0:=by
 rcases jW S t n with ⟨-,e⟩|⟨-,i, -,e,b,c⟩
 ·omega
 ·have:i=j:=oA;subst this;exact⟨b,uI a ((lh a t i).1 c)⟩
theorem Di {r:Nat->Nat} {m t n j:Nat} {q P:PW} (a:Up r q.IA) (b:luF q.IA t q.IA.length=j) (e:neS q.IA<=n) (d:rvN (drF (m+1)) t n q=P):
  neS (drF (m+1) q j).IA<neS q.IA∧∃k,neS (drF (m+1) q j).IA<=k∧rvN (drF (m+1)) t k (drF (m+1) q j)=P:=by
 have c:=Fu (nv (m+1) q j a).2 (sa a) (sy a b).2
 cases n with
 |zero=>omega
 |succ n=>exact⟨c,n,oA,by rw[<-d,vx b]⟩
theorem H7 {dr:PW->Nat->PW} (a:∀p s X,dr (i7 p X) s=i7 (dr p s) X) {t:Nat}:∀(n:Nat) (p:PW) (X:List (List Ent)),rvN dr t n (i7 p X)=i7 (rvN dr t n p) X
 |0,_,_=>rfl
 |n+1,p,X=>by
  have e:luF (i7 p X).IA t (i7 p X).IA.length=luF p.IA t p.IA.length:=rfl;rw[rvN,rvN,e];split
  ·rfl
  ·rw[a,H7 a n]
theorem qZ {r:Nat->Nat} {m t:Nat}:∀(n:Nat) (p:PW),nds p<m->Inv p->Up r p.IA->Inv (rvN (drF m) t n p)∧(rvN (drF m) t n p).ID=p.ID
 |0,p,_,h,_=>⟨h,rfl⟩
 |n+1,p,hn,h,hu=>by
  rcases jW p.IA t p.IA.length with ⟨-,e⟩|⟨-,j, -,e, -, -⟩
  ·rw[ld e];exact⟨h,rfl⟩
  ·obtain⟨c,h0⟩:=sy hu e;obtain⟨i1,i2, -⟩:=tx m p j hn h c h0;obtain⟨a,b⟩:=qZ (m:=m) (t:=t) n (drF m p j) oA i1 (nv m p j hu).1;rw[vx e];exact⟨a,b.trans (jS m p j)⟩
theorem uq {m:Nat} {p:PW} {s:Nat} (a:nds p<m) (hi:Inv p) (c:TL p) (b:s<p.IA.length) (h0:(p.IA.getD s eS) 0≠0):(drR m p s).IA=(drF m p s).IA:=by
 obtain⟨g,e, -⟩:=pF m p s a hi c b h0;rw[e];rfl
theorem Hm {r:Nat->Nat} {m t:Nat}:∀(n:Nat) (p:PW),nds p<m->Inv p->TL p->Up r p.IA->∃g,Gd p (rvN (drF m) t n p) (rvN (drR m) t n p) g
 |0,p,_,_,_,_=>⟨_,Gd.same rfl rfl rfl⟩
 |n+1,p,hn,hi,ht,hu=>by
  rcases jW p.IA t p.IA.length with ⟨-,e⟩|⟨-,j, -,e, -, -⟩
  ·rw[ld e,ld e];exact⟨_,Gd.same rfl rfl rfl⟩
  obtain⟨a,h0⟩:=sy hu e;rw[vx e,vx e];have k:=uq hn hi ht a h0;obtain⟨f,l,l1,a1,b1⟩:=pF m p j hn hi ht a h0;obtain⟨i1,i2, -⟩:=(jq m).1 p j hn hi a h0;obtain⟨i,d,l2,b,b2⟩:=Hm (m:=m) (t:=t) n (drR m p j) oA i1 ((jq m).2 p j hn hi a h0 ht) (by rw[k];exact (nv m p j hu).1);rw[l] at d l2 b b2 ⊢;rw[H7 (F9 m)] at d l2 b b2;refine⟨fun e=>i e&&f e,?_,?_,fun e h=>?_,fun e h c=>?_⟩
  ·rw[d, <-oU];rfl
  ·exact Lo.trans (q:=drF m p j) ⟨l2.kinds,l2.len,l2.IE⟩ l1
  ·rw[am];exact⟨b e h,a1 e (l2.told h)⟩
  ·rw[am] at c;exact b2 e (b1 e h c.2) c.1
theorem FP {r:Nat->Nat} {m t n:Nat} {p:PW} (d:nds p<m) (hi:Inv p) (b:TL p) (f:Up r p.IA):TL (rvN (drF m) t n p):=by
 obtain⟨g, -,lo, -, -⟩:=Hm (t:=t) n p d hi b f;have c:=(qZ (t:=t) n p d hi f).2;refine⟨by rw[c];exact b.len,by rw[c];exact b.Jm,fun z j=>?_⟩;obtain⟨i,h⟩:=List.mem_iff_getElem?.1 j;have e:(rvN (drF m) t n p).IE.getD i 0=z:=by rw[aa,h];rfl
 rcases lo.IE i with a|a
 ·rw[e] at a;rw[a]
  cases e2:p.IE[i]? with
  |none=>rw[aa,e2];exact⟨oD,oD⟩
  |some y=>rw[aa,e2];exact b.word y (List.mem_iff_getElem?.2 ⟨i,e2⟩)
 ·rw[e] at a;rw[a];exact⟨oD,oD⟩
theorem Hn {r:Nat->Nat} {p:PW} (d:p.Fits) (h:Snd p) {m t n:Nat} (c:nds p<m) (f:Up r p.IA):rvN (drR m) t n p=fgt (rvN (drF m) t n p):=by
 obtain⟨g,e,lo,a,b⟩:=Hm (t:=t) n p c (iz d h) (ot h) f;rw[e];unfold fgt i7;rw[(qZ (t:=t) n p c (iz d h) f).2];have e:p.ID.map (List.filter g)=p.ID.map (dx fun e=> !d7 (rvN (drF m) t n p) e):=eI fun l hl=>by
  unfold dx;refine List.filter_congr fun e j=>?_;have i:=(lX h hl).2 e j;rw[Bool.not_not]
  cases e1:d7 (rvN (drF m) t n p) e with
  |true=>exact a e e1
  |false=>
   cases e2:g e with
   |false=>rfl
   |true=>rw[b e i e2] at e1;cases e1
 rw[e]
def rJ (p:PW) (a:Int):PW:=if rK p=true∧fF p a=0 then fgt (rvN (drF (nds p+1)) a.toNat (neS p.IA) p) else p
theorem yi {p:PW} {j:Nat} (h:Snd p) (h0:fF p j=0):rJ p j=fgt (rvN (drF (nds p+1)) j (neS p.IA) p):=by
 unfold rJ;rw[ag ⟨uA h,h0⟩,ah]
theorem Hh {p:PW} (d:p.Fits) (hl:∀l∈p.ID,l.length<=100) (a:Int):(rJ p a).Fits∧∀l∈(rJ p a).ID,l.length<=100:=by
 by_cases c:rK p=true∧fF p a=0
 ·obtain⟨j,rfl,m,h0⟩:=oX c.2;have b:=oq c.1;rw[yi b c.2];obtain⟨r,g⟩:=yu b;have hi:=(qZ (t:=j) (neS p.IA) p (dL _) (iz d b) g).1;have k:=FP (t:=j) (n:=neS p.IA) (dL _) (iz d b) (ot b) g;have f:=hi.fits;refine⟨⟨f.IE,f.kinds,f.IA,f.IB,f.lines,f.line,f.bits,f.IC,f.ready,f.next,?_,f.IG⟩,fun l i=>?_⟩
  ·show (List.map _ _).length<=1000
   rw[bO];exact f.ID
  ·obtain⟨l0,h,rfl⟩:=List.mem_map.1 (show l∈(rvN (drF (nds p+1)) j (neS p.IA) p).ID.map _ from i);exact aD (dz ..) (k.len l0 h)
 ·have e:rJ p a=p:=by unfold rJ;rw[ae c]
  rw[e];exact⟨d,hl⟩
def mvP (p:PW) (a b:Int):PW:={p with IA:=hnd a b ((p.IA.set b.toNat (p.IA.getD a.toNat fv)).set a.toNat eS)}
theorem Eh {p:PW} {i j:Nat} (h:boE p i j=0):i≠j:=by
 intro e;subst e;unfold boE fF opE at h
 cases hs:fN p i with
 |false=>rw[hs] at h;simp at h
 |true=>
  rw[hs] at h;simp only[if_true,ah] at h;by_cases h0:(p.IA.getD i fv) 0=0
  ·rw[ag h0] at h;simp at h
  ·rw[ae h0,ag rfl,ae h0] at h;split at h<;>simp at h
theorem mO (a b:Int) (p:PW) (y:p.Fits) (hl:∀l∈p.ID,l.length<=100) (hs:Snd p) (W:World) (wb:Nat) (tag:Nat->Nat) (V:Nat->Value) (bt:cb W wb tag V p):
  Calls Tryz.prog 36 #[.pointer (some ⟨wb,0,none⟩),.int .i64 a,.int .i64 b] W fun x B=>x=.returned (.int .i64 (boE p a b))∧∃tag',Kt tag tag' W B∧(boE p a b=0->∃V',cb B wb tag' V' (mvP p a b))∧(boE p a b≠0->B=W):=by
 have t:=hid bt;have w:=hid (lS wb V p a b W (bt.view y hl) hs.lf.IA);have ad:=hid y.IA;have an:(p.IA.length:Int)<=1000:=by have:=y.IA;omega
 clear hs hl y bt;by_cases m:boE p a b=0
 rotate_left
 ·have J:=hid m;have ag:(boE p a b !=0)=true:=by simpa using m
  generalize boE p a b=x at w J ag ⊢;clear m;go_enter Tryz.func36,Tryz.ntmps36
  go_wp2_with fail
  refine w.mono ?_;rintro q w1 ⟨rfl,rfl⟩;go_wp2_with fail
  go_ret
  exact⟨rfl,tag,en _ _,fun h=>(absurd h J),fun _=>rfl⟩
 obtain⟨i,j,rfl,rfl,hi,hj⟩:=Eg m;have aj:=Eh m;have I:=hid m;rw[m] at w;have al:(i:Int)<(p.IA.length:Int):=oA;have am:(j:Int)<(p.IA.length:Int):=oA;obtain⟨g,cap,e2⟩:=t.o.IA.form oA;obtain⟨s,D⟩:∃s,p.IA[i]=s:=⟨_,rfl⟩
 have ae:=hid (show mvP p i j={p with IA:=hnd i j ((p.IA.set i eS).set j s)} by unfold mvP;rw[ah,ah,aa,ac hi,aR,D,List.set_comm _ _ (fun e=>aj e.symm)]);have c2:W.cell? ⟨wb,2,none⟩=some (.slice (some ⟨g,0,none⟩) p.IA.length cap):=by rw[ai t.r (k:=2) rfl,e2]
 have M:=hid (show W.rangeAt g (i*7) (cf 7 s) from by
  have c:=t.o.IA;rw[e2] at c;have C:=c.range hi;rw[D] at C;exact C)
 have F:=hid (bal (af W.heap.size W) (.cells zV 34));have A:=hid (aP W zV 34 W.heap.size 7 rfl oD);have H:=hid (bR F (aq _) (cf 7 s) 0);have RX:=hid (World.rangeAt_setCells_same (W.alloc (.cells zV 34)) W.heap.size 0 (cf 7 s) (by rw[ay];exact A));clear m D;go_enter Tryz.func36,Tryz.ntmps36
 go_wp2_with fail
 refine w.mono ?_;rintro q w1 ⟨rfl,rfl⟩;go_upto_region 5 with (first|((with_reducible refine gld 34 ?_);refine yL rfl _ rfl g (i*7) rfl (cf 7 s) (ay _ _) M ?_)|((with_reducible refine gst 34 ?_);refine ni rfl _ _ rfl W.heap.size 0 rfl (cf 7 s) rfl (ay _ _) (bQ _ _) A ?_))
 generalize World.setCells _ _ _ _=n at*;clear c2 A F M;have u:=hid (t.below H);have c2:n.cell? ⟨wb,2,none⟩=some (.slice (some ⟨g,0,none⟩) p.IA.length cap):=by rw[ai u.r (k:=2) rfl,e2]
 have O:=hid (show n.there g (i*7) 7 from by
  have c:=u.o.IA;rw[e2] at c;exact c.there (i*7) 7 oA)
 obtain⟨b2,k2⟩:=u.IV e2 hi eS;have E:=hid b2;have K2:=hid (show Kt tag tag W (n.setCells g (i*7) (cf 7 eS)) from Kt.trans (.below H) k2);have Z:V 2=.slice (some ⟨g,0,none⟩) (p.IA.set i eS).length cap:=by rw[au];exact e2
 have d2:(n.setCells g (i*7) (cf 7 eS)).cell? ⟨wb,2,none⟩=some (.slice (some ⟨g,0,none⟩) p.IA.length cap):=by rw[ai b2.r (k:=2) rfl,e2]
 have ab:g≠W.heap.size:=fun e=>by
  have c:=t.o.IA;rw[e2] at c;have:=(c.1.lt g rfl).2;omega
 have z:=hid (show (n.setCells g (i*7) (cf 7 eS)).rangeAt W.heap.size 0 (cf 7 s) from fun k v hk=>by
  rw[gZ (fun e=>ab e.symm)];exact RX k v hk)
 have P:=hid (show (n.setCells g (i*7) (cf 7 eS)).there g (j*7) 7 from by
  have c:=b2.o.IA;simp only at c;rw[Z] at c;exact c.there (j*7) 7 (by rw[au];omega))
 clear b2 k2;go_upto_region 6 with (first|((with_reducible refine gst 34 ?_);refine ni rfl _ _ rfl g (i*7) rfl (cf 7 eS) rfl (ay _ _) (bQ _ _) O ?_))
 generalize World.setCells _ _ _ _=d at*;clear c2 O u;have G:Hid (Below d.heap.size d d.drew):=hid (aB d 1);have L:=hid (show d.drew.cell? ⟨wb,2,none⟩=some (.slice (some ⟨g,0,none⟩) p.IA.length cap)∧d.drew.rangeAt W.heap.size 0 (cf 7 s) from⟨d2,z.out⟩);obtain⟨b3,k3⟩:=(E.below G).IV Z (i:=j) (by show j<(p.IA.set i eS).length;rw[au];exact hj) s;have B3:=hid b3;have K3:=hid ((K2.trans (.below G)).trans k3);have Q:=hid (show d.drew.there g (j*7) 7 from P);have R:(d.drew.setCells g (j*7) (cf 7 s)).cell? ⟨wb,2,none⟩=some (.slice (some ⟨g,0,none⟩) p.IA.length cap):=by rw[ai b3.r (k:=2) rfl,e2]
 have N:=hid (show (d.drew.setCells g (j*7) (cf 7 s)).rangeAt W.heap.size 0 (cf 7 s) from fun k v hk=>by
  rw[gZ (fun e=>ab e.symm)];exact z k v hk)
 clear b3 k3;refine wp_region_held_drew (S:=fun X=>X.cell? ⟨wb,2,none⟩=some (.slice (some ⟨g,0,none⟩) p.IA.length cap)∧X.rangeAt W.heap.size 0 (cf 7 s)) oK L (fun U=>?_);have f:=hid U;clear U;refine tk 0 (.pointer (some ⟨wb,0,none⟩)) rfl f ?_;simp only[jj];refine tk 1 (.pointer (some ⟨wb,0,none⟩)) rfl f ?_;simp only[jj];refine tk 2 (.pointer (some ⟨wb,2,none⟩)) rfl f ?_;simp only[jj];refine tg 3 (.slice (some ⟨g,0,none⟩) p.IA.length cap) rfl (Or.inl ⟨oR,fun W h=>by have C:=h.1;clear h;go_simp⟩) f ?_;simp only[jj];refine tk 4 (.int .i64 j) rfl f ?_;simp only[jj];refine tg 5 (.agg (cf 7 s).toArray) rfl (yieldsIf_load_mid oR _ _ rfl _ _ rfl (cf 7 s) _ (fun _ h=>h.2) Tryz.underlying34 rfl (by rw[ay];exact lC)) f ?_;simp only[jj];refine tk 6 (.pointer (some ⟨g,j*7,none⟩)) rfl f ?_;simp only[jj];refine wpAnyH_ready (rs:=[7]) oK oS (AllReadyH.cons rfl (fun K Y=>?_) AllReadyH.nil);refine wp_store_mid 34 _ _ rfl g (j*7) (cf 7 s).toArray rfl rfl Q (by rw[lC];rfl) (all_oneCell_toArray (bQ 7 s)) ?_;generalize World.setCells _ _ _ _=W3 at*;refine Y _ _ ⟨R,N.out⟩ (fun _=>?_);clear Y K f
 try simp only[Act.put]
 refine dc oK ?_ _;have HH:=hid (uH wb tag V {p with IA:=(p.IA.set i eS).set j s} i j W3 B3 (by show ((p.IA.set i eS).set j s).length<=1000;rw[au,au];exact ad));clear L P Q E z N d2 R;go_wp2_with fail
 refine HH.mono ?_;rintro q w4 ⟨rfl,T,c⟩;have H1:=hid T;have H2:=hid c;clear T c;go_wp2_with fail
 go_ret
 exact⟨by rw[I.out];rfl,tag,K3.trans H2,fun _=>⟨V,by rw[ae.out];exact H1⟩,fun h=>absurd (by first|rfl|assumption|exact I) h⟩
structure Ky (D:Nat->Prop) (p:PW) (r:Nat->Nat):Prop where
 em:∀i,p.s i 0=0->(∀k,k<6->p.s i k=0)∧p.s i 6= -1
 nd:∀i,p.s i 0≠0->p.k (i/16)=5∨D (i/16)
 key:∀i,p.s i 0≠0->vK p (p.s i)
 up:∀i,p.s i 6= -1∨∃u:Nat,p.s i 6=u∧p.s u 0≠0∧cmB (p.s u) (p.s i)=true∧r u<r i
 one:∀(n:Int) i j,clI n (p.s i)=true->clI n (p.s j)=true->i=j
 us:∀n,p.k n≠0->∀i,un n (p.s i)=false
 gp:∀i,p.s i 0≠0->p.s i 0≠1->p.s i 6= -1->∀c,clI (p.s i 1) (p.s c)=false
def Op (p:PW):Prop:=∀n,p.k n≠0->∃i,opn n (p.s i)=true
def ksP (K:List Int) (S:List (Nat->Int)):PW:=⟨[],K,S,[],[],[],[],[],[],[],0⟩
theorem Ky.to {D:Nat->Prop} {p q:PW} {r:Nat->Nat} (h:Ky D p r) (e1:q.kinds=p.kinds) (e2:q.IA=p.IA):Ky D q r:=by
 have a:Ky D (ksP q.kinds q.IA) r:=by
  rw[e1,e2];exact⟨h.em,h.nd,fun i hi=>⟨(h.key i hi).c,(h.key i hi).le,(h.key i hi).is⟩,h.up,h.one,h.us,h.gp⟩
 exact⟨a.em,a.nd,fun i hi=>⟨(a.key i hi).c,(a.key i hi).le,(a.key i hi).is⟩,a.up,a.one,a.us,a.gp⟩
theorem Fw (S:List (Nat->Int)):nfl S=neS S:=by
 have e:(List.range S.length).map (fun i=>S.getD i eS)=S:=by
  apply List.ext_getElem
  ·simp
  ·intro i b a;simp[a]
 unfold nfl neS
 conv=>lhs;rw[<-e,List.countP_map]
 rfl
def rkC (p:PW) (r:Nat->Nat) (i:Nat):Nat:=(List.range p.IA.length).countP fun j=>p.s j 0 !=0&&decide (r j<r i)
theorem Ky.keys {p:PW} {r:Nat->Nat} (h:Ky (fun _=>False) p r) (g:Op p):Keys p (rkC p r):=by
 refine⟨h.em,fun i hi=>(h.nd i hi).elim id False.elim,h.key,fun i=>?_,fun i hi=>?_,h.one,fun n f=>?_,h.us,h.gp⟩
 ·rcases h.up i with c|⟨u,c,b,d,e⟩
  ·exact .inl c
  ·refine .inr ⟨u,c,rf b,b,d,(pZ _ _ _ fun x _ a=>?_).2 u (List.mem_range.2 (rf b)) ?_ ?_⟩
   ·rw[am] at a ⊢;exact⟨a.1,az (by have:=aA a.2;omega)⟩
   ·rw[aw oA,Bool.and_false]
   ·rw[az e,Bool.and_true];exact bne_iff_ne.2 b
 ·rw[Fw];refine (pZ _ _ _ fun x _ a=>?_).2 i (List.mem_range.2 (rf hi)) ?_ (bne_iff_ne.2 hi)
  ·exact (am _ _▸a:_∧_).1
  ·rw[aw oA,Bool.and_false]
 ·obtain⟨i,hi⟩:=g n f;exact⟨i,rf (gr.1 hi).1,hi⟩
theorem oI {n:Int} {f g:Nat->Int} (h0:f 0=g 0) (a:f 1=g 1) (b:f 2=g 2):clI n f=clI n g:=by unfold clI;rw[h0,a,b]
theorem jA {n:Int} {f g:Nat->Int} (h0:f 0=g 0) (a:f 1=g 1):opn n f=opn n g:=by unfold opn;rw[h0,a]
theorem Ct {f g:Nat->Int} (h:∀k,k<6->f k=g k):kc f=kc g:=by unfold kc;rw[h 0,h 1,h 2,h 3,h 4,h 5]<;>decide
theorem rW {a b f g:Nat->Int} (h:∀k,k<6->a k=f k) (k:∀k,k<6->b k=g k):cmB a b=cmB f g:=by
 unfold cmB;rw[h 0,h 1,h 3,h 4,h 5,k 0,k 1,k 4,k 5]<;>decide
theorem oJ {f s:Nat->Int} (h:cmB f s=true):s 0≠1:=fun e=>by
 unfold cmB at h;split at h
 ·rw[e] at h;cases h
 ·rename_i h2;simp only[am,bu] at h;exact h2 (h.1.1.1.symm.trans e)
structure Mv (p q:PW) (t:Nat->Nat):Prop where
 kd:q.kinds=p.kinds
 s:∀i,q.s i 0≠0->∀k,k<6->q.s i k=p.s (t i) k
 z:∀i,q.s i 0=0->(∀k,k<6->q.s i k=0)∧q.s i 6= -1
 i:∀i j,q.s i 0≠0->q.s j 0≠0->t i=t j->i=j
theorem Ky.mv {D:Nat->Prop} {p q:PW} {r r':Nat->Nat} {t:Nat->Nat} (h:Ky D p r) (m:Mv p q t)
  (nd:∀i,q.s i 0≠0->q.k (i/16)=5∨D (i/16))
  (up:∀i,q.s i 0≠0->q.s i 6= -1∨∃u:Nat,q.s i 6=u∧q.s u 0≠0∧cmB (q.s u) (q.s i)=true∧r' u<r' i)
  (gp:∀i,q.s i 0≠0->q.s i 0≠1->q.s i 6= -1->p.s (t i) 6= -1∨∀c,q.s c 0≠0->clI (p.s (t i) 1) (p.s (t c))=false):Ky D q r':=by
 have K:∀n,q.k n=p.k n:=fun n=>by show q.kinds.getD n 0=_;rw[m.kd]
 have n0:∀i,q.s i 0≠0->p.s (t i) 0≠0:=fun i hi=>by rw[<-m.s i hi 0 oD];exact hi
 have f:∀(n:Int) i,q.s i 0≠0->clI n (q.s i)=clI n (p.s (t i)):=fun n i hi=>oI (m.s i hi 0 oD) (m.s i hi 1 oD) (m.s i hi 2 oD);have c0:∀(n:Int) i,clI n (q.s i)=true->q.s i 0≠0:=fun n i hi=>by rw[(jf.1 hi).1];decide
 refine⟨m.z,nd,fun i hi=>?_,fun i=>?_,fun n i j hi o=>?_,fun n x i=>?_,fun i l v y c=>?_⟩
 ·have k:=h.key (t i) (n0 i hi);refine⟨(Ct (m.s i hi)).trans k.c,?_,?_⟩
  ·rw[m.s i hi 1 oD,m.s i hi 2 oD,m.kd];exact k.le
  ·rw[m.s i hi 1 oD,m.s i hi 0 oD];exact k.is.elim .inl fun e=>.inr (by unfold isB fI at e ⊢;rw[m.kd];exact e)
 ·by_cases e:q.s i 0=0
  ·exact .inl (m.z i e).2
  ·exact up i e
 ·have a:=c0 n i hi;have b:=c0 n j o;rw[f n i a] at hi;rw[f n j b] at o;exact m.i i j a b (h.one n _ _ hi o)
 ·rw[K] at x;by_cases e:q.s i 0=0
  ·exact F3 (by cases d:clI (n:Int) (q.s i) with|false=>rfl|true=>exact absurd e (c0 _ _ d))
  ·have:=h.us n x (t i);unfold un at this ⊢;rw[f _ _ e,m.s i e 1 oD,m.s i e 3 oD];exact this
 ·cases d:clI (q.s i 1) (q.s c) with
  |false=>rfl
  |true=>
   have w:=c0 _ _ d;rw[f _ _ w,m.s i l 1 oD] at d;rcases gp i l v y with g|g
   ·rw[h.gp (t i) (n0 i l) (by rw[<-m.s i l 0 oD];exact v) g (t c)] at d;cases d
   ·rw[g c w] at d;cases d
theorem so {a b:Int} {f:Nat->Int} {k:Nat} (hk:k<6):nA a b f k=f k:=by
 unfold nA;split
 ·unfold upd;rw[ae oA]
 ·rfl
theorem AU {a b:Int} {f:Nat->Int}:nA a b f 6=if f 6=a then b else f 6:=by
 unfold nA;split
 ·rfl
 ·rfl
theorem Ky.move {p:PW} {r:Nat->Nat} (h:Ky (fun _=>False) p r) {a b:Nat} (v:p.s a 0≠0) (H:b<p.IA.length) (y:p.s b 0=0) (J:p.k (b/16)=5) (M:Op p):Ky (fun _=>False) (mvP p a b) (fun i=>if i=b then r a else r i)∧Op (mvP p a b):=by
 have B:=rf v;have x:a≠b:=fun e=>v (e▸y);have S:∀i,(mvP p a b).s i=nA a b (if i=a then eS else if i=b then p.s a else p.s i):=fun i=>by
  show (List.map (nA a b) ((p.IA.set ((b:Int)).toNat (p.IA.getD ((a:Int)).toNat fv)).set ((a:Int)).toNat eS)).getD i eS=_
  rw[ah,ah,show p.IA.getD a fv=p.s a by
   show _=p.IA.getD a eS
   rw[aa,aa,ac B];rfl]
  rw[aa,cZ, <-dw H (p.s a) eS i, <-dw (l:=p.IA.set b (p.s a)) (by rw[au];exact B) eS eS i,aa]
  cases ((p.IA.set b (p.s a)).set a eS)[i]? with
  |none=>exact (ae (show ¬(-1:Int)=a by omega)).symm
  |some f=>rfl
 have L:∀i k,k<6->(mvP p a b).s i k=if i=a then 0 else if i=b then p.s a k else p.s i k:=fun i k hk=>by
  rw[S,so hk];split
  ·show (if k=6 then (-1:Int) else 0)=0
   rw[ae oA]
  ·split<;>rfl
 have w:∀i,(mvP p a b).s i 0≠0->i≠a:=fun i hi e=>hi (by rw[L i 0 oD,ag e]);have n0:∀i,i≠a->p.s i 0≠0->(mvP p a b).s i 0≠0:=fun i d m=>by
  rw[L i 0 oD,ae d];split
  ·exact v
  ·exact m
 have N:(mvP p a b).s b 0≠0:=by rw[L b 0 oD,ae (fun e=>x e.symm),ag rfl];exact v
 have six:∀i,i≠a->(mvP p a b).s i 6=if p.s (if i=b then a else i) 6=a then (b:Int) else p.s (if i=b then a else i) 6:=fun i hi=>by
  rw[S,ae hi,AU];split<;>rfl
 have c:∀i,i≠a->∀k,k<6->(mvP p a b).s i k=p.s (if i=b then a else i) k:=fun i hi k hk=>by
  rw[L i k hk,ae hi];split<;>rfl
 refine⟨h.mv (t:=fun i=>if i=b then a else i) ⟨rfl,fun i hi k hk=>c i (w i hi) k hk,fun i hi=>?_,fun i j hi I e=>?_⟩ (fun i hi=>?_) (fun i hi=>?_) (fun i d m o=>?_),fun n K=>?_⟩
 ·have F:i=a∨i≠b∧p.s i 0=0:=by
   by_cases e:i=a
   ·exact .inl e
   ·rw[L i 0 oD,ae e] at hi;by_cases e2:i=b
    ·rw[ag e2] at hi;exact absurd hi v
    ·rw[ae e2] at hi;exact .inr ⟨e2,hi⟩
  rcases F with e|⟨e,e2⟩
  ·refine⟨fun k hk=>by rw[L i k hk,ag e],?_⟩;rw[S,ag e];exact congrFun (ae (show ¬(-1:Int)=a by omega)) 6
  ·have q:i≠a:=fun G=>v (G▸e2);refine⟨fun k hk=>by rw[c i q k hk,ae e];exact (h.em i e2).1 k hk,?_⟩;rw[six i q,ae e,(h.em i e2).2,ae oA]
 ·have d:=w i hi;have m:=w j I;have e:=e;split at e<;>split at e
  ·omega
  ·exact absurd e.symm m
  ·exact absurd e d
  ·exact e
 ·by_cases e:i=b
  ·rw[e];exact .inl J
  ·have:=w i hi;rw[c i this 0 oD,ae e] at hi;exact h.nd i hi
 ·have q:=w i hi;rw[six i q];have F:p.s (if i=b then a else i) 0≠0:=by rw[<-c i q 0 oD];exact hi
  rcases h.up (if i=b then a else i) with d|⟨u,d,m,o,A⟩
  ·rw[d,ae oA];exact .inl rfl
  ·have E:u≠b:=fun e=>m (e▸y);have D:r (if i=b then a else i)=if i=b then r a else r i:=by split<;>rfl
   rw[d];by_cases e:u=a
   ·subst e;rw[ag rfl];refine .inr ⟨b,rfl,N,?_,?_⟩
    ·rw[rW (f:=p.s u) (g:=p.s (if i=b then u else i)) (fun k hk=>by rw[c b (fun e=>x e.symm) k hk,ag rfl]) (fun k hk=>c i q k hk)];exact o
    ·show (if b=b then r u else r b)<if i=b then r u else r i
     rw[ag rfl, <-D];exact A
   ·rw[ae oA];refine .inr ⟨u,rfl,n0 u e m,?_,?_⟩
    ·rw[rW (f:=p.s u) (g:=p.s (if i=b then a else i)) (fun k hk=>by rw[c u e k hk,ae E]) (fun k hk=>c i q k hk)];exact o
    ·show (if u=b then r a else r u)<if i=b then r a else r i
     rw[ae E, <-D];exact A
 ·rw[six i (w i d)] at o
  left
  show p.s (if i=b then a else i) 6= -1
  generalize p.s (if i=b then a else i) 6=z at o ⊢;split at o
  ·omega
  ·exact o
 ·obtain⟨i,hi⟩:=M n K;by_cases e:i=a
  ·subst e;exact⟨b,by rw[jA (g:=p.s i) (by rw[c b (fun e=>x e.symm) 0 oD,ag rfl]) (by rw[c b (fun e=>x e.symm) 1 oD,ag rfl])];exact hi⟩
  ·have C:i≠b:=fun e2=>(gr.1 hi).1 (e2▸y);exact⟨i,by rw[jA (g:=p.s i) (by rw[c i e 0 oD,ae C]) (by rw[c i e 1 oD,ae C])];exact hi⟩
