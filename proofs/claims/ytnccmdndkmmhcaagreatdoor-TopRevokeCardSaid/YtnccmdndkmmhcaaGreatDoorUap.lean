/- Uap -/
import Derived.Test.YtnccmdndkmmhcaaGreatDoorUao
set_option maxRecDepth 100000
set_option maxHeartbeats 16000000
namespace Go.Proofs.YtnccmdndkmmhcaaGreatDoor
namespace Wd
open Go.RowKit Mem Bw Nums Mmu
def fro (S:List (Nat->Int)) (a:Int):Int:=if 0<=a then (S.getD a.toNat eS) 6 else -1
def itf (S:List (Nat->Int)):Nat->Int->Int
 |0,a=>a
 |n+1,a=>itf S n (fro S a)
def UnS (S:List (Nat->Int)) (t:Nat) (a:Int):Prop:=∃n,itf S n a=t
theorem xn (S:List (Nat->Int)):∀n,itf S n (-1)= -1
 |0=>rfl
 |n+1=>xn S n
theorem jx {S:List (Nat->Int)} {t:Nat}:¬UnS S t (-1):=fun ⟨n,h⟩=>by
 rw[xn] at h;omega
theorem mh {S:List (Nat->Int)} {t:Nat}:UnS S t t:=⟨0,rfl⟩
theorem jP {S:List (Nat->Int)} {t:Nat} {a:Int} (h:a≠t):UnS S t a↔UnS S t (fro S a):=
 ⟨fun ⟨n,e⟩=>by
  cases n with
  |zero=>exact absurd e h
  |succ n=>exact⟨n,e⟩,fun ⟨n,e⟩=>⟨n+1,e⟩⟩
structure Up (r:Nat->Nat) (S:List (Nat->Int)):Prop where
 em:∀i,(S.getD i eS) 0=0->(S.getD i eS) 6= -1
 fr:∀i,(S.getD i eS) 6= -1∨∃u:Nat,(S.getD i eS) 6=u∧u<S.length∧r u<r i
 bd:∀i,r i<=S.length+1
theorem mg {r:Nat->Nat} {S:List (Nat->Int)} (h:Up r S) {t i:Nat} (a:UnS S t (fro S i)):(S.getD i eS) 0≠0:=fun e=>by
 have b:fro S i= -1:=by
  unfold fro;rw[ag oA,ah];exact h.em i e
 rw[b] at a;exact jx a
def rkU (p:PW):Nat->Int->Nat
 |0,_=>0
 |n+1,a=>if fL p a then 1+rkU p n ((p.IH.getD a.toNat eS) 6) else 0
theorem FO (p:PW):∀(n:Nat) (a:Int),rkU p n a<=n
 |0,_=>aq _
 |n+1,a=>by
  rw[rkU];split
  ·have:=FO p n ((p.IH.getD a.toNat eS) 6);omega
  ·omega
theorem ym {p:PW}:∀(n:Nat) (a:Int),fL p (up p n a)=false->∀m,n<=m->rkU p m a=rkU p n a
 |0,a,h,m,_=>by
  have c:fL p a=false:=h
  cases m with
  |zero=>rfl
  |succ m=>
   show (if fL p a then 1+rkU p m ((p.IH.getD a.toNat eS) 6) else 0)=0
   rw[c];rfl
 |n+1,a,h,m,hm=>by
  cases m with
  |zero=>omega
  |succ m=>
   rw[rkU,rkU]
   cases hs:fL p a with
   |false=>rfl
   |true=>
    obtain⟨j,rfl,b⟩:=fQ hs;rw[Bm b] at h;rw[ah,gI b,ym n (p.IH[j] 6) h m oA]
theorem tU {S:List (Nat->Int)} {i:Nat} (h:¬i<S.length):S.getD i eS=eS:=by
 rw[aa,aI oA];rfl
theorem rL {p:PW} (h:Snd p):∃r,Up r p.IH:=by
 refine⟨fun i=>rkU p (p.IH.length+1) i,fun i c=>?_,fun i=>?_,fun i=>FO p _ _⟩
 all_goals
  by_cases hi:i<p.IH.length
  rotate_left
  ·rw[tU hi];first|rfl|exact .inl rfl
  have b:bsB p (p.kinds.getD (i/16) 0) p.IH[i]=false:=h.b3 i hi;unfold bsB at b
 ·rw[gI hi] at c ⊢
  cases hz:zkB p.IH[i] with
  |true=>rw[hz,ag rfl] at b;simpa using b
  |false=>
   rw[hz,ae oD] at b;simp only[cU,am] at b;have d:=b.1.1.2;unfold opB at d;simp only[am,bz] at d;have hk:=d.1.1;unfold kc at hk;rw[c] at hk;have:zkB p.IH[i]=true:=az ⟨c,Classical.byContradiction fun g=>by rw[KP.En g] at hk;cases hk⟩;rw[hz] at this
   cases this
 ·rw[gI hi]
  cases hz:zkB p.IH[i] with
  |true=>rw[hz,ag rfl] at b;exact .inl (by simpa using b)
  |false=>
   rw[hz,ae oD] at b;simp only[cU,am,dD] at b;obtain⟨⟨-,a⟩,f⟩:=b;unfold mdB at a;rw[cF] at a;rcases a with a|a
   ·exact .inl (eq_of_beq a)
   ·rw[am] at a;obtain⟨u,e,hl⟩:=fQ a.1;refine .inr ⟨u,e,hl,?_⟩;rw[e] at f;show rkU p (p.IH.length+1) u<rkU p (p.IH.length+1) i
    rw[ym p.IH.length u f (p.IH.length+1) oA,rkU,show fL p (i:Int)=true from az oA,ag rfl,ah,gI hi,e];omega
def Sl (a b:List (Nat->Int)):Prop:=a.length=b.length∧∀i,(a.getD i eS) 0=(b.getD i eS) 0∨(a.getD i eS) 0=0
theorem Sl.refl (a:List (Nat->Int)):Sl a a:=⟨rfl,fun _=>.inl rfl⟩
theorem Sl.trans {a b c:List (Nat->Int)} (h:Sl a b) (k:Sl b c):Sl a c:=⟨h.1.trans k.1,fun i=>by
 rcases h.2 i with e|e
 ·rw[e];exact k.2 i
 ·exact .inr e⟩
theorem wY (s:Nat) (x:Int):lY s x eS=eS:=ae (show ¬(-1:Int)=s by omega)
theorem jS (p:PW) (s i:Nat):(drA p s).IH.getD i eS=if i=s then eS else lY s ((p.IH.getD s eS) 6) (p.IH.getD i eS):=by
 show (List.map (lY s ((p.IH.getD s eS) 6)) (p.IH.set s eS)).getD i eS=_
 rw[aa,db,List.getElem?_set];by_cases e:i=s
 ·subst e;rw[ag rfl,ag rfl];split
  ·exact wY i _
  ·rfl
 ·rw[ae e,ae (fun h=>e h.symm),aa (l:=p.IH) (i:=i)]
  cases p.IH[i]? with
  |none=>exact (wY s _).symm
  |some f=>rfl
theorem Ca {r:Nat->Nat} {p:PW} {s:Nat} (h:Up r p.IH):Up r (drA p s).IH:=by
 have hl:(drA p s).IH.length=p.IH.length:=by show (List.map _ _).length=_;rw[bL,au]
 refine⟨fun i=>?_,fun i=>?_,by rw[hl];exact h.bd⟩<;>rw[jS]
 ·split
  ·exact fun _=>rfl
  ·unfold lY;split
   ·rename_i e;intro c;have a:=h.em i c;rw[e] at a;omega
   ·exact h.em i
 ·rw[hl];split
  ·exact .inl rfl
  ·unfold lY;split
   ·rename_i e;show (p.IH.getD s eS) 6= -1∨∃u:Nat,(p.IH.getD s eS) 6=u∧u<p.IH.length∧r u<r i
    rcases h.fr i with a|⟨u,a,g,j⟩
    ·rw[e] at a;omega
    ·have f:u=s:=by rw[e] at a;omega
     subst f;rcases h.fr u with b|⟨v,b,d,k⟩
     ·exact .inl b
     ·exact .inr ⟨v,b,d,oA⟩
   ·exact h.fr i
theorem GI (p:PW) (s:Nat):Sl (drA p s).IH p.IH:=by
 refine⟨by show (List.map _ _).length=_;rw[bL,au],fun i=>?_⟩;rw[jS];split
 ·exact .inr rfl
 ·unfold lY;split
  ·exact .inl rfl
  ·exact .inl rfl
theorem pa (p:PW) (t:Nat):(etP p t).IH=p.IH:=by
 unfold etP;split<;>rfl
theorem o7 (p:PW) (f:Nat):(dsP p f).IH=p.IH:=by
 show ((p.lines.getD f []).foldl ds1 p).IH=p.IH
 rw[fT (p.lines.getD f []) p]
theorem wj {r:Nat->Nat} {dr:PW->Nat->PW} (b:∀p s,Up r p.IH->Up r (dr p s).IH∧Sl (dr p s).IH p.IH) {f:Nat}:∀(a:Nat) (p:PW),Up r p.IH->Up r (daF dr f a p).IH∧Sl (daF dr f a p).IH p.IH
 |0,p,h=>by rw[gB];exact⟨h,Sl.refl _⟩
 |a+1,p,h=>by
  rw[gA];split
  ·exact wj b a p h
  ·obtain⟨c,d⟩:=b p (f*16+a) h;obtain⟨e,g⟩:=wj b (f:=f) a _ c;exact⟨e,g.trans d⟩
theorem jY {r:Nat->Nat}:∀(m:Nat) (p:PW) (s:Nat),Up r p.IH->Up r (drF m p s).IH∧Sl (drF m p s).IH p.IH
 |0,p,s,h=>⟨h,Sl.refl _⟩
 |m+1,p,s,h=>by
  have a:=Ca (s:=s) h;have b:=GI p s;unfold drF;split
  ·exact⟨a,b⟩
  generalize (p.IH.getD s eS) 0=k;generalize ((p.IH.getD s eS) 1).toNat=f;generalize drA p s=q at a b ⊢
  suffices hx:Up r (lsF (drF m) q k f).IH∧Sl (lsF (drF m) q k f).IH q.IH from⟨hx.1,hx.2.trans b⟩
  unfold lsF;split
  ·exact⟨a,Sl.refl _⟩
  split
  ·exact⟨a,Sl.refl _⟩
  split
  ·exact wj (jY m) 16 (fgP 11 (nkP q f) f) a
  split
  ·rw[pa];exact⟨a,Sl.refl _⟩
  ·show Up r (dsP (nkP q f) f).IH∧Sl (dsP (nkP q f) f).IH q.IH
   rw[o7];exact⟨a,Sl.refl _⟩
theorem G0 {m:Nat} {r:Nat->Nat} {q:PW} (a:Up r q.IH) (k:Int) (f:Nat):Sl (lsF (drF m) q k f).IH q.IH:=by
 unfold lsF;split
 ·exact Sl.refl _
 split
 ·exact Sl.refl _
 split
 ·exact (wj (jY m) 16 (fgP 11 (nkP q f) f) a).2
 split
 ·rw[pa];exact Sl.refl _
 ·show Sl (dsP (nkP q f) f).IH q.IH
  rw[o7];exact Sl.refl _
theorem o4 {r:Nat->Nat} {m:Nat} {p:PW} {s:Nat} (h:Up r p.IH):((drF (m+1) p s).IH.getD s eS) 0=0:=by
 have a:((drA p s).IH.getD s eS) 0=0:=by rw[jS,ag rfl];rfl
 unfold drF;split
 ·exact a
 ·rcases (G0 (m:=m) (Ca (s:=s) h) ((p.IH.getD s eS) 0) ((p.IH.getD s eS) 1).toNat).2 s with e|e
  ·rw[e];exact a
  ·exact e
def neS (S:List (Nat->Int)):Nat:=(List.range S.length).countP fun i=>(S.getD i eS) 0 !=0
theorem qn {α:Type} (P Q:α->Bool):∀l:List α,(∀x∈l,P x=true->Q x=true)->l.countP P<=l.countP Q∧∀y∈l,P y=false->Q y=true->l.countP P<l.countP Q
 |[],_=>⟨aq _,fun _ h=>by cases h⟩
 |x::l,h=>by
  obtain⟨g,f⟩:=qn P Q l (fun y c=>h y (List.mem_cons_of_mem _ c));have d:=h x (cD ..);rw[List.countP_cons,List.countP_cons];refine⟨?_,fun y c a b=>?_⟩
  ·cases e:P x with
   |false=>simp only[Bool.false_eq_true,if_false];split<;>omega
   |true=>rw[d e];simp only[if_true];omega
  ·rcases bK.1 c with rfl|c
   ·rw[a,b];simp only[Bool.false_eq_true,if_false,if_true];omega
   ·have:=f y c a b
    cases e:P x with
    |false=>simp only[Bool.false_eq_true,if_false];split<;>omega
    |true=>rw[d e];simp only[if_true];omega
theorem CM {a b:List (Nat->Int)} (h:Sl a b) {s:Nat} (f:(a.getD s eS) 0=0) (c:(b.getD s eS) 0≠0):neS a<neS b:=by
 unfold neS;rw[h.1];refine (qn _ _ (List.range b.length) fun i _ hi=>?_).2 s (List.mem_range.2 ?_) (by rw[f];rfl) (bne_iff_ne.2 c)
 ·rcases h.2 i with e|e
  ·rw[<-e];exact hi
  ·rw[e] at hi;cases hi
 ·by_cases d:s<b.length
  ·exact d
  ·rw[tU d] at c;exact absurd rfl c
theorem xm {r:Nat->Nat} {S:List (Nat->Int)} (h:Up r S):∀(n:Nat) (u:Nat),r u<n->itf S n u= -1
 |0,_,hr=>absurd hr (dG _)
 |n+1,u,hr=>by
  show itf S n (fro S u)= -1
  have e:fro S u=(S.getD u eS) 6:=by unfold fro;rw[ag oA,ah]
  rw[e];rcases h.fr u with a|⟨v,a, -,b⟩
  ·rw[a];exact xn S n
  ·rw[a];exact xm h n v oA
def unB (S:List (Nat->Int)) (t i:Nat):Bool:=(List.range (S.length+3)).any fun n=>itf S n (fro S i)==(t:Int)
theorem ie {r:Nat->Nat} {S:List (Nat->Int)} (h:Up r S) (t i:Nat):unB S t i=true↔UnS S t (fro S i):=by
 unfold unB;rw[List.any_eq_true];refine⟨fun ⟨n,_,e⟩=>⟨n,eq_of_beq e⟩,fun ⟨n,e⟩=>⟨n,List.mem_range.2 ?_,bz.2 e⟩⟩;refine Nat.lt_of_not_le fun c=>?_;have b:=h.bd i;have a:itf S n (fro S i)= -1:=xm h (n+1) i oA;rw[a] at e;omega
def luF (S:List (Nat->Int)) (t:Nat):Nat->Int
 |0=> -1
 |n+1=>if unB S t n=true then n else luF S t n
def mdL (S:List (Nat->Int)) (t n:Nat):List Int:=((List.range n).filter (unB S t)).map fun i:Nat=>(i:Int)
theorem pH (S:List (Nat->Int)) (t n:Nat):mdL S t (n+1)=mdL S t n++if unB S t n=true then [(n:Int)] else []:=by
 unfold mdL;rw[List.range_succ,eT,eD,List.filter_cons];split<;>rfl
theorem iB (S:List (Nat->Int)) (t:Nat):∀n,(mdL S t n=[]∧luF S t n= -1)∨∃(L:List Int) (j:Nat),mdL S t n=L++[(j:Int)]∧luF S t n=j∧j<n∧unB S t j=true
 |0=>.inl ⟨rfl,rfl⟩
 |n+1=>by
  rw[pH,luF]
  cases e:unB S t n with
  |true=>exact .inr ⟨mdL S t n,n,by rw[ag rfl],by rw[ag rfl],oA,e⟩
  |false=>
   rw[ae oD,ae oD,dJ];rcases iB S t n with h|⟨L,j,a,b,d,c⟩
   ·exact .inl h
   ·exact .inr ⟨L,j,a,b,oA,c⟩
def rvN (dr:PW->Nat->PW) (t:Nat):Nat->PW->PW
 |0,p=>p
 |n+1,p=>if luF p.IH t p.IH.length= -1 then p else rvN dr t n (dr p (luF p.IH t p.IH.length).toNat)
theorem jv {dr:PW->Nat->PW} {t:Nat} {p:PW} (h:luF p.IH t p.IH.length= -1):∀n,rvN dr t n p=p
 |0=>rfl
 |n+1=>by rw[rvN,ag h]
theorem rG {dr:PW->Nat->PW} {t n j:Nat} {p:PW} (h:luF p.IH t p.IH.length=j):rvN dr t (n+1) p=rvN dr t n (dr p j):=by
 rw[rvN,ae oA,h,ah]
theorem sM {r:Nat->Nat} {S:List (Nat->Int)} (a:Up r S) {t n j:Nat} (h:luF S t n=j):j<n∧(S.getD j eS) 0≠0:=by
 rcases iB S t n with ⟨-,e⟩|⟨-,i, -,e,b,c⟩
 ·omega
 ·have:i=j:=oA;subst this;exact⟨b,mg a ((ie a t i).1 c)⟩
theorem Dk {r:Nat->Nat} {m t n j:Nat} {q P:PW} (a:Up r q.IH) (b:luF q.IH t q.IH.length=j) (e:neS q.IH<=n) (d:rvN (drF (m+1)) t n q=P):
  neS (drF (m+1) q j).IH<neS q.IH∧∃k,neS (drF (m+1) q j).IH<=k∧rvN (drF (m+1)) t k (drF (m+1) q j)=P:=by
 have c:=CM (jY (m+1) q j a).2 (o4 a) (sM a b).2
 cases n with
 |zero=>omega
 |succ n=>exact⟨c,n,oA,by rw[<-d,rG b]⟩
theorem Ig {dr:PW->Nat->PW} (a:∀p s X,dr (i9 p X) s=i9 (dr p s) X) {t:Nat}:∀(n:Nat) (p:PW) (X:List (List Ent)),rvN dr t n (i9 p X)=i9 (rvN dr t n p) X
 |0,_,_=>rfl
 |n+1,p,X=>by
  have e:luF (i9 p X).IH t (i9 p X).IH.length=luF p.IH t p.IH.length:=rfl;rw[rvN,rvN,e];split
  ·rfl
  ·rw[a,Ig a n]
theorem rH {r:Nat->Nat} {m t:Nat}:∀(n:Nat) (p:PW),nds p<m->Inv p->Up r p.IH->Inv (rvN (drF m) t n p)∧(rvN (drF m) t n p).IK=p.IK
 |0,p,_,h,_=>⟨h,rfl⟩
 |n+1,p,hn,h,hu=>by
  rcases iB p.IH t p.IH.length with ⟨-,e⟩|⟨-,j, -,e, -, -⟩
  ·rw[jv e];exact⟨h,rfl⟩
  ·obtain⟨d,c⟩:=sM hu e;obtain⟨i1,i2, -⟩:=nV m p j hn h d c;obtain⟨a,b⟩:=rH (m:=m) (t:=t) n (drF m p j) oA i1 (jY m p j hu).1;rw[rG e];exact⟨a,b.trans (jX m p j)⟩
theorem uB {m:Nat} {p:PW} {s:Nat} (b:nds p<m) (hi:Inv p) (d:TL p) (c:s<p.IH.length) (a:(p.IH.getD s eS) 0≠0):(drR m p s).IH=(drF m p s).IH:=by
 obtain⟨g,e, -⟩:=pR m p s b hi d c a;rw[e];rfl
theorem Hr {r:Nat->Nat} {m t:Nat}:∀(n:Nat) (p:PW),nds p<m->Inv p->TL p->Up r p.IH->∃g,Gd p (rvN (drF m) t n p) (rvN (drR m) t n p) g
 |0,p,_,_,_,_=>⟨_,Gd.same rfl rfl rfl⟩
 |n+1,p,hn,hi,ht,hu=>by
  rcases iB p.IH t p.IH.length with ⟨-,e⟩|⟨-,j, -,e, -, -⟩
  ·rw[jv e,jv e];exact⟨_,Gd.same rfl rfl rfl⟩
  obtain⟨b,a⟩:=sM hu e;rw[rG e,rG e];have l:=uB hn hi ht b a;obtain⟨i,o,l1,a1,b1⟩:=pR m p j hn hi ht b a;obtain⟨i1,i2, -⟩:=(ju m).1 p j hn hi b a;obtain⟨k,f,l2,c,b2⟩:=Hr (m:=m) (t:=t) n (drR m p j) oA i1 ((ju m).2 p j hn hi b a ht) (by rw[l];exact (jY m p j hu).1);rw[o] at f l2 c b2 ⊢;rw[Ig (Ge m)] at f l2 c b2;refine⟨fun e=>k e&&i e,?_,?_,fun e h=>?_,fun e h d=>?_⟩
  ·rw[f, <-pb];rfl
  ·exact Lo.trans (q:=drF m p j) ⟨l2.kinds,l2.len,l2.IL⟩ l1
  ·rw[am];exact⟨c e h,a1 e (l2.told h)⟩
  ·rw[am] at d;exact b2 e (b1 e h d.2) d.1
theorem FR {r:Nat->Nat} {m t n:Nat} {p:PW} (d:nds p<m) (hi:Inv p) (b:TL p) (f:Up r p.IH):TL (rvN (drF m) t n p):=by
 obtain⟨g, -,lo, -, -⟩:=Hr (t:=t) n p d hi b f;have c:=(rH (t:=t) n p d hi f).2;refine⟨by rw[c];exact b.len,by rw[c];exact b.Jt,fun z j=>?_⟩;obtain⟨i,h⟩:=List.mem_iff_getElem?.1 j;have e:(rvN (drF m) t n p).IL.getD i 0=z:=by rw[aa,h];rfl
 rcases lo.IL i with a|a
 ·rw[e] at a;rw[a]
  cases e2:p.IL[i]? with
  |none=>rw[aa,e2];exact⟨oD,oD⟩
  |some y=>rw[aa,e2];exact b.word y (List.mem_iff_getElem?.2 ⟨i,e2⟩)
 ·rw[e] at a;rw[a];exact⟨oD,oD⟩
theorem Hs {r:Nat->Nat} {p:PW} (d:p.Fits) (h:Snd p) {m t n:Nat} (c:nds p<m) (f:Up r p.IH):rvN (drR m) t n p=fgt (rvN (drF m) t n p):=by
 obtain⟨g,e,lo,a,b⟩:=Hr (t:=t) n p c (hZ d h) (oH h) f;rw[e];unfold fgt i9;rw[(rH (t:=t) n p c (hZ d h) f).2];have e:p.IK.map (List.filter g)=p.IK.map (dz fun e=> !d7 (rvN (drF m) t n p) e):=eI fun l hl=>by
  unfold dz;refine List.filter_congr fun e j=>?_;have i:=(me h hl).2 e j;rw[Bool.not_not]
  cases e1:d7 (rvN (drF m) t n p) e with
  |true=>exact a e e1
  |false=>
   cases e2:g e with
   |false=>rfl
   |true=>rw[b e i e2] at e1;cases e1
 rw[e]
def j6 (p:PW) (a:Int):PW:=if p4 p=true∧fh p a=0 then fgt (rvN (drF (nds p+1)) a.toNat (neS p.IH) p) else p
theorem uy {p:PW} {j:Nat} (h:Snd p) (a:fh p j=0):j6 p j=fgt (rvN (drF (nds p+1)) j (neS p.IH) p):=by
 unfold j6;rw[ag ⟨uE h,a⟩,ah]
theorem Hn {p:PW} (d:p.Fits) (hl:∀l∈p.IK,l.length<=100) (a:Int):(j6 p a).Fits∧∀l∈(j6 p a).IK,l.length<=100:=by
 by_cases c:p4 p=true∧fh p a=0
 ·obtain⟨j,rfl,o,m⟩:=mJ c.2;have b:=kM c.1;rw[uy b c.2];obtain⟨r,g⟩:=rL b;have hi:=(rH (t:=j) (neS p.IH) p (dM _) (hZ d b) g).1;have k:=FR (t:=j) (n:=neS p.IH) (dM _) (hZ d b) (oH b) g;have f:=hi.fits;refine⟨⟨f.IL,f.kinds,f.IH,f.II,f.lines,f.line,f.bits,f.IJ,f.ready,f.next,?_,f.IQ⟩,fun l i=>?_⟩
  ·show (List.map _ _).length<=1000
   rw[bL];exact f.IK
  ·obtain⟨l0,h,rfl⟩:=List.mem_map.1 (show l∈(rvN (drF (nds p+1)) j (neS p.IH) p).IK.map _ from i);exact aB (cW ..) (k.len l0 h)
 ·have e:j6 p a=p:=by unfold j6;rw[ae c]
  rw[e];exact⟨d,hl⟩
def mvP (p:PW) (a b:Int):PW:={p with IH:=hnd a b ((p.IH.set b.toNat (p.IH.getD a.toNat ft)).set a.toNat eS)}
theorem Eh {p:PW} {i j:Nat} (h:boE p i j=0):i≠j:=by
 intro e;subst e;unfold boE fh opE at h
 cases hs:fL p i with
 |false=>rw[hs] at h;simp at h
 |true=>
  rw[hs] at h;simp only[if_true,ah] at h;by_cases a:(p.IH.getD i ft) 0=0
  ·rw[ag a] at h;simp at h
  ·rw[ae a,ag rfl,ae a] at h;split at h<;>simp at h
theorem mZ (a b:Int) (p:PW) (y:p.Fits) (hl:∀l∈p.IK,l.length<=100) (hs:Snd p) (W:World) (wb:Nat) (tag:Nat->Nat) (V:Nat->Value) (bt:cb W wb tag V p):
  Calls Tryz.prog 36 #[.pointer (some ⟨wb,0,none⟩),.int .i64 a,.int .i64 b] W fun x B=>x=.returned (.int .i64 (boE p a b))∧∃tag',Kt tag tag' W B∧(boE p a b=0->∃V',cb B wb tag' V' (mvP p a b))∧(boE p a b≠0->B=W):=by
 have t:=hid bt;have w:=hid (lX wb V p a b W (bt.view y hl) hs.lf.IH);have ad:=hid y.IH;have an:(p.IH.length:Int)<=1000:=by have:=y.IH;omega
 clear hs hl y bt;by_cases m:boE p a b=0
 rotate_left
 ·have J:=hid m;have ag:(boE p a b !=0)=true:=by simpa using m
  generalize boE p a b=x at w J ag ⊢;clear m;go_enter Tryz.func36,Tryz.ntmps36
  go_wp2_with fail
  refine w.mono ?_;rintro q w1 ⟨rfl,rfl⟩;go_wp2_with fail
  go_ret
  exact⟨rfl,tag,ew _ _,fun h=>(absurd h J),fun _=>rfl⟩
 obtain⟨i,j,rfl,rfl,hi,hj⟩:=Eg m;have aj:=Eh m;have I:=hid m;rw[m] at w;have al:(i:Int)<(p.IH.length:Int):=oA;have am:(j:Int)<(p.IH.length:Int):=oA;obtain⟨g,cap,e2⟩:=t.o.IH.form oA;obtain⟨s,D⟩:∃s,p.IH[i]=s:=⟨_,rfl⟩
 have ae:=hid (show mvP p i j={p with IH:=hnd i j ((p.IH.set i eS).set j s)} by unfold mvP;rw[ah,ah,aa,ac hi,aT,D,List.set_comm _ _ (fun e=>aj e.symm)]);have c2:W.cell? ⟨wb,2,none⟩=some (.slice (some ⟨g,0,none⟩) p.IH.length cap):=by rw[ai t.r (k:=2) rfl,e2]
 have M:=hid (show W.rangeAt g (i*7) (cf 7 s) from by
  have c:=t.o.IH;rw[e2] at c;have C:=c.range hi;rw[D] at C;exact C)
 have F:=hid (bal (af W.heap.size W) (.cells zV 34));have A:=hid (aP W zV 34 W.heap.size 7 rfl oD);have H:=hid (bT F (aq _) (cf 7 s) 0);have RX:=hid (World.rangeAt_setCells_same (W.alloc (.cells zV 34)) W.heap.size 0 (cf 7 s) (by rw[ay];exact A));clear m D;go_enter Tryz.func36,Tryz.ntmps36
 go_wp2_with fail
 refine w.mono ?_;rintro q w1 ⟨rfl,rfl⟩;go_upto_region 5 with (first|((with_reducible refine gld 34 ?_);refine yM rfl _ rfl g (i*7) rfl (cf 7 s) (ay _ _) M ?_)|((with_reducible refine gst 34 ?_);refine nC rfl _ _ rfl W.heap.size 0 rfl (cf 7 s) rfl (ay _ _) (bQ _ _) A ?_))
 generalize World.setCells _ _ _ _=n at*;clear c2 A F M;have u:=hid (t.below H);have c2:n.cell? ⟨wb,2,none⟩=some (.slice (some ⟨g,0,none⟩) p.IH.length cap):=by rw[ai u.r (k:=2) rfl,e2]
 have O:=hid (show n.there g (i*7) 7 from by
  have c:=u.o.IH;rw[e2] at c;exact c.there (i*7) 7 oA)
 obtain⟨b2,k2⟩:=u.I1 e2 hi eS;have E:=hid b2;have K2:=hid (show Kt tag tag W (n.setCells g (i*7) (cf 7 eS)) from Kt.trans (.below H) k2);have Z:V 2=.slice (some ⟨g,0,none⟩) (p.IH.set i eS).length cap:=by rw[au];exact e2
 have d2:(n.setCells g (i*7) (cf 7 eS)).cell? ⟨wb,2,none⟩=some (.slice (some ⟨g,0,none⟩) p.IH.length cap):=by rw[ai b2.r (k:=2) rfl,e2]
 have ab:g≠W.heap.size:=fun e=>by
  have c:=t.o.IH;rw[e2] at c;have:=(c.1.lt g rfl).2;omega
 have z:=hid (show (n.setCells g (i*7) (cf 7 eS)).rangeAt W.heap.size 0 (cf 7 s) from fun k v hk=>by
  rw[gW (fun e=>ab e.symm)];exact RX k v hk)
 have P:=hid (show (n.setCells g (i*7) (cf 7 eS)).there g (j*7) 7 from by
  have c:=b2.o.IH;simp only at c;rw[Z] at c;exact c.there (j*7) 7 (by rw[au];omega))
 clear b2 k2;go_upto_region 6 with (first|((with_reducible refine gst 34 ?_);refine nC rfl _ _ rfl g (i*7) rfl (cf 7 eS) rfl (ay _ _) (bQ _ _) O ?_))
 generalize World.setCells _ _ _ _=d at*;clear c2 O u;have G:Hid (Below d.heap.size d d.drew):=hid (aD d 1);have L:=hid (show d.drew.cell? ⟨wb,2,none⟩=some (.slice (some ⟨g,0,none⟩) p.IH.length cap)∧d.drew.rangeAt W.heap.size 0 (cf 7 s) from⟨d2,z.out⟩);obtain⟨b3,k3⟩:=(E.below G).I1 Z (i:=j) (by show j<(p.IH.set i eS).length;rw[au];exact hj) s;have B3:=hid b3;have K3:=hid ((K2.trans (.below G)).trans k3);have Q:=hid (show d.drew.there g (j*7) 7 from P);have R:(d.drew.setCells g (j*7) (cf 7 s)).cell? ⟨wb,2,none⟩=some (.slice (some ⟨g,0,none⟩) p.IH.length cap):=by rw[ai b3.r (k:=2) rfl,e2]
 have N:=hid (show (d.drew.setCells g (j*7) (cf 7 s)).rangeAt W.heap.size 0 (cf 7 s) from fun k v hk=>by
  rw[gW (fun e=>ab e.symm)];exact z k v hk)
 clear b3 k3;refine wp_region_held_drew (S:=fun X=>X.cell? ⟨wb,2,none⟩=some (.slice (some ⟨g,0,none⟩) p.IH.length cap)∧X.rangeAt W.heap.size 0 (cf 7 s)) oK L (fun U=>?_);have f:=hid U;clear U;refine tk 0 (.pointer (some ⟨wb,0,none⟩)) rfl f ?_;simp only[jj];refine tk 1 (.pointer (some ⟨wb,0,none⟩)) rfl f ?_;simp only[jj];refine tk 2 (.pointer (some ⟨wb,2,none⟩)) rfl f ?_;simp only[jj];refine tg 3 (.slice (some ⟨g,0,none⟩) p.IH.length cap) rfl (Or.inl ⟨oR,fun W h=>by have C:=h.1;clear h;go_simp⟩) f ?_;simp only[jj];refine tk 4 (.int .i64 j) rfl f ?_;simp only[jj];refine tg 5 (.agg (cf 7 s).toArray) rfl (yieldsIf_load_mid oR _ _ rfl _ _ rfl (cf 7 s) _ (fun _ h=>h.2) Tryz.underlying34 rfl (by rw[ay];exact lH)) f ?_;simp only[jj];refine tk 6 (.pointer (some ⟨g,j*7,none⟩)) rfl f ?_;simp only[jj];refine wpAnyH_ready (rs:=[7]) oK oS (AllReadyH.cons rfl (fun K Y=>?_) AllReadyH.nil);refine wp_store_mid 34 _ _ rfl g (j*7) (cf 7 s).toArray rfl rfl Q (by rw[lH];rfl) (all_oneCell_toArray (bQ 7 s)) ?_;generalize World.setCells _ _ _ _=W3 at*;refine Y _ _ ⟨R,N.out⟩ (fun _=>?_);clear Y K f
 try simp only[Act.put]
 refine dw oK ?_ _;have HH:=hid (uL wb tag V {p with IH:=(p.IH.set i eS).set j s} i j W3 B3 (by show ((p.IH.set i eS).set j s).length<=1000;rw[au,au];exact ad));clear L P Q E z N d2 R;go_wp2_with fail
 refine HH.mono ?_;rintro q w4 ⟨rfl,T,c⟩;have H1:=hid T;have H2:=hid c;clear T c;go_wp2_with fail
 go_ret
 exact⟨by rw[I.out];rfl,tag,K3.trans H2,fun _=>⟨V,by rw[ae.out];exact H1⟩,fun h=>absurd (by first|rfl|assumption|exact I) h⟩
structure Ky (D:Nat->Prop) (p:PW) (r:Nat->Nat):Prop where
 em:∀i,p.s i 0=0->(∀k,k<6->p.s i k=0)∧p.s i 6= -1
 nd:∀i,p.s i 0≠0->p.k (i/16)=5∨D (i/16)
 key:∀i,p.s i 0≠0->vN p (p.s i)
 up:∀i,p.s i 6= -1∨∃u:Nat,p.s i 6=u∧p.s u 0≠0∧cmB (p.s u) (p.s i)=true∧r u<r i
 one:∀(n:Int) i j,clI n (p.s i)=true->clI n (p.s j)=true->i=j
 us:∀n,p.k n≠0->∀i,un n (p.s i)=false
 gp:∀i,p.s i 0≠0->p.s i 0≠1->p.s i 6= -1->∀c,clI (p.s i 1) (p.s c)=false
def Op (p:PW):Prop:=∀n,p.k n≠0->∃i,opn n (p.s i)=true
def ksP (K:List Int) (S:List (Nat->Int)):PW:=⟨[],K,S,[],[],[],[],[],[],[],0⟩
theorem Ky.to {D:Nat->Prop} {p q:PW} {r:Nat->Nat} (h:Ky D p r) (e1:q.kinds=p.kinds) (e2:q.IH=p.IH):Ky D q r:=by
 have a:Ky D (ksP q.kinds q.IH) r:=by
  rw[e1,e2];exact⟨h.em,h.nd,fun i hi=>⟨(h.key i hi).c,(h.key i hi).le,(h.key i hi).is⟩,h.up,h.one,h.us,h.gp⟩
 exact⟨a.em,a.nd,fun i hi=>⟨(a.key i hi).c,(a.key i hi).le,(a.key i hi).is⟩,a.up,a.one,a.us,a.gp⟩
theorem Fy (S:List (Nat->Int)):nfl S=neS S:=by
 have e:(List.range S.length).map (fun i=>S.getD i eS)=S:=by
  apply List.ext_getElem
  ·simp
  ·intro i b a;simp[a]
 unfold nfl neS
 conv=>lhs;rw[<-e,List.countP_map]
 rfl
def rkC (p:PW) (r:Nat->Nat) (i:Nat):Nat:=(List.range p.IH.length).countP fun j=>p.s j 0 !=0&&decide (r j<r i)
theorem Ky.keys {p:PW} {r:Nat->Nat} (h:Ky (fun _=>False) p r) (g:Op p):Keys p (rkC p r):=by
 refine⟨h.em,fun i hi=>(h.nd i hi).elim id False.elim,h.key,fun i=>?_,fun i hi=>?_,h.one,fun n f=>?_,h.us,h.gp⟩
 ·rcases h.up i with c|⟨u,c,b,d,e⟩
  ·exact .inl c
  ·refine .inr ⟨u,c,rY b,b,d,(qn _ _ _ fun x _ a=>?_).2 u (List.mem_range.2 (rY b)) ?_ ?_⟩
   ·rw[am] at a ⊢;exact⟨a.1,az (by have:=aA a.2;omega)⟩
   ·rw[aw oA,Bool.and_false]
   ·rw[az e,Bool.and_true];exact bne_iff_ne.2 b
 ·rw[Fy];refine (qn _ _ _ fun x _ a=>?_).2 i (List.mem_range.2 (rY hi)) ?_ (bne_iff_ne.2 hi)
  ·exact (am _ _▸a:_∧_).1
  ·rw[aw oA,Bool.and_false]
 ·obtain⟨i,hi⟩:=g n f;exact⟨i,rY (gS.1 hi).1,hi⟩
theorem oV {n:Int} {f g:Nat->Int} (a:f 0=g 0) (b:f 1=g 1) (c:f 2=g 2):clI n f=clI n g:=by unfold clI;rw[a,b,c]
theorem jJ {n:Int} {f g:Nat->Int} (a:f 0=g 0) (b:f 1=g 1):opn n f=opn n g:=by unfold opn;rw[a,b]
theorem Cv {f g:Nat->Int} (h:∀k,k<6->f k=g k):kc f=kc g:=by unfold kc;rw[h 0,h 1,h 2,h 3,h 4,h 5]<;>decide
theorem sk {a b f g:Nat->Int} (h:∀k,k<6->a k=f k) (k:∀k,k<6->b k=g k):cmB a b=cmB f g:=by
 unfold cmB;rw[h 0,h 1,h 3,h 4,h 5,k 0,k 1,k 4,k 5]<;>decide
theorem oW {f s:Nat->Int} (h:cmB f s=true):s 0≠1:=fun e=>by
 unfold cmB at h;split at h
 ·rw[e] at h;cases h
 ·rename_i h2;simp only[am,bz] at h;exact h2 (h.1.1.1.symm.trans e)
structure Mv (p q:PW) (t:Nat->Nat):Prop where
 kd:q.kinds=p.kinds
 s:∀i,q.s i 0≠0->∀k,k<6->q.s i k=p.s (t i) k
 z:∀i,q.s i 0=0->(∀k,k<6->q.s i k=0)∧q.s i 6= -1
 i:∀i j,q.s i 0≠0->q.s j 0≠0->t i=t j->i=j
theorem Ky.mv {D:Nat->Prop} {p q:PW} {r r':Nat->Nat} {t:Nat->Nat} (h:Ky D p r) (m:Mv p q t)
  (nd:∀i,q.s i 0≠0->q.k (i/16)=5∨D (i/16))
  (up:∀i,q.s i 0≠0->q.s i 6= -1∨∃u:Nat,q.s i 6=u∧q.s u 0≠0∧cmB (q.s u) (q.s i)=true∧r' u<r' i)
  (gp:∀i,q.s i 0≠0->q.s i 0≠1->q.s i 6= -1->p.s (t i) 6= -1∨∀c,q.s c 0≠0->clI (p.s (t i) 1) (p.s (t c))=false):Ky D q r':=by
 have K:∀n,q.k n=p.k n:=fun n=>by show q.kinds.getD n 0=_;rw[m.kd]
 have n0:∀i,q.s i 0≠0->p.s (t i) 0≠0:=fun i hi=>by rw[<-m.s i hi 0 oD];exact hi
 have f:∀(n:Int) i,q.s i 0≠0->clI n (q.s i)=clI n (p.s (t i)):=fun n i hi=>oV (m.s i hi 0 oD) (m.s i hi 1 oD) (m.s i hi 2 oD);have c0:∀(n:Int) i,clI n (q.s i)=true->q.s i 0≠0:=fun n i hi=>by rw[(jh.1 hi).1];decide
 refine⟨m.z,nd,fun i hi=>?_,fun i=>?_,fun n i j hi o=>?_,fun n x i=>?_,fun i l v y c=>?_⟩
 ·have k:=h.key (t i) (n0 i hi);refine⟨(Cv (m.s i hi)).trans k.c,?_,?_⟩
  ·rw[m.s i hi 1 oD,m.s i hi 2 oD,m.kd];exact k.le
  ·rw[m.s i hi 1 oD,m.s i hi 0 oD];exact k.is.elim .inl fun e=>.inr (by unfold isB fH at e ⊢;rw[m.kd];exact e)
 ·by_cases e:q.s i 0=0
  ·exact .inl (m.z i e).2
  ·exact up i e
 ·have a:=c0 n i hi;have b:=c0 n j o;rw[f n i a] at hi;rw[f n j b] at o;exact m.i i j a b (h.one n _ _ hi o)
 ·rw[K] at x;by_cases e:q.s i 0=0
  ·exact F7 (by cases d:clI (n:Int) (q.s i) with|false=>rfl|true=>exact absurd e (c0 _ _ d))
  ·have:=h.us n x (t i);unfold un at this ⊢;rw[f _ _ e,m.s i e 1 oD,m.s i e 3 oD];exact this
 ·cases d:clI (q.s i 1) (q.s c) with
  |false=>rfl
  |true=>
   have w:=c0 _ _ d;rw[f _ _ w,m.s i l 1 oD] at d;rcases gp i l v y with g|g
   ·rw[h.gp (t i) (n0 i l) (by rw[<-m.s i l 0 oD];exact v) g (t c)] at d;cases d
   ·rw[g c w] at d;cases d
theorem sF {a b:Int} {f:Nat->Int} {k:Nat} (hk:k<6):lY a b f k=f k:=by
 unfold lY;split
 ·unfold upd;rw[ae oA]
 ·rfl
theorem AU {a b:Int} {f:Nat->Int}:lY a b f 6=if f 6=a then b else f 6:=by
 unfold lY;split
 ·rfl
 ·rfl
theorem Ky.move {p:PW} {r:Nat->Nat} (h:Ky (fun _=>False) p r) {a b:Nat} (v:p.s a 0≠0) (H:b<p.IH.length) (y:p.s b 0=0) (J:p.k (b/16)=5) (M:Op p):Ky (fun _=>False) (mvP p a b) (fun i=>if i=b then r a else r i)∧Op (mvP p a b):=by
 have B:=rY v;have x:a≠b:=fun e=>v (e▸y);have S:∀i,(mvP p a b).s i=lY a b (if i=a then eS else if i=b then p.s a else p.s i):=fun i=>by
  show (List.map (lY a b) ((p.IH.set ((b:Int)).toNat (p.IH.getD ((a:Int)).toNat ft)).set ((a:Int)).toNat eS)).getD i eS=_
  rw[ah,ah,show p.IH.getD a ft=p.s a by
   show _=p.IH.getD a eS
   rw[aa,aa,ac B];rfl]
  rw[aa,db, <-dx H (p.s a) eS i, <-dx (l:=p.IH.set b (p.s a)) (by rw[au];exact B) eS eS i,aa]
  cases ((p.IH.set b (p.s a)).set a eS)[i]? with
  |none=>exact (ae (show ¬(-1:Int)=a by omega)).symm
  |some f=>rfl
 have L:∀i k,k<6->(mvP p a b).s i k=if i=a then 0 else if i=b then p.s a k else p.s i k:=fun i k hk=>by
  rw[S,sF hk];split
  ·show (if k=6 then (-1:Int) else 0)=0
   rw[ae oA]
  ·split<;>rfl
 have w:∀i,(mvP p a b).s i 0≠0->i≠a:=fun i hi e=>hi (by rw[L i 0 oD,ag e]);have n0:∀i,i≠a->p.s i 0≠0->(mvP p a b).s i 0≠0:=fun i d m=>by
  rw[L i 0 oD,ae d];split
  ·exact v
  ·exact m
 have N:(mvP p a b).s b 0≠0:=by rw[L b 0 oD,ae (fun e=>x e.symm),ag rfl];exact v
 have six:∀i,i≠a->(mvP p a b).s i 6=if p.s (if i=b then a else i) 6=a then (b:Int) else p.s (if i=b then a else i) 6:=fun i hi=>by
  rw[S,ae hi,AU];split<;>rfl
 have c:∀i,i≠a->∀k,k<6->(mvP p a b).s i k=p.s (if i=b then a else i) k:=fun i hi k hk=>by
  rw[L i k hk,ae hi];split<;>rfl
 refine⟨h.mv (t:=fun i=>if i=b then a else i) ⟨rfl,fun i hi k hk=>c i (w i hi) k hk,fun i hi=>?_,fun i j hi I e=>?_⟩ (fun i hi=>?_) (fun i hi=>?_) (fun i d m o=>?_),fun n K=>?_⟩
 ·have F:i=a∨i≠b∧p.s i 0=0:=by
   by_cases e:i=a
   ·exact .inl e
   ·rw[L i 0 oD,ae e] at hi;by_cases e2:i=b
    ·rw[ag e2] at hi;exact absurd hi v
    ·rw[ae e2] at hi;exact .inr ⟨e2,hi⟩
  rcases F with e|⟨e,e2⟩
  ·refine⟨fun k hk=>by rw[L i k hk,ag e],?_⟩;rw[S,ag e];exact congrFun (ae (show ¬(-1:Int)=a by omega)) 6
  ·have q:i≠a:=fun G=>v (G▸e2);refine⟨fun k hk=>by rw[c i q k hk,ae e];exact (h.em i e2).1 k hk,?_⟩;rw[six i q,ae e,(h.em i e2).2,ae oA]
 ·have d:=w i hi;have m:=w j I;have e:=e;split at e<;>split at e
  ·omega
  ·exact absurd e.symm m
  ·exact absurd e d
  ·exact e
 ·by_cases e:i=b
  ·rw[e];exact .inl J
  ·have:=w i hi;rw[c i this 0 oD,ae e] at hi;exact h.nd i hi
 ·have q:=w i hi;rw[six i q];have F:p.s (if i=b then a else i) 0≠0:=by rw[<-c i q 0 oD];exact hi
  rcases h.up (if i=b then a else i) with d|⟨u,d,m,o,A⟩
  ·rw[d,ae oA];exact .inl rfl
  ·have E:u≠b:=fun e=>m (e▸y);have D:r (if i=b then a else i)=if i=b then r a else r i:=by split<;>rfl
   rw[d];by_cases e:u=a
   ·subst e;rw[ag rfl];refine .inr ⟨b,rfl,N,?_,?_⟩
    ·rw[sk (f:=p.s u) (g:=p.s (if i=b then u else i)) (fun k hk=>by rw[c b (fun e=>x e.symm) k hk,ag rfl]) (fun k hk=>c i q k hk)];exact o
    ·show (if b=b then r u else r b)<if i=b then r u else r i
     rw[ag rfl, <-D];exact A
   ·rw[ae oA];refine .inr ⟨u,rfl,n0 u e m,?_,?_⟩
    ·rw[sk (f:=p.s u) (g:=p.s (if i=b then a else i)) (fun k hk=>by rw[c u e k hk,ae E]) (fun k hk=>c i q k hk)];exact o
    ·show (if u=b then r a else r u)<if i=b then r a else r i
     rw[ae E, <-D];exact A
 ·rw[six i (w i d)] at o
  left
  show p.s (if i=b then a else i) 6= -1
  generalize p.s (if i=b then a else i) 6=z at o ⊢;split at o
  ·omega
  ·exact o
 ·obtain⟨i,hi⟩:=M n K;by_cases e:i=a
  ·subst e;exact⟨b,by rw[jJ (g:=p.s i) (by rw[c b (fun e=>x e.symm) 0 oD,ag rfl]) (by rw[c b (fun e=>x e.symm) 1 oD,ag rfl])];exact hi⟩
  ·have C:i≠b:=fun e2=>(gS.1 hi).1 (e2▸y);exact⟨i,by rw[jJ (g:=p.s i) (by rw[c i e 0 oD,ae C]) (by rw[c i e 1 oD,ae C])];exact hi⟩
