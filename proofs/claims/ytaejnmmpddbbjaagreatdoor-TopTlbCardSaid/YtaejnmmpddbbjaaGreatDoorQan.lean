/- Qan -/
import Derived.Test.YtaejnmmpddbbjaaGreatDoorQam
namespace Go.Proofs.YtaejnmmpddbbjaaGreatDoor.Wd
open Go.RowKit Mem Bw Nums Mmu
def fro (S:List (Nat→Int)) (a:Int):Int:=if 0≤a then (S.getD a.toNat eS) 6 else -1
def itf (S:List (Nat→Int)):Nat→Int→Int
 |0,a=>a
 |n+1,a=>itf S n (fro S a)
def UnS (S:List (Nat→Int)) (t:Nat) (a:Int):Prop:=∃n,itf S n a=t
theorem itf_no (S:List (Nat→Int)):∀n,itf S n (-1)= -1
 |0=>rfl
 |n+1=>itf_no S n
theorem uns_no {S:List (Nat→Int)} {t:Nat}:¬UnS S t (-1):=fun ⟨n,h⟩=>by
 rw[itf_no] at h;omega
theorem uns_self {S:List (Nat→Int)} {t:Nat}:UnS S t t:=⟨0,rfl⟩
theorem uns_step {S:List (Nat→Int)} {t:Nat} {a:Int} (h:a≠t):UnS S t a↔UnS S t (fro S a):=
 ⟨fun ⟨n,e⟩=>by
  cases n with
  |zero=>exact absurd e h
  |succ n=>exact⟨n,e⟩,fun ⟨n,e⟩=>⟨n+1,e⟩⟩
structure Up (r:Nat→Nat) (S:List (Nat→Int)):Prop where
 em:∀i,(S.getD i eS) 0=0→(S.getD i eS) 6= -1
 fr:∀i,(S.getD i eS) 6= -1∨∃u:Nat,(S.getD i eS) 6=u∧u<S.length∧r u<r i
 bd:∀i,r i≤S.length+1
theorem und_full {r:Nat→Nat} {S:List (Nat→Int)} (h:Up r S) {t i:Nat} (a:UnS S t (fro S i)):(S.getD i eS) 0≠0:=fun e=>by
 have b:fro S i= -1:=by
  unfold fro;rw[ag (by omega),ah];exact h.em i e
 rw[b] at a;exact uns_no a
def rkU (p:PW):Nat→Int→Nat
 |0,_=>0
 |n+1,a=>if slotB p a then 1+rkU p n ((p.slots.getD a.toNat eS) 6) else 0
theorem rk_le (p:PW):∀(n:Nat) (a:Int),rkU p n a≤n
 |0,_=>au _
 |n+1,a=>by
  rw[rkU];split
  ·have:=rk_le p n ((p.slots.getD a.toNat eS) 6);omega
  ·omega
theorem rk_stay {p:PW}:∀(n:Nat) (a:Int),slotB p (up p n a)=false→∀m,n≤m→rkU p m a=rkU p n a
 |0,a,h,m,_=>by
  have c:slotB p a=false:=h
  cases m with
  |zero=>rfl
  |succ m=>
   show (if slotB p a then 1+rkU p m ((p.slots.getD a.toNat eS) 6) else 0)=0
   rw[c];rfl
 |n+1,a,h,m,hm=>by
  cases m with
  |zero=>omega
  |succ m=>
   rw[rkU,rkU]
   cases hs:slotB p a with
   |false=>rfl
   |true=>
    obtain⟨j,rfl,b⟩:=slotB_in hs;rw[up_yes b] at h;rw[ah,slot_get b,rk_stay n (p.slots[j] 6) h m (by omega)]
theorem getD_out {S:List (Nat→Int)} {i:Nat} (h:¬i<S.length):S.getD i eS=eS:=by
 rw[aa,aH (by omega)];rfl
theorem snd_up {p:PW} (h:Snd p):∃r,Up r p.slots:=by
 refine⟨fun i=>rkU p (p.slots.length+1) i,fun i c=>?_,fun i=>?_,fun i=>rk_le p _ _⟩
 all_goals
  by_cases hi:i<p.slots.length
  rotate_left
  ·rw[getD_out hi];first|rfl|exact .inl rfl
  have b:bsB p (p.kinds.getD (i/16) 0) p.slots[i]=false:=h.b3 i hi;unfold bsB at b
 ·rw[slot_get hi] at c ⊢
  cases hz:zkB p.slots[i] with
  |true=>rw[hz,ag rfl] at b;simpa using b
  |false=>
   rw[hz,ae (by decide)] at b;simp only[cD,am] at b;have d:=b.1.1.2;unfold opB at d;simp only[am,bp] at d;have hk:=d.1.1;unfold kc at hk;rw[c] at hk;have:zkB p.slots[i]=true:=aF ⟨c,Classical.byContradiction fun g=>by rw[KP.chk_3 g] at hk;cases hk⟩;rw[hz] at this
   cases this
 ·rw[slot_get hi]
  cases hz:zkB p.slots[i] with
  |true=>rw[hz,ag rfl] at b;exact .inl (by simpa using b)
  |false=>
   rw[hz,ae (by decide)] at b;simp only[cD,am,dw] at b;obtain⟨⟨-,a⟩,f⟩:=b;unfold mdB at a;rw[cd] at a;rcases a with a|a
   ·exact .inl (eq_of_beq a)
   ·rw[am] at a;obtain⟨u,e,hl⟩:=slotB_in a.1;refine .inr ⟨u,e,hl,?_⟩;rw[e] at f;show rkU p (p.slots.length+1) u<rkU p (p.slots.length+1) i
    rw[rk_stay p.slots.length u f (p.slots.length+1) (by omega),rkU,show slotB p (i:Int)=true from aF (by omega),ag rfl,ah,slot_get hi,e];omega
def Sl (a b:List (Nat→Int)):Prop:=a.length=b.length∧∀i,(a.getD i eS) 0=(b.getD i eS) 0∨(a.getD i eS) 0=0
theorem Sl.refl (a:List (Nat→Int)):Sl a a:=⟨rfl,fun _=>.inl rfl⟩
theorem Sl.trans {a b c:List (Nat→Int)} (h:Sl a b) (k:Sl b c):Sl a c:=⟨h.1.trans k.1,fun i=>by
 rcases h.2 i with e|e
 ·rw[e];exact k.2 i
 ·exact .inr e⟩
theorem hnd1_eS (s:Nat) (x:Int):hnd1 s x eS=eS:=ae (show ¬(-1:Int)=s by omega)
theorem dA_get (p:PW) (s i:Nat):(drA p s).slots.getD i eS=if i=s then eS else hnd1 s ((p.slots.getD s eS) 6) (p.slots.getD i eS):=by
 show (List.map (hnd1 s ((p.slots.getD s eS) 6)) (p.slots.set s eS)).getD i eS=_
 rw[aa,cR,List.getElem?_set];by_cases e:i=s
 ·subst e;rw[ag rfl,ag rfl];split
  ·exact hnd1_eS i _
  ·rfl
 ·rw[ae e,ae (fun h=>e h.symm),aa (l:=p.slots) (i:=i)]
  cases p.slots[i]? with
  |none=>exact (hnd1_eS s _).symm
  |some f=>rfl
theorem dA_up {r:Nat→Nat} {p:PW} {s:Nat} (h:Up r p.slots):Up r (drA p s).slots:=by
 have hl:(drA p s).slots.length=p.slots.length:=by show (List.map _ _).length=_;rw[bN,ar]
 refine⟨fun i=>?_,fun i=>?_,by rw[hl];exact h.bd⟩<;>rw[dA_get]
 ·split
  ·exact fun _=>rfl
  ·unfold hnd1;split
   ·rename_i e;intro c;have a:=h.em i c;rw[e] at a;omega
   ·exact h.em i
 ·rw[hl];split
  ·exact .inl rfl
  ·unfold hnd1;split
   ·rename_i e;show (p.slots.getD s eS) 6= -1∨∃u:Nat,(p.slots.getD s eS) 6=u∧u<p.slots.length∧r u<r i
    rcases h.fr i with a|⟨u,a,g,j⟩
    ·rw[e] at a;omega
    ·have f:u=s:=by rw[e] at a;omega
     subst f;rcases h.fr u with b|⟨v,b,d,k⟩
     ·exact .inl b
     ·exact .inr ⟨v,b,d,by omega⟩
   ·exact h.fr i
theorem dA_sl (p:PW) (s:Nat):Sl (drA p s).slots p.slots:=by
 refine⟨by show (List.map _ _).length=_;rw[bN,ar],fun i=>?_⟩;rw[dA_get];split
 ·exact .inr rfl
 ·unfold hnd1;split
  ·exact .inl rfl
  ·exact .inl rfl
theorem et_slots (p:PW) (t:Nat):(etP p t).slots=p.slots:=by
 unfold etP;split<;>rfl
theorem ds_slots (p:PW) (f:Nat):(dsP p f).slots=p.slots:=by
 show ((p.lines.getD f []).foldl ds1 p).slots=p.slots
 rw[ds_rest (p.lines.getD f []) p]
theorem da_up {r:Nat→Nat} {dr:PW→Nat→PW} (b:∀p s,Up r p.slots→Up r (dr p s).slots∧Sl (dr p s).slots p.slots) {f:Nat}:∀(a:Nat) (p:PW),Up r p.slots→Up r (daF dr f a p).slots∧Sl (daF dr f a p).slots p.slots
 |0,p,h=>by rw[da_zero];exact⟨h,Sl.refl _⟩
 |a+1,p,h=>by
  rw[da_succ];split
  ·exact da_up b a p h
  ·obtain⟨c,d⟩:=b p (f*16+a) h;obtain⟨e,g⟩:=da_up b (f:=f) a _ c;exact⟨e,g.trans d⟩
theorem dr_up {r:Nat→Nat}:∀(m:Nat) (p:PW) (s:Nat),Up r p.slots→Up r (drF m p s).slots∧Sl (drF m p s).slots p.slots
 |0,p,s,h=>⟨h,Sl.refl _⟩
 |m+1,p,s,h=>by
  have a:=dA_up (s:=s) h;have b:=dA_sl p s;unfold drF;split
  ·exact⟨a,b⟩
  generalize (p.slots.getD s eS) 0=k;generalize ((p.slots.getD s eS) 1).toNat=f;generalize drA p s=q at a b ⊢
  suffices hx:Up r (lsF (drF m) q k f).slots∧Sl (lsF (drF m) q k f).slots q.slots from⟨hx.1,hx.2.trans b⟩
  unfold lsF;split
  ·exact⟨a,Sl.refl _⟩
  split
  ·exact⟨a,Sl.refl _⟩
  split
  ·exact da_up (dr_up m) 16 (fgP 11 (nkP q f) f) a
  split
  ·rw[et_slots];exact⟨a,Sl.refl _⟩
  ·show Up r (dsP (nkP q f) f).slots∧Sl (dsP (nkP q f) f).slots q.slots
   rw[ds_slots];exact⟨a,Sl.refl _⟩
theorem ls_sl {m:Nat} {r:Nat→Nat} {q:PW} (a:Up r q.slots) (k:Int) (f:Nat):Sl (lsF (drF m) q k f).slots q.slots:=by
 unfold lsF;split
 ·exact Sl.refl _
 split
 ·exact Sl.refl _
 split
 ·exact (da_up (dr_up m) 16 (fgP 11 (nkP q f) f) a).2
 split
 ·rw[et_slots];exact Sl.refl _
 ·show Sl (dsP (nkP q f) f).slots q.slots
  rw[ds_slots];exact Sl.refl _
theorem dr_gone {r:Nat→Nat} {m:Nat} {p:PW} {s:Nat} (h:Up r p.slots):((drF (m+1) p s).slots.getD s eS) 0=0:=by
 have a:((drA p s).slots.getD s eS) 0=0:=by rw[dA_get,ag rfl];rfl
 unfold drF;split
 ·exact a
 ·rcases (ls_sl (m:=m) (dA_up (s:=s) h) ((p.slots.getD s eS) 0) ((p.slots.getD s eS) 1).toNat).2 s with e|e
  ·rw[e];exact a
  ·exact e
def neS (S:List (Nat→Int)):Nat:=(List.range S.length).countP fun i=>(S.getD i eS) 0 !=0
theorem cnt_lt {α:Type} (P Q:α→Bool):∀l:List α,(∀x∈l,P x=true→Q x=true)→l.countP P≤l.countP Q∧∀y∈l,P y=false→Q y=true→l.countP P<l.countP Q
 |[],_=>⟨au _,fun _ h=>by cases h⟩
 |x::l,h=>by
  obtain⟨g,f⟩:=cnt_lt P Q l (fun y c=>h y (List.mem_cons_of_mem _ c));have d:=h x (cC ..);rw[List.countP_cons,List.countP_cons];refine⟨?_,fun y c a b=>?_⟩
  ·cases e:P x with
   |false=>simp only[Bool.false_eq_true,if_false];split<;>omega
   |true=>rw[d e];simp only[if_true];omega
  ·rcases bQ.1 c with rfl|c
   ·rw[a,b];simp only[Bool.false_eq_true,if_false,if_true];omega
   ·have:=f y c a b
    cases e:P x with
    |false=>simp only[Bool.false_eq_true,if_false];split<;>omega
    |true=>rw[d e];simp only[if_true];omega
theorem ne_lt {a b:List (Nat→Int)} (h:Sl a b) {s:Nat} (f:(a.getD s eS) 0=0) (c:(b.getD s eS) 0≠0):neS a<neS b:=by
 unfold neS;rw[h.1];refine (cnt_lt _ _ (List.range b.length) fun i _ hi=>?_).2 s (List.mem_range.2 ?_) (by rw[f];rfl) (bne_iff_ne.2 c)
 ·rcases h.2 i with e|e
  ·rw[←e];exact hi
  ·rw[e] at hi;cases hi
 ·by_cases d:s<b.length
  ·exact d
  ·rw[getD_out d] at c;exact absurd rfl c
theorem itf_end {r:Nat→Nat} {S:List (Nat→Int)} (h:Up r S):∀(n:Nat) (u:Nat),r u<n→itf S n u= -1
 |0,_,hr=>absurd hr (ex _)
 |n+1,u,hr=>by
  show itf S n (fro S u)= -1
  have e:fro S u=(S.getD u eS) 6:=by unfold fro;rw[ag (by omega),ah]
  rw[e];rcases h.fr u with a|⟨v,a, -,b⟩
  ·rw[a];exact itf_no S n
  ·rw[a];exact itf_end h n v (by omega)
def unB (S:List (Nat→Int)) (t i:Nat):Bool:=(List.range (S.length+3)).any fun n=>itf S n (fro S i)==(t:Int)
theorem unB_iff {r:Nat→Nat} {S:List (Nat→Int)} (h:Up r S) (t i:Nat):unB S t i=true↔UnS S t (fro S i):=by
 unfold unB;rw[List.any_eq_true];refine⟨fun ⟨n,_,e⟩=>⟨n,eq_of_beq e⟩,fun ⟨n,e⟩=>⟨n,List.mem_range.2 ?_,bp.2 e⟩⟩;refine Nat.lt_of_not_le fun c=>?_;have b:=h.bd i;have a:itf S n (fro S i)= -1:=itf_end h (n+1) i (by omega);rw[a] at e;omega
def luF (S:List (Nat→Int)) (t:Nat):Nat→Int
 |0=> -1
 |n+1=>if unB S t n=true then n else luF S t n
def mdL (S:List (Nat→Int)) (t n:Nat):List Int:=((List.range n).filter (unB S t)).map fun i:Nat=>(i:Int)
theorem mdL_succ (S:List (Nat→Int)) (t n:Nat):mdL S t (n+1)=mdL S t n++if unB S t n=true then [(n:Int)] else []:=by
 unfold mdL;rw[List.range_succ,ew,dX,List.filter_cons];split<;>rfl
theorem md_last (S:List (Nat→Int)) (t:Nat):∀n,(mdL S t n=[]∧luF S t n= -1)∨∃(L:List Int) (j:Nat),mdL S t n=L++[(j:Int)]∧luF S t n=j∧j<n∧unB S t j=true
 |0=>.inl ⟨rfl,rfl⟩
 |n+1=>by
  rw[mdL_succ,luF]
  cases e:unB S t n with
  |true=>exact .inr ⟨mdL S t n,n,by rw[ag rfl],by rw[ag rfl],by omega,e⟩
  |false=>
   rw[ae (by decide),ae (by decide),dB];rcases md_last S t n with h|⟨L,j,a,b,d,c⟩
   ·exact .inl h
   ·exact .inr ⟨L,j,a,b,by omega,c⟩
def rvN (dr:PW→Nat→PW) (t:Nat):Nat→PW→PW
 |0,p=>p
 |n+1,p=>if luF p.slots t p.slots.length= -1 then p else rvN dr t n (dr p (luF p.slots t p.slots.length).toNat)
theorem rv_stop {dr:PW→Nat→PW} {t:Nat} {p:PW} (h:luF p.slots t p.slots.length= -1):∀n,rvN dr t n p=p
 |0=>rfl
 |n+1=>by rw[rvN,ag h]
theorem rv_go {dr:PW→Nat→PW} {t n j:Nat} {p:PW} (h:luF p.slots t p.slots.length=j):rvN dr t (n+1) p=rvN dr t n (dr p j):=by
 rw[rvN,ae (by omega),h,ah]
theorem lu_in {r:Nat→Nat} {S:List (Nat→Int)} (a:Up r S) {t n j:Nat} (h:luF S t n=j):j<n∧(S.getD j eS) 0≠0:=by
 rcases md_last S t n with ⟨-,e⟩|⟨-,i, -,e,b,c⟩
 ·omega
 ·have:i=j:=by omega
  subst this;exact⟨b,und_full a ((unB_iff a t i).1 c)⟩
theorem rv_T {dr:PW→Nat→PW} (a:∀p s X,dr (setT p X) s=setT (dr p s) X) {t:Nat}:∀(n:Nat) (p:PW) (X:List (List Ent)),rvN dr t n (setT p X)=setT (rvN dr t n p) X
 |0,_,_=>rfl
 |n+1,p,X=>by
  have e:luF (setT p X).slots t (setT p X).slots.length=luF p.slots t p.slots.length:=rfl;rw[rvN,rvN,e];split
  ·rfl
  ·rw[a,rv_T a n]
theorem rv_inv {r:Nat→Nat} {m t:Nat}:∀(n:Nat) (p:PW),nds p<m→Inv p→Up r p.slots→Inv (rvN (drF m) t n p)∧(rvN (drF m) t n p).tlbs=p.tlbs
 |0,p,_,h,_=>⟨h,rfl⟩
 |n+1,p,hn,h,hu=>by
  rcases md_last p.slots t p.slots.length with ⟨-,e⟩|⟨-,j, -,e, -, -⟩
  ·rw[rv_stop e];exact⟨h,rfl⟩
  ·obtain⟨d,c⟩:=lu_in hu e;obtain⟨i1,i2, -⟩:=dr_inv m p j hn h d c;obtain⟨a,b⟩:=rv_inv (m:=m) (t:=t) n (drF m p j) (by omega) i1 (dr_up m p j hu).1;rw[rv_go e];exact⟨a,b.trans (dr_tlbs m p j)⟩
theorem rr_slots {m:Nat} {p:PW} {s:Nat} (b:nds p<m) (hi:Inv p) (d:TL p) (c:s<p.slots.length) (a:(p.slots.getD s eS) 0≠0):(drR m p s).slots=(drF m p s).slots:=by
 obtain⟨g,e, -⟩:=rec_any m p s b hi d c a;rw[e];rfl
theorem rv_G {r:Nat→Nat} {m t:Nat}:∀(n:Nat) (p:PW),nds p<m→Inv p→TL p→Up r p.slots→∃g,Gd p (rvN (drF m) t n p) (rvN (drR m) t n p) g
 |0,p,_,_,_,_=>⟨_,Gd.same rfl rfl rfl⟩
 |n+1,p,hn,hi,ht,hu=>by
  rcases md_last p.slots t p.slots.length with ⟨-,e⟩|⟨-,j, -,e, -, -⟩
  ·rw[rv_stop e,rv_stop e];exact⟨_,Gd.same rfl rfl rfl⟩
  obtain⟨b,a⟩:=lu_in hu e;rw[rv_go e,rv_go e];have l:=rr_slots hn hi ht b a;obtain⟨i,o,l1,a1,b1⟩:=rec_any m p j hn hi ht b a;obtain⟨i1,i2, -⟩:=(rr_inv m).1 p j hn hi b a;obtain⟨k,f,l2,c,b2⟩:=rv_G (m:=m) (t:=t) n (drR m p j) (by omega) i1 ((rr_inv m).2 p j hn hi b a ht) (by rw[l];exact (dr_up m p j hu).1);rw[o] at f l2 c b2 ⊢;rw[rv_T (dr_T m)] at f l2 c b2;refine⟨fun e=>k e&&i e,?_,?_,fun e h=>?_,fun e h d=>?_⟩
  ·rw[f, ←filt_two];rfl
  ·exact Lo.trans (q:=drF m p j) ⟨l2.kinds,l2.len,l2.ram⟩ l1
  ·rw[am];exact⟨c e h,a1 e (l2.told h)⟩
  ·rw[am] at d;exact b2 e (b1 e h d.2) d.1
theorem rv_eq {r:Nat→Nat} {p:PW} (d:p.Fits) (h:Snd p) {m t n:Nat} (c:nds p<m) (f:Up r p.slots):rvN (drR m) t n p=fgt (rvN (drF m) t n p):=by
 obtain⟨g,e,lo,a,b⟩:=rv_G (t:=t) n p c (snd_inv d h) (snd_tl h) f;rw[e];unfold fgt setT;rw[(rv_inv (t:=t) n p c (snd_inv d h) f).2];have e:p.tlbs.map (List.filter g)=p.tlbs.map (goneP fun e=> !toldB (rvN (drF m) t n p) e):=List.map_congr_left fun l hl=>by
  unfold goneP;refine List.filter_congr fun e j=>?_;have i:=(snd_told h hl).2 e j;rw[Bool.not_not]
  cases e1:toldB (rvN (drF m) t n p) e with
  |true=>exact a e e1
  |false=>
   cases e2:g e with
   |false=>rfl
   |true=>rw[b e i e2] at e1;cases e1
 rw[e]
def rvoP (p:PW) (a:Int):PW:=if sndB p=true∧hasE p a=0 then fgt (rvN (drF (nds p+1)) a.toNat (neS p.slots) p) else p
theorem rk_yes {p:PW} {j:Nat} (h:Snd p) (a:hasE p j=0):rvoP p j=fgt (rvN (drF (nds p+1)) j (neS p.slots) p):=by
 unfold rvoP;rw[ag ⟨snd_back h,a⟩,ah]
def mvP (p:PW) (a b:Int):PW:={p with slots:=hnd a b ((p.slots.set b.toNat (p.slots.getD a.toNat nkey)).set a.toNat eS)}
theorem boE_ne {p:PW} {i j:Nat} (h:boE p i j=0):i≠j:=by
 intro e;subst e;unfold boE hasE opE at h
 cases hs:slotB p i with
 |false=>rw[hs] at h;simp at h
 |true=>
  rw[hs] at h;simp only[if_true,ah] at h;by_cases a:(p.slots.getD i nkey) 0=0
  ·rw[ag a] at h;simp at h
  ·rw[ae a,ag rfl,ae a] at h;split at h<;>simp at h
set_option maxRecDepth 100000
set_option maxHeartbeats 4000000
theorem moveKey_any_all (a b:Int) (p:PW) (y:p.Fits) (hl:∀l∈p.tlbs,l.length≤100) (hs:Snd p) (W:World) (wb:Nat) (tag:Nat→Nat) (V:Nat→Value) (bt:BoxT W wb tag V p):
  Calls Tryz.prog 14 #[.pointer (some ⟨wb,0,none⟩),.int .i64 a,.int .i64 b] W fun x B=>x=.returned (.int .i64 (boE p a b))∧∃tag',Kt tag tag' W B∧(boE p a b=0→∃V',BoxT B wb tag' V' (mvP p a b))∧(boE p a b≠0→B=W):=by
 have t:=hid bt;have w:=hid (both_ref wb V p a b W (bt.view y hl) hs.lf.slots);have ad:=hid y.slots;have an:(p.slots.length:Int)≤1000:=by have:=y.slots;omega
 clear hs hl y bt;by_cases m:boE p a b=0
 rotate_left
 ·have J:=hid m;have ag:(boE p a b !=0)=true:=by simpa using m
  generalize boE p a b=x at w J ag ⊢;clear m;go_enter Tryz.func14,Tryz.ntmps14
  go_wp2_with fail
  refine w.mono ?_;rintro q w1 ⟨rfl,rfl⟩;go_wp2_with fail
  go_ret
  exact⟨rfl,tag,Kt.refl _ _,fun h=>(absurd h J),fun _=>rfl⟩
 obtain⟨i,j,rfl,rfl,hi,hj⟩:=boE_in m;have ai:=boE_ne m;have I:=hid m;rw[m] at w;have al:(i:Int)<(p.slots.length:Int):=by omega
 have am:(j:Int)<(p.slots.length:Int):=by omega
 obtain⟨g,cap,e2⟩:=t.o.slots.form (by omega);obtain⟨s,D⟩:∃s,p.slots[i]=s:=⟨_,rfl⟩
 have ae:=hid (show mvP p i j={p with slots:=hnd i j ((p.slots.set i eS).set j s)} by unfold mvP;rw[ah,ah,aa,ac hi,aS,D,List.set_comm _ _ (fun e=>ai e.symm)]);have c2:W.cell? ⟨wb,2,none⟩=some (.slice (some ⟨g,0,none⟩) p.slots.length cap):=by rw[af t.r (k:=2) rfl,e2]
 have M:=hid (show W.rangeAt g (i*7) (cf 7 s) from by
  have c:=t.o.slots;rw[e2] at c;have C:=c.range hi;rw[D] at C;exact C)
 have F:=hid (bal (aj W.heap.size W) (.cells #[.int .i64 0,.int .i64 0,.int .i64 0,.int .i64 0,.int .i64 0,.int .i64 0,.int .i64 0] 80));have A:=hid (aM W #[.int .i64 0,.int .i64 0,.int .i64 0,.int .i64 0,.int .i64 0,.int .i64 0,.int .i64 0] 80 W.heap.size 7 rfl (by decide));have H:=hid (dZ F (au _) (cf 7 s) 0);have RX:=hid (World.rangeAt_setCells_same (W.alloc (.cells #[.int .i64 0,.int .i64 0,.int .i64 0,.int .i64 0,.int .i64 0,.int .i64 0,.int .i64 0] 80)) W.heap.size 0 (cf 7 s) (by rw[ax];exact A));clear m D;go_enter Tryz.func14,Tryz.ntmps14
 go_wp2_with fail
 refine w.mono ?_;rintro q w1 ⟨rfl,rfl⟩;go_upto_region 5 with (first|((with_reducible refine gld 80 ?_);refine wp_ldS rfl _ rfl g (i*7) rfl (cf 7 s) (ax _ _) M ?_)|((with_reducible refine gst 80 ?_);refine wp_stS rfl _ _ rfl W.heap.size 0 rfl (cf 7 s) rfl (ax _ _) (bK _ _) A ?_))
 generalize World.setCells _ _ _ _=n at*;clear c2 A F M;have u:=hid (t.below H);have c2:n.cell? ⟨wb,2,none⟩=some (.slice (some ⟨g,0,none⟩) p.slots.length cap):=by rw[af u.r (k:=2) rfl,e2]
 have O:=hid (show n.there g (i*7) 7 from by
  have c:=u.o.slots;rw[e2] at c;exact c.there (i*7) 7 (by omega))
 obtain⟨b2,k2⟩:=u.slotsRow e2 hi eS;have E:=hid b2;have K2:=hid (show Kt tag tag W (n.setCells g (i*7) (cf 7 eS)) from Kt.trans (.below H) k2);have Z:V 2=.slice (some ⟨g,0,none⟩) (p.slots.set i eS).length cap:=by rw[ar];exact e2
 have d2:(n.setCells g (i*7) (cf 7 eS)).cell? ⟨wb,2,none⟩=some (.slice (some ⟨g,0,none⟩) p.slots.length cap):=by rw[af b2.r (k:=2) rfl,e2]
 have ab:g≠W.heap.size:=fun e=>by
  have c:=t.o.slots;rw[e2] at c;have:=(c.1.lt g rfl).2;omega
 have z:=hid (show (n.setCells g (i*7) (cf 7 eS)).rangeAt W.heap.size 0 (cf 7 s) from fun k v hk=>by
  rw[cell_setCells (fun e=>ab e.symm)];exact RX k v hk)
 have P:=hid (show (n.setCells g (i*7) (cf 7 eS)).there g (j*7) 7 from by
  have c:=b2.o.slots;simp only at c;rw[Z] at c;exact c.there (j*7) 7 (by rw[ar];omega))
 clear b2 k2;go_upto_region 6 with (first|((with_reducible refine gst 80 ?_);refine wp_stS rfl _ _ rfl g (i*7) rfl (cf 7 eS) rfl (ax _ _) (bK _ _) O ?_))
 generalize World.setCells _ _ _ _=d at*;clear c2 O u;have G:Hid (Below d.heap.size d d.drew):=hid (aA d 1);have L:=hid (show d.drew.cell? ⟨wb,2,none⟩=some (.slice (some ⟨g,0,none⟩) p.slots.length cap)∧d.drew.rangeAt W.heap.size 0 (cf 7 s) from⟨d2,z.out⟩);obtain⟨b3,k3⟩:=(E.below G).slotsRow Z (i:=j) (by show j<(p.slots.set i eS).length;rw[ar];exact hj) s;have B3:=hid b3;have K3:=hid ((K2.trans (.below G)).trans k3);have Q:=hid (show d.drew.there g (j*7) 7 from P);have R:(d.drew.setCells g (j*7) (cf 7 s)).cell? ⟨wb,2,none⟩=some (.slice (some ⟨g,0,none⟩) p.slots.length cap):=by rw[af b3.r (k:=2) rfl,e2]
 have N:=hid (show (d.drew.setCells g (j*7) (cf 7 s)).rangeAt W.heap.size 0 (cf 7 s) from fun k v hk=>by
  rw[cell_setCells (fun e=>ab e.symm)];exact z k v hk)
 clear b3 k3;refine wp_region_held_drew (S:=fun X=>X.cell? ⟨wb,2,none⟩=some (.slice (some ⟨g,0,none⟩) p.slots.length cap)∧X.rangeAt W.heap.size 0 (cf 7 s)) (by kernel_rfl) L (fun U=>?_);have f:=hid U;clear U;refine tk 0 (.pointer (some ⟨wb,0,none⟩)) rfl f ?_;simp only[jj];refine tk 1 (.pointer (some ⟨wb,0,none⟩)) rfl f ?_;simp only[jj];refine tk 2 (.pointer (some ⟨wb,2,none⟩)) rfl f ?_;simp only[jj];refine tg 3 (.slice (some ⟨g,0,none⟩) p.slots.length cap) rfl (Or.inl ⟨by rfl,fun W h=>by have C:=h.1;clear h;go_simp⟩) f ?_;simp only[jj];refine tk 4 (.int .i64 j) rfl f ?_;simp only[jj];refine tg 5 (.agg (cf 7 s).toArray) rfl (yieldsIf_load_mid (by rfl) _ _ rfl _ _ rfl (cf 7 s) _ (fun _ h=>h.2) Tryz.underlying80 rfl (by rw[ax];exact info7s)) f ?_;simp only[jj];refine tk 6 (.pointer (some ⟨g,j*7,none⟩)) rfl f ?_;simp only[jj];refine wpAnyH_ready (rs:=[7]) (by kernel_rfl) (by simp) (AllReadyH.cons rfl (fun K Y=>?_) AllReadyH.nil);refine wp_store_mid 80 _ _ rfl g (j*7) (cf 7 s).toArray rfl rfl Q (by rw[info7s];rfl) (all_oneCell_toArray (bK 7 s)) ?_;generalize World.setCells _ _ _ _=W3 at*;refine Y _ _ ⟨R,N.out⟩ (fun _=>?_);clear Y K f
 try simp only[Act.put]
 refine dC (by kernel_rfl) ?_ _;have HH:=hid (turn_ref wb tag V {p with slots:=(p.slots.set i eS).set j s} i j W3 B3 (by show ((p.slots.set i eS).set j s).length≤1000;rw[ar,ar];exact ad));clear L P Q E z N d2 R;go_wp2_with fail
 refine HH.mono ?_;rintro q w4 ⟨rfl,T,c⟩;have H1:=hid T;have H2:=hid c;clear T c;go_wp2_with fail
 go_ret
 exact⟨by rw[I.out];rfl,tag,K3.trans H2,fun _=>⟨V,by rw[ae.out];exact H1⟩,fun h=>absurd (by first|rfl|assumption|exact I) h⟩
set_option maxRecDepth 512
set_option maxHeartbeats 200000
structure Ky (D:Nat→Prop) (p:PW) (r:Nat→Nat):Prop where
 em:∀i,p.s i 0=0→(∀k,k<6→p.s i k=0)∧p.s i 6= -1
 nd:∀i,p.s i 0≠0→p.k (i/16)=5∨D (i/16)
 key:∀i,p.s i 0≠0→KeyOk p (p.s i)
 up:∀i,p.s i 6= -1∨∃u:Nat,p.s i 6=u∧p.s u 0≠0∧cmB (p.s u) (p.s i)=true∧r u<r i
 one:∀(n:Int) i j,clI n (p.s i)=true→clI n (p.s j)=true→i=j
 us:∀n,p.k n≠0→∀i,un n (p.s i)=false
 gp:∀i,p.s i 0≠0→p.s i 0≠1→p.s i 6= -1→∀c,clI (p.s i 1) (p.s c)=false
def Op (p:PW):Prop:=∀n,p.k n≠0→∃i,opn n (p.s i)=true
def ksP (K:List Int) (S:List (Nat→Int)):PW:=⟨[],K,S,[],[],[],[],[],[],[],0⟩
theorem Ky.to {D:Nat→Prop} {p q:PW} {r:Nat→Nat} (h:Ky D p r) (e1:q.kinds=p.kinds) (e2:q.slots=p.slots):Ky D q r:=by
 have a:Ky D (ksP q.kinds q.slots) r:=by
  rw[e1,e2];exact⟨h.em,h.nd,fun i hi=>⟨(h.key i hi).c,(h.key i hi).le,(h.key i hi).is⟩,h.up,h.one,h.us,h.gp⟩
 exact⟨a.em,a.nd,fun i hi=>⟨(a.key i hi).c,(a.key i hi).le,(a.key i hi).is⟩,a.up,a.one,a.us,a.gp⟩
theorem nfl_ne (S:List (Nat→Int)):nfl S=neS S:=by
 have e:(List.range S.length).map (fun i=>S.getD i eS)=S:=by
  apply List.ext_getElem
  ·simp
  ·intro i b a;simp[a]
 unfold nfl neS
 conv=>lhs;rw[←e,List.countP_map]
 rfl
def rkC (p:PW) (r:Nat→Nat) (i:Nat):Nat:=(List.range p.slots.length).countP fun j=>p.s j 0 !=0&&decide (r j<r i)
theorem Ky.keys {p:PW} {r:Nat→Nat} (h:Ky (fun _=>False) p r) (g:Op p):Keys p (rkC p r):=by
 refine⟨h.em,fun i hi=>(h.nd i hi).elim id False.elim,h.key,fun i=>?_,fun i hi=>?_,h.one,fun n f=>?_,h.us,h.gp⟩
 ·rcases h.up i with c|⟨u,c,b,d,e⟩
  ·exact .inl c
  ·refine .inr ⟨u,c,s_in b,b,d,(cnt_lt _ _ _ fun x _ a=>?_).2 u (List.mem_range.2 (s_in b)) ?_ ?_⟩
   ·rw[am] at a ⊢;exact⟨a.1,aF (by have:=az a.2;omega)⟩
   ·rw[ay (by omega),Bool.and_false]
   ·rw[aF e,Bool.and_true];exact bne_iff_ne.2 b
 ·rw[nfl_ne];refine (cnt_lt _ _ _ fun x _ a=>?_).2 i (List.mem_range.2 (s_in hi)) ?_ (bne_iff_ne.2 hi)
  ·exact (am _ _▸a:_∧_).1
  ·rw[ay (by omega),Bool.and_false]
 ·obtain⟨i,hi⟩:=g n f;exact⟨i,s_in (opn_iff.1 hi).1,hi⟩
theorem clI_same {n:Int} {f g:Nat→Int} (a:f 0=g 0) (b:f 1=g 1) (c:f 2=g 2):clI n f=clI n g:=by unfold clI;rw[a,b,c]
theorem opn_same {n:Int} {f g:Nat→Int} (a:f 0=g 0) (b:f 1=g 1):opn n f=opn n g:=by unfold opn;rw[a,b]
theorem kc_same {f g:Nat→Int} (h:∀k,k<6→f k=g k):kc f=kc g:=by unfold kc;rw[h 0,h 1,h 2,h 3,h 4,h 5]<;>decide
theorem cm_same {a b f g:Nat→Int} (h:∀k,k<6→a k=f k) (k:∀k,k<6→b k=g k):cmB a b=cmB f g:=by
 unfold cmB;rw[h 0,h 1,h 3,h 4,h 5,k 0,k 1,k 4,k 5]<;>decide
theorem clay_top {f s:Nat→Int} (h:cmB f s=true):s 0≠1:=fun e=>by
 unfold cmB at h;split at h
 ·rw[e] at h;cases h
 ·rename_i h2;simp only[am,bp] at h;exact h2 (h.1.1.1.symm.trans e)
structure Mv (p q:PW) (t:Nat→Nat):Prop where
 kd:q.kinds=p.kinds
 s:∀i,q.s i 0≠0→∀k,k<6→q.s i k=p.s (t i) k
 z:∀i,q.s i 0=0→(∀k,k<6→q.s i k=0)∧q.s i 6= -1
 i:∀i j,q.s i 0≠0→q.s j 0≠0→t i=t j→i=j
theorem Ky.mv {D:Nat→Prop} {p q:PW} {r r':Nat→Nat} {t:Nat→Nat} (h:Ky D p r) (m:Mv p q t)
  (nd:∀i,q.s i 0≠0→q.k (i/16)=5∨D (i/16))
  (up:∀i,q.s i 0≠0→q.s i 6= -1∨∃u:Nat,q.s i 6=u∧q.s u 0≠0∧cmB (q.s u) (q.s i)=true∧r' u<r' i)
  (gp:∀i,q.s i 0≠0→q.s i 0≠1→q.s i 6= -1→p.s (t i) 6= -1∨∀c,q.s c 0≠0→clI (p.s (t i) 1) (p.s (t c))=false):Ky D q r':=by
 have K:∀n,q.k n=p.k n:=fun n=>by show q.kinds.getD n 0=_;rw[m.kd]
 have n0:∀i,q.s i 0≠0→p.s (t i) 0≠0:=fun i hi=>by rw[←m.s i hi 0 (by decide)];exact hi
 have f:∀(n:Int) i,q.s i 0≠0→clI n (q.s i)=clI n (p.s (t i)):=fun n i hi=>clI_same (m.s i hi 0 (by decide)) (m.s i hi 1 (by decide)) (m.s i hi 2 (by decide));have c0:∀(n:Int) i,clI n (q.s i)=true→q.s i 0≠0:=fun n i hi=>by rw[(clI_iff.1 hi).1];decide
 refine⟨m.z,nd,fun i hi=>?_,fun i=>?_,fun n i j hi o=>?_,fun n x i=>?_,fun i l v y c=>?_⟩
 ·have k:=h.key (t i) (n0 i hi);refine⟨(kc_same (m.s i hi)).trans k.c,?_,?_⟩
  ·rw[m.s i hi 1 (by decide),m.s i hi 2 (by decide),m.kd];exact k.le
  ·rw[m.s i hi 1 (by decide),m.s i hi 0 (by decide)];exact k.is.elim .inl fun e=>.inr (by unfold isB kindAt at e ⊢;rw[m.kd];exact e)
 ·by_cases e:q.s i 0=0
  ·exact .inl (m.z i e).2
  ·exact up i e
 ·have a:=c0 n i hi;have b:=c0 n j o;rw[f n i a] at hi;rw[f n j b] at o;exact m.i i j a b (h.one n _ _ hi o)
 ·rw[K] at x;by_cases e:q.s i 0=0
  ·exact un_cl (by cases d:clI (n:Int) (q.s i) with|false=>rfl|true=>exact absurd e (c0 _ _ d))
  ·have:=h.us n x (t i);unfold un at this ⊢;rw[f _ _ e,m.s i e 1 (by decide),m.s i e 3 (by decide)];exact this
 ·cases d:clI (q.s i 1) (q.s c) with
  |false=>rfl
  |true=>
   have w:=c0 _ _ d;rw[f _ _ w,m.s i l 1 (by decide)] at d;rcases gp i l v y with g|g
   ·rw[h.gp (t i) (n0 i l) (by rw[←m.s i l 0 (by decide)];exact v) g (t c)] at d;cases d
   ·rw[g c w] at d;cases d
theorem hnd1_lt {a b:Int} {f:Nat→Int} {k:Nat} (hk:k<6):hnd1 a b f k=f k:=by
 unfold hnd1;split
 ·unfold upd;rw[ae (by omega)]
 ·rfl
theorem hnd1_6 {a b:Int} {f:Nat→Int}:hnd1 a b f 6=if f 6=a then b else f 6:=by
 unfold hnd1;split
 ·rfl
 ·rfl
theorem Ky.move {p:PW} {r:Nat→Nat} (h:Ky (fun _=>False) p r) {a b:Nat} (v:p.s a 0≠0) (H:b<p.slots.length) (y:p.s b 0=0) (J:p.k (b/16)=5) (M:Op p):Ky (fun _=>False) (mvP p a b) (fun i=>if i=b then r a else r i)∧Op (mvP p a b):=by
 have B:=s_in v;have x:a≠b:=fun e=>v (e▸y);have S:∀i,(mvP p a b).s i=hnd1 a b (if i=a then eS else if i=b then p.s a else p.s i):=fun i=>by
  show (List.map (hnd1 a b) ((p.slots.set ((b:Int)).toNat (p.slots.getD ((a:Int)).toNat nkey)).set ((a:Int)).toNat eS)).getD i eS=_
  rw[ah,ah,show p.slots.getD a nkey=p.s a by
   show _=p.slots.getD a eS
   rw[aa,aa,ac B];rfl]
  rw[aa,cR, ←getD_set H (p.s a) eS i, ←getD_set (l:=p.slots.set b (p.s a)) (by rw[ar];exact B) eS eS i,aa]
  cases ((p.slots.set b (p.s a)).set a eS)[i]? with
  |none=>exact (ae (show ¬(-1:Int)=a by omega)).symm
  |some f=>rfl
 have L:∀i k,k<6→(mvP p a b).s i k=if i=a then 0 else if i=b then p.s a k else p.s i k:=fun i k hk=>by
  rw[S,hnd1_lt hk];split
  ·show (if k=6 then (-1:Int) else 0)=0
   rw[ae (by omega)]
  ·split<;>rfl
 have w:∀i,(mvP p a b).s i 0≠0→i≠a:=fun i hi e=>hi (by rw[L i 0 (by decide),ag e]);have n0:∀i,i≠a→p.s i 0≠0→(mvP p a b).s i 0≠0:=fun i d m=>by
  rw[L i 0 (by decide),ae d];split
  ·exact v
  ·exact m
 have N:(mvP p a b).s b 0≠0:=by rw[L b 0 (by decide),ae (fun e=>x e.symm),ag rfl];exact v
 have six:∀i,i≠a→(mvP p a b).s i 6=if p.s (if i=b then a else i) 6=a then (b:Int) else p.s (if i=b then a else i) 6:=fun i hi=>by
  rw[S,ae hi,hnd1_6];split<;>rfl
 have c:∀i,i≠a→∀k,k<6→(mvP p a b).s i k=p.s (if i=b then a else i) k:=fun i hi k hk=>by
  rw[L i k hk,ae hi];split<;>rfl
 refine⟨h.mv (t:=fun i=>if i=b then a else i) ⟨rfl,fun i hi k hk=>c i (w i hi) k hk,fun i hi=>?_,fun i j hi I e=>?_⟩ (fun i hi=>?_) (fun i hi=>?_) (fun i d m o=>?_),fun n K=>?_⟩
 ·have F:i=a∨i≠b∧p.s i 0=0:=by
   by_cases e:i=a
   ·exact .inl e
   ·rw[L i 0 (by decide),ae e] at hi;by_cases e2:i=b
    ·rw[ag e2] at hi;exact absurd hi v
    ·rw[ae e2] at hi;exact .inr ⟨e2,hi⟩
  rcases F with e|⟨e,e2⟩
  ·refine⟨fun k hk=>by rw[L i k hk,ag e],?_⟩;rw[S,ag e];exact congrFun (ae (show ¬(-1:Int)=a by omega)) 6
  ·have q:i≠a:=fun G=>v (G▸e2);refine⟨fun k hk=>by rw[c i q k hk,ae e];exact (h.em i e2).1 k hk,?_⟩;rw[six i q,ae e,(h.em i e2).2,ae (by omega)]
 ·have d:=w i hi;have m:=w j I;have e:(if i=b then a else i)=(if j=b then a else j):=e;split at e<;>split at e
  ·omega
  ·exact absurd e.symm m
  ·exact absurd e d
  ·exact e
 ·by_cases e:i=b
  ·rw[e];exact .inl J
  ·have:=w i hi;rw[c i this 0 (by decide),ae e] at hi;exact h.nd i hi
 ·have q:=w i hi;rw[six i q];have F:p.s (if i=b then a else i) 0≠0:=by rw[←c i q 0 (by decide)];exact hi
  rcases h.up (if i=b then a else i) with d|⟨u,d,m,o,A⟩
  ·rw[d,ae (by omega)];exact .inl rfl
  ·have E:u≠b:=fun e=>m (e▸y);have D:r (if i=b then a else i)=if i=b then r a else r i:=by split<;>rfl
   rw[d];by_cases e:u=a
   ·subst e;rw[ag rfl];refine .inr ⟨b,rfl,N,?_,?_⟩
    ·rw[cm_same (f:=p.s u) (g:=p.s (if i=b then u else i)) (fun k hk=>by rw[c b (fun e=>x e.symm) k hk,ag rfl]) (fun k hk=>c i q k hk)];exact o
    ·show (if b=b then r u else r b)<if i=b then r u else r i
     rw[ag rfl, ←D];exact A
   ·rw[ae (by omega)];refine .inr ⟨u,rfl,n0 u e m,?_,?_⟩
    ·rw[cm_same (f:=p.s u) (g:=p.s (if i=b then a else i)) (fun k hk=>by rw[c u e k hk,ae E]) (fun k hk=>c i q k hk)];exact o
    ·show (if u=b then r a else r u)<if i=b then r a else r i
     rw[ae E, ←D];exact A
 ·rw[six i (w i d)] at o
  left
  show p.s (if i=b then a else i) 6= -1
  generalize p.s (if i=b then a else i) 6=z at o ⊢;split at o
  ·omega
  ·exact o
 ·obtain⟨i,hi⟩:=M n K;by_cases e:i=a
  ·subst e;exact⟨b,by rw[opn_same (g:=p.s i) (by rw[c b (fun e=>x e.symm) 0 (by decide),ag rfl]) (by rw[c b (fun e=>x e.symm) 1 (by decide),ag rfl])];exact hi⟩
  ·have C:i≠b:=fun e2=>(opn_iff.1 hi).1 (e2▸y);exact⟨i,by rw[opn_same (g:=p.s i) (by rw[c i e 0 (by decide),ae C]) (by rw[c i e 1 (by decide),ae C])];exact hi⟩
end Go.Proofs.YtaejnmmpddbbjaaGreatDoor.Wd
