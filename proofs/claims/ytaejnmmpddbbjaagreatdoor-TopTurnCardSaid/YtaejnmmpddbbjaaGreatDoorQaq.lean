/- Qaq -/
import Derived.Deep.RegionHeld3
import Derived.Test.YtaejnmmpddbbjaaGreatDoorQap
set_option maxRecDepth 100000
set_option maxHeartbeats 16000000
namespace Go.Proofs.YtaejnmmpddbbjaaGreatDoor
namespace Wd
open Go.RowKit Mem Bw Nums Mmu
theorem iF {p:PW} {z k:Int} (h:isB p z k=true):∃t:Nat,z=t∧p.kinds[t]? =some k:=by
 unfold isB fI at h;by_cases a:0<=z
 ·rw[ah a] at h;exact⟨z.toNat,oA,eq_of_beq h⟩
 ·rw[ae a] at h
  cases h
theorem wG {p:PW} {t:Nat} {k:Int} (h:p.kinds[t]? =some k):isB p t k=true:=by
 unfold isB fI;rw[ah oA,af,h];exact beq_self_eq_true _
theorem Bi {p:PW} (h:Snd p) {f:Nat->Int} (c:f∈p.IA):ffB p f=true∨∀k,k<20->f k=bl k:=by
 obtain⟨t,d⟩:=List.mem_iff_getElem?.1 c;obtain⟨hl,e⟩:=List.getElem?_eq_some_iff.1 d;have a:btB p t (p.kinds.getD t 0) p.IA[t]=false:=h.b5 t hl;rw[e] at a;unfold btB at a;by_cases b:p.kinds.getD t 0=6
 ·rw[ah b] at a;simp only[cQ,am] at a;exact .inl a.1.1.1.2
 ·rw[ae b,cQ] at a;exact .inr (kx.1 a)
theorem m9 {p:PW} (F:p.Fits) (h:Snd p):Inv p:=by
 refine⟨F,h.lf.k2,h.lf.IE,h.lf.IB,h.lf.IA,h.lf.lines,h.lf.bits,fun f n=>?_,fun l hl z I=>?_,fun f n=>?_,fun i x k H hk J=>?_,fun f n=>?_⟩
 ·obtain⟨s,G⟩:=List.mem_iff_getElem?.1 n;obtain⟨hl,e⟩:=List.getElem?_eq_some_iff.1 G;by_cases m:f 0=0
  ·exact .inl m
  by_cases c:f 0=1
  ·exact .inr (.inl c)
  have q:=Bk h hl (by rw[e];exact m);rw[e] at q;unfold opB at q;rw[am,cJ] at q;rcases q.2 with d|d
  ·exact absurd (eq_of_beq d) c
  obtain⟨b,A,hk⟩:=iF d;obtain⟨B,E⟩:=List.getElem?_eq_some_iff.1 hk;have g:nkB p.kinds[b]=false:=h.b1 b B;rw[E] at g;unfold nkB at g;rw[eQ,cQ,bp] at g;exact .inr (.inr ⟨oA,g.1.2,b,A,hk⟩)
 ·obtain⟨a,w⟩:=List.mem_iff_getElem?.1 hl;obtain⟨y,e⟩:=List.getElem?_eq_some_iff.1 w;have c:blB p a (p.kinds.getD a 0) (p.bits.getD a 0) p.lines[a]=false:=h.b6 a y;rw[e] at c;unfold blB at c;rw[eQ] at c;have d:tB p a (l.getD 0 0) z=false:=by
   have:=bR.1 c.2 z I;simpa using this
  obtain⟨t,r,hk⟩:=iF (Dl d);exact⟨t,r,by rw[h.lf.IA];exact (List.getElem?_eq_some_iff.1 hk).1⟩
 ·rcases Bi h n with c|c
  ·rcases xK h.lf.IA c with d|⟨j,D,d⟩
   ·exact .inl d
   ·exact .inr ⟨j,d,D⟩
  ·exact .inl (by rw[c 17 oA];rfl)
 ·obtain⟨C,e⟩:=List.getElem?_eq_some_iff.1 H;have c:beB p (p.kinds.getD (i/16) 0) p.IE[i]=false:=h.b9 i C;rw[e,aa,hk,aG] at c;unfold beB at c;by_cases m:x=0
  ·exact .inl m
  have u:(x==0)=false:=by simpa using m
  have k24:=h.lf.k2
  right
  by_cases v:k=4
  ·rw[ah v,u] at c;have d:isB p (x - 32768) 3=true:=by simpa using c
   obtain⟨t,r,o⟩:=iF d;have:=(List.getElem?_eq_some_iff.1 o).1;exact⟨t,oA,.inl oA⟩
  ·have g:k=3:=oA;rw[ae v,ah g,u] at c;have d:isB p (x - 32768) 2=true∨isB p (x - 32768 - 16384) 2=true:=by
    cases e1:isB p (x - 32768) 2 with
    |true=>exact .inl rfl
    |false=>rw[e1] at c;right;simpa using c
   rcases d with d|d
   ·obtain⟨t,r,o⟩:=iF d;have:=(List.getElem?_eq_some_iff.1 o).1;exact⟨t,oA,.inl oA⟩
   ·obtain⟨t,r,o⟩:=iF d;have:=(List.getElem?_eq_some_iff.1 o).1;exact⟨t,oA,.inr oA⟩
 ·rcases Bi h n with c|c
  ·unfold ffB at c;simp only[am] at c;have d:=c.1.2;unfold fG at d;rw[cJ] at d;rcases d with d|d
   ·exact .inl (eq_of_beq d)
   ·exact .inr (iF d)
  ·exact .inl (by rw[c 13 oA];rfl)
theorem mg {p:PW} (h:Snd p) {l:List Ent} (hl:l∈p.ID):l.length<=4∧∀e∈l,fi p e=true:=by
 obtain⟨c,g⟩:=List.mem_iff_getElem?.1 hl;obtain⟨i,e⟩:=List.getElem?_eq_some_iff.1 g;have a:bmB p p.ID[c]=false:=h.Kg c i;rw[e] at a;unfold bmB at a;rw[eQ,decide_eq_false_iff_not] at a;refine⟨oA,fun x m=>?_⟩;obtain⟨j,d⟩:=List.mem_iff_getElem?.1 m;obtain⟨k, -⟩:=List.getElem?_eq_some_iff.1 d;have b:=bR.1 a.2 j (List.mem_range.2 k);rw[d] at b;have f:emB p l j x=false:=by simpa using b
 exact (zd f).1
theorem uj {p:PW} (h:Snd p):TL p:=by
 refine⟨fun l hl=>?_,fun l hl e b=>?_,fun z d=>?_⟩
 ·have:=(mg h hl).1;omega
 ·have a:=(mg h hl).2 e b;unfold fi at a;simp only[am,bp] at a;exact a.1.2
 ·obtain⟨i,hi⟩:=List.mem_iff_getElem?.1 d;obtain⟨c,e⟩:=List.getElem?_eq_some_iff.1 hi;have a:nwB p.IE[i]=false:=h.b0 i c;rw[e] at a;unfold nwB wB at a;rw[cQ,bp] at a;omega
def je (p:PW) (X:List (List Ent)):PW:={p with ID:=X}
theorem Ir (p:PW) (t:Nat) (X:List (List Ent)):etP (je p X) t=je (etP p t) X:=by
 unfold etP;by_cases h:p.IA.getD t bl 17= -1
 ·have a:(je p X).IA.getD t bl 17= -1:=h;rw[ah a,ah h];rfl
 ·have a:¬(je p X).IA.getD t bl 17= -1:=h;rw[ae a,ae h];rfl
theorem Ex:∀(l:List Int) (p:PW) (X:List (List Ent)),l.foldl ds1 (je p X)=je (l.foldl ds1 p) X
 |[],_,_=>rfl
 |z::l,p,X=>by rw[ey,ey,show ds1 (je p X) z=je (ds1 p z) X from rfl,Ex l]
theorem Iq (p:PW) (f:Nat) (X:List (List Ent)):dsP (je p X) f=je (dsP p f) X:=by
 unfold dsP;rw[show (je p X).lines=p.lines from rfl,show (je p X).bits=p.bits from rfl,Ex];rfl
theorem Ga {dr:PW->Nat->PW} (c:∀p s X,dr (je p X) s=je (dr p s) X) {f:Nat}:∀(a:Nat) (p:PW) (X:List (List Ent)),daF dr f a (je p X)=je (daF dr f a p) X
 |0,p,X=>by rw[im,im]
 |a+1,p,X=>by
  rw[il,il,show (je p X).IB=p.IB from rfl];by_cases b:(p.IB.getD (f*16+a) eS) 0=0
  ·rw[ah b,ah b];exact Ga c a p X
  ·rw[ae b,ae b,c];exact Ga c a _ X
theorem Iu {dr:PW->Nat->PW} (b:∀p s X,dr (je p X) s=je (dr p s) X) (p:PW) (k:Int) (f:Nat) (X:List (List Ent)):lsF dr (je p X) k f=je (lsF dr p k f) X:=by
 unfold lsF;by_cases a:k=2∨k=3
 ·rw[ah a,ah a];rfl
 rw[ae a,ae a];by_cases e4:k=4
 ·rw[ah e4,ah e4];rfl
 rw[ae e4,ae e4];by_cases e5:k=5
 ·rw[ah e5,ah e5];exact Ga b 16 (fgP 11 (nkP p f) f) X
 rw[ae e5,ae e5];by_cases e6:k=6
 ·rw[ah e6,ah e6];exact Ir (nkP p f) f X
 rw[ae e6,ae e6];show fgP 13 (dsP (je (nkP p f) X) f) f=_
 rw[Iq];rfl
theorem Gb:∀(m:Nat) (p:PW) (s:Nat) (X:List (List Ent)),drF m (je p X) s=je (drF m p s) X
 |0,_,_,_=>rfl
 |m+1,p,s,X=>by
  show (if (p.IB.getD s eS) 0=1∨i5 (drA p s) ((p.IB.getD s eS) 0) ((p.IB.getD s eS) 1)=true then je (drA p s) X else lsF (drF m) (je (drA p s) X) ((p.IB.getD s eS) 0) ((p.IB.getD s eS) 1).toNat)=je (if (p.IB.getD s eS) 0=1∨i5 (drA p s) ((p.IB.getD s eS) 0) ((p.IB.getD s eS) 1)=true then drA p s else lsF (drF m) (drA p s) ((p.IB.getD s eS) 0) ((p.IB.getD s eS) 1).toNat) X
  by_cases h:(p.IB.getD s eS) 0=1∨i5 (drA p s) ((p.IB.getD s eS) 0) ((p.IB.getD s eS) 1)=true
  ·rw[ah h,ah h]
  ·rw[ae h,ae h];exact Iu (fun p s X=>Gb m p s X) _ _ _ X
theorem kZ (m:Nat) (p:PW) (s:Nat):(drF m p s).ID=p.ID:=by
 have h:=Gb m p s p.ID;rw[show je p p.ID=p from rfl] at h;rw[h];rfl
structure Lo (q p:PW):Prop where
 kinds:∀(t:Nat) (k:Int),k≠0->q.kinds[t]? =some k->p.kinds[t]? =some k
 len:q.IE.length=p.IE.length
 IE:∀i,q.IE.getD i 0=p.IE.getD i 0∨q.IE.getD i 0=0
theorem Lo.trans {r q p:PW} (a:Lo r q) (b:Lo q p):Lo r p:=⟨fun t k d h=>b.kinds t k d (a.kinds t k d h),a.len.trans b.len,fun i=>by
 rcases a.IE i with h|h
 ·rcases b.IE i with c|c
  ·exact .inl (h.trans c)
  ·exact .inr (h.trans c)
 ·exact .inr h⟩
theorem Lo.of {q p:PW} (b:∀(t:Nat) (k:Int),k≠0->q.kinds[t]? =some k->p.kinds[t]? =some k) (a:q.IE=p.IE):Lo q p:=⟨b,by rw[a],fun i=>.inl (by rw[a])⟩
theorem Ey {n:Int}:¬isE 0 n:=fun h=>absurd h.1 oD
theorem DB {ys zs:List Int} (hl:ys.length=zs.length) (f:∀i,ys.getD i 0=zs.getD i 0∨ys.getD i 0=0) {s a:Int} (h:(eu ys s a).2.2=0):eu ys s a=eu zs s a:=by
 have d:n16 ys=n16 zs:=by unfold n16;rw[hl]
 by_cases hi:inb ys.length s a
 rotate_left
 ·rw[i9 hi] at h;cases h
 by_cases b:isE (e1 ys s a) (n16 ys)
 rotate_left
 ·rw[nj hi b] at h;cases h
 by_cases c:isE (e2 ys (e1 ys s a%1024) a) (n16 ys)
 rotate_left
 ·rw[nm hi b c] at h;cases h
 have q1:e1 ys s a=e1 zs s a:=by
  rcases f (s*16+a/256).toNat with e|e
  ·exact e
  ·exact absurd (show isE 0 (n16 ys) by have:=b;unfold e1 at this;rw[e] at this;exact this) Ey
 have g:e2 ys (e1 ys s a%1024) a=e2 zs (e1 zs s a%1024) a:=by
  rcases f ((e1 ys s a%1024)*16+a/16%16).toNat with e|e
  ·rw[<-q1];exact e
  ·exact absurd (show isE 0 (n16 ys) by have:=c;unfold e2 at this;rw[e] at this;exact this) Ey
 have k1:=b;have k2:=c;rw[q1,d] at k1;rw[g,d] at k2;rw[kQ hi b c,kQ (by rw[<-hl];exact hi) k1 k2,g]
theorem Lo.told {q p:PW} (a:Lo q p) {e:Ent} (h:fi q e=true):fi p e=true:=by
 unfold fi at h ⊢;rw[am,am] at h ⊢;obtain⟨t,d,hk⟩:=iF h.1.1;have c:(eu q.IE e.1 (e.2.1*16)).2.2=0:=by
  have b:=h.2;simp only[am] at b;exact eq_of_beq b.1.1
 rw[<-DB a.len a.IE c];exact⟨⟨by rw[d];exact wG (a.kinds t 4 oD hk),h.1.2⟩,h.2⟩
theorem wM {q:PW} {k f:Int} {e:Ent} (h:fi q e=true) (b:k=4->isB q f 4=false):kpE q k f e=true:=by
 unfold fi at h;rw[am,am] at h;unfold kpE;rw[Int.mul_comm 16 e.2.1,h.2,dF]
 cases e1:(k==4&&e.1==f) with
 |false=>rfl
 |true=>
  rw[am] at e1;have a:=b (eq_of_beq e1.1);rw[<-eq_of_beq e1.2,h.1.1] at a
  cases a
theorem Cx {p q:PW} {k f:Int} {e:Ent} (h:fi p e=true) (a:isB q e.1 4=true) (hk:kpE q k f e=true):fi q e=true:=by
 unfold fi at h ⊢;rw[am,am] at h ⊢;unfold kpE at hk;rw[Int.mul_comm 16 e.2.1,am] at hk;exact⟨⟨a,h.1.2⟩,hk.1⟩
def Gd (p q r:PW) (g:Ent->Bool):Prop:=r=je q (p.ID.map (List.filter g))∧Lo q p∧(∀e,fi q e=true->g e=true)∧(∀e,fi p e=true->g e=true->fi q e=true)
theorem zh (X:List (List Ent)):X.map (List.filter fun _=>true)=X:=by
 conv=>rhs;rw[<-List.map_id X]
 exact eA fun l _=>List.filter_eq_self.2 fun _ _=>rfl
theorem oX (X:List (List Ent)) (a b:Ent->Bool):(X.map (List.filter a)).map (List.filter b)=X.map (List.filter fun e=>b e&&a e):=by
 rw[List.map_map];exact eA fun l _=>by rw[Function.comp,List.filter_filter]
theorem Gd.same {p q:PW} (c:q.ID=p.ID) (a:q.kinds=p.kinds) (b:q.IE=p.IE):Gd p q q (fun _=>true):=by
 refine⟨by rw[zh, <-c];rfl,.of (fun t k _ h=>by rw[<-a];exact h) b,fun _ _=>rfl,fun e h _=>?_⟩;unfold fi isB fI at h ⊢;rw[a,b];exact h
theorem xx (p:PW) (f:Nat):Lo (nkP p f) p:=.of (fun _ _ a h=>(xv h a).1) rfl
theorem Hp (p:PW) (f:Int):Lo (utP p f) p:=⟨fun _ _ _ h=>h,eg ..,fun i=>by
 show (p.IE.mapIdx (ut1 p.kinds f)).getD i 0=_∨(p.IE.mapIdx (ut1 p.kinds f)).getD i 0=0
 rw[aa,List.getElem?_mapIdx,aa]
 cases p.IE[i]? with
 |none=>exact .inl rfl
 |some x=>
  show ut1 p.kinds f i x=x∨ut1 p.kinds f i x=0
  unfold ut1;split
  ·exact .inr rfl
  ·exact .inl rfl⟩
theorem Ff {dr:PW->Nat->PW} {p:PW} {k:Int} {f:Nat} (b:k≠5):Lo (lsF dr p k f) p∧(lsF dr p k f).kinds=p.kinds.set f 0∧(lsF dr p k f).ID=p.ID:=by
 unfold lsF;by_cases a:k=2∨k=3
 ·rw[ah a];exact⟨(Hp _ _).trans (xx p f),rfl,rfl⟩
 rw[ae a];by_cases e4:k=4
 ·rw[ah e4];exact⟨Lo.trans (q:=nkP p f) ⟨fun _ _ _ h=>h,rfl,fun _=>.inl rfl⟩ (xx p f),rfl,rfl⟩
 rw[ae e4,ae b];by_cases e6:k=6
 ·rw[ah e6];exact⟨Lo.trans (.of (fun t k _ h=>by rw[<-kC (nkP p f) f];exact h) (nE (nkP p f) f).2) (xx p f),kC (nkP p f) f,(nE (nkP p f) f).1⟩
 rw[ae e6];exact⟨Lo.trans (.of (fun t k _ h=>by rw[<-iV (nkP p f) f];exact h) (qe (nkP p f) f).2) (xx p f),iV (nkP p f) f,(qe (nkP p f) f).1⟩
theorem GU {d1 d2:PW->Nat->PW} {p:PW} {k:Int} {f:Nat} (a:k≠5):lsF d1 p k f=lsF d2 p k f:=by
 unfold lsF;rw[ae (a:¬k=5),ae (a:¬k=5)]
def yL (m:Nat):Prop:=∀p s,nds p<m->Inv p->TL p->s<p.IB.length->(p.IB.getD s eS) 0≠0->∃g,Gd p (drF m p s) (drR m p s) g
theorem GJ {m:Nat} (i:yL m) {f:Nat}:∀(a:Nat) (p:PW),nds p<m->Inv p->TL p->f*16+a<=p.IB.length->∃g,Gd p (daF (drF m) f a p) (daF (drR m) f a p) g
 |0,p,_,_,_,_=>⟨_,by rw[im,im];exact Gd.same rfl rfl rfl⟩
 |a+1,p,hn,hi,ht,hl=>by
  rw[il,il];by_cases b:(p.IB.getD (f*16+a) eS) 0=0
  ·rw[ah b,ah b];exact GJ i a p hn hi ht oA
  rw[ae b,ae b];have j:f*16+a<p.IB.length:=oA;obtain⟨l,o,l1,a1,b1⟩:=i p (f*16+a) hn hi ht j b;obtain⟨i1,i2,i3⟩:=(jx m).1 p (f*16+a) hn hi j b;obtain⟨n,k,l2,c,b2⟩:=GJ i (f:=f) a (drR m p (f*16+a)) oA i1 ((jx m).2 p (f*16+a) hn hi j b ht) (by rw[i1.IB,i3, <-hi.IB];omega);rw[o] at k l2 c b2 ⊢;rw[Ga (Gb m) (f:=f)] at k l2 c b2;refine⟨fun e=>n e&&l e,?_,?_,fun e h=>?_,fun e h d=>?_⟩
  ·rw[k, <-oX];rfl
  ·exact Lo.trans (q:=drF m p (f*16+a)) ⟨l2.kinds,l2.len,l2.IE⟩ l1
  ·rw[am];exact⟨c e h,a1 e (l2.told h)⟩
  ·rw[am] at d;exact b2 e (b1 e h d.2) d.1
theorem Ah {m:Nat} (C:yL m):yL (m+1):=by
 intro p s v hi d y o;unfold drF drR;by_cases c:(p.IB.getD s eS) 0=1∨i5 (drA p s) ((p.IB.getD s eS) 0) ((p.IB.getD s eS) 1)=true
 ·rw[ah c,ah c];exact⟨_,Gd.same rfl rfl rfl⟩
 rw[ae c,ae c];obtain⟨b,r,hk, -, -⟩:=wX hi y o (fun e=>c (.inl e));rw[r] at c ⊢;rw[af];have w:=jX hi s;have D:i5 (drA p s) ((p.IB.getD s eS) 0) b=false:=by
  cases e:i5 (drA p s) ((p.IB.getD s eS) 0) b with
  |false=>rfl
  |true=>exact absurd (.inr e) c
 have F:TL (drA p s):=d.of rfl rfl;have J:nds (drA p s)<m+1:=v;have i:(drA p s).kinds[b]? =some ((p.IB.getD s eS) 0):=hk
 suffices hx:∃g,Gd (drA p s) (lsF (drF m) (drA p s) ((p.IB.getD s eS) 0) b) (gnF (drR m) (drA p s) ((p.IB.getD s eS) 0) b) g by
  obtain⟨g,A,a,j,B⟩:=hx;exact⟨g,A,⟨a.kinds,a.len,a.IE⟩,j,B⟩
 generalize (p.IB.getD s eS) 0=k at*;generalize drA p s=q at*;clear hi d y o v hk c r;unfold gnF;by_cases l:k=5
 ·subst l;have e:∀dr:PW->Nat->PW,lsF dr q 5 b=daF dr b 16 (fgP 11 (nkP q b) b):=fun dr=>by unfold lsF;rw[ae oD,ae oD,ah rfl]
  rw[e,e];have I:nds (nkP q b)+1=nds q:=(kY q.kinds b).2 i;have H:b<q.kinds.length:=(List.getElem?_eq_some_iff.1 i).1;obtain⟨n,G,l0,a0,b0⟩:=GJ C (f:=b) 16 (fgP 11 (nkP q b) b) (by show nds (nkP q b)<m;omega) (ld (hP w i D oD) 11 oD (b:Int)) (F.of rfl rfl) (by show b*16+16<=q.IB.length;have:=w.IB;omega);generalize daF (drF m) b 16 (fgP 11 (nkP q b) b)=x at*;rw[G];refine⟨fun e=>kpE x 5 b e&&n e,?_,Lo.trans (q:=nkP q b) ⟨l0.kinds,l0.len,l0.IE⟩ (xx q b),fun e h=>?_,fun e h a=>?_⟩
  ·show je x (((q.ID.map (List.filter n))).map (List.filter (kpE x 5 b)))=_
   rw[oX]
  ·rw[am];exact⟨wM h (fun e=>absurd e oD),a0 e h⟩
  ·rw[am] at a;refine b0 e ?_ a.2;unfold fi at h ⊢;rw[am,am] at h ⊢;obtain⟨t,d,hk⟩:=iF h.1.1;refine⟨⟨?_,h.1.2⟩,h.2⟩;rw[d];refine wG (show (q.kinds.set b 0)[t]? =some 4 from ?_);rw[cM (fun e=>by subst e;rw[hk] at i;cases i)];exact hk
 ·rw[GU (d1:=drR m) (d2:=drF m) l];obtain⟨lo,u,E⟩:=Ff (dr:=drF m) (p:=q) (f:=b) l;generalize lsF (drF m) q k b=x at*;refine⟨kpE x k b,by unfold fwP;rw[E];rfl,lo,fun e h=>wM h (fun _=>?_),fun e h a=>?_⟩
  ·cases e1:isB x b 4 with
   |false=>rfl
   |true=>
    obtain⟨t,d,hk⟩:=iF e1;have:b=t:=oA;subst this;rw[u,List.getElem?_set] at hk;rw[ah rfl] at hk;split at hk<;>cases hk
  ·obtain⟨t,d,hk⟩:∃t:Nat,e.1=t∧q.kinds[t]? =some 4:=by
    unfold fi at h;rw[am,am] at h;exact iF h.1.1
   refine Cx h ?_ a;rw[d];refine wG ?_;rw[u,cM (fun z=>?_)]
   ·exact hk
   ·subst z;rw[hk] at i;unfold kpE at a;rw[am] at a;have j:=a.2;rw[<-aL i,d] at j;simp at j
theorem pF:∀m,yL m
 |0=>fun _ _ a=>absurd a (fh _)
 |m+1=>Ah (pF m)
theorem Hi {p:PW} (j:p.Fits) (h:Snd p) {m s:Nat} (i:nds p<m) (k:s<p.IB.length) (c:(p.IB.getD s eS) 0≠0):drR m p s=fgt (drF m p s):=by
 obtain⟨g,r,lo,a,b⟩:=pF m p s i (m9 j h) (uj h) k c;rw[r];unfold fgt je;rw[kZ];have e:p.ID.map (List.filter g)=p.ID.map (dM fun e=> !fi (drF m p s) e):=eA fun l hl=>by
  unfold dM;refine List.filter_congr fun e f=>?_;have d:=(mg h hl).2 e f;rw[Bool.not_not]
  cases e1:fi (drF m p s) e with
  |true=>exact a e e1
  |false=>
   cases e2:g e with
   |false=>rfl
   |true=>rw[b e d e2] at e1;cases e1
 rw[e]
theorem zx (l:List (Nat->Int)) (s:Nat) (x:Int):hnd s x (l.set s eS)=(hnd s x l).set s eS:=by
 unfold hnd;rw[List.map_set,show nF (s:Int) x eS=eS from ae (by show ¬((-1:Int)=(s:Int));omega)]
theorem zn {m:Nat} (c:vw m) (q:PW) (k:Int) (f:Nat) (wb:Nat) (V:Nat->Value) (hi:Inv q) (b:TL q) (d:nds q<m+1) (hk:q.kinds[f]? =some k) (a:i5 q k f=false) (e:2<=k) (g:k<=8) (X:World) (tg:Nat->Nat) (bt:di X wb tg V q):
  Calls Tryz.prog 37 #[.pointer (some ⟨wb,0,none⟩),.int .i64 f] X fun r W'=>r=.returned (.tuple #[])∧∃tag',di W' wb tag' V (gnF (drR m) q k f)∧Kt tg tag' X W':=by
 have h:k=2∨k=3∨k=4∨k=5∨k=6∨k=7∨k=8:=oA;rcases h with rfl|rfl|rfl|rfl|rfl|rfl|rfl
 ·exact wm (.inl rfl) q f X wb tg V hi b hk a bt
 ·exact wm (.inr rfl) q f X wb tg V hi b hk a bt
 ·exact EK q f X wb tg V hi b hk a bt
 ·exact EM c q f X wb tg V hi b hk a d bt
 ·exact EN q f X wb tg V hi b hk a bt
 ·exact EO q f X wb tg V hi b hk a bt
 ·exact ES q f X wb tg V hi b hk a bt
theorem Ai {m:Nat} (hd:vw m):vw (m+1):=by
 intro p s W wb tag V hn hi C y ab;have aH:gI p s=if (p.IB.getD s eS) 0=0 then 6 else 0:=by
  unfold gI;rw[show fT p s=true from aA ⟨oA,oA⟩,ah rfl,af,ia y,aa,ac y];rfl
 have F:=hid (mH wb V p s W (ab.view hi.fits C.len));rw[aH] at F;by_cases h0:(p.IB.getD s eS) 0=0
 ·simp only[ah h0] at F ⊢;have P:=hid ab;go_enter Tryz.func15,Tryz.ntmps15
  go_wp2_with fail
  refine F.mono ?_;rintro r w1 ⟨rfl,rfl⟩;go_wp2_with fail
  go_ret
  exact⟨rfl,tag,P.out,eO _ _⟩
 simp only[ae h0] at F ⊢;obtain⟨bt,kr⟩:=FL ab 0;have KR:=hid kr;have T0:=hid (fun x (h:W.heap.size<=x)=>show fX tag W.heap.size 0 x=0 from ae oA);generalize fX tag W.heap.size 0=tg at*;have aS:=hi.IB;have aM:=hi.I7;have aD:p.IB.length<=1000:=oA;have aP:(p.IB.length:Int)<=1000:=oA;have aQ:(s:Int)<(p.IB.length:Int):=oA;obtain⟨d,cap2,e2⟩:=bt.o.IB.form (show 0<p.IB.length by omega);have E:=hid e2;have HS:=hid y;have av:=hid aD;have c2:=bh bt e2;obtain⟨f,B⟩:∃f,p.IB.getD s eS=f:=⟨_,rfl⟩
 have X6:=hid (fun X (h:di X wb tg V p)=>show X.cell? ⟨d,s*7+6,none⟩=some (.int .i64 (f 6)) from by
  have c:=h.IU e2 y (show 6<7 by omega);rw[<-ia y,B] at c;exact c)
 have RS:=hid (show W.rangeAt d (s*7) (cf 6 f) from by
  have c:=bt.o.IB;rw[e2] at c;have L:=c.range y;rw[<-ia y,B] at L;exact Df L)
 have am:=hid (aR W zK 78 W.heap.size 6 rfl oD);have al:=hid (show Below W.heap.size W ((W.alloc (.cells zK 78)).setCells W.heap.size 0 (cf 6 f)) from bX (bal (ag W.heap.size W) (.cells zK 78)) (aq _) _ 0);have ap:=hid (World.rangeAt_setCells_same (W.alloc (.cells zK 78)) W.heap.size 0 (cf 6 f) (by rw[az];exact am));have Z:=hid (T0.out W.heap.size (aq _));have P:=hid bt;have U:=hid (show drA p s={p with IB:=(hnd s (f 6) p.IB).set s eS} by unfold drA;rw[B,zx]);have aG:=jX hi s;have Y:=hid (show (drA p s).IB.length=p.IB.length by rw[U.out];show ((hnd _ _ _).set _ _).length=_;rw[au,mI]);have H:=hid (show drR (m+1) p s=if f 0=1∨i5 (drA p s) (f 0) (f 1)=true then drA p s else gnF (drR m) (drA p s) (f 0) (f 1).toNat by
  show (if _ then _ else _)=_
  rw[B])
 have Q:=hid (show f 0≠1->i5 (drA p s) (f 0) (f 1)=false->∃b:Nat,f 1=b∧∀X M,di X wb M V (drA p s)->Calls Tryz.prog 37 #[.pointer (some ⟨wb,0,none⟩),.int .i64 b] X fun r W'=>r=.returned (.tuple #[])∧∃tag',di W' wb tag' V (gnF (drR m) (drA p s) (f 0) b)∧Kt M tag' X W' from fun z ho=>by
  obtain⟨b,A,hk,c,h8⟩:=wX hi y h0 (by rw[B];exact z);rw[B] at A hk c h8;rw[A] at ho;exact⟨b,A,fun X M h=>zn hd (drA p s) (f 0) b wb V aG (C.of rfl rfl) hn hk ho c h8 X M h⟩)
 go_enter Tryz.func15,Tryz.ntmps15
 go_wp2_with fail
 refine F.mono ?_;rintro r w1 ⟨rfl,rfl⟩;go_upto_region 5 with (first|((with_reducible refine gld 78 ?_);refine F6 rfl _ rfl d (s*7) rfl (cf 6 f) (az _ _) RS ?_)|((with_reducible refine gst 78 ?_);refine F8 rfl _ _ rfl W.heap.size 0 rfl (cf 6 f) rfl (az _ _) (cC _ _) am ?_))
 generalize World.setCells _ _ _ _=W1 at*;obtain⟨kb,aC⟩:∃kb,W.heap.size=kb:=⟨_,rfl⟩
 rw[aC] at ap Z ⊢;have N:=hid (P.below al);have K1:=hid (KR.trans (.below al));have c2:=bh N E;have x6:=X6.out _ N;have an:=hid (uv wb tg V p s (f 6) W1 N av);generalize aT:f 6=z6 at x6 an U;go_wp2_with fail
 refine an.mono ?_;rintro r w2 ⟨rfl,b2,k2⟩;have O:=hid b2;have K2:=hid (K1.trans k2);have aw:=hid (show w2.rangeAt kb 0 (cf 6 f) from fun o v hv=>k2.cell (ap.out o v hv) Z);have he:V 2=.slice (some ⟨d,0,none⟩) (hnd s z6 p.IB).length cap2:=by rw[mI];exact E
 have c2:=bh O E;have T2:=hid (O.Jo he (s*7) 7 (by show s*7+7<=(hnd s z6 p.IB).length*7;rw[mI];have:=HS.out;omega));obtain⟨b3,k3⟩:=O.IV he (i:=s) (by show s<(hnd s z6 p.IB).length;rw[mI];exact HS) eS;have D:=hid (show di (w2.setCells d (s*7) (cf 7 eS)) wb tg V (drA p s) by rw[U.out];exact b3);have K3:=hid (K2.trans k3);have ax:=hid (show (w2.setCells d (s*7) (cf 7 eS)).rangeAt kb 0 (cf 6 f) from fun o v hv=>k3.cell (aw.out o v hv) Z);go_upto_region 7 with (first|((with_reducible refine gst 80 ?_);refine rE rfl _ _ rfl d (s*7) rfl (cf 7 eS) rfl (az _ _) (cC _ _) T2 ?_))
 generalize World.setCells _ _ _ _=w at*;generalize drA p s=q at*;have EQ:=hid (show V 2=.slice (some ⟨d,0,none⟩) q.IB.length cap2 by rw[Y.out];exact E);have ar:=hid (fun X (h:Below w.heap.size w X)=>dN ax h);generalize aI:f 0=a at H Q;generalize aJ:f 1=u at H Q;have Y0:=hid (fun X (h:Below w.heap.size w X)=>ai (ar.out X h) (k:=0) (by rw[dm 6 _ 0 oA,aI]));have Y1:=hid (fun X (h:Below w.heap.size w X)=>ai (ar.out X h) (k:=1) (by rw[dm 6 _ 1 oA,aJ]));go_wp2_with fail
 go_loopw [7] (fun i wr=>∃(j:Nat),j<=p.IB.length∧i=.int .i64 j∧Hid (∀t,t<j->∀g,q.IB[t]? =some g->(g 0==a&&g 1==u)=false)∧Hid (Below w.heap.size w wr)) (fun i _=>p.IB.length - (intOf i).toNat)
 case atStart=>exact⟨0,oA,rfl,hid (fun t h=>absurd h (fh _)),hid (ag _ _)⟩
 case round=>
  obtain⟨j,hj,rfl,T,l⟩:=hrel;have c2:=bh (D.below l) E;have y0:=Y0.out _ l;have y1:=Y1.out _ l;by_cases aB:j<p.IB.length
  ·have aO:(j:Int)<(p.IB.length:Int):=oA;have aj:j<q.IB.length:=by rw[Y.out];exact aB
   have x0:wr.cell? ⟨d,j*7,none⟩=some (.int .i64 (q.IB[j] 0)):=(D.below l).IU EQ aj (show 0<7 by omega);have x1:=(D.below l).IU EQ aj (show 1<7 by omega);have I:=hid (show q.IB[j]? =some q.IB[j] from ac aj);generalize q.IB[j]=g at x0 x1 I;have ao:=hid (show (g 0==a&&g 1==u)=true->i5 q a u=true from fun h=>List.any_eq_true.2 ⟨g,List.mem_iff_getElem?.2 ⟨j,I.out⟩,h⟩);have S:=hid (show (g 0==a&&g 1==u)=false->∀t,t<j+1->∀g,q.IB[t]? =some g->(g 0==a&&g 1==u)=false from fun h t C d c=>by
    by_cases e:t=j
    ·rw[e,I.out] at c;rw[<-aL c];exact h
    ·exact T t oA d c)
   generalize g 0=u0 at*;generalize g 1=u1 at*;clear I T;by_cases e0:u0=a
   ·have K:(u0==a)=true:=by simpa using e0
    by_cases e1:u1=u
    ·have ad:(u1==u)=true:=by simpa using e1
     have J:=hid (ao.out (by rw[K,ad];rfl));have G:=hid (show drR (m+1) p s=q by rw[H.out,ah (.inr J)]);clear e0 e1 ao S;go_wp2_with fail
     go_quiet (fail)
     have n:=hid (aE l nq);generalize World.drewN _ _=W4 at n ⊢;go_wp2_with fail
     go_ret
     exact⟨rfl,tg,by rw[G.out];exact D.below n,K3.trans (.below n)⟩
    ·have ad:(u1==u)=false:=by simpa using e1
     have R:=hid (S.out (by rw[K,ad];rfl));go_wp2_with fail
     go_quiet (fail)
     have n:=hid (aE l nq);generalize World.drewN _ _=W4 at n ⊢;go_wp2_with fail
     exact⟨⟨j+1,oA,by go_num,R,n⟩,by simp[intOf];omega⟩
   ·have K:(u0==a)=false:=by simpa using e0
    have R:=hid (S.out (by rw[K];rfl));go_wp2_with fail
    go_quiet (fail)
    have n:=hid (aE l nq);generalize World.drewN _ _=W4 at n ⊢;go_wp2_with fail
    exact⟨⟨j+1,oA,by go_num,R,n⟩,by simp[intOf];omega⟩
  ·obtain rfl:j=p.IB.length:=oA;have aN:¬((p.IB.length:Int)<(p.IB.length:Int)):=oA;have J:=hid (show i5 q a u=false from bR.2 fun g hg h=>by
    obtain⟨t,C⟩:=List.mem_iff_getElem?.1 hg;have L:=T.out t (by have:=(List.getElem?_eq_some_iff.1 C).1;rw[Y.out] at this;exact this) g C;rw[L] at h
    cases h)
   have B5:=hid (D.below l);have K5:=hid (K3.trans (.below l));by_cases z:a=1
   ·have ay:(a !=1)=false:=by rw[z];rfl
    have G:=hid (show drR (m+1) p s=q by rw[H.out,ah (.inl z)]);go_wp2_with fail
    go_ret
    exact⟨rfl,tg,by rw[G.out];exact B5,K5.out⟩
   ·have ay:(a !=1)=true:=by simpa using z
    obtain⟨b,A,aF⟩:=Q.out z J;have G:=hid (show drR (m+1) p s=gnF (drR m) q a b by rw[H.out,ae (by rintro (e|e);exact z e;rw[J.out] at e;cases e),A,af]);rw[A] at y1;have HL:=hid (aF _ _ B5);go_wp2_with fail
    refine HL.mono ?_;rintro r w9 ⟨rfl,aK,b9,k9⟩;have B9:=hid b9;have K9:=hid (K5.trans k9);go_wp2_with fail
    go_ret
    exact⟨rfl,aK,by rw[G.out];exact B9,K9.out⟩
theorem sw:∀m,vw m
 |0=>fun _ _ _ _ _ _ a=>absurd a (fh _)
 |m+1=>Ai (sw m)
theorem wq {p:PW} {n:Int} (h:gI p n=0):∃j:Nat,n=j∧j<p.IB.length∧(p.IB.getD j eS) 0≠0:=by
 unfold gI at h
 cases hs:fT p n with
 |false=>rw[hs,ae oD] at h;cases h
 |true=>
  obtain⟨j,rfl,a⟩:=gr hs;rw[hs,ah rfl,af] at h;refine⟨j,rfl,a,fun e=>?_⟩;rw[aa,ac a,aG] at h e;rw[ah e] at h
  cases h
theorem uh {p:PW} (h:Snd p):mf p=true:=by
 have o:lfB p=true:=by
  have:=h.lf;unfold lfB;simp only[am,bp,bH];have a:=this.k1;have b:=this.k2;have c:=this.c1;have d:=this.c2;have e:=this.d1;have f:=this.d2;have g:=this.IE;have i:=this.IB;have j:=this.IA;have k:=this.lines;have l:=this.bits;have m:=this.ready;have n:=this.ID;omega
 unfold mf wmA;rw[o,h.tm,Bool.and_self,ah rfl,pn,dO h.b0,dO h.b1,dO h.b2,dO h.b3,dO h.b4,dO h.b5,dO h.b6,dO h.b7,dO h.b8,dO h.b9,dO h.Kg];rfl
def dkP (p:PW) (a:Int):PW:=if mf p=true∧gI p a=0 then fgt (drF (nds p+1) p a.toNat) else p
theorem Ev {p:PW} {j:Nat} (h:Snd p) (a:gI p j=0):dkP p j=fgt (drF (nds p+1) p j):=by
 unfold dkP;rw[ah ⟨uh h,a⟩,af]
theorem mD (a:Int) (p:PW) (e:p.Fits) (hl:∀l∈p.ID,l.length<=100) (c:Snd p) (W:World) (wb:Nat) (tag:Nat->Nat) (V:Nat->Value) (bt:di W wb tag V p):
  Calls Tryz.prog 15 #[.pointer (some ⟨wb,0,none⟩),.int .i64 a] W fun x d=>x=.returned (.int .i64 (gI p a))∧∃tag',Kt tag tag' W d∧(gI p a=0->∃m,di d wb tag' m (dkP p a))∧(gI p a≠0->d=W):=by
 by_cases b:gI p a=0
 ·obtain⟨j,rfl,k,i⟩:=wq b;refine (sw (nds p+1) p j W wb tag V oA (m9 e c) (uj c) k bt).mono ?_;rintro r w1 ⟨rfl,o,b1,k1⟩;rw[ae i] at b1 ⊢;exact⟨by rw[b],o,k1,fun _=>⟨V,by rw[Ev c b, <-Hi e c oA k i];exact b1⟩,fun h=>absurd (by first|rfl|assumption|exact HE) h⟩
 ·have g:=hid b;have n:(gI p a !=0)=true:=by simpa using b
  have f:=hid (mH wb V p a W (bt.view e hl));generalize gI p a=x at f g n ⊢;go_enter Tryz.func15,Tryz.ntmps15
  go_wp2_with fail
  refine f.mono ?_;rintro q w1 ⟨rfl,rfl⟩;go_wp2_with fail
  go_ret
  exact⟨rfl,tag,eO _ _,fun h=>(absurd h g),fun _=>rfl⟩
