/- Qan -/
import Derived.Deep.RegionHeld3
import Derived.Test.YtaejnmmpddbbjaaGreatDoorQam
set_option maxRecDepth 100000
set_option maxHeartbeats 16000000
namespace Go.Proofs.YtaejnmmpddbbjaaGreatDoor
namespace Wd
open Go.RowKit Mem Bw Nums Mmu
theorem gZ {p:PW} {z k:Int} (h:isB p z k=true):∃t:Nat,z=t∧p.kinds[t]? =some k:=by
 unfold isB eX at h;by_cases a:0<=z
 ·rw[af a] at h;exact⟨z.toNat,oA,eq_of_beq h⟩
 ·rw[ae a] at h
  cases h
theorem tY {p:PW} {t:Nat} {k:Int} (h:p.kinds[t]? =some k):isB p t k=true:=by
 unfold isB eX;rw[af oA,ag,h];exact beq_self_eq_true _
theorem xU {p:PW} (h:Snd p) {f:Nat->Int} (c:f∈p.DY):ffB p f=true∨∀k,k<20->f k=bl k:=by
 obtain⟨t,d⟩:=List.mem_iff_getElem?.1 c;obtain⟨hl,e⟩:=List.getElem?_eq_some_iff.1 d;have a:btB p t (p.kinds.getD t 0) p.DY[t]=false:=h.b5 t hl;rw[e] at a;unfold btB at a;by_cases b:p.kinds.getD t 0=6
 ·rw[af b] at a;simp only[cq,al] at a;exact .inl a.1.1.1.2
 ·rw[ae b,cq] at a;exact .inr (nS.1 a)
theorem lL {p:PW} (F:p.Fits) (h:Snd p):Inv p:=by
 refine⟨F,h.lf.k2,h.lf.Eb,h.lf.DZ,h.lf.DY,h.lf.lines,h.lf.bits,fun f n=>?_,fun l hl z I=>?_,fun f n=>?_,fun i x k H hk J=>?_,fun f n=>?_⟩
 ·obtain⟨s,G⟩:=List.mem_iff_getElem?.1 n;obtain⟨hl,e⟩:=List.getElem?_eq_some_iff.1 G;by_cases m:f 0=0
  ·exact .inl m
  by_cases c:f 0=1
  ·exact .inr (.inl c)
  have q:=xX h hl (by rw[e];exact m);rw[e] at q;unfold opB at q;rw[al,bT] at q;rcases q.2 with d|d
  ·exact absurd (eq_of_beq d) c
  obtain⟨b,A,hk⟩:=gZ d;obtain⟨B,E⟩:=List.getElem?_eq_some_iff.1 hk;have g:nkB p.kinds[b]=false:=h.b1 b B;rw[E] at g;unfold nkB at g;rw[dU,cq,aR] at g;exact .inr (.inr ⟨oA,g.1.2,b,A,hk⟩)
 ·obtain⟨a,w⟩:=List.mem_iff_getElem?.1 hl;obtain⟨y,e⟩:=List.getElem?_eq_some_iff.1 w;have c:blB p a (p.kinds.getD a 0) (p.bits.getD a 0) p.lines[a]=false:=h.b6 a y;rw[e] at c;unfold blB at c;rw[dU] at c;have d:tB p a (l.getD 0 0) z=false:=by
   have:=bS.1 c.2 z I;simpa using this
  obtain⟨t,r,hk⟩:=gZ (Dx d);exact⟨t,r,by rw[h.lf.DY];exact (List.getElem?_eq_some_iff.1 hk).1⟩
 ·rcases xU h n with c|c
  ·rcases zo h.lf.DY c with d|⟨j,D,d⟩
   ·exact .inl d
   ·exact .inr ⟨j,d,D⟩
  ·exact .inl (by rw[c 17 oA];rfl)
 ·obtain⟨C,e⟩:=List.getElem?_eq_some_iff.1 H;have c:beB p (p.kinds.getD (i/16) 0) p.Eb[i]=false:=h.b9 i C;rw[e,aa,hk,aT] at c;unfold beB at c;by_cases m:x=0
  ·exact .inl m
  have u:(x==0)=false:=by simpa using m
  have k24:=h.lf.k2
  right
  by_cases v:k=4
  ·rw[af v,u] at c;have d:isB p (x - 32768) 3=true:=by simpa using c
   obtain⟨t,r,o⟩:=gZ d;have:=(List.getElem?_eq_some_iff.1 o).1;exact⟨t,oA,.inl oA⟩
  ·have g:k=3:=oA;rw[ae v,af g,u] at c;have d:isB p (x - 32768) 2=true∨isB p (x - 32768 - 16384) 2=true:=by
    cases e1:isB p (x - 32768) 2 with
    |true=>exact .inl rfl
    |false=>rw[e1] at c;right;simpa using c
   rcases d with d|d
   ·obtain⟨t,r,o⟩:=gZ d;have:=(List.getElem?_eq_some_iff.1 o).1;exact⟨t,oA,.inl oA⟩
   ·obtain⟨t,r,o⟩:=gZ d;have:=(List.getElem?_eq_some_iff.1 o).1;exact⟨t,oA,.inr oA⟩
 ·rcases xU h n with c|c
  ·unfold ffB at c;simp only[al] at c;have d:=c.1.2;unfold fB at d;rw[bT] at d;rcases d with d|d
   ·exact .inl (eq_of_beq d)
   ·exact .inr (gZ d)
  ·exact .inl (by rw[c 13 oA];rfl)
theorem kM {p:PW} (h:Snd p) {l:List Ent} (hl:l∈p.D9):l.length<=4∧∀e∈l,eG p e=true:=by
 obtain⟨c,g⟩:=List.mem_iff_getElem?.1 hl;obtain⟨i,e⟩:=List.getElem?_eq_some_iff.1 g;have a:bmB p p.D9[c]=false:=h.F6 c i;rw[e] at a;unfold bmB at a;rw[dU,decide_eq_false_iff_not] at a;refine⟨oA,fun x m=>?_⟩;obtain⟨j,d⟩:=List.mem_iff_getElem?.1 m;obtain⟨k, -⟩:=List.getElem?_eq_some_iff.1 d;have b:=bS.1 a.2 j (List.mem_range.2 k);rw[d] at b;have f:emB p l j x=false:=by simpa using b
 exact (vJ f).1
theorem rP {p:PW} (h:Snd p):TL p:=by
 refine⟨fun l hl=>?_,fun l hl e b=>?_,fun z d=>?_⟩
 ·have:=(kM h hl).1;omega
 ·have a:=(kM h hl).2 e b;unfold eG at a;simp only[al,aR] at a;exact a.1.2
 ·obtain⟨i,hi⟩:=List.mem_iff_getElem?.1 d;obtain⟨c,e⟩:=List.getElem?_eq_some_iff.1 hi;have a:nwB p.Eb[i]=false:=h.b0 i c;rw[e] at a;unfold nwB wB at a;rw[cq,aR] at a;omega
def iC (p:PW) (X:List (List Ent)):PW:={p with D9:=X}
theorem DQ (p:PW) (t:Nat) (X:List (List Ent)):etP (iC p X) t=iC (etP p t) X:=by
 unfold etP;by_cases h:p.DY.getD t bl 17= -1
 ·have a:(iC p X).DY.getD t bl 17= -1:=h;rw[af a,af h];rfl
 ·have a:¬(iC p X).DY.getD t bl 17= -1:=h;rw[ae a,ae h];rfl
theorem AK:∀(l:List Int) (p:PW) (X:List (List Ent)),l.foldl ds1 (iC p X)=iC (l.foldl ds1 p) X
 |[],_,_=>rfl
 |z::l,p,X=>by rw[dL,dL,show ds1 (iC p X) z=iC (ds1 p z) X from rfl,AK l]
theorem DP (p:PW) (f:Nat) (X:List (List Ent)):dsP (iC p X) f=iC (dsP p f) X:=by
 unfold dsP;rw[show (iC p X).lines=p.lines from rfl,show (iC p X).bits=p.bits from rfl,AK];rfl
theorem Cq {dr:PW->Nat->PW} (c:∀p s X,dr (iC p X) s=iC (dr p s) X) {f:Nat}:∀(a:Nat) (p:PW) (X:List (List Ent)),daF dr f a (iC p X)=iC (daF dr f a p) X
 |0,p,X=>by rw[gI,gI]
 |a+1,p,X=>by
  rw[gH,gH,show (iC p X).DZ=p.DZ from rfl];by_cases b:(p.DZ.getD (f*16+a) eS) 0=0
  ·rw[af b,af b];exact Cq c a p X
  ·rw[ae b,ae b,c];exact Cq c a _ X
theorem DT {dr:PW->Nat->PW} (b:∀p s X,dr (iC p X) s=iC (dr p s) X) (p:PW) (k:Int) (f:Nat) (X:List (List Ent)):lsF dr (iC p X) k f=iC (lsF dr p k f) X:=by
 unfold lsF;by_cases a:k=2∨k=3
 ·rw[af a,af a];rfl
 rw[ae a,ae a];by_cases e4:k=4
 ·rw[af e4,af e4];rfl
 rw[ae e4,ae e4];by_cases e5:k=5
 ·rw[af e5,af e5];exact Cq b 16 (fgP 11 (nkP p f) f) X
 rw[ae e5,ae e5];by_cases e6:k=6
 ·rw[af e6,af e6];exact DQ (nkP p f) f X
 rw[ae e6,ae e6];show fgP 13 (dsP (iC (nkP p f) X) f) f=_
 rw[DP];rfl
theorem Cr:∀(m:Nat) (p:PW) (s:Nat) (X:List (List Ent)),drF m (iC p X) s=iC (drF m p s) X
 |0,_,_,_=>rfl
 |m+1,p,s,X=>by
  show (if (p.DZ.getD s eS) 0=1∨il (drA p s) ((p.DZ.getD s eS) 0) ((p.DZ.getD s eS) 1)=true then iC (drA p s) X else lsF (drF m) (iC (drA p s) X) ((p.DZ.getD s eS) 0) ((p.DZ.getD s eS) 1).toNat)=iC (if (p.DZ.getD s eS) 0=1∨il (drA p s) ((p.DZ.getD s eS) 0) ((p.DZ.getD s eS) 1)=true then drA p s else lsF (drF m) (drA p s) ((p.DZ.getD s eS) 0) ((p.DZ.getD s eS) 1).toNat) X
  by_cases h:(p.DZ.getD s eS) 0=1∨il (drA p s) ((p.DZ.getD s eS) 0) ((p.DZ.getD s eS) 1)=true
  ·rw[af h,af h]
  ·rw[ae h,ae h];exact DT (fun p s X=>Cr m p s X) _ _ _ X
theorem jT (m:Nat) (p:PW) (s:Nat):(drF m p s).D9=p.D9:=by
 have h:=Cr m p s p.D9;rw[show iC p p.D9=p from rfl] at h;rw[h];rfl
structure Lo (q p:PW):Prop where
 kinds:∀(t:Nat) (k:Int),k≠0->q.kinds[t]? =some k->p.kinds[t]? =some k
 len:q.Eb.length=p.Eb.length
 Eb:∀i,q.Eb.getD i 0=p.Eb.getD i 0∨q.Eb.getD i 0=0
theorem Lo.trans {r q p:PW} (a:Lo r q) (b:Lo q p):Lo r p:=⟨fun t k d h=>b.kinds t k d (a.kinds t k d h),a.len.trans b.len,fun i=>by
 rcases a.Eb i with h|h
 ·rcases b.Eb i with c|c
  ·exact .inl (h.trans c)
  ·exact .inr (h.trans c)
 ·exact .inr h⟩
theorem Lo.of {q p:PW} (b:∀(t:Nat) (k:Int),k≠0->q.kinds[t]? =some k->p.kinds[t]? =some k) (a:q.Eb=p.Eb):Lo q p:=⟨b,by rw[a],fun i=>.inl (by rw[a])⟩
theorem AL {n:Int}:¬isE 0 n:=fun h=>absurd h.1 oD
theorem Ab {ys zs:List Int} (hl:ys.length=zs.length) (f:∀i,ys.getD i 0=zs.getD i 0∨ys.getD i 0=0) {s a:Int} (h:(ei ys s a).2.2=0):ei ys s a=ei zs s a:=by
 have d:n16 ys=n16 zs:=by unfold n16;rw[hl]
 by_cases hi:inb ys.length s a
 rotate_left
 ·rw[iu hi] at h;cases h
 by_cases b:isE (e1 ys s a) (n16 ys)
 rotate_left
 ·rw[lR hi b] at h;cases h
 by_cases c:isE (e2 ys (e1 ys s a%1024) a) (n16 ys)
 rotate_left
 ·rw[lS hi b c] at h;cases h
 have q1:e1 ys s a=e1 zs s a:=by
  rcases f (s*16+a/256).toNat with e|e
  ·exact e
  ·exact absurd (show isE 0 (n16 ys) by have:=b;unfold e1 at this;rw[e] at this;exact this) AL
 have g:e2 ys (e1 ys s a%1024) a=e2 zs (e1 zs s a%1024) a:=by
  rcases f ((e1 ys s a%1024)*16+a/16%16).toNat with e|e
  ·rw[<-q1];exact e
  ·exact absurd (show isE 0 (n16 ys) by have:=c;unfold e2 at this;rw[e] at this;exact this) AL
 have k1:=b;have k2:=c;rw[q1,d] at k1;rw[g,d] at k2;rw[jK hi b c,jK (by rw[<-hl];exact hi) k1 k2,g]
theorem Lo.told {q p:PW} (a:Lo q p) {e:Ent} (h:eG q e=true):eG p e=true:=by
 unfold eG at h ⊢;rw[al,al] at h ⊢;obtain⟨t,d,hk⟩:=gZ h.1.1;have c:(ei q.Eb e.1 (e.2.1*16)).2.2=0:=by
  have b:=h.2;simp only[al] at b;exact eq_of_beq b.1.1
 rw[<-Ab a.len a.Eb c];exact⟨⟨by rw[d];exact tY (a.kinds t 4 oD hk),h.1.2⟩,h.2⟩
theorem ua {q:PW} {k f:Int} {e:Ent} (h:eG q e=true) (b:k=4->isB q f 4=false):kpE q k f e=true:=by
 unfold eG at h;rw[al,al] at h;unfold kpE;rw[Int.mul_comm 16 e.2.1,h.2,Bool.true_and]
 cases e1:(k==4&&e.1==f) with
 |false=>rfl
 |true=>
  rw[al] at e1;have a:=b (eq_of_beq e1.1);rw[<-eq_of_beq e1.2,h.1.1] at a
  cases a
theorem y9 {p q:PW} {k f:Int} {e:Ent} (h:eG p e=true) (a:isB q e.1 4=true) (hk:kpE q k f e=true):eG q e=true:=by
 unfold eG at h ⊢;rw[al,al] at h ⊢;unfold kpE at hk;rw[Int.mul_comm 16 e.2.1,al] at hk;exact⟨⟨a,h.1.2⟩,hk.1⟩
def Gd (p q r:PW) (g:Ent->Bool):Prop:=r=iC q (p.D9.map (List.filter g))∧Lo q p∧(∀e,eG q e=true->g e=true)∧(∀e,eG p e=true->g e=true->eG q e=true)
theorem vP (X:List (List Ent)):X.map (List.filter fun _=>true)=X:=by
 conv=>rhs;rw[<-List.map_id X]
 exact List.map_congr_left fun l _=>List.filter_eq_self.2 fun _ _=>rfl
theorem m6 (X:List (List Ent)) (a b:Ent->Bool):(X.map (List.filter a)).map (List.filter b)=X.map (List.filter fun e=>b e&&a e):=by
 rw[List.map_map];exact List.map_congr_left fun l _=>by rw[Function.comp,List.filter_filter]
theorem Gd.same {p q:PW} (c:q.D9=p.D9) (a:q.kinds=p.kinds) (b:q.Eb=p.Eb):Gd p q q (fun _=>true):=by
 refine⟨by rw[vP, <-c];rfl,.of (fun t k _ h=>by rw[<-a];exact h) b,fun _ _=>rfl,fun e h _=>?_⟩;unfold eG isB eX at h ⊢;rw[a,b];exact h
theorem uA (p:PW) (f:Nat):Lo (nkP p f) p:=.of (fun _ _ a h=>(uw h a).1) rfl
theorem DB (p:PW) (f:Int):Lo (utP p f) p:=⟨fun _ _ _ h=>h,dC ..,fun i=>by
 show (p.Eb.mapIdx (ut1 p.kinds f)).getD i 0=_∨(p.Eb.mapIdx (ut1 p.kinds f)).getD i 0=0
 rw[aa,List.getElem?_mapIdx,aa]
 cases p.Eb[i]? with
 |none=>exact .inl rfl
 |some x=>
  show ut1 p.kinds f i x=x∨ut1 p.kinds f i x=0
  unfold ut1;split
  ·exact .inr rfl
  ·exact .inl rfl⟩
theorem A9 {dr:PW->Nat->PW} {p:PW} {k:Int} {f:Nat} (b:k≠5):Lo (lsF dr p k f) p∧(lsF dr p k f).kinds=p.kinds.set f 0∧(lsF dr p k f).D9=p.D9:=by
 unfold lsF;by_cases a:k=2∨k=3
 ·rw[af a];exact⟨(DB _ _).trans (uA p f),rfl,rfl⟩
 rw[ae a];by_cases e4:k=4
 ·rw[af e4];exact⟨Lo.trans (q:=nkP p f) ⟨fun _ _ _ h=>h,rfl,fun _=>.inl rfl⟩ (uA p f),rfl,rfl⟩
 rw[ae e4,ae b];by_cases e6:k=6
 ·rw[af e6];exact⟨Lo.trans (.of (fun t k _ h=>by rw[<-jt (nkP p f) f];exact h) (l5 (nkP p f) f).2) (uA p f),jt (nkP p f) f,(l5 (nkP p f) f).1⟩
 rw[ae e6];exact⟨Lo.trans (.of (fun t k _ h=>by rw[<-ie (nkP p f) f];exact h) (oe (nkP p f) f).2) (uA p f),ie (nkP p f) f,(oe (nkP p f) f).1⟩
theorem C4 {d1 d2:PW->Nat->PW} {p:PW} {k:Int} {f:Nat} (a:k≠5):lsF d1 p k f=lsF d2 p k f:=by
 unfold lsF;rw[ae (a:¬k=5),ae (a:¬k=5)]
def vr (m:Nat):Prop:=∀p s,nds p<m->Inv p->TL p->s<p.DZ.length->(p.DZ.getD s eS) 0≠0->∃g,Gd p (drF m p s) (drR m p s) g
theorem CK {m:Nat} (i:vr m) {f:Nat}:∀(a:Nat) (p:PW),nds p<m->Inv p->TL p->f*16+a<=p.DZ.length->∃g,Gd p (daF (drF m) f a p) (daF (drR m) f a p) g
 |0,p,_,_,_,_=>⟨_,by rw[gI,gI];exact Gd.same rfl rfl rfl⟩
 |a+1,p,hn,hi,ht,hl=>by
  rw[gH,gH];by_cases b:(p.DZ.getD (f*16+a) eS) 0=0
  ·rw[af b,af b];exact CK i a p hn hi ht oA
  rw[ae b,ae b];have j:f*16+a<p.DZ.length:=oA;obtain⟨l,o,l1,a1,b1⟩:=i p (f*16+a) hn hi ht j b;obtain⟨i1,i2,i3⟩:=(iN m).1 p (f*16+a) hn hi j b;obtain⟨n,k,l2,c,b2⟩:=CK i (f:=f) a (drR m p (f*16+a)) oA i1 ((iN m).2 p (f*16+a) hn hi j b ht) (by rw[i1.DZ,i3, <-hi.DZ];omega);rw[o] at k l2 c b2 ⊢;rw[Cq (Cr m) (f:=f)] at k l2 c b2;refine⟨fun e=>n e&&l e,?_,?_,fun e h=>?_,fun e h d=>?_⟩
  ·rw[k, <-m6];rfl
  ·exact Lo.trans (q:=drF m p (f*16+a)) ⟨l2.kinds,l2.len,l2.Eb⟩ l1
  ·rw[al];exact⟨c e h,a1 e (l2.told h)⟩
  ·rw[al] at d;exact b2 e (b1 e h d.2) d.1
theorem wU {m:Nat} (C:vr m):vr (m+1):=by
 intro p s v hi d y o;unfold drF drR;by_cases c:(p.DZ.getD s eS) 0=1∨il (drA p s) ((p.DZ.getD s eS) 0) ((p.DZ.getD s eS) 1)=true
 ·rw[af c,af c];exact⟨_,Gd.same rfl rfl rfl⟩
 rw[ae c,ae c];obtain⟨b,r,hk, -, -⟩:=ui hi y o (fun e=>c (.inl e));rw[r] at c ⊢;rw[ag];have w:=ja hi s;have D:il (drA p s) ((p.DZ.getD s eS) 0) b=false:=by
  cases e:il (drA p s) ((p.DZ.getD s eS) 0) b with
  |false=>rfl
  |true=>exact absurd (.inr e) c
 have F:TL (drA p s):=d.of rfl rfl;have J:nds (drA p s)<m+1:=v;have i:(drA p s).kinds[b]? =some ((p.DZ.getD s eS) 0):=hk
 suffices hx:∃g,Gd (drA p s) (lsF (drF m) (drA p s) ((p.DZ.getD s eS) 0) b) (gnF (drR m) (drA p s) ((p.DZ.getD s eS) 0) b) g by
  obtain⟨g,A,a,j,B⟩:=hx;exact⟨g,A,⟨a.kinds,a.len,a.Eb⟩,j,B⟩
 generalize (p.DZ.getD s eS) 0=k at*;generalize drA p s=q at*;clear hi d y o v hk c r;unfold gnF;by_cases l:k=5
 ·subst l;have e:∀dr:PW->Nat->PW,lsF dr q 5 b=daF dr b 16 (fgP 11 (nkP q b) b):=fun dr=>by unfold lsF;rw[ae oD,ae oD,af rfl]
  rw[e,e];have I:nds (nkP q b)+1=nds q:=(jS q.kinds b).2 i;have H:b<q.kinds.length:=(List.getElem?_eq_some_iff.1 i).1;obtain⟨n,G,l0,a0,b0⟩:=CK C (f:=b) 16 (fgP 11 (nkP q b) b) (by show nds (nkP q b)<m;omega) (jU (gw w i D oD) 11 oD (b:Int)) (F.of rfl rfl) (by show b*16+16<=q.DZ.length;have:=w.DZ;omega);generalize daF (drF m) b 16 (fgP 11 (nkP q b) b)=x at*;rw[G];refine⟨fun e=>kpE x 5 b e&&n e,?_,Lo.trans (q:=nkP q b) ⟨l0.kinds,l0.len,l0.Eb⟩ (uA q b),fun e h=>?_,fun e h a=>?_⟩
  ·show iC x (((q.D9.map (List.filter n))).map (List.filter (kpE x 5 b)))=_
   rw[m6]
  ·rw[al];exact⟨ua h (fun e=>absurd e oD),a0 e h⟩
  ·rw[al] at a;refine b0 e ?_ a.2;unfold eG at h ⊢;rw[al,al] at h ⊢;obtain⟨t,d,hk⟩:=gZ h.1.1;refine⟨⟨?_,h.1.2⟩,h.2⟩;rw[d];refine tY (show (q.kinds.set b 0)[t]? =some 4 from ?_);rw[cF (fun e=>by subst e;rw[hk] at i;cases i)];exact hk
 ·rw[C4 (d1:=drR m) (d2:=drF m) l];obtain⟨lo,u,E⟩:=A9 (dr:=drF m) (p:=q) (f:=b) l;generalize lsF (drF m) q k b=x at*;refine⟨kpE x k b,by unfold fwP;rw[E];rfl,lo,fun e h=>ua h (fun _=>?_),fun e h a=>?_⟩
  ·cases e1:isB x b 4 with
   |false=>rfl
   |true=>
    obtain⟨t,d,hk⟩:=gZ e1;have:b=t:=oA;subst this;rw[u,List.getElem?_set] at hk;rw[af rfl] at hk;split at hk<;>cases hk
  ·obtain⟨t,d,hk⟩:∃t:Nat,e.1=t∧q.kinds[t]? =some 4:=by
    unfold eG at h;rw[al,al] at h;exact gZ h.1.1
   refine y9 h ?_ a;rw[d];refine tY ?_;rw[u,cF (fun z=>?_)]
   ·exact hk
   ·subst z;rw[hk] at i;unfold kpE at a;rw[al] at a;have j:=a.2;rw[<-aH i,d] at j;simp at j
theorem nD:∀m,vr m
 |0=>fun _ _ a=>absurd a (eh _)
 |m+1=>wU (nD m)
theorem Du {p:PW} (j:p.Fits) (h:Snd p) {m s:Nat} (i:nds p<m) (k:s<p.DZ.length) (c:(p.DZ.getD s eS) 0≠0):drR m p s=fgt (drF m p s):=by
 obtain⟨g,r,lo,a,b⟩:=nD m p s i (lL j h) (rP h) k c;rw[r];unfold fgt iC;rw[jT];have e:p.D9.map (List.filter g)=p.D9.map (en fun e=> !eG (drF m p s) e):=List.map_congr_left fun l hl=>by
  unfold en;refine List.filter_congr fun e f=>?_;have d:=(kM h hl).2 e f;rw[Bool.not_not]
  cases e1:eG (drF m p s) e with
  |true=>exact a e e1
  |false=>
   cases e2:g e with
   |false=>rfl
   |true=>rw[b e d e2] at e1;cases e1
 rw[e]
theorem v8 (l:List (Nat->Int)) (s:Nat) (x:Int):hnd s x (l.set s eS)=(hnd s x l).set s eS:=by
 unfold hnd;rw[List.map_set,show l6 (s:Int) x eS=eS from ae (by show ¬((-1:Int)=(s:Int));omega)]
theorem vU {m:Nat} (c:sX m) (q:PW) (k:Int) (f:Nat) (wb:Nat) (V:Nat->Value) (hi:Inv q) (b:TL q) (d:nds q<m+1) (hk:q.kinds[f]? =some k) (a:il q k f=false) (e:2<=k) (g:k<=8) (X:World) (tg:Nat->Nat) (bt:cb X wb tg V q):
  Calls Tryz.prog 37 #[.pointer (some ⟨wb,0,none⟩),.int .i64 f] X fun r W'=>r=.returned (.tuple #[])∧∃tag',cb W' wb tag' V (gnF (drR m) q k f)∧Kt tg tag' X W':=by
 have h:k=2∨k=3∨k=4∨k=5∨k=6∨k=7∨k=8:=oA;rcases h with rfl|rfl|rfl|rfl|rfl|rfl|rfl
 ·exact tM (.inl rfl) q f X wb tg V hi b hk a bt
 ·exact tM (.inr rfl) q f X wb tg V hi b hk a bt
 ·exact AU q f X wb tg V hi b hk a bt
 ·exact AV c q f X wb tg V hi b hk a d bt
 ·exact AW q f X wb tg V hi b hk a bt
 ·exact AX q f X wb tg V hi b hk a bt
 ·exact AY q f X wb tg V hi b hk a bt
theorem wV {m:Nat} (hd:sX m):sX (m+1):=by
 intro p s W wb tag V hn hi C y ab;have aG:fS p s=if (p.DZ.getD s eS) 0=0 then 6 else 0:=by
  unfold fS;rw[show fQ p s=true from aD ⟨oA,oA⟩,af rfl,ag,gF y,aa,ac y];rfl
 have F:=hid (lg wb V p s W (ab.view hi.fits C.len));rw[aG] at F;by_cases h0:(p.DZ.getD s eS) 0=0
 ·simp only[af h0] at F ⊢;have P:=hid ab;go_enter Tryz.func15,Tryz.ntmps15
  go_wp2_with fail
  refine F.mono ?_;rintro r w1 ⟨rfl,rfl⟩;go_wp2_with fail
  go_ret
  exact⟨rfl,tag,P.out,Kt.refl _ _⟩
 simp only[ae h0] at F ⊢;obtain⟨bt,kr⟩:=BJ ab 0;have KR:=hid kr;have T0:=hid (fun x (h:W.heap.size<=x)=>show gy tag W.heap.size 0 x=0 from ae oA);generalize gy tag W.heap.size 0=tg at*;have aQ:=hi.DZ;have aL:=hi.Ez;have aC:p.DZ.length<=1000:=oA;have aO:(p.DZ.length:Int)<=1000:=oA;have aP:(s:Int)<(p.DZ.length:Int):=oA;obtain⟨d,cap2,e2⟩:=bt.o.DZ.form (show 0<p.DZ.length by omega);have E:=hid e2;have HS:=hid y;have av:=hid aC;have c2:=bg bt e2;obtain⟨f,B⟩:∃f,p.DZ.getD s eS=f:=⟨_,rfl⟩
 have X6:=hid (fun X (h:cb X wb tg V p)=>show X.cell? ⟨d,s*7+6,none⟩=some (.int .i64 (f 6)) from by
  have c:=h.Em e2 y (show 6<7 by omega);rw[<-gF y,B] at c;exact c)
 have RS:=hid (show W.rangeAt d (s*7) (cf 6 f) from by
  have c:=bt.o.DZ;rw[e2] at c;have L:=c.range y;rw[<-gF y,B] at L;exact zG L)
 have am:=hid (aY W zK 78 W.heap.size 6 rfl oD);have al:=hid (show Below W.heap.size W ((W.alloc (.cells zK 78)).setCells W.heap.size 0 (cf 6 f)) from dT (bal (ai W.heap.size W) (.cells zK 78)) (ar _) _ 0);have ap:=hid (World.rangeAt_setCells_same (W.alloc (.cells zK 78)) W.heap.size 0 (cf 6 f) (by rw[aA];exact am));have Z:=hid (T0.out W.heap.size (ar _));have P:=hid bt;have U:=hid (show drA p s={p with DZ:=(hnd s (f 6) p.DZ).set s eS} by unfold drA;rw[B,v8]);have aF:=ja hi s;have Y:=hid (show (drA p s).DZ.length=p.DZ.length by rw[U.out];show ((hnd _ _ _).set _ _).length=_;rw[au,lh]);have H:=hid (show drR (m+1) p s=if f 0=1∨il (drA p s) (f 0) (f 1)=true then drA p s else gnF (drR m) (drA p s) (f 0) (f 1).toNat by
  show (if _ then _ else _)=_
  rw[B])
 have Q:=hid (show f 0≠1->il (drA p s) (f 0) (f 1)=false->∃b:Nat,f 1=b∧∀X M,cb X wb M V (drA p s)->Calls Tryz.prog 37 #[.pointer (some ⟨wb,0,none⟩),.int .i64 b] X fun r W'=>r=.returned (.tuple #[])∧∃tag',cb W' wb tag' V (gnF (drR m) (drA p s) (f 0) b)∧Kt M tag' X W' from fun z ho=>by
  obtain⟨b,A,hk,c,h8⟩:=ui hi y h0 (by rw[B];exact z);rw[B] at A hk c h8;rw[A] at ho;exact⟨b,A,fun X M h=>vU hd (drA p s) (f 0) b wb V aF (C.of rfl rfl) hn hk ho c h8 X M h⟩)
 go_enter Tryz.func15,Tryz.ntmps15
 go_wp2_with fail
 refine F.mono ?_;rintro r w1 ⟨rfl,rfl⟩;go_upto_region 5 with (first|((with_reducible refine gld 78 ?_);refine Cl rfl _ rfl d (s*7) rfl (cf 6 f) (aA _ _) RS ?_)|((with_reducible refine gst 78 ?_);refine Cn rfl _ _ rfl W.heap.size 0 rfl (cf 6 f) rfl (aA _ _) (bR _ _) am ?_))
 generalize World.setCells _ _ _ _=W1 at*;obtain⟨kb,aB⟩:∃kb,W.heap.size=kb:=⟨_,rfl⟩
 rw[aB] at ap Z ⊢;have N:=hid (P.below al);have K1:=hid (KR.trans (.below al));have c2:=bg N E;have x6:=X6.out _ N;have an:=hid (rW wb tg V p s (f 6) W1 N av);generalize aR:f 6=z6 at x6 an U;go_wp2_with fail
 refine an.mono ?_;rintro r w2 ⟨rfl,b2,k2⟩;have O:=hid b2;have K2:=hid (K1.trans k2);have aw:=hid (show w2.rangeAt kb 0 (cf 6 f) from fun o v hv=>k2.cell (ap.out o v hv) Z);have he:V 2=.slice (some ⟨d,0,none⟩) (hnd s z6 p.DZ).length cap2:=by rw[lh];exact E
 have c2:=bg O E;have T2:=hid (O.EY he (s*7) 7 (by show s*7+7<=(hnd s z6 p.DZ).length*7;rw[lh];have:=HS.out;omega));obtain⟨b3,k3⟩:=O.Eo he (i:=s) (by show s<(hnd s z6 p.DZ).length;rw[lh];exact HS) eS;have D:=hid (show cb (w2.setCells d (s*7) (cf 7 eS)) wb tg V (drA p s) by rw[U.out];exact b3);have K3:=hid (K2.trans k3);have ax:=hid (show (w2.setCells d (s*7) (cf 7 eS)).rangeAt kb 0 (cf 6 f) from fun o v hv=>k3.cell (aw.out o v hv) Z);go_upto_region 7 with (first|((with_reducible refine gst 80 ?_);refine px rfl _ _ rfl d (s*7) rfl (cf 7 eS) rfl (aA _ _) (bR _ _) T2 ?_))
 generalize World.setCells _ _ _ _=w at*;generalize drA p s=q at*;have EQ:=hid (show V 2=.slice (some ⟨d,0,none⟩) q.DZ.length cap2 by rw[Y.out];exact E);have aq:=hid (fun X (h:Below w.heap.size w X)=>fJ ax h);generalize aI:f 0=a at H Q;generalize aJ:f 1=u at H Q;have Y0:=hid (fun X (h:Below w.heap.size w X)=>ah (aq.out X h) (k:=0) (by rw[dp 6 _ 0 oA,aI]));have Y1:=hid (fun X (h:Below w.heap.size w X)=>ah (aq.out X h) (k:=1) (by rw[dp 6 _ 1 oA,aJ]));go_wp2_with fail
 go_loopw [7] (fun i wr=>∃(j:Nat),j<=p.DZ.length∧i=.int .i64 j∧Hid (∀t,t<j->∀g,q.DZ[t]? =some g->(g 0==a&&g 1==u)=false)∧Hid (Below w.heap.size w wr)) (fun i _=>p.DZ.length - (intOf i).toNat)
 case atStart=>exact⟨0,oA,rfl,hid (fun t h=>absurd h (eh _)),hid (ai _ _)⟩
 case round=>
  obtain⟨j,hj,rfl,T,l⟩:=hrel;have c2:=bg (D.below l) E;have y0:=Y0.out _ l;have y1:=Y1.out _ l;by_cases az:j<p.DZ.length
  ·have aN:(j:Int)<(p.DZ.length:Int):=oA;have aj:j<q.DZ.length:=by rw[Y.out];exact az
   have x0:wr.cell? ⟨d,j*7,none⟩=some (.int .i64 (q.DZ[j] 0)):=(D.below l).Em EQ aj (show 0<7 by omega);have x1:=(D.below l).Em EQ aj (show 1<7 by omega);have I:=hid (show q.DZ[j]? =some q.DZ[j] from ac aj);generalize q.DZ[j]=g at x0 x1 I;have ao:=hid (show (g 0==a&&g 1==u)=true->il q a u=true from fun h=>List.any_eq_true.2 ⟨g,List.mem_iff_getElem?.2 ⟨j,I.out⟩,h⟩);have S:=hid (show (g 0==a&&g 1==u)=false->∀t,t<j+1->∀g,q.DZ[t]? =some g->(g 0==a&&g 1==u)=false from fun h t C d c=>by
    by_cases e:t=j
    ·rw[e,I.out] at c;rw[<-aH c];exact h
    ·exact T t oA d c)
   generalize g 0=u0 at*;generalize g 1=u1 at*;clear I T;by_cases e0:u0=a
   ·have K:(u0==a)=true:=by simpa using e0
    by_cases e1:u1=u
    ·have ad:(u1==u)=true:=by simpa using e1
     have J:=hid (ao.out (by rw[K,ad];rfl));have G:=hid (show drR (m+1) p s=q by rw[H.out,af (.inr J)]);clear e0 e1 ao S;go_wp2_with fail
     go_quiet (fail)
     have n:=hid (aV l nq);generalize World.drewN _ _=W4 at n ⊢;go_wp2_with fail
     go_ret
     exact⟨rfl,tg,by rw[G.out];exact D.below n,K3.trans (.below n)⟩
    ·have ad:(u1==u)=false:=by simpa using e1
     have R:=hid (S.out (by rw[K,ad];rfl));go_wp2_with fail
     go_quiet (fail)
     have n:=hid (aV l nq);generalize World.drewN _ _=W4 at n ⊢;go_wp2_with fail
     exact⟨⟨j+1,oA,by go_num,R,n⟩,by simp[intOf];omega⟩
   ·have K:(u0==a)=false:=by simpa using e0
    have R:=hid (S.out (by rw[K];rfl));go_wp2_with fail
    go_quiet (fail)
    have n:=hid (aV l nq);generalize World.drewN _ _=W4 at n ⊢;go_wp2_with fail
    exact⟨⟨j+1,oA,by go_num,R,n⟩,by simp[intOf];omega⟩
  ·obtain rfl:j=p.DZ.length:=oA;have aM:¬((p.DZ.length:Int)<(p.DZ.length:Int)):=oA;have J:=hid (show il q a u=false from bS.2 fun g hg h=>by
    obtain⟨t,C⟩:=List.mem_iff_getElem?.1 hg;have L:=T.out t (by have:=(List.getElem?_eq_some_iff.1 C).1;rw[Y.out] at this;exact this) g C;rw[L] at h
    cases h)
   have B5:=hid (D.below l);have K5:=hid (K3.trans (.below l));by_cases z:a=1
   ·have ay:(a !=1)=false:=by rw[z];rfl
    have G:=hid (show drR (m+1) p s=q by rw[H.out,af (.inl z)]);go_wp2_with fail
    go_ret
    exact⟨rfl,tg,by rw[G.out];exact B5,K5.out⟩
   ·have ay:(a !=1)=true:=by simpa using z
    obtain⟨b,A,aE⟩:=Q.out z J;have G:=hid (show drR (m+1) p s=gnF (drR m) q a b by rw[H.out,ae (by rintro (e|e);exact z e;rw[J.out] at e;cases e),A,ag]);rw[A] at y1;have HL:=hid (aE _ _ B5);go_wp2_with fail
    refine HL.mono ?_;rintro r w9 ⟨rfl,aK,b9,k9⟩;have B9:=hid b9;have K9:=hid (K5.trans k9);go_wp2_with fail
    go_ret
    exact⟨rfl,aK,by rw[G.out];exact B9,K9.out⟩
theorem p8:∀m,sX m
 |0=>fun _ _ _ _ _ _ a=>absurd a (eh _)
 |m+1=>wV (p8 m)
theorem tQ {p:PW} {n:Int} (h:fS p n=0):∃j:Nat,n=j∧j<p.DZ.length∧(p.DZ.getD j eS) 0≠0:=by
 unfold fS at h
 cases hs:fQ p n with
 |false=>rw[hs,ae oD] at h;cases h
 |true=>
  obtain⟨j,rfl,a⟩:=gg hs;rw[hs,af rfl,ag] at h;refine⟨j,rfl,a,fun e=>?_⟩;rw[aa,ac a,aT] at h e;rw[af e] at h
  cases h
theorem rO {p:PW} (h:Snd p):wZ p=true:=by
 have o:lfB p=true:=by
  have:=h.lf;unfold lfB;simp only[al,aR,bh];have a:=this.k1;have b:=this.k2;have c:=this.c1;have d:=this.c2;have e:=this.d1;have f:=this.d2;have g:=this.Eb;have i:=this.DZ;have j:=this.DY;have k:=this.lines;have l:=this.bits;have m:=this.ready;have n:=this.D9;omega
 unfold wZ wmA;rw[o,h.tm,Bool.and_self,af rfl,nm,ew h.b0,ew h.b1,ew h.b2,ew h.b3,ew h.b4,ew h.b5,ew h.b6,ew h.b7,ew h.b8,ew h.b9,ew h.F6];rfl
def dkP (p:PW) (a:Int):PW:=if wZ p=true∧fS p a=0 then fgt (drF (nds p+1) p a.toNat) else p
theorem AJ {p:PW} {j:Nat} (h:Snd p) (a:fS p j=0):dkP p j=fgt (drF (nds p+1) p j):=by
 unfold dkP;rw[af ⟨rO h,a⟩,ag]
theorem kW (a:Int) (p:PW) (e:p.Fits) (hl:∀l∈p.D9,l.length<=100) (c:Snd p) (W:World) (wb:Nat) (tag:Nat->Nat) (V:Nat->Value) (bt:cb W wb tag V p):
  Calls Tryz.prog 15 #[.pointer (some ⟨wb,0,none⟩),.int .i64 a] W fun x d=>x=.returned (.int .i64 (fS p a))∧∃tag',Kt tag tag' W d∧(fS p a=0->∃m,cb d wb tag' m (dkP p a))∧(fS p a≠0->d=W):=by
 by_cases b:fS p a=0
 ·obtain⟨j,rfl,k,i⟩:=tQ b;refine (p8 (nds p+1) p j W wb tag V oA (lL e c) (rP c) k bt).mono ?_;rintro r w1 ⟨rfl,o,b1,k1⟩;rw[ae i] at b1 ⊢;exact⟨by rw[b],o,k1,fun _=>⟨V,by rw[AJ c b, <-Du e c oA k i];exact b1⟩,fun h=>absurd (by first|rfl|assumption|exact HE) h⟩
 ·have g:=hid b;have n:(fS p a !=0)=true:=by simpa using b
  have f:=hid (lg wb V p a W (bt.view e hl));generalize fS p a=x at f g n ⊢;go_enter Tryz.func15,Tryz.ntmps15
  go_wp2_with fail
  refine f.mono ?_;rintro q w1 ⟨rfl,rfl⟩;go_wp2_with fail
  go_ret
  exact⟨rfl,tag,Kt.refl _ _,fun h=>(absurd h g),fun _=>rfl⟩
