/- Uao -/
import Derived.Deep.RegionHeld3
import Derived.Test.YtnccmdndkmmhcaaGreatDoorUan
set_option maxRecDepth 100000
set_option maxHeartbeats 16000000
namespace Go.Proofs.YtnccmdndkmmhcaaGreatDoor
namespace Wd
open Go.RowKit Mem Bw Nums Mmu
theorem iA {p:PW} {z k:Int} (h:isB p z k=true):∃t:Nat,z=t∧p.kinds[t]? =some k:=by
 unfold isB fH at h;by_cases a:0<=z
 ·rw[ag a] at h;exact⟨z.toNat,oA,eq_of_beq h⟩
 ·rw[ae a] at h
  cases h
theorem xj {p:PW} {t:Nat} {k:Int} (h:p.kinds[t]? =some k):isB p t k=true:=by
 unfold isB fH;rw[ag oA,ah,h];exact beq_self_eq_true _
theorem Bg {p:PW} (h:Snd p) {f:Nat->Int} (c:f∈p.II):ffB p f=true∨∀k,k<20->f k=bl k:=by
 obtain⟨t,d⟩:=List.mem_iff_getElem?.1 c;obtain⟨hl,e⟩:=List.getElem?_eq_some_iff.1 d;have a:btB p t (p.kinds.getD t 0) p.II[t]=false:=h.b5 t hl;rw[e] at a;unfold btB at a;by_cases b:p.kinds.getD t 0=6
 ·rw[ag b] at a;simp only[cU,am] at a;exact .inl a.1.1.1.2
 ·rw[ae b,cU] at a;exact .inr (mo.1 a)
theorem hZ {p:PW} (F:p.Fits) (h:Snd p):Inv p:=by
 refine⟨F,h.lf.k2,h.lf.IL,h.lf.IH,h.lf.II,h.lf.lines,h.lf.bits,fun f n=>?_,fun l hl z I=>?_,fun f n=>?_,fun i x k H hk J=>?_,fun f n=>?_⟩
 ·obtain⟨s,G⟩:=List.mem_iff_getElem?.1 n;obtain⟨hl,e⟩:=List.getElem?_eq_some_iff.1 G;by_cases m:f 0=0
  ·exact .inl m
  by_cases c:f 0=1
  ·exact .inr (.inl c)
  have q:=Bi h hl (by rw[e];exact m);rw[e] at q;unfold opB at q;rw[am,cF] at q;rcases q.2 with d|d
  ·exact absurd (eq_of_beq d) c
  obtain⟨b,A,hk⟩:=iA d;obtain⟨B,E⟩:=List.getElem?_eq_some_iff.1 hk;have g:nkB p.kinds[b]=false:=h.b1 b B;rw[E] at g;unfold nkB at g;rw[eG,cU,bg] at g;exact .inr (.inr ⟨oA,g.1.2,b,A,hk⟩)
 ·obtain⟨a,w⟩:=List.mem_iff_getElem?.1 hl;obtain⟨y,e⟩:=List.getElem?_eq_some_iff.1 w;have c:blB p a (p.kinds.getD a 0) (p.bits.getD a 0) p.lines[a]=false:=h.b6 a y;rw[e] at c;unfold blB at c;rw[eG] at c;have d:tB p a (l.getD 0 0) z=false:=by
   have:=bO.1 c.2 z I;simpa using this
  obtain⟨t,r,hk⟩:=iA (Ds d);exact⟨t,r,by rw[h.lf.II];exact (List.getElem?_eq_some_iff.1 hk).1⟩
 ·rcases Bg h n with c|c
  ·rcases xZ h.lf.II c with d|⟨j,D,d⟩
   ·exact .inl d
   ·exact .inr ⟨j,d,D⟩
  ·exact .inl (by rw[c 17 oA];rfl)
 ·obtain⟨C,e⟩:=List.getElem?_eq_some_iff.1 H;have c:beB p (p.kinds.getD (i/16) 0) p.IL[i]=false:=h.b9 i C;rw[e,aa,hk,aT] at c;unfold beB at c;by_cases m:x=0
  ·exact .inl m
  have u:(x==0)=false:=by simpa using m
  have k24:=h.lf.k2
  right
  by_cases v:k=4
  ·rw[ag v,u] at c;have d:isB p (x - 32768) 3=true:=by simpa using c
   obtain⟨t,r,o⟩:=iA d;have:=(List.getElem?_eq_some_iff.1 o).1;exact⟨t,oA,.inl oA⟩
  ·have g:k=3:=oA;rw[ae v,ag g,u] at c;have d:isB p (x - 32768) 2=true∨isB p (x - 32768 - 16384) 2=true:=by
    cases e1:isB p (x - 32768) 2 with
    |true=>exact .inl rfl
    |false=>rw[e1] at c;right;simpa using c
   rcases d with d|d
   ·obtain⟨t,r,o⟩:=iA d;have:=(List.getElem?_eq_some_iff.1 o).1;exact⟨t,oA,.inl oA⟩
   ·obtain⟨t,r,o⟩:=iA d;have:=(List.getElem?_eq_some_iff.1 o).1;exact⟨t,oA,.inr oA⟩
 ·rcases Bg h n with c|c
  ·unfold ffB at c;simp only[am] at c;have d:=c.1.2;unfold fB at d;rw[cF] at d;rcases d with d|d
   ·exact .inl (eq_of_beq d)
   ·exact .inr (iA d)
  ·exact .inl (by rw[c 13 oA];rfl)
theorem me {p:PW} (h:Snd p) {l:List Ent} (hl:l∈p.IK):l.length<=4∧∀e∈l,d7 p e=true:=by
 obtain⟨c,g⟩:=List.mem_iff_getElem?.1 hl;obtain⟨i,e⟩:=List.getElem?_eq_some_iff.1 g;have a:bmB p p.IK[c]=false:=h.Ki c i;rw[e] at a;unfold bmB at a;rw[eG,decide_eq_false_iff_not] at a;refine⟨oA,fun x m=>?_⟩;obtain⟨j,d⟩:=List.mem_iff_getElem?.1 m;obtain⟨k, -⟩:=List.getElem?_eq_some_iff.1 d;have b:=bO.1 a.2 j (List.mem_range.2 k);rw[d] at b;have f:emB p l j x=false:=by simpa using b
 exact (zk f).1
theorem oH {p:PW} (h:Snd p):TL p:=by
 refine⟨fun l hl=>?_,fun l hl e b=>?_,fun z d=>?_⟩
 ·have:=(me h hl).1;omega
 ·have a:=(me h hl).2 e b;unfold d7 at a;simp only[am,bg] at a;exact a.1.2
 ·obtain⟨i,hi⟩:=List.mem_iff_getElem?.1 d;obtain⟨c,e⟩:=List.getElem?_eq_some_iff.1 hi;have a:nwB p.IL[i]=false:=h.b0 i c;rw[e] at a;unfold nwB wB at a;rw[cU,bg] at a;omega
def i9 (p:PW) (X:List (List Ent)):PW:={p with IK:=X}
theorem Iw (p:PW) (t:Nat) (X:List (List Ent)):etP (i9 p X) t=i9 (etP p t) X:=by
 unfold etP;by_cases h:p.II.getD t bl 17= -1
 ·have a:(i9 p X).II.getD t bl 17= -1:=h;rw[ag a,ag h];rfl
 ·have a:¬(i9 p X).II.getD t bl 17= -1:=h;rw[ae a,ae h];rfl
theorem Ev:∀(l:List Int) (p:PW) (X:List (List Ent)),l.foldl ds1 (i9 p X)=i9 (l.foldl ds1 p) X
 |[],_,_=>rfl
 |z::l,p,X=>by rw[eo,eo,show ds1 (i9 p X) z=i9 (ds1 p z) X from rfl,Ev l]
theorem Iv (p:PW) (f:Nat) (X:List (List Ent)):dsP (i9 p X) f=i9 (dsP p f) X:=by
 unfold dsP;rw[show (i9 p X).lines=p.lines from rfl,show (i9 p X).bits=p.bits from rfl,Ev];rfl
theorem Gc {dr:PW->Nat->PW} (c:∀p s X,dr (i9 p X) s=i9 (dr p s) X) {f:Nat}:∀(a:Nat) (p:PW) (X:List (List Ent)),daF dr f a (i9 p X)=i9 (daF dr f a p) X
 |0,p,X=>by rw[gB,gB]
 |a+1,p,X=>by
  rw[gA,gA,show (i9 p X).IH=p.IH from rfl];by_cases b:(p.IH.getD (f*16+a) eS) 0=0
  ·rw[ag b,ag b];exact Gc c a p X
  ·rw[ae b,ae b,c];exact Gc c a _ X
theorem Iz {dr:PW->Nat->PW} (b:∀p s X,dr (i9 p X) s=i9 (dr p s) X) (p:PW) (k:Int) (f:Nat) (X:List (List Ent)):lsF dr (i9 p X) k f=i9 (lsF dr p k f) X:=by
 unfold lsF;by_cases a:k=2∨k=3
 ·rw[ag a,ag a];rfl
 rw[ae a,ae a];by_cases e4:k=4
 ·rw[ag e4,ag e4];rfl
 rw[ae e4,ae e4];by_cases e5:k=5
 ·rw[ag e5,ag e5];exact Gc b 16 (fgP 11 (nkP p f) f) X
 rw[ae e5,ae e5];by_cases e6:k=6
 ·rw[ag e6,ag e6];exact Iw (nkP p f) f X
 rw[ae e6,ae e6];show fgP 13 (dsP (i9 (nkP p f) X) f) f=_
 rw[Iv];rfl
theorem Ge:∀(m:Nat) (p:PW) (s:Nat) (X:List (List Ent)),drF m (i9 p X) s=i9 (drF m p s) X
 |0,_,_,_=>rfl
 |m+1,p,s,X=>by
  show (if (p.IH.getD s eS) 0=1∨gX (drA p s) ((p.IH.getD s eS) 0) ((p.IH.getD s eS) 1)=true then i9 (drA p s) X else lsF (drF m) (i9 (drA p s) X) ((p.IH.getD s eS) 0) ((p.IH.getD s eS) 1).toNat)=i9 (if (p.IH.getD s eS) 0=1∨gX (drA p s) ((p.IH.getD s eS) 0) ((p.IH.getD s eS) 1)=true then drA p s else lsF (drF m) (drA p s) ((p.IH.getD s eS) 0) ((p.IH.getD s eS) 1).toNat) X
  by_cases h:(p.IH.getD s eS) 0=1∨gX (drA p s) ((p.IH.getD s eS) 0) ((p.IH.getD s eS) 1)=true
  ·rw[ag h,ag h]
  ·rw[ae h,ae h];exact Iz (fun p s X=>Ge m p s X) _ _ _ X
theorem jX (m:Nat) (p:PW) (s:Nat):(drF m p s).IK=p.IK:=by
 have h:=Ge m p s p.IK;rw[show i9 p p.IK=p from rfl] at h;rw[h];rfl
structure Lo (q p:PW):Prop where
 kinds:∀(t:Nat) (k:Int),k≠0->q.kinds[t]? =some k->p.kinds[t]? =some k
 len:q.IL.length=p.IL.length
 IL:∀i,q.IL.getD i 0=p.IL.getD i 0∨q.IL.getD i 0=0
theorem Lo.trans {r q p:PW} (a:Lo r q) (b:Lo q p):Lo r p:=⟨fun t k d h=>b.kinds t k d (a.kinds t k d h),a.len.trans b.len,fun i=>by
 rcases a.IL i with h|h
 ·rcases b.IL i with c|c
  ·exact .inl (h.trans c)
  ·exact .inr (h.trans c)
 ·exact .inr h⟩
theorem Lo.of {q p:PW} (b:∀(t:Nat) (k:Int),k≠0->q.kinds[t]? =some k->p.kinds[t]? =some k) (a:q.IL=p.IL):Lo q p:=⟨b,by rw[a],fun i=>.inl (by rw[a])⟩
theorem Ew {n:Int}:¬isE 0 n:=fun h=>absurd h.1 oD
theorem DF {ys zs:List Int} (hl:ys.length=zs.length) (f:∀i,ys.getD i 0=zs.getD i 0∨ys.getD i 0=0) {s a:Int} (h:(en ys s a).2.2=0):en ys s a=en zs s a:=by
 have d:n16 ys=n16 zs:=by unfold n16;rw[hl]
 by_cases hi:inb ys.length s a
 rotate_left
 ·rw[iZ hi] at h;cases h
 by_cases b:isE (e1 ys s a) (n16 ys)
 rotate_left
 ·rw[nv hi b] at h;cases h
 by_cases c:isE (e2 ys (e1 ys s a%1024) a) (n16 ys)
 rotate_left
 ·rw[ny hi b c] at h;cases h
 have q1:e1 ys s a=e1 zs s a:=by
  rcases f (s*16+a/256).toNat with e|e
  ·exact e
  ·exact absurd (show isE 0 (n16 ys) by have:=b;unfold e1 at this;rw[e] at this;exact this) Ew
 have g:e2 ys (e1 ys s a%1024) a=e2 zs (e1 zs s a%1024) a:=by
  rcases f ((e1 ys s a%1024)*16+a/16%16).toNat with e|e
  ·rw[<-q1];exact e
  ·exact absurd (show isE 0 (n16 ys) by have:=c;unfold e2 at this;rw[e] at this;exact this) Ew
 have k1:=b;have k2:=c;rw[q1,d] at k1;rw[g,d] at k2;rw[kP hi b c,kP (by rw[<-hl];exact hi) k1 k2,g]
theorem Lo.told {q p:PW} (a:Lo q p) {e:Ent} (h:d7 q e=true):d7 p e=true:=by
 unfold d7 at h ⊢;rw[am,am] at h ⊢;obtain⟨t,d,hk⟩:=iA h.1.1;have c:(en q.IL e.1 (e.2.1*16)).2.2=0:=by
  have b:=h.2;simp only[am] at b;exact eq_of_beq b.1.1
 rw[<-DF a.len a.IL c];exact⟨⟨by rw[d];exact xj (a.kinds t 4 oD hk),h.1.2⟩,h.2⟩
theorem xq {q:PW} {k f:Int} {e:Ent} (h:d7 q e=true) (b:k=4->isB q f 4=false):kpE q k f e=true:=by
 unfold d7 at h;rw[am,am] at h;unfold kpE;rw[Int.mul_comm 16 e.2.1,h.2,eH]
 cases e1:(k==4&&e.1==f) with
 |false=>rfl
 |true=>
  rw[am] at e1;have a:=b (eq_of_beq e1.1);rw[<-eq_of_beq e1.2,h.1.1] at a
  cases a
theorem Cy {p q:PW} {k f:Int} {e:Ent} (h:d7 p e=true) (a:isB q e.1 4=true) (hk:kpE q k f e=true):d7 q e=true:=by
 unfold d7 at h ⊢;rw[am,am] at h ⊢;unfold kpE at hk;rw[Int.mul_comm 16 e.2.1,am] at hk;exact⟨⟨a,h.1.2⟩,hk.1⟩
def Gd (p q r:PW) (g:Ent->Bool):Prop:=r=i9 q (p.IK.map (List.filter g))∧Lo q p∧(∀e,d7 q e=true->g e=true)∧(∀e,d7 p e=true->g e=true->d7 q e=true)
theorem zt (X:List (List Ent)):X.map (List.filter fun _=>true)=X:=by
 conv=>rhs;rw[<-List.map_id X]
 exact eI fun l _=>List.filter_eq_self.2 fun _ _=>rfl
theorem pb (X:List (List Ent)) (a b:Ent->Bool):(X.map (List.filter a)).map (List.filter b)=X.map (List.filter fun e=>b e&&a e):=by
 rw[List.map_map];exact eI fun l _=>by rw[Function.comp,List.filter_filter]
theorem Gd.same {p q:PW} (c:q.IK=p.IK) (a:q.kinds=p.kinds) (b:q.IL=p.IL):Gd p q q (fun _=>true):=by
 refine⟨by rw[zt, <-c];rfl,.of (fun t k _ h=>by rw[<-a];exact h) b,fun _ _=>rfl,fun e h _=>?_⟩;unfold d7 isB fH at h ⊢;rw[a,b];exact h
theorem xN (p:PW) (f:Nat):Lo (nkP p f) p:=.of (fun _ _ a h=>(xL h a).1) rfl
theorem Hw (p:PW) (f:Int):Lo (utP p f) p:=⟨fun _ _ _ h=>h,dX ..,fun i=>by
 show (p.IL.mapIdx (ut1 p.kinds f)).getD i 0=_∨(p.IL.mapIdx (ut1 p.kinds f)).getD i 0=0
 rw[aa,List.getElem?_mapIdx,aa]
 cases p.IL[i]? with
 |none=>exact .inl rfl
 |some x=>
  show ut1 p.kinds f i x=x∨ut1 p.kinds f i x=0
  unfold ut1;split
  ·exact .inr rfl
  ·exact .inl rfl⟩
theorem Fj {dr:PW->Nat->PW} {p:PW} {k:Int} {f:Nat} (b:k≠5):Lo (lsF dr p k f) p∧(lsF dr p k f).kinds=p.kinds.set f 0∧(lsF dr p k f).IK=p.IK:=by
 unfold lsF;by_cases a:k=2∨k=3
 ·rw[ag a];exact⟨(Hw _ _).trans (xN p f),rfl,rfl⟩
 rw[ae a];by_cases e4:k=4
 ·rw[ag e4];exact⟨Lo.trans (q:=nkP p f) ⟨fun _ _ _ h=>h,rfl,fun _=>.inl rfl⟩ (xN p f),rfl,rfl⟩
 rw[ae e4,ae b];by_cases e6:k=6
 ·rw[ag e6];exact⟨Lo.trans (.of (fun t k _ h=>by rw[<-jz (nkP p f) f];exact h) (nJ (nkP p f) f).2) (xN p f),jz (nkP p f) f,(nJ (nkP p f) f).1⟩
 rw[ae e6];exact⟨Lo.trans (.of (fun t k _ h=>by rw[<-iu (nkP p f) f];exact h) (qA (nkP p f) f).2) (xN p f),iu (nkP p f) f,(qA (nkP p f) f).1⟩
theorem GZ {d1 d2:PW->Nat->PW} {p:PW} {k:Int} {f:Nat} (a:k≠5):lsF d1 p k f=lsF d2 p k f:=by
 unfold lsF;rw[ae (a:¬k=5),ae (a:¬k=5)]
def yT (m:Nat):Prop:=∀p s,nds p<m->Inv p->TL p->s<p.IH.length->(p.IH.getD s eS) 0≠0->∃g,Gd p (drF m p s) (drR m p s) g
theorem GJ {m:Nat} (i:yT m) {f:Nat}:∀(a:Nat) (p:PW),nds p<m->Inv p->TL p->f*16+a<=p.IH.length->∃g,Gd p (daF (drF m) f a p) (daF (drR m) f a p) g
 |0,p,_,_,_,_=>⟨_,by rw[gB,gB];exact Gd.same rfl rfl rfl⟩
 |a+1,p,hn,hi,ht,hl=>by
  rw[gA,gA];by_cases b:(p.IH.getD (f*16+a) eS) 0=0
  ·rw[ag b,ag b];exact GJ i a p hn hi ht oA
  rw[ae b,ae b];have j:f*16+a<p.IH.length:=oA;obtain⟨l,o,l1,a1,b1⟩:=i p (f*16+a) hn hi ht j b;obtain⟨i1,i2,i3⟩:=(ju m).1 p (f*16+a) hn hi j b;obtain⟨n,k,l2,c,b2⟩:=GJ i (f:=f) a (drR m p (f*16+a)) oA i1 ((ju m).2 p (f*16+a) hn hi j b ht) (by rw[i1.IH,i3, <-hi.IH];omega);rw[o] at k l2 c b2 ⊢;rw[Gc (Ge m) (f:=f)] at k l2 c b2;refine⟨fun e=>n e&&l e,?_,?_,fun e h=>?_,fun e h d=>?_⟩
  ·rw[k, <-pb];rfl
  ·exact Lo.trans (q:=drF m p (f*16+a)) ⟨l2.kinds,l2.len,l2.IL⟩ l1
  ·rw[am];exact⟨c e h,a1 e (l2.told h)⟩
  ·rw[am] at d;exact b2 e (b1 e h d.2) d.1
theorem An {m:Nat} (C:yT m):yT (m+1):=by
 intro p s v hi d y o;unfold drF drR;by_cases c:(p.IH.getD s eS) 0=1∨gX (drA p s) ((p.IH.getD s eS) 0) ((p.IH.getD s eS) 1)=true
 ·rw[ag c,ag c];exact⟨_,Gd.same rfl rfl rfl⟩
 rw[ae c,ae c];obtain⟨b,r,hk, -, -⟩:=sL hi y o (fun e=>c (.inl e));rw[r] at c ⊢;rw[ah];have w:=iP hi s;have D:gX (drA p s) ((p.IH.getD s eS) 0) b=false:=by
  cases e:gX (drA p s) ((p.IH.getD s eS) 0) b with
  |false=>rfl
  |true=>exact absurd (.inr e) c
 have F:TL (drA p s):=d.of rfl rfl;have J:nds (drA p s)<m+1:=v;have i:(drA p s).kinds[b]? =some ((p.IH.getD s eS) 0):=hk
 suffices hx:∃g,Gd (drA p s) (lsF (drF m) (drA p s) ((p.IH.getD s eS) 0) b) (gnF (drR m) (drA p s) ((p.IH.getD s eS) 0) b) g by
  obtain⟨g,A,a,j,B⟩:=hx;exact⟨g,A,⟨a.kinds,a.len,a.IL⟩,j,B⟩
 generalize (p.IH.getD s eS) 0=k at*;generalize drA p s=q at*;clear hi d y o v hk c r;unfold gnF;by_cases l:k=5
 ·subst l;have e:∀dr:PW->Nat->PW,lsF dr q 5 b=daF dr b 16 (fgP 11 (nkP q b) b):=fun dr=>by unfold lsF;rw[ae oD,ae oD,ag rfl]
  rw[e,e];have I:nds (nkP q b)+1=nds q:=(ji q.kinds b).2 i;have H:b<q.kinds.length:=(List.getElem?_eq_some_iff.1 i).1;obtain⟨n,G,l0,a0,b0⟩:=GJ C (f:=b) 16 (fgP 11 (nkP q b) b) (by show nds (nkP q b)<m;omega) (jk (gn w i D oD) 11 oD (b:Int)) (F.of rfl rfl) (by show b*16+16<=q.IH.length;have:=w.IH;omega);generalize daF (drF m) b 16 (fgP 11 (nkP q b) b)=x at*;rw[G];refine⟨fun e=>kpE x 5 b e&&n e,?_,Lo.trans (q:=nkP q b) ⟨l0.kinds,l0.len,l0.IL⟩ (xN q b),fun e h=>?_,fun e h a=>?_⟩
  ·show i9 x (((q.IK.map (List.filter n))).map (List.filter (kpE x 5 b)))=_
   rw[pb]
  ·rw[am];exact⟨xq h (fun e=>absurd e oD),a0 e h⟩
  ·rw[am] at a;refine b0 e ?_ a.2;unfold d7 at h ⊢;rw[am,am] at h ⊢;obtain⟨t,d,hk⟩:=iA h.1.1;refine⟨⟨?_,h.1.2⟩,h.2⟩;rw[d];refine xj (show (q.kinds.set b 0)[t]? =some 4 from ?_);rw[cR (fun e=>by subst e;rw[hk] at i;cases i)];exact hk
 ·rw[GZ (d1:=drR m) (d2:=drF m) l];obtain⟨lo,u,E⟩:=Fj (dr:=drF m) (p:=q) (f:=b) l;generalize lsF (drF m) q k b=x at*;refine⟨kpE x k b,by unfold fwP;rw[E];rfl,lo,fun e h=>xq h (fun _=>?_),fun e h a=>?_⟩
  ·cases e1:isB x b 4 with
   |false=>rfl
   |true=>
    obtain⟨t,d,hk⟩:=iA e1;have:b=t:=oA;subst this;rw[u,List.getElem?_set] at hk;rw[ag rfl] at hk;split at hk<;>cases hk
  ·obtain⟨t,d,hk⟩:∃t:Nat,e.1=t∧q.kinds[t]? =some 4:=by
    unfold d7 at h;rw[am,am] at h;exact iA h.1.1
   refine Cy h ?_ a;rw[d];refine xj ?_;rw[u,cR (fun z=>?_)]
   ·exact hk
   ·subst z;rw[hk] at i;unfold kpE at a;rw[am] at a;have j:=a.2;rw[<-aK i,d] at j;simp at j
theorem pR:∀m,yT m
 |0=>fun _ _ a=>absurd a (dG _)
 |m+1=>An (pR m)
theorem Hq {p:PW} (j:p.Fits) (h:Snd p) {m s:Nat} (i:nds p<m) (k:s<p.IH.length) (c:(p.IH.getD s eS) 0≠0):drR m p s=fgt (drF m p s):=by
 obtain⟨g,r,lo,a,b⟩:=pR m p s i (hZ j h) (oH h) k c;rw[r];unfold fgt i9;rw[jX];have e:p.IK.map (List.filter g)=p.IK.map (dz fun e=> !d7 (drF m p s) e):=eI fun l hl=>by
  unfold dz;refine List.filter_congr fun e f=>?_;have d:=(me h hl).2 e f;rw[Bool.not_not]
  cases e1:d7 (drF m p s) e with
  |true=>exact a e e1
  |false=>
   cases e2:g e with
   |false=>rfl
   |true=>rw[b e d e2] at e1;cases e1
 rw[e]
theorem zG (l:List (Nat->Int)) (s:Nat) (x:Int):hnd s x (l.set s eS)=(hnd s x l).set s eS:=by
 unfold hnd;rw[List.map_set,show lY (s:Int) x eS=eS from ae (by show ¬((-1:Int)=(s:Int));omega)]
theorem zB {m:Nat} (c:vO m) (q:PW) (k:Int) (f:Nat) (wb:Nat) (V:Nat->Value) (hi:Inv q) (b:TL q) (d:nds q<m+1) (hk:q.kinds[f]? =some k) (a:gX q k f=false) (e:2<=k) (g:k<=8) (X:World) (tg:Nat->Nat) (bt:cb X wb tg V q):
  Calls Tryz.prog 120 #[.pointer (some ⟨wb,0,none⟩),.int .i64 f] X fun r W'=>r=.returned (.tuple #[])∧∃tag',cb W' wb tag' V (gnF (drR m) q k f)∧Kt tg tag' X W':=by
 have h:k=2∨k=3∨k=4∨k=5∨k=6∨k=7∨k=8:=oA;rcases h with rfl|rfl|rfl|rfl|rfl|rfl|rfl
 ·exact wU (.inl rfl) q f X wb tg V hi b hk a bt
 ·exact wU (.inr rfl) q f X wb tg V hi b hk a bt
 ·exact EK q f X wb tg V hi b hk a bt
 ·exact EM c q f X wb tg V hi b hk a d bt
 ·exact EO q f X wb tg V hi b hk a bt
 ·exact ES q f X wb tg V hi b hk a bt
 ·exact EU q f X wb tg V hi b hk a bt
theorem Ao {m:Nat} (hd:vO m):vO (m+1):=by
 intro p s W wb tag V hn hi B w Z;have aF:fh p s=if (p.IH.getD s eS) 0=0 then 6 else 0:=by
  unfold fh;rw[show fL p s=true from az ⟨oA,oA⟩,ag rfl,ah,gI w,aa,ac w];rfl
 have E:=hid (mK wb V p s W (Z.view hi.fits B.len));rw[aF] at E;by_cases h0:(p.IH.getD s eS) 0=0
 ·simp only[ag h0] at E ⊢;have O:=hid Z;go_enter Tryz.func37,Tryz.ntmps37
  go_wp2_with fail
  refine E.mono ?_;rintro r w1 ⟨rfl,rfl⟩;go_wp2_with fail
  go_ret
  exact⟨rfl,tag,O.out,ew _ _⟩
 simp only[ae h0] at E ⊢;obtain⟨bt,kr⟩:=Be Z 0;have KR:=hid kr;have T0:=hid (fun x (h:W.heap.size<=x)=>show gR tag W.heap.size 0 x=0 from ae oA);generalize gR tag W.heap.size 0=tg at*;have aR:=hi.IH;have aL:=hi.Jf;have aC:p.IH.length<=1000:=oA;have aO:(p.IH.length:Int)<=1000:=oA;have aQ:(s:Int)<(p.IH.length:Int):=oA;obtain⟨c,cap2,e2⟩:=bt.o.IH.form (show 0<p.IH.length by omega);have D:=hid e2;have HS:=hid w;have ar:=hid aC;have c2:=bD bt e2;obtain⟨f,A⟩:∃f,p.IH.getD s eS=f:=⟨_,rfl⟩
 have X6:=hid (fun X (h:cb X wb tg V p)=>show X.cell? ⟨c,s*7+6,none⟩=some (.int .i64 (f 6)) from by
  have a:=h.I0 e2 w (show 6<7 by omega);rw[<-gI w,A] at a;exact a)
 have RS:=hid (show W.rangeAt c (s*7) (cf 6 f) from by
  have a:=bt.o.IH;rw[e2] at a;have K:=a.range w;rw[<-gI w,A] at K;exact yt K)
 have al:=hid (aP W zK 32 W.heap.size 6 rfl oD);have aj:=hid (show Below W.heap.size W ((W.alloc (.cells zK 32)).setCells W.heap.size 0 (cf 6 f)) from bT (bal (af W.heap.size W) (.cells zK 32)) (aq _) _ 0);have ao:=hid (World.rangeAt_setCells_same (W.alloc (.cells zK 32)) W.heap.size 0 (cf 6 f) (by rw[ay];exact al));have Y:=hid (T0.out W.heap.size (aq _));have O:=hid bt;have T:=hid (show drA p s={p with IH:=(hnd s (f 6) p.IH).set s eS} by unfold drA;rw[A,zG]);have aE:=iP hi s;have U:=hid (show (drA p s).IH.length=p.IH.length by rw[T.out];show ((hnd _ _ _).set _ _).length=_;rw[au,mL]);have G:=hid (show drR (m+1) p s=if f 0=1∨gX (drA p s) (f 0) (f 1)=true then drA p s else gnF (drR m) (drA p s) (f 0) (f 1).toNat by
  show (if _ then _ else _)=_
  rw[A])
 have P:=hid (show f 0≠1->gX (drA p s) (f 0) (f 1)=false->∃b:Nat,f 1=b∧∀X L,cb X wb L V (drA p s)->Calls Tryz.prog 120 #[.pointer (some ⟨wb,0,none⟩),.int .i64 b] X fun r W'=>r=.returned (.tuple #[])∧∃tag',cb W' wb tag' V (gnF (drR m) (drA p s) (f 0) b)∧Kt L tag' X W' from fun y ho=>by
  obtain⟨b,z,hk,a,h8⟩:=sL hi w h0 (by rw[A];exact y);rw[A] at z hk a h8;rw[z] at ho;exact⟨b,z,fun X L h=>zB hd (drA p s) (f 0) b wb V aE (B.of rfl rfl) hn hk ho a h8 X L h⟩)
 go_enter Tryz.func37,Tryz.ntmps37
 go_wp2_with fail
 refine E.mono ?_;rintro r w1 ⟨rfl,rfl⟩;go_upto_region 5 with (first|((with_reducible refine gld 32 ?_);refine Bq rfl _ rfl c (s*7) rfl (cf 6 f) (ay _ _) RS ?_)|((with_reducible refine gst 32 ?_);refine Br rfl _ _ rfl W.heap.size 0 rfl (cf 6 f) rfl (ay _ _) (bQ _ _) al ?_))
 generalize World.setCells _ _ _ _=W1 at*;obtain⟨kb,aB⟩:∃kb,W.heap.size=kb:=⟨_,rfl⟩
 rw[aB] at ao Y ⊢;have M:=hid (O.below aj);have K1:=hid (KR.trans (.below aj));have c2:=bD M D;have x6:=X6.out _ M;have am:=hid (uL wb tg V p s (f 6) W1 M ar);generalize aS:f 6=z6 at x6 am T;go_wp2_with fail
 refine am.mono ?_;rintro r w2 ⟨rfl,b2,k2⟩;have N:=hid b2;have K2:=hid (K1.trans k2);have av:=hid (show w2.rangeAt kb 0 (cf 6 f) from fun o v hv=>k2.cell (ao.out o v hv) Y);have he:V 2=.slice (some ⟨c,0,none⟩) (hnd s z6 p.IH).length cap2:=by rw[mL];exact D
 have c2:=bD N D;have T2:=hid (N.Jg he (s*7) 7 (by show s*7+7<=(hnd s z6 p.IH).length*7;rw[mL];have:=HS.out;omega));obtain⟨b3,k3⟩:=N.I1 he (i:=s) (by show s<(hnd s z6 p.IH).length;rw[mL];exact HS) eS;have C:=hid (show cb (w2.setCells c (s*7) (cf 7 eS)) wb tg V (drA p s) by rw[T.out];exact b3);have K3:=hid (K2.trans k3);have aw:=hid (show (w2.setCells c (s*7) (cf 7 eS)).rangeAt kb 0 (cf 6 f) from fun o v hv=>k3.cell (av.out o v hv) Y);go_upto_region 7 with (first|((with_reducible refine gst 34 ?_);refine nC rfl _ _ rfl c (s*7) rfl (cf 7 eS) rfl (ay _ _) (bQ _ _) T2 ?_))
 generalize World.setCells _ _ _ _=u at*;generalize drA p s=q at*;have EQ:=hid (show V 2=.slice (some ⟨c,0,none⟩) q.IH.length cap2 by rw[U.out];exact D);have ap:=hid (fun X (h:Below u.heap.size u X)=>cS aw h);generalize aH:f 0=z0 at G P;generalize aI:f 1=n at G P;have Y0:=hid (fun X (h:Below u.heap.size u X)=>ai (ap.out X h) (k:=0) (by rw[dk 6 _ 0 oA,aH]));have Y1:=hid (fun X (h:Below u.heap.size u X)=>ai (ap.out X h) (k:=1) (by rw[dk 6 _ 1 oA,aI]));go_wp2_with fail
 go_loopw [7] (fun i wr=>∃(j:Nat),j<=p.IH.length∧i=.int .i64 j∧Hid (∀t,t<j->∀g,q.IH[t]? =some g->(g 0==z0&&g 1==n)=false)∧Hid (Below u.heap.size u wr)) (fun i _=>p.IH.length - (intOf i).toNat)
 case atStart=>exact⟨0,oA,rfl,hid (fun t h=>absurd h (dG _)),hid (af _ _)⟩
 case round=>
  obtain⟨j,hj,rfl,S,d⟩:=hrel;have c2:=bD (C.below d) D;have y0:=Y0.out _ d;have y1:=Y1.out _ d;by_cases aA:j<p.IH.length
  ·have aN:(j:Int)<(p.IH.length:Int):=oA;have ad:j<q.IH.length:=by rw[U.out];exact aA
   have x0:wr.cell? ⟨c,j*7,none⟩=some (.int .i64 (q.IH[j] 0)):=(C.below d).I0 EQ ad (show 0<7 by omega);have x1:=(C.below d).I0 EQ ad (show 1<7 by omega);have H:=hid (show q.IH[j]? =some q.IH[j] from ac ad);generalize q.IH[j]=g at x0 x1 H;have an:=hid (show (g 0==z0&&g 1==n)=true->gX q z0 n=true from fun h=>List.any_eq_true.2 ⟨g,List.mem_iff_getElem?.2 ⟨j,H.out⟩,h⟩);have R:=hid (show (g 0==z0&&g 1==n)=false->∀t,t<j+1->∀g,q.IH[t]? =some g->(g 0==z0&&g 1==n)=false from fun h t B c a=>by
    by_cases e:t=j
    ·rw[e,H.out] at a;rw[<-aK a];exact h
    ·exact S t oA c a)
   generalize g 0=u0 at*;generalize g 1=u1 at*;clear H S;by_cases e0:u0=z0
   ·have J:(u0==z0)=true:=by simpa using e0
    by_cases e1:u1=n
    ·have ab:(u1==n)=true:=by simpa using e1
     have I:=hid (an.out (by rw[J,ab];rfl));have F:=hid (show drR (m+1) p s=q by rw[G.out,ag (.inr I)]);clear e0 e1 an R;go_wp2_with fail
     go_quiet (fail)
     have l:=hid (aG d nq);generalize World.drewN _ _=W4 at l ⊢;go_wp2_with fail
     go_ret
     exact⟨rfl,tg,by rw[F.out];exact C.below l,K3.trans (.below l)⟩
    ·have ab:(u1==n)=false:=by simpa using e1
     have Q:=hid (R.out (by rw[J,ab];rfl));go_wp2_with fail
     go_quiet (fail)
     have l:=hid (aG d nq);generalize World.drewN _ _=W4 at l ⊢;go_wp2_with fail
     exact⟨⟨j+1,oA,by go_num,Q,l⟩,by simp[intOf];omega⟩
   ·have J:(u0==z0)=false:=by simpa using e0
    have Q:=hid (R.out (by rw[J];rfl));go_wp2_with fail
    go_quiet (fail)
    have l:=hid (aG d nq);generalize World.drewN _ _=W4 at l ⊢;go_wp2_with fail
    exact⟨⟨j+1,oA,by go_num,Q,l⟩,by simp[intOf];omega⟩
  ·obtain rfl:j=p.IH.length:=oA;have aM:¬((p.IH.length:Int)<(p.IH.length:Int)):=oA;have I:=hid (show gX q z0 n=false from bO.2 fun g hg h=>by
    obtain⟨t,B⟩:=List.mem_iff_getElem?.1 hg;have K:=S.out t (by have:=(List.getElem?_eq_some_iff.1 B).1;rw[U.out] at this;exact this) g B;rw[K] at h
    cases h)
   have B5:=hid (C.below d);have K5:=hid (K3.trans (.below d));by_cases y:z0=1
   ·have ax:(z0 !=1)=false:=by rw[y];rfl
    have F:=hid (show drR (m+1) p s=q by rw[G.out,ag (.inl y)]);go_wp2_with fail
    go_ret
    exact⟨rfl,tg,by rw[F.out];exact B5,K5.out⟩
   ·have ax:(z0 !=1)=true:=by simpa using y
    obtain⟨b,z,aD⟩:=P.out y I;have F:=hid (show drR (m+1) p s=gnF (drR m) q z0 b by rw[G.out,ae (by rintro (e|e);exact y e;rw[I.out] at e;cases e),z,ah]);rw[z] at y1;have HL:=hid (aD _ _ B5);go_wp2_with fail
    refine HL.mono ?_;rintro r w9 ⟨rfl,aJ,b9,k9⟩;have B9:=hid b9;have K9:=hid (K5.trans k9);go_wp2_with fail
    go_ret
    exact⟨rfl,aJ,by rw[F.out];exact B9,K9.out⟩
theorem sV:∀m,vO m
 |0=>fun _ _ _ _ _ _ a=>absurd a (dG _)
 |m+1=>Ao (sV m)
theorem mJ {p:PW} {n:Int} (h:fh p n=0):∃j:Nat,n=j∧j<p.IH.length∧(p.IH.getD j eS) 0≠0:=by
 unfold fh at h
 cases hs:fL p n with
 |false=>rw[hs,ae oD] at h;cases h
 |true=>
  obtain⟨j,rfl,a⟩:=fQ hs;rw[hs,ag rfl,ah] at h;refine⟨j,rfl,a,fun e=>?_⟩;rw[aa,ac a,aT] at h e;rw[ag e] at h
  cases h
theorem uE {p:PW} (h:Snd p):p4 p=true:=by
 have o:lfB p=true:=by
  have:=h.lf;unfold lfB;simp only[am,bg,bz];have a:=this.k1;have b:=this.k2;have c:=this.c1;have d:=this.c2;have e:=this.d1;have f:=this.d2;have g:=this.IL;have i:=this.IH;have j:=this.II;have k:=this.lines;have l:=this.bits;have m:=this.ready;have n:=this.IK;omega
 unfold p4 wmA;rw[o,h.tm,Bool.and_self,ag rfl,pA,eW h.b0,eW h.b1,eW h.b2,eW h.b3,eW h.b4,eW h.b5,eW h.b6,eW h.b7,eW h.b8,eW h.b9,eW h.Ki];rfl
def dkP (p:PW) (a:Int):PW:=if p4 p=true∧fh p a=0 then fgt (drF (nds p+1) p a.toNat) else p
theorem Es {p:PW} {j:Nat} (h:Snd p) (a:fh p j=0):dkP p j=fgt (drF (nds p+1) p j):=by
 unfold dkP;rw[ag ⟨uE h,a⟩,ah]
def DR (fn c0:Nat) (a:Int) (p q:PW):Prop:=∀(W:World) (wb:Nat) (tag:Nat->Nat) (V:Nat->Value),cb W wb tag V p->W.cell? ⟨c0,0,none⟩=some (.int .i64 a)->tag c0=0->
 Calls Tryz.prog fn #[.pointer (some ⟨wb,0,none⟩),.pointer (some ⟨c0,0,none⟩)] W fun r W'=>r=.returned (.tuple #[])∧∃tag',cb W' wb tag' V q∧Kt tag tag' W W'
theorem vD (d c1 c2 c0:Nat) (a:Int) (p q P:PW) (f:p.Fits) (hl:∀l∈p.IK,l.length<=100) (D:∀o (W:World),(callFunc d o).run Tryz.prog W=.ok (.enter d o) W) (g:fh p a=0->Inv q∧TL q∧P=fgt q∧DR d c0 a p q):
  r5 156 #[ptr c1,ptr c2] (je [(c1,.int .i64 a),(c2,.func (.func d) #[] #[.pointer (some ⟨c0,0,none⟩)]),(c0,.int .i64 a)]) eV p P (fh p a):=by
 intro W wb tag V bt e;have x1:=(e (c1,.int .i64 a) oS).1;have x2:=(e (c2,.func (.func d) #[] #[.pointer (some ⟨c0,0,none⟩)]) oS).1;have j:=e (c0,.int .i64 a) oS;have c:=hid (pf wb V p a W (bt.view f hl));unfold ptr;simp only[List.append_toArray,List.cons_append,eC];by_cases b:fh p a=0
 rotate_left
 ·have n:=hid b;rw[Gf b] at c ⊢;generalize fh p a=x at c n ⊢;clear b hl f bt e g;go_enter Tryz.func156,Tryz.ntmps156
  go_wp2_with fail
  refine c.mono ?_;rintro q w1 ⟨rfl,rfl⟩;go_wp2_with fail
  go_ret
  exact⟨rfl,tag,ew _ _,fun h=>absurd h n⟩
 obtain⟨hi,i,s,r⟩:=g b;have k:=hid (r W wb tag V bt j.1 j.2);have z:=hid s;have m:=hid (fun X u (h:cb X wb u V q)=>ve wb u V q X h hi.fits i.len i.word (by have:=hi.IL;have:=hi.Jf;omega));rw[b,Ex] at c;rw[b,Ex];clear b hl f bt e hi i s r g j;go_enter Tryz.func156,Tryz.ntmps156
 go_wp2_with fail
 refine c.mono ?_;rintro y w1 ⟨rfl,rfl⟩;go_wp2_with fail
 refine k.mono ?_;rintro y w2 ⟨rfl,E,b2,k2⟩;have v:=hid b2;have A:=hid k2;clear b2 k2 k;go_wp2_with fail
 refine (m.out _ _ v).mono ?_;rintro y F ⟨rfl,C,b3,t⟩;have w:=hid b3;have B:=hid (A.trans t);clear b3 t m;go_wp2_with fail
 go_ret
 exact⟨rfl,C,B.out,fun _=>⟨V,by rw[z.out];exact w⟩⟩
theorem mD (a:Int) (p:PW) (e:p.Fits) (hl:∀l∈p.IK,l.length<=100) (c:Snd p) (W:World) (wb:Nat) (tag:Nat->Nat) (V:Nat->Value) (bt:cb W wb tag V p):
  Calls Tryz.prog 37 #[.pointer (some ⟨wb,0,none⟩),.int .i64 a] W fun x d=>x=.returned (.int .i64 (fh p a))∧∃tag',Kt tag tag' W d∧(fh p a=0->∃m,cb d wb tag' m (dkP p a))∧(fh p a≠0->d=W):=by
 by_cases b:fh p a=0
 ·obtain⟨j,rfl,k,i⟩:=mJ b;refine (sV (nds p+1) p j W wb tag V oA (hZ e c) (oH c) k bt).mono ?_;rintro r w1 ⟨rfl,o,b1,k1⟩;rw[ae i] at b1 ⊢;exact⟨by rw[b],o,k1,fun _=>⟨V,by rw[Es c b, <-Hq e c oA k i];exact b1⟩,fun h=>absurd (by first|rfl|assumption|exact HE) h⟩
 ·have g:=hid b;have n:(fh p a !=0)=true:=by simpa using b
  have f:=hid (mK wb V p a W (bt.view e hl));generalize fh p a=x at f g n ⊢;go_enter Tryz.func37,Tryz.ntmps37
  go_wp2_with fail
  refine f.mono ?_;rintro q w1 ⟨rfl,rfl⟩;go_wp2_with fail
  go_ret
  exact⟨rfl,tag,ew _ _,fun h=>(absurd h g),fun _=>rfl⟩
theorem Gy (a:Array Value) (W:World):(callFunc 156 a).run Tryz.prog W=.ok (.enter 156 a) W:=by
 go_simp
