/- Qao -/
import Derived.Deep.RegionHeld3
import Derived.Test.YtnccmdndkmmhcaaGreatDoorQan
set_option maxRecDepth 100000
set_option maxHeartbeats 16000000
namespace Go.Proofs.YtnccmdndkmmhcaaGreatDoor
namespace Wd
open Go.RowKit Mem Bw Nums Mmu
theorem iy {p:PW} {z k:Int} (h:isB p z k=true):∃t:Nat,z=t∧p.kinds[t]? =some k:=by
 unfold isB fI at h;by_cases h0:0<=z
 ·rw[ag h0] at h;exact⟨z.toNat,oA,eq_of_beq h⟩
 ·rw[ae h0] at h
  cases h
theorem xf {p:PW} {t:Nat} {k:Int} (h:p.kinds[t]? =some k):isB p t k=true:=by
 unfold isB fI;rw[ag oA,ah,h];exact beq_self_eq_true _
theorem Bf {p:PW} (h:Snd p) {f:Nat->Int} (c:f∈p.IB):ffB p f=true∨∀k,k<20->f k=bl k:=by
 obtain⟨t,d⟩:=List.mem_iff_getElem?.1 c;obtain⟨hl,e⟩:=List.getElem?_eq_some_iff.1 d;have a:btB p t (p.kinds.getD t 0) p.IB[t]=false:=h.b5 t hl;rw[e] at a;unfold btB at a;by_cases b:p.kinds.getD t 0=6
 ·rw[ag b] at a;simp only[cS,am] at a;exact .inl a.1.1.1.2
 ·rw[ae b,cS] at a;exact .inr (me.1 a)
theorem iz {p:PW} (E:p.Fits) (h:Snd p):Inv p:=by
 refine⟨E,h.lf.k2,h.lf.IE,h.lf.IA,h.lf.IB,h.lf.lines,h.lf.bits,fun f m=>?_,fun l hl z H=>?_,fun f m=>?_,fun i x k G hk I=>?_,fun f m=>?_⟩
 ·obtain⟨s,F⟩:=List.mem_iff_getElem?.1 m;obtain⟨hl,e⟩:=List.getElem?_eq_some_iff.1 F;by_cases h0:f 0=0
  ·exact .inl h0
  by_cases c:f 0=1
  ·exact .inr (.inl c)
  have o:=Bh h hl (by rw[e];exact h0);rw[e] at o;unfold opB at o;rw[am,bZ] at o;rcases o.2 with d|d
  ·exact absurd (eq_of_beq d) c
  obtain⟨b,y,hk⟩:=iy d;obtain⟨A,D⟩:=List.getElem?_eq_some_iff.1 hk;have g:nkB p.kinds[b]=false:=h.b1 b A;rw[D] at g;unfold nkB at g;rw[eF,cS,bf] at g;exact .inr (.inr ⟨oA,g.1.2,b,y,hk⟩)
 ·obtain⟨a,v⟩:=List.mem_iff_getElem?.1 hl;obtain⟨w,e⟩:=List.getElem?_eq_some_iff.1 v;have c:blB p a (p.kinds.getD a 0) (p.bits.getD a 0) p.lines[a]=false:=h.b6 a w;rw[e] at c;unfold blB at c;rw[eF] at c;have d:tB p a (l.getD 0 0) z=false:=by
   have:=bP.1 c.2 z H;simpa using this
  obtain⟨t,q,hk⟩:=iy (Dq d);exact⟨t,q,by rw[h.lf.IB];exact (List.getElem?_eq_some_iff.1 hk).1⟩
 ·rcases Bf h m with c|c
  ·rcases xU h.lf.IB c with d|⟨j,C,d⟩
   ·exact .inl d
   ·exact .inr ⟨j,d,C⟩
  ·exact .inl (by rw[c 17 oA];rfl)
 ·obtain⟨B,e⟩:=List.getElem?_eq_some_iff.1 G;have c:beB p (p.kinds.getD (i/16) 0) p.IE[i]=false:=h.b9 i B;rw[e,aa,hk,aR] at c;unfold beB at c;by_cases h0:x=0
  ·exact .inl h0
  have r:(x==0)=false:=by simpa using h0
  have k24:=h.lf.k2
  right
  by_cases u:k=4
  ·rw[ag u,r] at c;have d:isB p (x - 32768) 3=true:=by simpa using c
   obtain⟨t,q,n⟩:=iy d;have:=(List.getElem?_eq_some_iff.1 n).1;exact⟨t,oA,.inl oA⟩
  ·have g:k=3:=oA;rw[ae u,ag g,r] at c;have d:isB p (x - 32768) 2=true∨isB p (x - 32768 - 16384) 2=true:=by
    cases e1:isB p (x - 32768) 2 with
    |true=>exact .inl rfl
    |false=>rw[e1] at c;right;simpa using c
   rcases d with d|d
   ·obtain⟨t,q,n⟩:=iy d;have:=(List.getElem?_eq_some_iff.1 n).1;exact⟨t,oA,.inl oA⟩
   ·obtain⟨t,q,n⟩:=iy d;have:=(List.getElem?_eq_some_iff.1 n).1;exact⟨t,oA,.inr oA⟩
 ·rcases Bf h m with c|c
  ·unfold ffB at c;simp only[am] at c;have d:=c.1.2;unfold fA at d;rw[bZ] at d;rcases d with d|d
   ·exact .inl (eq_of_beq d)
   ·exact .inr (iy d)
  ·exact .inl (by rw[c 13 oA];rfl)
theorem lX {p:PW} (h:Snd p) {l:List Ent} (hl:l∈p.ID):l.length<=4∧∀e∈l,d7 p e=true:=by
 obtain⟨c,g⟩:=List.mem_iff_getElem?.1 hl;obtain⟨i,e⟩:=List.getElem?_eq_some_iff.1 g;have a:bmB p p.ID[c]=false:=h.Kb c i;rw[e] at a;unfold bmB at a;rw[eF,decide_eq_false_iff_not] at a;refine⟨oA,fun x m=>?_⟩;obtain⟨j,d⟩:=List.mem_iff_getElem?.1 m;obtain⟨k, -⟩:=List.getElem?_eq_some_iff.1 d;have b:=bP.1 a.2 j (List.mem_range.2 k);rw[d] at b;have f:emB p l j x=false:=by simpa using b
 exact (zk f).1
theorem ot {p:PW} (h:Snd p):TL p:=by
 refine⟨fun l hl=>?_,fun l hl e b=>?_,fun z d=>?_⟩
 ·have:=(lX h hl).1;omega
 ·have a:=(lX h hl).2 e b;unfold d7 at a;simp only[am,bf] at a;exact a.1.2
 ·obtain⟨i,hi⟩:=List.mem_iff_getElem?.1 d;obtain⟨c,e⟩:=List.getElem?_eq_some_iff.1 hi;have a:nwB p.IE[i]=false:=h.b0 i c;rw[e] at a;unfold nwB wB at a;rw[cS,bf] at a;omega
def i7 (p:PW) (X:List (List Ent)):PW:={p with ID:=X}
theorem Ip (p:PW) (t:Nat) (X:List (List Ent)):etP (i7 p X) t=i7 (etP p t) X:=by
 unfold etP;by_cases h:p.IB.getD t bl 17= -1
 ·have a:(i7 p X).IB.getD t bl 17= -1:=h;rw[ag a,ag h];rfl
 ·have a:¬(i7 p X).IB.getD t bl 17= -1:=h;rw[ae a,ae h];rfl
theorem Ev:∀(l:List Int) (p:PW) (X:List (List Ent)),l.foldl ds1 (i7 p X)=i7 (l.foldl ds1 p) X
 |[],_,_=>rfl
 |z::l,p,X=>by rw[eg,eg,show ds1 (i7 p X) z=i7 (ds1 p z) X from rfl,Ev l]
theorem Io (p:PW) (f:Nat) (X:List (List Ent)):dsP (i7 p X) f=i7 (dsP p f) X:=by
 unfold dsP;rw[show (i7 p X).lines=p.lines from rfl,show (i7 p X).bits=p.bits from rfl,Ev];rfl
theorem F8 {dr:PW->Nat->PW} (b:∀p s X,dr (i7 p X) s=i7 (dr p s) X) {f:Nat}:∀(a:Nat) (p:PW) (X:List (List Ent)),daF dr f a (i7 p X)=i7 (daF dr f a p) X
 |0,p,X=>by rw[gU,gU]
 |a+1,p,X=>by
  rw[gT,gT,show (i7 p X).IA=p.IA from rfl];by_cases h0:(p.IA.getD (f*16+a) eS) 0=0
  ·rw[ag h0,ag h0];exact F8 b a p X
  ·rw[ae h0,ae h0,b];exact F8 b a _ X
theorem Is {dr:PW->Nat->PW} (b:∀p s X,dr (i7 p X) s=i7 (dr p s) X) (p:PW) (k:Int) (f:Nat) (X:List (List Ent)):lsF dr (i7 p X) k f=i7 (lsF dr p k f) X:=by
 unfold lsF;by_cases a:k=2∨k=3
 ·rw[ag a,ag a];rfl
 rw[ae a,ae a];by_cases e4:k=4
 ·rw[ag e4,ag e4];rfl
 rw[ae e4,ae e4];by_cases e5:k=5
 ·rw[ag e5,ag e5];exact F8 b 16 (fgP 11 (nkP p f) f) X
 rw[ae e5,ae e5];by_cases e6:k=6
 ·rw[ag e6,ag e6];exact Ip (nkP p f) f X
 rw[ae e6,ae e6];show fgP 13 (dsP (i7 (nkP p f) X) f) f=_
 rw[Io];rfl
theorem F9:∀(m:Nat) (p:PW) (s:Nat) (X:List (List Ent)),drF m (i7 p X) s=i7 (drF m p s) X
 |0,_,_,_=>rfl
 |m+1,p,s,X=>by
  show (if (p.IA.getD s eS) 0=1∨ig (drA p s) ((p.IA.getD s eS) 0) ((p.IA.getD s eS) 1)=true then i7 (drA p s) X else lsF (drF m) (i7 (drA p s) X) ((p.IA.getD s eS) 0) ((p.IA.getD s eS) 1).toNat)=i7 (if (p.IA.getD s eS) 0=1∨ig (drA p s) ((p.IA.getD s eS) 0) ((p.IA.getD s eS) 1)=true then drA p s else lsF (drF m) (drA p s) ((p.IA.getD s eS) 0) ((p.IA.getD s eS) 1).toNat) X
  by_cases h:(p.IA.getD s eS) 0=1∨ig (drA p s) ((p.IA.getD s eS) 0) ((p.IA.getD s eS) 1)=true
  ·rw[ag h,ag h]
  ·rw[ae h,ae h];exact Is (fun p s X=>F9 m p s X) _ _ _ X
theorem jS (m:Nat) (p:PW) (s:Nat):(drF m p s).ID=p.ID:=by
 have h:=F9 m p s p.ID;rw[show i7 p p.ID=p from rfl] at h;rw[h];rfl
structure Lo (q p:PW):Prop where
 kinds:∀(t:Nat) (k:Int),k≠0->q.kinds[t]? =some k->p.kinds[t]? =some k
 len:q.IE.length=p.IE.length
 IE:∀i,q.IE.getD i 0=p.IE.getD i 0∨q.IE.getD i 0=0
theorem Lo.trans {r q p:PW} (a:Lo r q) (b:Lo q p):Lo r p:=⟨fun t k h0 h=>b.kinds t k h0 (a.kinds t k h0 h),a.len.trans b.len,fun i=>by
 rcases a.IE i with h|h
 ·rcases b.IE i with c|c
  ·exact .inl (h.trans c)
  ·exact .inr (h.trans c)
 ·exact .inr h⟩
theorem Lo.of {q p:PW} (b:∀(t:Nat) (k:Int),k≠0->q.kinds[t]? =some k->p.kinds[t]? =some k) (a:q.IE=p.IE):Lo q p:=⟨b,by rw[a],fun i=>.inl (by rw[a])⟩
theorem Ew {n:Int}:¬isE 0 n:=fun h=>absurd h.1 oD
theorem DC {ys zs:List Int} (hl:ys.length=zs.length) (f:∀i,ys.getD i 0=zs.getD i 0∨ys.getD i 0=0) {s a:Int} (h:(eu ys s a).2.2=0):eu ys s a=eu zs s a:=by
 have d:n16 ys=n16 zs:=by unfold n16;rw[hl]
 by_cases hi:inb ys.length s a
 rotate_left
 ·rw[iY hi] at h;cases h
 by_cases b:isE (e1 ys s a) (n16 ys)
 rotate_left
 ·rw[m9 hi b] at h;cases h
 by_cases c:isE (e2 ys (e1 ys s a%1024) a) (n16 ys)
 rotate_left
 ·rw[na hi b c] at h;cases h
 have q1:e1 ys s a=e1 zs s a:=by
  rcases f (s*16+a/256).toNat with e|e
  ·exact e
  ·exact absurd (show isE 0 (n16 ys) by have:=b;unfold e1 at this;rw[e] at this;exact this) Ew
 have g:e2 ys (e1 ys s a%1024) a=e2 zs (e1 zs s a%1024) a:=by
  rcases f ((e1 ys s a%1024)*16+a/16%16).toNat with e|e
  ·rw[<-q1];exact e
  ·exact absurd (show isE 0 (n16 ys) by have:=c;unfold e2 at this;rw[e] at this;exact this) Ew
 have k1:=b;have k2:=c;rw[q1,d] at k1;rw[g,d] at k2;rw[kL hi b c,kL (by rw[<-hl];exact hi) k1 k2,g]
theorem Lo.told {q p:PW} (a:Lo q p) {e:Ent} (h:d7 q e=true):d7 p e=true:=by
 unfold d7 at h ⊢;rw[am,am] at h ⊢;obtain⟨t,c,hk⟩:=iy h.1.1;have h0:(eu q.IE e.1 (e.2.1*16)).2.2=0:=by
  have b:=h.2;simp only[am] at b;exact eq_of_beq b.1.1
 rw[<-DC a.len a.IE h0];exact⟨⟨by rw[c];exact xf (a.kinds t 4 oD hk),h.1.2⟩,h.2⟩
theorem xn {q:PW} {k f:Int} {e:Ent} (h:d7 q e=true) (b:k=4->isB q f 4=false):kpE q k f e=true:=by
 unfold d7 at h;rw[am,am] at h;unfold kpE;rw[Int.mul_comm 16 e.2.1,h.2,eH]
 cases e1:(k==4&&e.1==f) with
 |false=>rfl
 |true=>
  rw[am] at e1;have a:=b (eq_of_beq e1.1);rw[<-eq_of_beq e1.2,h.1.1] at a
  cases a
theorem Cw {p q:PW} {k f:Int} {e:Ent} (h:d7 p e=true) (a:isB q e.1 4=true) (hk:kpE q k f e=true):d7 q e=true:=by
 unfold d7 at h ⊢;rw[am,am] at h ⊢;unfold kpE at hk;rw[Int.mul_comm 16 e.2.1,am] at hk;exact⟨⟨a,h.1.2⟩,hk.1⟩
def Gd (p q r:PW) (g:Ent->Bool):Prop:=r=i7 q (p.ID.map (List.filter g))∧Lo q p∧(∀e,d7 q e=true->g e=true)∧(∀e,d7 p e=true->g e=true->d7 q e=true)
theorem zq (X:List (List Ent)):X.map (List.filter fun _=>true)=X:=by
 conv=>rhs;rw[<-List.map_id X]
 exact eI fun l _=>List.filter_eq_self.2 fun _ _=>rfl
theorem oU (X:List (List Ent)) (a b:Ent->Bool):(X.map (List.filter a)).map (List.filter b)=X.map (List.filter fun e=>b e&&a e):=by
 rw[List.map_map];exact eI fun l _=>by rw[Function.comp,List.filter_filter]
theorem Gd.same {p q:PW} (c:q.ID=p.ID) (a:q.kinds=p.kinds) (b:q.IE=p.IE):Gd p q q (fun _=>true):=by
 refine⟨by rw[zq, <-c];rfl,.of (fun t k _ h=>by rw[<-a];exact h) b,fun _ _=>rfl,fun e h _=>?_⟩;unfold d7 isB fI at h ⊢;rw[a,b];exact h
theorem xI (p:PW) (f:Nat):Lo (nkP p f) p:=.of (fun _ _ h0 h=>(xG h h0).1) rfl
theorem Hr (p:PW) (f:Int):Lo (utP p f) p:=⟨fun _ _ _ h=>h,dW ..,fun i=>by
 show (p.IE.mapIdx (ut1 p.kinds f)).getD i 0=_∨(p.IE.mapIdx (ut1 p.kinds f)).getD i 0=0
 rw[aa,List.getElem?_mapIdx,aa]
 cases p.IE[i]? with
 |none=>exact .inl rfl
 |some x=>
  show ut1 p.kinds f i x=x∨ut1 p.kinds f i x=0
  unfold ut1;split
  ·exact .inr rfl
  ·exact .inl rfl⟩
theorem Fg {dr:PW->Nat->PW} {p:PW} {k:Int} {f:Nat} (b:k≠5):Lo (lsF dr p k f) p∧(lsF dr p k f).kinds=p.kinds.set f 0∧(lsF dr p k f).ID=p.ID:=by
 unfold lsF;by_cases a:k=2∨k=3
 ·rw[ag a];exact⟨(Hr _ _).trans (xI p f),rfl,rfl⟩
 rw[ae a];by_cases e4:k=4
 ·rw[ag e4];exact⟨Lo.trans (q:=nkP p f) ⟨fun _ _ _ h=>h,rfl,fun _=>.inl rfl⟩ (xI p f),rfl,rfl⟩
 rw[ae e4,ae b];by_cases e6:k=6
 ·rw[ag e6];exact⟨Lo.trans (.of (fun t k _ h=>by rw[<-ky (nkP p f) f];exact h) (nz (nkP p f) f).2) (xI p f),ky (nkP p f) f,(nz (nkP p f) f).1⟩
 rw[ae e6];exact⟨Lo.trans (.of (fun t k _ h=>by rw[<-iP (nkP p f) f];exact h) (qa (nkP p f) f).2) (xI p f),iP (nkP p f) f,(qa (nkP p f) f).1⟩
theorem GU {d1 d2:PW->Nat->PW} {p:PW} {k:Int} {f:Nat} (a:k≠5):lsF d1 p k f=lsF d2 p k f:=by
 unfold lsF;rw[ae (a:¬k=5),ae (a:¬k=5)]
def yS (m:Nat):Prop:=∀p s,nds p<m->Inv p->TL p->s<p.IA.length->(p.IA.getD s eS) 0≠0->∃g,Gd p (drF m p s) (drR m p s) g
theorem GD {m:Nat} (d:yS m) {f:Nat}:∀(a:Nat) (p:PW),nds p<m->Inv p->TL p->f*16+a<=p.IA.length->∃g,Gd p (daF (drF m) f a p) (daF (drR m) f a p) g
 |0,p,_,_,_,_=>⟨_,by rw[gU,gU];exact Gd.same rfl rfl rfl⟩
 |a+1,p,hn,hi,ht,hl=>by
  rw[gT,gT];by_cases h0:(p.IA.getD (f*16+a) eS) 0=0
  ·rw[ag h0,ag h0];exact GD d a p hn hi ht oA
  rw[ae h0,ae h0];have i:f*16+a<p.IA.length:=oA;obtain⟨k,n,l1,a1,b1⟩:=d p (f*16+a) hn hi ht i h0;obtain⟨i1,i2,i3⟩:=(jq m).1 p (f*16+a) hn hi i h0;obtain⟨l,j,l2,b,b2⟩:=GD d (f:=f) a (drR m p (f*16+a)) oA i1 ((jq m).2 p (f*16+a) hn hi i h0 ht) (by rw[i1.IA,i3, <-hi.IA];omega);rw[n] at j l2 b b2 ⊢;rw[F8 (F9 m) (f:=f)] at j l2 b b2;refine⟨fun e=>l e&&k e,?_,?_,fun e h=>?_,fun e h c=>?_⟩
  ·rw[j, <-oU];rfl
  ·exact Lo.trans (q:=drF m p (f*16+a)) ⟨l2.kinds,l2.len,l2.IE⟩ l1
  ·rw[am];exact⟨b e h,a1 e (l2.told h)⟩
  ·rw[am] at c;exact b2 e (b1 e h c.2) c.1
theorem Ap {m:Nat} (B:yS m):yS (m+1):=by
 intro p s u hi d w h0;unfold drF drR;by_cases c:(p.IA.getD s eS) 0=1∨ig (drA p s) ((p.IA.getD s eS) 0) ((p.IA.getD s eS) 1)=true
 ·rw[ag c,ag c];exact⟨_,Gd.same rfl rfl rfl⟩
 rw[ae c,ae c];obtain⟨b,o,hk, -, -⟩:=vo hi w h0 (fun e=>c (.inl e));rw[o] at c ⊢;rw[ah];have v:=jg hi s;have C:ig (drA p s) ((p.IA.getD s eS) 0) b=false:=by
  cases e:ig (drA p s) ((p.IA.getD s eS) 0) b with
  |false=>rfl
  |true=>exact absurd (.inr e) c
 have E:TL (drA p s):=d.of rfl rfl;have I:nds (drA p s)<m+1:=u;have i:(drA p s).kinds[b]? =some ((p.IA.getD s eS) 0):=hk
 suffices hx:∃g,Gd (drA p s) (lsF (drF m) (drA p s) ((p.IA.getD s eS) 0) b) (gnF (drR m) (drA p s) ((p.IA.getD s eS) 0) b) g by
  obtain⟨g,z,a,j,A⟩:=hx;exact⟨g,z,⟨a.kinds,a.len,a.IE⟩,j,A⟩
 generalize (p.IA.getD s eS) 0=k at*;generalize drA p s=q at*;clear hi d w h0 u hk c o;unfold gnF;by_cases l:k=5
 ·subst l;have e:∀dr:PW->Nat->PW,lsF dr q 5 b=daF dr b 16 (fgP 11 (nkP q b) b):=fun dr=>by unfold lsF;rw[ae oD,ae oD,ag rfl]
  rw[e,e];have H:nds (nkP q b)+1=nds q:=(jR q.kinds b).2 i;have G:b<q.kinds.length:=(List.getElem?_eq_some_iff.1 i).1;obtain⟨n,F,l0,a0,b0⟩:=GD B (f:=b) 16 (fgP 11 (nkP q b) b) (by show nds (nkP q b)<m;omega) (jT (gF v i C oD) 11 oD (b:Int)) (E.of rfl rfl) (by show b*16+16<=q.IA.length;have:=v.IA;omega);generalize daF (drF m) b 16 (fgP 11 (nkP q b) b)=x at*;rw[F];refine⟨fun e=>kpE x 5 b e&&n e,?_,Lo.trans (q:=nkP q b) ⟨l0.kinds,l0.len,l0.IE⟩ (xI q b),fun e h=>?_,fun e h a=>?_⟩
  ·show i7 x (((q.ID.map (List.filter n))).map (List.filter (kpE x 5 b)))=_
   rw[oU]
  ·rw[am];exact⟨xn h (fun e=>absurd e oD),a0 e h⟩
  ·rw[am] at a;refine b0 e ?_ a.2;unfold d7 at h ⊢;rw[am,am] at h ⊢;obtain⟨t,d,hk⟩:=iy h.1.1;refine⟨⟨?_,h.1.2⟩,h.2⟩;rw[d];refine xf (show (q.kinds.set b 0)[t]? =some 4 from ?_);rw[cQ (fun e=>by subst e;rw[hk] at i;cases i)];exact hk
 ·rw[GU (d1:=drR m) (d2:=drF m) l];obtain⟨lo,r,D⟩:=Fg (dr:=drF m) (p:=q) (f:=b) l;generalize lsF (drF m) q k b=x at*;refine⟨kpE x k b,by unfold fwP;rw[D];rfl,lo,fun e h=>xn h (fun _=>?_),fun e h a=>?_⟩
  ·cases e1:isB x b 4 with
   |false=>rfl
   |true=>
    obtain⟨t,d,hk⟩:=iy e1;have:b=t:=oA;subst this;rw[r,List.getElem?_set] at hk;rw[ag rfl] at hk;split at hk<;>cases hk
  ·obtain⟨t,d,hk⟩:∃t:Nat,e.1=t∧q.kinds[t]? =some 4:=by
    unfold d7 at h;rw[am,am] at h;exact iy h.1.1
   refine Cw h ?_ a;rw[d];refine xf ?_;rw[r,cQ (fun y=>?_)]
   ·exact hk
   ·subst y;rw[hk] at i;unfold kpE at a;rw[am] at a;have j:=a.2;rw[<-aL i,d] at j;simp at j
theorem pF:∀m,yS m
 |0=>fun _ _ a=>absurd a (ex _)
 |m+1=>Ap (pF m)
theorem Hk {p:PW} (i:p.Fits) (h:Snd p) {m s:Nat} (f:nds p<m) (j:s<p.IA.length) (h0:(p.IA.getD s eS) 0≠0):drR m p s=fgt (drF m p s):=by
 obtain⟨g,r,lo,a,b⟩:=pF m p s f (iz i h) (ot h) j h0;rw[r];unfold fgt i7;rw[jS];have e:p.ID.map (List.filter g)=p.ID.map (dx fun e=> !d7 (drF m p s) e):=eI fun l hl=>by
  unfold dx;refine List.filter_congr fun e d=>?_;have c:=(lX h hl).2 e d;rw[Bool.not_not]
  cases e1:d7 (drF m p s) e with
  |true=>exact a e e1
  |false=>
   cases e2:g e with
   |false=>rfl
   |true=>rw[b e c e2] at e1;cases e1
 rw[e]
theorem zH (l:List (Nat->Int)) (s:Nat) (x:Int):hnd s x (l.set s eS)=(hnd s x l).set s eS:=by
 unfold hnd;rw[List.map_set,show nA (s:Int) x eS=eS from ae (by show ¬((-1:Int)=(s:Int));omega)]
theorem zB {m:Nat} (c:vL m) (q:PW) (k:Int) (f:Nat) (wb:Nat) (V:Nat->Value) (hi:Inv q) (b:TL q) (d:nds q<m+1) (hk:q.kinds[f]? =some k) (a:ig q k f=false) (e:2<=k) (g:k<=8) (X:World) (tg:Nat->Nat) (bt:cb X wb tg V q):
  Calls Tryz.prog 120 #[.pointer (some ⟨wb,0,none⟩),.int .i64 f] X fun r W'=>r=.returned (.tuple #[])∧∃tag',cb W' wb tag' V (gnF (drR m) q k f)∧Kt tg tag' X W':=by
 have h:k=2∨k=3∨k=4∨k=5∨k=6∨k=7∨k=8:=oA;rcases h with rfl|rfl|rfl|rfl|rfl|rfl|rfl
 ·exact wQ (.inl rfl) q f X wb tg V hi b hk a bt
 ·exact wQ (.inr rfl) q f X wb tg V hi b hk a bt
 ·exact EI q f X wb tg V hi b hk a bt
 ·exact EJ c q f X wb tg V hi b hk a d bt
 ·exact EK q f X wb tg V hi b hk a bt
 ·exact EM q f X wb tg V hi b hk a bt
 ·exact EN q f X wb tg V hi b hk a bt
theorem Aq {m:Nat} (hd:vL m):vL (m+1):=by
 intro p s W wb tag V hn hi C y ab;have aH:fF p s=if (p.IA.getD s eS) 0=0 then 6 else 0:=by
  unfold fF;rw[show fN p s=true from az ⟨oA,oA⟩,ag rfl,ah,gK y,aa,ac y];rfl
 have F:=hid (mC wb V p s W (ab.view hi.fits C.len));rw[aH] at F;by_cases h0:(p.IA.getD s eS) 0=0
 ·simp only[ag h0] at F ⊢;have P:=hid ab;go_enter Tryz.func37,Tryz.ntmps37
  go_wp2_with fail
  refine F.mono ?_;rintro r w1 ⟨rfl,rfl⟩;go_wp2_with fail
  go_ret
  exact⟨rfl,tag,P.out,en _ _⟩
 simp only[ae h0] at F ⊢;obtain⟨bt,kr⟩:=Be ab 0;have KR:=hid kr;have T0:=hid (fun x (h:W.heap.size<=x)=>show gy tag W.heap.size 0 x=0 from ae oA);generalize gy tag W.heap.size 0=tg at*;have aS:=hi.IA;have aM:=hi.I8;have aD:p.IA.length<=1000:=oA;have aQ:(p.IA.length:Int)<=1000:=oA;have aR:(s:Int)<(p.IA.length:Int):=oA;obtain⟨d,cap2,e2⟩:=bt.o.IA.form (show 0<p.IA.length by omega);have E:=hid e2;have HS:=hid y;have av:=hid aD;have c2:=bk bt e2;obtain⟨f,B⟩:∃f,p.IA.getD s eS=f:=⟨_,rfl⟩
 have X6:=hid (fun X (h:cb X wb tg V p)=>show X.cell? ⟨d,s*7+6,none⟩=some (.int .i64 (f 6)) from by
  have c:=h.IU e2 y (show 6<7 by omega);rw[<-gK y,B] at c;exact c)
 have RS:=hid (show W.rangeAt d (s*7) (cf 6 f) from by
  have c:=bt.o.IA;rw[e2] at c;have L:=c.range y;rw[<-gK y,B] at L;exact yp L)
 have am:=hid (aP W zK 32 W.heap.size 6 rfl oD);have al:=hid (show Below W.heap.size W ((W.alloc (.cells zK 32)).setCells W.heap.size 0 (cf 6 f)) from bR (bal (af W.heap.size W) (.cells zK 32)) (aq _) _ 0);have ap:=hid (World.rangeAt_setCells_same (W.alloc (.cells zK 32)) W.heap.size 0 (cf 6 f) (by rw[ay];exact am));have Z:=hid (T0.out W.heap.size (aq _));have P:=hid bt;have U:=hid (show drA p s={p with IA:=(hnd s (f 6) p.IA).set s eS} by unfold drA;rw[B,zH]);have aF:=jg hi s;have Y:=hid (show (drA p s).IA.length=p.IA.length by rw[U.out];show ((hnd _ _ _).set _ _).length=_;rw[au,mD]);have H:=hid (show drR (m+1) p s=if f 0=1∨ig (drA p s) (f 0) (f 1)=true then drA p s else gnF (drR m) (drA p s) (f 0) (f 1).toNat by
  show (if _ then _ else _)=_
  rw[B])
 have Q:=hid (show f 0≠1->ig (drA p s) (f 0) (f 1)=false->∃b:Nat,f 1=b∧∀X M,cb X wb M V (drA p s)->Calls Tryz.prog 120 #[.pointer (some ⟨wb,0,none⟩),.int .i64 b] X fun r W'=>r=.returned (.tuple #[])∧∃tag',cb W' wb tag' V (gnF (drR m) (drA p s) (f 0) b)∧Kt M tag' X W' from fun z ho=>by
  obtain⟨b,A,hk,c,h8⟩:=vo hi y h0 (by rw[B];exact z);rw[B] at A hk c h8;rw[A] at ho;exact⟨b,A,fun X M h=>zB hd (drA p s) (f 0) b wb V aF (C.of rfl rfl) hn hk ho c h8 X M h⟩)
 go_enter Tryz.func37,Tryz.ntmps37
 go_wp2_with fail
 refine F.mono ?_;rintro r w1 ⟨rfl,rfl⟩;go_upto_region 5 with (first|((with_reducible refine gld 32 ?_);refine Bp rfl _ rfl d (s*7) rfl (cf 6 f) (ay _ _) RS ?_)|((with_reducible refine gst 32 ?_);refine Bq rfl _ _ rfl W.heap.size 0 rfl (cf 6 f) rfl (ay _ _) (bQ _ _) am ?_))
 generalize World.setCells _ _ _ _=W1 at*;obtain⟨kb,aC⟩:∃kb,W.heap.size=kb:=⟨_,rfl⟩
 rw[aC] at ap Z ⊢;have N:=hid (P.below al);have K1:=hid (KR.trans (.below al));have c2:=bk N E;have x6:=X6.out _ N;have an:=hid (uH wb tg V p s (f 6) W1 N av);generalize aT:f 6=z6 at x6 an U;go_wp2_with fail
 refine an.mono ?_;rintro r w2 ⟨rfl,b2,k2⟩;have O:=hid b2;have K2:=hid (K1.trans k2);have aw:=hid (show w2.rangeAt kb 0 (cf 6 f) from fun o v hv=>k2.cell (ap.out o v hv) Z);have he:V 2=.slice (some ⟨d,0,none⟩) (hnd s z6 p.IA).length cap2:=by rw[mD];exact E
 have c2:=bk O E;have T2:=hid (O.I9 he (s*7) 7 (by show s*7+7<=(hnd s z6 p.IA).length*7;rw[mD];have:=HS.out;omega));obtain⟨b3,k3⟩:=O.IV he (i:=s) (by show s<(hnd s z6 p.IA).length;rw[mD];exact HS) eS;have D:=hid (show cb (w2.setCells d (s*7) (cf 7 eS)) wb tg V (drA p s) by rw[U.out];exact b3);have K3:=hid (K2.trans k3);have ax:=hid (show (w2.setCells d (s*7) (cf 7 eS)).rangeAt kb 0 (cf 6 f) from fun o v hv=>k3.cell (aw.out o v hv) Z);go_upto_region 7 with (first|((with_reducible refine gst 34 ?_);refine ni rfl _ _ rfl d (s*7) rfl (cf 7 eS) rfl (ay _ _) (bQ _ _) T2 ?_))
 generalize World.setCells _ _ _ _=w at*;generalize drA p s=q at*;have EQ:=hid (show V 2=.slice (some ⟨d,0,none⟩) q.IA.length cap2 by rw[Y.out];exact E);have ar:=hid (fun X (h:Below w.heap.size w X)=>cW ax h);generalize aI:f 0=a at H Q;generalize aJ:f 1=u at H Q;have Y0:=hid (fun X (h:Below w.heap.size w X)=>ai (ar.out X h) (k:=0) (by rw[dk 6 _ 0 oA,aI]));have Y1:=hid (fun X (h:Below w.heap.size w X)=>ai (ar.out X h) (k:=1) (by rw[dk 6 _ 1 oA,aJ]));go_wp2_with fail
 go_loopw [7] (fun i wr=>∃(j:Nat),j<=p.IA.length∧i=.int .i64 j∧Hid (∀t,t<j->∀g,q.IA[t]? =some g->(g 0==a&&g 1==u)=false)∧Hid (Below w.heap.size w wr)) (fun i _=>p.IA.length - (intOf i).toNat)
 case atStart=>exact⟨0,oA,rfl,hid (fun t h=>absurd h (ex _)),hid (af _ _)⟩
 case round=>
  obtain⟨j,hj,rfl,T,l⟩:=hrel;have c2:=bk (D.below l) E;have y0:=Y0.out _ l;have y1:=Y1.out _ l;by_cases aB:j<p.IA.length
  ·have aO:(j:Int)<(p.IA.length:Int):=oA;have aj:j<q.IA.length:=by rw[Y.out];exact aB
   have x0:wr.cell? ⟨d,j*7,none⟩=some (.int .i64 (q.IA[j] 0)):=(D.below l).IU EQ aj (show 0<7 by omega);have x1:=(D.below l).IU EQ aj (show 1<7 by omega);have I:=hid (show q.IA[j]? =some q.IA[j] from ac aj);generalize q.IA[j]=g at x0 x1 I;have ao:=hid (show (g 0==a&&g 1==u)=true->ig q a u=true from fun h=>List.any_eq_true.2 ⟨g,List.mem_iff_getElem?.2 ⟨j,I.out⟩,h⟩);have S:=hid (show (g 0==a&&g 1==u)=false->∀t,t<j+1->∀g,q.IA[t]? =some g->(g 0==a&&g 1==u)=false from fun h t C d c=>by
    by_cases e:t=j
    ·rw[e,I.out] at c;rw[<-aL c];exact h
    ·exact T t oA d c)
   generalize g 0=u0 at*;generalize g 1=u1 at*;clear I T;by_cases e0:u0=a
   ·have K:(u0==a)=true:=by simpa using e0
    by_cases e1:u1=u
    ·have ad:(u1==u)=true:=by simpa using e1
     have J:=hid (ao.out (by rw[K,ad];rfl));have G:=hid (show drR (m+1) p s=q by rw[H.out,ag (.inr J)]);clear e0 e1 ao S;go_wp2_with fail
     go_quiet (fail)
     have n:=hid (aG l nq);generalize World.drewN _ _=W4 at n ⊢;go_wp2_with fail
     go_ret
     exact⟨rfl,tg,by rw[G.out];exact D.below n,K3.trans (.below n)⟩
    ·have ad:(u1==u)=false:=by simpa using e1
     have R:=hid (S.out (by rw[K,ad];rfl));go_wp2_with fail
     go_quiet (fail)
     have n:=hid (aG l nq);generalize World.drewN _ _=W4 at n ⊢;go_wp2_with fail
     exact⟨⟨j+1,oA,by go_num,R,n⟩,by simp[intOf];omega⟩
   ·have K:(u0==a)=false:=by simpa using e0
    have R:=hid (S.out (by rw[K];rfl));go_wp2_with fail
    go_quiet (fail)
    have n:=hid (aG l nq);generalize World.drewN _ _=W4 at n ⊢;go_wp2_with fail
    exact⟨⟨j+1,oA,by go_num,R,n⟩,by simp[intOf];omega⟩
  ·obtain rfl:j=p.IA.length:=oA;have aN:¬((p.IA.length:Int)<(p.IA.length:Int)):=oA;have J:=hid (show ig q a u=false from bP.2 fun g hg h=>by
    obtain⟨t,C⟩:=List.mem_iff_getElem?.1 hg;have L:=T.out t (by have:=(List.getElem?_eq_some_iff.1 C).1;rw[Y.out] at this;exact this) g C;rw[L] at h
    cases h)
   have B5:=hid (D.below l);have K5:=hid (K3.trans (.below l));by_cases z:a=1
   ·have aA:(a !=1)=false:=by rw[z];rfl
    have G:=hid (show drR (m+1) p s=q by rw[H.out,ag (.inl z)]);go_wp2_with fail
    go_ret
    exact⟨rfl,tg,by rw[G.out];exact B5,K5.out⟩
   ·have aA:(a !=1)=true:=by simpa using z
    obtain⟨b,A,aE⟩:=Q.out z J;have G:=hid (show drR (m+1) p s=gnF (drR m) q a b by rw[H.out,ae (by rintro (e|e);exact z e;rw[J.out] at e;cases e),A,ah]);rw[A] at y1;have HL:=hid (aE _ _ B5);go_wp2_with fail
    refine HL.mono ?_;rintro r w9 ⟨rfl,aK,b9,k9⟩;have B9:=hid b9;have K9:=hid (K5.trans k9);go_wp2_with fail
    go_ret
    exact⟨rfl,aK,by rw[G.out];exact B9,K9.out⟩
theorem sH:∀m,vL m
 |0=>fun _ _ _ _ _ _ a=>absurd a (ex _)
 |m+1=>Aq (sH m)
theorem oX {p:PW} {n:Int} (h:fF p n=0):∃j:Nat,n=j∧j<p.IA.length∧(p.IA.getD j eS) 0≠0:=by
 unfold fF at h
 cases hs:fN p n with
 |false=>rw[hs,ae oD] at h;cases h
 |true=>
  obtain⟨j,rfl,a⟩:=fT hs;rw[hs,ag rfl,ah] at h;refine⟨j,rfl,a,fun e=>?_⟩;rw[aa,ac a,aR] at h e;rw[ag e] at h
  cases h
theorem uA {p:PW} (h:Snd p):rK p=true:=by
 have o:lfB p=true:=by
  have:=h.lf;unfold lfB;simp only[am,bf,bu];have a:=this.k1;have b:=this.k2;have c:=this.c1;have d:=this.c2;have e:=this.d1;have f:=this.d2;have g:=this.IE;have i:=this.IA;have j:=this.IB;have k:=this.lines;have l:=this.bits;have m:=this.ready;have n:=this.ID;omega
 unfold rK wmA;rw[o,h.tm,Bool.and_self,ag rfl,pe,eZ h.b0,eZ h.b1,eZ h.b2,eZ h.b3,eZ h.b4,eZ h.b5,eZ h.b6,eZ h.b7,eZ h.b8,eZ h.b9,eZ h.Kb];rfl
def dkP (p:PW) (a:Int):PW:=if rK p=true∧fF p a=0 then fgt (drF (nds p+1) p a.toNat) else p
theorem Eu {p:PW} {j:Nat} (h:Snd p) (h0:fF p j=0):dkP p j=fgt (drF (nds p+1) p j):=by
 unfold dkP;rw[ag ⟨uA h,h0⟩,ah]
def DO (fn c0:Nat) (a:Int) (p q:PW):Prop:=∀(W:World) (wb:Nat) (tag:Nat->Nat) (V:Nat->Value),cb W wb tag V p->W.cell? ⟨c0,0,none⟩=some (.int .i64 a)->tag c0=0->
 Calls Tryz.prog fn #[.pointer (some ⟨wb,0,none⟩),.pointer (some ⟨c0,0,none⟩)] W fun r W'=>r=.returned (.tuple #[])∧∃tag',cb W' wb tag' V q∧Kt tag tag' W W'
theorem vC (d c1 c2 c0:Nat) (a:Int) (p q P:PW) (f:p.Fits) (hl:∀l∈p.ID,l.length<=100) (D:∀o (W:World),(callFunc d o).run Tryz.prog W=.ok (.enter d o) W) (g:fF p a=0->Inv q∧TL q∧P=fgt q∧DO d c0 a p q):
  rM 156 #[ptr c1,ptr c2] (jc [(c1,.int .i64 a),(c2,.func (.func d) #[] #[.pointer (some ⟨c0,0,none⟩)]),(c0,.int .i64 a)]) eV p P (fF p a):=by
 intro W wb tag V bt e;have x1:=(e (c1,.int .i64 a) oS).1;have x2:=(e (c2,.func (.func d) #[] #[.pointer (some ⟨c0,0,none⟩)]) oS).1;have j:=e (c0,.int .i64 a) oS;have c:=hid (zA wb V p a W (bt.view f hl));unfold ptr;simp only[List.append_toArray,List.cons_append,ey];by_cases b:fF p a=0
 rotate_left
 ·have n:=hid b;rw[GI b] at c ⊢;generalize fF p a=x at c n ⊢;clear b hl f bt e g;go_enter Tryz.func156,Tryz.ntmps156
  go_wp2_with fail
  refine c.mono ?_;rintro q w1 ⟨rfl,rfl⟩;go_wp2_with fail
  go_ret
  exact⟨rfl,tag,en _ _,fun h=>absurd h n⟩
 obtain⟨hi,i,s,r⟩:=g b;have k:=hid (r W wb tag V bt j.1 j.2);have z:=hid s;have m:=hid (fun X u (h:cb X wb u V q)=>vd wb u V q X h hi.fits i.len i.word (by have:=hi.IE;have:=hi.I8;omega));rw[b,GH] at c;rw[b,GH];clear b hl f bt e hi i s r g j;go_enter Tryz.func156,Tryz.ntmps156
 go_wp2_with fail
 refine c.mono ?_;rintro y w1 ⟨rfl,rfl⟩;go_wp2_with fail
 refine k.mono ?_;rintro y w2 ⟨rfl,E,b2,k2⟩;have v:=hid b2;have A:=hid k2;clear b2 k2 k;go_wp2_with fail
 refine (m.out _ _ v).mono ?_;rintro y F ⟨rfl,C,b3,t⟩;have w:=hid b3;have B:=hid (A.trans t);clear b3 t m;go_wp2_with fail
 go_ret
 exact⟨rfl,C,B.out,fun _=>⟨V,by rw[z.out];exact w⟩⟩
theorem mu (a:Int) (p:PW) (e:p.Fits) (hl:∀l∈p.ID,l.length<=100) (c:Snd p) (W:World) (wb:Nat) (tag:Nat->Nat) (V:Nat->Value) (bt:cb W wb tag V p):
  Calls Tryz.prog 37 #[.pointer (some ⟨wb,0,none⟩),.int .i64 a] W fun x d=>x=.returned (.int .i64 (fF p a))∧∃tag',Kt tag tag' W d∧(fF p a=0->∃k,cb d wb tag' k (dkP p a))∧(fF p a≠0->d=W):=by
 by_cases b:fF p a=0
 ·obtain⟨j,rfl,i,h0⟩:=oX b;refine (sH (nds p+1) p j W wb tag V oA (iz e c) (ot c) i bt).mono ?_;rintro r w1 ⟨rfl,n,b1,k1⟩;rw[ae h0] at b1 ⊢;exact⟨by rw[b],n,k1,fun _=>⟨V,by rw[Eu c b, <-Hk e c oA i h0];exact b1⟩,fun h=>absurd (by first|rfl|assumption|exact HE) h⟩
 ·have g:=hid b;have m:(fF p a !=0)=true:=by simpa using b
  have f:=hid (mC wb V p a W (bt.view e hl));generalize fF p a=x at f g m ⊢;go_enter Tryz.func37,Tryz.ntmps37
  go_wp2_with fail
  refine f.mono ?_;rintro q w1 ⟨rfl,rfl⟩;go_wp2_with fail
  go_ret
  exact⟨rfl,tag,en _ _,fun h=>(absurd h g),fun _=>rfl⟩
theorem Gs (a:Array Value) (W:World):(callFunc 156 a).run Tryz.prog W=.ok (.enter 156 a) W:=by
 go_simp
