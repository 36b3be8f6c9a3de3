/- Qam -/
import Derived.Deep.RegionHeld3
import Derived.Test.YtaejnmmpddbbjaaGreatDoorQal
namespace Go.Proofs.YtaejnmmpddbbjaaGreatDoor.Wd
open Go.RowKit Mem Bw Nums Mmu
theorem isB_get {p:PW} {z k:Int} (h:isB p z k=true):∃t:Nat,z=t∧p.kinds[t]? =some k:=by
 unfold isB kindAt at h;by_cases a:0≤z
 ·rw[ag a] at h;exact⟨z.toNat,by omega,eq_of_beq h⟩
 ·rw[ae a] at h
  cases h
theorem isB_of {p:PW} {t:Nat} {k:Int} (h:p.kinds[t]? =some k):isB p t k=true:=by
 unfold isB kindAt;rw[ag (by omega),ah,h];exact beq_self_eq_true _
theorem snd_ff {p:PW} (h:Snd p) {f:Nat→Int} (c:f∈p.tasks):ffB p f=true∨∀k,k<20→f k=bl k:=by
 obtain⟨t,d⟩:=List.mem_iff_getElem?.1 c;obtain⟨hl,e⟩:=List.getElem?_eq_some_iff.1 d;have a:btB p t (p.kinds.getD t 0) p.tasks[t]=false:=h.b5 t hl;rw[e] at a;unfold btB at a;by_cases b:p.kinds.getD t 0=6
 ·rw[ag b] at a;simp only[cD,am] at a;exact .inl a.1.1.1.2
 ·rw[ae b,cD] at a;exact .inr (blB20_iff.1 a)
theorem snd_inv {p:PW} (F:p.Fits) (h:Snd p):Inv p:=by
 refine⟨F,h.lf.k2,h.lf.ram,h.lf.slots,h.lf.tasks,h.lf.lines,h.lf.bits,fun f n=>?_,fun l hl z I=>?_,fun f n=>?_,fun i x k H hk J=>?_,fun f n=>?_⟩
 ·obtain⟨s,G⟩:=List.mem_iff_getElem?.1 n;obtain⟨hl,e⟩:=List.getElem?_eq_some_iff.1 G;by_cases m:f 0=0
  ·exact .inl m
  by_cases c:f 0=1
  ·exact .inr (.inl c)
  have q:=snd_op h hl (by rw[e];exact m);rw[e] at q;unfold opB at q;rw[am,cd] at q;rcases q.2 with d|d
  ·exact absurd (eq_of_beq d) c
  obtain⟨b,A,hk⟩:=isB_get d;obtain⟨B,E⟩:=List.getElem?_eq_some_iff.1 hk;have g:nkB p.kinds[b]=false:=h.b1 b B;rw[E] at g;unfold nkB at g;rw[d6,cD,aU] at g;exact .inr (.inr ⟨by omega,g.1.2,b,A,hk⟩)
 ·obtain⟨a,w⟩:=List.mem_iff_getElem?.1 hl;obtain⟨y,e⟩:=List.getElem?_eq_some_iff.1 w;have c:blB p a (p.kinds.getD a 0) (p.bits.getD a 0) p.lines[a]=false:=h.b6 a y;rw[e] at c;unfold blB at c;rw[d6] at c;have d:tB p a (l.getD 0 0) z=false:=by
   have:=bZ.1 c.2 z I;simpa using this
  obtain⟨t,r,hk⟩:=isB_get (tB_in d);exact⟨t,r,by rw[h.lf.tasks];exact (List.getElem?_eq_some_iff.1 hk).1⟩
 ·rcases snd_ff h n with c|c
  ·rcases owes_in h.lf.tasks c with d|⟨j,D,d⟩
   ·exact .inl d
   ·exact .inr ⟨j,d,D⟩
  ·exact .inl (by rw[c 17 (by omega)];rfl)
 ·obtain⟨C,e⟩:=List.getElem?_eq_some_iff.1 H;have c:beB p (p.kinds.getD (i/16) 0) p.ram[i]=false:=h.b9 i C;rw[e,aa,hk,aS] at c;unfold beB at c;by_cases m:x=0
  ·exact .inl m
  have u:(x==0)=false:=by simpa using m
  have k24:=h.lf.k2
  right
  by_cases v:k=4
  ·rw[ag v,u] at c;have d:isB p (x - 32768) 3=true:=by simpa using c
   obtain⟨t,r,o⟩:=isB_get d;have:=(List.getElem?_eq_some_iff.1 o).1;exact⟨t,by omega,.inl (by omega)⟩
  ·have g:k=3:=by omega
   rw[ae v,ag g,u] at c;have d:isB p (x - 32768) 2=true∨isB p (x - 32768 - 16384) 2=true:=by
    cases e1:isB p (x - 32768) 2 with
    |true=>exact .inl rfl
    |false=>rw[e1] at c;right;simpa using c
   rcases d with d|d
   ·obtain⟨t,r,o⟩:=isB_get d;have:=(List.getElem?_eq_some_iff.1 o).1;exact⟨t,by omega,.inl (by omega)⟩
   ·obtain⟨t,r,o⟩:=isB_get d;have:=(List.getElem?_eq_some_iff.1 o).1;exact⟨t,by omega,.inr (by omega)⟩
 ·rcases snd_ff h n with c|c
  ·unfold ffB at c;simp only[am] at c;have d:=c.1.2;unfold isOrB at d;rw[cd] at d;rcases d with d|d
   ·exact .inl (eq_of_beq d)
   ·exact .inr (isB_get d)
  ·exact .inl (by rw[c 13 (by omega)];rfl)
theorem snd_told {p:PW} (h:Snd p) {l:List Ent} (hl:l∈p.tlbs):l.length≤4∧∀e∈l,toldB p e=true:=by
 obtain⟨c,g⟩:=List.mem_iff_getElem?.1 hl;obtain⟨i,e⟩:=List.getElem?_eq_some_iff.1 g;have a:bmB p p.tlbs[c]=false:=h.b10 c i;rw[e] at a;unfold bmB at a;rw[d6,decide_eq_false_iff_not] at a;refine⟨by omega,fun x m=>?_⟩;obtain⟨j,d⟩:=List.mem_iff_getElem?.1 m;obtain⟨k, -⟩:=List.getElem?_eq_some_iff.1 d;have b:=bZ.1 a.2 j (List.mem_range.2 k);rw[d] at b;have f:emB p l j x=false:=by simpa using b
 exact (emB_told f).1
theorem snd_tl {p:PW} (h:Snd p):TL p:=by
 refine⟨fun l hl=>?_,fun l hl e b=>?_,fun z d=>?_⟩
 ·have:=(snd_told h hl).1;omega
 ·have a:=(snd_told h hl).2 e b;unfold toldB at a;simp only[am,aU] at a;exact a.1.2
 ·obtain⟨i,hi⟩:=List.mem_iff_getElem?.1 d;obtain⟨c,e⟩:=List.getElem?_eq_some_iff.1 hi;have a:nwB p.ram[i]=false:=h.b0 i c;rw[e] at a;unfold nwB wB at a;rw[cD,aU] at a;omega
def setT (p:PW) (X:List (List Ent)):PW:={p with tlbs:=X}
theorem et_T (p:PW) (t:Nat) (X:List (List Ent)):etP (setT p X) t=setT (etP p t) X:=by
 unfold etP;by_cases h:p.tasks.getD t bl 17= -1
 ·have a:(setT p X).tasks.getD t bl 17= -1:=h;rw[ag a,ag h];rfl
 ·have a:¬(setT p X).tasks.getD t bl 17= -1:=h;rw[ae a,ae h];rfl
theorem dsl_T:∀(l:List Int) (p:PW) (X:List (List Ent)),l.foldl ds1 (setT p X)=setT (l.foldl ds1 p) X
 |[],_,_=>rfl
 |z::l,p,X=>by rw[dS,dS,show ds1 (setT p X) z=setT (ds1 p z) X from rfl,dsl_T l]
theorem ds_T (p:PW) (f:Nat) (X:List (List Ent)):dsP (setT p X) f=setT (dsP p f) X:=by
 unfold dsP;rw[show (setT p X).lines=p.lines from rfl,show (setT p X).bits=p.bits from rfl,dsl_T];rfl
theorem da_T {dr:PW→Nat→PW} (c:∀p s X,dr (setT p X) s=setT (dr p s) X) {f:Nat}:∀(a:Nat) (p:PW) (X:List (List Ent)),daF dr f a (setT p X)=setT (daF dr f a p) X
 |0,p,X=>by rw[da_zero,da_zero]
 |a+1,p,X=>by
  rw[da_succ,da_succ,show (setT p X).slots=p.slots from rfl];by_cases b:(p.slots.getD (f*16+a) eS) 0=0
  ·rw[ag b,ag b];exact da_T c a p X
  ·rw[ae b,ae b,c];exact da_T c a _ X
theorem ls_T {dr:PW→Nat→PW} (b:∀p s X,dr (setT p X) s=setT (dr p s) X) (p:PW) (k:Int) (f:Nat) (X:List (List Ent)):lsF dr (setT p X) k f=setT (lsF dr p k f) X:=by
 unfold lsF;by_cases a:k=2∨k=3
 ·rw[ag a,ag a];rfl
 rw[ae a,ae a];by_cases e4:k=4
 ·rw[ag e4,ag e4];rfl
 rw[ae e4,ae e4];by_cases e5:k=5
 ·rw[ag e5,ag e5];exact da_T b 16 (fgP 11 (nkP p f) f) X
 rw[ae e5,ae e5];by_cases e6:k=6
 ·rw[ag e6,ag e6];exact et_T (nkP p f) f X
 rw[ae e6,ae e6];show fgP 13 (dsP (setT (nkP p f) X) f) f=_
 rw[ds_T];rfl
theorem dr_T:∀(m:Nat) (p:PW) (s:Nat) (X:List (List Ent)),drF m (setT p X) s=setT (drF m p s) X
 |0,_,_,_=>rfl
 |m+1,p,s,X=>by
  show (if (p.slots.getD s eS) 0=1∨opnd (drA p s) ((p.slots.getD s eS) 0) ((p.slots.getD s eS) 1)=true then setT (drA p s) X else lsF (drF m) (setT (drA p s) X) ((p.slots.getD s eS) 0) ((p.slots.getD s eS) 1).toNat)=setT (if (p.slots.getD s eS) 0=1∨opnd (drA p s) ((p.slots.getD s eS) 0) ((p.slots.getD s eS) 1)=true then drA p s else lsF (drF m) (drA p s) ((p.slots.getD s eS) 0) ((p.slots.getD s eS) 1).toNat) X
  by_cases h:(p.slots.getD s eS) 0=1∨opnd (drA p s) ((p.slots.getD s eS) 0) ((p.slots.getD s eS) 1)=true
  ·rw[ag h,ag h]
  ·rw[ae h,ae h];exact ls_T (fun p s X=>dr_T m p s X) _ _ _ X
theorem dr_tlbs (m:Nat) (p:PW) (s:Nat):(drF m p s).tlbs=p.tlbs:=by
 have h:=dr_T m p s p.tlbs;rw[show setT p p.tlbs=p from rfl] at h;rw[h];rfl
structure Lo (q p:PW):Prop where
 kinds:∀(t:Nat) (k:Int),k≠0→q.kinds[t]? =some k→p.kinds[t]? =some k
 len:q.ram.length=p.ram.length
 ram:∀i,q.ram.getD i 0=p.ram.getD i 0∨q.ram.getD i 0=0
theorem Lo.trans {r q p:PW} (a:Lo r q) (b:Lo q p):Lo r p:=⟨fun t k d h=>b.kinds t k d (a.kinds t k d h),a.len.trans b.len,fun i=>by
 rcases a.ram i with h|h
 ·rcases b.ram i with c|c
  ·exact .inl (h.trans c)
  ·exact .inr (h.trans c)
 ·exact .inr h⟩
theorem Lo.of {q p:PW} (b:∀(t:Nat) (k:Int),k≠0→q.kinds[t]? =some k→p.kinds[t]? =some k) (a:q.ram=p.ram):Lo q p:=⟨b,by rw[a],fun i=>.inl (by rw[a])⟩
theorem e0_no {n:Int}:¬isE 0 n:=fun h=>absurd h.1 (by decide)
theorem walk_lo {ys zs:List Int} (hl:ys.length=zs.length) (f:∀i,ys.getD i 0=zs.getD i 0∨ys.getD i 0=0) {s a:Int} (h:(walkR ys s a).2.2=0):walkR ys s a=walkR zs s a:=by
 have d:n16 ys=n16 zs:=by unfold n16;rw[hl]
 by_cases hi:inb ys.length s a
 rotate_left
 ·rw[walkR_range hi] at h;cases h
 by_cases b:isE (e1 ys s a) (n16 ys)
 rotate_left
 ·rw[walkR_no1 hi b] at h;cases h
 by_cases c:isE (e2 ys (e1 ys s a%1024) a) (n16 ys)
 rotate_left
 ·rw[walkR_no2 hi b c] at h;cases h
 have q1:e1 ys s a=e1 zs s a:=by
  rcases f (s*16+a/256).toNat with e|e
  ·exact e
  ·exact absurd (show isE 0 (n16 ys) by have:=b;unfold e1 at this;rw[e] at this;exact this) e0_no
 have g:e2 ys (e1 ys s a%1024) a=e2 zs (e1 zs s a%1024) a:=by
  rcases f ((e1 ys s a%1024)*16+a/16%16).toNat with e|e
  ·rw[←q1];exact e
  ·exact absurd (show isE 0 (n16 ys) by have:=c;unfold e2 at this;rw[e] at this;exact this) e0_no
 have k1:=b;have k2:=c;rw[q1,d] at k1;rw[g,d] at k2;rw[walkR_yes hi b c,walkR_yes (by rw[←hl];exact hi) k1 k2,g]
theorem Lo.told {q p:PW} (a:Lo q p) {e:Ent} (h:toldB q e=true):toldB p e=true:=by
 unfold toldB at h ⊢;rw[am,am] at h ⊢;obtain⟨t,d,hk⟩:=isB_get h.1.1;have c:(walkR q.ram e.1 (e.2.1*16)).2.2=0:=by
  have b:=h.2;simp only[am] at b;exact eq_of_beq b.1.1
 rw[←walk_lo a.len a.ram c];exact⟨⟨by rw[d];exact isB_of (a.kinds t 4 (by decide) hk),h.1.2⟩,h.2⟩
theorem kp_told {q:PW} {k f:Int} {e:Ent} (h:toldB q e=true) (b:k=4→isB q f 4=false):kpE q k f e=true:=by
 unfold toldB at h;rw[am,am] at h;unfold kpE;rw[Int.mul_comm 16 e.2.1,h.2,Bool.true_and]
 cases e1:(k==4&&e.1==f) with
 |false=>rfl
 |true=>
  rw[am] at e1;have a:=b (eq_of_beq e1.1);rw[←eq_of_beq e1.2,h.1.1] at a
  cases a
theorem kp_back {p q:PW} {k f:Int} {e:Ent} (h:toldB p e=true) (a:isB q e.1 4=true) (hk:kpE q k f e=true):toldB q e=true:=by
 unfold toldB at h ⊢;rw[am,am] at h ⊢;unfold kpE at hk;rw[Int.mul_comm 16 e.2.1,am] at hk;exact⟨⟨a,h.1.2⟩,hk.1⟩
def Gd (p q r:PW) (g:Ent→Bool):Prop:=r=setT q (p.tlbs.map (List.filter g))∧Lo q p∧(∀e,toldB q e=true→g e=true)∧(∀e,toldB p e=true→g e=true→toldB q e=true)
theorem filt_all (X:List (List Ent)):X.map (List.filter fun _=>true)=X:=by
 conv=>rhs;rw[←List.map_id X]
 exact List.map_congr_left fun l _=>List.filter_eq_self.2 fun _ _=>rfl
theorem filt_two (X:List (List Ent)) (a b:Ent→Bool):(X.map (List.filter a)).map (List.filter b)=X.map (List.filter fun e=>b e&&a e):=by
 rw[List.map_map];exact List.map_congr_left fun l _=>by rw[Function.comp,List.filter_filter]
theorem Gd.same {p q:PW} (c:q.tlbs=p.tlbs) (a:q.kinds=p.kinds) (b:q.ram=p.ram):Gd p q q (fun _=>true):=by
 refine⟨by rw[filt_all, ←c];rfl,.of (fun t k _ h=>by rw[←a];exact h) b,fun _ _=>rfl,fun e h _=>?_⟩;unfold toldB isB kindAt at h ⊢;rw[a,b];exact h
theorem nk_lo (p:PW) (f:Nat):Lo (nkP p f) p:=.of (fun _ _ a h=>(nk_get h a).1) rfl
theorem ut_lo (p:PW) (f:Int):Lo (utP p f) p:=⟨fun _ _ _ h=>h,dK ..,fun i=>by
 show (p.ram.mapIdx (ut1 p.kinds f)).getD i 0=_∨(p.ram.mapIdx (ut1 p.kinds f)).getD i 0=0
 rw[aa,List.getElem?_mapIdx,aa]
 cases p.ram[i]? with
 |none=>exact .inl rfl
 |some x=>
  show ut1 p.kinds f i x=x∨ut1 p.kinds f i x=0
  unfold ut1;split
  ·exact .inr rfl
  ·exact .inl rfl⟩
theorem ls_one {dr:PW→Nat→PW} {p:PW} {k:Int} {f:Nat} (b:k≠5):Lo (lsF dr p k f) p∧(lsF dr p k f).kinds=p.kinds.set f 0∧(lsF dr p k f).tlbs=p.tlbs:=by
 unfold lsF;by_cases a:k=2∨k=3
 ·rw[ag a];exact⟨(ut_lo _ _).trans (nk_lo p f),rfl,rfl⟩
 rw[ae a];by_cases e4:k=4
 ·rw[ag e4];exact⟨Lo.trans (q:=nkP p f) ⟨fun _ _ _ h=>h,rfl,fun _=>.inl rfl⟩ (nk_lo p f),rfl,rfl⟩
 rw[ae e4,ae b];by_cases e6:k=6
 ·rw[ag e6];exact⟨Lo.trans (.of (fun t k _ h=>by rw[←et_kinds (nkP p f) f];exact h) (et_tl (nkP p f) f).2) (nk_lo p f),et_kinds (nkP p f) f,(et_tl (nkP p f) f).1⟩
 rw[ae e6];exact⟨Lo.trans (.of (fun t k _ h=>by rw[←ds_kinds (nkP p f) f];exact h) (ds_tl (nkP p f) f).2) (nk_lo p f),ds_kinds (nkP p f) f,(ds_tl (nkP p f) f).1⟩
theorem ls_eq {d1 d2:PW→Nat→PW} {p:PW} {k:Int} {f:Nat} (a:k≠5):lsF d1 p k f=lsF d2 p k f:=by
 unfold lsF;rw[ae (a:¬k=5),ae (a:¬k=5)]
def RecAt (m:Nat):Prop:=∀p s,nds p<m→Inv p→TL p→s<p.slots.length→(p.slots.getD s eS) 0≠0→∃g,Gd p (drF m p s) (drR m p s) g
theorem da_G {m:Nat} (i:RecAt m) {f:Nat}:∀(a:Nat) (p:PW),nds p<m→Inv p→TL p→f*16+a≤p.slots.length→∃g,Gd p (daF (drF m) f a p) (daF (drR m) f a p) g
 |0,p,_,_,_,_=>⟨_,by rw[da_zero,da_zero];exact Gd.same rfl rfl rfl⟩
 |a+1,p,hn,hi,ht,hl=>by
  rw[da_succ,da_succ];by_cases b:(p.slots.getD (f*16+a) eS) 0=0
  ·rw[ag b,ag b];exact da_G i a p hn hi ht (by omega)
  rw[ae b,ae b];have j:f*16+a<p.slots.length:=by omega
  obtain⟨l,o,l1,a1,b1⟩:=i p (f*16+a) hn hi ht j b;obtain⟨i1,i2,i3⟩:=(rr_inv m).1 p (f*16+a) hn hi j b;obtain⟨n,k,l2,c,b2⟩:=da_G i (f:=f) a (drR m p (f*16+a)) (by omega) i1 ((rr_inv m).2 p (f*16+a) hn hi j b ht) (by rw[i1.slots,i3, ←hi.slots];omega);rw[o] at k l2 c b2 ⊢;rw[da_T (dr_T m) (f:=f)] at k l2 c b2;refine⟨fun e=>n e&&l e,?_,?_,fun e h=>?_,fun e h d=>?_⟩
  ·rw[k, ←filt_two];rfl
  ·exact Lo.trans (q:=drF m p (f*16+a)) ⟨l2.kinds,l2.len,l2.ram⟩ l1
  ·rw[am];exact⟨c e h,a1 e (l2.told h)⟩
  ·rw[am] at d;exact b2 e (b1 e h d.2) d.1
theorem rec_next {m:Nat} (C:RecAt m):RecAt (m+1):=by
 intro p s v hi d y o;unfold drF drR;by_cases c:(p.slots.getD s eS) 0=1∨opnd (drA p s) ((p.slots.getD s eS) 0) ((p.slots.getD s eS) 1)=true
 ·rw[ag c,ag c];exact⟨_,Gd.same rfl rfl rfl⟩
 rw[ae c,ae c];obtain⟨b,r,hk, -, -⟩:=ls_in hi y o (fun e=>c (.inl e));rw[r] at c ⊢;rw[ah];have w:=drA_inv hi s;have D:opnd (drA p s) ((p.slots.getD s eS) 0) b=false:=by
  cases e:opnd (drA p s) ((p.slots.getD s eS) 0) b with
  |false=>rfl
  |true=>exact absurd (.inr e) c
 have F:TL (drA p s):=d.of rfl rfl;have J:nds (drA p s)<m+1:=v;have i:(drA p s).kinds[b]? =some ((p.slots.getD s eS) 0):=hk
 suffices hx:∃g,Gd (drA p s) (lsF (drF m) (drA p s) ((p.slots.getD s eS) 0) b) (gnF (drR m) (drA p s) ((p.slots.getD s eS) 0) b) g by
  obtain⟨g,A,a,j,B⟩:=hx;exact⟨g,A,⟨a.kinds,a.len,a.ram⟩,j,B⟩
 generalize (p.slots.getD s eS) 0=k at*;generalize drA p s=q at*;clear hi d y o v hk c r;unfold gnF;by_cases l:k=5
 ·subst l;have e:∀dr:PW→Nat→PW,lsF dr q 5 b=daF dr b 16 (fgP 11 (nkP q b) b):=fun dr=>by unfold lsF;rw[ae (by decide),ae (by decide),ag rfl]
  rw[e,e];have I:nds (nkP q b)+1=nds q:=(cnt_set q.kinds b).2 i;have H:b<q.kinds.length:=(List.getElem?_eq_some_iff.1 i).1;obtain⟨n,G,l0,a0,b0⟩:=da_G C (f:=b) 16 (fgP 11 (nkP q b) b) (by show nds (nkP q b)<m;omega) (fg_full (nk_inv7 w i D (by decide)) 11 (by decide) (b:Int)) (F.of rfl rfl) (by show b*16+16≤q.slots.length;have:=w.slots;omega);generalize daF (drF m) b 16 (fgP 11 (nkP q b) b)=x at*;rw[G];refine⟨fun e=>kpE x 5 b e&&n e,?_,Lo.trans (q:=nkP q b) ⟨l0.kinds,l0.len,l0.ram⟩ (nk_lo q b),fun e h=>?_,fun e h a=>?_⟩
  ·show setT x (((q.tlbs.map (List.filter n))).map (List.filter (kpE x 5 b)))=_
   rw[filt_two]
  ·rw[am];exact⟨kp_told h (fun e=>absurd e (by decide)),a0 e h⟩
  ·rw[am] at a;refine b0 e ?_ a.2;unfold toldB at h ⊢;rw[am,am] at h ⊢;obtain⟨t,d,hk⟩:=isB_get h.1.1;refine⟨⟨?_,h.1.2⟩,h.2⟩;rw[d];refine isB_of (show (q.kinds.set b 0)[t]? =some 4 from ?_);rw[cM (fun e=>by subst e;rw[hk] at i;cases i)];exact hk
 ·rw[ls_eq (d1:=drR m) (d2:=drF m) l];obtain⟨lo,u,E⟩:=ls_one (dr:=drF m) (p:=q) (f:=b) l;generalize lsF (drF m) q k b=x at*;refine⟨kpE x k b,by unfold fwP;rw[E];rfl,lo,fun e h=>kp_told h (fun _=>?_),fun e h a=>?_⟩
  ·cases e1:isB x b 4 with
   |false=>rfl
   |true=>
    obtain⟨t,d,hk⟩:=isB_get e1;have:b=t:=by omega
    subst this;rw[u,List.getElem?_set] at hk;rw[ag rfl] at hk;split at hk<;>cases hk
  ·obtain⟨t,d,hk⟩:∃t:Nat,e.1=t∧q.kinds[t]? =some 4:=by
    unfold toldB at h;rw[am,am] at h;exact isB_get h.1.1
   refine kp_back h ?_ a;rw[d];refine isB_of ?_;rw[u,cM (fun z=>?_)]
   ·exact hk
   ·subst z;rw[hk] at i;unfold kpE at a;rw[am] at a;have j:=a.2;rw[←aK i,d] at j;simp at j
theorem rec_any:∀m,RecAt m
 |0=>fun _ _ a=>absurd a (ex _)
 |m+1=>rec_next (rec_any m)
theorem rr_eq {p:PW} (j:p.Fits) (h:Snd p) {m s:Nat} (i:nds p<m) (k:s<p.slots.length) (c:(p.slots.getD s eS) 0≠0):drR m p s=fgt (drF m p s):=by
 obtain⟨g,r,lo,a,b⟩:=rec_any m p s i (snd_inv j h) (snd_tl h) k c;rw[r];unfold fgt setT;rw[dr_tlbs];have e:p.tlbs.map (List.filter g)=p.tlbs.map (goneP fun e=> !toldB (drF m p s) e):=List.map_congr_left fun l hl=>by
  unfold goneP;refine List.filter_congr fun e f=>?_;have d:=(snd_told h hl).2 e f;rw[Bool.not_not]
  cases e1:toldB (drF m p s) e with
  |true=>exact a e e1
  |false=>
   cases e2:g e with
   |false=>rfl
   |true=>rw[b e d e2] at e1;cases e1
 rw[e]
theorem hnd_setE (l:List (Nat→Int)) (s:Nat) (x:Int):hnd s x (l.set s eS)=(hnd s x l).set s eS:=by
 unfold hnd;rw[List.map_set,show hnd1 (s:Int) x eS=eS from ae (by show ¬((-1:Int)=(s:Int));omega)]
theorem gone_any {m:Nat} (c:RefAt m) (q:PW) (k:Int) (f:Nat) (wb:Nat) (V:Nat→Value) (hi:Inv q) (b:TL q) (d:nds q<m+1) (hk:q.kinds[f]? =some k) (a:opnd q k f=false) (e:2≤k) (g:k≤8) (X:World) (tg:Nat→Nat) (bt:BoxT X wb tg V q):
  Calls Tryz.prog 37 #[.pointer (some ⟨wb,0,none⟩),.int .i64 f] X fun r W'=>r=.returned (.tuple #[])∧∃tag',BoxT W' wb tag' V (gnF (drR m) q k f)∧Kt tg tag' X W':=by
 have h:k=2∨k=3∨k=4∨k=5∨k=6∨k=7∨k=8:=by omega
 rcases h with rfl|rfl|rfl|rfl|rfl|rfl|rfl
 ·exact gone_2 q f X wb tg V hi b hk a bt
 ·exact gone_3 q f X wb tg V hi b hk a bt
 ·exact gone_4 q f X wb tg V hi b hk a bt
 ·exact gone_5 c q f X wb tg V hi b hk a d bt
 ·exact gone_6 q f X wb tg V hi b hk a bt
 ·exact gone_7 q f X wb tg V hi b hk a bt
 ·exact gone_8 q f X wb tg V hi b hk a bt
set_option maxRecDepth 100000
set_option maxHeartbeats 8000000
theorem ref_next {m:Nat} (hd:RefAt m):RefAt (m+1):=by
 intro p s W wb tag V hn hi A n K;have av:hasE p s=if (p.slots.getD s eS) 0=0 then 6 else 0:=by
  unfold hasE;rw[show slotB p s=true from aF ⟨by omega,by omega⟩,ag rfl,ah,slot_get n,aa,ac n];rfl
 have D:=hid (has_ref wb V p s W (K.view hi.fits A.len));rw[av] at D;by_cases M:(p.slots.getD s eS) 0=0
 ·simp only[ag M] at D ⊢;have P:=hid K;clear hd hn hi A n K av M;go_enter Tryz.func15,Tryz.ntmps15
  go_wp2_with fail
  refine D.mono ?_;rintro r w1 ⟨rfl,rfl⟩;go_wp2_with fail
  go_ret
  exact⟨rfl,tag,P.out,Kt.refl _ _⟩
 simp only[ae M] at D ⊢;obtain⟨bt,kr⟩:=retagD K 0;have KR:=hid kr;have T0:=hid (fun x (h:W.heap.size≤x)=>show tagN tag W.heap.size 0 x=0 from ae (by omega));generalize tagN tag W.heap.size 0=tg at*;clear K kr av;have aL:=hi.slots;have aI:=hi.k24;have aB:p.slots.length≤1000:=by omega
 have aR:(p.slots.length:Int)≤1000:=by omega
 have aS:(s:Int)<(p.slots.length:Int):=by omega
 obtain⟨a,cap2,e2⟩:=bt.o.slots.form (show 0<p.slots.length by omega);have G:=hid e2;have HS:=hid n;have aw:=hid aB;have c2:W.cell? ⟨wb,2,none⟩=some (.slice (some ⟨a,0,none⟩) p.slots.length cap2):=by rw[af bt.r (k:=2) rfl,e2]
 obtain⟨f,C⟩:∃f,p.slots.getD s eS=f:=⟨_,rfl⟩
 have X6:=hid (fun X (h:BoxT X wb tg V p)=>show X.cell? ⟨a,s*7+6,none⟩=some (.int .i64 (f 6)) from by
  have d:=h.slotsAt e2 n (show 6<7 by omega);rw[←slot_get n,C] at d;exact d)
 have RS:=hid (show W.rangeAt a (s*7) (cf 6 f) from by
  have d:=bt.o.slots;rw[e2] at d;have Z:=d.range n;rw[←slot_get n,C] at Z;exact six_ofD Z)
 have al:=hid (aM W #[.int .i64 0,.int .i64 0,.int .i64 0,.int .i64 0,.int .i64 0,.int .i64 0] 78 W.heap.size 6 rfl (by decide));have ad:=hid (show Below W.heap.size W ((W.alloc (.cells #[.int .i64 0,.int .i64 0,.int .i64 0,.int .i64 0,.int .i64 0,.int .i64 0] 78)).setCells W.heap.size 0 (cf 6 f)) from dZ (bal (aj W.heap.size W) (.cells #[.int .i64 0,.int .i64 0,.int .i64 0,.int .i64 0,.int .i64 0,.int .i64 0] 78)) (au _) _ 0);have an:=hid (World.rangeAt_setCells_same (W.alloc (.cells #[.int .i64 0,.int .i64 0,.int .i64 0,.int .i64 0,.int .i64 0,.int .i64 0] 78)) W.heap.size 0 (cf 6 f) (by rw[ax];exact al));have T4:=hid (T0.out W.heap.size (au _));have P:=hid bt;have T:=hid (show drA p s={p with slots:=(hnd s (f 6) p.slots).set s eS} by unfold drA;rw[C,hnd_setE]);have aD:=drA_inv hi s;have ai:=hid (show (drA p s).slots.length=p.slots.length by rw[T.out];show ((hnd _ _ _).set _ _).length=_;rw[ar,hnd_len]);have E:=hid (show drR (m+1) p s=if f 0=1∨opnd (drA p s) (f 0) (f 1)=true then drA p s else gnF (drR m) (drA p s) (f 0) (f 1).toNat by
  show (if _ then _ else _)=_
  rw[C])
 have Q:=hid (show f 0≠1→opnd (drA p s) (f 0) (f 1)=false→∃b:Nat,f 1=b∧∀X ab,BoxT X wb ab V (drA p s)→Calls Tryz.prog 37 #[.pointer (some ⟨wb,0,none⟩),.int .i64 b] X fun r W'=>r=.returned (.tuple #[])∧∃tag',BoxT W' wb tag' V (gnF (drR m) (drA p s) (f 0) b)∧Kt ab tag' X W' from fun y ho=>by
  obtain⟨b,B,hk,d,h8⟩:=ls_in hi n M (by rw[C];exact y);rw[C] at B hk d h8;rw[B] at ho;exact⟨b,B,fun X ab h=>gone_any hd (drA p s) (f 0) b wb V aD (A.of rfl rfl) hn hk ho d h8 X ab h⟩)
 clear bt hi n M hn hd e2 aL aI C aD T0 A aB;go_enter Tryz.func15,Tryz.ntmps15
 go_wp2_with fail
 refine D.mono ?_;rintro r w1 ⟨rfl,rfl⟩;go_upto_region 5 with (first|((with_reducible refine gld 78 ?_);refine wp_ldY rfl _ rfl a (s*7) rfl (cf 6 f) (ax _ _) RS ?_)|((with_reducible refine gst 78 ?_);refine wp_stY rfl _ _ rfl W.heap.size 0 rfl (cf 6 f) rfl (ax _ _) (bK _ _) al ?_))
 generalize World.setCells _ _ _ _=W1 at*;obtain⟨kb,aA⟩:∃kb,W.heap.size=kb:=⟨_,rfl⟩
 rw[aA] at an T4 ⊢;clear aA c2 RS al D;have N:=hid (P.below ad);have K1:=hid (show Kt tag tg W W1 from KR.trans (.below ad));clear P KR ad;have c2:W1.cell? ⟨wb,2,none⟩=some (.slice (some ⟨a,0,none⟩) p.slots.length cap2):=by rw[af N.r (k:=2) rfl,G.out]
 have x6:=X6.out _ N;clear X6;have am:=hid (turn_ref wb tg V p s (f 6) W1 N aw);generalize aN:f 6=z6 at x6 am T;clear aN;go_wp2_with fail
 refine am.mono ?_;rintro r w2 ⟨rfl,b2,k2⟩;have O:=hid b2;have K2:=hid (K1.trans k2);have ay:=hid (show w2.rangeAt kb 0 (cf 6 f) from fun o v hv=>k2.cell (an.out o v hv) T4);clear b2 k2 x6 c2 am N K1 an;have he:V 2=.slice (some ⟨a,0,none⟩) (hnd s z6 p.slots).length cap2:=by rw[hnd_len];exact G
 have c2:w2.cell? ⟨wb,2,none⟩=some (.slice (some ⟨a,0,none⟩) p.slots.length cap2):=by rw[af O.r (k:=2) rfl,G.out]
 have T2:=hid (O.slotsThereD he (s*7) 7 (by show s*7+7≤(hnd s z6 p.slots).length*7;rw[hnd_len];have:=HS.out;omega));obtain⟨b3,k3⟩:=O.slotsRow he (i:=s) (by show s<(hnd s z6 p.slots).length;rw[hnd_len];exact HS) eS;have F:=hid (show BoxT (w2.setCells a (s*7) (cf 7 eS)) wb tg V (drA p s) by rw[T.out];exact b3);have K3:=hid (K2.trans k3);have az:=hid (show (w2.setCells a (s*7) (cf 7 eS)).rangeAt kb 0 (cf 6 f) from fun o v hv=>k3.cell (ay.out o v hv) T4);clear b3 k3 he;go_upto_region 7 with (first|((with_reducible refine gst 80 ?_);refine wp_stS rfl _ _ rfl a (s*7) rfl (cf 7 eS) rfl (ax _ _) (bK _ _) T2 ?_))
 generalize World.setCells _ _ _ _=z at*;clear c2 T2 O K2 ay T HS aw;generalize drA p s=q at*;have EQ:=hid (show V 2=.slice (some ⟨a,0,none⟩) q.slots.length cap2 by rw[ai.out];exact G);have ao:=hid (fun X (h:Below z.heap.size z X)=>show X.rangeAt kb 0 (cf 6 f) from range_belowO az h);generalize aE:f 0=c at E Q;generalize aG:f 1=u at E Q;have Y0:=hid (fun X (h:Below z.heap.size z X)=>show X.cell? ⟨kb,0,none⟩=some (.int .i64 c) from af (ao.out X h) (k:=0) (by rw[cf_at 6 _ 0 (by omega),aE]));have Y1:=hid (fun X (h:Below z.heap.size z X)=>show X.cell? ⟨kb,1,none⟩=some (.int .i64 u) from af (ao.out X h) (k:=1) (by rw[cf_at 6 _ 1 (by omega),aG]));clear az ao aE aG;go_wp2_with fail
 go_loopw [7] (fun i wr=>∃(j:Nat),j≤p.slots.length∧i=.int .i64 j∧Hid (∀t,t<j→∀g,q.slots[t]? =some g→(g 0==c&&g 1==u)=false)∧Hid (Below z.heap.size z wr)) (fun i _=>p.slots.length - (intOf i).toNat)
 case atStart=>exact⟨0,by omega,rfl,hid (fun t h=>absurd h (ex _)),hid (aj _ _)⟩
 case round=>
  obtain⟨j,hj,rfl,S,l⟩:=hrel;have c2:wr.cell? ⟨wb,2,none⟩=some (.slice (some ⟨a,0,none⟩) p.slots.length cap2):=by rw[af (F.below l).r (k:=2) rfl,G.out]
  have y0:=Y0.out _ l;have y1:=Y1.out _ l;by_cases aJ:j<p.slots.length
  ·have aQ:(j:Int)<(p.slots.length:Int):=by omega
   have aq:j<q.slots.length:=by rw[ai.out];exact aJ
   have x0:wr.cell? ⟨a,j*7,none⟩=some (.int .i64 (q.slots[j] 0)):=(F.below l).slotsAt EQ aq (show 0<7 by omega);have x1:=(F.below l).slotsAt EQ aq (show 1<7 by omega);have R:=hid (show q.slots[j]? =some q.slots[j] from ac aq);generalize q.slots[j]=g at x0 x1 R;have U:=hid (show (g 0==c&&g 1==u)=true→opnd q c u=true from fun h=>List.any_eq_true.2 ⟨g,List.mem_iff_getElem?.2 ⟨j,R.out⟩,h⟩);have H:=hid (show (g 0==c&&g 1==u)=false→∀t,t<j+1→∀g,q.slots[t]? =some g→(g 0==c&&g 1==u)=false from fun h t A a d=>by
    by_cases e:t=j
    ·rw[e,R.out] at d;rw[←aK d];exact h
    ·exact S t (by omega) a d)
   generalize g 0=u0 at*;generalize g 1=u1 at*;clear R S;by_cases L:u0=c
   ·have Y:(u0==c)=true:=by simpa using L
    by_cases e1:u1=u
    ·have ap:(u1==u)=true:=by simpa using e1
     have I:=hid (U.out (by rw[Y,ap];rfl));have J:=hid (show drR (m+1) p s=q by rw[E.out,ag (.inr I)]);clear L e1 U H;go_wp2_with fail
     go_quiet (fail)
     have w:=hid (bc l nq);generalize World.drewN _ _=W4 at w ⊢;clear c2 y0 y1 x0 x1;go_wp2_with fail
     go_ret
     exact⟨rfl,tg,by rw[J.out];exact F.below w,K3.trans (.below w)⟩
    ·have ap:(u1==u)=false:=by simpa using e1
     have HN:=hid (H.out (by rw[Y,ap];rfl));clear L e1 U H;go_wp2_with fail
     go_quiet (fail)
     have w:=hid (bc l nq);generalize World.drewN _ _=W4 at w ⊢;clear c2 y0 y1 x0 x1;go_wp2_with fail
     exact⟨⟨j+1,by omega,by go_num,HN,w⟩,by simp[intOf];omega⟩
   ·have Y:(u0==c)=false:=by simpa using L
    have HN:=hid (H.out (by rw[Y];rfl));clear L U H;go_wp2_with fail
    go_quiet (fail)
    have w:=hid (bc l nq);generalize World.drewN _ _=W4 at w ⊢;clear c2 y0 y1 x0 x1;go_wp2_with fail
    exact⟨⟨j+1,by omega,by go_num,HN,w⟩,by simp[intOf];omega⟩
  ·obtain rfl:j=p.slots.length:=by omega
   have aP:¬((p.slots.length:Int)<(p.slots.length:Int)):=by omega
   have I:=hid (show opnd q c u=false from bZ.2 fun g hg h=>by
    obtain⟨t,A⟩:=List.mem_iff_getElem?.1 hg;have Z:=S.out t (by have:=(List.getElem?_eq_some_iff.1 A).1;rw[ai.out] at this;exact this) g A;rw[Z] at h
    cases h)
   have B5:=hid (F.below l);have K5:=hid (K3.trans (.below l));clear S;by_cases y:c=1
   ·have aH:(c !=1)=false:=by rw[y];rfl
    have J:=hid (show drR (m+1) p s=q by rw[E.out,ag (.inl y)]);clear y;go_wp2_with fail
    go_ret
    exact⟨rfl,tg,by rw[J.out];exact B5,K5.out⟩
   ·have aH:(c !=1)=true:=by simpa using y
    obtain⟨b,B,aC⟩:=Q.out y I;have J:=hid (show drR (m+1) p s=gnF (drR m) q c b by rw[E.out,ae (by rintro (e|e);exact y e;rw[I.out] at e;cases e),B,ah]);rw[B] at y1;have HL:=hid (aC _ _ B5);clear y B aC Q E I;go_wp2_with fail
    refine HL.mono ?_;rintro r w9 ⟨rfl,aO,b9,k9⟩;have B9:=hid b9;have K9:=hid (K5.trans k9);clear b9 k9;go_wp2_with fail
    go_ret
    exact⟨rfl,aO,by rw[J.out];exact B9,K9.out⟩
set_option maxRecDepth 512
set_option maxHeartbeats 200000
theorem ref_any:∀m,RefAt m
 |0=>fun _ _ _ _ _ _ a=>absurd a (ex _)
 |m+1=>ref_next (ref_any m)
theorem has_inD {p:PW} {n:Int} (h:hasE p n=0):∃j:Nat,n=j∧j<p.slots.length∧(p.slots.getD j eS) 0≠0:=by
 unfold hasE at h
 cases hs:slotB p n with
 |false=>rw[hs,ae (by decide)] at h;cases h
 |true=>
  obtain⟨j,rfl,a⟩:=slotB_in hs;rw[hs,ag rfl,ah] at h;refine⟨j,rfl,a,fun e=>?_⟩;rw[aa,ac a,aS] at h e;rw[ag e] at h
  cases h
theorem snd_back {p:PW} (h:Snd p):sndB p=true:=by
 have o:lfB p=true:=by
  have:=h.lf;unfold lfB;simp only[am,aU,bp];have a:=this.k1;have b:=this.k2;have c:=this.c1;have d:=this.c2;have e:=this.d1;have f:=this.d2;have g:=this.ram;have i:=this.slots;have j:=this.tasks;have k:=this.lines;have l:=this.bits;have m:=this.ready;have n:=this.tlbs;omega
 unfold sndB wmA;rw[o,h.tm,Bool.and_self,ag rfl,looks_eq,eC h.b0,eC h.b1,eC h.b2,eC h.b3,eC h.b4,eC h.b5,eC h.b6,eC h.b7,eC h.b8,eC h.b9,eC h.b10];rfl
def dkP (p:PW) (a:Int):PW:=if sndB p=true∧hasE p a=0 then fgt (drF (nds p+1) p a.toNat) else p
theorem dk_yes {p:PW} {j:Nat} (h:Snd p) (a:hasE p j=0):dkP p j=fgt (drF (nds p+1) p j):=by
 unfold dkP;rw[ag ⟨snd_back h,a⟩,ah]
theorem dropKey_any_all (a:Int) (p:PW) (d:p.Fits) (hl:∀l∈p.tlbs,l.length≤100) (c:Snd p) (W:World) (wb:Nat) (tag:Nat→Nat) (V:Nat→Value) (bt:BoxT W wb tag V p):
  Calls Tryz.prog 15 #[.pointer (some ⟨wb,0,none⟩),.int .i64 a] W fun x e=>x=.returned (.int .i64 (hasE p a))∧∃tag',Kt tag tag' W e∧(hasE p a=0→∃m,BoxT e wb tag' m (dkP p a))∧(hasE p a≠0→e=W):=by
 by_cases b:hasE p a=0
 ·obtain⟨j,rfl,k,i⟩:=has_inD b;refine (ref_any (nds p+1) p j W wb tag V (by omega) (snd_inv d c) (snd_tl c) k bt).mono ?_;rintro r w1 ⟨rfl,o,b1,k1⟩;rw[ae i] at b1 ⊢;exact⟨by rw[b],o,k1,fun _=>⟨V,by rw[dk_yes c b, ←rr_eq d c (by omega) k i];exact b1⟩,fun h=>absurd (by first|rfl|assumption|exact HE) h⟩
 ·have g:=hid b;have n:(hasE p a !=0)=true:=by simpa using b
  have f:=hid (has_ref wb V p a W (bt.view d hl));generalize hasE p a=x at f g n ⊢;clear b c hl d bt;go_enter Tryz.func15,Tryz.ntmps15
  go_wp2_with fail
  refine f.mono ?_;rintro q w1 ⟨rfl,rfl⟩;go_wp2_with fail
  go_ret
  exact⟨rfl,tag,Kt.refl _ _,fun h=>(absurd h g),fun _=>rfl⟩
end Go.Proofs.YtaejnmmpddbbjaaGreatDoor.Wd
