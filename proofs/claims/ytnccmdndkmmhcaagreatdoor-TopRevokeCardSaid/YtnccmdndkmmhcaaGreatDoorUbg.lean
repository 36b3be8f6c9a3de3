/- Ubg -/
import Derived.BigGuard
import Derived.BigCall
import Derived.BigQuiet
import Derived.Test.YtnccmdndkmmhcaaGreatDoorUbf
set_option maxRecDepth 100000
set_option maxHeartbeats 16000000
namespace Go.Proofs.YtnccmdndkmmhcaaGreatDoor
namespace Wd
open Go.RowKit Mem Bw Nums Mmu
structure Sv (t:Nat) (X:Nat->Prop) (p q:PW):Prop where
 k:∀n,q.k n=p.k n∨q.k n=0∧p.k n≠0
 s:∀i,(∀k,k<6->q.s i k=p.s i k)∨q.s i 0=0∧p.s i 0≠0∧(X i∨q.k (i/16)≠p.k (i/16))
 u:q.s t 0≠0->∀i,q.s i 0≠0->(UnS q.IH t (fro q.IH i)↔UnS p.IH t (fro p.IH i))
theorem Sv.refl (t:Nat) (X:Nat->Prop) (p:PW):Sv t X p p:=⟨fun _=>.inl rfl,fun _=>.inl fun _ _=>rfl,fun _ _ _=>Iff.rfl⟩
theorem Sv.here {t:Nat} {X:Nat->Prop} {p q:PW} (h:Sv t X p q) {i:Nat} (hi:q.s i 0≠0):∀k,k<6->q.s i k=p.s i k:=(h.s i).elim id fun g=>absurd g.1 hi
theorem Sv.trans {t:Nat} {X Y Z:Nat->Prop} {p q r:PW} (h:Sv t X p q) (g:Sv t Y q r) (v:∀i,p.s i 0≠0->X i->Z i∨r.k (i/16)≠p.k (i/16)) (w:∀i,q.s i 0≠0->Y i->Z i∨r.k (i/16)≠p.k (i/16)):Sv t Z p r:=by
 have y:∀n,q.k n≠p.k n->r.k n≠p.k n:=fun n c=>by
  rcases h.k n with e|⟨e1,e2⟩
  ·exact absurd e c
  ·rcases g.k n with a|⟨_,e4⟩
   ·rw[a];exact c
   ·exact absurd e1 e4
 have z:∀n,r.k n≠q.k n->r.k n≠p.k n:=fun n c=>by
  rcases g.k n with a|⟨a,e4⟩
  ·exact absurd a c
  ·rcases h.k n with e|⟨e1,_⟩
   ·rw[a, <-e];exact fun x=>e4 x.symm
   ·exact absurd e1 e4
 refine⟨fun n=>?_,fun i=>?_,fun d i hi=>?_⟩
 ·rcases g.k n with e|⟨e1,e2⟩
  ·rw[e];exact h.k n
  ·rcases h.k n with a|⟨a,_⟩
   ·exact .inr ⟨e1,by rw[<-a];exact e2⟩
   ·exact absurd a e2
 ·rcases g.s i with e|⟨e1,e2,a⟩
  ·rcases h.s i with f|⟨l,j,b⟩
   ·exact .inl fun k hk=>(e k hk).trans (f k hk)
   ·refine .inr ⟨(e 0 oD).trans l,j,?_⟩;rcases b with b|b
    ·exact v i j b
    ·exact .inr (y _ b)
  ·refine .inr ⟨e1,?_,?_⟩
   ·rw[<-h.here e2 0 oD];exact e2
   ·rcases a with a|a
    ·exact w i e2 a
    ·exact .inr (z _ a)
 ·have m:q.s i 0≠0:=by rw[<-g.here hi 0 oD];exact hi
  have o:q.s t 0≠0:=by rw[<-g.here d 0 oD];exact d
  exact (g.u d i hi).trans (h.u o i m)
theorem kY (S:List (Nat->Int)) (i:Nat):fro S i=(S.getD i eS) 6:=by unfold fro;rw[ag oA,ah]
theorem GL (p:PW) (s i:Nat) (h:i≠s) (k:Nat) (hk:k<6):(drA p s).s i k=p.s i k:=by
 show ((drA p s).IH.getD i eS) k=_
 rw[jS,ae h];unfold lY;split
 ·exact ae oA
 ·rfl
theorem tL {r:Nat->Nat} {p:PW} {s t:Nat} (h:Up r p.IH) (b:s≠t):∀(n a:Nat),r a<n->a≠s->(UnS (drA p s).IH t a↔UnS p.IH t a)
 |0,_,hn,_=>absurd hn oA
 |n+1,a,hn,ha=>by
  by_cases e:(a:Int)=t
  ·rw[e];exact⟨fun _=>mh,fun _=>mh⟩
  rw[jP e,jP e,kY,kY,jS,ae ha];unfold lY;split
  ·rename_i e6;show UnS _ t ((p.IH.getD s eS) 6)↔_
   rw[e6,jP (S:=p.IH) oA,kY];have c:r s<r a:=by
    rcases h.fr a with x|⟨u,x,_,y⟩
    ·omega
    ·have:u=s:=oA;subst this;exact y
   rcases h.fr s with x|⟨u,x,_,y⟩
   ·rw[x];exact⟨fun z=>absurd z jx,fun z=>absurd z jx⟩
   ·rw[x];exact tL h b n u oA (by rintro rfl;omega)
  ·rename_i e6;rcases h.fr a with x|⟨u,x,_,y⟩
   ·rw[x];exact⟨fun z=>absurd z jx,fun z=>absurd z jx⟩
   ·rw[x];exact tL h b n u oA (by rintro rfl;exact e6 x)
theorem Et {r:Nat->Nat} {p:PW} {s:Nat} (t:Nat) (h:Up r p.IH) (b:p.s s 0≠0):Sv t (fun i=>i=s) p (drA p s):=by
 have a:(drA p s).s s 0=0:=by show ((drA p s).IH.getD s eS) 0=0;rw[jS,ag rfl];rfl
 refine⟨fun _=>.inl rfl,fun i=>?_,fun c i hi=>?_⟩
 ·by_cases e:i=s
  ·subst e;exact .inr ⟨a,b,.inl rfl⟩
  ·exact .inl fun k hk=>GL p s i e k hk
 ·have e:i≠s:=by rintro rfl;exact hi a
  have e2:s≠t:=by rintro rfl;exact c a
  rw[kY,kY,jS,ae e];unfold lY;split
  ·rename_i e6;show UnS _ t ((p.IH.getD s eS) 6)↔_
   rw[e6,jP (S:=p.IH) oA,kY];rcases h.fr s with x|⟨u,x,_,y⟩
   ·rw[x];exact⟨fun z=>absurd z jx,fun z=>absurd z jx⟩
   ·rw[x];exact tL h e2 (r u+1) u oA (by rintro rfl;omega)
  ·rename_i e6;rcases h.fr i with x|⟨u,x,_,y⟩
   ·rw[x];exact⟨fun z=>absurd z jx,fun z=>absurd z jx⟩
   ·rw[x];exact tL h e2 (r u+1) u oA (by rintro rfl;exact e6 x)
theorem vr {t:Nat} {p q:PW} (f:Nat) (hk:q.kinds=p.kinds.set f 0) (c:q.IH=p.IH):Sv t (fun _=>False) p q:=by
 have e:∀i,q.s i=p.s i:=fun i=>by show q.IH.getD i eS=_;rw[c]
 refine⟨fun n=>?_,fun i=>.inl fun k _=>by rw[e],fun _ i _=>by rw[c]⟩;show q.kinds.getD n 0=_∨q.kinds.getD n 0=0∧_
 rw[hk];by_cases d:f<p.kinds.length
 ·rw[dx d];by_cases b:n=f
  ·rw[ag b];by_cases a:p.k n=0
   ·exact .inl a.symm
   ·exact .inr ⟨rfl,a⟩
  ·rw[ae b];exact .inl rfl
 ·rw[List.set_eq_of_length_le oA];exact .inl rfl
theorem Cb {t m:Nat} (c:∀p s,nds p<m->Inv p->s<p.IH.length->p.s s 0≠0->∀r,Up r p.IH->Sv t (fun i=>i=s) p (drF m p s)) {f:Nat} {r:Nat->Nat}:∀(a:Nat) (p:PW),nds p<m->Inv p->Up r p.IH->a<=16->f*16+a<=p.IH.length->Sv t (fun i=>i/16=f) p (daF (drF m) f a p)
 |0,p,_,_,_,_,_=>by rw[gB];exact .refl _ _ _
 |a+1,p,hn,hi,hu,ha,hl=>by
  rw[gA];by_cases b:(p.IH.getD (f*16+a) eS) 0=0
  ·rw[ag b];exact Cb c a p hn hi hu oA oA
  ·rw[ae b];obtain⟨d,j,_⟩:=nV m p _ hn hi oA b;obtain⟨g,h⟩:=jY m p (f*16+a) hu;exact (c p _ hn hi oA b r hu).trans (Cb c a _ oA d g oA (by rw[h.1];omega)) (fun i _ e=>.inl oA) (fun i _ e=>.inl e)
theorem Eu {t:Nat}:∀(m:Nat) (p:PW) (s:Nat),nds p<m->Inv p->s<p.IH.length->p.s s 0≠0->∀r,Up r p.IH->Sv t (fun i=>i=s) p (drF m p s)
 |0,_,_,hn,_,_,_,_,_=>absurd hn (dG _)
 |m+1,p,s,hn,hi,hs,h0,r,hu=>by
  have A:=Et t hu h0;unfold drF;by_cases a:(p.IH.getD s eS) 0=1∨gX (drA p s) ((p.IH.getD s eS) 0) ((p.IH.getD s eS) 1)=true
  ·rw[ag a];exact A
  ·rw[ae a];obtain⟨b,j,hk, -, -⟩:=sL hi hs h0 (fun e=>a (.inl e));rw[j,ah];have g:gX (drA p s) ((p.IH.getD s eS) 0) b=false:=by
    cases e:gX (drA p s) ((p.IH.getD s eS) 0) b with
    |false=>rfl
    |true=>exact absurd (.inr (by rw[j];exact e)) a
   generalize (p.IH.getD s eS) 0=k at hk g;have h:=iP hi s;have c:(drA p s).kinds[b]? =some k:=hk;have o:nds (drA p s)<m+1:=hn;have l:=Ca (s:=s) hu;generalize drA p s=q at A g h c o l ⊢;have N:Sv t (fun _=>False) q (nkP q b):=vr b rfl rfl
   suffices B:Sv t (fun _=>False) q (lsF (drF m) q k b) from A.trans B (fun _ _ e=>.inl e) (fun _ _ e=>e.elim)
   unfold lsF;split
   ·exact vr b rfl rfl
   split
   ·exact vr b rfl rfl
   split
   ·rename_i e5;have a:=(ji q.kinds b).2 (by rw[c,e5]);have u:=jk (gn h c g oA) 11 oD (b:Int);have n:b<q.kinds.length:=(List.getElem?_eq_some_iff.1 c).1;have D:=Cb (t:=t) (f:=b) (Eu m) 16 (fgP 11 (nkP q b) b) (by show nds (nkP q b)<m;have:nds (nkP q b)+1=nds q:=a;omega) u (r:=r) l oA (by show b*16+16<=q.IH.length;have:=h.IH;omega);refine (vr (q:=fgP 11 (nkP q b) b) b rfl rfl).trans D (fun _ _ e=>e.elim) (fun i _ e=>.inr ?_);have e1:(fgP 11 (nkP q b) b).k b=0:=by show (q.kinds.set b 0).getD b 0=0;rw[dx n,ag rfl]
    have e2:q.k b=5:=by show q.kinds.getD b 0=5;rw[aa,c,e5];rfl
    rw[e,e2];rcases D.k b with d|⟨d,_⟩
    ·rw[d,e1];decide
    ·rw[d];decide
   split
   ·exact vr b (by rw[jz];rfl) (by rw[pa];rfl)
   ·exact vr b (by show (dsP (nkP q b) b).kinds=_;rw[iu];rfl) (by show (dsP (nkP q b) b).IH=_;rw[o7];rfl)
theorem FQ {t m:Nat} {r:Nat->Nat}:∀(n:Nat) (p:PW),nds p<m->Inv p->Up r p.IH->(rvN (drF m) t n p).s t 0≠0->Sv t (fun i=>UnS p.IH t (fro p.IH i)) p (rvN (drF m) t n p)
 |0,p,_,_,_,_=>.refl _ _ _
 |n+1,p,hn,hi,hu,ht=>by
  rcases iB p.IH t p.IH.length with ⟨-,e⟩|⟨-,j, -,e,b,f⟩
  ·rw[jv e];exact .refl _ _ _
  ·rw[rG e] at ht ⊢;have c:=(ie hu t j).1 f;have a:=mg hu c;obtain⟨d,h,_⟩:=nV m p j hn hi b a;have A:=Eu (t:=t) m p j hn hi b a r hu;have B:=FQ n (drF m p j) oA d (jY m p j hu).1 ht;have g:(drF m p j).s t 0≠0:=by rw[<-B.here ht 0 oD];exact ht
   refine A.trans B (fun i _ e=>.inl (by subst e;exact c)) (fun i hi e=>.inl ((A.u g i hi).1 e))
theorem Bf {t m:Nat} {r:Nat->Nat}:∀(n:Nat) (p:PW),Up r p.IH->neS p.IH<=n->luF (rvN (drF (m+1)) t n p).IH t (rvN (drF (m+1)) t n p).IH.length= -1
 |n,p,hu,hn=>by
  rcases iB p.IH t p.IH.length with ⟨-,e⟩|⟨-,j, -,e,b,a⟩
  ·rw[jv e];exact e
  ·have lt:=CM (jY (m+1) p j hu).2 (o4 hu) (mg hu ((ie hu t j).1 a))
   cases n with
   |zero=>omega
   |succ n=>
    rw[rG e];exact Bf n _ (jY (m+1) p j hu).1 oA
theorem FT {r:Nat->Nat} (m:Nat) {t:Nat}:∀(n:Nat) (p:PW),Up r p.IH->Up r (rvN (drF m) t n p).IH∧Sl (rvN (drF m) t n p).IH p.IH
 |0,_,h=>⟨h,Sl.refl _⟩
 |n+1,p,h=>by
  unfold rvN;split
  ·exact⟨h,Sl.refl _⟩
  ·have a:=jY m p (luF p.IH t p.IH.length).toNat h;have b:=FT m (t:=t) n _ a.1;exact⟨b.1,b.2.trans a.2⟩
theorem xG {S:List (Nat->Int)} {t n i:Nat}:(i:Int)∈mdL S t n↔i<n∧unB S t i=true:=by
 unfold mdL;rw[List.mem_map];constructor
 ·rintro⟨j,a,e⟩;obtain rfl:j=i:=oA;rw[List.mem_filter,List.mem_range] at a;exact a
 ·exact fun h=>⟨i,List.mem_filter.2 ⟨List.mem_range.2 h.1,h.2⟩,rfl⟩
theorem Aq {p:PW} (h:Lw p) (x:p.time<=1000000) {a:Nat} (n:fh p a=0) (hl:(j6 p a).s a 0≠0):(∀i:Nat,(i:Int)∈mdL p.IH a p.IH.length->(j6 p a).s i 0=0)∧(∀i:Nat,i<p.IH.length->¬(i:Int)∈mdL p.IH a p.IH.length->(j6 p a).k (i/16)=p.k (i/16)->∀k,k<6->(j6 p a).s i k=p.s i k)∧
  mdL (j6 p a).IH a (j6 p a).IH.length=[]∧∀k,k<6->(j6 p a).s a k=p.s a k:=by
 have d:=kM (h.snd x);obtain⟨r,b⟩:=rL d;have hi:=hZ h.fits d;rw[uy d n] at hl ⊢;have S:=FQ (t:=a) (m:=nds p+1) (neS p.IH) p oA hi b hl;have E:=Bf (t:=a) (m:=nds p) (neS p.IH) p b (aq _);have f:=(FT (nds p+1) (t:=a) (neS p.IH) p b);have l:∀Q:PW,(fgt Q).IH=Q.IH:=fun _=>rfl;rw[l];have N:mdL (rvN (drF (nds p+1)) a (neS p.IH) p).IH a (rvN (drF (nds p+1)) a (neS p.IH) p).IH.length=[]:=by
  rcases iB (rvN (drF (nds p+1)) a (neS p.IH) p).IH a (rvN (drF (nds p+1)) a (neS p.IH) p).IH.length with ⟨e,_⟩|⟨_,j,_,e,_⟩
  ·exact e
  ·rw[E] at e;omega
 refine⟨fun i c=>Decidable.by_contra fun y=>?_,fun i w c hk=>?_,N,S.here hl⟩
 ·obtain⟨o,q⟩:=xG.1 c;have v:=(S.u hl i y).2 ((ie b a i).1 q);have g:(i:Int)∈mdL (rvN (drF (nds p+1)) a (neS p.IH) p).IH a (rvN (drF (nds p+1)) a (neS p.IH) p).IH.length:=xG.2 ⟨by rw[f.2.1];exact o,(ie f.1 a i).2 v⟩;rw[N] at g
  cases g
 ·rcases S.s i with e|⟨_,_,e|e⟩
  ·exact e
  ·exact absurd (xG.2 ⟨w,(ie b a i).2 e⟩) c
  ·exact absurd hk e
section
variable {P : Program} {ops : Array Oper} {Q : Exit -> Act -> World -> Prop} {a : Act} {w : World} {rest : List Oper} {o : Oper}
end
theorem F6 (V:Nat->Value) (p:PW) (w:World) (hv:eu w V p) (g:p.Fits) (h:p4 p=true) (hk:0<p.kinds.length):
  Calls Tryz.prog 19 #[.agg (de V)] w fun r w'=>r=.returned (.bool true)∧Below w.heap.size w w':=by
 have b:=hid (lQ w V 28);have a:=hid (bal (af w.heap.size w) (.cells (de V) 28));have e:=hid (oU V p _ (hv.below a) g (kM h));obtain⟨q1,b1,j,k1,e1,_,_⟩:=hv.kinds;have f:=hid e1;have i:(0:Int)<(p.kinds.length:Int):=oA;go_enter Tryz.func19,Tryz.ntmps19
 go_wp2_with (first|((with_reducible refine gld 28 ?_);refine ja rfl _ rfl w.heap.size rfl V b ?_))
 refine e.mono ?_;rintro r w1 ⟨rfl,c⟩;have c1:=r11 1 (bf b c);rw[f.out] at c1;have d:=hid (btr a c);go_wp2_with fail
 go_ret
 exact⟨rfl,d.out⟩
theorem Dz (V U:Nat->Value) (p q:PW) (w:World) (hv:eu w V p) (d:eu w U q) (t:q.Fits) (u:p4 q=true) (hk:0<q.kinds.length) (e1:q.kinds.length=p.kinds.length) (e6:q.IJ.length=p.IJ.length):
  Calls Tryz.prog 29 #[.agg (de V),.agg (de U)] w fun r w'=>r=.returned (.bool true)∧Below w.heap.size w w':=by
 have f:=hid (lQ w V 28);have e:=hid (bal (af w.heap.size w) (.cells (de V) 28));have c:=hid (lQ (w.alloc (.cells (de V) 28)) U 28);have b:=hid (bal (af _ (w.alloc (.cells (de V) 28))) (.cells (de U) 28));have o:=hid (show (w.alloc (.cells (de V) 28)).heap.size=w.heap.size+1 by simp);rw[o.out] at c;have n:=hid (F6 U q _ ((d.below e).below b) t u hk);obtain⟨q1,b1,z,k1,v1,_,_⟩:=hv.kinds;obtain⟨E,b6,B,x,v,_,_⟩:=hv.IJ;obtain⟨D,b2,A,k2,g,_,_⟩:=d.kinds;obtain⟨F,b7,C,y,h,_,_⟩:=d.IJ;rw[e1] at g;rw[e6] at h;have l:=hid v1;have m:=hid v;have j:=hid g;have k:=hid h;go_enter Tryz.func29,Tryz.ntmps29
 go_wp2_with (first|((with_reducible refine gld 28 ?_);refine ja rfl _ rfl (w.heap.size+1) rfl U c ?_))
 refine n.mono ?_;rintro r w1 ⟨rfl,a⟩;have c1:=r11 1 (bf (bf f b) a);have c6:=r11 6 (bf (bf f b) a);have d1:w1.cell? ⟨w.heap.size+1,1,none⟩=some (U 1):=ai (bf c a) rfl;have s:w1.cell? ⟨w.heap.size+1,6,none⟩=some (U 6):=ai (bf c a) rfl;rw[l.out] at c1;rw[m.out] at c6;rw[j.out] at d1;rw[k.out] at s;have i:=hid (btr e (btr b a));go_wp2_with fail
 go_ret
 exact⟨rfl,i.out⟩
end Wd
namespace Wd
open Go.RowKit Mem Bw Nums Mmu Hex
def knB:List ByteArray:=[⟨#[112,97,103,101]⟩,⟨#[116,97,98,108,101]⟩,⟨#[115,112,97,99,101]⟩,⟨#[110,111,100,101]⟩,⟨#[116,97,115,107]⟩,⟨#[100,111,111,114]⟩,⟨#[98,101,108,108]⟩]
def KnW (w:World):Prop:=∃kb ko cap,w.cell? ⟨1,0,none⟩=some (.slice (some ⟨kb,ko,none⟩) 7 cap)∧fR w kb ko knB
theorem KnW.below {w w':World} (h:KnW w) (a:Below w.heap.size w w'):KnW w':=by
 obtain⟨d,e,cap,b,c⟩:=h;exact⟨d,e,cap,gU a b,fR.Jq c a⟩
def kj (p p':PW) (xs:List ByteArray):Prop:=∀(w:World) (wb:Nat) (tag:Nat->Nat) (V:Nat->Value) (b cap:Nat),cb w wb tag V p->KnW w->fR w b 0 xs->xs.length<=cap->
 Calls Tryz.prog 172 #[.pointer (some ⟨wb,0,none⟩),.slice (some ⟨b,0,none⟩) xs.length cap] w fun r w'=>r=.returned (.int .i64 0)∧∃tag' V',cb w' wb tag' V' p'∧Kt tag tag' w w'
theorem gK {w:World} {b:Nat} {x:ByteArray} {l:List ByteArray} (h:fR w b 0 (x::l)):w.cell? ⟨b,0,none⟩=some (.string x)∧fR w b 1 l:=
 ⟨h 0 oS,fun j a=>by have:=h (j+1) (by simp;omega);rw[show 0+(j+1)=1+j by omega] at this;exact this⟩
theorem fG {tag:Nat->Nat} {c k:Nat} (h:c<=k):jd tag c k=0:=ae oA
theorem Gn {p:PW} {c d e:ByteArray} {s b n:Nat} (P:p.Fits) (hl:∀l∈p.IK,l.length<=100) (O:∀t∈[c,d,e],gf t=true) (M:[c,d,e].map Prs.hJ=[(s:Int),(b:Int),(n:Int)])
  (R:p.IH.length=p.kinds.length*16) (Q:s<p.IH.length) (C:opE p s=0) (N:1<=n) (J:b+n<=p.kinds.length) (hk:∀f (hf:f<p.kinds.length),b<=f->f<b+n->p.kinds[f]=0) (K:∀i (hi:i<p.IH.length),p.IH[i] 0≠1):
  kj p {p with IH:=p.IH.set s (clk b n)} [⟨#[99,108,97,121]⟩,c,d,e]:=by
 intro w wb tag V X cap B _ F L;obtain⟨bt,T⟩:=iK B;have Y:=hid (fun x (h:w.heap.size<=x)=>fG (tag:=tag) h);have v:=hid T;have m:=hid bt;generalize jd tag w.heap.size=tg at*;obtain⟨U,G⟩:=gK F;have j:=hid (iU X 1 (cap - 1) [c,d,e] w G O oS);rw[M] at j;have aa:¬cap=1:=by simp at L;omega
 have A:=hid (fun W (h:Below w.heap.size w W)=>gU h U);have o:=hid (fun W a ca (h:Below w.heap.size w W) (H:fW W a 0 [(s:Int),(b:Int),(n:Int)])=>ql wb tg V p a ca s b n W (m.below h) P hl H R Q C N J hk K);go_enter Tryz.func172,Tryz.ntmps172
 go_wp2_with fail
 refine j.mono ?_;rintro r w1 ⟨u,rfl,S,k⟩;obtain⟨a,ca,rfl,Z,ab,I⟩:=j0 S oS oS;have g:=hid k;have q:=hid I;have x1:=A.out _ k;go_wp2_with fail
 refine (o.out w1 a ca g q).mono ?_;rintro r w2 ⟨rfl,D,E⟩;have y:=hid D;have z:=hid E;go_wp2_with fail
 go_ret
 exact⟨rfl,tg,V,y.out,v.trans ((bp g).trans z)⟩

theorem BH {p:PW} {b c d e:ByteArray} {s g f wr:Nat} (Q:p.Fits) (hl:∀l∈p.IK,l.length<=100) (P:∀t∈[b,c,d,e],gf t=true) (O:[b,c,d,e].map Prs.hJ=[(s:Int),(g:Int),(f:Int),(wr:Int)]) (D:fmE p s 4=0) (M:g<=255) (U:wr<=1) (L:f<p.kinds.length) (R:p.IL.length=p.kinds.length*16) (hk:p.kinds.getD f 0=3) (X:p.IL.getD (s*16+g/16) 0=0):
  kj p {p with IL:=p.IL.set (s*16+g/16) (32768+(f:Int))} [⟨#[101,110,116,101,114]⟩,b,c,d,e]:=by
 intro w wb tag V xb cap C _ G K;obtain⟨bt,Y⟩:=iK C;have z:=hid (fun x (h:w.heap.size<=x)=>fG (tag:=tag) h);have q:=hid Y;have m:=hid bt;generalize jd tag w.heap.size=tg at*;obtain⟨Z,H⟩:=gK G;have j:=hid (iU xb 1 (cap - 1) [b,c,d,e] w H P oS);rw[O] at j;have ab:¬cap=1:=by simp at K;omega
 have B:=hid (fun W (h:Below w.heap.size w W)=>gU h Z);have n:=hid (fun W a ca (h:Below w.heap.size w W) (I:fW W a 0 [(s:Int),(g:Int),(f:Int),(wr:Int)]) (S:tg a=0)=>nI wb tg V p a 0 ca s g f wr W (m.below h) Q hl I S D M U L R hk X);go_enter Tryz.func172,Tryz.ntmps172
 go_wp2_with fail
 refine j.mono ?_;rintro r w1 ⟨u,rfl,T,k⟩;obtain⟨a,ca,rfl,aa,N,J⟩:=j0 T oS oS;have A:=hid (z.out a N);have i:=hid k;have o:=hid J;have x1:=B.out _ k;go_wp2_with fail
 refine (n.out w1 a ca i o A).mono ?_;rintro r w2 ⟨rfl,E,F⟩;have v:=hid E;have y:=hid F;go_wp2_with fail
 go_ret
 exact⟨rfl,tg,V,v.out,q.trans ((bp i).trans y)⟩
theorem BF {p:PW} {c d e i:ByteArray} {s g f wr a:Nat} (T:p.Fits) (hl:∀l∈p.IK,l.length<=100) (S:∀t∈[c,d,e,i],gf t=true) (R:[c,d,e,i].map Prs.hJ=[(s:Int),(g:Int),(f:Int),(wr:Int)]) (E:fmE p s 4=0) (P:g<=255) (hw:wr<=1) (O:f<p.kinds.length) (Y:p.IL.length=p.kinds.length*16) (hk:p.kinds.getD f 0=2) (hz:p.IL.getD (s*16+g/16) 0=a) (M:0<a) (N:a<=65535) (U:a%1024*16+g%16<p.IL.length) (X:p.IL.getD (a%1024*16+g%16) 0=0):
  kj p {p with IL:=p.IL.set (a%1024*16+g%16) (32768+(wr:Int)*16384+(f:Int))} [⟨#[101,110,116,101,114]⟩,c,d,e,i]:=by
 intro w wb tag V xb cap D _ H L;obtain⟨bt,kr⟩:=iK D;have A:=hid (fun x (h:w.heap.size<=x)=>fG (tag:=tag) h);have v:=hid kr;have n:=hid bt;generalize jd tag w.heap.size=tg at*;obtain⟨x0,I⟩:=gK H;have k:=hid (iU xb 1 (cap - 1) [c,d,e,i] w I S oS);rw[R] at k;have ab:¬cap=1:=by simp at L;omega
 have C:=hid (fun W (h:Below w.heap.size w W)=>gU h x0);have o:=hid (fun W b ca (h:Below w.heap.size w W) (J:fW W b 0 [(s:Int),(g:Int),(f:Int),(wr:Int)]) (Z:tg b=0)=>o8 wb tg V p b 0 ca s g f wr a W (n.below h) T hl J Z E P hw O Y hk hz M N U X);go_enter Tryz.func172,Tryz.ntmps172
 go_wp2_with fail
 refine k.mono ?_;rintro r w1 ⟨u,rfl,hu,m⟩;obtain⟨b,ca,rfl,aa,Q,K⟩:=j0 hu oS oS;have B:=hid (A.out b Q);have j:=hid m;have q:=hid K;have x1:=C.out _ m;go_wp2_with fail
 refine (o.out w1 b ca j q B).mono ?_;rintro r w2 ⟨rfl,F,G⟩;have y:=hid F;have z:=hid G;go_wp2_with fail
 go_ret
 exact⟨rfl,tg,V,y.out,v.trans ((bp j).trans z)⟩
theorem DY {p:PW} {b c d e f g i:ByteArray} {t:Nat} {N:Nat->Int} (Y:p.Fits) (hl:∀l∈p.IK,l.length<=100) (X:∀t∈[b,c,d,e,f,g,i],gf t=true) (U:[b,c,d,e,f,g,i].map Prs.hJ=[(t:Int),N 1,N 2,N 3,N 4,N 5,N 6]) (E:fmE p t 6=0) (ht:t<p.II.length) (hk:∀k,1<=k->k<4->N k≠ -1->fmE p (N k) (eqK k)=0) (H:0<=N 4) (I:N 4<p.IJ.length) (J:0<=N 5) (K:N 5<=3) (L:0<=N 6) (M:N 6<=3) (Z:p.II[t] 9=0):
  kj p (eqP p t N) [⟨#[101,113,117,105,112]⟩,b,c,d,e,f,g,i]:=by
 intro w wb tag V xb cap D _ O S;obtain⟨bt,kr⟩:=iK D;have A:=hid (fun x (h:w.heap.size<=x)=>fG (tag:=tag) h);have v:=hid kr;have o:=hid bt;generalize jd tag w.heap.size=tg at*;obtain⟨x0,P⟩:=gK O;have m:=hid (iU xb 1 (cap - 1) [b,c,d,e,f,g,i] w P X oS);rw[U] at m;have ac:¬cap=1:=by simp at S;omega
 have C:=hid (fun W (h:Below w.heap.size w W)=>gU h x0);have q:=hid (fun W a ca (h:Below w.heap.size w W) (Q:fW W a 0 [(t:Int),N 1,N 2,N 3,N 4,N 5,N 6]) (aa:tg a=0)=>o9 wb tg V p a ca t N W (o.below h) Y hl Q aa E ht hk H I J K L M Z);go_enter Tryz.func172,Tryz.ntmps172
 go_wp2_with fail
 refine m.mono ?_;rintro r w1 ⟨u,rfl,hu,n⟩;obtain⟨a,ca,rfl,ab,T,R⟩:=j0 hu oS oS;have B:=hid (A.out a T);have j:=hid n;have s:=hid R;have x1:=C.out _ n;go_wp2_with fail
 refine (q.out w1 a ca j s B).mono ?_;rintro r w2 ⟨rfl,F,G⟩;have y:=hid F;have z:=hid G;go_wp2_with fail
 go_ret
 exact⟨rfl,tg,V,y.out,v.trans ((bp j).trans z)⟩
theorem Gp {p:PW} {e f m n:ByteArray} {i j r g a:Nat} {s:Nat->Int} (hp:p.Fits) (hl:∀l∈p.IK,l.length<=100) (ac:∀t∈[e,f,m,n],gf t=true) (hm:[e,f,m,n].map Prs.hJ=[(i:Int),(j:Int),(r:Int),(g:Int)]) (ad:p.IH.length=p.kinds.length*16) (X:boE p i j=0) (hi:i<p.IH.length) (hj:j<p.IH.length) (hs:p.IH[i]=s) (b:s 0≠1) (hr:r<=7) (Z:g<=65535) (ab:g=0∨(0<g∧(s 0=7∨s 0=8)∧s 5=0)) (P:s 4=a) (T:a<=7):
  kj p {p with IH:=p.IH.set j (kpS s (Bw.bw 6 a r:Nat) g i)} [⟨#[99,111,112,121]⟩,e,f,m,n]:=by
 intro w wb tag V xb cap O _ Q Y;obtain⟨bt,kr⟩:=iK O;have L:=hid (fun x (h:w.heap.size<=x)=>fG (tag:=tag) h);have I:=hid kr;have E:=hid bt;generalize jd tag w.heap.size=tg at*;obtain⟨x0,S⟩:=gK Q;have z:=hid (iU xb 1 (cap - 1) [e,f,m,n] w S ac oS);rw[hm] at z;have ag:¬cap=1:=by simp at Y;omega
 have N:=hid (fun W (h:Below w.heap.size w W)=>gU h x0);have F:=hid (fun W (h:Below w.heap.size w W)=>qp wb tg V p i j r g a s W (E.below h) hp hl ad X hi hj hs b hr Z ab P T);go_enter Tryz.func172,Tryz.ntmps172
 go_wp2_with fail
 refine z.mono ?_;rintro r w1 ⟨u,rfl,hu,C⟩;obtain⟨q,ca,rfl,af,aa,U⟩:=j0 hu oS oS;have M:=hid (L.out q aa);have D:=hid C;have G:=hid U;have x1:=N.out _ C;go_upto_region 38 with fail
 have y:=hid (btr D (show Below w1.heap.size w1 w1.drew from aD w1 1));have o:=hid (G.below (show Below w1.heap.size w1 w1.drew from aD w1 1));have ae:=hid (aj _ _ (o.out 0 oS));refine bI (R:=fun W=>fW W q 0 [(i:Int),(j:Int),(r:Int),(g:Int)]) [14] [0,1,2,3,4,5,6,7,8,9,10,11,12] 2 oK o oK oK oK (fun _=>?_)
 repeat (refine Rf.rs ?_ rfl oR (fun W h=>by have b:=h 0 oS;have c:=h 1 oS;have d:=h 2 oS;have B:=h 3 oS;clear h;rw[aC] at b c d B;simp only[bh,bC] at b c d B;go_simp;try rfl);simp only[jj])
 refine aL ?_;generalize w1.drew=w2 at*;refine Rf.r1 13 rfl (fun K v=>?_);refine wnt oR ?_;go_simp
 refine (F.out w2 y).mono ?_;rintro r w3 ⟨rfl,c,d⟩;have J:=hid c;have A:=hid d;have H:=hid (show fW w3 q 0 [(i:Int),(j:Int),(r:Int),(g:Int)] from fun k hk=>A.cell (o.out k hk) M);go_wp2_with fail
 refine v _ _ trivial (fun _=>H.out) (fun _ _=>?_)
 try simp only[jj]
 refine Rf.r1 14 rfl (fun K v=>?_);refine wnt oR ?_;go_simp
 refine v _ _ trivial (bX oK) (fun _ _=>?_)
 try simp only[jj]
 refine bc oK ?_ _;go_wp2_with fail
 go_ret
 exact⟨rfl,tg,V,J.out,I.trans ((bp y).trans A)⟩
theorem sf {a b:ByteArray} (h:a≠b):(a.toList==b.toList)=false:=by
 rw[ByteArray.toList_eq,ByteArray.toList_eq];refine beq_eq_false_iff_ne.2 fun e=>h (mr e)
theorem Gr {p:PW} {D c d e:ByteArray} {kk:Nat} {n m t:Int} (hp:p.Fits) (hl:∀l∈p.IK,l.length<=100) (hs:Snd p) (ah:kk<knB.length) (hx:knB[kk]=D) (am:∀j (b:j<knB.length),j<kk->knB[j]≠D) (an:∀t∈[c,d,e],gf t=true) (hm:[c,d,e].map Prs.hJ=[n,m,t]) (hE:mkE p n (2+(kk:Int)) m t=0):
  kj p (mkP p n (2+(kk:Int)) m t) [⟨#[109,97,107,101]⟩,D,c,d,e]:=by
 intro w wb tag V M cap aa ai z ae;obtain⟨bt,kr⟩:=iK aa;have T0:=hid (fun x (h:w.heap.size<=x)=>fG (tag:=tag) h);have X:=hid kr;have P:=hid bt;generalize jd tag w.heap.size=tg at*;obtain⟨x0,au⟩:=gK z;have x1:=z 1 oS;have ab:fR w M 2 [c,d,e]:=fun j b=>by have:=z (j+2) (by simp at b ⊢;omega);rw[show 0+(j+2)=2+j by omega] at this;exact this
 have H:=hid (fun W (h:Below w.heap.size w W)=>iU M 2 (cap - 2) [c,d,e] W (fR.Jq ab h) an oS);rw[hm] at H;have aw:¬cap=2:=by simp at ae;omega
 obtain⟨kb,ko,ay,C,ao⟩:=ai;have F:=hid (fun W (h:Below w.heap.size w W)=>(⟨gU h x1,gU h C⟩:_∧_));have Y:=hid (fun W (h:Below w.heap.size w W) j (b:j<knB.length)=>gU h (ao j b));have G:=hid (fun W (h:Below w.heap.size w W)=>nL n (2+(kk:Int)) m t p hp hl hs W wb tg V (P.below h));rw[hE] at G;have k7:(kk:Int)<7:=by have:knB.length=7:=rfl;omega
 have ax:((kk:Int)==7)=false:=by simp;omega
 have T:=hid am;have U:=hid hx;have aq:=hid ah;go_enter Tryz.func172,Tryz.ntmps172
 go_wp2_with fail
 go_loopw [5] (fun i wr=>∃(j:Nat),j<=kk∧i=.int .i64 (j:Int)∧Hid (Below w.heap.size w wr)) (fun i _=>kk - (intOf i).toNat)
 case atStart=>exact⟨0,oA,rfl,hid (af _ _)⟩
 case round=>
  obtain⟨j,b,rfl,f⟩:=hrel;obtain⟨x1,C⟩:=F.out _ f;have L:j<knB.length:=oA;have j7:(j:Int)<7:=oA;have N:=Y.out _ f j L;by_cases al:j<kk
  ·have hn:=sf (T.out j L al);generalize knB[j]=y at N hn;go_upto_region 5 with fail
   refine bj oK oK ?_
   repeat (first|go_big_quiet_skip|(go_big_quiet_want;go_big_quiet_op;first|go_big_quiet_on|go_big_quiet_call (fail)))
   refine cJ ?_;intro _ A;obtain⟨nq,B⟩:=A;subst B;have a:=hid (aG f nq);generalize wr.drewN nq=w3 at*;go_wp2_with fail
   exact⟨⟨j+1,oA,by go_num,a⟩,by simp[intOf];omega⟩
  obtain rfl:j=kk:=oA;rw[U.out] at N;go_upto_region 5 with fail
  refine bj oK oK ?_
  repeat (first|go_big_quiet_skip|(go_big_quiet_want;go_big_quiet_op;first|go_big_quiet_on|go_big_quiet_call (fail)))
  refine cJ ?_;intro _ A;obtain⟨nq,B⟩:=A;subst B;have a:=hid (aG f nq);generalize wr.drewN nq=w3 at*;obtain⟨x1,C⟩:=F.out _ a;go_wp2_with fail
  refine (H.out _ a).mono ?_;rintro r w1 ⟨u,rfl,hu,ad⟩;obtain⟨s,ca,rfl,av,ag,ac⟩:=j0 hu oS oS;have TG:=hid (T0.out s (aB a.size ag));have O:=hid (btr a ad);have Q:=hid ac;go_upto_region 12 with fail
  have E:=hid (btr O (show Below w1.heap.size w1 w1.drew from aD w1 1));have q:=hid (Q.below (show Below w1.heap.size w1 w1.drew from aD w1 1));have ar:=hid (aj _ _ (q.out 0 oS));refine bI (R:=fun W=>fW W s 0 [n,m,t]) [13] [0,1,2,3,4,5,6,7,8,9,10,11] 2 oK q oK oK oK (fun _=>?_)
  repeat (refine Rf.rs ?_ rfl oR (fun W h=>by have J:=h 0 oS;have g:=h 1 oS;have o:=h 2 oS;clear h;rw[aC] at J g o;simp only[bh,bC] at J g o;go_simp;try rfl);simp only[jj])
  refine aL ?_;generalize w1.drew=w2 at*;refine Rf.r1 12 rfl (fun K v=>?_);refine wnt oR ?_;go_simp
  rw[show IntKind.i64.wrap (2+(j:Int))=2+(j:Int) from bZ _ oA oA];refine (G.out w2 E).mono ?_;rintro r w4 ⟨rfl,ap,g,o⟩;obtain⟨V2,h3⟩:=o trivial;have Z:=hid h3;have I:=hid g;have S:=hid (show fW w4 s 0 [n,m,t] from fun k hk=>I.cell (q.out k hk) TG);go_wp2_with fail
  refine v _ _ trivial (fun _=>S.out) (fun _ _=>?_)
  try simp only[jj]
  refine Rf.r1 13 rfl (fun K v=>?_);refine wnt oR ?_;go_simp
  refine v _ _ trivial (bX oK) (fun _ _=>?_)
  try simp only[jj]
  refine bc oK ?_ _;go_wp2_with fail
  go_ret
  exact⟨rfl,ap,V2,Z.out,X.trans ((bp E).trans I)⟩
