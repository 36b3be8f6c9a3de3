/- Qao -/
import Derived.Deep.RegionHeld3
import Derived.BigQuiet
import Derived.Test.YtaejnmmpddbbjaaGreatDoorQan
set_option maxRecDepth 100000
set_option maxHeartbeats 16000000
namespace Go.Proofs.YtaejnmmpddbbjaaGreatDoor
namespace Mmu
open Go.RowKit Mem Bw Nums
end Mmu
namespace Wd
open Go.RowKit Mem Bw Nums Mmu
def i5 (p:PW) (k g:Int):Bool:=p.IB.any (fun f=>f 0==k&&f 1==g)
def fg1 (c:Nat) (f:Int) (g:Nat->Int):Nat->Int:=if g c=f then upd g c (-1) else g
def fgP (c:Nat) (p:PW) (f:Int):PW:={p with IA:=p.IA.map (fg1 c f)}
def idK (F:Nat->Int->Int) (k:Nat) (l:List Int):List Int:=(l.mapIdx F).take k++l.drop k
theorem pa (F:Nat->Int->Int) (k:Nat) (l:List Int):(idK F k l).length=l.length:=by
 unfold idK;rw[ax,bL,eU,eg];omega
theorem zA (F:Nat->Int->Int) (l:List Int):idK F 0 l=l:=by simp[idK]
theorem Cp (F:Nat->Int->Int) (l:List Int):idK F l.length l=l.mapIdx F:=by
 unfold idK;rw[List.drop_length,d9,List.take_of_length_le (by rw[eg];exact aq _)]
theorem se (F:Nat->Int->Int) (k:Nat) (l:List Int) (i:Nat):(idK F k l)[i]? =if i<k then (l[i]?).map (F i) else l[i]? :=by
 unfold idK;by_cases hi:i<k
 ·rw[ah hi];by_cases hl:i<l.length
  ·rw[List.getElem?_append_left (by rw[bL,eg];omega),List.getElem?_take,ah hi,List.getElem?_mapIdx]
  ·rw[dV (by rw[bL,eg];omega),bL,eg,dQ,aH oA,aH oA];rfl
 ·rw[ae hi,dV (by rw[bL,eg];omega),bL,eg,dQ];by_cases hl:k<=l.length
  ·rw[show k+(i - min k l.length)=i by omega]
  ·rw[aH oA,aH oA]
theorem AT {F:Nat->Int->Int} {k:Nat} {l:List Int} (hk:k<l.length) (h:k<(idK F k l).length):(idK F k l)[k]=l[k]:=by
 have a:=se F k l k;rw[ae oA,ac hk,ac h] at a;exact aL a
theorem tu {F:Nat->Int->Int} {k:Nat} {l:List Int} (hk:k<l.length):idK F (k+1) l=(idK F k l).set k (F k l[k]):=by
 apply List.ext_getElem?;intro i;rw[se,List.getElem?_set,se];by_cases h:k=i
 ·subst h;rw[ah oA,ah rfl,ah (by rw[pa];exact hk),ac hk];rfl
 ·rw[ae h];by_cases a:i<k
  ·rw[ah oA,ah a]
  ·rw[ae oA,ae a]
theorem zy {F:Nat->Int->Int} {k:Nat} {l:List Int} (hk:k<l.length) (hF:F k l[k]=l[k]):idK F (k+1) l=idK F k l:=by
 have hl:k<(idK F k l).length:=by rw[pa];exact hk
 rw[tu hk,hF, <-AT (F:=F) hk hl,cF]
def ut1 (ks:List Int) (f:Int) (i:Nat) (x:Int):Int:=if (ks.getD (i/16) 0=3∨ks.getD (i/16) 0=4)∧(x=32768+f∨x=49152+f) then 0 else x
def utP (p:PW) (f:Int):PW:={p with IE:=p.IE.mapIdx (ut1 p.kinds f)}
theorem di.J0 {W:World} {wb:Nat} {tag:Nat->Nat} {V:Nat->Value} {p:PW} (h:di W wb tag V p) {g cap:Nat} (e:V 0=.slice (some ⟨g,0,none⟩) p.IE.length cap) {i:Nat} (hi:i<p.IE.length):W.cell? ⟨g,i,none⟩=some (.int .i64 p.IE[i]):=by
 have a:=h.o.IE;rw[e] at a;exact a.int hi
theorem di.J1 {W:World} {wb:Nat} {tag:Nat->Nat} {V:Nat->Value} {p:PW} (h:di W wb tag V p) {g cap:Nat} (e:V 0=.slice (some ⟨g,0,none⟩) p.IE.length cap) (o:Nat):W.frozen? ⟨g,o,none⟩=false:=by
 have a:=h.o.IE;rw[e] at a;exact a.frozen o
theorem di.IT {W:World} {wb:Nat} {tag:Nat->Nat} {V:Nat->Value} {p:PW} (h:di W wb tag V p) {g cap:Nat} (e:V 1=.slice (some ⟨g,0,none⟩) p.kinds.length cap) {i:Nat} (hi:i<p.kinds.length):W.cell? ⟨g,i,none⟩=some (.int .i64 p.kinds[i]):=by
 have a:=h.o.kinds;rw[e] at a;exact a.int hi
theorem di.I0 {W:World} {wb:Nat} {tag:Nat->Nat} {V:Nat->Value} {p:PW} (h:di W wb tag V p) {g cap:Nat} (e:V 1=.slice (some ⟨g,0,none⟩) p.kinds.length cap) (o:Nat):W.frozen? ⟨g,o,none⟩=false:=by
 have a:=h.o.kinds;rw[e] at a;exact a.frozen o
theorem iC:(Tryz.prog.info? 45).map (·.size)=some 20:=oK
def etP (p:PW) (t:Nat):PW:={(if p.IA.getD t bl 17= -1 then stP p t else (stP p t).task (p.IA.getD t bl 17).toNat 9 0) with IA:=(if p.IA.getD t bl 17= -1 then stP p t else (stP p t).task (p.IA.getD t bl 17).toNat 9 0).IA.set t bl}
theorem FX (p:PW) (t:Nat):(stP p t).IA.length=p.IA.length:=by
 show ((PW.task (PW.task _ t 9 0) t 14 (-1))).IA.length=_
 rw[ap,ap];exact bJ _
theorem di.Je {W:World} {wb:Nat} {tag:Nat->Nat} {V:Nat->Value} {p:PW} (h:di W wb tag V p) {g cap:Nat} (e:V 3=.slice (some ⟨g,0,none⟩) p.IA.length cap) (o m:Nat) (b:o+m<=p.IA.length*20):W.there g o m:=by
 have a:=h.o.IA;rw[e] at a;exact a.there o m b
def ds1 (p:PW) (z:Int):PW:=(p.task z.toNat 9 0).task z.toNat 14 (-1)
def dsP (p:PW) (f:Nat):PW:={(p.lines.getD f []).foldl ds1 p with lines:=p.lines.set f [],bits:=p.bits.set f 0}
theorem Cg (p:PW) (z:Int):(ds1 p z).IA.length=p.IA.length:=by unfold ds1;rw[ap,ap]
theorem vR:∀(l:List Int) (p:PW),(l.foldl ds1 p).IA.length=p.IA.length
 |[],_=>rfl
 |z::l,p=>by rw[ey,vR l,Cg]
theorem fV:∀(l:List Int) (p:PW),l.foldl ds1 p={p with IA:=(l.foldl ds1 p).IA}
 |[],_=>rfl
 |z::l,p=>by
  rw[ey,fV l (ds1 p z)];rfl
theorem vS (l:List Int) (k:Nat) (hk:k<l.length) (p:PW):(l.take (k+1)).foldl ds1 p=ds1 ((l.take k).foldl ds1 p) l[k]:=by
 rw[bF hk,List.foldl_append];rfl
theorem di.Jw {W:World} {wb:Nat} {tag:Nat->Nat} {V:Nat->Value} {p:PW} (h:di W wb tag V p) {g:Nat} (e:V 4=.slice (some ⟨g,0,none⟩) p.lines.length p.lines.length) {j:Nat} (d:j<p.lines.length):
  di (W.setCell ⟨g,j,none⟩ (.slice none 0 0)) wb tag V {p with lines:=p.lines.set j []}∧Kt tag tag W (W.setCell ⟨g,j,none⟩ (.slice none 0 0)):=by
 have a:=h.o.lines;rw[e] at a;obtain⟨f,b⟩:=a.put d (by intro i;omega) (aV _ W) (fun _ _=>rfl) (u:=.slice none 0 0) (c:=(0,[])) ⟨⟨rfl,.inl ⟨rfl,rfl⟩⟩,fun k hk=>by cases hk⟩;refine⟨h.lines b (fun _ _=>rfl) ?_,.of b (fun k e=>by rcases e with e|⟨i,e⟩<;>omega) (fun _ _=>rfl)⟩;rw[au,e,jo p.lines j d []];exact f
theorem di.Jy {W:World} {wb:Nat} {tag:Nat->Nat} {V:Nat->Value} {p:PW} (h:di W wb tag V p) {g cap:Nat} (e:V 5=.slice (some ⟨g,0,none⟩) p.bits.length cap) (o:Nat):W.frozen? ⟨g,o,none⟩=false:=by
 have a:=h.o.bits;rw[e] at a;exact a.frozen o
theorem di.Jv {W:World} {wb:Nat} {tag:Nat->Nat} {V:Nat->Value} {p:PW} (h:di W wb tag V p) {g cap:Nat} (e:V 5=.slice (some ⟨g,0,none⟩) p.bits.length cap) {i:Nat} (hi:i<p.bits.length):W.cell? ⟨g,i,none⟩=some (.int .i64 p.bits[i]):=by
 have a:=h.o.bits;rw[e] at a;exact a.int hi
def drA (p:PW) (s:Nat):PW:={p with IB:=hnd s ((p.IB.getD s eS) 6) (p.IB.set s eS)}
def daF (dr:PW->Nat->PW) (f:Nat) (a:Nat) (p:PW):PW:=if h:a=0 then p else daF dr f (a - 1) (if (p.IB.getD (f*16+(a - 1)) eS) 0=0 then p else dr p (f*16+(a - 1)))
theorem im (dr:PW->Nat->PW) (f:Nat) (p:PW):daF dr f 0 p=p:=by rw[daF,dif_pos rfl]
theorem il (dr:PW->Nat->PW) (f a:Nat) (p:PW):daF dr f (a+1) p=daF dr f a (if (p.IB.getD (f*16+a) eS) 0=0 then p else dr p (f*16+a)):=by rw[daF,dif_neg (Nat.succ_ne_zero a),Nat.add_sub_cancel]
def nkP (p:PW) (f:Nat):PW:={p with kinds:=p.kinds.set f 0}
def lsF (dr:PW->Nat->PW) (p:PW) (k:Int) (f:Nat):PW:=
 if k=2∨k=3 then utP (nkP p f) f else if k=4 then fgP 12 (nkP p f) f else if k=5 then daF dr f 16 (fgP 11 (nkP p f) f) else if k=6 then etP (nkP p f) f else fgP 13 (dsP (nkP p f) f) f
def drF:Nat->PW->Nat->PW
 |0,p,_=>p
 |m+1,p,s=>if (p.IB.getD s eS) 0=1∨i5 (drA p s) ((p.IB.getD s eS) 0) ((p.IB.getD s eS) 1)=true then drA p s else lsF (drF m) (drA p s) ((p.IB.getD s eS) 0) ((p.IB.getD s eS) 1).toNat
def nds (p:PW):Nat:=p.kinds.count 5
structure Inv (p:PW):Prop where
 fits:p.Fits
 I7:p.kinds.length<=24
 IE:p.IE.length=p.kinds.length*16
 IB:p.IB.length=p.kinds.length*16
 IA:p.IA.length=p.kinds.length
 lines:p.lines.length=p.kinds.length
 bits:p.bits.length=p.kinds.length
 key:∀f∈p.IB,f 0=0∨f 0=1∨(2<=f 0∧f 0<=8∧∃b:Nat,f 1=b∧p.kinds[b]? =some (f 0))
 line:∀l∈p.lines,∀z∈l,∃u:Nat,z=u∧u<p.IA.length
 Jb:∀f∈p.IA,f 17= -1∨∃u:Nat,f 17=u∧u<p.IA.length
 Jz:∀(i:Nat) (x k:Int),p.IE[i]? =some x->p.kinds[i/16]? =some k->(k=3∨k=4)->x=0∨∃f:Nat,f<1024∧(x=32768+f∨x=49152+f)
 I5:∀f∈p.IA,f 13= -1∨∃u:Nat,f 13=u∧p.kinds[u]? =some 7
theorem Co {a b:Int} {fs:List (Nat->Int)} {g:Nat->Int} (h:g∈hnd a b fs):∃f∈fs,g 0=f 0∧g 1=f 1:=by
 unfold hnd at h;obtain⟨f,d,rfl⟩:=List.mem_map.1 h;refine⟨f,d,?_⟩;unfold nF;by_cases c:f 6=a
 ·rw[ah c];exact⟨rfl,rfl⟩
 ·rw[ae c];exact⟨rfl,rfl⟩
theorem mI (a b:Int) (fs:List (Nat->Int)):(hnd a b fs).length=fs.length:=bJ _
theorem jX {p:PW} (h:Inv p) (s:Nat):Inv (drA p s):=by
 have hl:(drA p s).IB.length=p.IB.length:=by
  show (hnd _ _ (p.IB.set s eS)).length=_
  rw[mI,au]
 exact⟨⟨h.fits.IE,h.fits.kinds,by rw[hl];exact h.fits.IB,h.fits.IA,h.fits.lines,h.fits.line,h.fits.bits,h.fits.IC,h.fits.ready,h.fits.next,h.fits.ID,h.fits.IF⟩,h.I7,h.IE,hl.trans h.IB,h.IA,h.lines,h.bits,fun g d=>by
  obtain⟨f,a,b,c⟩:=Co d;rw[b,c];rcases aP a with a|rfl
  ·exact h.key f a
  ·exact .inl rfl,h.line,h.Jb,h.Jz,h.I5⟩
theorem xJ {p:PW} {k g:Int} (h:i5 p k g=false):∀f∈p.IB,¬(f 0=k∧f 1=g):=fun f a e=>by
 unfold i5 at h;rw[bR] at h;exact h f a (by simp[e.1,e.2])
structure oE (p:PW) (n:Int):Prop where
 fits:p.Fits
 I7:p.kinds.length<=24
 IE:p.IE.length=p.kinds.length*16
 IB:p.IB.length=p.kinds.length*16
 IA:p.IA.length=p.kinds.length
 lines:p.lines.length=p.kinds.length
 bits:p.bits.length=p.kinds.length
 key:∀f∈p.IB,f 0=0∨f 0=1∨(2<=f 0∧f 0<=8∧∃b:Nat,f 1=b∧p.kinds[b]? =some (f 0))
 line:∀l∈p.lines,∀z∈l,∃u:Nat,z=u∧u<p.IA.length
 Jb:∀f∈p.IA,f 17= -1∨∃u:Nat,f 17=u∧u<p.IA.length
 Jz:∀(i:Nat) (x k:Int),p.IE[i]? =some x->p.kinds[i/16]? =some k->(k=3∨k=4)->x=0∨∃f:Nat,f<1024∧(x=32768+f∨x=49152+f)
 I5:∀f∈p.IA,f 13= -1∨f 13=n∨∃u:Nat,f 13=u∧p.kinds[u]? =some 7
theorem xv {p:PW} {f b:Nat} {k:Int} (h:(nkP p f).kinds[b]? =some k) (hk:k≠0):p.kinds[b]? =some k∧b≠f:=by
 have a:(p.kinds.set f 0)[b]? =some k:=h;rw[List.getElem?_set] at a;by_cases e:f=b
 ·rw[ah e] at a;by_cases hl:b<p.kinds.length
  ·rw[ah oA] at a;exact absurd (aL a).symm hk
  ·rw[ae oA] at a;cases a
 ·rw[ae e] at a;exact⟨a,fun e2=>e e2.symm⟩
theorem xw {p:PW} {f b:Nat} {k:Int} (h:p.kinds[b]? =some k) (a:b≠f):(nkP p f).kinds[b]? =some k:=by
 show (p.kinds.set f 0)[b]? =some k
 rw[cM (fun e=>a e.symm)];exact h
theorem lJ {p:PW} (h:Inv p) {f:Nat} {k:Int} (hk:p.kinds[f]? =some k) (t:i5 p k f=false):oE (nkP p f) f:=by
 have hl:(nkP p f).kinds.length=p.kinds.length:=au ..;refine⟨⟨h.fits.IE,by rw[hl];exact h.fits.kinds,h.fits.IB,h.fits.IA,h.fits.lines,h.fits.line,h.fits.bits,h.fits.IC,h.fits.ready,h.fits.next,h.fits.ID,h.fits.IF⟩,by rw[hl];exact h.I7,by rw[hl];exact h.IE,by rw[hl];exact h.IB,by rw[hl];exact h.IA,by rw[hl];exact h.lines,by rw[hl];exact h.bits,fun g a=>?_,h.line,h.Jb,fun i x k2 v r o=>?_,fun g a=>?_⟩
 ·rcases h.key g a with m|c|⟨n,q,b,j,d⟩
  ·exact .inl m
  ·exact .inr (.inl c)
  ·refine .inr (.inr ⟨n,q,b,j,xw d ?_⟩);rintro rfl;rw[hk] at d;exact xJ t g a ⟨(aL d).symm,j⟩
 ·exact h.Jz i x k2 v (xv r oA).1 o
 ·rcases h.I5 g a with c|⟨u,l,s⟩
  ·exact .inl c
  ·by_cases e:u=f
   ·exact .inr (.inl (by rw[l,e]))
   ·exact .inr (.inr ⟨u,l,xw s e⟩)
theorem oE.full {p:PW} {n:Int} (h:oE p n) (hh:∀f∈p.IA,f 13=n->f 13= -1):Inv p:=⟨h.fits,h.I7,h.IE,h.IB,h.IA,h.lines,h.bits,h.key,h.line,h.Jb,h.Jz,fun f b=>by
 rcases h.I5 f b with a|a|a
 ·exact .inl a
 ·exact .inl (hh f b a)
 ·exact .inr a⟩
theorem hP {p:PW} (h:Inv p) {f:Nat} {k:Int} (hk:p.kinds[f]? =some k) (i:i5 p k f=false) (c:k≠7):Inv (nkP p f):=
 (lJ h hk i).full fun g d e=>by
  rcases h.I5 g d with b|⟨u,j,a⟩
  ·exact b
  ·have:u=f:=oA;subst this;rw[hk] at a;exact absurd (aL a) c
theorem Bq {p:PW} (h:Inv p) (f:Int):Inv (utP p f):=by
 have hl:(utP p f).IE.length=p.IE.length:=eg;refine⟨⟨by rw[hl];exact h.fits.IE,h.fits.kinds,h.fits.IB,h.fits.IA,h.fits.lines,h.fits.line,h.fits.bits,h.fits.IC,h.fits.ready,h.fits.next,h.fits.ID,h.fits.IF⟩,h.I7,hl.trans h.IE,h.IB,h.IA,h.lines,h.bits,h.key,h.line,h.Jb,fun i x k d hk c=>?_,h.I5⟩;have a:(p.IE.mapIdx (ut1 p.kinds f))[i]? =some x:=d;rw[List.getElem?_mapIdx] at a
 cases e:p.IE[i]? with
 |none=>rw[e] at a;cases a
 |some y=>
  rw[e] at a;have b:=aL a;unfold ut1 at b;split at b
  ·exact .inl b.symm
  ·rw[<-b];exact h.Jz i y k e hk c
theorem AQ {p:PW} {n:Int} (h:oE p n) (c:Nat) (j:c≠17) (f:Int):oE (fgP c p f) n:=by
 have hl:(fgP c p f).IA.length=p.IA.length:=bJ _;have i:∀g∈(fgP c p f).IA,∃a∈p.IA,g 17=a 17∧(g 13=a 13∨g 13= -1):=fun g d=>by
  obtain⟨a,b,rfl⟩:=List.mem_map.1 (show g∈p.IA.map (fg1 c f) from d);refine⟨a,b,?_⟩;unfold fg1;by_cases e:a c=f
  ·rw[ah e];unfold upd;refine⟨ae (fun e=>j e.symm),?_⟩;by_cases e2:13=c
   ·rw[ah e2];exact .inr rfl
   ·rw[ae e2];exact .inl rfl
  ·rw[ae e];exact⟨rfl,.inl rfl⟩
 refine⟨⟨h.fits.IE,h.fits.kinds,h.fits.IB,by rw[hl];exact h.fits.IA,h.fits.lines,h.fits.line,h.fits.bits,h.fits.IC,h.fits.ready,h.fits.next,h.fits.ID,h.fits.IF⟩,h.I7,h.IE,h.IB,hl.trans h.IA,h.lines,h.bits,h.key,fun l k z m=>by rw[hl];exact h.line l k z m,fun g d=>?_,h.Jz,fun g d=>?_⟩
 ·obtain⟨a,b,e, -⟩:=i g d;rw[e,hl];exact h.Jb a b
 ·obtain⟨a,b, -,e|e⟩:=i g d
  ·rw[e];exact h.I5 a b
  ·exact .inl e
theorem Inv.h {p:PW} (h:Inv p) (n:Int):oE p n:=⟨h.fits,h.I7,h.IE,h.IB,h.IA,h.lines,h.bits,h.key,h.line,h.Jb,h.Jz,fun f b=>by
 rcases h.I5 f b with a|a
 ·exact .inl a
 ·exact .inr (.inr a)⟩
theorem ld {p:PW} (h:Inv p) (c:Nat) (a:c≠17) (f:Int):Inv (fgP c p f):=(AQ (h.h (-1)) c a f).full fun _ _ e=>e
theorem wa {p:PW} {n:Int} (h:oE p n):Inv (fgP 13 p n):=(AQ h 13 oD n).full fun g b e=>by
 obtain⟨a,c,rfl⟩:=List.mem_map.1 (show g∈p.IA.map (fg1 13 n) from b);unfold fg1 at e ⊢;by_cases e2:a 13=n
 ·rw[ah e2];exact ah rfl
 ·rw[ae e2] at e;exact absurd e e2
theorem kO {p:PW} {n:Int} (h:oE p n) (t c:Nat) (x:Int) (k:c≠17) (j:c≠13):oE (p.task t c x) n:=by
 have hl:=ap p t c x;have i:∀g∈(p.task t c x).IA,∃a,(a∈p.IA∨a=bl)∧g 17=a 17∧g 13=a 13:=fun g d=>by
  rcases aP (show g∈p.IA.set t (upd (p.IA.getD t bl) c x) from d) with f|f
  ·exact⟨g,.inl f,rfl,rfl⟩
  ·refine⟨p.IA.getD t bl,?_,?_,?_⟩
   ·rw[aa]
    cases e:p.IA[t]? with
    |none=>exact .inr rfl
    |some y=>exact .inl (cV e)
   ·rw[f];exact ae (fun e=>k e.symm)
   ·rw[f];exact ae (fun e=>j e.symm)
 refine⟨⟨h.fits.IE,h.fits.kinds,h.fits.IB,by rw[hl];exact h.fits.IA,h.fits.lines,h.fits.line,h.fits.bits,h.fits.IC,h.fits.ready,h.fits.next,h.fits.ID,h.fits.IF⟩,h.I7,h.IE,h.IB,hl.trans h.IA,h.lines,h.bits,h.key,fun l m z o=>by rw[hl];exact h.line l m z o,fun g d=>?_,h.Jz,fun g d=>?_⟩
 ·obtain⟨a,b,e, -⟩:=i g d;rw[e,hl];rcases b with b|rfl
  ·exact h.Jb a b
  ·exact .inl rfl
 ·obtain⟨a,b, -,e⟩:=i g d;rw[e];rcases b with b|rfl
  ·exact h.I5 a b
  ·exact .inl rfl
theorem AN {n:Int}:∀(l:List Int) (p:PW),oE p n->oE (l.foldl ds1 p) n
 |[],_,h=>h
 |z::l,p,h=>by
  rw[ey];exact AN l (ds1 p z) (kO (kO h z.toNat 9 0 oD oD) z.toNat 14 (-1) oD oD)
theorem rX {p:PW} {n:Int} (h:oE p n) (f:Nat):oE (dsP p f) n:=by
 have a:=AN (p.lines.getD f []) p h;have e:=fV (p.lines.getD f []) p;unfold dsP;generalize (p.lines.getD f []).foldl ds1 p=q at a e;have hk:q.kinds=p.kinds:=by rw[e]
 refine⟨⟨a.fits.IE,a.fits.kinds,a.fits.IB,a.fits.IA,by show (p.lines.set f []).length<=1000;rw[au];exact h.fits.lines,fun l hl=>?_,by show (p.bits.set f 0).length<=1000;rw[au];exact h.fits.bits,a.fits.IC,a.fits.ready,a.fits.next,a.fits.ID,a.fits.IF⟩,a.I7,a.IE,a.IB,a.IA,by show (p.lines.set f []).length=q.kinds.length;rw[au,hk];exact h.lines,by show (p.bits.set f 0).length=q.kinds.length;rw[au,hk];exact h.bits,a.key,fun l hl z c=>?_,a.Jb,a.Jz,a.I5⟩
 ·rcases aP (show l∈p.lines.set f [] from hl) with b|rfl
  ·exact h.fits.line l b
  ·exact bN _
 ·rcases aP (show l∈p.lines.set f [] from hl) with b|rfl
  ·obtain⟨u,g,d⟩:=h.line l b z c;exact⟨u,g,by show u<q.IA.length;rw[a.IA,hk, <-h.IA];exact d⟩
  ·cases c
theorem sk {t:Int} {ls:List (List Int)} {l:List Int} (h:l∈lvs t ls):∃l0∈ls,(∀z∈l,z∈l0)∧l.length<=l0.length:=by
 unfold lvs at h;obtain⟨l0,a,rfl⟩:=List.mem_map.1 h;unfold dM;exact⟨l0,a,fun z b=>(List.mem_filter.1 b).1,dG _ _⟩
theorem Bm {p:PW} {n:Int} (h:oE p n) (t:Nat):oE (stP p t) n:=by
 have hl:(p.IA.map (nOw t)).length=p.IA.length:=bJ _;have j:oE ({p with lines:=lvs t p.lines,ready:=lvs t p.ready,IC:=p.IC.map (noT t),IA:=p.IA.map (nOw t)}:PW) n:=by
  refine⟨⟨h.fits.IE,h.fits.kinds,h.fits.IB,by show (p.IA.map (nOw t)).length<=1000;rw[hl];exact h.fits.IA,by show (lvs t p.lines).length<=1000;rw[iY];exact h.fits.lines,fun l d=>?_,h.fits.bits,by show (p.IC.map (noT t)).length<=1000;rw[bJ];exact h.fits.IC,by show (lvs t p.ready).length<=1000;rw[iY];exact h.fits.ready,fun l d=>?_,h.fits.ID,h.fits.IF⟩,h.I7,h.IE,h.IB,by show (p.IA.map (nOw t)).length=_;rw[hl];exact h.IA,by show (lvs t p.lines).length=_;rw[iY];exact h.lines,h.bits,h.key,fun l d z o=>?_,fun g f=>?_,h.Jz,fun g f=>?_⟩
  ·obtain⟨l0,b, -,c⟩:=sk d;exact aB c (h.fits.line l0 b)
  ·obtain⟨l0,b, -,c⟩:=sk d;exact aB c (h.fits.next l0 b)
  ·obtain⟨l0,b,c, -⟩:=sk d;obtain⟨u,m,k⟩:=h.line l0 b z (c z o);exact⟨u,m,by show u<(p.IA.map (nOw t)).length;rw[hl];exact k⟩
  ·obtain⟨a,b,rfl⟩:=List.mem_map.1 (show g∈p.IA.map (nOw t) from f);show nOw t a 17= -1∨∃u:Nat,nOw t a 17=u∧u<(p.IA.map (nOw t)).length
   rw[hl];unfold nOw;by_cases e:a 17=t
   ·rw[ah e];exact .inl (ah rfl)
   ·rw[ae e];exact h.Jb a b
  ·obtain⟨a,b,rfl⟩:=List.mem_map.1 (show g∈p.IA.map (nOw t) from f);have i:nOw t a 13=a 13:=by
    unfold nOw;by_cases e:a 17=t
    ·rw[ah e];exact ae oD
    ·rw[ae e]
   rw[i];exact h.I5 a b
 exact kO (kO j t 9 0 oD oD) t 14 (-1) oD oD
theorem De {p:PW} {n:Int} (h:oE p n) (t:Nat):oE ({p with IA:=p.IA.set t bl}:PW) n:=by
 have hl:(p.IA.set t bl).length=p.IA.length:=au ..;refine⟨⟨h.fits.IE,h.fits.kinds,h.fits.IB,by show (p.IA.set t bl).length<=1000;rw[hl];exact h.fits.IA,h.fits.lines,h.fits.line,h.fits.bits,h.fits.IC,h.fits.ready,h.fits.next,h.fits.ID,h.fits.IF⟩,h.I7,h.IE,h.IB,hl.trans h.IA,h.lines,h.bits,h.key,fun l c z f=>by
  obtain⟨u,e,d⟩:=h.line l c z f;exact⟨u,e,by show u<(p.IA.set t bl).length;rw[hl];exact d⟩,fun g b=>?_,h.Jz,fun g b=>?_⟩
 ·show g 17= -1∨∃u:Nat,g 17=u∧u<(p.IA.set t bl).length
  rw[hl];rcases aP (show g∈p.IA.set t bl from b) with a|rfl
  ·exact h.Jb g a
  ·exact .inl rfl
 ·rcases aP (show g∈p.IA.set t bl from b) with a|rfl
  ·exact h.I5 g a
  ·exact .inl rfl
theorem AO {p:PW} (h:Inv p) (t:Nat):Inv (etP p t):=by
 have a:oE (if p.IA.getD t bl 17= -1 then stP p t else (stP p t).task (p.IA.getD t bl 17).toNat 9 0) (-1):=by
  split
  ·exact Bm (h.h (-1)) t
  ·exact kO (Bm (h.h (-1)) t) _ 9 0 oD oD
 exact (De a t).full fun _ _ e=>e
theorem kC (p:PW) (t:Nat):(etP p t).kinds=p.kinds:=by
 unfold etP;split<;>rfl
theorem iV (p:PW) (f:Nat):(dsP p f).kinds=p.kinds:=by
 have e:=fV (p.lines.getD f []) p;show ((p.lines.getD f []).foldl ds1 p).kinds=p.kinds
 rw[e]
theorem kY:∀(l:List Int) (f:Nat),(l.set f 0).count 5<=l.count 5∧(l[f]? =some 5->(l.set f 0).count 5+1=l.count 5)
 |[],f=>⟨aq _,fun h=>by simp at h⟩
 |x::l,0=>by
  rw[List.set_cons_zero,List.count_cons,List.count_cons];refine⟨oS,fun h=>?_⟩;have:x=5:=by simpa using h
  rw[this];simp
 |x::l,f+1=>by
  obtain⟨b,a⟩:=kY l f;rw[List.set_cons_succ,List.count_cons,List.count_cons];refine⟨oA,fun h=>?_⟩;have:=a (by simpa using h);omega
theorem vN {m:Nat} {dr:PW->Nat->PW} {f:Nat} (c:∀p s,nds p<m->Inv p->s<p.IB.length->(p.IB.getD s eS) 0≠0->Inv (dr p s)∧nds (dr p s)<=nds p∧(dr p s).kinds.length=p.kinds.length):∀(a:Nat) (p:PW),nds p<m->Inv p->f*16+a<=p.IB.length->Inv (daF dr f a p)∧nds (daF dr f a p)<=nds p∧(daF dr f a p).kinds.length=p.kinds.length
 |0,p,_,h,_=>by
  rw[im];exact⟨h,aq _,rfl⟩
 |a+1,p,hn,h,hl=>by
  rw[il];by_cases b:(p.IB.getD (f*16+a) eS) 0=0
  ·rw[ah b];exact vN c a p hn h oA
  ·rw[ae b];obtain⟨d,i,e⟩:=c p (f*16+a) hn h oA b;have l:(dr p (f*16+a)).IB.length=p.IB.length:=by rw[d.IB,e,h.IB]
   obtain⟨g,j,k⟩:=vN (m:=m) (f:=f) c a (dr p (f*16+a)) oA d oA;exact⟨g,oA,oA⟩
theorem Am {p:PW} {s:Nat} (a:s<p.IB.length):p.IB.getD s eS∈p.IB:=by
 rw[aa,ac a];exact av a
theorem wX {p:PW} (h:Inv p) {s:Nat} (i:s<p.IB.length) (a:(p.IB.getD s eS) 0≠0) (c:¬(p.IB.getD s eS) 0=1):∃b:Nat,(p.IB.getD s eS) 1=b∧p.kinds[b]? =some ((p.IB.getD s eS) 0)∧2<=(p.IB.getD s eS) 0∧(p.IB.getD s eS) 0<=8:=by
 rcases h.key _ (Am i) with e|e|⟨d,f,b,g,hk⟩
 ·exact absurd e a
 ·exact absurd e c
 ·exact⟨b,g,hk,d,f⟩
theorem AY {m:Nat} {dr:PW->Nat->PW} (i:∀p s,nds p<m->Inv p->s<p.IB.length->(p.IB.getD s eS) 0≠0->Inv (dr p s)∧nds (dr p s)<=nds p∧(dr p s).kinds.length=p.kinds.length) {p:PW} (h:Inv p) (n:nds p<m+1) {k:Int} {f:Nat} (hk:p.kinds[f]? =some k) (b:i5 p k f=false):Inv (lsF dr p k f)∧nds (lsF dr p k f)<=nds p∧(lsF dr p k f).kinds.length=p.kinds.length:=by
 have hl:(nkP p f).kinds.length=p.kinds.length:=au ..;have d:=kY p.kinds f;have a:=d.1;unfold lsF;by_cases c:k=2∨k=3
 ·rw[ah c];exact⟨Bq (hP h hk b oA) f,a,hl⟩
 rw[ae c];by_cases e4:k=4
 ·rw[ah e4];exact⟨ld (hP h hk b oA) 12 oD f,a,hl⟩
 rw[ae e4];by_cases e5:k=5
 ·rw[ah e5];have hi:=ld (hP h hk b oA) 11 oD (f:Int);have j:nds (nkP p f)+1=nds p:=d.2 (by rw[hk,e5]);have l:f<p.kinds.length:=(List.getElem?_eq_some_iff.1 hk).1;obtain⟨a1,e,g⟩:=vN (m:=m) (f:=f) i 16 (fgP 11 (nkP p f) f) (by show nds (nkP p f)<m;omega) hi (by show f*16+16<=p.IB.length;have:=h.IB;omega);exact⟨a1,aB e a,g.trans hl⟩
 rw[ae e5];by_cases e6:k=6
 ·rw[ah e6];refine⟨AO (hP h hk b oA) f,?_,?_⟩
  ·show (etP (nkP p f) f).kinds.count 5<=_;rw[kC];exact a
  ·rw[kC];exact hl
 rw[ae e6];refine⟨wa (rX (lJ h hk b) f),?_,?_⟩
 ·show (dsP (nkP p f) f).kinds.count 5<=_;rw[iV];exact a
 ·show (dsP (nkP p f) f).kinds.length=_;rw[iV];exact hl
theorem AM:∀(m:Nat) (p:PW) (s:Nat),nds p<m->Inv p->s<p.IB.length->(p.IB.getD s eS) 0≠0->Inv (drF m p s)∧nds (drF m p s)<=nds p∧(drF m p s).kinds.length=p.kinds.length
 |0,p,_,hn,_,_,_=>absurd hn (fh _)
 |m+1,p,s,hn,h,hs,h0=>by
  unfold drF;by_cases a:(p.IB.getD s eS) 0=1∨i5 (drA p s) ((p.IB.getD s eS) 0) ((p.IB.getD s eS) 1)=true
  ·rw[ah a];exact⟨jX h s,aq _,rfl⟩
  ·rw[ae a];obtain⟨b,c,hk, -, -⟩:=wX h hs h0 (fun e=>a (.inl e));rw[c,af];have d:i5 (drA p s) ((p.IB.getD s eS) 0) b=false:=by
    cases e:i5 (drA p s) ((p.IB.getD s eS) 0) b with
    |false=>rfl
    |true=>exact absurd (.inr (by rw[c];exact e)) a
   exact AY (m:=m) (AM m) (jX h s) hn hk d
theorem FL {W:World} {wb:Nat} {tag:Nat->Nat} {V:Nat->Value} {p:PW} (h:di W wb tag V p) (x:Nat):di W wb (fX tag W.heap.size x) V p∧Kt tag (fX tag W.heap.size x) W W:=
 ⟨h.kp (T:=fun _=>False) (aV _ _) (fun _ _ e=>e.elim) (fun _ hk=>dw hk),Kt.of (T:=fun _=>False) (aV _ _) (fun _ e=>e.elim) (fun _ hk=>dw hk)⟩
theorem ia {p:PW} {s:Nat} (a:s<p.IB.length):p.IB.getD s eS=p.IB[s]:=by rw[aa,ac a];rfl
theorem di.JE {W:World} {wb:Nat} {tag:Nat->Nat} {V:Nat->Value} {p:PW} (h:di W wb tag V p) {g cap:Nat} (e:V 2=.slice (some ⟨g,0,none⟩) p.IB.length cap) {i:Nat} (hi:i<p.IB.length):W.cell? ⟨g,i*7,none⟩=some (.int .i64 ((p.IB.getD i eS) 0)):=by
 have a:=h.IU e hi (show 0<7 by omega);rw[bO] at a;rw[ia hi];exact a
theorem AU:(Tryz.prog.info? 78).map (·.size)=some 6:=oK
theorem F8 {ops:Array Oper} {rest:List Oper} {op:Oper} {a:Act} {w:World} {Q:Exit->Act->World->Prop} (d:op.guard=none) (x y:Operand) (e:op.op=.store 78 x y)
  (b o:Nat) (g:a.eval x=.pointer (some ⟨b,o,none⟩)) (cs:List Value) (i:a.eval y=.agg cs.toArray) (hl:cs.length=6) (c:∀v∈cs,v.oneCell'=true) (f:w.there b o 6)
  (h:wpList Tryz.prog ops Q rest (a.put op.dst undef) (w.setCells b o cs)):wpList Tryz.prog ops Q (op::rest) a w:=
 wpList_store_mid d 78 x y e b o cs.toArray g i (by simpa [hl] using f) (by rw[AU];simp[hl]) (all_oneCell_toArray c) (by simpa using h)
theorem F6 {ops:Array Oper} {rest:List Oper} {op:Oper} {a:Act} {w:World} {Q:Exit->Act->World->Prop} (d:op.guard=none) (x:Operand) (e:op.op=.load 78 x)
  (b o:Nat) (f:a.eval x=.pointer (some ⟨b,o,none⟩)) (cs:List Value) (hl:cs.length=6) (c:w.rangeAt b o cs)
  (h:wpList Tryz.prog ops Q rest (a.put op.dst (.agg cs.toArray)) w):wpList Tryz.prog ops Q (op::rest) a w:=
 wpList_load_mid d 78 x e b o f cs _ c Tryz.underlying78 rfl (by rw[AU,hl]) h
theorem Df {W:World} {b o:Nat} {f:Nat->Int} (h:W.rangeAt b o (cf 7 f)):W.rangeAt b o (cf 6 f):=fun j v a=>h j v (by
 have c:j<6:=by
  have:=(List.getElem?_eq_some_iff.1 a).1
  rwa [az] at this
 rw[dm 6 f j c] at a;rw[dm 7 f j oA];exact a)
theorem di.Jo {W:World} {wb:Nat} {tag:Nat->Nat} {V:Nat->Value} {p:PW} (h:di W wb tag V p) {g cap:Nat} (e:V 2=.slice (some ⟨g,0,none⟩) p.IB.length cap) (o m:Nat) (b:o+m<=p.IB.length*7):W.there g o m:=by
 have a:=h.o.IB;rw[e] at a;exact a.there o m b
