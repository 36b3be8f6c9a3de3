/- Qal -/
import Derived.Deep.RegionHeld3
import Derived.BigQuiet
import Derived.Test.YtaejnmmpddbbjaaGreatDoorQak
set_option maxRecDepth 100000
set_option maxHeartbeats 16000000
namespace Go.Proofs.YtaejnmmpddbbjaaGreatDoor
namespace Mmu
open Go.RowKit Mem Bw Nums
end Mmu
namespace Wd
open Go.RowKit Mem Bw Nums Mmu
def il (p:PW) (k g:Int):Bool:=p.DZ.any (fun f=>f 0==k&&f 1==g)
def fg1 (c:Nat) (f:Int) (g:Nat->Int):Nat->Int:=if g c=f then upd g c (-1) else g
def fgP (c:Nat) (p:PW) (f:Int):PW:={p with DY:=p.DY.map (fg1 c f)}
def idK (F:Nat->Int->Int) (k:Nat) (l:List Int):List Int:=(l.mapIdx F).take k++l.drop k
theorem nf (F:Nat->Int->Int) (k:Nat) (l:List Int):(idK F k l).length=l.length:=by
 unfold idK;rw[av,bI,dD,dC];omega
theorem wa (F:Nat->Int->Int) (l:List Int):idK F 0 l=l:=by simp[idK]
theorem yN (F:Nat->Int->Int) (l:List Int):idK F l.length l=l.mapIdx F:=by
 unfold idK;rw[List.drop_length,du,List.take_of_length_le (by rw[dC];exact ar _)]
theorem pT (F:Nat->Int->Int) (k:Nat) (l:List Int) (i:Nat):(idK F k l)[i]? =if i<k then (l[i]?).map (F i) else l[i]? :=by
 unfold idK;by_cases hi:i<k
 ·rw[af hi];by_cases hl:i<l.length
  ·rw[List.getElem?_append_left (by rw[bI,dC];omega),List.getElem?_take,af hi,List.getElem?_mapIdx]
  ·rw[dc (by rw[bI,dC];omega),bI,dC,cW,aF oA,aF oA];rfl
 ·rw[ae hi,dc (by rw[bI,dC];omega),bI,dC,cW];by_cases hl:k<=l.length
  ·rw[show k+(i - min k l.length)=i by omega]
  ·rw[aF oA,aF oA]
theorem xF {F:Nat->Int->Int} {k:Nat} {l:List Int} (hk:k<l.length) (h:k<(idK F k l).length):(idK F k l)[k]=l[k]:=by
 have a:=pT F k l k;rw[ae oA,ac hk,ac h] at a;exact aH a
theorem qO {F:Nat->Int->Int} {k:Nat} {l:List Int} (hk:k<l.length):idK F (k+1) l=(idK F k l).set k (F k l[k]):=by
 apply List.ext_getElem?;intro i;rw[pT,List.getElem?_set,pT];by_cases h:k=i
 ·subst h;rw[af oA,af rfl,af (by rw[nf];exact hk),ac hk];rfl
 ·rw[ae h];by_cases a:i<k
  ·rw[af oA,af a]
  ·rw[ae oA,ae a]
theorem v9 {F:Nat->Int->Int} {k:Nat} {l:List Int} (hk:k<l.length) (hF:F k l[k]=l[k]):idK F (k+1) l=idK F k l:=by
 have hl:k<(idK F k l).length:=by rw[nf];exact hk
 rw[qO hk,hF, <-xF (F:=F) hk hl,cw]
def ut1 (ks:List Int) (f:Int) (i:Nat) (x:Int):Int:=if (ks.getD (i/16) 0=3∨ks.getD (i/16) 0=4)∧(x=32768+f∨x=49152+f) then 0 else x
def utP (p:PW) (f:Int):PW:={p with Eb:=p.Eb.mapIdx (ut1 p.kinds f)}
theorem cb.Fs {W:World} {wb:Nat} {tag:Nat->Nat} {V:Nat->Value} {p:PW} (h:cb W wb tag V p) {g cap:Nat} (e:V 0=.slice (some ⟨g,0,none⟩) p.Eb.length cap) {i:Nat} (hi:i<p.Eb.length):W.cell? ⟨g,i,none⟩=some (.int .i64 p.Eb[i]):=by
 have a:=h.o.Eb;rw[e] at a;exact a.int hi
theorem cb.FQ {W:World} {wb:Nat} {tag:Nat->Nat} {V:Nat->Value} {p:PW} (h:cb W wb tag V p) {g cap:Nat} (e:V 0=.slice (some ⟨g,0,none⟩) p.Eb.length cap) (o:Nat):W.frozen? ⟨g,o,none⟩=false:=by
 have a:=h.o.Eb;rw[e] at a;exact a.frozen o
theorem cb.El {W:World} {wb:Nat} {tag:Nat->Nat} {V:Nat->Value} {p:PW} (h:cb W wb tag V p) {g cap:Nat} (e:V 1=.slice (some ⟨g,0,none⟩) p.kinds.length cap) {i:Nat} (hi:i<p.kinds.length):W.cell? ⟨g,i,none⟩=some (.int .i64 p.kinds[i]):=by
 have a:=h.o.kinds;rw[e] at a;exact a.int hi
theorem cb.Et {W:World} {wb:Nat} {tag:Nat->Nat} {V:Nat->Value} {p:PW} (h:cb W wb tag V p) {g cap:Nat} (e:V 1=.slice (some ⟨g,0,none⟩) p.kinds.length cap) (o:Nat):W.frozen? ⟨g,o,none⟩=false:=by
 have a:=h.o.kinds;rw[e] at a;exact a.frozen o
theorem i7:(Tryz.prog.info? 45).map (·.size)=some 20:=oK
def etP (p:PW) (t:Nat):PW:={(if p.DY.getD t bl 17= -1 then stP p t else (stP p t).task (p.DY.getD t bl 17).toNat 9 0) with DY:=(if p.DY.getD t bl 17= -1 then stP p t else (stP p t).task (p.DY.getD t bl 17).toNat 9 0).DY.set t bl}
theorem Cb (p:PW) (t:Nat):(stP p t).DY.length=p.DY.length:=by
 show ((PW.task (PW.task _ t 9 0) t 14 (-1))).DY.length=_
 rw[am,am];exact bL _
theorem cb.EI {W:World} {wb:Nat} {tag:Nat->Nat} {V:Nat->Value} {p:PW} (h:cb W wb tag V p) {g cap:Nat} (e:V 3=.slice (some ⟨g,0,none⟩) p.DY.length cap) (o m:Nat) (b:o+m<=p.DY.length*20):W.there g o m:=by
 have a:=h.o.DY;rw[e] at a;exact a.there o m b
def ds1 (p:PW) (z:Int):PW:=(p.task z.toNat 9 0).task z.toNat 14 (-1)
def dsP (p:PW) (f:Nat):PW:={(p.lines.getD f []).foldl ds1 p with lines:=p.lines.set f [],bits:=p.bits.set f 0}
theorem yB (p:PW) (z:Int):(ds1 p z).DY.length=p.DY.length:=by unfold ds1;rw[am,am]
theorem tv:∀(l:List Int) (p:PW),(l.foldl ds1 p).DY.length=p.DY.length
 |[],_=>rfl
 |z::l,p=>by rw[dL,tv l,yB]
theorem fm:∀(l:List Int) (p:PW),l.foldl ds1 p={p with DY:=(l.foldl ds1 p).DY}
 |[],_=>rfl
 |z::l,p=>by
  rw[dL,fm l (ds1 p z)];rfl
theorem tw (l:List Int) (k:Nat) (hk:k<l.length) (p:PW):(l.take (k+1)).foldl ds1 p=ds1 ((l.take k).foldl ds1 p) l[k]:=by
 rw[bu hk,List.foldl_append];rfl
theorem cb.Fi {W:World} {wb:Nat} {tag:Nat->Nat} {V:Nat->Value} {p:PW} (h:cb W wb tag V p) {g:Nat} (e:V 4=.slice (some ⟨g,0,none⟩) p.lines.length p.lines.length) {j:Nat} (d:j<p.lines.length):
  cb (W.setCell ⟨g,j,none⟩ (.slice none 0 0)) wb tag V {p with lines:=p.lines.set j []}∧Kt tag tag W (W.setCell ⟨g,j,none⟩ (.slice none 0 0)):=by
 have a:=h.o.lines;rw[e] at a;obtain⟨f,b⟩:=a.put d (by intro i;omega) (aP _ W) (fun _ _=>rfl) (u:=.slice none 0 0) (c:=(0,[])) ⟨⟨rfl,.inl ⟨rfl,rfl⟩⟩,fun k hk=>by cases hk⟩;refine⟨h.lines b (fun _ _=>rfl) ?_,.of b (fun k e=>by rcases e with e|⟨i,e⟩<;>omega) (fun _ _=>rfl)⟩;rw[au,e,jq p.lines j d []];exact f
theorem cb.Fk {W:World} {wb:Nat} {tag:Nat->Nat} {V:Nat->Value} {p:PW} (h:cb W wb tag V p) {g cap:Nat} (e:V 5=.slice (some ⟨g,0,none⟩) p.bits.length cap) (o:Nat):W.frozen? ⟨g,o,none⟩=false:=by
 have a:=h.o.bits;rw[e] at a;exact a.frozen o
theorem cb.Fh {W:World} {wb:Nat} {tag:Nat->Nat} {V:Nat->Value} {p:PW} (h:cb W wb tag V p) {g cap:Nat} (e:V 5=.slice (some ⟨g,0,none⟩) p.bits.length cap) {i:Nat} (hi:i<p.bits.length):W.cell? ⟨g,i,none⟩=some (.int .i64 p.bits[i]):=by
 have a:=h.o.bits;rw[e] at a;exact a.int hi
def drA (p:PW) (s:Nat):PW:={p with DZ:=hnd s ((p.DZ.getD s eS) 6) (p.DZ.set s eS)}
def daF (dr:PW->Nat->PW) (f:Nat) (a:Nat) (p:PW):PW:=if h:a=0 then p else daF dr f (a - 1) (if (p.DZ.getD (f*16+(a - 1)) eS) 0=0 then p else dr p (f*16+(a - 1)))
theorem gI (dr:PW->Nat->PW) (f:Nat) (p:PW):daF dr f 0 p=p:=by rw[daF,dif_pos rfl]
theorem gH (dr:PW->Nat->PW) (f a:Nat) (p:PW):daF dr f (a+1) p=daF dr f a (if (p.DZ.getD (f*16+a) eS) 0=0 then p else dr p (f*16+a)):=by rw[daF,dif_neg (Nat.succ_ne_zero a),Nat.add_sub_cancel]
def nkP (p:PW) (f:Nat):PW:={p with kinds:=p.kinds.set f 0}
def lsF (dr:PW->Nat->PW) (p:PW) (k:Int) (f:Nat):PW:=
 if k=2∨k=3 then utP (nkP p f) f else if k=4 then fgP 12 (nkP p f) f else if k=5 then daF dr f 16 (fgP 11 (nkP p f) f) else if k=6 then etP (nkP p f) f else fgP 13 (dsP (nkP p f) f) f
def drF:Nat->PW->Nat->PW
 |0,p,_=>p
 |m+1,p,s=>if (p.DZ.getD s eS) 0=1∨il (drA p s) ((p.DZ.getD s eS) 0) ((p.DZ.getD s eS) 1)=true then drA p s else lsF (drF m) (drA p s) ((p.DZ.getD s eS) 0) ((p.DZ.getD s eS) 1).toNat
def nds (p:PW):Nat:=p.kinds.count 5
structure Inv (p:PW):Prop where
 fits:p.Fits
 Ez:p.kinds.length<=24
 Eb:p.Eb.length=p.kinds.length*16
 DZ:p.DZ.length=p.kinds.length*16
 DY:p.DY.length=p.kinds.length
 lines:p.lines.length=p.kinds.length
 bits:p.bits.length=p.kinds.length
 key:∀f∈p.DZ,f 0=0∨f 0=1∨(2<=f 0∧f 0<=8∧∃b:Nat,f 1=b∧p.kinds[b]? =some (f 0))
 line:∀l∈p.lines,∀z∈l,∃u:Nat,z=u∧u<p.DY.length
 EG:∀f∈p.DY,f 17= -1∨∃u:Nat,f 17=u∧u<p.DY.length
 Fl:∀(i:Nat) (x k:Int),p.Eb[i]? =some x->p.kinds[i/16]? =some k->(k=3∨k=4)->x=0∨∃f:Nat,f<1024∧(x=32768+f∨x=49152+f)
 Ey:∀f∈p.DY,f 13= -1∨∃u:Nat,f 13=u∧p.kinds[u]? =some 7
theorem yM {a b:Int} {fs:List (Nat->Int)} {g:Nat->Int} (h:g∈hnd a b fs):∃f∈fs,g 0=f 0∧g 1=f 1:=by
 unfold hnd at h;obtain⟨f,d,rfl⟩:=List.mem_map.1 h;refine⟨f,d,?_⟩;unfold l6;by_cases c:f 6=a
 ·rw[af c];exact⟨rfl,rfl⟩
 ·rw[ae c];exact⟨rfl,rfl⟩
theorem lh (a b:Int) (fs:List (Nat->Int)):(hnd a b fs).length=fs.length:=bL _
theorem ja {p:PW} (h:Inv p) (s:Nat):Inv (drA p s):=by
 have hl:(drA p s).DZ.length=p.DZ.length:=by
  show (hnd _ _ (p.DZ.set s eS)).length=_
  rw[lh,au]
 exact⟨⟨h.fits.Eb,h.fits.kinds,by rw[hl];exact h.fits.DZ,h.fits.DY,h.fits.lines,h.fits.line,h.fits.bits,h.fits.D6,h.fits.ready,h.fits.next,h.fits.D9,h.fits.Ee⟩,h.Ez,h.Eb,hl.trans h.DZ,h.DY,h.lines,h.bits,fun g d=>by
  obtain⟨f,a,b,c⟩:=yM d;rw[b,c];rcases ba a with a|rfl
  ·exact h.key f a
  ·exact .inl rfl,h.line,h.EG,h.Fl,h.Ey⟩
theorem uK {p:PW} {k g:Int} (h:il p k g=false):∀f∈p.DZ,¬(f 0=k∧f 1=g):=fun f a e=>by
 unfold il at h;rw[bS] at h;exact h f a (by simp[e.1,e.2])
structure mO (p:PW) (n:Int):Prop where
 fits:p.Fits
 Ez:p.kinds.length<=24
 Eb:p.Eb.length=p.kinds.length*16
 DZ:p.DZ.length=p.kinds.length*16
 DY:p.DY.length=p.kinds.length
 lines:p.lines.length=p.kinds.length
 bits:p.bits.length=p.kinds.length
 key:∀f∈p.DZ,f 0=0∨f 0=1∨(2<=f 0∧f 0<=8∧∃b:Nat,f 1=b∧p.kinds[b]? =some (f 0))
 line:∀l∈p.lines,∀z∈l,∃u:Nat,z=u∧u<p.DY.length
 EG:∀f∈p.DY,f 17= -1∨∃u:Nat,f 17=u∧u<p.DY.length
 Fl:∀(i:Nat) (x k:Int),p.Eb[i]? =some x->p.kinds[i/16]? =some k->(k=3∨k=4)->x=0∨∃f:Nat,f<1024∧(x=32768+f∨x=49152+f)
 Ey:∀f∈p.DY,f 13= -1∨f 13=n∨∃u:Nat,f 13=u∧p.kinds[u]? =some 7
theorem uw {p:PW} {f b:Nat} {k:Int} (h:(nkP p f).kinds[b]? =some k) (hk:k≠0):p.kinds[b]? =some k∧b≠f:=by
 have a:(p.kinds.set f 0)[b]? =some k:=h;rw[List.getElem?_set] at a;by_cases e:f=b
 ·rw[af e] at a;by_cases hl:b<p.kinds.length
  ·rw[af oA] at a;exact absurd (aH a).symm hk
  ·rw[ae oA] at a;cases a
 ·rw[ae e] at a;exact⟨a,fun e2=>e e2.symm⟩
theorem uy {p:PW} {f b:Nat} {k:Int} (h:p.kinds[b]? =some k) (a:b≠f):(nkP p f).kinds[b]? =some k:=by
 show (p.kinds.set f 0)[b]? =some k
 rw[cF (fun e=>a e.symm)];exact h
theorem kx {p:PW} (h:Inv p) {f:Nat} {k:Int} (hk:p.kinds[f]? =some k) (t:il p k f=false):mO (nkP p f) f:=by
 have hl:(nkP p f).kinds.length=p.kinds.length:=au ..;refine⟨⟨h.fits.Eb,by rw[hl];exact h.fits.kinds,h.fits.DZ,h.fits.DY,h.fits.lines,h.fits.line,h.fits.bits,h.fits.D6,h.fits.ready,h.fits.next,h.fits.D9,h.fits.Ee⟩,by rw[hl];exact h.Ez,by rw[hl];exact h.Eb,by rw[hl];exact h.DZ,by rw[hl];exact h.DY,by rw[hl];exact h.lines,by rw[hl];exact h.bits,fun g a=>?_,h.line,h.EG,fun i x k2 v r o=>?_,fun g a=>?_⟩
 ·rcases h.key g a with m|c|⟨n,q,b,j,d⟩
  ·exact .inl m
  ·exact .inr (.inl c)
  ·refine .inr (.inr ⟨n,q,b,j,uy d ?_⟩);rintro rfl;rw[hk] at d;exact uK t g a ⟨(aH d).symm,j⟩
 ·exact h.Fl i x k2 v (uw r oA).1 o
 ·rcases h.Ey g a with c|⟨u,l,s⟩
  ·exact .inl c
  ·by_cases e:u=f
   ·exact .inr (.inl (by rw[l,e]))
   ·exact .inr (.inr ⟨u,l,uy s e⟩)
theorem mO.full {p:PW} {n:Int} (h:mO p n) (hh:∀f∈p.DY,f 13=n->f 13= -1):Inv p:=⟨h.fits,h.Ez,h.Eb,h.DZ,h.DY,h.lines,h.bits,h.key,h.line,h.EG,h.Fl,fun f b=>by
 rcases h.Ey f b with a|a|a
 ·exact .inl a
 ·exact .inl (hh f b a)
 ·exact .inr a⟩
theorem gw {p:PW} (h:Inv p) {f:Nat} {k:Int} (hk:p.kinds[f]? =some k) (i:il p k f=false) (c:k≠7):Inv (nkP p f):=
 (kx h hk i).full fun g d e=>by
  rcases h.Ey g d with b|⟨u,j,a⟩
  ·exact b
  ·have:u=f:=oA;subst this;rw[hk] at a;exact absurd (aH a) c
theorem ye {p:PW} (h:Inv p) (f:Int):Inv (utP p f):=by
 have hl:(utP p f).Eb.length=p.Eb.length:=dC;refine⟨⟨by rw[hl];exact h.fits.Eb,h.fits.kinds,h.fits.DZ,h.fits.DY,h.fits.lines,h.fits.line,h.fits.bits,h.fits.D6,h.fits.ready,h.fits.next,h.fits.D9,h.fits.Ee⟩,h.Ez,hl.trans h.Eb,h.DZ,h.DY,h.lines,h.bits,h.key,h.line,h.EG,fun i x k d hk c=>?_,h.Ey⟩;have a:(p.Eb.mapIdx (ut1 p.kinds f))[i]? =some x:=d;rw[List.getElem?_mapIdx] at a
 cases e:p.Eb[i]? with
 |none=>rw[e] at a;cases a
 |some y=>
  rw[e] at a;have b:=aH a;unfold ut1 at b;split at b
  ·exact .inl b.symm
  ·rw[<-b];exact h.Fl i y k e hk c
theorem xC {p:PW} {n:Int} (h:mO p n) (c:Nat) (j:c≠17) (f:Int):mO (fgP c p f) n:=by
 have hl:(fgP c p f).DY.length=p.DY.length:=bL _;have i:∀g∈(fgP c p f).DY,∃a∈p.DY,g 17=a 17∧(g 13=a 13∨g 13= -1):=fun g d=>by
  obtain⟨a,b,rfl⟩:=List.mem_map.1 (show g∈p.DY.map (fg1 c f) from d);refine⟨a,b,?_⟩;unfold fg1;by_cases e:a c=f
  ·rw[af e];unfold upd;refine⟨ae (fun e=>j e.symm),?_⟩;by_cases e2:13=c
   ·rw[af e2];exact .inr rfl
   ·rw[ae e2];exact .inl rfl
  ·rw[ae e];exact⟨rfl,.inl rfl⟩
 refine⟨⟨h.fits.Eb,h.fits.kinds,h.fits.DZ,by rw[hl];exact h.fits.DY,h.fits.lines,h.fits.line,h.fits.bits,h.fits.D6,h.fits.ready,h.fits.next,h.fits.D9,h.fits.Ee⟩,h.Ez,h.Eb,h.DZ,hl.trans h.DY,h.lines,h.bits,h.key,fun l k z m=>by rw[hl];exact h.line l k z m,fun g d=>?_,h.Fl,fun g d=>?_⟩
 ·obtain⟨a,b,e, -⟩:=i g d;rw[e,hl];exact h.EG a b
 ·obtain⟨a,b, -,e|e⟩:=i g d
  ·rw[e];exact h.Ey a b
  ·exact .inl e
theorem Inv.h {p:PW} (h:Inv p) (n:Int):mO p n:=⟨h.fits,h.Ez,h.Eb,h.DZ,h.DY,h.lines,h.bits,h.key,h.line,h.EG,h.Fl,fun f b=>by
 rcases h.Ey f b with a|a
 ·exact .inl a
 ·exact .inr (.inr a)⟩
theorem jU {p:PW} (h:Inv p) (c:Nat) (a:c≠17) (f:Int):Inv (fgP c p f):=(xC (h.h (-1)) c a f).full fun _ _ e=>e
theorem tD {p:PW} {n:Int} (h:mO p n):Inv (fgP 13 p n):=(xC h 13 oD n).full fun g b e=>by
 obtain⟨a,c,rfl⟩:=List.mem_map.1 (show g∈p.DY.map (fg1 13 n) from b);unfold fg1 at e ⊢;by_cases e2:a 13=n
 ·rw[af e2];exact af rfl
 ·rw[ae e2] at e;exact absurd e e2
theorem jI {p:PW} {n:Int} (h:mO p n) (t c:Nat) (x:Int) (k:c≠17) (j:c≠13):mO (p.task t c x) n:=by
 have hl:=am p t c x;have i:∀g∈(p.task t c x).DY,∃a,(a∈p.DY∨a=bl)∧g 17=a 17∧g 13=a 13:=fun g d=>by
  rcases ba (show g∈p.DY.set t (upd (p.DY.getD t bl) c x) from d) with f|f
  ·exact⟨g,.inl f,rfl,rfl⟩
  ·refine⟨p.DY.getD t bl,?_,?_,?_⟩
   ·rw[aa]
    cases e:p.DY[t]? with
    |none=>exact .inr rfl
    |some y=>exact .inl (dG e)
   ·rw[f];exact ae (fun e=>k e.symm)
   ·rw[f];exact ae (fun e=>j e.symm)
 refine⟨⟨h.fits.Eb,h.fits.kinds,h.fits.DZ,by rw[hl];exact h.fits.DY,h.fits.lines,h.fits.line,h.fits.bits,h.fits.D6,h.fits.ready,h.fits.next,h.fits.D9,h.fits.Ee⟩,h.Ez,h.Eb,h.DZ,hl.trans h.DY,h.lines,h.bits,h.key,fun l m z o=>by rw[hl];exact h.line l m z o,fun g d=>?_,h.Fl,fun g d=>?_⟩
 ·obtain⟨a,b,e, -⟩:=i g d;rw[e,hl];rcases b with b|rfl
  ·exact h.EG a b
  ·exact .inl rfl
 ·obtain⟨a,b, -,e⟩:=i g d;rw[e];rcases b with b|rfl
  ·exact h.Ey a b
  ·exact .inl rfl
theorem xy {n:Int}:∀(l:List Int) (p:PW),mO p n->mO (l.foldl ds1 p) n
 |[],_,h=>h
 |z::l,p,h=>by
  rw[dL];exact xy l (ds1 p z) (jI (jI h z.toNat 9 0 oD oD) z.toNat 14 (-1) oD oD)
theorem pJ {p:PW} {n:Int} (h:mO p n) (f:Nat):mO (dsP p f) n:=by
 have a:=xy (p.lines.getD f []) p h;have e:=fm (p.lines.getD f []) p;unfold dsP;generalize (p.lines.getD f []).foldl ds1 p=q at a e;have hk:q.kinds=p.kinds:=by rw[e]
 refine⟨⟨a.fits.Eb,a.fits.kinds,a.fits.DZ,a.fits.DY,by show (p.lines.set f []).length<=1000;rw[au];exact h.fits.lines,fun l hl=>?_,by show (p.bits.set f 0).length<=1000;rw[au];exact h.fits.bits,a.fits.D6,a.fits.ready,a.fits.next,a.fits.D9,a.fits.Ee⟩,a.Ez,a.Eb,a.DZ,a.DY,by show (p.lines.set f []).length=q.kinds.length;rw[au,hk];exact h.lines,by show (p.bits.set f 0).length=q.kinds.length;rw[au,hk];exact h.bits,a.key,fun l hl z c=>?_,a.EG,a.Fl,a.Ey⟩
 ·rcases ba (show l∈p.lines.set f [] from hl) with b|rfl
  ·exact h.fits.line l b
  ·exact bF _
 ·rcases ba (show l∈p.lines.set f [] from hl) with b|rfl
  ·obtain⟨u,g,d⟩:=h.line l b z c;exact⟨u,g,by show u<q.DY.length;rw[a.DY,hk, <-h.DY];exact d⟩
  ·cases c
theorem pX {t:Int} {ls:List (List Int)} {l:List Int} (h:l∈lvs t ls):∃l0∈ls,(∀z∈l,z∈l0)∧l.length<=l0.length:=by
 unfold lvs at h;obtain⟨l0,a,rfl⟩:=List.mem_map.1 h;unfold en;exact⟨l0,a,fun z b=>(List.mem_filter.1 b).1,dz _ _⟩
theorem xZ {p:PW} {n:Int} (h:mO p n) (t:Nat):mO (stP p t) n:=by
 have hl:(p.DY.map (nOw t)).length=p.DY.length:=bL _;have j:mO ({p with lines:=lvs t p.lines,ready:=lvs t p.ready,D6:=p.D6.map (noT t),DY:=p.DY.map (nOw t)}:PW) n:=by
  refine⟨⟨h.fits.Eb,h.fits.kinds,h.fits.DZ,by show (p.DY.map (nOw t)).length<=1000;rw[hl];exact h.fits.DY,by show (lvs t p.lines).length<=1000;rw[lx];exact h.fits.lines,fun l d=>?_,h.fits.bits,by show (p.D6.map (noT t)).length<=1000;rw[bL];exact h.fits.D6,by show (lvs t p.ready).length<=1000;rw[lx];exact h.fits.ready,fun l d=>?_,h.fits.D9,h.fits.Ee⟩,h.Ez,h.Eb,h.DZ,by show (p.DY.map (nOw t)).length=_;rw[hl];exact h.DY,by show (lvs t p.lines).length=_;rw[lx];exact h.lines,h.bits,h.key,fun l d z o=>?_,fun g f=>?_,h.Fl,fun g f=>?_⟩
  ·obtain⟨l0,b, -,c⟩:=pX d;exact aB c (h.fits.line l0 b)
  ·obtain⟨l0,b, -,c⟩:=pX d;exact aB c (h.fits.next l0 b)
  ·obtain⟨l0,b,c, -⟩:=pX d;obtain⟨u,m,k⟩:=h.line l0 b z (c z o);exact⟨u,m,by show u<(p.DY.map (nOw t)).length;rw[hl];exact k⟩
  ·obtain⟨a,b,rfl⟩:=List.mem_map.1 (show g∈p.DY.map (nOw t) from f);show nOw t a 17= -1∨∃u:Nat,nOw t a 17=u∧u<(p.DY.map (nOw t)).length
   rw[hl];unfold nOw;by_cases e:a 17=t
   ·rw[af e];exact .inl (af rfl)
   ·rw[ae e];exact h.EG a b
  ·obtain⟨a,b,rfl⟩:=List.mem_map.1 (show g∈p.DY.map (nOw t) from f);have i:nOw t a 13=a 13:=by
    unfold nOw;by_cases e:a 17=t
    ·rw[af e];exact ae oD
    ·rw[ae e]
   rw[i];exact h.Ey a b
 exact jI (jI j t 9 0 oD oD) t 14 (-1) oD oD
theorem zF {p:PW} {n:Int} (h:mO p n) (t:Nat):mO ({p with DY:=p.DY.set t bl}:PW) n:=by
 have hl:(p.DY.set t bl).length=p.DY.length:=au ..;refine⟨⟨h.fits.Eb,h.fits.kinds,h.fits.DZ,by show (p.DY.set t bl).length<=1000;rw[hl];exact h.fits.DY,h.fits.lines,h.fits.line,h.fits.bits,h.fits.D6,h.fits.ready,h.fits.next,h.fits.D9,h.fits.Ee⟩,h.Ez,h.Eb,h.DZ,hl.trans h.DY,h.lines,h.bits,h.key,fun l c z f=>by
  obtain⟨u,e,d⟩:=h.line l c z f;exact⟨u,e,by show u<(p.DY.set t bl).length;rw[hl];exact d⟩,fun g b=>?_,h.Fl,fun g b=>?_⟩
 ·show g 17= -1∨∃u:Nat,g 17=u∧u<(p.DY.set t bl).length
  rw[hl];rcases ba (show g∈p.DY.set t bl from b) with a|rfl
  ·exact h.EG g a
  ·exact .inl rfl
 ·rcases ba (show g∈p.DY.set t bl from b) with a|rfl
  ·exact h.Ey g a
  ·exact .inl rfl
theorem xA {p:PW} (h:Inv p) (t:Nat):Inv (etP p t):=by
 have a:mO (if p.DY.getD t bl 17= -1 then stP p t else (stP p t).task (p.DY.getD t bl 17).toNat 9 0) (-1):=by
  split
  ·exact xZ (h.h (-1)) t
  ·exact jI (xZ (h.h (-1)) t) _ 9 0 oD oD
 exact (zF a t).full fun _ _ e=>e
theorem jt (p:PW) (t:Nat):(etP p t).kinds=p.kinds:=by
 unfold etP;split<;>rfl
theorem ie (p:PW) (f:Nat):(dsP p f).kinds=p.kinds:=by
 have e:=fm (p.lines.getD f []) p;show ((p.lines.getD f []).foldl ds1 p).kinds=p.kinds
 rw[e]
theorem jS:∀(l:List Int) (f:Nat),(l.set f 0).count 5<=l.count 5∧(l[f]? =some 5->(l.set f 0).count 5+1=l.count 5)
 |[],f=>⟨ar _,fun h=>by simp at h⟩
 |x::l,0=>by
  rw[List.set_cons_zero,List.count_cons,List.count_cons];refine⟨oS,fun h=>?_⟩;have:x=5:=by simpa using h
  rw[this];simp
 |x::l,f+1=>by
  obtain⟨b,a⟩:=jS l f;rw[List.set_cons_succ,List.count_cons,List.count_cons];refine⟨oA,fun h=>?_⟩;have:=a (by simpa using h);omega
theorem tf {m:Nat} {dr:PW->Nat->PW} {f:Nat} (c:∀p s,nds p<m->Inv p->s<p.DZ.length->(p.DZ.getD s eS) 0≠0->Inv (dr p s)∧nds (dr p s)<=nds p∧(dr p s).kinds.length=p.kinds.length):∀(a:Nat) (p:PW),nds p<m->Inv p->f*16+a<=p.DZ.length->Inv (daF dr f a p)∧nds (daF dr f a p)<=nds p∧(daF dr f a p).kinds.length=p.kinds.length
 |0,p,_,h,_=>by
  rw[gI];exact⟨h,ar _,rfl⟩
 |a+1,p,hn,h,hl=>by
  rw[gH];by_cases b:(p.DZ.getD (f*16+a) eS) 0=0
  ·rw[af b];exact tf c a p hn h oA
  ·rw[ae b];obtain⟨d,i,e⟩:=c p (f*16+a) hn h oA b;have l:(dr p (f*16+a)).DZ.length=p.DZ.length:=by rw[d.DZ,e,h.DZ]
   obtain⟨g,j,k⟩:=tf (m:=m) (f:=f) c a (dr p (f*16+a)) oA d oA;exact⟨g,oA,oA⟩
theorem wY {p:PW} {s:Nat} (a:s<p.DZ.length):p.DZ.getD s eS∈p.DZ:=by
 rw[aa,ac a];exact aw a
theorem ui {p:PW} (h:Inv p) {s:Nat} (i:s<p.DZ.length) (a:(p.DZ.getD s eS) 0≠0) (c:¬(p.DZ.getD s eS) 0=1):∃b:Nat,(p.DZ.getD s eS) 1=b∧p.kinds[b]? =some ((p.DZ.getD s eS) 0)∧2<=(p.DZ.getD s eS) 0∧(p.DZ.getD s eS) 0<=8:=by
 rcases h.key _ (wY i) with e|e|⟨d,f,b,g,hk⟩
 ·exact absurd e a
 ·exact absurd e c
 ·exact⟨b,g,hk,d,f⟩
theorem xK {m:Nat} {dr:PW->Nat->PW} (i:∀p s,nds p<m->Inv p->s<p.DZ.length->(p.DZ.getD s eS) 0≠0->Inv (dr p s)∧nds (dr p s)<=nds p∧(dr p s).kinds.length=p.kinds.length) {p:PW} (h:Inv p) (n:nds p<m+1) {k:Int} {f:Nat} (hk:p.kinds[f]? =some k) (b:il p k f=false):Inv (lsF dr p k f)∧nds (lsF dr p k f)<=nds p∧(lsF dr p k f).kinds.length=p.kinds.length:=by
 have hl:(nkP p f).kinds.length=p.kinds.length:=au ..;have d:=jS p.kinds f;have a:=d.1;unfold lsF;by_cases c:k=2∨k=3
 ·rw[af c];exact⟨ye (gw h hk b oA) f,a,hl⟩
 rw[ae c];by_cases e4:k=4
 ·rw[af e4];exact⟨jU (gw h hk b oA) 12 oD f,a,hl⟩
 rw[ae e4];by_cases e5:k=5
 ·rw[af e5];have hi:=jU (gw h hk b oA) 11 oD (f:Int);have j:nds (nkP p f)+1=nds p:=d.2 (by rw[hk,e5]);have l:f<p.kinds.length:=(List.getElem?_eq_some_iff.1 hk).1;obtain⟨a1,e,g⟩:=tf (m:=m) (f:=f) i 16 (fgP 11 (nkP p f) f) (by show nds (nkP p f)<m;omega) hi (by show f*16+16<=p.DZ.length;have:=h.DZ;omega);exact⟨a1,aB e a,g.trans hl⟩
 rw[ae e5];by_cases e6:k=6
 ·rw[af e6];refine⟨xA (gw h hk b oA) f,?_,?_⟩
  ·show (etP (nkP p f) f).kinds.count 5<=_;rw[jt];exact a
  ·rw[jt];exact hl
 rw[ae e6];refine⟨tD (pJ (kx h hk b) f),?_,?_⟩
 ·show (dsP (nkP p f) f).kinds.count 5<=_;rw[ie];exact a
 ·show (dsP (nkP p f) f).kinds.length=_;rw[ie];exact hl
theorem xx:∀(m:Nat) (p:PW) (s:Nat),nds p<m->Inv p->s<p.DZ.length->(p.DZ.getD s eS) 0≠0->Inv (drF m p s)∧nds (drF m p s)<=nds p∧(drF m p s).kinds.length=p.kinds.length
 |0,p,_,hn,_,_,_=>absurd hn (eh _)
 |m+1,p,s,hn,h,hs,h0=>by
  unfold drF;by_cases a:(p.DZ.getD s eS) 0=1∨il (drA p s) ((p.DZ.getD s eS) 0) ((p.DZ.getD s eS) 1)=true
  ·rw[af a];exact⟨ja h s,ar _,rfl⟩
  ·rw[ae a];obtain⟨b,c,hk, -, -⟩:=ui h hs h0 (fun e=>a (.inl e));rw[c,ag];have d:il (drA p s) ((p.DZ.getD s eS) 0) b=false:=by
    cases e:il (drA p s) ((p.DZ.getD s eS) 0) b with
    |false=>rfl
    |true=>exact absurd (.inr (by rw[c];exact e)) a
   exact xK (m:=m) (xx m) (ja h s) hn hk d
theorem BJ {W:World} {wb:Nat} {tag:Nat->Nat} {V:Nat->Value} {p:PW} (h:cb W wb tag V p) (x:Nat):cb W wb (gy tag W.heap.size x) V p∧Kt tag (gy tag W.heap.size x) W W:=
 ⟨h.kp (T:=fun _=>False) (aP _ _) (fun _ _ e=>e.elim) (fun _ hk=>cV hk),Kt.of (T:=fun _=>False) (aP _ _) (fun _ e=>e.elim) (fun _ hk=>cV hk)⟩
theorem gF {p:PW} {s:Nat} (a:s<p.DZ.length):p.DZ.getD s eS=p.DZ[s]:=by rw[aa,ac a];rfl
theorem cb.Ft {W:World} {wb:Nat} {tag:Nat->Nat} {V:Nat->Value} {p:PW} (h:cb W wb tag V p) {g cap:Nat} (e:V 2=.slice (some ⟨g,0,none⟩) p.DZ.length cap) {i:Nat} (hi:i<p.DZ.length):W.cell? ⟨g,i*7,none⟩=some (.int .i64 ((p.DZ.getD i eS) 0)):=by
 have a:=h.Em e hi (show 0<7 by omega);rw[bG] at a;rw[gF hi];exact a
theorem xG:(Tryz.prog.info? 78).map (·.size)=some 6:=oK
theorem Cn {ops:Array Oper} {rest:List Oper} {op:Oper} {a:Act} {w:World} {Q:Exit->Act->World->Prop} (d:op.guard=none) (x y:Operand) (e:op.op=.store 78 x y)
  (b o:Nat) (g:a.eval x=.pointer (some ⟨b,o,none⟩)) (cs:List Value) (i:a.eval y=.agg cs.toArray) (hl:cs.length=6) (c:∀v∈cs,v.oneCell'=true) (f:w.there b o 6)
  (h:wpList Tryz.prog ops Q rest (a.put op.dst undef) (w.setCells b o cs)):wpList Tryz.prog ops Q (op::rest) a w:=
 wpList_store_mid d 78 x y e b o cs.toArray g i (by simpa [hl] using f) (by rw[xG];simp[hl]) (all_oneCell_toArray c) (by simpa using h)
theorem Cl {ops:Array Oper} {rest:List Oper} {op:Oper} {a:Act} {w:World} {Q:Exit->Act->World->Prop} (d:op.guard=none) (x:Operand) (e:op.op=.load 78 x)
  (b o:Nat) (f:a.eval x=.pointer (some ⟨b,o,none⟩)) (cs:List Value) (hl:cs.length=6) (c:w.rangeAt b o cs)
  (h:wpList Tryz.prog ops Q rest (a.put op.dst (.agg cs.toArray)) w):wpList Tryz.prog ops Q (op::rest) a w:=
 wpList_load_mid d 78 x e b o f cs _ c Tryz.underlying78 rfl (by rw[xG,hl]) h
theorem zG {W:World} {b o:Nat} {f:Nat->Int} (h:W.rangeAt b o (cf 7 f)):W.rangeAt b o (cf 6 f):=fun j v a=>h j v (by
 have c:j<6:=by
  have:=(List.getElem?_eq_some_iff.1 a).1
  rwa [aA] at this
 rw[dp 6 f j c] at a;rw[dp 7 f j oA];exact a)
theorem cb.EY {W:World} {wb:Nat} {tag:Nat->Nat} {V:Nat->Value} {p:PW} (h:cb W wb tag V p) {g cap:Nat} (e:V 2=.slice (some ⟨g,0,none⟩) p.DZ.length cap) (o m:Nat) (b:o+m<=p.DZ.length*7):W.there g o m:=by
 have a:=h.o.DZ;rw[e] at a;exact a.there o m b
