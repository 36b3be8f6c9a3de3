/- Qak -/
import Derived.Deep.RegionHeld3
import Derived.BigQuiet
import Derived.Test.YtaejnmmpddbbjaaGreatDoorQaj
namespace Go.Proofs.YtaejnmmpddbbjaaGreatDoor.Mmu
open Go.RowKit Mem Bw Nums
end Go.Proofs.YtaejnmmpddbbjaaGreatDoor.Mmu
namespace Go.Proofs.YtaejnmmpddbbjaaGreatDoor.Wd
open Go.RowKit Mem Bw Nums Mmu
def opnd (p:PW) (k g:Int):Bool:=p.slots.any (fun f=>f 0==k&&f 1==g)
def fg1 (c:Nat) (f:Int) (g:Nat→Int):Nat→Int:=if g c=f then upd g c (-1) else g
def fgP (c:Nat) (p:PW) (f:Int):PW:={p with tasks:=p.tasks.map (fg1 c f)}
def idK (F:Nat→Int→Int) (k:Nat) (l:List Int):List Int:=(l.mapIdx F).take k++l.drop k
theorem idK_len (F:Nat→Int→Int) (k:Nat) (l:List Int):(idK F k l).length=l.length:=by
 unfold idK;rw[av,bL,dL,dK];omega
theorem idK_zero (F:Nat→Int→Int) (l:List Int):idK F 0 l=l:=by simp[idK]
theorem idK_all (F:Nat→Int→Int) (l:List Int):idK F l.length l=l.mapIdx F:=by
 unfold idK;rw[List.drop_length,dB,List.take_of_length_le (by rw[dK];exact au _)]
theorem idK_get (F:Nat→Int→Int) (k:Nat) (l:List Int) (i:Nat):(idK F k l)[i]? =if i<k then (l[i]?).map (F i) else l[i]? :=by
 unfold idK;by_cases hi:i<k
 ·rw[ag hi];by_cases hl:i<l.length
  ·rw[List.getElem?_append_left (by rw[bL,dK];omega),List.getElem?_take,ag hi,List.getElem?_mapIdx]
  ·rw[du (by rw[bL,dK];omega),bL,dK,dc,aH (by omega),aH (by omega)];rfl
 ·rw[ae hi,du (by rw[bL,dK];omega),bL,dK,dc];by_cases hl:k≤l.length
  ·rw[show k+(i - min k l.length)=i by omega]
  ·rw[aH (by omega),aH (by omega)]
theorem idK_at {F:Nat→Int→Int} {k:Nat} {l:List Int} (hk:k<l.length) (h:k<(idK F k l).length):(idK F k l)[k]=l[k]:=by
 have a:=idK_get F k l k;rw[ae (by omega),ac hk,ac h] at a;exact aK a
theorem idK_succ {F:Nat→Int→Int} {k:Nat} {l:List Int} (hk:k<l.length):idK F (k+1) l=(idK F k l).set k (F k l[k]):=by
 apply List.ext_getElem?;intro i;rw[idK_get,List.getElem?_set,idK_get];by_cases h:k=i
 ·subst h;rw[ag (by omega),ag rfl,ag (by rw[idK_len];exact hk),ac hk];rfl
 ·rw[ae h];by_cases a:i<k
  ·rw[ag (by omega),ag a]
  ·rw[ae (by omega),ae a]
theorem idK_same {F:Nat→Int→Int} {k:Nat} {l:List Int} (hk:k<l.length) (hF:F k l[k]=l[k]):idK F (k+1) l=idK F k l:=by
 have hl:k<(idK F k l).length:=by rw[idK_len];exact hk
 rw[idK_succ hk,hF, ←idK_at (F:=F) hk hl,cF]
def ut1 (ks:List Int) (f:Int) (i:Nat) (x:Int):Int:=if (ks.getD (i/16) 0=3∨ks.getD (i/16) 0=4)∧(x=32768+f∨x=49152+f) then 0 else x
def utP (p:PW) (f:Int):PW:={p with ram:=p.ram.mapIdx (ut1 p.kinds f)}
theorem BoxT.ramAt {W:World} {wb:Nat} {tag:Nat→Nat} {V:Nat→Value} {p:PW} (h:BoxT W wb tag V p) {g cap:Nat} (e:V 0=.slice (some ⟨g,0,none⟩) p.ram.length cap) {i:Nat} (hi:i<p.ram.length):W.cell? ⟨g,i,none⟩=some (.int .i64 p.ram[i]):=by
 have a:=h.o.ram;rw[e] at a;exact a.int hi
theorem BoxT.ramFr {W:World} {wb:Nat} {tag:Nat→Nat} {V:Nat→Value} {p:PW} (h:BoxT W wb tag V p) {g cap:Nat} (e:V 0=.slice (some ⟨g,0,none⟩) p.ram.length cap) (o:Nat):W.frozen? ⟨g,o,none⟩=false:=by
 have a:=h.o.ram;rw[e] at a;exact a.frozen o
theorem BoxT.kindsAt {W:World} {wb:Nat} {tag:Nat→Nat} {V:Nat→Value} {p:PW} (h:BoxT W wb tag V p) {g cap:Nat} (e:V 1=.slice (some ⟨g,0,none⟩) p.kinds.length cap) {i:Nat} (hi:i<p.kinds.length):W.cell? ⟨g,i,none⟩=some (.int .i64 p.kinds[i]):=by
 have a:=h.o.kinds;rw[e] at a;exact a.int hi
theorem BoxT.kindsFr {W:World} {wb:Nat} {tag:Nat→Nat} {V:Nat→Value} {p:PW} (h:BoxT W wb tag V p) {g cap:Nat} (e:V 1=.slice (some ⟨g,0,none⟩) p.kinds.length cap) (o:Nat):W.frozen? ⟨g,o,none⟩=false:=by
 have a:=h.o.kinds;rw[e] at a;exact a.frozen o
theorem info20:(Tryz.prog.info? 45).map (·.size)=some 20:=by kernel_rfl
def etP (p:PW) (t:Nat):PW:={(if p.tasks.getD t bl 17= -1 then stP p t else (stP p t).task (p.tasks.getD t bl 17).toNat 9 0) with tasks:=(if p.tasks.getD t bl 17= -1 then stP p t else (stP p t).task (p.tasks.getD t bl 17).toNat 9 0).tasks.set t bl}
theorem st_len (p:PW) (t:Nat):(stP p t).tasks.length=p.tasks.length:=by
 show ((PW.task (PW.task _ t 9 0) t 14 (-1))).tasks.length=_
 rw[ap,ap];exact bN _
theorem BoxT.tasksThere {W:World} {wb:Nat} {tag:Nat→Nat} {V:Nat→Value} {p:PW} (h:BoxT W wb tag V p) {g cap:Nat} (e:V 3=.slice (some ⟨g,0,none⟩) p.tasks.length cap) (o m:Nat) (b:o+m≤p.tasks.length*20):W.there g o m:=by
 have a:=h.o.tasks;rw[e] at a;exact a.there o m b
def ds1 (p:PW) (z:Int):PW:=(p.task z.toNat 9 0).task z.toNat 14 (-1)
def dsP (p:PW) (f:Nat):PW:={(p.lines.getD f []).foldl ds1 p with lines:=p.lines.set f [],bits:=p.bits.set f 0}
theorem ds1_len (p:PW) (z:Int):(ds1 p z).tasks.length=p.tasks.length:=by unfold ds1;rw[ap,ap]
theorem ds_len:∀(l:List Int) (p:PW),(l.foldl ds1 p).tasks.length=p.tasks.length
 |[],_=>rfl
 |z::l,p=>by rw[dS,ds_len l,ds1_len]
theorem ds_rest:∀(l:List Int) (p:PW),l.foldl ds1 p={p with tasks:=(l.foldl ds1 p).tasks}
 |[],_=>rfl
 |z::l,p=>by
  rw[dS,ds_rest l (ds1 p z)];rfl
theorem ds_snoc (l:List Int) (k:Nat) (hk:k<l.length) (p:PW):(l.take (k+1)).foldl ds1 p=ds1 ((l.take k).foldl ds1 p) l[k]:=by
 rw[bD hk,List.foldl_append];rfl
theorem BoxT.lineNil {W:World} {wb:Nat} {tag:Nat→Nat} {V:Nat→Value} {p:PW} (h:BoxT W wb tag V p) {g:Nat} (e:V 4=.slice (some ⟨g,0,none⟩) p.lines.length p.lines.length) {j:Nat} (d:j<p.lines.length):
  BoxT (W.setCell ⟨g,j,none⟩ (.slice none 0 0)) wb tag V {p with lines:=p.lines.set j []}∧Kt tag tag W (W.setCell ⟨g,j,none⟩ (.slice none 0 0)):=by
 have a:=h.o.lines;rw[e] at a;obtain⟨f,b⟩:=a.put d (by intro i;omega) (aR _ W) (fun _ _=>rfl) (u:=.slice none 0 0) (c:=(0,[])) ⟨⟨rfl,.inl ⟨rfl,rfl⟩⟩,fun k hk=>by cases hk⟩;refine⟨h.lines b (fun _ _=>rfl) ?_,.of b (fun k e=>by rcases e with e|⟨i,e⟩<;>omega) (fun _ _=>rfl)⟩;rw[ar,e,ci_set p.lines j d []];exact f
theorem BoxT.bitsFr {W:World} {wb:Nat} {tag:Nat→Nat} {V:Nat→Value} {p:PW} (h:BoxT W wb tag V p) {g cap:Nat} (e:V 5=.slice (some ⟨g,0,none⟩) p.bits.length cap) (o:Nat):W.frozen? ⟨g,o,none⟩=false:=by
 have a:=h.o.bits;rw[e] at a;exact a.frozen o
theorem BoxT.bitsInt {W:World} {wb:Nat} {tag:Nat→Nat} {V:Nat→Value} {p:PW} (h:BoxT W wb tag V p) {g cap:Nat} (e:V 5=.slice (some ⟨g,0,none⟩) p.bits.length cap) {i:Nat} (hi:i<p.bits.length):W.cell? ⟨g,i,none⟩=some (.int .i64 p.bits[i]):=by
 have a:=h.o.bits;rw[e] at a;exact a.int hi
def drA (p:PW) (s:Nat):PW:={p with slots:=hnd s ((p.slots.getD s eS) 6) (p.slots.set s eS)}
def daF (dr:PW→Nat→PW) (f:Nat) (a:Nat) (p:PW):PW:=if h:a=0 then p else daF dr f (a - 1) (if (p.slots.getD (f*16+(a - 1)) eS) 0=0 then p else dr p (f*16+(a - 1)))
theorem da_zero (dr:PW→Nat→PW) (f:Nat) (p:PW):daF dr f 0 p=p:=by rw[daF,dif_pos rfl]
theorem da_succ (dr:PW→Nat→PW) (f a:Nat) (p:PW):daF dr f (a+1) p=daF dr f a (if (p.slots.getD (f*16+a) eS) 0=0 then p else dr p (f*16+a)):=by rw[daF,dif_neg (Nat.succ_ne_zero a),Nat.add_sub_cancel]
def nkP (p:PW) (f:Nat):PW:={p with kinds:=p.kinds.set f 0}
def lsF (dr:PW→Nat→PW) (p:PW) (k:Int) (f:Nat):PW:=
 if k=2∨k=3 then utP (nkP p f) f else if k=4 then fgP 12 (nkP p f) f else if k=5 then daF dr f 16 (fgP 11 (nkP p f) f) else if k=6 then etP (nkP p f) f else fgP 13 (dsP (nkP p f) f) f
def drF:Nat→PW→Nat→PW
 |0,p,_=>p
 |m+1,p,s=>if (p.slots.getD s eS) 0=1∨opnd (drA p s) ((p.slots.getD s eS) 0) ((p.slots.getD s eS) 1)=true then drA p s else lsF (drF m) (drA p s) ((p.slots.getD s eS) 0) ((p.slots.getD s eS) 1).toNat
def nds (p:PW):Nat:=p.kinds.count 5
structure Inv (p:PW):Prop where
 fits:p.Fits
 k24:p.kinds.length≤24
 ram:p.ram.length=p.kinds.length*16
 slots:p.slots.length=p.kinds.length*16
 tasks:p.tasks.length=p.kinds.length
 lines:p.lines.length=p.kinds.length
 bits:p.bits.length=p.kinds.length
 key:∀f∈p.slots,f 0=0∨f 0=1∨(2≤f 0∧f 0≤8∧∃b:Nat,f 1=b∧p.kinds[b]? =some (f 0))
 line:∀l∈p.lines,∀z∈l,∃u:Nat,z=u∧u<p.tasks.length
 owes:∀f∈p.tasks,f 17= -1∨∃u:Nat,f 17=u∧u<p.tasks.length
 ent:∀(i:Nat) (x k:Int),p.ram[i]? =some x→p.kinds[i/16]? =some k→(k=3∨k=4)→x=0∨∃f:Nat,f<1024∧(x=32768+f∨x=49152+f)
 help:∀f∈p.tasks,f 13= -1∨∃u:Nat,f 13=u∧p.kinds[u]? =some 7
theorem hnd_mem {a b:Int} {fs:List (Nat→Int)} {g:Nat→Int} (h:g∈hnd a b fs):∃f∈fs,g 0=f 0∧g 1=f 1:=by
 unfold hnd at h;obtain⟨f,d,rfl⟩:=List.mem_map.1 h;refine⟨f,d,?_⟩;unfold hnd1;by_cases c:f 6=a
 ·rw[ag c];exact⟨rfl,rfl⟩
 ·rw[ae c];exact⟨rfl,rfl⟩
theorem hnd_len (a b:Int) (fs:List (Nat→Int)):(hnd a b fs).length=fs.length:=bN _
theorem drA_inv {p:PW} (h:Inv p) (s:Nat):Inv (drA p s):=by
 have hl:(drA p s).slots.length=p.slots.length:=by
  show (hnd _ _ (p.slots.set s eS)).length=_
  rw[hnd_len,ar]
 exact⟨⟨h.fits.ram,h.fits.kinds,by rw[hl];exact h.fits.slots,h.fits.tasks,h.fits.lines,h.fits.line,h.fits.bits,h.fits.cores,h.fits.ready,h.fits.next,h.fits.tlbs,h.fits.doms⟩,h.k24,h.ram,hl.trans h.slots,h.tasks,h.lines,h.bits,fun g d=>by
  obtain⟨f,a,b,c⟩:=hnd_mem d;rw[b,c];rcases bj a with a|rfl
  ·exact h.key f a
  ·exact .inl rfl,h.line,h.owes,h.ent,h.help⟩
theorem opnd_none {p:PW} {k g:Int} (h:opnd p k g=false):∀f∈p.slots,¬(f 0=k∧f 1=g):=fun f a e=>by
 unfold opnd at h;rw[bZ] at h;exact h f a (by simp[e.1,e.2])
structure InvH (p:PW) (n:Int):Prop where
 fits:p.Fits
 k24:p.kinds.length≤24
 ram:p.ram.length=p.kinds.length*16
 slots:p.slots.length=p.kinds.length*16
 tasks:p.tasks.length=p.kinds.length
 lines:p.lines.length=p.kinds.length
 bits:p.bits.length=p.kinds.length
 key:∀f∈p.slots,f 0=0∨f 0=1∨(2≤f 0∧f 0≤8∧∃b:Nat,f 1=b∧p.kinds[b]? =some (f 0))
 line:∀l∈p.lines,∀z∈l,∃u:Nat,z=u∧u<p.tasks.length
 owes:∀f∈p.tasks,f 17= -1∨∃u:Nat,f 17=u∧u<p.tasks.length
 ent:∀(i:Nat) (x k:Int),p.ram[i]? =some x→p.kinds[i/16]? =some k→(k=3∨k=4)→x=0∨∃f:Nat,f<1024∧(x=32768+f∨x=49152+f)
 help:∀f∈p.tasks,f 13= -1∨f 13=n∨∃u:Nat,f 13=u∧p.kinds[u]? =some 7
theorem nk_get {p:PW} {f b:Nat} {k:Int} (h:(nkP p f).kinds[b]? =some k) (hk:k≠0):p.kinds[b]? =some k∧b≠f:=by
 have a:(p.kinds.set f 0)[b]? =some k:=h;rw[List.getElem?_set] at a;by_cases e:f=b
 ·rw[ag e] at a;by_cases hl:b<p.kinds.length
  ·rw[ag (by omega)] at a;exact absurd (aK a).symm hk
  ·rw[ae (by omega)] at a;cases a
 ·rw[ae e] at a;exact⟨a,fun e2=>e e2.symm⟩
theorem nk_keep {p:PW} {f b:Nat} {k:Int} (h:p.kinds[b]? =some k) (a:b≠f):(nkP p f).kinds[b]? =some k:=by
 show (p.kinds.set f 0)[b]? =some k
 rw[cM (fun e=>a e.symm)];exact h
theorem nk_inv {p:PW} (h:Inv p) {f:Nat} {k:Int} (hk:p.kinds[f]? =some k) (t:opnd p k f=false):InvH (nkP p f) f:=by
 have hl:(nkP p f).kinds.length=p.kinds.length:=ar ..;refine⟨⟨h.fits.ram,by rw[hl];exact h.fits.kinds,h.fits.slots,h.fits.tasks,h.fits.lines,h.fits.line,h.fits.bits,h.fits.cores,h.fits.ready,h.fits.next,h.fits.tlbs,h.fits.doms⟩,by rw[hl];exact h.k24,by rw[hl];exact h.ram,by rw[hl];exact h.slots,by rw[hl];exact h.tasks,by rw[hl];exact h.lines,by rw[hl];exact h.bits,fun g a=>?_,h.line,h.owes,fun i x k2 v r o=>?_,fun g a=>?_⟩
 ·rcases h.key g a with m|c|⟨n,q,b,j,d⟩
  ·exact .inl m
  ·exact .inr (.inl c)
  ·refine .inr (.inr ⟨n,q,b,j,nk_keep d ?_⟩);rintro rfl;rw[hk] at d;exact opnd_none t g a ⟨(aK d).symm,j⟩
 ·exact h.ent i x k2 v (nk_get r (by omega)).1 o
 ·rcases h.help g a with c|⟨u,l,s⟩
  ·exact .inl c
  ·by_cases e:u=f
   ·exact .inr (.inl (by rw[l,e]))
   ·exact .inr (.inr ⟨u,l,nk_keep s e⟩)
theorem InvH.full {p:PW} {n:Int} (h:InvH p n) (hh:∀f∈p.tasks,f 13=n→f 13= -1):Inv p:=⟨h.fits,h.k24,h.ram,h.slots,h.tasks,h.lines,h.bits,h.key,h.line,h.owes,h.ent,fun f b=>by
 rcases h.help f b with a|a|a
 ·exact .inl a
 ·exact .inl (hh f b a)
 ·exact .inr a⟩
theorem nk_inv7 {p:PW} (h:Inv p) {f:Nat} {k:Int} (hk:p.kinds[f]? =some k) (i:opnd p k f=false) (c:k≠7):Inv (nkP p f):=
 (nk_inv h hk i).full fun g d e=>by
  rcases h.help g d with b|⟨u,j,a⟩
  ·exact b
  ·have:u=f:=by omega
   subst this;rw[hk] at a;exact absurd (aK a) c
theorem ut_inv {p:PW} (h:Inv p) (f:Int):Inv (utP p f):=by
 have hl:(utP p f).ram.length=p.ram.length:=dK;refine⟨⟨by rw[hl];exact h.fits.ram,h.fits.kinds,h.fits.slots,h.fits.tasks,h.fits.lines,h.fits.line,h.fits.bits,h.fits.cores,h.fits.ready,h.fits.next,h.fits.tlbs,h.fits.doms⟩,h.k24,hl.trans h.ram,h.slots,h.tasks,h.lines,h.bits,h.key,h.line,h.owes,fun i x k d hk c=>?_,h.help⟩;have a:(p.ram.mapIdx (ut1 p.kinds f))[i]? =some x:=d;rw[List.getElem?_mapIdx] at a
 cases e:p.ram[i]? with
 |none=>rw[e] at a;cases a
 |some y=>
  rw[e] at a;have b:ut1 p.kinds f i y=x:=aK a;unfold ut1 at b;split at b
  ·exact .inl b.symm
  ·rw[←b];exact h.ent i y k e hk c
theorem fg_inv {p:PW} {n:Int} (h:InvH p n) (c:Nat) (j:c≠17) (f:Int):InvH (fgP c p f) n:=by
 have hl:(fgP c p f).tasks.length=p.tasks.length:=bN _;have i:∀g∈(fgP c p f).tasks,∃a∈p.tasks,g 17=a 17∧(g 13=a 13∨g 13= -1):=fun g d=>by
  obtain⟨a,b,rfl⟩:=List.mem_map.1 (show g∈p.tasks.map (fg1 c f) from d);refine⟨a,b,?_⟩;unfold fg1;by_cases e:a c=f
  ·rw[ag e];unfold upd;refine⟨ae (fun e=>j e.symm),?_⟩;by_cases e2:13=c
   ·rw[ag e2];exact .inr rfl
   ·rw[ae e2];exact .inl rfl
  ·rw[ae e];exact⟨rfl,.inl rfl⟩
 refine⟨⟨h.fits.ram,h.fits.kinds,h.fits.slots,by rw[hl];exact h.fits.tasks,h.fits.lines,h.fits.line,h.fits.bits,h.fits.cores,h.fits.ready,h.fits.next,h.fits.tlbs,h.fits.doms⟩,h.k24,h.ram,h.slots,hl.trans h.tasks,h.lines,h.bits,h.key,fun l k z m=>by rw[hl];exact h.line l k z m,fun g d=>?_,h.ent,fun g d=>?_⟩
 ·obtain⟨a,b,e, -⟩:=i g d;rw[e,hl];exact h.owes a b
 ·obtain⟨a,b, -,e|e⟩:=i g d
  ·rw[e];exact h.help a b
  ·exact .inl e
theorem Inv.h {p:PW} (h:Inv p) (n:Int):InvH p n:=⟨h.fits,h.k24,h.ram,h.slots,h.tasks,h.lines,h.bits,h.key,h.line,h.owes,h.ent,fun f b=>by
 rcases h.help f b with a|a
 ·exact .inl a
 ·exact .inr (.inr a)⟩
theorem fg_full {p:PW} (h:Inv p) (c:Nat) (a:c≠17) (f:Int):Inv (fgP c p f):=(fg_inv (h.h (-1)) c a f).full fun _ _ e=>e
theorem fg_help {p:PW} {n:Int} (h:InvH p n):Inv (fgP 13 p n):=(fg_inv h 13 (by decide) n).full fun g b e=>by
 obtain⟨a,c,rfl⟩:=List.mem_map.1 (show g∈p.tasks.map (fg1 13 n) from b);unfold fg1 at e ⊢;by_cases e2:a 13=n
 ·rw[ag e2];exact ag rfl
 ·rw[ae e2] at e;exact absurd e e2
theorem task_inv {p:PW} {n:Int} (h:InvH p n) (t c:Nat) (x:Int) (k:c≠17) (j:c≠13):InvH (p.task t c x) n:=by
 have hl:=ap p t c x;have i:∀g∈(p.task t c x).tasks,∃a,(a∈p.tasks∨a=bl)∧g 17=a 17∧g 13=a 13:=fun g d=>by
  rcases bj (show g∈p.tasks.set t (upd (p.tasks.getD t bl) c x) from d) with f|f
  ·exact⟨g,.inl f,rfl,rfl⟩
  ·refine⟨p.tasks.getD t bl,?_,?_,?_⟩
   ·rw[aa]
    cases e:p.tasks[t]? with
    |none=>exact .inr rfl
    |some y=>exact .inl (dM e)
   ·rw[f];exact ae (fun e=>k e.symm)
   ·rw[f];exact ae (fun e=>j e.symm)
 refine⟨⟨h.fits.ram,h.fits.kinds,h.fits.slots,by rw[hl];exact h.fits.tasks,h.fits.lines,h.fits.line,h.fits.bits,h.fits.cores,h.fits.ready,h.fits.next,h.fits.tlbs,h.fits.doms⟩,h.k24,h.ram,h.slots,hl.trans h.tasks,h.lines,h.bits,h.key,fun l m z o=>by rw[hl];exact h.line l m z o,fun g d=>?_,h.ent,fun g d=>?_⟩
 ·obtain⟨a,b,e, -⟩:=i g d;rw[e,hl];rcases b with b|rfl
  ·exact h.owes a b
  ·exact .inl rfl
 ·obtain⟨a,b, -,e⟩:=i g d;rw[e];rcases b with b|rfl
  ·exact h.help a b
  ·exact .inl rfl
theorem ds_inv {n:Int}:∀(l:List Int) (p:PW),InvH p n→InvH (l.foldl ds1 p) n
 |[],_,h=>h
 |z::l,p,h=>by
  rw[dS];exact ds_inv l (ds1 p z) (task_inv (task_inv h z.toNat 9 0 (by decide) (by decide)) z.toNat 14 (-1) (by decide) (by decide))
theorem dsP_inv {p:PW} {n:Int} (h:InvH p n) (f:Nat):InvH (dsP p f) n:=by
 have a:=ds_inv (p.lines.getD f []) p h;have e:=ds_rest (p.lines.getD f []) p;unfold dsP;generalize (p.lines.getD f []).foldl ds1 p=q at a e;have hk:q.kinds=p.kinds:=by rw[e]
 refine⟨⟨a.fits.ram,a.fits.kinds,a.fits.slots,a.fits.tasks,by show (p.lines.set f []).length≤1000;rw[ar];exact h.fits.lines,fun l hl=>?_,by show (p.bits.set f 0).length≤1000;rw[ar];exact h.fits.bits,a.fits.cores,a.fits.ready,a.fits.next,a.fits.tlbs,a.fits.doms⟩,a.k24,a.ram,a.slots,a.tasks,by show (p.lines.set f []).length=q.kinds.length;rw[ar,hk];exact h.lines,by show (p.bits.set f 0).length=q.kinds.length;rw[ar,hk];exact h.bits,a.key,fun l hl z c=>?_,a.owes,a.ent,a.help⟩
 ·rcases bj (show l∈p.lines.set f [] from hl) with b|rfl
  ·exact h.fits.line l b
  ·exact bI _
 ·rcases bj (show l∈p.lines.set f [] from hl) with b|rfl
  ·obtain⟨u,g,d⟩:=h.line l b z c;exact⟨u,g,by show u<q.tasks.length;rw[a.tasks,hk, ←h.tasks];exact d⟩
  ·cases c
theorem lvs_sub {t:Int} {ls:List (List Int)} {l:List Int} (h:l∈lvs t ls):∃l0∈ls,(∀z∈l,z∈l0)∧l.length≤l0.length:=by
 unfold lvs at h;obtain⟨l0,a,rfl⟩:=List.mem_map.1 h;unfold goneP;exact⟨l0,a,fun z b=>(List.mem_filter.1 b).1,dG _ _⟩
theorem st_inv {p:PW} {n:Int} (h:InvH p n) (t:Nat):InvH (stP p t) n:=by
 have hl:(p.tasks.map (nOw t)).length=p.tasks.length:=bN _;have j:InvH ({p with lines:=lvs t p.lines,ready:=lvs t p.ready,cores:=p.cores.map (noT t),tasks:=p.tasks.map (nOw t)}:PW) n:=by
  refine⟨⟨h.fits.ram,h.fits.kinds,h.fits.slots,by show (p.tasks.map (nOw t)).length≤1000;rw[hl];exact h.fits.tasks,by show (lvs t p.lines).length≤1000;rw[lvs_len];exact h.fits.lines,fun l d=>?_,h.fits.bits,by show (p.cores.map (noT t)).length≤1000;rw[bN];exact h.fits.cores,by show (lvs t p.ready).length≤1000;rw[lvs_len];exact h.fits.ready,fun l d=>?_,h.fits.tlbs,h.fits.doms⟩,h.k24,h.ram,h.slots,by show (p.tasks.map (nOw t)).length=_;rw[hl];exact h.tasks,by show (lvs t p.lines).length=_;rw[lvs_len];exact h.lines,h.bits,h.key,fun l d z o=>?_,fun g f=>?_,h.ent,fun g f=>?_⟩
  ·obtain⟨l0,b, -,c⟩:=lvs_sub d;exact aD c (h.fits.line l0 b)
  ·obtain⟨l0,b, -,c⟩:=lvs_sub d;exact aD c (h.fits.next l0 b)
  ·obtain⟨l0,b,c, -⟩:=lvs_sub d;obtain⟨u,m,k⟩:=h.line l0 b z (c z o);exact⟨u,m,by show u<(p.tasks.map (nOw t)).length;rw[hl];exact k⟩
  ·obtain⟨a,b,rfl⟩:=List.mem_map.1 (show g∈p.tasks.map (nOw t) from f);show nOw t a 17= -1∨∃u:Nat,nOw t a 17=u∧u<(p.tasks.map (nOw t)).length
   rw[hl];unfold nOw;by_cases e:a 17=t
   ·rw[ag e];exact .inl (ag rfl)
   ·rw[ae e];exact h.owes a b
  ·obtain⟨a,b,rfl⟩:=List.mem_map.1 (show g∈p.tasks.map (nOw t) from f);have i:nOw t a 13=a 13:=by
    unfold nOw;by_cases e:a 17=t
    ·rw[ag e];exact ae (by decide)
    ·rw[ae e]
   rw[i];exact h.help a b
 exact task_inv (task_inv j t 9 0 (by decide) (by decide)) t 14 (-1) (by decide) (by decide)
theorem set_inv {p:PW} {n:Int} (h:InvH p n) (t:Nat):InvH ({p with tasks:=p.tasks.set t bl}:PW) n:=by
 have hl:(p.tasks.set t bl).length=p.tasks.length:=ar ..;refine⟨⟨h.fits.ram,h.fits.kinds,h.fits.slots,by show (p.tasks.set t bl).length≤1000;rw[hl];exact h.fits.tasks,h.fits.lines,h.fits.line,h.fits.bits,h.fits.cores,h.fits.ready,h.fits.next,h.fits.tlbs,h.fits.doms⟩,h.k24,h.ram,h.slots,hl.trans h.tasks,h.lines,h.bits,h.key,fun l c z f=>by
  obtain⟨u,e,d⟩:=h.line l c z f;exact⟨u,e,by show u<(p.tasks.set t bl).length;rw[hl];exact d⟩,fun g b=>?_,h.ent,fun g b=>?_⟩
 ·show g 17= -1∨∃u:Nat,g 17=u∧u<(p.tasks.set t bl).length
  rw[hl];rcases bj (show g∈p.tasks.set t bl from b) with a|rfl
  ·exact h.owes g a
  ·exact .inl rfl
 ·rcases bj (show g∈p.tasks.set t bl from b) with a|rfl
  ·exact h.help g a
  ·exact .inl rfl
theorem et_inv {p:PW} (h:Inv p) (t:Nat):Inv (etP p t):=by
 have a:InvH (if p.tasks.getD t bl 17= -1 then stP p t else (stP p t).task (p.tasks.getD t bl 17).toNat 9 0) (-1):=by
  split
  ·exact st_inv (h.h (-1)) t
  ·exact task_inv (st_inv (h.h (-1)) t) _ 9 0 (by decide) (by decide)
 exact (set_inv a t).full fun _ _ e=>e
theorem et_kinds (p:PW) (t:Nat):(etP p t).kinds=p.kinds:=by
 unfold etP;split<;>rfl
theorem ds_kinds (p:PW) (f:Nat):(dsP p f).kinds=p.kinds:=by
 have e:=ds_rest (p.lines.getD f []) p;show ((p.lines.getD f []).foldl ds1 p).kinds=p.kinds
 rw[e]
theorem cnt_set:∀(l:List Int) (f:Nat),(l.set f 0).count 5≤l.count 5∧(l[f]? =some 5→(l.set f 0).count 5+1=l.count 5)
 |[],f=>⟨au _,fun h=>by simp at h⟩
 |x::l,0=>by
  rw[List.set_cons_zero,List.count_cons,List.count_cons];refine⟨by simp,fun h=>?_⟩;have:x=5:=by simpa using h
  rw[this];simp
 |x::l,f+1=>by
  obtain⟨b,a⟩:=cnt_set l f;rw[List.set_cons_succ,List.count_cons,List.count_cons];refine⟨by omega,fun h=>?_⟩;have:=a (by simpa using h);omega
theorem da_inv {m:Nat} {dr:PW→Nat→PW} {f:Nat} (c:∀p s,nds p<m→Inv p→s<p.slots.length→(p.slots.getD s eS) 0≠0→Inv (dr p s)∧nds (dr p s)≤nds p∧(dr p s).kinds.length=p.kinds.length):∀(a:Nat) (p:PW),nds p<m→Inv p→f*16+a≤p.slots.length→Inv (daF dr f a p)∧nds (daF dr f a p)≤nds p∧(daF dr f a p).kinds.length=p.kinds.length
 |0,p,_,h,_=>by
  rw[da_zero];exact⟨h,au _,rfl⟩
 |a+1,p,hn,h,hl=>by
  rw[da_succ];by_cases b:(p.slots.getD (f*16+a) eS) 0=0
  ·rw[ag b];exact da_inv c a p hn h (by omega)
  ·rw[ae b];obtain⟨d,i,e⟩:=c p (f*16+a) hn h (by omega) b;have l:(dr p (f*16+a)).slots.length=p.slots.length:=by rw[d.slots,e,h.slots]
   obtain⟨g,j,k⟩:=da_inv (m:=m) (f:=f) c a (dr p (f*16+a)) (by omega) d (by omega);exact⟨g,by omega,by omega⟩
theorem slot_mem {p:PW} {s:Nat} (a:s<p.slots.length):p.slots.getD s eS∈p.slots:=by
 rw[aa,ac a];exact aw a
theorem ls_in {p:PW} (h:Inv p) {s:Nat} (i:s<p.slots.length) (a:(p.slots.getD s eS) 0≠0) (c:¬(p.slots.getD s eS) 0=1):∃b:Nat,(p.slots.getD s eS) 1=b∧p.kinds[b]? =some ((p.slots.getD s eS) 0)∧2≤(p.slots.getD s eS) 0∧(p.slots.getD s eS) 0≤8:=by
 rcases h.key _ (slot_mem i) with e|e|⟨d,f,b,g,hk⟩
 ·exact absurd e a
 ·exact absurd e c
 ·exact⟨b,g,hk,d,f⟩
theorem ls_inv {m:Nat} {dr:PW→Nat→PW} (i:∀p s,nds p<m→Inv p→s<p.slots.length→(p.slots.getD s eS) 0≠0→Inv (dr p s)∧nds (dr p s)≤nds p∧(dr p s).kinds.length=p.kinds.length) {p:PW} (h:Inv p) (n:nds p<m+1) {k:Int} {f:Nat} (hk:p.kinds[f]? =some k) (b:opnd p k f=false):Inv (lsF dr p k f)∧nds (lsF dr p k f)≤nds p∧(lsF dr p k f).kinds.length=p.kinds.length:=by
 have hl:(nkP p f).kinds.length=p.kinds.length:=ar ..;have d:=cnt_set p.kinds f;have a:nds (nkP p f)≤nds p:=d.1;unfold lsF;by_cases c:k=2∨k=3
 ·rw[ag c];exact⟨ut_inv (nk_inv7 h hk b (by omega)) f,a,hl⟩
 rw[ae c];by_cases e4:k=4
 ·rw[ag e4];exact⟨fg_full (nk_inv7 h hk b (by omega)) 12 (by decide) f,a,hl⟩
 rw[ae e4];by_cases e5:k=5
 ·rw[ag e5];have hi:=fg_full (nk_inv7 h hk b (by omega)) 11 (by decide) (f:Int);have j:nds (nkP p f)+1=nds p:=d.2 (by rw[hk,e5]);have l:f<p.kinds.length:=(List.getElem?_eq_some_iff.1 hk).1;obtain⟨a1,e,g⟩:=da_inv (m:=m) (f:=f) i 16 (fgP 11 (nkP p f) f) (by show nds (nkP p f)<m;omega) hi (by show f*16+16≤p.slots.length;have:=h.slots;omega);exact⟨a1,aD e a,g.trans hl⟩
 rw[ae e5];by_cases e6:k=6
 ·rw[ag e6];refine⟨et_inv (nk_inv7 h hk b (by omega)) f,?_,?_⟩
  ·show (etP (nkP p f) f).kinds.count 5≤_;rw[et_kinds];exact a
  ·rw[et_kinds];exact hl
 rw[ae e6];refine⟨fg_help (dsP_inv (nk_inv h hk b) f),?_,?_⟩
 ·show (dsP (nkP p f) f).kinds.count 5≤_;rw[ds_kinds];exact a
 ·show (dsP (nkP p f) f).kinds.length=_;rw[ds_kinds];exact hl
theorem dr_inv:∀(m:Nat) (p:PW) (s:Nat),nds p<m→Inv p→s<p.slots.length→(p.slots.getD s eS) 0≠0→Inv (drF m p s)∧nds (drF m p s)≤nds p∧(drF m p s).kinds.length=p.kinds.length
 |0,p,_,hn,_,_,_=>absurd hn (ex _)
 |m+1,p,s,hn,h,hs,h0=>by
  unfold drF;by_cases a:(p.slots.getD s eS) 0=1∨opnd (drA p s) ((p.slots.getD s eS) 0) ((p.slots.getD s eS) 1)=true
  ·rw[ag a];exact⟨drA_inv h s,au _,rfl⟩
  ·rw[ae a];obtain⟨b,c,hk, -, -⟩:=ls_in h hs h0 (fun e=>a (.inl e));rw[c,ah];have d:opnd (drA p s) ((p.slots.getD s eS) 0) b=false:=by
    cases e:opnd (drA p s) ((p.slots.getD s eS) 0) b with
    |false=>rfl
    |true=>exact absurd (.inr (by rw[c];exact e)) a
   exact ls_inv (m:=m) (dr_inv m) (drA_inv h s) hn hk d
theorem retagD {W:World} {wb:Nat} {tag:Nat→Nat} {V:Nat→Value} {p:PW} (h:BoxT W wb tag V p) (x:Nat):BoxT W wb (tagN tag W.heap.size x) V p∧Kt tag (tagN tag W.heap.size x) W W:=
 ⟨h.kp (T:=fun _=>False) (aR _ _) (fun _ _ e=>e.elim) (fun _ hk=>cW hk),Kt.of (T:=fun _=>False) (aR _ _) (fun _ e=>e.elim) (fun _ hk=>cW hk)⟩
theorem slot_get {p:PW} {s:Nat} (a:s<p.slots.length):p.slots.getD s eS=p.slots[s]:=by rw[aa,ac a];rfl
theorem BoxT.slotKind {W:World} {wb:Nat} {tag:Nat→Nat} {V:Nat→Value} {p:PW} (h:BoxT W wb tag V p) {g cap:Nat} (e:V 2=.slice (some ⟨g,0,none⟩) p.slots.length cap) {i:Nat} (hi:i<p.slots.length):W.cell? ⟨g,i*7,none⟩=some (.int .i64 ((p.slots.getD i eS) 0)):=by
 have a:=h.slotsAt e hi (show 0<7 by omega);rw[bz] at a;rw[slot_get hi];exact a
theorem info6y:(Tryz.prog.info? 78).map (·.size)=some 6:=by kernel_rfl
theorem wp_stY {ops:Array Oper} {rest:List Oper} {op:Oper} {a:Act} {w:World} {Q:Exit→Act→World→Prop} (d:op.guard=none) (x y:Operand) (e:op.op=.store 78 x y)
  (b o:Nat) (g:a.eval x=.pointer (some ⟨b,o,none⟩)) (cs:List Value) (i:a.eval y=.agg cs.toArray) (hl:cs.length=6) (c:∀v∈cs,v.oneCell'=true) (f:w.there b o 6)
  (h:wpList Tryz.prog ops Q rest (a.put op.dst undef) (w.setCells b o cs)):wpList Tryz.prog ops Q (op::rest) a w:=
 wpList_store_mid d 78 x y e b o cs.toArray g i (by simpa [hl] using f) (by rw[info6y];simp[hl]) (all_oneCell_toArray c) (by simpa using h)
theorem wp_ldY {ops:Array Oper} {rest:List Oper} {op:Oper} {a:Act} {w:World} {Q:Exit→Act→World→Prop} (d:op.guard=none) (x:Operand) (e:op.op=.load 78 x)
  (b o:Nat) (f:a.eval x=.pointer (some ⟨b,o,none⟩)) (cs:List Value) (hl:cs.length=6) (c:w.rangeAt b o cs)
  (h:wpList Tryz.prog ops Q rest (a.put op.dst (.agg cs.toArray)) w):wpList Tryz.prog ops Q (op::rest) a w:=
 wpList_load_mid d 78 x e b o f cs _ c Tryz.underlying78 rfl (by rw[info6y,hl]) h
theorem six_ofD {W:World} {b o:Nat} {f:Nat→Int} (h:W.rangeAt b o (cf 7 f)):W.rangeAt b o (cf 6 f):=fun j v a=>h j v (by
 have c:j<6:=by
  have:=(List.getElem?_eq_some_iff.1 a).1
  rwa [ax] at this
 rw[cf_at 6 f j c] at a;rw[cf_at 7 f j (by omega)];exact a)
theorem BoxT.slotsThereD {W:World} {wb:Nat} {tag:Nat→Nat} {V:Nat→Value} {p:PW} (h:BoxT W wb tag V p) {g cap:Nat} (e:V 2=.slice (some ⟨g,0,none⟩) p.slots.length cap) (o m:Nat) (b:o+m≤p.slots.length*7):W.there g o m:=by
 have a:=h.o.slots;rw[e] at a;exact a.there o m b
end Go.Proofs.YtaejnmmpddbbjaaGreatDoor.Wd
