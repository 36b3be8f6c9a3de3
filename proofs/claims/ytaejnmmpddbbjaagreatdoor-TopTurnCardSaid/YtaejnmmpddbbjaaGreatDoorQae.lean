/- Qae -/
import Derived.Test.YtaejnmmpddbbjaaGreatDoorChecked
import Derived.WalkKit
import Derived.WalkSpells
import Derived.WalkLawsBesides
import Derived.Laws.EntriesVeiled
import Derived.Laws.BitsLemmas
import Derived.Laws.Bits64
import Derived.Test.YtaejnmmpddbbjaaGreatDoorProg
import Derived.LaidEql
import Derived.Stop.Asserts
import Derived.RowKitTokens
import Derived.BigQuiet
import Derived.Deep.RegionHeld3
import Derived.Test.YtaejnmmpddbbjaaGreatDoorQad
set_option maxRecDepth 100000
set_option maxHeartbeats 16000000
namespace Go.Proofs.YtaejnmmpddbbjaaGreatDoor
namespace KP
def lg (k b l m:Int):Bool:=
 if l<1∨24<l∨b<0∨24 - l<b then false
 else if k=1 then decide (0<=m∧m<=l) else decide (l=1∧m=0)
def jl (k g:Int):Bool:=
 if k=7∨k=8 then decide (0<=g∧g<=65535) else decide (g=0)
def chk (k b l m r g:Int):Int:=
 if k<0∨8<k then 3
 else if k=0 then (if b=0∧l=0∧m=0∧r=0∧g=0 then 0 else 2)
 else if lg k b l m=false then 2
 else if r<0∨7<r then 4
 else if jl k g=false then 2
 else 0
theorem kz {k b l m r g:Int} (h:chk k b l m r g=0):
  0<=k∧k<=8∧0<=b∧b<=23∧0<=l∧l<=24∧0<=m∧m<=24∧0<=r∧r<=7∧0<=g∧g<=65535:=by
 unfold chk at h;split at h
 ·omega
 split at h
 ·split at h<;>omega
 split at h
 ·omega
 rename_i h1 h2 h3;split at h
 ·omega
 split at h
 ·omega
 rename_i h4 h5;simp only[Bool.not_eq_false] at h3 h5;unfold lg at h3;unfold jl at h5;split at h3
 ·simp at h3
 rename_i h6;have a:(0<=m∧m<=l)∨(l=1∧m=0):=by
  split at h3
  ·exact Or.inl (of_decide_eq_true h3)
  ·exact Or.inr (of_decide_eq_true h3)
 have c:(0<=g∧g<=65535)∨g=0:=by
  split at h5
  ·exact Or.inl (of_decide_eq_true h5)
  ·exact Or.inr (of_decide_eq_true h5)
 omega
theorem qi (k b l m:Int):lg k b l m=true↔(1<=l∧l<=24∧0<=b∧b<=24 - l∧(k=1->0<=m∧m<=l)∧(k≠1->l=1∧m=0)):=by
 unfold lg;split
 ·simp;omega
 ·split<;>simp<;>omega
theorem nN (k g:Int):jl k g=true↔(0<=g∧g<=65535∧(k≠7->k≠8->g=0)):=by
 unfold jl;split<;>simp<;>omega
theorem Gy {k b l m r g:Int} (h:k<0∨8<k):chk k b l m r g=3:=by unfold chk;rw[if_pos h]
theorem En {b l m r g:Int} (h:b=0∧l=0∧m=0∧r=0∧g=0):chk 0 b l m r g=0:=by unfold chk;simp[h]
theorem Eo {b l m r g:Int} (h:¬(b=0∧l=0∧m=0∧r=0∧g=0)):chk 0 b l m r g=2:=by unfold chk;rw[if_neg (by omega),if_pos rfl,if_neg h]
theorem Gz {k b l m r g:Int} (h:1<=k) (a:k<=8) (f:lg k b l m=false):chk k b l m r g=2:=by unfold chk;rw[if_neg (by omega),if_neg (by omega),if_pos f]
theorem GA {k b l m r g:Int} (h:1<=k) (c:k<=8) (f:lg k b l m=true) (a:r<0∨7<r):chk k b l m r g=4:=by unfold chk;rw[if_neg (by omega),if_neg (by omega),if_neg (by simp[f]),if_pos a]
theorem GC {k b l m r g:Int} (h:1<=k) (d:k<=8) (f:lg k b l m=true) (c:¬(r<0∨7<r)) (a:jl k g=false):chk k b l m r g=2:=by unfold chk;rw[if_neg (by omega),if_neg (by omega),if_neg (by simp[f]),if_neg c,if_pos a]
theorem GD {k b l m r g:Int} (h:1<=k) (d:k<=8) (f:lg k b l m=true) (c:¬(r<0∨7<r)) (a:jl k g=true):chk k b l m r g=0:=by unfold chk;rw[if_neg (by omega),if_neg (by omega),if_neg (by simp[f]),if_neg c,if_neg (by simp[a])]
end KP
open Go.RowKit
theorem hZ {a b:Bool} (h:a=b):Ending.returned (.bool a)=.returned (.bool b):=by rw[h]
theorem rN {W w1:World} (a:Below W.heap.size W w1):(∀b o,b<W.heap.size->w1.cell? ⟨b,o,none⟩=W.cell? ⟨b,o,none⟩)∧(∀b o,b<W.heap.size->w1.frozen? ⟨b,o,none⟩=W.frozen? ⟨b,o,none⟩):=
 ⟨fun b o h=>a.cell (p:=⟨b,o,none⟩) h,fun b o h=>a.frozen (p:=⟨b,o,none⟩) h⟩
def yH (n:Int):Value:=if n=0 then .nilIface else .iface 36 (.int .i64 n)
theorem jC (k b l m r g:Int) (w:World):
  Calls Tryz.prog 181 #[.agg #[.int .i64 k,.int .i64 b,.int .i64 l,.int .i64 m,.int .i64 r,.int .i64 g]] w
   fun e w'=>e=.returned (.bool (KP.lg k b l m))∧Below w.heap.size w w':=by
 go_enter Tryz.func181,Tryz.ntmps181
 go_wp2
 all_goals
  go_ret
  exact⟨hZ (by rw[Bool.eq_iff_iff,KP.qi];simp at*;omega),(Below.refl _ _).alloc (Nat.le_refl _) _⟩
theorem pX (k b l m r g:Int) (w:World):
  Calls Tryz.prog 182 #[.agg #[.int .i64 k,.int .i64 b,.int .i64 l,.int .i64 m,.int .i64 r,.int .i64 g]] w
   fun e w'=>e=.returned (.bool (KP.jl k g))∧Below w.heap.size w w':=by
 go_enter Tryz.func182,Tryz.ntmps182
 go_wp2
 all_goals
  go_ret
  exact⟨hZ (by rw[Bool.eq_iff_iff,KP.nN];simp at*;omega),(Below.refl _ _).alloc (Nat.le_refl _) _⟩
theorem jn (k b l m r g:Int) (w:World):
  Calls Tryz.prog 172 #[.agg #[.int .i64 k,.int .i64 b,.int .i64 l,.int .i64 m,.int .i64 r,.int .i64 g]] w
   fun e w'=>e=.returned (yH (KP.chk k b l m r g))∧Below w.heap.size w w':=by
 by_cases f:k<0∨8<k
 ·rw[KP.Gy f];rcases f with f|f
  all_goals
   go_enter Tryz.func172,Tryz.ntmps172
   go_wp2_with fail
   go_ret
   exact⟨rfl,(Below.refl _ _).alloc (Nat.le_refl _) _⟩
 have q:0<=k:=by omega
 have i:k<=8:=by omega
 by_cases o:k=0
 ·subst o;by_cases c:b=0∧l=0∧m=0∧r=0∧g=0
  ·rw[KP.En c];obtain⟨rfl,rfl,rfl,rfl,rfl⟩:=c;go_enter Tryz.func172,Tryz.ntmps172
   go_wp2_with fail
   go_ret
   exact⟨rfl,(Below.refl _ _).alloc (Nat.le_refl _) _⟩
  ·rw[KP.Eo c];have p:=c;go_enter Tryz.func172,Tryz.ntmps172
   go_wp2_with fail
   all_goals first|(go_ret;exact⟨rfl,(Below.refl _ _).alloc (Nat.le_refl _) _⟩)|exact absurd ⟨by assumption,by assumption,by assumption,by assumption,by assumption⟩ p
 have h:1<=k:=by omega
 have s:(k==0)=false:=by simp[o]
 cases hf:KP.lg k b l m with
 |false=>
  rw[KP.Gz h i hf];go_enter Tryz.func172,Tryz.ntmps172
  go_wp2_with (go_at_call 181;refine (jC _ _ _ _ _ _ _).mono ?_;rintro e w' ⟨rfl,a⟩;obtain⟨n,c⟩:=rN a)
  go_ret
  exact⟨rfl,((Below.refl _ _).alloc (Nat.le_refl _) _).trans (a.mono (by simp))⟩
 |true=>
  by_cases d:r<0∨7<r
  ·rw[KP.GA h i hf d];rcases d with d|d
   all_goals
    go_enter Tryz.func172,Tryz.ntmps172
    go_wp2_with (go_at_call 181;refine (jC _ _ _ _ _ _ _).mono ?_;rintro e w' ⟨rfl,a⟩;obtain⟨n,c⟩:=rN a)
    go_ret
    exact⟨rfl,((Below.refl _ _).alloc (Nat.le_refl _) _).trans (a.mono (by simp))⟩
  have t:0<=r:=by omega
  have u:r<=7:=by omega
  cases hg:KP.jl k g with
  |false=>
   rw[KP.GC h i hf d hg];go_enter Tryz.func172,Tryz.ntmps172
   go_wp2_with (first|(go_at_call 181;refine (jC _ _ _ _ _ _ _).mono ?_;rintro e w1 ⟨rfl,a⟩;obtain⟨n,c⟩:=rN a)|(go_at_call 182;refine (pX _ _ _ _ _ _ _).mono ?_;rintro e w2 ⟨rfl,j⟩))
   go_ret
   exact⟨rfl,(((Below.refl _ _).alloc (Nat.le_refl _) _).trans (a.mono (by simp))).trans (j.mono (by have:=a.size;simp at this;omega))⟩
  |true=>
   rw[KP.GD h i hf d hg];go_enter Tryz.func172,Tryz.ntmps172
   go_wp2_with (first|(go_at_call 181;refine (jC _ _ _ _ _ _ _).mono ?_;rintro e w1 ⟨rfl,a⟩;obtain⟨n,c⟩:=rN a)|(go_at_call 182;refine (pX _ _ _ _ _ _ _).mono ?_;rintro e w2 ⟨rfl,j⟩))
   go_ret
   exact⟨rfl,(((Below.refl _ _).alloc (Nat.le_refl _) _).trans (a.mono (by simp))).trans (j.mono (by have:=a.size;simp at this;omega))⟩
theorem fU {W:World} {B:Nat} {a:Array Value} (h:∀o,W.cell? ⟨B,o,none⟩=a[o]?) (i:Nat) (hi:i<a.size) (v:Value):
  ∀o,(W.setCell ⟨B,i,none⟩ v).cell? ⟨B,o,none⟩=(a.setIfInBounds i v)[o]? :=by
 intro o;by_cases b:i=o
 ·subst b;rw[World.cell?_setCell_same W _ _ ((h i).trans (Array.getElem?_eq_getElem hi))];simp[hi]
 ·rw[World.cell?_setCell_other W _ _ _ (by intro e;cases e;exact b rfl),h o];simp[b]
theorem gx {W:World} {C:Nat} {a:Array Value} (h:∀o,W.cell? ⟨C,o,none⟩=a[o]?) (b:C<W.heap.size) (c:Obj):
  ∀o,(W.alloc c).cell? ⟨C,o,none⟩=a[o]? :=by
 intro o;rw[World.cell?_alloc_lt _ _ ⟨C,o,none⟩ b,h o]
theorem uN {W:World} {C:Nat} (h:∀o,W.frozen? ⟨C,o,none⟩=false) (a:C<W.heap.size) (b:Obj):
  ∀o,(W.alloc b).frozen? ⟨C,o,none⟩=false:=by
 intro o;rw[World.frozen?_alloc_old _ _ ⟨C,o,none⟩ (Nat.ne_of_lt a),h o]
open Go.RowKit Go.Extern.Stop Go.Stop Go.Extern
theorem bal {w w':World} (h:Below w.heap.size w w') (o:Obj):Below w.heap.size w (w'.alloc o):=h.alloc h.size o
theorem btr {w w1 w2:World} (h:Below w.heap.size w w1) (a:Below w1.heap.size w1 w2):Below w.heap.size w w2:=h.trans (a.mono h.size)
open Go.RowKit
theorem mw (k b l m r g:Int):KP.chk k b l m r g=
  if k<0∨8<k then 3 else if k=0 then (if b=0∧l=0∧m=0∧r=0∧g=0 then 0 else 2)
  else if ¬(1<=l∧l<=24∧0<=b∧b<=24 - l∧(k=1->0<=m∧m<=l)∧(k≠1->l=1∧m=0)) then 2
  else if r<0∨7<r then 4
  else if ¬(0<=g∧g<=65535∧(k≠7->k≠8->g=0)) then 2 else 0:=by
 have a:=KP.qi k b l m;have c:=KP.nN k g;unfold KP.chk;simp only[<-a, <-c,Bool.not_eq_true]
theorem fF (v a:Int) (w:World):
  Calls Tryz.prog 33 #[.int .i64 v,.int .i64 a] w fun e w'=>e=.returned (.bool (decide (v<0∨a<v)))∧w=w':=by
 go_enter Tryz.func33,Tryz.ntmps33
 go_wp2
 all_goals
  go_ret
  exact⟨hZ (by first|rfl|simp|(rw[Bool.eq_iff_iff];simp;omega)),rfl⟩
namespace Wd
open Go.RowKit Mem Bw Nums Mmu
def kv (s:Nat->Int):Array Value:=#[.int .i64 (s 0),.int .i64 (s 1),.int .i64 (s 2),.int .i64 (s 3),.int .i64 (s 4),.int .i64 (s 5)]
def kc (s:Nat->Int):Int:=KP.chk (s 0) (s 1) (s 2) (s 3) (s 4) (s 5)
def anB (x y:Int):Int:=bits .andNot .i64 x y
def cmB (f s:Nat->Int):Bool:=if f 0=1 then s 0 !=1&&decide (f 1<=s 1∧s 1<=f 1+f 3 - 1) else s 0==f 0&&s 1==f 1&&anB (s 4) (f 4)==0&&(f 5==0||s 5==f 5)
def up (p:PW):Nat->Int->Int
 |0,a=>a
 |n+1,a=>if fT p a then up p n ((p.IB.getD a.toNat (fun _=> -1)) 6) else a
def vT (p:PW) (a:Int):Bool:=fT p (up p p.IB.length a)
theorem Dx {p:PW} {a:Int} (h:fT p a=false):∀n,up p n a=a
 |0=>rfl
 |n+1=>by unfold up;rw[h];rfl
theorem gr {p:PW} {a:Int} (h:fT p a=true):∃j:Nat,a=j∧j<p.IB.length:=by
 have b:=ay h;exact⟨a.toNat,oA,oA⟩
theorem Bp {p:PW} {j n:Nat} (a:j<p.IB.length):up p (n+1) j=up p n (p.IB[j] 6):=by
 have h:fT p (j:Int)=true:=aA oA;rw[up,h,ah rfl,af,aa,ac a];rfl
theorem ph (vb:Nat) (V:Nat->Value) (p:PW) (a:Int) (w:World) (d:ei w vb V p):
  Calls Tryz.prog 153 #[.pointer (some ⟨vb,0,none⟩),.int .i64 a] w fun r w'=>r=.returned (.bool (vT p a))∧w=w':=by
 have c2:=r11 2 d.r;obtain⟨q,b,off,cap,e2,o,u⟩:=d.v.IB;have hl:(p.IB.length:Int)<=1000:=by have:=d.f.IB;omega
 have l:=hid o;have n:=hid u;have g:=hid d;go_enter Tryz.func153,Tryz.ntmps153
 go_wp2_with fail
 go_loopw [1,11] (fun t i wr=>∃(k:Nat) (x:Int),k<=p.IB.length∧i=.int .i64 k∧t=.int .i64 x∧Hid (up p p.IB.length a=up p (p.IB.length - k) x)∧Hid (w=wr)) (fun _ i _=>p.IB.length - (intOf i).toNat)
 case atStart=>exact⟨0,a,oA,rfl,rfl,hid rfl,hid rfl⟩
 case round=>
  obtain⟨k,x,hk,rfl,rfl,e,m⟩:=hrel;obtain rfl:=m.out;by_cases C:k<p.IB.length
  ·have D:(k:Int)<(p.IB.length:Int):=oA;go_wp2_with fail
   refine (jI vb V p x w g).mono ?_;rintro r w1 ⟨rfl,rfl⟩
   cases hs:fT p x with
   |false=>
    have c:=hid (show vT p a=false by unfold vT;rw[e.out,Dx hs,hs]);go_wp2_with fail
    go_ret
    exact⟨by rw[c.out];rfl,rfl⟩
   |true=>
    obtain⟨j,rfl,h⟩:=gr hs;have B:(j:Int)<(p.IB.length:Int):=oA;have s:=l.out oA;subst s;have c6:=cS (n.out j h) (dm 7 _ 6 oA);have c:=hid (show up p p.IB.length a=up p (p.IB.length - (k+1)) (p.IB[j] 6) by
     rw[e.out,show p.IB.length - k=(p.IB.length - (k+1))+1 by omega,Bp h])
    generalize p.IB[j] 6=y at c6 c;go_wp2_with fail
    exact⟨⟨k+1,y,oA,by go_num,rfl,c,hid oS⟩,by simp[intOf];omega⟩
  ·obtain rfl:k=p.IB.length:=oA;have A:¬((p.IB.length:Int)<(p.IB.length:Int)):=oA;have c:=hid (show vT p a=fT p x by unfold vT;rw[e.out,Nat.sub_self];rfl);go_wp2_with fail
   refine (jI vb V p x w g).mono ?_;rintro r w1 ⟨rfl,rfl⟩;generalize fT p x=z at c ⊢;go_wp2_with fail
   go_ret
   exact⟨by rw[c.out];rfl,rfl⟩
theorem rP (f s:Nat->Int) (w:World) (x:kc f=0):
  Calls Tryz.prog 174 #[.agg (kv f),.agg (kv s)] w fun r w'=>r=.returned (.bool (cmB f s))∧Below w.heap.size w w':=by
 obtain⟨-, -,b0,b1, -, -,m0,m1, -, -, -, -⟩:=KP.kz x;have a:=hid (show cmB f s=if f 0=1 then s 0 !=1&&decide (f 1<=s 1∧s 1<=f 1+f 3 - 1) else s 0==f 0&&s 1==f 1&&anB (s 4) (f 4)==0&&(f 5==0||s 5==f 5) from rfl);have b:=hid (bal (bal (ag w.heap.size w) (.cells (kv f) 78)) (.cells (kv s) 78));unfold kv anB at*;generalize f 0=g at*;generalize f 1=c at*;generalize f 2=z at*;generalize f 3=n at*;generalize f 4=f4 at*;generalize f 5=o at*;generalize s 0=h at*;generalize s 1=e at*;generalize s 2=D at*;generalize s 3=E at*;generalize s 4=k at*;generalize s 5=F at*;by_cases i:g=1
 ·rw[ah i] at a;subst i;by_cases d:h=1
  ·subst d;go_enter Tryz.func174,Tryz.ntmps174
   go_wp2_with fail
   go_ret
   exact⟨by rw[a.out];rfl,b.out⟩
  ·have p:(h !=1)=true:=by simpa using d
   rw[p,dF] at a;go_enter Tryz.func174,Tryz.ntmps174
   go_wp2_with fail
   refine (eD e c (c+n - 1) _).mono ?_;rintro r w1 ⟨rfl,rfl⟩;generalize decide (c<=e∧e<=c+n - 1)=y at a ⊢;go_wp2_with fail
   go_ret
   exact⟨by rw[a.out];rfl,b.out⟩
 ·rw[ae i] at a;have A:(g==1)=false:=by simpa using i
  by_cases d:h=g
  ·subst d;by_cases l:e=c
   ·subst l;by_cases m:bits .andNot .i64 k f4=0
    ·have j:(bits .andNot .i64 k f4==0)=true:=by simpa using m
     by_cases q:o=0
     ·subst q;go_enter Tryz.func174,Tryz.ntmps174
      go_wp2_with fail
      go_ret
      exact⟨by rw[a.out,j];simp,b.out⟩
     ·have v:(o==0)=false:=by simpa using q
      go_enter Tryz.func174,Tryz.ntmps174
      go_wp2_with fail
      go_ret
      exact⟨by rw[a.out,j,v];simp,b.out⟩
    ·have j:(bits .andNot .i64 k f4==0)=false:=by simpa using m
     have C:(bits .andNot .i64 k f4 !=0)=true:=by simpa using m
     go_enter Tryz.func174,Tryz.ntmps174
     go_wp2_with fail
     go_ret
     exact⟨by rw[a.out,j];simp,b.out⟩
   ·have B:(e !=c)=true:=by simpa using l
    have u:(e==c)=false:=by simpa using l
    go_enter Tryz.func174,Tryz.ntmps174
    go_wp2_with fail
    go_ret
    exact⟨by rw[a.out,u];simp,b.out⟩
  ·have p:(h !=g)=true:=by simpa using d
   have t:(h==g)=false:=by simpa using d
   go_enter Tryz.func174,Tryz.ntmps174
   go_wp2_with fail
   go_ret
   exact⟨by rw[a.out,t];simp,b.out⟩
def opB (p:PW) (s:Nat->Int):Bool:=kc s==0&&decide (s 1+s 2<=(p.kinds.length:Int))&&(s 0==1||isB p (s 1) (s 0))
theorem vV {k:Int} (h:¬k=0):yH k=.iface 36 (.int .i64 k):=by unfold yH;rw[ae h]
theorem xI (vb:Nat) (V:Nat->Value) (p:PW) (s:Nat->Int) (w:World) (J:ei w vb V p) (hk:0<p.kinds.length):
  Calls Tryz.prog 151 #[.pointer (some ⟨vb,0,none⟩),.agg (kv s)] w fun r w'=>r=.returned (.bool (opB p s))∧Below w.heap.size w w':=by
 have k:=hid (bal (ag w.heap.size w) (.cells (kv s) 78));have l:=hid (bM w (kv s) 78);have M:=hid (show ∀W,Below w.heap.size w W->W.cell? ⟨vb,1,none⟩=some (V 1) from fun W a=>ai (J.below a).r rfl);obtain⟨q,b,off,cap,e1,hq,hz⟩:=J.v.kinds;obtain rfl:=hq hk;rw[e1] at M;have hl:(p.kinds.length:Int)<=1000:=by have:=J.f.kinds;omega
 have T:=hid hz;have N:=hid (show (w.alloc (.cells (kv s) 78)).heap.size=w.heap.size+1 by simp);have t:=hid (fun W=>jn (s 0) (s 1) (s 2) (s 3) (s 4) (s 5) W);have i:=hid (show opB p s=(KP.chk (s 0) (s 1) (s 2) (s 3) (s 4) (s 5)==0&&decide (s 1+s 2<=(p.kinds.length:Int))&&(s 0==1||isB p (s 1) (s 0))) from rfl);have G:=hid (show KP.chk (s 0) (s 1) (s 2) (s 3) (s 4) (s 5)=0->0<=s 1∧s 1<=23∧0<=s 2∧s 2<=24∧(s 1+s 2<=(p.kinds.length:Int)->s 1<(p.kinds.length:Int)) from fun h=>by
  obtain⟨k0,k1,b0,b1,l0,l1,m0,m1,r0,r1,P,Q⟩:=KP.kz h;refine⟨b0,b1,l0,l1,fun h2=>?_⟩;rw[mw] at h;split at h
  ·omega
  split at h
  ·split at h
   ·omega
   ·omega
  split at h
  ·omega
  ·omega)
 have L:=hid (show ∀j:Nat,(x:j<p.kinds.length)->isB p (j:Int) (s 0)=(p.kinds[j]==s 0) from fun j x=>by unfold isB;rw[gy x];rfl);unfold kv at*;generalize s 0=g at*;generalize s 1=d at*;generalize s 2=s2 at*;generalize s 3=y at*;generalize s 4=A at*;generalize s 5=B at*;generalize KP.chk g d s2 y A B=O at t i G;go_enter Tryz.func151,Tryz.ntmps151
 go_wp2_with fail
 generalize World.alloc _ _=D at k l N ⊢;have u:=hid (show ∀W,Below D.heap.size D W->W.cell? ⟨w.heap.size,0,none⟩=some (.int .i64 g)∧W.cell? ⟨w.heap.size,1,none⟩=some (.int .i64 d)∧W.cell? ⟨w.heap.size,2,none⟩=some (.int .i64 s2)∧W.cell? ⟨w.heap.size,3,none⟩=some (.int .i64 y)∧W.cell? ⟨w.heap.size,4,none⟩=some (.int .i64 A)∧W.cell? ⟨w.heap.size,5,none⟩=some (.int .i64 B)∧W.cell? ⟨vb,1,none⟩=some (.slice (some ⟨b,off,none⟩) p.kinds.length cap) from fun W a=>by
  have n:w.heap.size<D.heap.size:=by rw[N.out];omega
  exact⟨cZ l n a 0,cZ l n a 1,cZ l n a 2,cZ l n a 3,cZ l n a 4,cZ l n a 5,M.out W (btr k a)⟩)
 have C:=hid (aD D 1);by_cases H:O=0
 ·subst H;obtain⟨b0,b1,l0,l1,R⟩:=G.out rfl;rw[show yH 0=.nilIface from rfl] at t;have ad:IntKind.i64.wrap (d+s2)=d+s2:=bZ _ oA oA
  go_region_held3 (fun W=>W.cell? ⟨w.heap.size,0,none⟩=some (.int .i64 g)∧W.cell? ⟨w.heap.size,1,none⟩=some (.int .i64 d)∧W.cell? ⟨w.heap.size,2,none⟩=some (.int .i64 s2)∧W.cell? ⟨w.heap.size,3,none⟩=some (.int .i64 y)∧W.cell? ⟨w.heap.size,4,none⟩=some (.int .i64 A)∧W.cell? ⟨w.heap.size,5,none⟩=some (.int .i64 B)∧W.cell? ⟨vb,1,none⟩=some (.slice (some ⟨b,off,none⟩) p.kinds.length cap))
   (first|exact u _ e|exact u _ C)
   (first|(go_at_call 172;refine (t.out _).mono ?_;rintro r w1 ⟨rfl,a⟩;have e:=hid (btr C a);clear a))
  have U:=hid (fun W (a:Below w1.heap.size w1 W)=>u.out W (btr e a));by_cases F:d+s2<=(p.kinds.length:Int)
  ·have aa:¬(p.kinds.length:Int)<d+s2:=oA;have ac:=R F;obtain⟨j,rfl⟩:∃j:Nat,d=j:=⟨d.toNat,oA⟩
   have x:j<p.kinds.length:=oA;have Y:=(T.below (btr k e)) j x;rw[L.out j x] at i;generalize p.kinds[j]=z at Y i;obtain⟨P,Q, -, -, -, -,Z⟩:=U.out w1 (ag _ _);by_cases E:g=1
   ·have m:=hid (show opB p s=true by rw[i.out,aA F,E];rfl);subst E;clear i L G R;go_wp2_with fail
    go_quiet (fail)
    have o:=hid (aE (btr k e) nq);generalize World.drewN _ _=X at o ⊢;go_wp2_with fail
    go_ret
    exact⟨by rw[m.out];rfl,o.out⟩
   ·have m:=hid (show opB p s=(z==g) by rw[i.out,aA F,show (g==1)=false by simpa using E];simp);have ab:(g==1)=false:=by simpa using E
    go_wp2_with fail
    go_quiet (fail)
    have o:=hid (aE (btr k e) nq);generalize World.drewN _ _=X at o ⊢;go_wp2_with fail
    go_ret
    exact⟨by rw[m.out];rfl,o.out⟩
  ·have aa:(p.kinds.length:Int)<d+s2:=oA;have m:=hid (show opB p s=false by rw[i.out,aw F];simp);go_wp2_with fail
   go_ret
   exact⟨by rw[m.out];rfl,btr k e⟩
 ·have m:=hid (show opB p s=false by rw[i.out,show (O==0)=false by simpa using H];rfl);rw[vV H] at t;refine wp_region_held_drew (S:=fun W=>W.cell? ⟨w.heap.size,0,none⟩=some (.int .i64 g)∧W.cell? ⟨w.heap.size,1,none⟩=some (.int .i64 d)∧W.cell? ⟨w.heap.size,2,none⟩=some (.int .i64 s2)∧W.cell? ⟨w.heap.size,3,none⟩=some (.int .i64 y)∧W.cell? ⟨w.heap.size,4,none⟩=some (.int .i64 A)∧W.cell? ⟨w.heap.size,5,none⟩=some (.int .i64 B)∧W.cell? ⟨vb,1,none⟩=some (.slice (some ⟨b,off,none⟩) p.kinds.length cap)) oK (u.out _ C) (fun I=>?_);have hH:=hid I;refine tg 0 (.agg #[.int .i64 g,.int .i64 d,.int .i64 s2,.int .i64 y,.int .i64 A,.int .i64 B]) rfl (Or.inl ⟨oR,fun W h=>by obtain⟨P,Q,g2,g3,g4,g5,Z⟩:=h;go_simp⟩) hH ?_;simp only[jj];refine wpAnyH_ready (rs:=[1]) oK oS (AllReadyH.cons rfl (fun K hK=>?_) AllReadyH.nil);go_simp
  refine (t.out _).mono ?_;rintro r w1 ⟨rfl,a⟩;have e:=hid (btr C a);go_wp2_with fail
  refine hK _ _ (u.out _ e) (fun I=>?_);have c:=hid I
  try simp only[Act.put,jD,jE,jF]
  refine tk 2 (.bool true) rfl c ?_;simp only[jj];refine tk 3 (.bool true) rfl c ?_;simp only[jj];refine tn 4 undef rfl c ?_;simp only[jj];refine tn 5 undef rfl c ?_;simp only[jj];refine tn 6 undef rfl c ?_;simp only[jj];refine tn 7 undef rfl c ?_;simp only[jj];refine tn 8 undef rfl c ?_;simp only[jj];refine tn 9 undef rfl c ?_;simp only[jj];refine tn 10 undef rfl c ?_;simp only[jj];refine tn 11 undef rfl c ?_;simp only[jj];refine tn 12 undef rfl c ?_;simp only[jj];refine tn 13 undef rfl c ?_;simp only[jj];refine tn 14 undef rfl c ?_;simp only[jj];refine tn 15 undef rfl c ?_;simp only[jj];refine tk 16 (.bool true) rfl c ?_;simp only[jj];refine dK oK ?_ _;go_wp2_with fail
  go_ret
  exact⟨by rw[m.out];rfl,btr k e⟩
def zk (p:PW) (s:Nat->Int):Nat->Int:=p.IB.getD (s 6).toNat fun _=> -1
def mdB (p:PW) (s:Nat->Int):Bool:=s 6== -1||(fT p (s 6)&&(kc (zk p s)==0&&cmB (zk p s) s))
theorem iN {W:World} {b o:Nat} {cs:List Value} {v:Value} (h:W.rangeAt b o cs) (a:cs[0]? =some v):W.cell? ⟨b,o,none⟩=some v:=by
 have:=cS h a
 rwa [bO] at this
theorem pN (s:Nat->Int):(cf 7 s).toArray=#[.int .i64 (s 0),.int .i64 (s 1),.int .i64 (s 2),.int .i64 (s 3),.int .i64 (s 4),.int .i64 (s 5),.int .i64 (s 6)]:=rfl
theorem uT (vb:Nat) (V:Nat->Value) (p:PW) (s:Nat->Int) (w:World) (y:ei w vb V p):
  Calls Tryz.prog 152 #[.pointer (some ⟨vb,0,none⟩),.agg (cf 7 s).toArray] w fun r w'=>r=.returned (.bool (mdB p s))∧Below w.heap.size w w':=by
 rw[pN];have g:=hid (bal (ag w.heap.size w) (.cells #[.int .i64 (s 0),.int .i64 (s 1),.int .i64 (s 2),.int .i64 (s 3),.int .i64 (s 4),.int .i64 (s 5),.int .i64 (s 6)] 80));have B:=bM w #[.int .i64 (s 0),.int .i64 (s 1),.int .i64 (s 2),.int .i64 (s 3),.int .i64 (s 4),.int .i64 (s 5),.int .i64 (s 6)] 80;have L:=hid (show (w.alloc (.cells #[.int .i64 (s 0),.int .i64 (s 1),.int .i64 (s 2),.int .i64 (s 3),.int .i64 (s 4),.int .i64 (s 5),.int .i64 (s 6)] 80)).heap.size=w.heap.size+1 by simp);have c2:=r11 2 (y.below g).r;obtain⟨q,b,off,cap,e2,hq,hz⟩:=y.v.IB;have hl:(p.IB.length:Int)<=1000:=by have:=y.f.IB;omega
 have E:=hid (y.below g);have U:=hid hq;have X:=hid hz;have n:=hid (show mdB p s=(s 6== -1||(fT p (s 6)&&(kc (p.IB.getD (s 6).toNat fun _=> -1)==0&&cmB (p.IB.getD (s 6).toNat fun _=> -1) s))) from rfl);generalize s 6=x at*;by_cases N:x= -1
 ·subst N;have e:=hid (show mdB p s=true by rw[n.out];rfl);go_enter Tryz.func152,Tryz.ntmps152
  go_wp2_with fail
  go_ret
  exact⟨by rw[e.out];rfl,g.out⟩
 have Z:(x== -1)=false:=by simpa using N
 rw[Z,Bool.false_or] at n
 cases hsl:fT p x with
 |false=>
  have e:=hid (show mdB p s=false by rw[n.out,hsl];rfl);have D:=hid hsl;go_enter Tryz.func152,Tryz.ntmps152
  go_wp2_with fail
  refine (jI vb V p x _ E).mono ?_;rintro r w1 ⟨rfl,rfl⟩;rw[D.out];go_wp2_with fail
  go_ret
  exact⟨by rw[e.out];rfl,g.out⟩
 |true=>
  obtain⟨j,rfl,O⟩:=gr hsl;have ab:(j:Int)<(p.IB.length:Int):=oA;obtain rfl:=U.out oA;have C:=hid (show mdB p s=(kc p.IB[j]==0&&cmB p.IB[j] s) by
   rw[n.out,hsl,af,aa,ac O];rfl)
  have D:=hid hsl;have F:=hid (dN (X.out j O) g);generalize p.IB[j]=f at C F;go_enter Tryz.func152,Tryz.ntmps152
  go_wp2_with fail
  refine (jI vb V p j _ E).mono ?_;rintro r w1 ⟨rfl,rfl⟩;rw[D.out];generalize World.alloc _ _=a at*;go_upto_region 5 with fail
  have t:=hid (show ∀W,Below a.heap.size a W->W.cell? ⟨vb,2,none⟩=some (V 2)∧W.cell? ⟨w.heap.size,6,none⟩=some (.int .i64 j)∧W.cell? ⟨b,off+j*7,none⟩=some (.int .i64 (f 0))∧W.cell? ⟨b,off+j*7+1,none⟩=some (.int .i64 (f 1))∧W.cell? ⟨b,off+j*7+2,none⟩=some (.int .i64 (f 2))∧W.cell? ⟨b,off+j*7+3,none⟩=some (.int .i64 (f 3))∧W.cell? ⟨b,off+j*7+4,none⟩=some (.int .i64 (f 4))∧W.cell? ⟨b,off+j*7+5,none⟩=some (.int .i64 (f 5)) from fun W d=>by
   have u:w.heap.size<a.heap.size:=by rw[L.out];omega
   have i:=dN F d;exact⟨ai (E.below d).r rfl,cZ B u d 6,iN i (dm 7 _ 0 oA),cS i (dm 7 _ 1 oA),cS i (dm 7 _ 2 oA),cS i (dm 7 _ 3 oA),cS i (dm 7 _ 4 oA),cS i (dm 7 _ 5 oA)⟩)
  rw[e2] at t;have A:=hid (aD a 1);have S:=hid (fun W=>jn (f 0) (f 1) (f 2) (f 3) (f 4) (f 5) W);have H:=hid (fun W (h:kc f=0)=>rP f s W h);unfold kv at H;have I:=hid (show kc f=KP.chk (f 0) (f 1) (f 2) (f 3) (f 4) (f 5) from rfl)
  go_region_held3 (fun W=>W.cell? ⟨vb,2,none⟩=some (.slice (some ⟨b,off,none⟩) p.IB.length cap)∧W.cell? ⟨w.heap.size,6,none⟩=some (.int .i64 j)∧W.cell? ⟨b,off+j*7,none⟩=some (.int .i64 (f 0))∧W.cell? ⟨b,off+j*7+1,none⟩=some (.int .i64 (f 1))∧W.cell? ⟨b,off+j*7+2,none⟩=some (.int .i64 (f 2))∧W.cell? ⟨b,off+j*7+3,none⟩=some (.int .i64 (f 3))∧W.cell? ⟨b,off+j*7+4,none⟩=some (.int .i64 (f 4))∧W.cell? ⟨b,off+j*7+5,none⟩=some (.int .i64 (f 5)))
   (first|exact t _ (bal A _)|exact t _ A)
   (fail)
  have c:=hid (show ∀o,((a.alloc (.cells #[.int .i64 (f 0),.int .i64 (f 1),.int .i64 (f 2),.int .i64 (f 3),.int .i64 (f 4),.int .i64 (f 5)] 78)).drew).cell? ⟨a.heap.size,o,none⟩=(#[.int .i64 (f 0),.int .i64 (f 1),.int .i64 (f 2),.int .i64 (f 3),.int .i64 (f 4),.int .i64 (f 5)]:Array Value)[o]? from bM a #[.int .i64 (f 0),.int .i64 (f 1),.int .i64 (f 2),.int .i64 (f 3),.int .i64 (f 4),.int .i64 (f 5)] 78);have z:=hid (show Below a.heap.size a ((a.alloc (.cells #[.int .i64 (f 0),.int .i64 (f 1),.int .i64 (f 2),.int .i64 (f 3),.int .i64 (f 4),.int .i64 (f 5)] 78)).drew) from btr (bal (ag a.heap.size a) (.cells #[.int .i64 (f 0),.int .i64 (f 1),.int .i64 (f 2),.int .i64 (f 3),.int .i64 (f 4),.int .i64 (f 5)] 78)) (aD _ 1));have u:w.heap.size<a.heap.size:=by rw[L.out];omega
  have M:=hid (cZ B u z);have Q:a.heap.size<((a.alloc (.cells #[.int .i64 (f 0),.int .i64 (f 1),.int .i64 (f 2),.int .i64 (f 3),.int .i64 (f 4),.int .i64 (f 5)] 78)).drew).heap.size:=aj _ ⟨a.heap.size,0,none⟩ (c.out 0);have P:w.heap.size<((a.alloc (.cells #[.int .i64 (f 0),.int .i64 (f 1),.int .i64 (f 2),.int .i64 (f 3),.int .i64 (f 4),.int .i64 (f 5)] 78)).drew).heap.size:=oA;have K:=hid Q;have J:=hid P;generalize World.drew _=Y at c z M K J ⊢;clear t A B u Q P F;have x0:=c.out 0;have x1:=c.out 1;have x2:=c.out 2;have x3:=c.out 3;have x4:=c.out 4;have x5:=c.out 5;go_wp2_with fail
  refine (S.out Y).mono ?_;rintro r w2 ⟨rfl,d⟩;have l:=hid (cZ c K d);have k:=hid (cZ M J d);have G:=hid (btr z d);by_cases m:kc f=0
  ·rw[<-I.out,m,show yH 0=.nilIface from rfl];have e:=hid (show mdB p s=cmB f s by rw[C.out,m];rfl);have T:=hid (fun W=>H.out W m);have x0:=l.out 0;have x1:=l.out 1;have x2:=l.out 2;have x3:=l.out 3;have x4:=l.out 4;have x5:=l.out 5;have y0:=k.out 0;have y1:=k.out 1;have y2:=k.out 2;have y3:=k.out 3;have y4:=k.out 4;have y5:=k.out 5;go_wp2_with fail
   refine (T.out w2).mono ?_;rintro r w3 ⟨rfl,d⟩;have R:=hid (btr G d);generalize cmB f s=bb at e ⊢;go_wp2_with fail
   go_ret
   exact⟨by rw[e.out];rfl,btr g R⟩
  ·rw[<-I.out,vV m];have e:=hid (show mdB p s=false by rw[C.out,show (kc f==0)=false by simpa using m];rfl);generalize kc f=kk at m ⊢;go_wp2_with fail
   go_ret
   exact⟨by rw[e.out];rfl,btr g G⟩
