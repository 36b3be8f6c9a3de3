/- Uae -/
import Derived.Test.YtnccmdndkmmhcaaGreatDoorChecked
import Derived.WalkKit
import Derived.WalkSpells
import Derived.WalkLawsBesides
import Derived.Laws.EntriesVeiled
import Derived.Laws.BitsLemmas
import Derived.Laws.Bits64
import Derived.Test.YtnccmdndkmmhcaaGreatDoorProg
import Derived.LaidEql
import Derived.Stop.Asserts
import Derived.RowKitTokens
import Derived.BigQuiet
import Derived.Deep.RegionHeld3
import Derived.Test.YtnccmdndkmmhcaaGreatDoorUad
set_option maxRecDepth 100000
set_option maxHeartbeats 16000000
namespace Go.Proofs.YtnccmdndkmmhcaaGreatDoor
namespace KP
def kW (k b l m:Int):Bool:=
 if l<1∨24<l∨b<0∨24 - l<b then false
 else if k=1 then decide (0<=m∧m<=l) else decide (l=1∧m=0)
def jf (k g:Int):Bool:=
 if k=7∨k=8 then decide (0<=g∧g<=65535) else decide (g=0)
def chk (k b l m r g:Int):Int:=
 if k<0∨8<k then 3
 else if k=0 then (if b=0∧l=0∧m=0∧r=0∧g=0 then 0 else 2)
 else if kW k b l m=false then 2
 else if r<0∨7<r then 4
 else if jf k g=false then 2
 else 0
theorem ky {k b l m r g:Int} (h:chk k b l m r g=0):
  0<=k∧k<=8∧0<=b∧b<=23∧0<=l∧l<=24∧0<=m∧m<=24∧0<=r∧r<=7∧0<=g∧g<=65535:=by
 unfold chk at h;split at h
 ·omega
 split at h
 ·split at h<;>omega
 split at h
 ·omega
 rename_i h1 h2 h3;split at h
 ·omega
 split at h
 ·omega
 rename_i h4 h5;simp only[Bool.not_eq_false] at h3 h5;unfold kW at h3;unfold jf at h5;split at h3
 ·simp at h3
 rename_i h6;have a:(0<=m∧m<=l)∨(l=1∧m=0):=by
  split at h3
  ·exact Or.inl (of_decide_eq_true h3)
  ·exact Or.inr (of_decide_eq_true h3)
 have c:(0<=g∧g<=65535)∨g=0:=by
  split at h5
  ·exact Or.inl (of_decide_eq_true h5)
  ·exact Or.inr (of_decide_eq_true h5)
 omega
theorem qE (k b l m:Int):kW k b l m=true↔(1<=l∧l<=24∧0<=b∧b<=24 - l∧(k=1->0<=m∧m<=l)∧(k≠1->l=1∧m=0)):=by
 unfold kW;split
 ·simp;omega
 ·split<;>simp<;>omega
theorem nP (k g:Int):jf k g=true↔(0<=g∧g<=65535∧(k≠7->k≠8->g=0)):=by
 unfold jf;split<;>simp<;>omega
theorem Gz {k b l m r g:Int} (h:k<0∨8<k):chk k b l m r g=3:=by unfold chk;rw[if_pos h]
theorem Em {b l m r g:Int} (h:b=0∧l=0∧m=0∧r=0∧g=0):chk 0 b l m r g=0:=by unfold chk;simp[h]
theorem En {b l m r g:Int} (h:¬(b=0∧l=0∧m=0∧r=0∧g=0)):chk 0 b l m r g=2:=by unfold chk;rw[if_neg (by omega),if_pos rfl,if_neg h]
theorem GA {k b l m r g:Int} (h:1<=k) (a:k<=8) (f:kW k b l m=false):chk k b l m r g=2:=by unfold chk;rw[if_neg (by omega),if_neg (by omega),if_pos f]
theorem GC {k b l m r g:Int} (h:1<=k) (c:k<=8) (f:kW k b l m=true) (a:r<0∨7<r):chk k b l m r g=4:=by unfold chk;rw[if_neg (by omega),if_neg (by omega),if_neg (by simp[f]),if_pos a]
theorem GD {k b l m r g:Int} (h:1<=k) (d:k<=8) (f:kW k b l m=true) (c:¬(r<0∨7<r)) (a:jf k g=false):chk k b l m r g=2:=by unfold chk;rw[if_neg (by omega),if_neg (by omega),if_neg (by simp[f]),if_neg c,if_pos a]
theorem GF {k b l m r g:Int} (h:1<=k) (d:k<=8) (f:kW k b l m=true) (c:¬(r<0∨7<r)) (a:jf k g=true):chk k b l m r g=0:=by unfold chk;rw[if_neg (by omega),if_neg (by omega),if_neg (by simp[f]),if_neg c,if_neg (by simp[a])]
end KP
open Go.RowKit
theorem gY {a b:Bool} (h:a=b):Ending.returned (.bool a)=.returned (.bool b):=by rw[h]
theorem se {W w1:World} (a:Below W.heap.size W w1):(∀b o,b<W.heap.size->w1.cell? ⟨b,o,none⟩=W.cell? ⟨b,o,none⟩)∧(∀b o,b<W.heap.size->w1.frozen? ⟨b,o,none⟩=W.frozen? ⟨b,o,none⟩):=
 ⟨fun b o h=>a.cell (p:=⟨b,o,none⟩) h,fun b o h=>a.frozen (p:=⟨b,o,none⟩) h⟩
def wD (n:Int):Value:=if n=0 then .nilIface else .iface 45 (.int .i64 n)
theorem jB (k b l m r g:Int) (w:World):
  Calls Tryz.prog 244 #[.agg #[.int .i64 k,.int .i64 b,.int .i64 l,.int .i64 m,.int .i64 r,.int .i64 g]] w
   fun e w'=>e=.returned (.bool (KP.kW k b l m))∧Below w.heap.size w w':=by
 go_enter Tryz.func244,Tryz.ntmps244
 go_wp2
 all_goals
  go_ret
  exact⟨gY (by rw[Bool.eq_iff_iff,KP.qE];simp at*;omega),(Below.refl _ _).alloc (Nat.le_refl _) _⟩
theorem qg (k b l m r g:Int) (w:World):
  Calls Tryz.prog 245 #[.agg #[.int .i64 k,.int .i64 b,.int .i64 l,.int .i64 m,.int .i64 r,.int .i64 g]] w
   fun e w'=>e=.returned (.bool (KP.jf k g))∧Below w.heap.size w w':=by
 go_enter Tryz.func245,Tryz.ntmps245
 go_wp2
 all_goals
  go_ret
  exact⟨gY (by rw[Bool.eq_iff_iff,KP.nP];simp at*;omega),(Below.refl _ _).alloc (Nat.le_refl _) _⟩
theorem qj (k b l m r g:Int) (w:World):
  Calls Tryz.prog 191 #[.agg #[.int .i64 k,.int .i64 b,.int .i64 l,.int .i64 m,.int .i64 r,.int .i64 g]] w
   fun e w'=>e=.returned (wD (KP.chk k b l m r g))∧Below w.heap.size w w':=by
 by_cases f:k<0∨8<k
 ·rw[KP.Gz f];rcases f with f|f
  all_goals
   go_enter Tryz.func191,Tryz.ntmps191
   go_wp2_with fail
   go_ret
   exact⟨rfl,(Below.refl _ _).alloc (Nat.le_refl _) _⟩
 have q:0<=k:=by omega
 have i:k<=8:=by omega
 by_cases o:k=0
 ·subst o;by_cases c:b=0∧l=0∧m=0∧r=0∧g=0
  ·rw[KP.Em c];obtain⟨rfl,rfl,rfl,rfl,rfl⟩:=c;go_enter Tryz.func191,Tryz.ntmps191
   go_wp2_with fail
   go_ret
   exact⟨rfl,(Below.refl _ _).alloc (Nat.le_refl _) _⟩
  ·rw[KP.En c];have p:=c;go_enter Tryz.func191,Tryz.ntmps191
   go_wp2_with fail
   all_goals first|(go_ret;exact⟨rfl,(Below.refl _ _).alloc (Nat.le_refl _) _⟩)|exact absurd ⟨by assumption,by assumption,by assumption,by assumption,by assumption⟩ p
 have h:1<=k:=by omega
 have s:(k==0)=false:=by simp[o]
 cases hf:KP.kW k b l m with
 |false=>
  rw[KP.GA h i hf];go_enter Tryz.func191,Tryz.ntmps191
  go_wp2_with (go_at_call 244;refine (jB _ _ _ _ _ _ _).mono ?_;rintro e w' ⟨rfl,a⟩;obtain⟨n,c⟩:=se a)
  go_ret
  exact⟨rfl,((Below.refl _ _).alloc (Nat.le_refl _) _).trans (a.mono (by simp))⟩
 |true=>
  by_cases d:r<0∨7<r
  ·rw[KP.GC h i hf d];rcases d with d|d
   all_goals
    go_enter Tryz.func191,Tryz.ntmps191
    go_wp2_with (go_at_call 244;refine (jB _ _ _ _ _ _ _).mono ?_;rintro e w' ⟨rfl,a⟩;obtain⟨n,c⟩:=se a)
    go_ret
    exact⟨rfl,((Below.refl _ _).alloc (Nat.le_refl _) _).trans (a.mono (by simp))⟩
  have t:0<=r:=by omega
  have u:r<=7:=by omega
  cases hg:KP.jf k g with
  |false=>
   rw[KP.GD h i hf d hg];go_enter Tryz.func191,Tryz.ntmps191
   go_wp2_with (first|(go_at_call 244;refine (jB _ _ _ _ _ _ _).mono ?_;rintro e w1 ⟨rfl,a⟩;obtain⟨n,c⟩:=se a)|(go_at_call 245;refine (qg _ _ _ _ _ _ _).mono ?_;rintro e w2 ⟨rfl,j⟩))
   go_ret
   exact⟨rfl,(((Below.refl _ _).alloc (Nat.le_refl _) _).trans (a.mono (by simp))).trans (j.mono (by have:=a.size;simp at this;omega))⟩
  |true=>
   rw[KP.GF h i hf d hg];go_enter Tryz.func191,Tryz.ntmps191
   go_wp2_with (first|(go_at_call 244;refine (jB _ _ _ _ _ _ _).mono ?_;rintro e w1 ⟨rfl,a⟩;obtain⟨n,c⟩:=se a)|(go_at_call 245;refine (qg _ _ _ _ _ _ _).mono ?_;rintro e w2 ⟨rfl,j⟩))
   go_ret
   exact⟨rfl,(((Below.refl _ _).alloc (Nat.le_refl _) _).trans (a.mono (by simp))).trans (j.mono (by have:=a.size;simp at this;omega))⟩
theorem fM {W:World} {B:Nat} {a:Array Value} (h:∀o,W.cell? ⟨B,o,none⟩=a[o]?) (i:Nat) (hi:i<a.size) (v:Value):
  ∀o,(W.setCell ⟨B,i,none⟩ v).cell? ⟨B,o,none⟩=(a.setIfInBounds i v)[o]? :=by
 intro o;by_cases b:i=o
 ·subst b;rw[World.cell?_setCell_same W _ _ ((h i).trans (Array.getElem?_eq_getElem hi))];simp[hi]
 ·rw[World.cell?_setCell_other W _ _ _ (by intro e;cases e;exact b rfl),h o];simp[b]
theorem fe {W:World} {C:Nat} {a:Array Value} (h:∀o,W.cell? ⟨C,o,none⟩=a[o]?) (b:C<W.heap.size) (c:Obj):
  ∀o,(W.alloc c).cell? ⟨C,o,none⟩=a[o]? :=by
 intro o;rw[World.cell?_alloc_lt _ _ ⟨C,o,none⟩ b,h o]
theorem vg {W:World} {C:Nat} (h:∀o,W.frozen? ⟨C,o,none⟩=false) (a:C<W.heap.size) (b:Obj):
  ∀o,(W.alloc b).frozen? ⟨C,o,none⟩=false:=by
 intro o;rw[World.frozen?_alloc_old _ _ ⟨C,o,none⟩ (Nat.ne_of_lt a),h o]
open Go.RowKit Go.Extern.Stop Go.Stop Go.Extern
theorem bal {w w':World} (h:Below w.heap.size w w') (o:Obj):Below w.heap.size w (w'.alloc o):=h.alloc h.size o
theorem btr {w w1 w2:World} (h:Below w.heap.size w w1) (a:Below w1.heap.size w1 w2):Below w.heap.size w w2:=h.trans (a.mono h.size)
open Go.RowKit
theorem mx (k b l m r g:Int):KP.chk k b l m r g=
  if k<0∨8<k then 3 else if k=0 then (if b=0∧l=0∧m=0∧r=0∧g=0 then 0 else 2)
  else if ¬(1<=l∧l<=24∧0<=b∧b<=24 - l∧(k=1->0<=m∧m<=l)∧(k≠1->l=1∧m=0)) then 2
  else if r<0∨7<r then 4
  else if ¬(0<=g∧g<=65535∧(k≠7->k≠8->g=0)) then 2 else 0:=by
 have a:=KP.qE k b l m;have c:=KP.nP k g;unfold KP.chk;simp only[<-a, <-c,Bool.not_eq_true]
theorem fy (v a:Int) (w:World):
  Calls Tryz.prog 62 #[.int .i64 v,.int .i64 a] w fun e w'=>e=.returned (.bool (decide (v<0∨a<v)))∧w=w':=by
 go_enter Tryz.func62,Tryz.ntmps62
 go_wp2
 all_goals
  go_ret
  exact⟨gY (by first|rfl|simp|(rw[Bool.eq_iff_iff];simp;omega)),rfl⟩
namespace Wd
open Go.RowKit Mem Bw Nums Mmu
def kv (s:Nat->Int):Array Value:=#[.int .i64 (s 0),.int .i64 (s 1),.int .i64 (s 2),.int .i64 (s 3),.int .i64 (s 4),.int .i64 (s 5)]
def kc (s:Nat->Int):Int:=KP.chk (s 0) (s 1) (s 2) (s 3) (s 4) (s 5)
def anB (x y:Int):Int:=bits .andNot .i64 x y
def cmB (f s:Nat->Int):Bool:=if f 0=1 then s 0 !=1&&decide (f 1<=s 1∧s 1<=f 1+f 3 - 1) else s 0==f 0&&s 1==f 1&&anB (s 4) (f 4)==0&&(f 5==0||s 5==f 5)
def up (p:PW):Nat->Int->Int
 |0,a=>a
 |n+1,a=>if fL p a then up p n ((p.IH.getD a.toNat (fun _=> -1)) 6) else a
def yQ (p:PW) (a:Int):Bool:=fL p (up p p.IH.length a)
theorem DB {p:PW} {a:Int} (h:fL p a=false):∀n,up p n a=a
 |0=>rfl
 |n+1=>by unfold up;rw[h];rfl
theorem fQ {p:PW} {a:Int} (h:fL p a=true):∃j:Nat,a=j∧j<p.IH.length:=by
 have b:=aA h;exact⟨a.toNat,oA,oA⟩
theorem Bm {p:PW} {j n:Nat} (a:j<p.IH.length):up p (n+1) j=up p n (p.IH[j] 6):=by
 have h:fL p (j:Int)=true:=az oA;rw[up,h,ag rfl,ah,aa,ac a];rfl
theorem pw (vb:Nat) (V:Nat->Value) (p:PW) (a:Int) (w:World) (hv:d6 w vb V p):
  Calls Tryz.prog 138 #[.pointer (some ⟨vb,0,none⟩),.int .i64 a] w fun r w'=>r=.returned (.bool (yQ p a))∧w=w':=by
 have c2:=r11 2 hv.r;obtain⟨q,b,off,cap,e2,n,s⟩:=hv.v.IH;have hl:(p.IH.length:Int)<=1000:=by have:=hv.f.IH;omega
 have h:=hid n;have m:=hid s;have e:=hid hv;go_enter Tryz.func138,Tryz.ntmps138
 go_wp2_with fail
 go_loopw [1,11] (fun t i wr=>∃(k:Nat) (x:Int),k<=p.IH.length∧i=.int .i64 k∧t=.int .i64 x∧Hid (up p p.IH.length a=up p (p.IH.length - k) x)∧Hid (w=wr)) (fun _ i _=>p.IH.length - (intOf i).toNat)
 case atStart=>exact⟨0,a,oA,rfl,rfl,hid rfl,hid rfl⟩
 case round=>
  obtain⟨k,x,hk,rfl,rfl,d,l⟩:=hrel;obtain rfl:=l.out;by_cases B:k<p.IH.length
  ·have C:(k:Int)<(p.IH.length:Int):=oA;go_wp2_with fail
   refine (lh vb V p x w e).mono ?_;rintro r w1 ⟨rfl,rfl⟩
   cases hs:fL p x with
   |false=>
    have c:=hid (show yQ p a=false by unfold yQ;rw[d.out,DB hs,hs]);go_wp2_with fail
    go_ret
    exact⟨by rw[c.out];rfl,rfl⟩
   |true=>
    obtain⟨j,rfl,g⟩:=fQ hs;have A:(j:Int)<(p.IH.length:Int):=oA;have o:=h.out oA;subst o;have c6:=cC (m.out j g) (dk 7 _ 6 oA);have c:=hid (show up p p.IH.length a=up p (p.IH.length - (k+1)) (p.IH[j] 6) by
     rw[d.out,show p.IH.length - k=(p.IH.length - (k+1))+1 by omega,Bm g])
    generalize p.IH[j] 6=y at c6 c;go_wp2_with fail
    exact⟨⟨k+1,y,oA,by go_num,rfl,c,hid oS⟩,by simp[intOf];omega⟩
  ·obtain rfl:k=p.IH.length:=oA;have z:¬((p.IH.length:Int)<(p.IH.length:Int)):=oA;have c:=hid (show yQ p a=fL p x by unfold yQ;rw[d.out,Nat.sub_self];rfl);go_wp2_with fail
   refine (lh vb V p x w e).mono ?_;rintro r w1 ⟨rfl,rfl⟩;generalize fL p x=u at c ⊢;go_wp2_with fail
   go_ret
   exact⟨by rw[c.out];rfl,rfl⟩
theorem sg (f s:Nat->Int) (w:World) (v:kc f=0):
  Calls Tryz.prog 193 #[.agg (kv f),.agg (kv s)] w fun r w'=>r=.returned (.bool (cmB f s))∧Below w.heap.size w w':=by
 obtain⟨-, -,b0,b1, -, -,m0,m1, -, -, -, -⟩:=KP.ky v;have a:=hid (show cmB f s=if f 0=1 then s 0 !=1&&decide (f 1<=s 1∧s 1<=f 1+f 3 - 1) else s 0==f 0&&s 1==f 1&&anB (s 4) (f 4)==0&&(f 5==0||s 5==f 5) from rfl);have b:=hid (bal (bal (af w.heap.size w) (.cells (kv f) 32)) (.cells (kv s) 32));unfold kv anB at*;generalize f 0=g at*;generalize f 1=c at*;generalize f 2=y at*;generalize f 3=m at*;generalize f 4=f4 at*;generalize f 5=n at*;generalize s 0=s0 at*;generalize s 1=e at*;generalize s 2=C at*;generalize s 3=D at*;generalize s 4=j at*;generalize s 5=E at*;by_cases h:g=1
 ·rw[ag h] at a;subst h;by_cases d:s0=1
  ·subst d;go_enter Tryz.func193,Tryz.ntmps193
   go_wp2_with fail
   go_ret
   exact⟨by rw[a.out];rfl,b.out⟩
  ·have o:(s0 !=1)=true:=by simpa using d
   rw[o,eH] at a;go_enter Tryz.func193,Tryz.ntmps193
   go_wp2_with fail
   refine (ey e c (c+m - 1) _).mono ?_;rintro r w1 ⟨rfl,rfl⟩;generalize decide (c<=e∧e<=c+m - 1)=x at a ⊢;go_wp2_with fail
   go_ret
   exact⟨by rw[a.out];rfl,b.out⟩
 ·rw[ae h] at a;have z:(g==1)=false:=by simpa using h
  by_cases d:s0=g
  ·subst d;by_cases k:e=c
   ·subst k;by_cases l:bits .andNot .i64 j f4=0
    ·have i:(bits .andNot .i64 j f4==0)=true:=by simpa using l
     by_cases p:n=0
     ·subst p;go_enter Tryz.func193,Tryz.ntmps193
      go_wp2_with fail
      go_ret
      exact⟨by rw[a.out,i];simp,b.out⟩
     ·have u:(n==0)=false:=by simpa using p
      go_enter Tryz.func193,Tryz.ntmps193
      go_wp2_with fail
      go_ret
      exact⟨by rw[a.out,i,u];simp,b.out⟩
    ·have i:(bits .andNot .i64 j f4==0)=false:=by simpa using l
     have B:(bits .andNot .i64 j f4 !=0)=true:=by simpa using l
     go_enter Tryz.func193,Tryz.ntmps193
     go_wp2_with fail
     go_ret
     exact⟨by rw[a.out,i];simp,b.out⟩
   ·have A:(e !=c)=true:=by simpa using k
    have t:(e==c)=false:=by simpa using k
    go_enter Tryz.func193,Tryz.ntmps193
    go_wp2_with fail
    go_ret
    exact⟨by rw[a.out,t];simp,b.out⟩
  ·have o:(s0 !=g)=true:=by simpa using d
   have q:(s0==g)=false:=by simpa using d
   go_enter Tryz.func193,Tryz.ntmps193
   go_wp2_with fail
   go_ret
   exact⟨by rw[a.out,q];simp,b.out⟩
def opB (p:PW) (s:Nat->Int):Bool:=kc s==0&&decide (s 1+s 2<=(p.kinds.length:Int))&&(s 0==1||isB p (s 1) (s 0))
def zy (p:PW) (s:Nat->Int):Nat->Int:=p.IH.getD (s 6).toNat fun _=> -1
def mdB (p:PW) (s:Nat->Int):Bool:=s 6== -1||(fL p (s 6)&&(kc (zy p s)==0&&cmB (zy p s) s))
theorem hV {W:World} {b o:Nat} {cs:List Value} {v:Value} (h:W.rangeAt b o cs) (hv:cs[0]? =some v):W.cell? ⟨b,o,none⟩=some v:=by
 have:=cC h hv
 rwa [bu] at this
theorem pZ (s:Nat->Int):(cf 7 s).toArray=#[.int .i64 (s 0),.int .i64 (s 1),.int .i64 (s 2),.int .i64 (s 3),.int .i64 (s 4),.int .i64 (s 5),.int .i64 (s 6)]:=rfl
def atV (p:PW) (t:Int):Int:=match p.II[t.toNat]? with|some f=>f 14|none=> -1
def wtB (p:PW) (t:Int):Bool:=match p.II[t.toNat]? with|some f=>f 9==4|none=>false
theorem AL {p:PW} {j:Nat} (h:j<p.II.length):atV p j=p.II[j] 14:=by
 unfold atV;rw[ah,ac h]
theorem Bt {p:PW} {j:Nat} (h:j<p.II.length):wtB p j=(p.II[j] 9==4):=by
 unfold wtB;rw[ah,ac h]
def tB (p:PW) (n z0 t:Int):Bool:= !(isB p t 6&&atV p t==n&&wtB p t==wtB p z0)
def hdB (k x:Int) (n:Nat):Bool:=(decide (0<n)&&k !=8&&k !=7)||(x !=0&&(k !=8||decide (0<n)|| !wB x))
def blB (p:PW) (n k x:Int) (zs:List Int):Bool:=hdB k x zs.length||zs.any (tB p n (zs.getD 0 0))
theorem Ds {p:PW} {n z0 t:Int} (h:tB p n z0 t=false):isB p t 6=true:=by
 unfold tB at h;simp only[cU,am] at h;exact h.1.1
theorem qd (vb:Nat) (V:Nat->Value) (p:PW) (n:Nat) (x:Value) (zs:List Int) (w:World) (hv:d6 w vb V p) (hk:n<p.kinds.length) (o:n<p.bits.length) (u:ed w x zs) (hl:zs.length<=1000) (hh:hdB p.kinds[n] p.bits[n] zs.length=true):
  Calls Tryz.prog 56 #[.pointer (some ⟨vb,0,none⟩),.int .i64 n,x] w fun r w'=>r=.returned (.bool true)∧w=w':=by
 have c1:=r11 1 hv.r;have C:=r11 5 hv.r;obtain⟨q,b,off,cap,rfl, -, -⟩:=u;obtain⟨q1,b1,L,D,e1,s,z⟩:=hv.v.kinds;obtain⟨N,b5,M,E,e5,t,B⟩:=hv.v.bits;have I:(p.kinds.length:Int)<=1000:=by have:=hv.f.kinds;omega
 have K:(p.bits.length:Int)<=1000:=by have:=hv.f.bits;omega
 have J:(zs.length:Int)<=1000:=oA;have H:(n:Int)<(p.kinds.length:Int):=oA;have G:(n:Int)<(p.bits.length:Int):=oA;obtain rfl:=s oA;obtain rfl:=t oA;have d1:=z n hk;have l:=B n o;have a:=hid hh;generalize p.kinds[n]=k at d1 a;generalize p.bits[n]=y at l a;by_cases i:0<zs.length
 ·have A:(0:Int)<(zs.length:Int):=oA;by_cases c:k=8
  ·subst c;have d:¬y=0:=fun e=>by
    have:=a.out;subst e;simp[hdB] at this
   have h:(y !=0)=true:=by simpa using d
   go_enter Tryz.func56,Tryz.ntmps56
   go_wp2_with fail
   go_ret
   exact⟨rfl,rfl⟩
  ·have m:(k==8)=false:=by simpa using c
   by_cases g:k=7
   ·subst g;have d:¬y=0:=fun e=>by
     have:=a.out;subst e;simp[hdB] at this
    have h:(y !=0)=true:=by simpa using d
    go_enter Tryz.func56,Tryz.ntmps56
    go_wp2_with fail
    go_ret
    exact⟨rfl,rfl⟩
   ·have F:(k !=7)=true:=by simpa using g
    go_enter Tryz.func56,Tryz.ntmps56
    go_wp2_with fail
    go_ret
    exact⟨rfl,rfl⟩
 ·have A:¬(0:Int)<(zs.length:Int):=oA;have d:¬y=0:=fun e=>by
   have:=a.out;subst e;simp[hdB,i] at this
  have h:(y !=0)=true:=by simpa using d
  by_cases c:k=8
  ·subst c;have j:=hid (show wB y=false by
    have:=a.out;simp[hdB,i] at this;exact this.2)
   go_enter Tryz.func56,Tryz.ntmps56
   go_wp2_with fail
   refine (gC y w).mono ?_;rintro e w1 ⟨rfl,rfl⟩;rw[j.out];go_wp2_with fail
   go_ret
   exact⟨rfl,rfl⟩
  ·have m:(k==8)=false:=by simpa using c
   go_enter Tryz.func56,Tryz.ntmps56
   go_wp2_with fail
   go_ret
   exact⟨rfl,rfl⟩
theorem GR {zs:List Int} (h:0<zs.length):zs[0]=zs.getD 0 0:=by simp[List.getD,h]
theorem qe (vb:Nat) (V:Nat->Value) (p:PW) (n:Nat) (x:Value) (zs:List Int) (w:World) (hv:d6 w vb V p) (ht:p.II.length=p.kinds.length) (hk:n<p.kinds.length) (aj:n<p.bits.length) (hx:ed w x zs) (hl:zs.length<=1000) (hh:hdB p.kinds[n] p.bits[n] zs.length=false):
  Calls Tryz.prog 56 #[.pointer (some ⟨vb,0,none⟩),.int .i64 n,x] w fun r w'=>r=.returned (.bool (zs.any (tB p n (zs.getD 0 0))))∧Below w.heap.size w w':=by
 have c1:=r11 1 hv.r;have c5:=r11 5 hv.r;have U:=hid (show ∀W,Below w.heap.size w W->W.cell? ⟨vb,3,none⟩=some (V 3) from fun W N=>ai (hv.below N).r rfl);obtain⟨q,b,off,cap,rfl,hq,aB⟩:=hx;obtain⟨q1,b1,aO,aC,e1,aq,ax⟩:=hv.v.kinds;obtain⟨q5,b5,aQ,aE,e5,au,aA⟩:=hv.v.bits;obtain⟨q3,b3,aP,aD,e3,ar,az⟩:=hv.v.II;rw[e3] at U;have aJ:(p.kinds.length:Int)<=1000:=by have:=hv.f.kinds;omega
 have aM:(p.bits.length:Int)<=1000:=by have:=hv.f.bits;omega
 have aL:(p.II.length:Int)<=1000:=by have:=hv.f.II;omega
 have aK:(zs.length:Int)<=1000:=oA;have aI:(n:Int)<(p.kinds.length:Int):=oA;have aH:(n:Int)<(p.bits.length:Int):=oA;obtain rfl:=aq oA;obtain rfl:=au oA;have d1:=ax n hk;have d5:=aA n aj;have G:=hid hh;have S:=hid hv;have R:=hid ht;have HQ:=hid hq;have T:=hid aB;have ae:=hid ar;have ag:=hid az;generalize p.kinds[n]=k at d1 G;generalize p.bits[n]=y at d5 G;have I:=hid (fun (h:0<zs.length)=>GR h);generalize zs.getD 0 0=z0 at I ⊢;by_cases o:0<zs.length
 ·have ay:(0:Int)<(zs.length:Int):=oA;have av:=HQ.out o;subst av;have g:y=0:=by
   have:=G.out;simp[hdB,o] at this;exact this.2
  subst g;by_cases M:k=8
  ·subst M;go_enter Tryz.func56,Tryz.ntmps56
   go_wp2_with fail
   go_loopw [69] (fun i wr=>∃a:Nat,a<=zs.length∧i=.int .i64 a∧Hid (∀j (d:j<zs.length),j<a->tB p n (z0) zs[j]=false)∧Hid (Below w.heap.size w wr)) (fun i _=>zs.length - (intOf i).toNat)
   case atStart=>exact⟨0,oA,rfl,hid fun j _ h=>oA,hid (af _ _)⟩
   case round=>
    obtain⟨a,ao,rfl,D,c⟩:=hrel;by_cases O:a<zs.length
    ·have ap:(a:Int)<(zs.length:Int):=oA;have c0:=(T.below c) a O;have Q:=(T.below c) 0 o;rw[bu] at Q;have B:=hid (show tB p n (z0) zs[a]=true->zs.any (tB p n (z0))=true from fun h=>sa a O h);have L:=hid (show tB p n (z0) zs[a]=false->∀j (d:j<zs.length),j<a+1->tB p n (z0) zs[j]=false from fun Z j d an=>by
      by_cases e:j=a
      ·subst e;exact Z
      ·exact D j d oA)
     have H:=hid (show isB p zs[a] 6=true->isB p (z0) 6=true from fun h=>by
      rw[<-I.out o];by_cases e:a=0
      ·subst e;exact h
      ·exact Ds (D.out 0 o oA))
     rw[I.out o] at Q;have d3:=U.out wr c;generalize zs[a]=z at c0 B L H;go_wp2_with fail
     refine (i7 vb V p z 6 wr (S.below c)).mono ?_;rintro r w1 ⟨rfl,rfl⟩
     cases hi:isB p z 6 with
     |false=>
      have l:=hid (B.out (by unfold tB;rw[hi];rfl));go_wp2_with fail
      go_ret
      exact⟨by rw[l.out];rfl,c.out⟩
     |true=>
      obtain⟨j,rfl,aa⟩:=jV hi;obtain⟨s,rfl,ab⟩:=jV (H.out hi);have d:j<p.II.length:=by rw[R.out];exact aa
      have ac:s<p.II.length:=by rw[R.out];exact ab
      have am:(j:Int)<(p.II.length:Int):=oA;have ad:=ae.out oA;subst ad;have Y:=cC (cS (ag.out j d) c) (dk 20 _ 14 oA);have E:=hid (show tB p n (s:Int) (j:Int)= !(p.II[j] 14==(n:Int)&&wtB p j==wtB p s) by
       unfold tB;rw[hi,AL d];rfl)
      have X:=hid (show ∀(m:Nat) (W:World),m<p.II.length->Below w.heap.size w W->Calls Tryz.prog 146 #[.pointer (some ⟨vb,0,none⟩),.int .i64 m] W (fun r w'=>r=.returned (.bool (wtB p m))∧w'=W) from fun m W P N=>(rX vb V p m W (S.below N) P).mono fun r w' h=>⟨by rw[h.1,Bt P],h.2.symm⟩);generalize p.II[j] 14=y at Y E;by_cases g:y=(n:Int)
      ·subst g;have A:=hid (show tB p n (s:Int) (j:Int)= !(wtB p j==wtB p s) by rw[E.out];simp);have J:=hid (fun m=>aG c m);go_wp2_with fail
       go_quiet (first|(go_at_call 146;refine bF (X.out _ _ ?_ (J.out _));first|exact d|exact ac))
       have t:=hid (J.out nq);generalize World.drewN _ _=W4 at t ⊢;generalize wtB p j=C at A ⊢;generalize wtB p s=u at A ⊢;have l:=hid (show C=u->_ from fun e=>L.out (by rw[A.out,e];cases u<;>rfl));have K:=hid (show C≠u->_ from fun e=>B.out (by rw[A.out];revert e;cases C<;>cases u<;>simp))
       cases C<;>cases u
       ·go_wp2_with fail
        exact⟨⟨a+1,oA,by go_num,hid (l.out rfl),t⟩,by simp[intOf];omega⟩
       ·go_wp2_with fail
        go_ret
        exact⟨by rw[K.out oD];rfl,t.out⟩
       ·go_wp2_with fail
        go_ret
        exact⟨by rw[K.out oD];rfl,t.out⟩
       ·go_wp2_with fail
        exact⟨⟨a+1,oA,by go_num,hid (l.out rfl),t⟩,by simp[intOf];omega⟩
      ·have l:=hid (B.out (by rw[E.out];simp[g]));have aw:(y !=(n:Int))=true:=by simpa using g
       go_wp2_with fail
       go_ret
       exact⟨by rw[l.out];rfl,c.out⟩
    ·obtain rfl:a=zs.length:=oA;have al:¬((zs.length:Int)<(zs.length:Int)):=oA;have F:=hid (vS fun k h=>D.out k h h);go_wp2_with fail
     go_ret
     exact⟨by rw[F.out];rfl,c.out⟩
  ·have aF:(k==8)=false:=by simpa using M
   have h7:k=7:=by
    have:=G.out;simp[hdB,o,M] at this;exact this
   subst h7;go_enter Tryz.func56,Tryz.ntmps56
   go_wp2_with fail
   go_loopw [69] (fun i wr=>∃a:Nat,a<=zs.length∧i=.int .i64 a∧Hid (∀j (d:j<zs.length),j<a->tB p n (z0) zs[j]=false)∧Hid (Below w.heap.size w wr)) (fun i _=>zs.length - (intOf i).toNat)
   case atStart=>exact⟨0,oA,rfl,hid fun j _ h=>oA,hid (af _ _)⟩
   case round=>
    obtain⟨a,ao,rfl,D,c⟩:=hrel;by_cases O:a<zs.length
    ·have ap:(a:Int)<(zs.length:Int):=oA;have c0:=(T.below c) a O;have Q:=(T.below c) 0 o;rw[bu] at Q;have B:=hid (show tB p n (z0) zs[a]=true->zs.any (tB p n (z0))=true from fun h=>sa a O h);have L:=hid (show tB p n (z0) zs[a]=false->∀j (d:j<zs.length),j<a+1->tB p n (z0) zs[j]=false from fun Z j d an=>by
      by_cases e:j=a
      ·subst e;exact Z
      ·exact D j d oA)
     have H:=hid (show isB p zs[a] 6=true->isB p (z0) 6=true from fun h=>by
      rw[<-I.out o];by_cases e:a=0
      ·subst e;exact h
      ·exact Ds (D.out 0 o oA))
     rw[I.out o] at Q;have d3:=U.out wr c;generalize zs[a]=z at c0 B L H;go_wp2_with fail
     refine (i7 vb V p z 6 wr (S.below c)).mono ?_;rintro r w1 ⟨rfl,rfl⟩
     cases hi:isB p z 6 with
     |false=>
      have l:=hid (B.out (by unfold tB;rw[hi];rfl));go_wp2_with fail
      go_ret
      exact⟨by rw[l.out];rfl,c.out⟩
     |true=>
      obtain⟨j,rfl,aa⟩:=jV hi;obtain⟨s,rfl,ab⟩:=jV (H.out hi);have d:j<p.II.length:=by rw[R.out];exact aa
      have ac:s<p.II.length:=by rw[R.out];exact ab
      have am:(j:Int)<(p.II.length:Int):=oA;have ad:=ae.out oA;subst ad;have Y:=cC (cS (ag.out j d) c) (dk 20 _ 14 oA);have E:=hid (show tB p n (s:Int) (j:Int)= !(p.II[j] 14==(n:Int)&&wtB p j==wtB p s) by
       unfold tB;rw[hi,AL d];rfl)
      have X:=hid (show ∀(m:Nat) (W:World),m<p.II.length->Below w.heap.size w W->Calls Tryz.prog 146 #[.pointer (some ⟨vb,0,none⟩),.int .i64 m] W (fun r w'=>r=.returned (.bool (wtB p m))∧w'=W) from fun m W P N=>(rX vb V p m W (S.below N) P).mono fun r w' h=>⟨by rw[h.1,Bt P],h.2.symm⟩);generalize p.II[j] 14=y at Y E;by_cases g:y=(n:Int)
      ·subst g;have A:=hid (show tB p n (s:Int) (j:Int)= !(wtB p j==wtB p s) by rw[E.out];simp);have J:=hid (fun m=>aG c m);go_wp2_with fail
       go_quiet (first|(go_at_call 146;refine bF (X.out _ _ ?_ (J.out _));first|exact d|exact ac))
       have t:=hid (J.out nq);generalize World.drewN _ _=W4 at t ⊢;generalize wtB p j=C at A ⊢;generalize wtB p s=u at A ⊢;have l:=hid (show C=u->_ from fun e=>L.out (by rw[A.out,e];cases u<;>rfl));have K:=hid (show C≠u->_ from fun e=>B.out (by rw[A.out];revert e;cases C<;>cases u<;>simp))
       cases C<;>cases u
       ·go_wp2_with fail
        exact⟨⟨a+1,oA,by go_num,hid (l.out rfl),t⟩,by simp[intOf];omega⟩
       ·go_wp2_with fail
        go_ret
        exact⟨by rw[K.out oD];rfl,t.out⟩
       ·go_wp2_with fail
        go_ret
        exact⟨by rw[K.out oD];rfl,t.out⟩
       ·go_wp2_with fail
        exact⟨⟨a+1,oA,by go_num,hid (l.out rfl),t⟩,by simp[intOf];omega⟩
      ·have l:=hid (B.out (by rw[E.out];simp[g]));have aw:(y !=(n:Int))=true:=by simpa using g
       go_wp2_with fail
       go_ret
       exact⟨by rw[l.out];rfl,c.out⟩
    ·obtain rfl:a=zs.length:=oA;have al:¬((zs.length:Int)<(zs.length:Int)):=oA;have F:=hid (vS fun k h=>D.out k h h);go_wp2_with fail
     go_ret
     exact⟨by rw[F.out];rfl,c.out⟩
 ·have ay:¬(0:Int)<(zs.length:Int):=oA;have ah:zs=[]:=List.length_eq_zero_iff.1 oA;have F:=hid (show zs.any (tB p n z0)=false by rw[ah];rfl);clear ah;by_cases g:y=0
  ·subst g;go_enter Tryz.func56,Tryz.ntmps56
   go_wp2_with fail
   go_loopw [69] (fun i wr=>i=.int .i64 0∧Hid (w=wr)) (fun _ _=>0)
   case atStart=>exact⟨rfl,hid rfl⟩
   case round=>
    obtain⟨rfl,c⟩:=hrel;obtain rfl:=c.out;go_wp2_with fail
    go_ret
    exact⟨by rw[F.out];rfl,af _ _⟩
  ·have aN:(y !=0)=true:=by simpa using g
   have M:k=8:=by
    have:=G.out;simp[hdB,o,g] at this;exact this.1
   have c:=hid (show wB y=true by
    have:=G.out;simp[hdB,o,g] at this;exact this.2)
   subst M;go_enter Tryz.func56,Tryz.ntmps56
   go_wp2_with fail
   refine (gC y w).mono ?_;rintro e w1 ⟨rfl,rfl⟩;rw[c.out];go_wp2_with fail
   go_loopw [69] (fun i wr=>i=.int .i64 0∧Hid (w=wr)) (fun _ _=>0)
   case atStart=>exact⟨rfl,hid rfl⟩
   case round=>
    obtain⟨rfl,c⟩:=hrel;obtain rfl:=c.out;go_wp2_with fail
    go_ret
    exact⟨by rw[F.out];rfl,af _ _⟩
theorem sd (vb:Nat) (V:Nat->Value) (p:PW) (n:Nat) (x:Value) (zs:List Int) (w:World) (hv:d6 w vb V p) (d:p.II.length=p.kinds.length) (hk:n<p.kinds.length) (a:n<p.bits.length) (b:ed w x zs) (hl:zs.length<=1000):
  Calls Tryz.prog 56 #[.pointer (some ⟨vb,0,none⟩),.int .i64 n,x] w fun r w'=>r=.returned (.bool (blB p n p.kinds[n] p.bits[n] zs))∧Below w.heap.size w w':=by
 unfold blB
 cases hh:hdB p.kinds[n] p.bits[n] zs.length with
 |true=>
  refine (qd vb V p n x zs w hv hk a b hl hh).mono ?_;rintro r w' ⟨rfl,rfl⟩;exact⟨rfl,af _ _⟩
 |false=>
  refine (qe vb V p n x zs w hv d hk a b hl hh).mono ?_;rintro r w' ⟨rfl,c⟩;exact⟨rfl,c⟩
theorem DP (w:World) (f:Nat->Int) (t:TypeId):(w.alloc (.cells (cf 20 f).toArray t)).rangeAt w.heap.size 0 (cf 20 f):=fun k v hk=>by
 rw[aC,cq w (cf 20 f).toArray t k];simpa using hk
theorem AN {W:World} {b:Nat} {f:Nat->Int} (h:W.rangeAt b 0 (cf 20 f)) (k:Nat) (hk:k<20):W.cell? ⟨b,k,none⟩=some (.int .i64 (f k)):=by
 have:=cC h (dk 20 f k hk)
 rwa [aC] at this
theorem _root_.Go.Proofs.YtnccmdndkmmhcaaGreatDoor.eB:type_of% @AN:= @AN
theorem Iy (f:Nat->Int) (W:World) (k:Nat) (hk:k<8):(Instr.index 35 (.agg #[.int .i64 (f 0),.int .i64 (f 1),.int .i64 (f 2),.int .i64 (f 3),.int .i64 (f 4),.int .i64 (f 5),.int .i64 (f 6),.int .i64 (f 7)]) (.int .i64 k)).run Tryz.prog W=.ok (.int .i64 (f k)) W:=by
 have b:=Tryz.underlying35;have a:k=0∨k=1∨k=2∨k=3∨k=4∨k=5∨k=6∨k=7:=oA;rcases a with rfl|rfl|rfl|rfl|rfl|rfl|rfl|rfl
 all_goals
  unfold Instr.index;simp[run_underlying b,asIntOf,go_sem,Sem.run_bind]
def ek (a b z:Int):Bool:=decide (a<=z∧z<=b)
theorem nz (z a b:Int) (w:World):Calls Tryz.prog 45 #[.int .i64 z,.int .i64 a,.int .i64 b] w fun e w'=>e=.returned (.bool (ek a b z))∧w=w':=ey z a b w
def Hk (f:Nat->Int):Bool:=(List.range 8).all fun k=>wB (f k)
def nfB (p:PW) (f:Nat->Int):Bool:=Hk f&&wB (f 8)&&wB (f 15)&&wB (f 16)&&ek 0 6 (f 9)&&ek 0 3 (f 10)&&ek 0 ((p.IJ.length:Int) - 1) (f 18)&&ek 0 3 (f 19)
theorem Dg {f:Nat->Int} (h:∀k,k<8->wB (f k)=true):Hk f=true:=aU.2 fun k hk=>h k (List.mem_range.1 hk)
def ffB (p:PW) (f:Nat->Int):Bool:=fB p (f 11) 5&&fB p (f 12) 4&&fB p (f 13) 7&&fB p (f 17) 6
theorem pd (vb:Nat) (V:Nat->Value) (p:PW) (f:Nat->Int) (w:World) (hv:d6 w vb V p):
  Calls Tryz.prog 141 #[.pointer (some ⟨vb,0,none⟩),.agg (cf 20 f).toArray] w fun r w'=>r=.returned (.bool (ffB p f))∧Below w.heap.size w w':=by
 have b:=hid (bal (af w.heap.size w) (.cells (cf 20 f).toArray 37));have d:=hid (DP w f 37);have c:=hid (hv.below b);have k:=eB d 11 oA;have l:=eB d 12 oA;have m:=eB d 13 oA;have n:=eB d 17 oA;go_enter Tryz.func141,Tryz.ntmps141
 go_wp2_with fail
 generalize World.alloc _ _=j at*;refine (mb vb V p (f 11) 5 _ c).mono ?_;rintro r w1 ⟨rfl,rfl⟩
 cases h11:fB p (f 11) 5 with
 |false=>
  have a:=hid (show ffB p f=false by unfold ffB;rw[h11];simp);go_wp2_with fail
  go_ret
  exact⟨by rw[a.out];rfl,b.out⟩
 |true=>
  have e:=hid h11;go_wp2_with fail
  refine (mb vb V p (f 12) 4 _ c).mono ?_;rintro r w1 ⟨rfl,rfl⟩
  cases h12:fB p (f 12) 4 with
  |false=>
   have a:=hid (show ffB p f=false by unfold ffB;rw[h12];simp);go_wp2_with fail
   go_ret
   exact⟨by rw[a.out];rfl,b.out⟩
  |true=>
   have g:=hid h12;go_wp2_with fail
   refine (mb vb V p (f 13) 7 _ c).mono ?_;rintro r w1 ⟨rfl,rfl⟩
   cases h13:fB p (f 13) 7 with
   |false=>
    have a:=hid (show ffB p f=false by unfold ffB;rw[h13];simp);go_wp2_with fail
    go_ret
    exact⟨by rw[a.out];rfl,b.out⟩
   |true=>
    have h:=hid h13;go_wp2_with fail
    refine (mb vb V p (f 17) 6 _ c).mono ?_;rintro r w1 ⟨rfl,rfl⟩
    cases h17:fB p (f 17) 6 with
    |false=>
     have a:=hid (show ffB p f=false by unfold ffB;rw[h17];simp);go_wp2_with fail
     go_ret
     exact⟨by rw[a.out];rfl,b.out⟩
    |true=>
     have i:=hid h17;go_wp2_with fail
     go_ret
     exact⟨by unfold ffB;rw[e.out,g.out,h.out,i.out];rfl,b.out⟩
def ow (n:Int) (z:Nat->Int):Nat:=if z 17=n then 1 else 0
theorem Hg (n:Int) (z:Nat->Int):ow n z<=1:=by unfold ow;split<;>omega
def stV (p:PW) (t:Int):Int:=match p.II[t.toNat]? with|some f=>f 9|none=> -1
theorem yx {p:PW} {j:Nat} (h:j<p.II.length):stV p j=p.II[j] 9:=by
 unfold stV;rw[ah,ac h]
def owB (p:PW) (f:Nat->Int):Bool:=f 17== -1||(stV p (f 17)==5&&f 9 !=4)
def dbB (p:PW) (n:Int) (f:Nat->Int):Bool:=owB p f&&(if f 9=5 then ((ez (ow n) p.II:Nat):Int)==1 else ((ez (ow n) p.II:Nat):Int)==0)
theorem qt (vb:Nat) (V:Nat->Value) (p:PW) (n:Int) (f:Nat->Int) (w:World) (hv:d6 w vb V p) (ho:f 17= -1∨∃j:Nat,j<p.II.length∧f 17=j):
  Calls Tryz.prog 142 #[.pointer (some ⟨vb,0,none⟩),.int .i64 n,.agg (cf 20 f).toArray] w fun r w'=>r=.returned (.bool (dbB p n f))∧Below w.heap.size w w':=by
 have d:=hid (bal (af w.heap.size w) (.cells (cf 20 f).toArray 37));have D:=hid (DP w f 37);have I:=eB D 17 oA;have J:=eB D 9 oA;have S:=r11 3 (hv.below d).r;obtain⟨q,b3,Z,ad,e3,hq,hz⟩:=hv.v.II;have hl:(p.II.length:Int)<=1000:=by have:=hv.f.II;omega
 have M:=hid hq;have O:=hid hz;have HV:=hid hv;have S0:=hid (show (w.alloc (.cells (cf 20 f).toArray 37)).heap.size=w.heap.size+1 by simp);by_cases F:f 17= -1
 case' neg=>
  obtain⟨j,X,U⟩:=ho.resolve_left F;have aj:(j:Int)<(p.II.length:Int):=oA;have G:=M.out oA;subst G;have cj:=cC (cS (O.out j X) d) (dk 20 _ 9 oA);have g:=hid (show owB p f=(p.II[j] 9==5&&f 9 !=4) by unfold owB;rw[U,yx X,show ((j:Int)== -1)=false by simp];rfl);have al:((j:Int) != -1)=true:=oS;rw[U] at I;generalize p.II[j] 9=y at cj g;by_cases b:y=5
  rotate_left
  ·have a:=hid (show dbB p n f=false by unfold dbB;rw[g.out,show (y==5)=false by simpa using b];rfl);have ac:(y !=5)=true:=by simpa using b
   go_enter Tryz.func142,Tryz.ntmps142
   go_wp2_with fail
   go_quiet (fail)
   have BS:=hid (aG d nq);generalize World.drewN _ _=m at BS ⊢;go_wp2_with fail
   go_ret
   exact⟨by rw[a.out];rfl,BS.out⟩
  subst b;by_cases o:f 9=4
  ·have a:=hid (show dbB p n f=false by unfold dbB;rw[g.out,o];rfl);rw[o] at J;go_enter Tryz.func142,Tryz.ntmps142
   go_wp2_with fail
   go_quiet (fail)
   have BS:=hid (aG d nq);generalize World.drewN _ _=m at BS ⊢;go_wp2_with fail
   go_ret
   exact⟨by rw[a.out];rfl,BS.out⟩
  have a:=hid (show owB p f=true by rw[g.out];simp[o]);have ah:(f 9==4)=false:=by simpa using o
 case' pos=>
  have a:=hid (show owB p f=true by unfold owB;rw[F];rfl);rw[F] at I
 all_goals
  go_enter Tryz.func142,Tryz.ntmps142
  go_wp2_with fail
  go_quiet (fail)
  have BS:=hid (aG d nq);have T:(((w.alloc (.cells (cf 20 f).toArray 37)).drewN nq)).cell? ⟨vb,3,none⟩=some (V 3):=S;have P:=hid (show ((w.alloc (.cells (cf 20 f).toArray 37)).drewN nq).rangeAt w.heap.size 0 (cf 20 f) from D);generalize World.drewN _ _=m at BS T P ⊢;clear S I J S0;go_wp2_with fail
  clear T
  go_loopw [7,37] (fun t i wr=>∃k c:Nat,k<=p.II.length∧i=.int .i64 k∧t=.int .i64 c∧Hid (c=ez (ow n) (p.II.take k))∧Hid (Below m.heap.size m wr)) (fun _ i _=>p.II.length - (intOf i).toNat)
  case atStart=>exact⟨0,0,oA,rfl,rfl,hid rfl,hid (af _ _)⟩
  case round=>
   obtain⟨k,c,hk,rfl,rfl,u,h⟩:=hrel;have C:=hid (btr BS h);by_cases Y:k<p.II.length
   ·have am:(k:Int)<(p.II.length:Int):=oA;have G:=M.out oA
    try subst G
    have E:=hid (cS (O.out k Y) C);have hc:(c:Int)<=1000:=by
     have:=mf (ow n) 1 k p.II fun z _=>Hg n z;have:=u.out;omega
    have B:=hid (show ez (ow n) (p.II.take (k+1))=c+ow n p.II[k] by rw[jN _ Y, <-u.out]);generalize p.II[k]=z at E B;have Q:=hid (aP wr zT 37 wr.heap.size 20 rfl oD);have l:=hid (World.rangeAt_setCells_same _ wr.heap.size 0 (cf 20 z) (by rw[ay];exact Q));have e:=hid (bT (bal (af wr.heap.size wr) (.cells zT 37)) (aq _) (cf 20 z) 0);have W:(Tryz.prog.info? 37).map (·.size)=some (cf 20 z).length:=by rw[ay];exact gV
    have L:=hid W;have N:=hid (show (Tryz.prog.info? 37).map (·.size)=some (cf 20 z).toArray.size by rw[eE];exact W);have ab:(cf 20 z).toArray.size=20:=by simp[gT]
    have R:=hid (show (wr.alloc (.cells zT 37)).there wr.heap.size 0 (cf 20 z).toArray.size by rw[ab];exact Q);by_cases H:z 17=n
    ·have A:=hid (show c+1=ez (ow n) (p.II.take (k+1)) by rw[B.out];unfold ow;rw[ag H]);go_wp2_with (first
      |((with_reducible refine gst 37 ?_);refine wpList_store_mid rfl 37 _ _ rfl wr.heap.size 0 (cf 20 z).toArray rfl rfl R N (all_oneCell_toArray (bQ 20 z)) ?_;generalize World.setCells _ _ _ _=W5 at l e ⊢;have aa:=eB l 17 oA)
      |((with_reducible refine gld 37 ?_);refine wpList_load_mid rfl 37 _ rfl b3 (Z+k*20) rfl (cf 20 z) _ E Tryz.underlying37 rfl L ?_))
     have s:=hid (btr h e);exact⟨⟨k+1,c+1,oA,by go_num,by go_num,A,s⟩,by simp[intOf];omega⟩
    ·have A:=hid (show c=ez (ow n) (p.II.take (k+1)) by rw[B.out];unfold ow;rw[ae H];rfl);have an:(z 17==n)=false:=by simpa using H
     go_wp2_with (first
      |((with_reducible refine gst 37 ?_);refine wpList_store_mid rfl 37 _ _ rfl wr.heap.size 0 (cf 20 z).toArray rfl rfl R N (all_oneCell_toArray (bQ 20 z)) ?_;generalize World.setCells _ _ _ _=W5 at l e ⊢;have aa:=eB l 17 oA)
      |((with_reducible refine gld 37 ?_);refine wpList_load_mid rfl 37 _ rfl b3 (Z+k*20) rfl (cf 20 z) _ E Tryz.underlying37 rfl L ?_))
     have s:=hid (btr h e);exact⟨⟨k+1,c,oA,by go_num,rfl,A,s⟩,by simp[intOf];omega⟩
   ·obtain rfl:k=p.II.length:=oA;have ai:¬((p.II.length:Int)<(p.II.length:Int)):=oA;have K:=hid (show ez (ow n) p.II=c by rw[u.out,ti]);have J:=eB (bf P h) 9 oA;by_cases b:f 9=5
    ·have x:=hid (show dbB p n f=((c:Int)==1) by unfold dbB;rw[a.out,K.out,ag b];rfl);go_wp2_with fail
     go_ret
     exact⟨by rw[x.out];rfl,C.out⟩
    ·have x:=hid (show dbB p n f=((c:Int)==0) by unfold dbB;rw[a.out,K.out,ae b];rfl);have ac:(f 9==5)=false:=by simpa using b
     go_wp2_with fail
     go_ret
     exact⟨by rw[x.out];rfl,C.out⟩
def pl (s:Int):Int:=if s=2∨s=3∨s=4 then 7 else if s=6 then 8 else 0
theorem sU (s:Int) (w:World):Calls Tryz.prog 196 #[.int .i64 s] w fun r w'=>r=.returned (.int .i64 (pl s))∧w=w':=by
 by_cases b:s=2
 ·subst b;go_enter Tryz.func196,Tryz.ntmps196
  go_wp2_with fail
  go_ret
  exact⟨rfl,rfl⟩
 by_cases c:s=3
 ·subst c;go_enter Tryz.func196,Tryz.ntmps196
  go_wp2_with fail
  go_ret
  exact⟨rfl,rfl⟩
 by_cases d:s=4
 ·subst d;go_enter Tryz.func196,Tryz.ntmps196
  go_wp2_with fail
  go_ret
  exact⟨rfl,rfl⟩
 by_cases a:s=6
 ·subst a;go_enter Tryz.func196,Tryz.ntmps196
  go_wp2_with fail
  go_ret
  exact⟨rfl,rfl⟩
 have e:=hid (show pl s=0 by unfold pl;rw[ae oA,ae a]);have f:(s==2)=false:=by simpa using b
 have g:(s==3)=false:=by simpa using c
 have h:(s==4)=false:=by simpa using d
 have i:(s==6)=false:=by simpa using a
 go_enter Tryz.func196,Tryz.ntmps196
 go_wp2_with fail
 go_ret
 exact⟨by rw[e.out];rfl,rfl⟩
def rrB (p:PW) (n:Int) (f:Nat->Int):Bool:=if f 9=1 then ((cn n p.IJ+cna n p.ready:Nat):Int)==1 else ((cn n p.IJ+cna n p.ready:Nat):Int)==0
theorem pV (vb:Nat) (V:Nat->Value) (p:PW) (n:Int) (f:Nat->Int) (w:World) (hv:d6 w vb V p):
  Calls Tryz.prog 144 #[.pointer (some ⟨vb,0,none⟩),.int .i64 n,.agg (cf 20 f).toArray] w fun r w'=>r=.returned (.bool (rrB p n f))∧Below w.heap.size w w':=by
 have b:=hid (bal (af w.heap.size w) (.cells (cf 20 f).toArray 37));have l:=hid (DP w f 37);have o:=r11 6 (hv.below b).r;have q:=r11 7 (hv.below b).r;have e:=hid (show ∀m,Calls Tryz.prog 197 #[V 6,.int .i64 n] ((w.alloc (.cells (cf 20 f).toArray 37)).drewN m) fun r w'=>r=.returned (.int .i64 (cn n p.IJ))∧w'=((w.alloc (.cells (cf 20 f).toArray 37)).drewN m) from fun m=>(mB (V 6) p.IJ n _ (hv.v.IJ.below (aG b m)) hv.f.IJ).mono fun _ _ h=>⟨h.1,h.2.symm⟩);have g:=hid (show ∀m,Calls Tryz.prog 195 #[V 7,.int .i64 n] ((w.alloc (.cells (cf 20 f).toArray 37)).drewN m) fun r w'=>r=.returned (.int .i64 (cna n p.ready))∧w'=((w.alloc (.cells (cf 20 f).toArray 37)).drewN m) from fun m=>(lC (V 7) p.ready n _ (hv.v.ready.below (aG b m)) hv.f.ready hv.f.next).mono fun _ _ h=>⟨h.1,h.2.symm⟩);have s:(cn n p.IJ:Int)<=1000:=by have:=BV n p.IJ;have:=hv.f.IJ;omega
 have t:(cna n p.ready:Int)<=1000000:=by have:=oY n p.ready p.ready.length hv.f.next;rw[cO] at this;have:=hv.f.ready;omega
 have a:=hid (show rrB p n f=if f 9=1 then ((cn n p.IJ:Int)+(cna n p.ready:Int)==1) else ((cn n p.IJ:Int)+(cna n p.ready:Int)==0) by unfold rrB;rw[Int.natCast_add]);generalize V 6=z at o e;generalize V 7=A at q g;generalize cn n p.IJ=i at e s a;generalize cna n p.ready=j at g t a;have y:IntKind.i64.wrap ((i:Int)+(j:Int))=(i:Int)+(j:Int):=bZ _ oA oA;go_enter Tryz.func144,Tryz.ntmps144
 go_wp2_with fail
 go_quiet (first|(go_at_call 197;refine bF (e.out _))|(go_at_call 195;refine bF (g.out _)))
 have d:=hid (aG b nq);have k:((w.alloc (.cells (cf 20 f).toArray 37)).drewN nq).cell? ⟨w.heap.size,9,none⟩=some (.int .i64 (f 9)):=eB l 9 oA;generalize World.drewN _ _=u at d k ⊢;by_cases c:f 9=1
 ·rw[ag c] at a;rw[c] at k;go_wp2_with fail
  go_ret
  exact⟨by rw[a.out];rfl,d.out⟩
 ·rw[ae c] at a;have x:(f 9==1)=false:=by simpa using c
  go_wp2_with fail
  go_ret
  exact⟨by rw[a.out];rfl,d.out⟩
theorem xg (d:Nat) (a b:Int) (w:World):(Op.equalIn (d+1) 3 (.int .i64 a) (.int .i64 b)).run Tryz.prog w=.ok (a==b) w:=by
 rw[run_equalIn_int w d 3 .i64 .i64 _ _ Tryz.underlying3]
