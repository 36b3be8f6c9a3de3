/- Uac -/
import Derived.Test.YtnccmdndkmmhcaaGreatDoorUab
set_option maxRecDepth 100000
set_option maxHeartbeats 16000000
namespace Go.Proofs.YtnccmdndkmmhcaaGreatDoor
namespace Wd
open Go.RowKit Mem Bw Nums Mmu
structure d6 (w:World) (vb:Nat) (V:Nat->Value) (p:PW):Prop where
 r:w.rangeAt vb 0 (de V).toList
 v:eu w V p
 f:p.Fits
theorem d6.below {w w':World} {vb:Nat} {V:Nat->Value} {p:PW} (h:d6 w vb V p) (a:Below w.heap.size w w'):d6 w' vb V p:=⟨bf h.r a,h.v.below a,h.f⟩
def fH (p:PW) (f:Int):Option Int:=if 0<=f then p.kinds[f.toNat]? else none
def isB (p:PW) (f k:Int):Bool:=fH p f==some k
theorem fZ {p:PW} {j:Nat} (h:j<p.kinds.length):fH p (j:Int)=some p.kinds[j]:=by
 unfold fH;rw[ag oA,ah,ac h]
theorem mT {p:PW} {f:Int} (h:¬(0<=f∧f<=(p.kinds.length:Int) - 1)):fH p f=none:=by
 unfold fH;split
 ·rw[aI oA]
 ·rfl
def frB (p:PW) (n:Int):Bool:=decide (0<=n∧n<=(p.kinds.length:Int) - 1)
theorem lK (vb:Nat) (V:Nat->Value) (p:PW) (n:Int) (w:World) (hv:d6 w vb V p):
  Calls Tryz.prog 163 #[.pointer (some ⟨vb,0,none⟩),.int .i64 n] w fun r w'=>r=.returned (.bool (frB p n))∧w=w':=by
 have c1:=r11 1 hv.r;obtain⟨q,b,off,cap,e1,d,e⟩:=hv.v.kinds;have hl:(p.kinds.length:Int)<=1000:=by have:=hv.f.kinds;omega
 have a:=hid (show frB p n=decide (0<=n∧n<=(p.kinds.length:Int) - 1) from rfl);go_enter Tryz.func163,Tryz.ntmps163
 go_wp2_with fail
 refine (ey n 0 _ w).mono ?_;rintro r w1 ⟨rfl,rfl⟩;generalize decide (0<=n∧n<=(p.kinds.length:Int) - 1)=c at a ⊢;go_wp2_with fail
 go_ret
 exact⟨by rw[a.out];rfl,rfl⟩
theorem pO (vb:Nat) (V:Nat->Value) (p:PW) (f k:Int) (w:World) (hv:d6 w vb V p):
  Calls Tryz.prog 164 #[.pointer (some ⟨vb,0,none⟩),.int .i64 f,.int .i64 k] w fun r w'=>r=.returned (.bool (isB p f k))∧w=w':=by
 have c1:=r11 1 hv.r;have h:=hid hv;obtain⟨q,b,off,cap,e1,l,g⟩:=hv.v.kinds;have hl:(p.kinds.length:Int)<=1000:=by have:=hv.f.kinds;omega
 by_cases a:0<=f∧f<=(p.kinds.length:Int) - 1
 ·obtain⟨j,rfl⟩:∃j:Nat,f=j:=⟨f.toNat,oA⟩
  have i:j<p.kinds.length:=oA;have n:(j:Int)<(p.kinds.length:Int):=oA;have d:=hid (show frB p j=true from az a);obtain rfl:=l oA;have m:=g j i;have c:=hid (show isB p (j:Int) k=(p.kinds[j]==k) by unfold isB;rw[fZ i];rfl);generalize p.kinds[j]=z at m c;clear a g hv;go_enter Tryz.func164,Tryz.ntmps164
  go_wp2_with fail
  refine (lK vb V p j w h).mono ?_;rintro e w1 ⟨rfl,rfl⟩;rw[d.out];go_wp2_with fail
  go_ret
  exact⟨by rw[c.out];rfl,rfl⟩
 ·have d:=hid (show frB p f=false from aw a);have c:=hid (show isB p f k=false by unfold isB;rw[mT a];rfl);clear a g l hv;go_enter Tryz.func164,Tryz.ntmps164
  go_wp2_with fail
  refine (lK vb V p f w h).mono ?_;rintro e w1 ⟨rfl,rfl⟩;rw[d.out];go_wp2_with fail
  go_ret
  exact⟨by rw[c.out];rfl,rfl⟩
theorem i7 (vb:Nat) (V:Nat->Value) (p:PW) (f k:Int) (w:World) (hv:d6 w vb V p):
  Calls Tryz.prog 145 #[.pointer (some ⟨vb,0,none⟩),.int .i64 f,.int .i64 k] w fun r w'=>r=.returned (.bool (isB p f k))∧w=w':=by
 have a:=hid hv;go_enter Tryz.func145,Tryz.ntmps145
 go_wp2_with fail
 refine (pO vb V p f k w a).mono ?_;rintro e w1 ⟨rfl,rfl⟩;go_wp2_with fail
 go_ret
 exact⟨rfl,rfl⟩
def fB (p:PW) (f k:Int):Bool:=f== -1||isB p f k
theorem mb (vb:Nat) (V:Nat->Value) (p:PW) (f k:Int) (w:World) (hv:d6 w vb V p):
  Calls Tryz.prog 194 #[.pointer (some ⟨vb,0,none⟩),.int .i64 f,.int .i64 k] w fun r w'=>r=.returned (.bool (fB p f k))∧w=w':=by
 have d:=hid hv;by_cases c:f= -1
 ·have b:(f== -1)=true:=by simpa using c
  have a:=hid (show fB p f k=true by unfold fB;rw[b];rfl);go_enter Tryz.func194,Tryz.ntmps194
  go_wp2_with fail
  go_ret
  exact⟨by rw[a.out];rfl,rfl⟩
 ·have b:(f== -1)=false:=by simpa using c
  have a:=hid (show fB p f k=isB p f k by unfold fB;rw[b];rfl);go_enter Tryz.func194,Tryz.ntmps194
  go_wp2_with fail
  refine (i7 vb V p f k w d).mono ?_;rintro e w1 ⟨rfl,rfl⟩;generalize isB p f k=g at a ⊢;go_wp2_with fail
  go_ret
  exact⟨by rw[a.out];rfl,rfl⟩
theorem od (V:Nat->Value) (p:PW) (f:Int) (w:World) (hv:eu w V p) (h:p.Fits):
  Calls Tryz.prog 151 #[.agg (de V),.int .i64 f] w fun r w'=>r=.returned (.int .i64 ((fH p f).getD (-1)))∧Below w.heap.size w w':=by
 have l:=cq w (de V) 28;have c:=hid (bal (af w.heap.size w) (.cells (de V) 28));obtain⟨q,b,off,cap,e1,i,k⟩:=hv.kinds;have hl:(p.kinds.length:Int)<=1000:=by have:=h.kinds;omega
 by_cases d:0<=f∧f<=(p.kinds.length:Int) - 1
 ·obtain⟨j,rfl⟩:∃j:Nat,f=j:=⟨f.toNat,oA⟩
  have e:j<p.kinds.length:=oA;have o:(j:Int)<(p.kinds.length:Int):=oA;obtain rfl:=i oA;have g:=(k.below c) j e;have a:=hid (show (fH p (j:Int)).getD (-1)=p.kinds[j] by rw[fZ e];rfl);generalize p.kinds[j]=z at g a;go_enter Tryz.func151,Tryz.ntmps151
  go_wp2_with fail
  go_ret
  exact⟨by rw[a.out];rfl,c.out⟩
 ·have a:=hid (show (fH p f).getD (-1)= -1 by rw[mT d];rfl);by_cases m:f<0
  ·clear d;go_enter Tryz.func151,Tryz.ntmps151
   go_wp2_with fail
   go_ret
   exact⟨by rw[a.out];rfl,c.out⟩
  ·have n:(p.kinds.length:Int)<=f:=oA;go_enter Tryz.func151,Tryz.ntmps151
   go_wp2_with fail
   go_ret
   exact⟨by rw[a.out];rfl,c.out⟩
def wB (v:Int):Bool:=decide (0<=v∧v<=65535)
theorem gC (v:Int) (w:World):
  Calls Tryz.prog 92 #[.int .i64 v] w fun e w'=>e=.returned (.bool (wB v))∧w=w':=by
 go_enter Tryz.func92,Tryz.ntmps92
 go_wp2_with fail
 refine (ey v 0 65535 w).mono ?_;rintro e w1 ⟨rfl,rfl⟩;have a:=hid (show wB v=decide (0<=v∧v<=65535) from rfl);generalize decide (0<=v∧v<=65535)=b at a ⊢;go_wp2_with fail
 go_ret
 exact⟨by rw[a.out];rfl,rfl⟩
def nwB (v:Int):Bool:= !wB v
theorem vt (n v:Int) (w:World):
  Calls Tryz.prog 47 #[.int .i64 n,.int .i64 v] w fun e w'=>e=.returned (.bool (nwB v))∧w=w':=by
 go_enter Tryz.func47,Tryz.ntmps47
 go_wp2_with fail
 refine (gC v w).mono ?_;rintro e w1 ⟨rfl,rfl⟩;have a:=hid (show nwB v= !wB v from rfl);generalize wB v=b at a ⊢;go_wp2_with fail
 go_ret
 exact⟨by rw[a.out];rfl,rfl⟩
theorem uu {w:World} {b o k:Nat} {cs:List Value} {v:Value} (h:w.rangeAt b o cs) (hk:cs[k]? =some v):w.cell? ⟨b,o+k,none⟩=some v:=h k v hk
theorem _root_.Go.Proofs.YtnccmdndkmmhcaaGreatDoor.cC:type_of% @uu:= @uu
theorem jV {p:PW} {f k:Int} (h:isB p f k=true):∃j:Nat,f=j∧j<p.kinds.length:=by
 unfold isB fH at h;split at h
 ·refine⟨f.toNat,oA,?_⟩;by_cases hl:f.toNat<p.kinds.length
  ·exact hl
  ·rw[aI oA] at h;exact absurd h oS
 ·exact absurd h oS
def nkB (k:Int):Bool:= !decide (0<=k∧k<=8)||k==1
theorem vs (n k:Int) (w:World):
  Calls Tryz.prog 48 #[.int .i64 n,.int .i64 k] w fun e w'=>e=.returned (.bool (nkB k))∧w=w':=by
 by_cases a:0<=k∧k<=8
 ·have c:=hid (az a);have b:=hid (show nkB k=(k==1) by unfold nkB;rw[az a];rfl);go_enter Tryz.func48,Tryz.ntmps48
  go_wp2_with fail
  refine (ey k 0 8 w).mono ?_;rintro e w1 ⟨rfl,rfl⟩;rw[c.out];go_wp2_with fail
  go_ret
  exact⟨by rw[b.out];rfl,rfl⟩
 ·have c:=hid (aw a);have b:=hid (show nkB k=true by unfold nkB;rw[aw a];rfl);go_enter Tryz.func48,Tryz.ntmps48
  go_wp2_with fail
  refine (ey k 0 8 w).mono ?_;rintro e w1 ⟨rfl,rfl⟩;rw[c.out];go_wp2_with fail
  go_ret
  exact⟨by rw[b.out];rfl,rfl⟩
def rdB (p:PW) (t core:Int):Bool:=isB p t 6&&(match p.II[t.toNat]? with|some f=>f 9==1&&f 18==core|none=>false)
theorem mQ (vb:Nat) (V:Nat->Value) (p:PW) (t core:Int) (w:World) (hv:d6 w vb V p) (D:p.II.length=p.kinds.length):
  Calls Tryz.prog 147 #[.pointer (some ⟨vb,0,none⟩),.int .i64 t,.int .i64 core] w fun r w'=>r=.returned (.bool (rdB p t core))∧w=w':=by
 have A:=r11 3 hv.r;obtain⟨q,b,off,cap,e1,z,o⟩:=hv.v.II;have hl:(p.II.length:Int)<=1000:=by have:=hv.f.II;omega
 have d:=hid hv;by_cases g:isB p t 6=true
 ·obtain⟨j,rfl,B⟩:=jV g;have k:j<p.II.length:=oA;have C:(j:Int)<(p.II.length:Int):=oA;obtain rfl:=z oA;have y:=cC (o j k) (dk 20 _ 9 oA);have x:=cC (o j k) (dk 20 _ 18 oA);have a:=hid (show rdB p (j:Int) core=(p.II[j] 9==1&&p.II[j] 18==core) by unfold rdB;rw[g,ah,ac k];rfl);have c:=hid g;generalize p.II[j] 9=u at y a;generalize p.II[j] 18=s at x a;by_cases m:u=1
  ·subst m;by_cases l:s=core
   ·subst l;go_enter Tryz.func147,Tryz.ntmps147
    go_wp2_with fail
    refine (i7 vb V p j 6 w d).mono ?_;rintro e w1 ⟨rfl,rfl⟩;rw[c.out];go_wp2_with fail
    go_ret
    exact⟨by rw[a.out];simp,rfl⟩
   ·have i:(s==core)=false:=by simpa using l
    have h:=hid i;go_enter Tryz.func147,Tryz.ntmps147
    go_wp2_with fail
    refine (i7 vb V p j 6 w d).mono ?_;rintro e w1 ⟨rfl,rfl⟩;rw[c.out];go_wp2_with fail
    go_ret
    exact⟨by rw[a.out,h.out];rfl,rfl⟩
  ·have i:(u==1)=false:=by simpa using m
   have h:=hid i;go_enter Tryz.func147,Tryz.ntmps147
   go_wp2_with fail
   refine (i7 vb V p j 6 w d).mono ?_;rintro e w1 ⟨rfl,rfl⟩;rw[c.out];go_wp2_with fail
   go_ret
   exact⟨by rw[a.out,h.out];rfl,rfl⟩
 ·have n:isB p t 6=false:=by simpa using g
  have a:=hid (show rdB p t core=false by unfold rdB;rw[n];rfl);have c:=hid n;go_enter Tryz.func147,Tryz.ntmps147
  go_wp2_with fail
  refine (i7 vb V p t 6 w d).mono ?_;rintro e w1 ⟨rfl,rfl⟩;rw[c.out];go_wp2_with fail
  go_ret
  exact⟨by rw[a.out];rfl,rfl⟩
def bcB (p:PW) (core t:Int):Bool:= !(t== -1)&& !rdB p t core
theorem sc (vb:Nat) (V:Nat->Value) (p:PW) (core t:Int) (w:World) (hv:d6 w vb V p) (f:p.II.length=p.kinds.length):
  Calls Tryz.prog 57 #[.pointer (some ⟨vb,0,none⟩),.int .i64 core,.int .i64 t] w fun r w'=>r=.returned (.bool (bcB p core t))∧w=w':=by
 have d:=hid hv;have c:=hid f;by_cases b:t= -1
 ·subst b;have a:=hid (show bcB p core (-1)=false from rfl);go_enter Tryz.func57,Tryz.ntmps57
  go_wp2_with fail
  go_ret
  exact⟨by rw[a.out];rfl,rfl⟩
 ·have a:=hid (show bcB p core t= !rdB p t core by unfold bcB;rw[show (t== -1)=false by simpa using b];rfl);have h:(t != -1)=true:=by simpa using b
  go_enter Tryz.func57,Tryz.ntmps57
  go_wp2_with fail
  refine (mQ vb V p t core w d c).mono ?_;rintro e w1 ⟨rfl,rfl⟩;generalize rdB p t core=g at a ⊢;go_wp2_with fail
  go_ret
  exact⟨by rw[a.out];rfl,rfl⟩
theorem fA:(Tryz.prog.info? 28).map (·.size)=some 11:=oK
theorem ja {ops:Array Oper} {rest:List Oper} {op:Oper} {a:Act} {w:World} {Q:Exit->Act->World->Prop} (d:op.guard=none) (x:Operand) (e:op.op=.load 28 x)
  (b:Nat) (f:a.eval x=.pointer (some ⟨b,0,none⟩)) (V:Nat->Value) (c:w.rangeAt b 0 (de V).toList)
  (h:wpList Tryz.prog ops Q rest (a.put op.dst (.agg (de V))) w):wpList Tryz.prog ops Q (op::rest) a w:=
 wpList_load_mid d 28 x e b 0 f (de V).toList _ c Tryz.underlying28 rfl fA h
theorem lQ (w:World) (V:Nat->Value) (t:TypeId):(w.alloc (.cells (de V) t)).rangeAt w.heap.size 0 (de V).toList:=fun k v hk=>by
 rw[aC,cq w (de V) t k];simpa using hk
def rpB (p:PW) (t core prio:Int):Bool:=rdB p t core&&(decide (prio<0)||(match p.II[t.toNat]? with|some f=>f 10==prio|none=>false))
theorem tZ {p:PW} {f k:Int} (hk:k≠ -1):isB p f k=((fH p f).getD (-1)==k):=by
 unfold isB
 cases fH p f with
 |none=>simp[Ne.symm hk]
 |some z=>simp
def brB (p:PW) (n:Nat) (zs:List Int):Bool:=zs.any fun t=> !rpB p t ((n:Int)/4) ((n:Int)%4)
theorem vS {α:Type} {P:α->Bool} {zs:List α} (h:∀j (a:j<zs.length),P zs[j]=false):zs.any P=false:=by
 rw[bO];intro x b;obtain⟨j,a,rfl⟩:=List.mem_iff_getElem.1 b;simp[h j a]
theorem sa {α:Type} {P:α->Bool} {zs:List α} (j:Nat) (a:j<zs.length) (h:P zs[j]=true):zs.any P=true:=List.any_eq_true.2 ⟨_,av a,h⟩
theorem FM {p:PW} {t core:Int} (h:rdB p t core=true):∃j:Nat,t=j∧j<p.kinds.length:=by
 unfold rdB at h;rw[am] at h;exact jV h.1
theorem qf (vb:Nat) (V:Nat->Value) (p:PW) (n:Nat) (x:Value) (zs:List Int) (w:World) (hv:d6 w vb V p) (N:p.II.length=p.kinds.length) (O:ed w x zs) (hl:zs.length<=1000) (hn:(n:Int)<=1000):
  Calls Tryz.prog 58 #[.pointer (some ⟨vb,0,none⟩),.int .i64 n,x] w fun r w'=>r=.returned (.bool (brB p n zs))∧w=w':=by
 have R:=r11 3 hv.r;obtain⟨q,b,off,cap,rfl,J,P⟩:=O;obtain⟨q2,b2,aa,S,e1,K,Q⟩:=hv.v.II;have X:(p.II.length:Int)<=1000:=by have:=hv.f.II;omega
 have Y:(zs.length:Int)<=1000:=oA;have C:=hid hv;have s:=hid N;have A:=hid J;have E:=hid P;have B:=hid K;have F:=hid Q;go_enter Tryz.func58,Tryz.ntmps58
 go_wp2_with fail
 go_loopw [17] (fun i wr=>∃k:Nat,k<=zs.length∧i=.int .i64 k∧Hid (∀j (a:j<zs.length),j<k->(!rpB p zs[j] ((n:Int)/4) ((n:Int)%4))=false)∧Hid (w=wr)) (fun i _=>zs.length - (intOf i).toNat)
 case atStart=>exact⟨0,oA,rfl,hid fun j _ h=>oA,hid rfl⟩
 case round=>
  obtain⟨k,hk,rfl,m,D⟩:=hrel;obtain rfl:=D.out;by_cases t:k<zs.length
  ·have Z:(k:Int)<(zs.length:Int):=oA;have L:=A.out oA;subst L;have c0:=E.out k t;have g:=hid (show (!rpB p zs[k] ((n:Int)/4) ((n:Int)%4))=true->brB p n zs=true from fun h=>sa k t h);have o:=hid (show (!rpB p zs[k] ((n:Int)/4) ((n:Int)%4))=false->∀j (a:j<zs.length),j<k+1->(!rpB p zs[j] ((n:Int)/4) ((n:Int)%4))=false from fun H j a W=>by
    by_cases e:j=k
    ·subst e;exact H
    ·exact m j a oA)
   generalize zs[k]=z at c0 g o;go_wp2_with fail
   refine (mQ vb V p z _ w C s).mono ?_;rintro r w1 ⟨rfl,rfl⟩
   cases hr:rdB p z ((n:Int)/4) with
   |true=>
    obtain⟨j,rfl,I⟩:=FM hr;have a:j<p.II.length:=by rw[s.out];exact I
    have U:(j:Int)<(p.II.length:Int):=oA;have M:=B.out oA;subst M;have G:=cC (F.out j a) (dk 20 _ 10 oA);have d:=hid (show rpB p (j:Int) ((n:Int)/4) ((n:Int)%4)=(p.II[j] 10==((n:Int)%4)) by
     unfold rpB;rw[hr,ah,ac a,aw oA];rfl)
    generalize p.II[j] 10=y at G d;by_cases l:y=((n:Int)%4)
    ·have c:=hid (o.out (by rw[d.out,l];simp));subst l;go_wp2_with fail
     exact⟨⟨k+1,oA,by go_num,c,hid oS⟩,by simp[intOf];omega⟩
    ·have c:=hid (g.out (by rw[d.out];simpa using l));go_wp2_with fail
     go_ret
     exact⟨by rw[c.out];rfl,rfl⟩
   |false=>
    have c:=hid (g.out (by unfold rpB;rw[hr];rfl));go_wp2_with fail
    go_ret
    exact⟨by rw[c.out];rfl,rfl⟩
  ·obtain rfl:k=zs.length:=oA;have T:¬((zs.length:Int)<(zs.length:Int)):=oA;have u:=hid (show brB p n zs=false from vS fun k h=>m.out k h h);go_wp2_with fail
   go_ret
   exact⟨by rw[u.out];rfl,rfl⟩
def beB (p:PW) (k e:Int):Bool:=if k=4 then !(e==0)&& !isB p (e - 32768) 3 else if k=3 then !(e==0)&& !isB p (e - 32768) 2&& !isB p (e - 32768 - 16384) 2 else false
theorem qb (vb:Nat) (V:Nat->Value) (p:PW) (n m:Nat) (e:Int) (w:World) (hv:d6 w vb V p) (B:(n:Int)<=100000) (A:(n:Int)/16=(m:Int)) (hk:m<p.kinds.length) (j:0<=e∧e<=65535):
  Calls Tryz.prog 59 #[.pointer (some ⟨vb,0,none⟩),.int .i64 n,.int .i64 e] w fun r w'=>r=.returned (.bool (beB p p.kinds[m] e))∧w=w':=by
 have c1:=r11 1 hv.r;obtain⟨q,b,off,cap,e1,s,t⟩:=hv.v.kinds;have hl:(p.kinds.length:Int)<=1000:=by have:=hv.f.kinds;omega
 have y:(m:Int)<(p.kinds.length:Int):=oA;obtain rfl:=s oA;have l:=t m hk;have g:=hid hv;have u:=j.1;have x:=j.2;generalize p.kinds[m]=z at l ⊢;by_cases i:z=4
 ·subst i;by_cases c:e=0
  ·subst c;have a:=hid (show beB p 4 0=false from rfl);go_enter Tryz.func59,Tryz.ntmps59
   go_wp2_with fail
   go_ret
   exact⟨by rw[a.out];rfl,rfl⟩
  ·have a:=hid (show beB p 4 e= !isB p (e - 32768) 3 by unfold beB;rw[ag rfl,show (e==0)=false by simpa using c];rfl);have o:(e !=0)=true:=by simpa using c
   go_enter Tryz.func59,Tryz.ntmps59
   go_wp2_with fail
   refine (i7 vb V p (e - 32768) 3 w g).mono ?_;rintro r w1 ⟨rfl,rfl⟩;generalize isB p (e - 32768) 3=k at a ⊢;go_wp2_with fail
   go_ret
   exact⟨by rw[a.out];rfl,rfl⟩
 ·by_cases h:z=3
  ·subst h;by_cases c:e=0
   ·subst c;have a:=hid (show beB p 3 0=false from rfl);go_enter Tryz.func59,Tryz.ntmps59
    go_wp2_with fail
    go_ret
    exact⟨by rw[a.out];rfl,rfl⟩
   ·have o:(e !=0)=true:=by simpa using c
    by_cases hi:isB p (e - 32768) 2=true
    ·have a:=hid (show beB p 3 e=false by unfold beB;rw[ae oA,ag rfl,hi];simp);have d:=hid hi;go_enter Tryz.func59,Tryz.ntmps59
     go_wp2_with fail
     refine (i7 vb V p (e - 32768) 2 w g).mono ?_;rintro r w1 ⟨rfl,rfl⟩;rw[d.out];go_wp2_with fail
     go_ret
     exact⟨by rw[a.out];rfl,rfl⟩
    ·have d:=hid (show isB p (e - 32768) 2=false by simpa using hi);have a:=hid (show beB p 3 e= !isB p (e - 32768 - 16384) 2 by unfold beB;rw[ae oA,ag rfl,d.out,show (e==0)=false by simpa using c];rfl);go_enter Tryz.func59,Tryz.ntmps59
     go_wp2_with fail
     refine (i7 vb V p (e - 32768) 2 w g).mono ?_;rintro r w1 ⟨rfl,rfl⟩;rw[d.out];go_wp2_with fail
     refine (i7 vb V p (e - 32768 - 16384) 2 w g).mono ?_;rintro r w1 ⟨rfl,rfl⟩;generalize isB p (e - 32768 - 16384) 2=k at a ⊢;go_wp2_with fail
     go_ret
     exact⟨by rw[a.out];rfl,rfl⟩
  ·have a:=hid (show beB p z e=false by unfold beB;rw[ae i,ae h]);go_enter Tryz.func59,Tryz.ntmps59
   go_wp2_with fail
   go_ret
   exact⟨by rw[a.out];rfl,rfl⟩
theorem gg {ops:Array Oper} {rest:List Oper} {op:Oper} {a:Act} {w:World} {Q:Exit->Act->World->Prop} (f:Region.wanted op (yielded ops a.tmps)=true) (x:Operand) (e:op.op=.load 28 x)
  (b:Nat) (g:a.eval x=.pointer (some ⟨b,0,none⟩)) (V:Nat->Value) (d:w.rangeAt b 0 (de V).toList)
  (h:wpList Tryz.prog ops Q rest (a.put op.dst (.agg (de V))) w):wpList Tryz.prog ops Q (op::rest) a w:=
 BigFrame.wpList_want f fun _ c=>wp_load_mid 28 x e b 0 g (de V).toList _ d Tryz.underlying28 rfl fA (c _ _ h)
end Wd
namespace Mmu
open Go.RowKit Mem Bw Nums
def n16 (zs:List Int):Int:=(zs.length:Int)/16
def e1 (zs:List Int) (s a:Int):Int:=zs.getD (s*16+a/256).toNat 0
def e2 (zs:List Int) (t a:Int):Int:=zs.getD (t*16+a/16%16).toNat 0
def en (zs:List Int) (s a:Int):Int×Bool×Int:=
 if ¬inb zs.length s a then (0,false,2)
 else if ¬isE (e1 zs s a) (n16 zs) then (0,false,9)
 else if ¬isE (e2 zs (e1 zs s a%1024) a) (n16 zs) then (0,false,9)
 else (e2 zs (e1 zs s a%1024) a%1024,decide (e2 zs (e1 zs s a%1024) a/16384%2=1),0)
def wD (k:Int):Value:=if k=0 then .nilIface else .iface 45 (.int .i64 k)
theorem qH {zs:List Int} {j:Nat} (h:j<zs.length):zs[j]? =some (zs.getD j 0):=by
 rw[ac h,aa,ac h];rfl
theorem iZ {zs:List Int} {s a:Int} (h:¬inb zs.length s a):en zs s a=(0,false,2):=by unfold en;rw[ag h]
theorem nv {zs:List Int} {s a:Int} (h:inb zs.length s a) (b:¬isE (e1 zs s a) (n16 zs)):en zs s a=(0,false,9):=by unfold en;rw[ae (fun k=>k h),ag b]
theorem ny {zs:List Int} {s a:Int} (h:inb zs.length s a) (b:isE (e1 zs s a) (n16 zs)) (c:¬isE (e2 zs (e1 zs s a%1024) a) (n16 zs)):en zs s a=(0,false,9):=by
 unfold en;rw[ae (fun k=>k h),ae (fun k=>k b),ag c]
theorem kP {zs:List Int} {s a:Int} (h:inb zs.length s a) (b:isE (e1 zs s a) (n16 zs)) (c:isE (e2 zs (e1 zs s a%1024) a) (n16 zs)):en zs s a=(e2 zs (e1 zs s a%1024) a%1024,decide (e2 zs (e1 zs s a%1024) a/16384%2=1),0):=by
 unfold en;rw[ae (fun k=>k h),ae (fun k=>k b),ae (fun k=>k c)]
theorem H7 {zs:List Int} {s a:Int} (h:inb zs.length s a):0<=s∧0<=a/256∧s*16+a/256<zs.length:=by
 unfold inb at h;omega
theorem H8 {zs:List Int} {s a:Int} (h:inb zs.length s a) (b:isE (e1 zs s a) (n16 zs)):0<=e1 zs s a%1024∧0<=a/16%16∧e1 zs s a%1024*16+a/16%16<zs.length:=by
 unfold inb at h;unfold isE n16 at b;omega
