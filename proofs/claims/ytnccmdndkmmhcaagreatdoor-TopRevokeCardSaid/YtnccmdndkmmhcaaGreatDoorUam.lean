/- Uam -/
import Derived.Deep.RegionHeld3
import Derived.BigQuiet
import Derived.Test.YtnccmdndkmmhcaaGreatDoorUal
set_option maxRecDepth 100000
set_option maxHeartbeats 16000000
namespace Go.Proofs.YtnccmdndkmmhcaaGreatDoor
namespace Mmu
open Go.RowKit Mem Bw Nums
theorem nX (t:Int) (wr:Bool) (w:World):
  Calls Tryz.prog 250 #[.int .i64 t,.bool wr] w fun e w'=>e=.returned (.tuple #[.int .i64 (if 0<=t∧t<=23 then 32768+t+(if wr=true then 16384 else 0) else 0),wD (if 0<=t∧t<=23 then 0 else 2)])∧w=w':=by
 by_cases h:0<=t∧t<=23
 ·obtain⟨a,b⟩:=h;have d:=IE t a oA;have c:=ID t a oA
  cases wr with
  |true=>
   go_enter Tryz.func250,Tryz.ntmps250
   go_wp2_with fail
   go_ret2
   refine⟨?_,rfl⟩;show Ending.returned (.tuple #[.int .i64 (49152+t),.nilIface])=.returned (.tuple #[.int .i64 (32768+t+16384),.nilIface])
   rw[show (49152:Int)+t=32768+t+16384 by omega]
  |false=>
   go_enter Tryz.func250,Tryz.ntmps250
   go_wp2_with fail
   go_ret2
   refine⟨?_,rfl⟩;rfl
 ·simp only[ae h];by_cases a:t<0
  ·clear h;go_enter Tryz.func250,Tryz.ntmps250
   go_wp2_with fail
   go_ret2
   exact⟨rfl,rfl⟩
  ·have b:24<=t:=oA;clear h;go_enter Tryz.func250,Tryz.ntmps250
   go_wp2_with fail
   go_ret2
   exact⟨rfl,rfl⟩
end Mmu
namespace Wd
open Go.RowKit Mem Bw Nums Mmu
theorem Ij (f:Nat->Int):(cf 7 f).toArray=#[.int .i64 (f 0),.int .i64 (f 1),.int .i64 (f 2),.int .i64 (f 3),.int .i64 (f 4),.int .i64 (f 5),.int .i64 (f 6)]:=rfl
theorem GW (c1 c2:Nat) (k g:Int) (f:Nat->Int) (w:World) (e:w.cell? ⟨c1,0,none⟩=some (.int .i64 k)) (i:w.cell? ⟨c2,0,none⟩=some (.int .i64 g)):
  Calls Tryz.prog 210 #[.agg (cf 7 f).toArray,.pointer (some ⟨c1,0,none⟩),.pointer (some ⟨c2,0,none⟩)] w fun r w'=>r=.returned (.bool (f 0==k&&f 1==g))∧Below w.heap.size w w':=by
 rw[Ij];have a:=hid (bal (af w.heap.size w) (.cells #[.int .i64 (f 0),.int .i64 (f 1),.int .i64 (f 2),.int .i64 (f 3),.int .i64 (f 4),.int .i64 (f 5),.int .i64 (f 6)] 34));have q:=cq w #[.int .i64 (f 0),.int .i64 (f 1),.int .i64 (f 2),.int .i64 (f 3),.int .i64 (f 4),.int .i64 (f 5),.int .i64 (f 6)] 34 0;have k1:=cq w #[.int .i64 (f 0),.int .i64 (f 1),.int .i64 (f 2),.int .i64 (f 3),.int .i64 (f 4),.int .i64 (f 5),.int .i64 (f 6)] 34 1;have o:=(a.cell (aj _ _ e)).trans e;have p:=(a.cell (aj _ _ i)).trans i;clear e i;by_cases h:f 0=k
 ·have j:(f 0==k)=true:=by simpa using h
  have b:=hid (show (f 0==k&&f 1==g)=(f 1==g) by rw[j];rfl);by_cases c:f 1=g
  ·have l:(f 1==g)=true:=by simpa using c
   have d:=hid l;clear h c;generalize f 0=m at*;generalize f 1=n at*;go_enter Tryz.func210,Tryz.ntmps210
   go_wp2_with fail
   go_ret
   exact⟨by rw[b.out,d.out];rfl,a.out⟩
  ·have l:(f 1==g)=false:=by simpa using c
   have d:=hid l;clear h c;generalize f 0=m at*;generalize f 1=n at*;go_enter Tryz.func210,Tryz.ntmps210
   go_wp2_with fail
   go_ret
   exact⟨by rw[b.out,d.out];rfl,a.out⟩
 ·have j:(f 0==k)=false:=by simpa using h
  have b:=hid (show (f 0==k&&f 1==g)=false by rw[j];rfl);generalize f 0=m at*;go_enter Tryz.func210,Tryz.ntmps210
  go_wp2_with fail
  go_ret
  exact⟨by rw[b.out];rfl,a.out⟩
theorem pL (c1 c2:Nat) (k g:Int) (v:Value) (fs:List (Nat->Int)) (w:World) (hv:RowsIn 7 w v fs) (hl:fs.length<=1000) (d:w.cell? ⟨c1,0,none⟩=some (.int .i64 k)∧w.cell? ⟨c2,0,none⟩=some (.int .i64 g)):
  Calls Tryz.prog 219 #[v,.func (.func 210) #[] #[.pointer (some ⟨c1,0,none⟩),.pointer (some ⟨c2,0,none⟩)]] w fun r w'=>(∃i:Int,r=.returned (.int .i64 i)∧decide (0<=i)=fs.any (fun f=>f 0==k&&f 1==g))∧Below w.heap.size w w':=by
 have G:=hid hv;obtain⟨q,b,off,cap,rfl,A, -⟩:=hv;have M:(fs.length:Int)<=1000:=oA;have E:=hid A;have F:=hid (fun X (h:Below w.heap.size w X) (f:Nat->Int)=>GW c1 c2 k g f X ((h.cell (aj _ _ d.1)).trans d.1) ((h.cell (aj _ _ d.2)).trans d.2));clear A d;go_enter Tryz.func219,Tryz.ntmps219
 go_wp2_with fail
 go_loopw [8] (fun i wr=>∃(a:Nat),a<=fs.length∧i=.int .i64 a∧Hid (Below w.heap.size w wr∧∀j (c:j<fs.length),j<a->(fs[j] 0==k&&fs[j] 1==g)=false)) (fun i _=>fs.length - (intOf i).toNat)
 case atStart=>exact⟨0,oA,rfl,hid ⟨af _ _,fun j _ h=>oA⟩⟩
 case round=>
  obtain⟨a,hk,rfl,m⟩:=hrel;have l:=hid m.1;have s:=hid m.2;clear m;by_cases z:a<fs.length
  ·have N:(a:Int)<(fs.length:Int):=oA;have I:=E.out oA;subst I;obtain⟨P,b2,O,K,e2,B,C⟩:=G.below l;have u:=hid (C a z);have H:=B oA;subst H
   cases e2
   obtain⟨f,o⟩:∃f,fs[a]=f:=⟨_,rfl⟩
   rw[o] at u;have t:=hid o;clear o C B;go_wp2_with (first|((with_reducible refine gld 34 ?_);refine yM rfl _ rfl b (off+a*7) rfl (cf 7 f) (ay _ _) u ?_))
   refine (F.out _ l f).mono ?_;rintro r w1 ⟨rfl,y⟩;have p:=hid (btr l y);clear y
   cases hyt:(f 0==k&&f 1==g) with
   |true=>
    have n:=hid (show decide (0<=(a:Int))=fs.any (fun f=>f 0==k&&f 1==g) by
     rw[az oA];exact (List.any_eq_true.2 ⟨f,by rw[<-t.out];exact av z,hyt⟩).symm)
    go_wp2_with fail
    go_ret
    exact⟨⟨_,rfl,n.out⟩,p.out⟩
   |false=>
    have D:=hid (show Below w.heap.size w w1∧∀j (c:j<fs.length),j<a+1->(fs[j] 0==k&&fs[j] 1==g)=false from⟨p.out,fun j c h=>by
     by_cases e:j=a
     ·subst e;rw[t.out];exact hyt
     ·exact s j c oA⟩)
    go_wp2_with fail
    exact⟨⟨a+1,oA,by go_num,D⟩,by simp[intOf];omega⟩
  ·obtain rfl:a=fs.length:=oA;have L:¬((fs.length:Int)<(fs.length:Int)):=oA;have n:=hid (show decide (0<=(-1:Int))=fs.any (fun f=>f 0==k&&f 1==g) by
    rw[aw oA];symm;rw[bO];intro x J;obtain⟨j,c,rfl⟩:=dC J;rw[s.out j c c]
    decide)
   go_wp2_with fail
   go_ret
   exact⟨⟨_,rfl,n.out⟩,l.out⟩
theorem vw (c1 c2:Nat) (k g:Int) (v:Value) (fs:List (Nat->Int)) (w:World) (hv:RowsIn 7 w v fs) (hl:fs.length<=1000) (h:w.cell? ⟨c1,0,none⟩=some (.int .i64 k)∧w.cell? ⟨c2,0,none⟩=some (.int .i64 g)):
  Calls Tryz.prog 160 #[v,.func (.func 210) #[] #[.pointer (some ⟨c1,0,none⟩),.pointer (some ⟨c2,0,none⟩)]] w fun r w'=>r=.returned (.bool (fs.any (fun f=>f 0==k&&f 1==g)))∧Below w.heap.size w w':=by
 have c:=hid (pL c1 c2 k g v fs w hv hl h);clear hv hl h;go_enter Tryz.func160,Tryz.ntmps160
 go_wp2_with fail
 refine c.mono ?_;rintro r w1 ⟨⟨i,rfl,hi⟩,j⟩;have b:=hid j;have d:=hid hi;clear j c hi;by_cases e:0<=i
 ·have a:=hid (az e);go_wp2_with fail
  go_ret
  exact⟨by rw[<-d.out,a.out];rfl,b.out⟩
 ·have a:=hid (aw e);go_wp2_with fail
  go_ret
  exact⟨by rw[<-d.out,a.out];rfl,b.out⟩
def gX (p:PW) (k g:Int):Bool:=p.IH.any (fun f=>f 0==k&&f 1==g)
theorem qQ (vb:Nat) (V:Nat->Value) (p:PW) (k g:Int) (w:World) (d:w.rangeAt vb 0 (de V).toList) (hv:RowsIn 7 w (V 2) p.IH) (hl:p.IH.length<=1000):
  Calls Tryz.prog 158 #[.pointer (some ⟨vb,0,none⟩),.int .i64 k,.int .i64 g] w fun r w'=>r=.returned (.bool (gX p k g))∧Below w.heap.size w w':=by
 have a:=hid (bal (bal (af w.heap.size w) (.cells #[.int .i64 k] 3)) (.cells #[.int .i64 g] 3));have e:=(fe (cq w #[.int .i64 k] 3) oS (.cells #[.int .i64 g] 3)) 0;have h:=ir (w.alloc (.cells #[.int .i64 k] 3)) #[.int .i64 g] 3 (w.heap.size+1) oS 0;have c2:((w.alloc (.cells #[.int .i64 k] 3)).alloc (.cells #[.int .i64 g] 3)).cell? ⟨vb,2,none⟩=some (V 2):=ai (cS d a) (k:=2) rfl;have b:=hid (vw w.heap.size (w.heap.size+1) k g (V 2) p.IH _ (hv.below a) hl ⟨e,h⟩);have j:=hid (show p.IH.any (fun f=>f 0==k&&f 1==g)=gX p k g from rfl);rw[j.out] at b;clear hv d hl e h;go_enter Tryz.func158,Tryz.ntmps158
 go_wp2_with fail
 refine b.mono ?_;rintro r w1 ⟨rfl,c⟩;have i:=hid (btr a c);clear c;go_wp2_with fail
 go_ret
 exact⟨rfl,i.out⟩
def fg1 (c:Nat) (f:Int) (g:Nat->Int):Nat->Int:=if g c=f then upd g c (-1) else g
def fgP (c:Nat) (p:PW) (f:Int):PW:={p with II:=p.II.map (fg1 c f)}
theorem wP (g o:Nat) (w:World):Calls Tryz.prog 213 #[.pointer (some ⟨g,o,none⟩)] w fun r w'=>r=.returned (.pointer (some ⟨g,o+12,none⟩))∧w=w':=by
 go_enter Tryz.func213,Tryz.ntmps213
 go_wp2_with fail
 go_ret
 exact⟨rfl,rfl⟩
theorem mH {N c:Nat} (u:c<20) (I:∀s (W:World),(callFunc N s).run Tryz.prog W=.ok (.enter N s) W) (v:∀(g o:Nat) (w:World),Calls Tryz.prog N #[.pointer (some ⟨g,o,none⟩)] w fun r w'=>r=.returned (.pointer (some ⟨g,o+c,none⟩))∧w=w') (wb:Nat) (tag:Nat->Nat) (V:Nat->Value) (p:PW) (f:Int) (W:World) (bt:cb W wb tag V p) (hl:p.II.length<=1000):
  Calls Tryz.prog 212 #[.pointer (some ⟨wb,0,none⟩),.int .i64 f,.func (.func N) #[] #[]] W fun r W'=>r=.returned (.tuple #[])∧cb W' wb tag V (fgP c p f)∧Kt tag tag W W':=by
 obtain⟨H,g,cap,m,A⟩:=bt.o.II.shape;have t:W.cell? ⟨wb,3,none⟩=some (.slice H p.II.length cap):=by rw[ai bt.r (k:=3) rfl,m]
 have B:=hid bt;have D:=hid A;have q:=hid m;have K:(p.II.length:Int)<=1000:=oA;clear bt A m;go_enter Tryz.func212,Tryz.ntmps212
 go_wp2_with fail
 clear t
 go_loopw [13] (fun i wr=>∃(k:Nat),k<=p.II.length∧i=.int .i64 k∧Hid (cb wr wb tag V {p with II:=eY (fg1 c f) k p.II})∧Hid (Kt tag tag W wr)) (fun i _=>p.II.length - (intOf i).toNat)
 case atStart=>exact⟨0,oA,rfl,hid (by rw[fi];exact B),hid (ew _ _)⟩
 case round=>
  obtain⟨k,hk,rfl,a,l⟩:=hrel;by_cases e:k<p.II.length
  ·have L:(k:Int)<(p.II.length:Int):=oA;have G:=D.out oA;subst G;have b:k<(eY (fg1 c f) k p.II).length:=by rw[cM];exact e
   have j:V 3=.slice (some ⟨g,0,none⟩) (eY (fg1 c f) k p.II).length cap:=by rw[cM];exact q
   have t:wr.cell? ⟨wb,3,none⟩=some (.slice (some ⟨g,0,none⟩) p.II.length cap):=by rw[ai a.r (k:=3) rfl,q.out]
   have n:=a.I3 j b u;have E:=a.IT j (k*20+c);simp only[d9 (fg1 c f) k p.II e b] at n;by_cases d:p.II[k] c=f
   ·obtain⟨z,x⟩:=a.IV j b u (-1);have h:=hid (show cb (wr.setCell ⟨g,k*20+c,none⟩ (.int .i64 (-1))) wb tag V {p with II:=eY (fg1 c f) (k+1) p.II} by
     rw[eA (fg1 c f) k p.II e,show fg1 c f p.II[k]=upd p.II[k] c (-1) from ag d, <-d9 (fg1 c f) k p.II e b];exact z)
    have C:=hid (l.trans x);rw[d] at n;clear z x j d b a;go_wp2_with fail
    refine (v g (k*20) wr).mono ?_;rintro r w1 ⟨rfl,rfl⟩;go_wp2_with fail
    exact⟨⟨k+1,oA,by go_num,h,C⟩,by simp[intOf];omega⟩
   ·have h:=hid (show cb wr wb tag V {p with II:=eY (fg1 c f) (k+1) p.II} by
     rw[eA (fg1 c f) k p.II e,show fg1 c f p.II[k]=p.II[k] from ae d, <-d9 (fg1 c f) k p.II e b,bV];exact a)
    have F:(p.II[k] c==f)=false:=by simpa using d
    generalize p.II[k] c=y at n F;clear j d b a E;go_wp2_with fail
    refine (v g (k*20) wr).mono ?_;rintro r w1 ⟨rfl,rfl⟩;go_wp2_with fail
    exact⟨⟨k+1,oA,by go_num,h,l⟩,by simp[intOf];omega⟩
  ·obtain rfl:k=p.II.length:=oA;have J:¬((p.II.length:Int)<(p.II.length:Int)):=oA;have h:=hid (show cb wr wb tag V (fgP c p f) by unfold fgP;rw[<-fF];exact a);clear a;go_wp2_with fail
   exact aH (aF rfl _ _ _) rfl ⟨rfl,h.out,l.out⟩
theorem sC (wb:Nat) (tag:Nat->Nat) (V:Nat->Value) (p:PW) (f:Int) (W:World) (bt:cb W wb tag V p) (hl:p.II.length<=1000):
  Calls Tryz.prog 212 #[.pointer (some ⟨wb,0,none⟩),.int .i64 f,.func (.func 213) #[] #[]] W fun r W'=>r=.returned (.tuple #[])∧cb W' wb tag V (fgP 12 p f)∧Kt tag tag W W':=
 mH oD (fun _ _=>by go_simp) wP wb tag V p f W bt hl
theorem zx (g o:Nat) (w:World):Calls Tryz.prog 214 #[.pointer (some ⟨g,o,none⟩)] w fun r w'=>r=.returned (.pointer (some ⟨g,o+11,none⟩))∧w=w':=by
 go_enter Tryz.func214,Tryz.ntmps214
 go_wp2_with fail
 go_ret
 exact⟨rfl,rfl⟩
theorem vf (wb:Nat) (tag:Nat->Nat) (V:Nat->Value) (p:PW) (f:Int) (W:World) (bt:cb W wb tag V p) (hl:p.II.length<=1000):
  Calls Tryz.prog 212 #[.pointer (some ⟨wb,0,none⟩),.int .i64 f,.func (.func 214) #[] #[]] W fun r W'=>r=.returned (.tuple #[])∧cb W' wb tag V (fgP 11 p f)∧Kt tag tag W W':=
 mH oD (fun _ _=>by go_simp) zx wb tag V p f W bt hl
theorem zw (g o:Nat) (w:World):Calls Tryz.prog 218 #[.pointer (some ⟨g,o,none⟩)] w fun r w'=>r=.returned (.pointer (some ⟨g,o+13,none⟩))∧w=w':=by
 go_enter Tryz.func218,Tryz.ntmps218
 go_wp2_with fail
 go_ret
 exact⟨rfl,rfl⟩
theorem nZ (wb:Nat) (tag:Nat->Nat) (V:Nat->Value) (p:PW) (f:Int) (W:World) (bt:cb W wb tag V p) (hl:p.II.length<=1000):
  Calls Tryz.prog 212 #[.pointer (some ⟨wb,0,none⟩),.int .i64 f,.func (.func 218) #[] #[]] W fun r W'=>r=.returned (.tuple #[])∧cb W' wb tag V (fgP 13 p f)∧Kt tag tag W W':=
 mH oD (fun _ _=>by go_simp) zw wb tag V p f W bt hl
def idK (F:Nat->Int->Int) (k:Nat) (l:List Int):List Int:=(l.mapIdx F).take k++l.drop k
theorem ld (F:Nat->Int->Int) (k:Nat) (l:List Int):(idK F k l).length=l.length:=by
 unfold idK;rw[ax,bH,List.length_drop,dX];omega
theorem tY (F:Nat->Int->Int) (l:List Int):idK F 0 l=l:=by simp[idK]
theorem wZ (F:Nat->Int->Int) (l:List Int):idK F l.length l=l.mapIdx F:=by
 unfold idK;rw[List.drop_length,dJ,List.take_of_length_le (by rw[dX];exact aq _)]
theorem sG (F:Nat->Int->Int) (k:Nat) (l:List Int) (i:Nat):(idK F k l)[i]? =if i<k then (l[i]?).map (F i) else l[i]? :=by
 unfold idK;by_cases hi:i<k
 ·rw[ag hi];by_cases hl:i<l.length
  ·rw[List.getElem?_append_left (by rw[bH,dX];omega),List.getElem?_take,ag hi,List.getElem?_mapIdx]
  ·rw[dS (by rw[bH,dX];omega),bH,dX,dL,aI oA,aI oA];rfl
 ·rw[ae hi,dS (by rw[bH,dX];omega),bH,dX,dL];by_cases hl:k<=l.length
  ·rw[show k+(i - min k l.length)=i by omega]
  ·rw[aI oA,aI oA]
theorem xd {F:Nat->Int->Int} {k:Nat} {l:List Int} (hk:k<l.length) (h:k<(idK F k l).length):(idK F k l)[k]=l[k]:=by
 have a:=sG F k l k;rw[ae oA,ac hk,ac h] at a;exact aK a
theorem jC {F:Nat->Int->Int} {k:Nat} {l:List Int} (hk:k<l.length):idK F (k+1) l=(idK F k l).set k (F k l[k]):=by
 apply List.ext_getElem?;intro i;rw[sG,List.getElem?_set,sG];by_cases h:k=i
 ·subst h;rw[ag oA,ag rfl,ag (by rw[ld];exact hk),ac hk];rfl
 ·rw[ae h];by_cases a:i<k
  ·rw[ag oA,ag a]
  ·rw[ae oA,ae a]
theorem lZ {F:Nat->Int->Int} {k:Nat} {l:List Int} (hk:k<l.length) (hF:F k l[k]=l[k]):idK F (k+1) l=idK F k l:=by
 have hl:k<(idK F k l).length:=by rw[ld];exact hk
 rw[jC hk,hF, <-xd (F:=F) hk hl,bV]
def ut1 (ks:List Int) (f:Int) (i:Nat) (x:Int):Int:=if (ks.getD (i/16) 0=3∨ks.getD (i/16) 0=4)∧(x=32768+f∨x=49152+f) then 0 else x
def utP (p:PW) (f:Int):PW:={p with IL:=p.IL.mapIdx (ut1 p.kinds f)}
theorem cb.JU {W:World} {wb:Nat} {tag:Nat->Nat} {V:Nat->Value} {p:PW} (h:cb W wb tag V p) {g cap:Nat} (e:V 0=.slice (some ⟨g,0,none⟩) p.IL.length cap) {i:Nat} (hi:i<p.IL.length):W.cell? ⟨g,i,none⟩=some (.int .i64 p.IL[i]):=by
 have a:=h.o.IL;rw[e] at a;exact a.int hi
theorem cb.JV {W:World} {wb:Nat} {tag:Nat->Nat} {V:Nat->Value} {p:PW} (h:cb W wb tag V p) {g cap:Nat} (e:V 0=.slice (some ⟨g,0,none⟩) p.IL.length cap) (o:Nat):W.frozen? ⟨g,o,none⟩=false:=by
 have a:=h.o.IL;rw[e] at a;exact a.frozen o
theorem cb.IZ {W:World} {wb:Nat} {tag:Nat->Nat} {V:Nat->Value} {p:PW} (h:cb W wb tag V p) {g cap:Nat} (e:V 1=.slice (some ⟨g,0,none⟩) p.kinds.length cap) {i:Nat} (hi:i<p.kinds.length):W.cell? ⟨g,i,none⟩=some (.int .i64 p.kinds[i]):=by
 have a:=h.o.kinds;rw[e] at a;exact a.int hi
theorem cb.I9 {W:World} {wb:Nat} {tag:Nat->Nat} {V:Nat->Value} {p:PW} (h:cb W wb tag V p) {g cap:Nat} (e:V 1=.slice (some ⟨g,0,none⟩) p.kinds.length cap) (o:Nat):W.frozen? ⟨g,o,none⟩=false:=by
 have a:=h.o.kinds;rw[e] at a;exact a.frozen o
theorem oI (wb:Nat) (tag:Nat->Nat) (V:Nat->Value) (p:PW) (f:Nat) (W:World) (bt:cb W wb tag V p) (Y:f<=23) (hk:p.kinds.length<=24) (O:p.IL.length=p.kinds.length*16):
  Calls Tryz.prog 211 #[.pointer (some ⟨wb,0,none⟩),.int .i64 f] W fun r W'=>r=.returned (.tuple #[])∧cb W' wb tag V (utP p f)∧Kt tag tag W W':=by
 obtain⟨q0,g,cap,B,N⟩:=bt.o.IL.shape;have c0:W.cell? ⟨wb,0,none⟩=some (.slice q0 p.IL.length cap):=by rw[ai bt.r (k:=0) rfl,B]
 have R:=hid bt;have T:=hid N;have K:=hid B;have an:(p.IL.length:Int)<=1000:=oA;have ao:(p.kinds.length:Int)<=1000:=oA;have U:=hid O;have z:=hid (Mmu.nX f false W);have A:=hid (Mmu.nX f true W);rw[ag (show 0<=(f:Int)∧(f:Int)<=23 by omega)] at z A;obtain⟨e1,D⟩:∃e1:Int,32768+(f:Int)+(if false=true then 16384 else 0)=e1:=⟨_,rfl⟩
 obtain⟨e2,E⟩:∃e2:Int,32768+(f:Int)+(if true=true then 16384 else 0)=e2:=⟨_,rfl⟩
 rw[D] at z;rw[E] at A;have w:=hid (show e1=32768+(f:Int) by rw[<-D,ae oD];omega);have x:=hid (show e2=49152+(f:Int) by rw[<-E,ag rfl];omega);generalize Mmu.wD _=v1 at z;generalize Mmu.wD _=v2 at A;have S:=hid (fun (h:0<p.kinds.length)=>bt.o.kinds.form h);clear bt N B Y hk O D E;go_enter Tryz.func211,Tryz.ntmps211
 go_wp2_with fail
 refine z.mono ?_;rintro r w1 ⟨rfl,rfl⟩;go_wp2_with fail
 refine A.mono ?_;rintro r w1 ⟨rfl,rfl⟩;go_wp2_with fail
 clear c0
 go_loopw [26] (fun i wr=>∃(k:Nat),k<=p.IL.length∧i=.int .i64 k∧Hid (cb wr wb tag V {p with IL:=idK (ut1 p.kinds f) k p.IL})∧Hid (Kt tag tag W wr)) (fun i _=>p.IL.length - (intOf i).toNat)
 case atStart=>exact⟨0,oA,rfl,hid (by rw[tY];exact R),hid (ew _ _)⟩
 case round=>
  obtain⟨k,hk,rfl,a,s⟩:=hrel;by_cases m:k<p.IL.length
  ·have ap:(k:Int)<(p.IL.length:Int):=oA;have aj:=T.out oA;subst aj;have l:k<(idK (ut1 p.kinds f) k p.IL).length:=by rw[ld];exact m
   have d:V 0=.slice (some ⟨g,0,none⟩) (idK (ut1 p.kinds f) k p.IL).length cap:=by rw[ld];exact K
   have c0:wr.cell? ⟨wb,0,none⟩=some (.slice (some ⟨g,0,none⟩) p.IL.length cap):=by rw[ai a.r (k:=0) rfl,K.out]
   have Q:=a.JU d l;have fr:=a.JV d k;simp only[xd m l] at Q;have F:k/16<p.kinds.length:=by have:=U.out;omega
   have af:((k:Int)/16)=((k/16:Nat):Int):=oA;have ah:((k/16:Nat):Int)<(p.kinds.length:Int):=oA;obtain⟨L,X,C⟩:=S.out oA;have c1:wr.cell? ⟨wb,1,none⟩=some (.slice (some ⟨L,0,none⟩) p.kinds.length X):=by rw[ai a.r (k:=1) rfl,C]
   have P:=a.IZ C F;have M:p.kinds.getD (k/16) 0=p.kinds[k/16]:=by rw[aa,ac F];rfl
   obtain⟨kd,G⟩:∃kd,p.kinds[k/16]=kd:=⟨_,rfl⟩
   obtain⟨y,J⟩:∃y,p.IL[k]=y:=⟨_,rfl⟩
   have u:=hid (M.trans G);have v:=hid J;rw[J] at Q;have al:wr.cell? ⟨L,k/16,none⟩=some (.int .i64 kd):=by rw[<-G];exact P
   generalize k/16=kq at af ah al ⊢;clear P M G J C F;by_cases b:kd=3
   ·have Z:(kd==3)=true:=by simpa using b
    by_cases n:y=e1
    ·have H:(y==e1)=true:=by simpa using n
     obtain⟨j,e⟩:=a.IU d k 0;have c:=hid (show cb (wr.setCell ⟨g,k,none⟩ (.int .i64 0)) wb tag V {p with IL:=idK (ut1 p.kinds f) (k+1) p.IL} by
      rw[jC m,show ut1 p.kinds f k p.IL[k]=0 by unfold ut1;rw[ag (by rw[u.out,v.out];exact⟨.inl b,.inl (n.trans w)⟩)]];exact j)
     have t:=hid (s.trans e);clear j e d l a b;go_wp2_with fail
     exact⟨⟨k+1,oA,by go_num,c,t⟩,by simp[intOf];omega⟩
    ·have H:(y==e1)=false:=by simpa using n
     by_cases q:y=e2
     ·have I:(y==e2)=true:=by simpa using q
      obtain⟨j,e⟩:=a.IU d k 0;have c:=hid (show cb (wr.setCell ⟨g,k,none⟩ (.int .i64 0)) wb tag V {p with IL:=idK (ut1 p.kinds f) (k+1) p.IL} by
       rw[jC m,show ut1 p.kinds f k p.IL[k]=0 by unfold ut1;rw[ag (by rw[u.out,v.out];exact⟨.inl b,.inr (q.trans x)⟩)]];exact j)
      have t:=hid (s.trans e);clear j e d l a b;go_wp2_with fail
      exact⟨⟨k+1,oA,by go_num,c,t⟩,by simp[intOf];omega⟩
     ·have I:(y==e2)=false:=by simpa using q
      have c:=hid (show cb wr wb tag V {p with IL:=idK (ut1 p.kinds f) (k+1) p.IL} by
       rw[lZ m (by unfold ut1;rw[ae (by rw[u.out,v.out, <-w.out, <-x.out];rintro⟨-,h|h⟩;exact n h;exact q h)])];exact a)
      clear d l a b;go_wp2_with fail
      exact⟨⟨k+1,oA,by go_num,c,s⟩,by simp[intOf];omega⟩
   ·have Z:(kd==3)=false:=by simpa using b
    have ad:=hid b;clear b;by_cases b:kd=4
    ·have ab:(kd==4)=true:=by simpa using b
     by_cases n:y=e1
     ·have H:(y==e1)=true:=by simpa using n
      obtain⟨j,e⟩:=a.IU d k 0;have c:=hid (show cb (wr.setCell ⟨g,k,none⟩ (.int .i64 0)) wb tag V {p with IL:=idK (ut1 p.kinds f) (k+1) p.IL} by
       rw[jC m,show ut1 p.kinds f k p.IL[k]=0 by unfold ut1;rw[ag (by rw[u.out,v.out];exact⟨.inr b,.inl (n.trans w)⟩)]];exact j)
      have t:=hid (s.trans e);clear j e d l a b;go_wp2_with fail
      exact⟨⟨k+1,oA,by go_num,c,t⟩,by simp[intOf];omega⟩
     ·have H:(y==e1)=false:=by simpa using n
      by_cases q:y=e2
      ·have I:(y==e2)=true:=by simpa using q
       obtain⟨j,e⟩:=a.IU d k 0;have c:=hid (show cb (wr.setCell ⟨g,k,none⟩ (.int .i64 0)) wb tag V {p with IL:=idK (ut1 p.kinds f) (k+1) p.IL} by
        rw[jC m,show ut1 p.kinds f k p.IL[k]=0 by unfold ut1;rw[ag (by rw[u.out,v.out];exact⟨.inr b,.inr (q.trans x)⟩)]];exact j)
       have t:=hid (s.trans e);clear j e d l a b;go_wp2_with fail
       exact⟨⟨k+1,oA,by go_num,c,t⟩,by simp[intOf];omega⟩
      ·have I:(y==e2)=false:=by simpa using q
       have c:=hid (show cb wr wb tag V {p with IL:=idK (ut1 p.kinds f) (k+1) p.IL} by
        rw[lZ m (by unfold ut1;rw[ae (by rw[u.out,v.out, <-w.out, <-x.out];rintro⟨-,h|h⟩;exact n h;exact q h)])];exact a)
       clear d l a b;go_wp2_with fail
       exact⟨⟨k+1,oA,by go_num,c,s⟩,by simp[intOf];omega⟩
    ·have ab:(kd==4)=false:=by simpa using b
     have c:=hid (show cb wr wb tag V {p with IL:=idK (ut1 p.kinds f) (k+1) p.IL} by
      rw[lZ m (by unfold ut1;rw[ae (by rw[u.out];rintro⟨h|h, -⟩;exact ad h;exact b h)])];exact a)
     clear d l a b;go_wp2_with fail
     exact⟨⟨k+1,oA,by go_num,c,s⟩,by simp[intOf];omega⟩
  ·obtain rfl:k=p.IL.length:=oA;have am:¬((p.IL.length:Int)<(p.IL.length:Int)):=oA;have c:=hid (show cb wr wb tag V (utP p f) by unfold utP;rw[<-wZ];exact a);clear a;go_wp2_with fail
   exact aH (aF rfl _ _ _) rfl ⟨rfl,c.out,s.out⟩
theorem gV:(Tryz.prog.info? 37).map (·.size)=some 20:=oK
def etP (p:PW) (t:Nat):PW:={(if p.II.getD t bl 17= -1 then stP p t else (stP p t).task (p.II.getD t bl 17).toNat 9 0) with II:=(if p.II.getD t bl 17= -1 then stP p t else (stP p t).task (p.II.getD t bl 17).toNat 9 0).II.set t bl}
theorem Bk (p:PW) (t:Nat):(stP p t).II.length=p.II.length:=by
 show ((PW.task (PW.task _ t 9 0) t 14 (-1))).II.length=_
 rw[ap,ap];exact bL _
theorem cb.I7 {W:World} {wb:Nat} {tag:Nat->Nat} {V:Nat->Value} {p:PW} (h:cb W wb tag V p) {g cap:Nat} (e:V 3=.slice (some ⟨g,0,none⟩) p.II.length cap) (o m:Nat) (b:o+m<=p.II.length*20):W.there g o m:=by
 have a:=h.o.II;rw[e] at a;exact a.there o m b
theorem sx (wb:Nat) (tag:Nat->Nat) (V:Nat->Value) (p:PW) (t:Nat) (W:World) (bt:cb W wb tag V p) (M:p.Fits) (H:t<p.II.length) (j:p.II.getD t bl 17= -1∨∃u:Nat,u<p.II.length∧p.II.getD t bl 17=u):
  Calls Tryz.prog 216 #[.pointer (some ⟨wb,0,none⟩),.int .i64 t] W fun r W'=>r=.returned (.tuple #[])∧cb W' wb tag V (etP p t)∧Kt tag tag W W':=by
 have I:=hid (Au wb tag V p t W bt M H);have aa:(p.II.length:Int)<=1000:=by have:=M.II;omega
 have ab:(t:Int)<(p.II.length:Int):=oA;obtain⟨b,cap3,E⟩:=bt.o.II.form oA;have l:=hid E;have J:=hid H;have L:W.cell? ⟨wb,3,none⟩=some (.slice (some ⟨b,0,none⟩) p.II.length cap3):=by rw[ai bt.r (k:=3) rfl,E]
 have N:=bt.IS E H (show 17<20 by omega);have A:=hid (Bk p t);rcases j with j|⟨u,Y,j⟩
 ·rw[j] at N;have O:=hid (show etP p t={stP p t with II:=(stP p t).II.set t bl} by unfold etP;rw[ag j]);clear bt M H E j;go_enter Tryz.func216,Tryz.ntmps216
  go_wp2_with fail
  refine I.mono ?_;rintro r a ⟨rfl,m,n⟩;have s:=hid m;have P:=hid n;clear m n I L N;have x:=A;generalize stP p t=R at*;go_upto_region 4 with fail
  have d:V 3=.slice (some ⟨b,0,none⟩) R.II.length cap3:=by rw[x.out];exact l
  have v:Hid (Below a.heap.size a a.drew):=hid (aD a 1);have w:=hid (fun X (h:Below a.heap.size a X)=>show X.cell? ⟨wb,3,none⟩=some (.slice (some ⟨b,0,none⟩) p.II.length cap3) from by rw[ai (s.below h).r (k:=3) rfl,l.out]);have B:=hid (fun X (h:Below a.heap.size a X)=>(s.below h).Jc d (i:=t) (by rw[x.out];exact J) bl);have D:=hid (fun X (h:Below a.heap.size a X)=>(s.below h).I7 d (t*20) 20 (by have:=J.out;rw[x.out];omega));clear d;refine wp_region_held_drew (S:=fun X=>X.cell? ⟨wb,3,none⟩=some (.slice (some ⟨b,0,none⟩) p.II.length cap3)) oK (w.out _ v) (fun f=>?_);have c:=hid f;clear f;refine tk 0 (.pointer (some ⟨wb,0,none⟩)) rfl c ?_;simp only[jj];refine tk 1 (.pointer (some ⟨wb,0,none⟩)) rfl c ?_;simp only[jj];refine tk 2 (.pointer (some ⟨wb,3,none⟩)) rfl c ?_;simp only[jj];refine Mem.tg 3 (.slice (some ⟨b,0,none⟩) p.II.length cap3) rfl (Or.inl ⟨oR,fun W h=>by have h3:=h;clear h;go_simp⟩) c ?_;simp only[jj];refine tk 4 (.int .i64 t) rfl c ?_;simp only[jj];refine wpAnyH_ready (rs:=[5]) oK oS (AllReadyH.cons rfl (fun K g=>?_) AllReadyH.nil);go_simp
  refine (mq _).mono ?_;rintro q x1 ⟨rfl,G⟩;have e:=hid (btr v G);clear G;go_wp2_with fail
  refine g _ _ (w.out _ e) (fun f=>?_);have F:=hid f;clear g K f
  try simp only[Act.put,jD,jE,jF]
  refine tk 6 (.pointer (some ⟨b,t*20,none⟩)) rfl F ?_;simp only[jj];obtain⟨b1,k1⟩:=B.out _ e;have z:=hid b1;have Q:=hid (P.trans ((bp e:Kt tag tag a x1).trans k1));have C:=hid (show (x1.setCells b (t*20) (cf 20 bl)).cell? ⟨wb,3,none⟩=some (.slice (some ⟨b,0,none⟩) p.II.length cap3) from by rw[ai z.r (k:=3) rfl,l.out]);clear b1 k1;refine wpAnyH_ready (rs:=[7]) oK oS (AllReadyH.cons rfl (fun K g=>?_) AllReadyH.nil);refine wp_store_mid 37 _ _ rfl b (t*20) (cf 20 bl).toArray rfl rfl (by rw[eE,ay];exact D _ e) (by rw[gV];rfl) (all_oneCell_toArray (bQ 20 _)) ?_;refine g _ _ C (fun _=>?_);clear g K c F
  try simp only[Act.put]
  refine dw oK ?_ _;clear w B D C v e;generalize World.setCells _ _ _ _=Z at*;go_wp2_with fail
  exact aH (aF rfl _ _ _) rfl ⟨rfl,by rw[O.out];exact z,Q.out⟩
 ·rw[j] at N;have T:=hid Y;have ac:(u:Int)<(p.II.length:Int):=oA;have ad:((u:Int)== -1)=false:=oS;have O:=hid (show etP p t={(stP p t).task u 9 0 with II:=((stP p t).task u 9 0).II.set t bl} by unfold etP;rw[ae (by rw[j];omega),j,ah]);clear bt M H E j Y;go_enter Tryz.func216,Tryz.ntmps216
  go_wp2_with fail
  refine I.mono ?_;rintro r w8 ⟨rfl,m,n⟩;have y:=hid m;have U:=hid n;clear m n I L N;have d:V 3=.slice (some ⟨b,0,none⟩) (stP p t).II.length cap3:=by rw[A.out];exact l
  have L:w8.cell? ⟨wb,3,none⟩=some (.slice (some ⟨b,0,none⟩) p.II.length cap3):=by rw[ai y.r (k:=3) rfl,l.out]
  have xa:=y.IS d (i:=u) (by rw[A.out];exact T) (show 9<20 by omega);have fa:=y.IT d (u*20+9);obtain⟨m,n⟩:=y.task d (i:=u) (by rw[A.out];exact T) (show 9<20 by omega) 0;have s:=hid m;have P:=hid (U.trans n);clear m n d;go_upto_region 4 with fail
  generalize World.setCell _ _ _=a at*;clear L xa fa y U;have x:=hid (show ((stP p t).task u 9 0).II.length=p.II.length by rw[ap];exact A);generalize (stP p t).task u 9 0=R at*;have d:V 3=.slice (some ⟨b,0,none⟩) R.II.length cap3:=by rw[x.out];exact l
  have v:Hid (Below a.heap.size a a.drew):=hid (aD a 1);have w:=hid (fun X (h:Below a.heap.size a X)=>show X.cell? ⟨wb,3,none⟩=some (.slice (some ⟨b,0,none⟩) p.II.length cap3) from by rw[ai (s.below h).r (k:=3) rfl,l.out]);have B:=hid (fun X (h:Below a.heap.size a X)=>(s.below h).Jc d (i:=t) (by rw[x.out];exact J) bl);have D:=hid (fun X (h:Below a.heap.size a X)=>(s.below h).I7 d (t*20) 20 (by have:=J.out;rw[x.out];omega));clear d;refine wp_region_held_drew (S:=fun X=>X.cell? ⟨wb,3,none⟩=some (.slice (some ⟨b,0,none⟩) p.II.length cap3)) oK (w.out _ v) (fun f=>?_);have c:=hid f;clear f;refine tk 0 (.pointer (some ⟨wb,0,none⟩)) rfl c ?_;simp only[jj];refine tk 1 (.pointer (some ⟨wb,0,none⟩)) rfl c ?_;simp only[jj];refine tk 2 (.pointer (some ⟨wb,3,none⟩)) rfl c ?_;simp only[jj];refine Mem.tg 3 (.slice (some ⟨b,0,none⟩) p.II.length cap3) rfl (Or.inl ⟨oR,fun W h=>by have h3:=h;clear h;go_simp⟩) c ?_;simp only[jj];refine tk 4 (.int .i64 t) rfl c ?_;simp only[jj];refine wpAnyH_ready (rs:=[5]) oK oS (AllReadyH.cons rfl (fun K g=>?_) AllReadyH.nil);go_simp
  refine (mq _).mono ?_;rintro q x1 ⟨rfl,G⟩;have e:=hid (btr v G);clear G;go_wp2_with fail
  refine g _ _ (w.out _ e) (fun f=>?_);have F:=hid f;clear g K f
  try simp only[Act.put,jD,jE,jF]
  refine tk 6 (.pointer (some ⟨b,t*20,none⟩)) rfl F ?_;simp only[jj];obtain⟨b1,k1⟩:=B.out _ e;have z:=hid b1;have Q:=hid (P.trans ((bp e:Kt tag tag a x1).trans k1));have C:=hid (show (x1.setCells b (t*20) (cf 20 bl)).cell? ⟨wb,3,none⟩=some (.slice (some ⟨b,0,none⟩) p.II.length cap3) from by rw[ai z.r (k:=3) rfl,l.out]);clear b1 k1;refine wpAnyH_ready (rs:=[7]) oK oS (AllReadyH.cons rfl (fun K g=>?_) AllReadyH.nil);refine wp_store_mid 37 _ _ rfl b (t*20) (cf 20 bl).toArray rfl rfl (by rw[eE,ay];exact D _ e) (by rw[gV];rfl) (all_oneCell_toArray (bQ 20 _)) ?_;refine g _ _ C (fun _=>?_);clear g K c F
  try simp only[Act.put]
  refine dw oK ?_ _;clear w B D C v e;generalize World.setCells _ _ _ _=Z at*;go_wp2_with fail
  exact aH (aF rfl _ _ _) rfl ⟨rfl,by rw[O.out];exact z,Q.out⟩
def ds1 (p:PW) (z:Int):PW:=(p.task z.toNat 9 0).task z.toNat 14 (-1)
def dsP (p:PW) (f:Nat):PW:={(p.lines.getD f []).foldl ds1 p with lines:=p.lines.set f [],bits:=p.bits.set f 0}
theorem Cg (p:PW) (z:Int):(ds1 p z).II.length=p.II.length:=by unfold ds1;rw[ap,ap]
theorem wq:∀(l:List Int) (p:PW),(l.foldl ds1 p).II.length=p.II.length
 |[],_=>rfl
 |z::l,p=>by rw[eo,wq l,Cg]
theorem fT:∀(l:List Int) (p:PW),l.foldl ds1 p={p with II:=(l.foldl ds1 p).II}
 |[],_=>rfl
 |z::l,p=>by
  rw[eo,fT l (ds1 p z)];rfl
theorem wt (l:List Int) (k:Nat) (hk:k<l.length) (p:PW):(l.take (k+1)).foldl ds1 p=ds1 ((l.take k).foldl ds1 p) l[k]:=by
 rw[bG hk,List.foldl_append];rfl
theorem cb.JE {W:World} {wb:Nat} {tag:Nat->Nat} {V:Nat->Value} {p:PW} (h:cb W wb tag V p) {g:Nat} (e:V 4=.slice (some ⟨g,0,none⟩) p.lines.length p.lines.length) {j:Nat} (d:j<p.lines.length):
  cb (W.setCell ⟨g,j,none⟩ (.slice none 0 0)) wb tag V {p with lines:=p.lines.set j []}∧Kt tag tag W (W.setCell ⟨g,j,none⟩ (.slice none 0 0)):=by
 have a:=h.o.lines;rw[e] at a;obtain⟨f,b⟩:=a.put d (by intro i;omega) (aV _ W) (fun _ _=>rfl) (u:=.slice none 0 0) (c:=(0,[])) ⟨⟨rfl,.inl ⟨rfl,rfl⟩⟩,fun k hk=>by cases hk⟩;refine⟨h.lines b (fun _ _=>rfl) ?_,.of b (fun k e=>by rcases e with e|⟨i,e⟩<;>omega) (fun _ _=>rfl)⟩;rw[au,e,kz p.lines j d []];exact f
theorem cb.JH {W:World} {wb:Nat} {tag:Nat->Nat} {V:Nat->Value} {p:PW} (h:cb W wb tag V p) {g cap:Nat} (e:V 5=.slice (some ⟨g,0,none⟩) p.bits.length cap) (o:Nat):W.frozen? ⟨g,o,none⟩=false:=by
 have a:=h.o.bits;rw[e] at a;exact a.frozen o
theorem cb.JD {W:World} {wb:Nat} {tag:Nat->Nat} {V:Nat->Value} {p:PW} (h:cb W wb tag V p) {g cap:Nat} (e:V 5=.slice (some ⟨g,0,none⟩) p.bits.length cap) {i:Nat} (hi:i<p.bits.length):W.cell? ⟨g,i,none⟩=some (.int .i64 p.bits[i]):=by
 have a:=h.o.bits;rw[e] at a;exact a.int hi
theorem lD (wb:Nat) (tag:Nat->Nat) (V:Nat->Value) (p:PW) (f:Nat) (W:World) (bt:cb W wb tag V p) (L:p.Fits) (J:f<p.lines.length) (hb:f<p.bits.length) (v:∀z∈p.lines.getD f [],∃u:Nat,z=u∧u<p.II.length):
  Calls Tryz.prog 217 #[.pointer (some ⟨wb,0,none⟩),.int .i64 f] W fun r W'=>r=.returned (.tuple #[])∧cb W' wb tag V (dsP p f)∧Kt tag tag W W':=by
 have aL:(p.lines.length:Int)<=1000:=by have:=L.lines;omega
 have aJ:(p.II.length:Int)<=1000:=by have:=L.II;omega
 have aM:(p.bits.length:Int)<=1000:=by have:=L.bits;omega
 have aG:(f:Int)<(p.lines.length:Int):=oA;have aE:(f:Int)<(p.bits.length:Int):=oA;obtain⟨b,eL⟩:=bt.o.lines.form;have U:=hid eL;have HF:=hid J;have au:=hid hb;obtain⟨l,hl⟩:∃l,p.lines.getD f []=l:=⟨_,rfl⟩
 rw[hl] at v;have aN:l.length<=1000:=by
  have h1:=L.line _ (av J);rw[aa,ac J,aT] at hl;rw[hl] at h1;exact h1
 have aP:(l.length:Int)<=1000:=oA;have aj:=hid (fun X q (h:cb X wb tag V q) (e:q.lines=p.lines)=>show ∃u,X.cell? ⟨b,f,none⟩=some u∧InT X tag (12+3*f) 3 1 u (l.length,dU l) from by
  have h2:=h.o.lines;rw[e,eL] at h2;obtain⟨u,cu,B⟩:=h2.at J;unfold ci at B;rw[hl] at B;exact⟨u,cu,B⟩)
 obtain⟨u,cu,B⟩:=aj.out W p bt rfl;obtain⟨q,gu,am,rfl,hq⟩:=B.shape;have c4:W.cell? ⟨wb,4,none⟩=some (.slice (some ⟨b,0,none⟩) p.lines.length p.lines.length):=by rw[ai bt.r (k:=4) rfl,eL]
 have HB:=hid bt;have HZ:=hid v;have HQ:=hid hq;have HL:=hid hl;have aA:=hid cu;have ay:=hid (fun (h:0<p.II.length)=>bt.o.II.form h);have az:=hid (bt.o.bits.form oA);clear bt L J hb hl v hq B;go_enter Tryz.func217,Tryz.ntmps217
 go_wp2_with fail
 clear c4 cu
 go_loopw [14] (fun i wr=>∃(k:Nat),k<=l.length∧i=.int .i64 k∧Hid (cb wr wb tag V ((l.take k).foldl ds1 p))∧Hid (Kt tag tag W wr)∧Hid (wr.cell? ⟨b,f,none⟩=some (.slice q l.length am))) (fun i _=>l.length - (intOf i).toNat)
 case atStart=>exact⟨0,oA,rfl,HB,hid (ew _ _),aA⟩
 case round=>
  obtain⟨k,hk,rfl,w,HK,O⟩:=hrel;have ad:=hid (fT (l.take k) p);have LT:=hid (wq (l.take k) p);by_cases af:k<l.length
  ·have aQ:(k:Int)<(l.length:Int):=oA;have aC:=HQ.out oA;subst aC;obtain⟨z,v,M⟩:=HZ.out l[k] (av af);have aB:=hid v;have aR:(z:Int)<(p.II.length:Int):=oA;obtain⟨u2,an,ag⟩:=aj.out wr _ w (by rw[ad.out]);have e2:=aK (an.symm.trans O);rw[e2] at ag;have T:=ag.int af;rw[v] at T;obtain⟨g3,cap3,P⟩:=ay.out oA;have E3:=hid P;have n:=hid (fun X q (h:cb X wb tag V q)=>show X.cell? ⟨wb,3,none⟩=some (.slice (some ⟨g3,0,none⟩) p.II.length cap3) from by rw[ai h.r (k:=3) rfl,E3.out]);have I:V 3=.slice (some ⟨g3,0,none⟩) ((l.take k).foldl ds1 p).II.length cap3:=by rw[LT.out];exact P
   have m:Hid (cb wr.drew wb tag V ((l.take k).foldl ds1 p)):=hid (w.below (aD wr 1));have E:Hid (Kt tag tag W wr.drew):=hid (HK.trans (.below (aD wr 1)));have xa:=m.IS I (i:=z) (by rw[LT.out];exact M) (show 9<20 by omega);have fa:=m.IT I (z*20+9);obtain⟨b1,q1⟩:=m.task I (i:=z) (by rw[LT.out];exact M) (show 9<20 by omega) 0;have c:=hid (show cb (wr.setCell ⟨g3,z*20+9,none⟩ (.int .i64 0)).drew wb tag V (((l.take k).foldl ds1 p).task z 9 0) from b1);have D:=hid (show Kt tag tag W (wr.setCell ⟨g3,z*20+9,none⟩ (.int .i64 0)).drew from E.trans q1);have R:V 3=.slice (some ⟨g3,0,none⟩) (((l.take k).foldl ds1 p).task z 9 0).II.length cap3:=by rw[ap];exact I
   have xb:=c.IS R (i:=z) (by rw[ap,LT.out];exact M) (show 14<20 by omega);have fb:=c.IT R (z*20+14);obtain⟨b2,N⟩:=c.task R (i:=z) (by rw[ap,LT.out];exact M) (show 14<20 by omega) (-1);have C:=hid (show cb ((wr.setCell ⟨g3,z*20+9,none⟩ (.int .i64 0)).drew.setCell ⟨g3,z*20+14,none⟩ (.int .i64 (-1))) wb tag V ((l.take (k+1)).foldl ds1 p) by
    rw[wt l k af,aB.out];unfold ds1;rw[ah];exact b2)
   have Y:=hid (D.trans N);have ao:tag b=6:=(show fx wr tag 6 12 22 3 1 ((l.take k).foldl ds1 p).lines.length (.slice (some ⟨b,0,none⟩) ((l.take k).foldl ds1 p).lines.length ((l.take k).foldl ds1 p).lines.length) (ci ((l.take k).foldl ds1 p).lines) from by have A:=w.o.lines;rw[ad.out] at A ⊢;rw[U.out] at A;exact A).Jk.1;have CL:=hid (show ((wr.setCell ⟨g3,z*20+9,none⟩ (.int .i64 0)).drew.setCell ⟨g3,z*20+14,none⟩ (.int .i64 (-1))).cell? ⟨b,f,none⟩=some (.slice (some ⟨gu,0,none⟩) l.length am) from by
    have aq:b≠g3:=by
     intro e;have x:=w.o.II;rw[P] at x;have h4:=x.2 g3 rfl;rw[<-e,ao] at h4
     cases h4
    rw[aO _ _ _ _ (by intro e;cases e;exact aq rfl)];show (wr.setCell ⟨g3,z*20+9,none⟩ (.int .i64 0)).cell? ⟨b,f,none⟩=_
    rw[aO _ _ _ _ (by intro e;cases e;exact aq rfl)];exact O)
   have s:=hid (n.out _ _ c);have G:=hid (n.out _ _ C);have F:=hid (n.out _ _ m);clear b1 q1 b2 N I R ao ag an e2 v P M;go_upto_region 3 with fail
   refine wp_region_held_drew (S:=fun X=>X.cell? ⟨wb,3,none⟩=some (.slice (some ⟨g3,0,none⟩) p.II.length cap3)) oK F (fun H=>?_);have a:=hid H;clear H T;refine tk 0 (.pointer (some ⟨wb,0,none⟩)) rfl a ?_;simp only[jj];refine tk 1 (.pointer (some ⟨wb,0,none⟩)) rfl a ?_;simp only[jj];refine tk 2 (.pointer (some ⟨wb,3,none⟩)) rfl a ?_;simp only[jj];refine Mem.tg 3 (.slice (some ⟨g3,0,none⟩) p.II.length cap3) rfl (Or.inl ⟨oR,fun W h=>by have x:=h;clear h;go_simp⟩) a ?_;simp only[jj];refine tk 4 (.int .i64 z) rfl a ?_;simp only[jj];refine tk 5 (.pointer (some ⟨wb,0,none⟩)) rfl a ?_;simp only[jj];refine tk 6 (.pointer (some ⟨wb,0,none⟩)) rfl a ?_;simp only[jj];refine tk 7 (.pointer (some ⟨wb,3,none⟩)) rfl a ?_;simp only[jj];refine Mem.tg 8 (.slice (some ⟨g3,0,none⟩) p.II.length cap3) rfl (Or.inl ⟨oR,fun W h=>by have x:=h;clear h;go_simp⟩) a ?_;simp only[jj];refine tk 9 (.int .i64 z) rfl a ?_;simp only[jj];refine tk 10 (.pointer (some ⟨g3,z*20,none⟩)) rfl a ?_;simp only[jj];refine tk 11 (.pointer (some ⟨g3,z*20+9,none⟩)) rfl a ?_;simp only[jj];refine wpAnyH_ready (rs:=[12]) oK oS (AllReadyH.cons rfl (fun K d=>?_) AllReadyH.nil);go_simp
   refine d _ _ s (fun _=>?_);clear d K a xa fa
   try simp only[Act.put]
   generalize World.drew (World.setCell _ _ _)=W1 at*;refine tk 13 (.pointer (some ⟨g3,z*20,none⟩)) rfl s ?_;simp only[jj];refine tk 14 (.pointer (some ⟨g3,z*20+14,none⟩)) rfl s ?_;simp only[jj];refine wpAnyH_ready (rs:=[15]) oK oS (AllReadyH.cons rfl (fun K d=>?_) AllReadyH.nil);go_simp
   refine d _ _ G (fun _=>?_);clear d K xb fb
   try simp only[Act.put]
   refine dw oK ?_ _;generalize World.setCell _ _ _=W2 at*;clear F s G c D m E n;go_wp2_with fail
   exact⟨⟨k+1,oA,by go_num,C,Y,CL⟩,by simp[intOf];omega⟩
  ·obtain rfl:k=l.length:=oA;have aI:¬((l.length:Int)<(l.length:Int)):=oA;have ax:=hid (show cb wr wb tag V (l.foldl ds1 p) by have h:=w.out;rw[cO] at h;exact h);have al:=hid (fT l p);obtain⟨t,cap5,e5⟩:=az.out;have E5:=hid e5;generalize ar:l.foldl ds1 p=g at*;have aw:=hid ar;have ab:=hid (show g.lines=p.lines by rw[al.out]);have Z:=hid (show g.bits=p.bits by rw[al.out]);clear w ad LT ar;have m:Hid (cb wr.drew wb tag V g):=hid (ax.below (aD wr 1));have E:Hid (Kt tag tag W wr.drew):=hid (HK.trans (.below (aD wr 1)));have ae:V 4=.slice (some ⟨b,0,none⟩) g.lines.length g.lines.length:=by rw[ab.out];exact U
   have fl:wr.drew.frozen? ⟨b,f,none⟩=false:=by
    have A:=m.o.lines;rw[ae] at A;exact A.fr f
   obtain⟨yl,T⟩:∃y,wr.drew.cell? ⟨b,f,none⟩=some y:=⟨_,O.out⟩
   obtain⟨b1,q1⟩:=m.JE ae (j:=f) (by rw[ab.out];exact HF);have c:=hid (show cb (wr.setCell ⟨b,f,none⟩ (.slice none 0 0)).drew wb tag V {g with lines:=g.lines.set f []} from b1);have D:=hid (show Kt tag tag W (wr.setCell ⟨b,f,none⟩ (.slice none 0 0)).drew from E.trans q1);have Q:V 5=.slice (some ⟨t,0,none⟩) ({g with lines:=g.lines.set f []}:PW).bits.length cap5:=by show V 5=.slice (some ⟨t,0,none⟩) g.bits.length cap5;rw[Z.out];exact e5
   obtain⟨yb,xb⟩:∃y,(wr.setCell ⟨b,f,none⟩ (.slice none 0 0)).drew.cell? ⟨t,f,none⟩=some y:=⟨_,c.JD Q (i:=f) (by show f<g.bits.length;rw[Z.out];exact au)⟩
   have fb:=c.JH Q f;obtain⟨b2,N⟩:=c.Jb Q f 0;have C:=hid (show cb ((wr.setCell ⟨b,f,none⟩ (.slice none 0 0)).drew.setCell ⟨t,f,none⟩ (.int .i64 0)) wb tag V (dsP p f) by
    unfold dsP;rw[HL.out,aw.out, <-ab.out, <-Z.out];exact b2)
   have Y:=hid (D.trans N);have n:=hid (fun X q (h:cb X wb tag V q)=>show X.cell? ⟨wb,4,none⟩=some (.slice (some ⟨b,0,none⟩) p.lines.length p.lines.length)∧X.cell? ⟨wb,5,none⟩=some (.slice (some ⟨t,0,none⟩) p.bits.length cap5) from⟨by rw[ai h.r (k:=4) rfl,U.out],by rw[ai h.r (k:=5) rfl,E5.out]⟩);have F:=hid (n.out _ _ m);have s:=hid (n.out _ _ c);have G:=hid (n.out _ _ C);clear b1 q1 b2 N Q ae e5 O;go_upto_region 5 with fail
   refine wp_region_held_drew (S:=fun X=>X.cell? ⟨wb,4,none⟩=some (.slice (some ⟨b,0,none⟩) p.lines.length p.lines.length)∧X.cell? ⟨wb,5,none⟩=some (.slice (some ⟨t,0,none⟩) p.bits.length cap5)) oK F (fun H=>?_);have a:=hid H;clear H;refine tk 0 (.pointer (some ⟨wb,0,none⟩)) rfl a ?_;simp only[jj];refine tk 1 (.pointer (some ⟨wb,0,none⟩)) rfl a ?_;simp only[jj];refine tk 2 (.pointer (some ⟨wb,4,none⟩)) rfl a ?_;simp only[jj];refine Mem.tg 3 (.slice (some ⟨b,0,none⟩) p.lines.length p.lines.length) rfl (Or.inl ⟨oR,fun W h=>by have x:=h.1;clear h;go_simp⟩) a ?_;simp only[jj];refine tk 4 (.int .i64 f) rfl a ?_;simp only[jj];refine tk 5 (.pointer (some ⟨wb,0,none⟩)) rfl a ?_;simp only[jj];refine tk 6 (.pointer (some ⟨wb,0,none⟩)) rfl a ?_;simp only[jj];refine tk 7 (.pointer (some ⟨wb,5,none⟩)) rfl a ?_;simp only[jj];refine Mem.tg 8 (.slice (some ⟨t,0,none⟩) p.bits.length cap5) rfl (Or.inl ⟨oR,fun W h=>by have x:=h.2;clear h;go_simp⟩) a ?_;simp only[jj];refine tk 9 (.int .i64 f) rfl a ?_;simp only[jj];refine tk 10 (.pointer (some ⟨b,f,none⟩)) rfl a ?_;simp only[jj];refine wpAnyH_ready (rs:=[11]) oK oS (AllReadyH.cons rfl (fun K d=>?_) AllReadyH.nil);go_simp
   refine d _ _ s (fun _=>?_);clear d K a T fl
   try simp only[Act.put]
   generalize World.drew (World.setCell _ _ _)=W1 at*;refine tk 12 (.pointer (some ⟨t,f,none⟩)) rfl s ?_;simp only[jj];refine wpAnyH_ready (rs:=[13]) oK oS (AllReadyH.cons rfl (fun K d=>?_) AllReadyH.nil);go_simp
   refine d _ _ G (fun _=>?_);clear d K xb fb
   try simp only[Act.put]
   refine dw oK ?_ _;generalize World.setCell _ _ _=W2 at*;clear F s G c D m E n;go_wp2_with fail
   exact aH (aF rfl _ _ _) rfl ⟨rfl,C.out,Y.out⟩
def drA (p:PW) (s:Nat):PW:={p with IH:=hnd s ((p.IH.getD s eS) 6) (p.IH.set s eS)}
def daF (dr:PW->Nat->PW) (f:Nat) (a:Nat) (p:PW):PW:=if h:a=0 then p else daF dr f (a - 1) (if (p.IH.getD (f*16+(a - 1)) eS) 0=0 then p else dr p (f*16+(a - 1)))
theorem gB (dr:PW->Nat->PW) (f:Nat) (p:PW):daF dr f 0 p=p:=by rw[daF,dif_pos rfl]
theorem gA (dr:PW->Nat->PW) (f a:Nat) (p:PW):daF dr f (a+1) p=daF dr f a (if (p.IH.getD (f*16+a) eS) 0=0 then p else dr p (f*16+a)):=by rw[daF,dif_neg (Nat.succ_ne_zero a),Nat.add_sub_cancel]
def nkP (p:PW) (f:Nat):PW:={p with kinds:=p.kinds.set f 0}
def lsF (dr:PW->Nat->PW) (p:PW) (k:Int) (f:Nat):PW:=
 if k=2∨k=3 then utP (nkP p f) f else if k=4 then fgP 12 (nkP p f) f else if k=5 then daF dr f 16 (fgP 11 (nkP p f) f) else if k=6 then etP (nkP p f) f else fgP 13 (dsP (nkP p f) f) f
def drF:Nat->PW->Nat->PW
 |0,p,_=>p
 |m+1,p,s=>if (p.IH.getD s eS) 0=1∨gX (drA p s) ((p.IH.getD s eS) 0) ((p.IH.getD s eS) 1)=true then drA p s else lsF (drF m) (drA p s) ((p.IH.getD s eS) 0) ((p.IH.getD s eS) 1).toNat
def nds (p:PW):Nat:=p.kinds.count 5
structure Inv (p:PW):Prop where
 fits:p.Fits
 Jf:p.kinds.length<=24
 IL:p.IL.length=p.kinds.length*16
 IH:p.IH.length=p.kinds.length*16
 II:p.II.length=p.kinds.length
 lines:p.lines.length=p.kinds.length
 bits:p.bits.length=p.kinds.length
 key:∀f∈p.IH,f 0=0∨f 0=1∨(2<=f 0∧f 0<=8∧∃b:Nat,f 1=b∧p.kinds[b]? =some (f 0))
 line:∀l∈p.lines,∀z∈l,∃u:Nat,z=u∧u<p.II.length
 Jj:∀f∈p.II,f 17= -1∨∃u:Nat,f 17=u∧u<p.II.length
 JI:∀(i:Nat) (x k:Int),p.IL[i]? =some x->p.kinds[i/16]? =some k->(k=3∨k=4)->x=0∨∃f:Nat,f<1024∧(x=32768+f∨x=49152+f)
 Jh:∀f∈p.II,f 13= -1∨∃u:Nat,f 13=u∧p.kinds[u]? =some 7
theorem Co {a b:Int} {fs:List (Nat->Int)} {g:Nat->Int} (h:g∈hnd a b fs):∃f∈fs,g 0=f 0∧g 1=f 1:=by
 unfold hnd at h;obtain⟨f,d,rfl⟩:=List.mem_map.1 h;refine⟨f,d,?_⟩;unfold lY;by_cases c:f 6=a
 ·rw[ag c];exact⟨rfl,rfl⟩
 ·rw[ae c];exact⟨rfl,rfl⟩
theorem mL (a b:Int) (fs:List (Nat->Int)):(hnd a b fs).length=fs.length:=bL _
theorem iP {p:PW} (h:Inv p) (s:Nat):Inv (drA p s):=by
 have hl:(drA p s).IH.length=p.IH.length:=by
  show (hnd _ _ (p.IH.set s eS)).length=_
  rw[mL,au]
 exact⟨⟨h.fits.IL,h.fits.kinds,by rw[hl];exact h.fits.IH,h.fits.II,h.fits.lines,h.fits.line,h.fits.bits,h.fits.IJ,h.fits.ready,h.fits.next,h.fits.IK,h.fits.IQ⟩,h.Jf,h.IL,hl.trans h.IH,h.II,h.lines,h.bits,fun g d=>by
  obtain⟨f,a,b,c⟩:=Co d;rw[b,c];rcases aZ a with a|rfl
  ·exact h.key f a
  ·exact .inl rfl,h.line,h.Jj,h.JI,h.Jh⟩
theorem xY {p:PW} {k g:Int} (h:gX p k g=false):∀f∈p.IH,¬(f 0=k∧f 1=g):=fun f a e=>by
 unfold gX at h;rw[bO] at h;exact h f a (by simp[e.1,e.2])
structure oL (p:PW) (n:Int):Prop where
 fits:p.Fits
 Jf:p.kinds.length<=24
 IL:p.IL.length=p.kinds.length*16
 IH:p.IH.length=p.kinds.length*16
 II:p.II.length=p.kinds.length
 lines:p.lines.length=p.kinds.length
 bits:p.bits.length=p.kinds.length
 key:∀f∈p.IH,f 0=0∨f 0=1∨(2<=f 0∧f 0<=8∧∃b:Nat,f 1=b∧p.kinds[b]? =some (f 0))
 line:∀l∈p.lines,∀z∈l,∃u:Nat,z=u∧u<p.II.length
 Jj:∀f∈p.II,f 17= -1∨∃u:Nat,f 17=u∧u<p.II.length
 JI:∀(i:Nat) (x k:Int),p.IL[i]? =some x->p.kinds[i/16]? =some k->(k=3∨k=4)->x=0∨∃f:Nat,f<1024∧(x=32768+f∨x=49152+f)
 Jh:∀f∈p.II,f 13= -1∨f 13=n∨∃u:Nat,f 13=u∧p.kinds[u]? =some 7
theorem xL {p:PW} {f b:Nat} {k:Int} (h:(nkP p f).kinds[b]? =some k) (hk:k≠0):p.kinds[b]? =some k∧b≠f:=by
 have a:(p.kinds.set f 0)[b]? =some k:=h;rw[List.getElem?_set] at a;by_cases e:f=b
 ·rw[ag e] at a;by_cases hl:b<p.kinds.length
  ·rw[ag oA] at a;exact absurd (aK a).symm hk
  ·rw[ae oA] at a;cases a
 ·rw[ae e] at a;exact⟨a,fun e2=>e e2.symm⟩
theorem xM {p:PW} {f b:Nat} {k:Int} (h:p.kinds[b]? =some k) (a:b≠f):(nkP p f).kinds[b]? =some k:=by
 show (p.kinds.set f 0)[b]? =some k
 rw[cR (fun e=>a e.symm)];exact h
theorem lI {p:PW} (h:Inv p) {f:Nat} {k:Int} (hk:p.kinds[f]? =some k) (t:gX p k f=false):oL (nkP p f) f:=by
 have hl:(nkP p f).kinds.length=p.kinds.length:=au ..;refine⟨⟨h.fits.IL,by rw[hl];exact h.fits.kinds,h.fits.IH,h.fits.II,h.fits.lines,h.fits.line,h.fits.bits,h.fits.IJ,h.fits.ready,h.fits.next,h.fits.IK,h.fits.IQ⟩,by rw[hl];exact h.Jf,by rw[hl];exact h.IL,by rw[hl];exact h.IH,by rw[hl];exact h.II,by rw[hl];exact h.lines,by rw[hl];exact h.bits,fun g a=>?_,h.line,h.Jj,fun i x k2 v r o=>?_,fun g a=>?_⟩
 ·rcases h.key g a with m|c|⟨n,q,b,j,d⟩
  ·exact .inl m
  ·exact .inr (.inl c)
  ·refine .inr (.inr ⟨n,q,b,j,xM d ?_⟩);rintro rfl;rw[hk] at d;exact xY t g a ⟨(aK d).symm,j⟩
 ·exact h.JI i x k2 v (xL r oA).1 o
 ·rcases h.Jh g a with c|⟨u,l,s⟩
  ·exact .inl c
  ·by_cases e:u=f
   ·exact .inr (.inl (by rw[l,e]))
   ·exact .inr (.inr ⟨u,l,xM s e⟩)
theorem oL.full {p:PW} {n:Int} (h:oL p n) (hh:∀f∈p.II,f 13=n->f 13= -1):Inv p:=⟨h.fits,h.Jf,h.IL,h.IH,h.II,h.lines,h.bits,h.key,h.line,h.Jj,h.JI,fun f b=>by
 rcases h.Jh f b with a|a|a
 ·exact .inl a
 ·exact .inl (hh f b a)
 ·exact .inr a⟩
theorem gn {p:PW} (h:Inv p) {f:Nat} {k:Int} (hk:p.kinds[f]? =some k) (i:gX p k f=false) (c:k≠7):Inv (nkP p f):=
 (lI h hk i).full fun g d e=>by
  rcases h.Jh g d with b|⟨u,j,a⟩
  ·exact b
  ·have:u=f:=oA;subst this;rw[hk] at a;exact absurd (aK a) c
theorem Bn {p:PW} (h:Inv p) (f:Int):Inv (utP p f):=by
 have hl:(utP p f).IL.length=p.IL.length:=dX;refine⟨⟨by rw[hl];exact h.fits.IL,h.fits.kinds,h.fits.IH,h.fits.II,h.fits.lines,h.fits.line,h.fits.bits,h.fits.IJ,h.fits.ready,h.fits.next,h.fits.IK,h.fits.IQ⟩,h.Jf,hl.trans h.IL,h.IH,h.II,h.lines,h.bits,h.key,h.line,h.Jj,fun i x k d hk c=>?_,h.Jh⟩;have a:(p.IL.mapIdx (ut1 p.kinds f))[i]? =some x:=d;rw[List.getElem?_mapIdx] at a
 cases e:p.IL[i]? with
 |none=>rw[e] at a;cases a
 |some y=>
  rw[e] at a;have b:=aK a;unfold ut1 at b;split at b
  ·exact .inl b.symm
  ·rw[<-b];exact h.JI i y k e hk c
theorem AT {p:PW} {n:Int} (h:oL p n) (c:Nat) (j:c≠17) (f:Int):oL (fgP c p f) n:=by
 have hl:(fgP c p f).II.length=p.II.length:=bL _;have i:∀g∈(fgP c p f).II,∃a∈p.II,g 17=a 17∧(g 13=a 13∨g 13= -1):=fun g d=>by
  obtain⟨a,b,rfl⟩:=List.mem_map.1 (show g∈p.II.map (fg1 c f) from d);refine⟨a,b,?_⟩;unfold fg1;by_cases e:a c=f
  ·rw[ag e];unfold upd;refine⟨ae (fun e=>j e.symm),?_⟩;by_cases e2:13=c
   ·rw[ag e2];exact .inr rfl
   ·rw[ae e2];exact .inl rfl
  ·rw[ae e];exact⟨rfl,.inl rfl⟩
 refine⟨⟨h.fits.IL,h.fits.kinds,h.fits.IH,by rw[hl];exact h.fits.II,h.fits.lines,h.fits.line,h.fits.bits,h.fits.IJ,h.fits.ready,h.fits.next,h.fits.IK,h.fits.IQ⟩,h.Jf,h.IL,h.IH,hl.trans h.II,h.lines,h.bits,h.key,fun l k z m=>by rw[hl];exact h.line l k z m,fun g d=>?_,h.JI,fun g d=>?_⟩
 ·obtain⟨a,b,e, -⟩:=i g d;rw[e,hl];exact h.Jj a b
 ·obtain⟨a,b, -,e|e⟩:=i g d
  ·rw[e];exact h.Jh a b
  ·exact .inl e
theorem Inv.h {p:PW} (h:Inv p) (n:Int):oL p n:=⟨h.fits,h.Jf,h.IL,h.IH,h.II,h.lines,h.bits,h.key,h.line,h.Jj,h.JI,fun f b=>by
 rcases h.Jh f b with a|a
 ·exact .inl a
 ·exact .inr (.inr a)⟩
theorem jk {p:PW} (h:Inv p) (c:Nat) (a:c≠17) (f:Int):Inv (fgP c p f):=(AT (h.h (-1)) c a f).full fun _ _ e=>e
theorem wJ {p:PW} {n:Int} (h:oL p n):Inv (fgP 13 p n):=(AT h 13 oD n).full fun g b e=>by
 obtain⟨a,c,rfl⟩:=List.mem_map.1 (show g∈p.II.map (fg1 13 n) from b);unfold fg1 at e ⊢;by_cases e2:a 13=n
 ·rw[ag e2];exact ag rfl
 ·rw[ae e2] at e;exact absurd e e2
theorem kN {p:PW} {n:Int} (h:oL p n) (t c:Nat) (x:Int) (k:c≠17) (j:c≠13):oL (p.task t c x) n:=by
 have hl:=ap p t c x;have i:∀g∈(p.task t c x).II,∃a,(a∈p.II∨a=bl)∧g 17=a 17∧g 13=a 13:=fun g d=>by
  rcases aZ (show g∈p.II.set t (upd (p.II.getD t bl) c x) from d) with f|f
  ·exact⟨g,.inl f,rfl,rfl⟩
  ·refine⟨p.II.getD t bl,?_,?_,?_⟩
   ·rw[aa]
    cases e:p.II[t]? with
    |none=>exact .inr rfl
    |some y=>exact .inl (ef e)
   ·rw[f];exact ae (fun e=>k e.symm)
   ·rw[f];exact ae (fun e=>j e.symm)
 refine⟨⟨h.fits.IL,h.fits.kinds,h.fits.IH,by rw[hl];exact h.fits.II,h.fits.lines,h.fits.line,h.fits.bits,h.fits.IJ,h.fits.ready,h.fits.next,h.fits.IK,h.fits.IQ⟩,h.Jf,h.IL,h.IH,hl.trans h.II,h.lines,h.bits,h.key,fun l m z o=>by rw[hl];exact h.line l m z o,fun g d=>?_,h.JI,fun g d=>?_⟩
 ·obtain⟨a,b,e, -⟩:=i g d;rw[e,hl];rcases b with b|rfl
  ·exact h.Jj a b
  ·exact .inl rfl
 ·obtain⟨a,b, -,e⟩:=i g d;rw[e];rcases b with b|rfl
  ·exact h.Jh a b
  ·exact .inl rfl
theorem AQ {n:Int}:∀(l:List Int) (p:PW),oL p n->oL (l.foldl ds1 p) n
 |[],_,h=>h
 |z::l,p,h=>by
  rw[eo];exact AQ l (ds1 p z) (kN (kN h z.toNat 9 0 oD oD) z.toNat 14 (-1) oD oD)
theorem mE {p:PW} {n:Int} (h:oL p n) (f:Nat):oL (dsP p f) n:=by
 have a:=AQ (p.lines.getD f []) p h;have e:=fT (p.lines.getD f []) p;unfold dsP;generalize (p.lines.getD f []).foldl ds1 p=q at a e;have hk:q.kinds=p.kinds:=by rw[e]
 refine⟨⟨a.fits.IL,a.fits.kinds,a.fits.IH,a.fits.II,by show (p.lines.set f []).length<=1000;rw[au];exact h.fits.lines,fun l hl=>?_,by show (p.bits.set f 0).length<=1000;rw[au];exact h.fits.bits,a.fits.IJ,a.fits.ready,a.fits.next,a.fits.IK,a.fits.IQ⟩,a.Jf,a.IL,a.IH,a.II,by show (p.lines.set f []).length=q.kinds.length;rw[au,hk];exact h.lines,by show (p.bits.set f 0).length=q.kinds.length;rw[au,hk];exact h.bits,a.key,fun l hl z c=>?_,a.Jj,a.JI,a.Jh⟩
 ·rcases aZ (show l∈p.lines.set f [] from hl) with b|rfl
  ·exact h.fits.line l b
  ·exact bP _
 ·rcases aZ (show l∈p.lines.set f [] from hl) with b|rfl
  ·obtain⟨u,g,d⟩:=h.line l b z c;exact⟨u,g,by show u<q.II.length;rw[a.II,hk, <-h.II];exact d⟩
  ·cases c
theorem sO {t:Int} {ls:List (List Int)} {l:List Int} (h:l∈lvs t ls):∃l0∈ls,(∀z∈l,z∈l0)∧l.length<=l0.length:=by
 unfold lvs at h;obtain⟨l0,a,rfl⟩:=List.mem_map.1 h;unfold dz;exact⟨l0,a,fun z b=>(List.mem_filter.1 b).1,cW _ _⟩
theorem Bj {p:PW} {n:Int} (h:oL p n) (t:Nat):oL (stP p t) n:=by
 have hl:(p.II.map (nOw t)).length=p.II.length:=bL _;have j:oL ({p with lines:=lvs t p.lines,ready:=lvs t p.ready,IJ:=p.IJ.map (noT t),II:=p.II.map (nOw t)}:PW) n:=by
  refine⟨⟨h.fits.IL,h.fits.kinds,h.fits.IH,by show (p.II.map (nOw t)).length<=1000;rw[hl];exact h.fits.II,by show (lvs t p.lines).length<=1000;rw[mX];exact h.fits.lines,fun l d=>?_,h.fits.bits,by show (p.IJ.map (noT t)).length<=1000;rw[bL];exact h.fits.IJ,by show (lvs t p.ready).length<=1000;rw[mX];exact h.fits.ready,fun l d=>?_,h.fits.IK,h.fits.IQ⟩,h.Jf,h.IL,h.IH,by show (p.II.map (nOw t)).length=_;rw[hl];exact h.II,by show (lvs t p.lines).length=_;rw[mX];exact h.lines,h.bits,h.key,fun l d z o=>?_,fun g f=>?_,h.JI,fun g f=>?_⟩
  ·obtain⟨l0,b, -,c⟩:=sO d;exact aB c (h.fits.line l0 b)
  ·obtain⟨l0,b, -,c⟩:=sO d;exact aB c (h.fits.next l0 b)
  ·obtain⟨l0,b,c, -⟩:=sO d;obtain⟨u,m,k⟩:=h.line l0 b z (c z o);exact⟨u,m,by show u<(p.II.map (nOw t)).length;rw[hl];exact k⟩
  ·obtain⟨a,b,rfl⟩:=List.mem_map.1 (show g∈p.II.map (nOw t) from f);show nOw t a 17= -1∨∃u:Nat,nOw t a 17=u∧u<(p.II.map (nOw t)).length
   rw[hl];unfold nOw;by_cases e:a 17=t
   ·rw[ag e];exact .inl (ag rfl)
   ·rw[ae e];exact h.Jj a b
  ·obtain⟨a,b,rfl⟩:=List.mem_map.1 (show g∈p.II.map (nOw t) from f);have i:nOw t a 13=a 13:=by
    unfold nOw;by_cases e:a 17=t
    ·rw[ag e];exact ae oD
    ·rw[ae e]
   rw[i];exact h.Jh a b
 exact kN (kN j t 9 0 oD oD) t 14 (-1) oD oD
theorem Dl {p:PW} {n:Int} (h:oL p n) (t:Nat):oL ({p with II:=p.II.set t bl}:PW) n:=by
 have hl:(p.II.set t bl).length=p.II.length:=au ..;refine⟨⟨h.fits.IL,h.fits.kinds,h.fits.IH,by show (p.II.set t bl).length<=1000;rw[hl];exact h.fits.II,h.fits.lines,h.fits.line,h.fits.bits,h.fits.IJ,h.fits.ready,h.fits.next,h.fits.IK,h.fits.IQ⟩,h.Jf,h.IL,h.IH,hl.trans h.II,h.lines,h.bits,h.key,fun l c z f=>by
  obtain⟨u,e,d⟩:=h.line l c z f;exact⟨u,e,by show u<(p.II.set t bl).length;rw[hl];exact d⟩,fun g b=>?_,h.JI,fun g b=>?_⟩
 ·show g 17= -1∨∃u:Nat,g 17=u∧u<(p.II.set t bl).length
  rw[hl];rcases aZ (show g∈p.II.set t bl from b) with a|rfl
  ·exact h.Jj g a
  ·exact .inl rfl
 ·rcases aZ (show g∈p.II.set t bl from b) with a|rfl
  ·exact h.Jh g a
  ·exact .inl rfl
theorem AR {p:PW} (h:Inv p) (t:Nat):Inv (etP p t):=by
 have a:oL (if p.II.getD t bl 17= -1 then stP p t else (stP p t).task (p.II.getD t bl 17).toNat 9 0) (-1):=by
  split
  ·exact Bj (h.h (-1)) t
  ·exact kN (Bj (h.h (-1)) t) _ 9 0 oD oD
 exact (Dl a t).full fun _ _ e=>e
theorem jz (p:PW) (t:Nat):(etP p t).kinds=p.kinds:=by
 unfold etP;split<;>rfl
theorem iu (p:PW) (f:Nat):(dsP p f).kinds=p.kinds:=by
 have e:=fT (p.lines.getD f []) p;show ((p.lines.getD f []).foldl ds1 p).kinds=p.kinds
 rw[e]
theorem ji:∀(l:List Int) (f:Nat),(l.set f 0).count 5<=l.count 5∧(l[f]? =some 5->(l.set f 0).count 5+1=l.count 5)
 |[],f=>⟨aq _,fun h=>by simp at h⟩
 |x::l,0=>by
  rw[List.set_cons_zero,List.count_cons,List.count_cons];refine⟨oS,fun h=>?_⟩;have:x=5:=by simpa using h
  rw[this];simp
 |x::l,f+1=>by
  obtain⟨b,a⟩:=ji l f;rw[List.set_cons_succ,List.count_cons,List.count_cons];refine⟨oA,fun h=>?_⟩;have:=a (by simpa using h);omega
theorem wi {m:Nat} {dr:PW->Nat->PW} {f:Nat} (c:∀p s,nds p<m->Inv p->s<p.IH.length->(p.IH.getD s eS) 0≠0->Inv (dr p s)∧nds (dr p s)<=nds p∧(dr p s).kinds.length=p.kinds.length):∀(a:Nat) (p:PW),nds p<m->Inv p->f*16+a<=p.IH.length->Inv (daF dr f a p)∧nds (daF dr f a p)<=nds p∧(daF dr f a p).kinds.length=p.kinds.length
 |0,p,_,h,_=>by
  rw[gB];exact⟨h,aq _,rfl⟩
 |a+1,p,hn,h,hl=>by
  rw[gA];by_cases b:(p.IH.getD (f*16+a) eS) 0=0
  ·rw[ag b];exact wi c a p hn h oA
  ·rw[ae b];obtain⟨d,i,e⟩:=c p (f*16+a) hn h oA b;have l:(dr p (f*16+a)).IH.length=p.IH.length:=by rw[d.IH,e,h.IH]
   obtain⟨g,j,k⟩:=wi (m:=m) (f:=f) c a (dr p (f*16+a)) oA d oA;exact⟨g,oA,oA⟩
theorem As {p:PW} {s:Nat} (a:s<p.IH.length):p.IH.getD s eS∈p.IH:=by
 rw[aa,ac a];exact av a
theorem sL {p:PW} (h:Inv p) {s:Nat} (i:s<p.IH.length) (a:(p.IH.getD s eS) 0≠0) (c:¬(p.IH.getD s eS) 0=1):∃b:Nat,(p.IH.getD s eS) 1=b∧p.kinds[b]? =some ((p.IH.getD s eS) 0)∧2<=(p.IH.getD s eS) 0∧(p.IH.getD s eS) 0<=8:=by
 rcases h.key _ (As i) with e|e|⟨d,f,b,g,hk⟩
 ·exact absurd e a
 ·exact absurd e c
 ·exact⟨b,g,hk,d,f⟩
theorem AZ {m:Nat} {dr:PW->Nat->PW} (i:∀p s,nds p<m->Inv p->s<p.IH.length->(p.IH.getD s eS) 0≠0->Inv (dr p s)∧nds (dr p s)<=nds p∧(dr p s).kinds.length=p.kinds.length) {p:PW} (h:Inv p) (n:nds p<m+1) {k:Int} {f:Nat} (hk:p.kinds[f]? =some k) (b:gX p k f=false):Inv (lsF dr p k f)∧nds (lsF dr p k f)<=nds p∧(lsF dr p k f).kinds.length=p.kinds.length:=by
 have hl:(nkP p f).kinds.length=p.kinds.length:=au ..;have d:=ji p.kinds f;have a:=d.1;unfold lsF;by_cases c:k=2∨k=3
 ·rw[ag c];exact⟨Bn (gn h hk b oA) f,a,hl⟩
 rw[ae c];by_cases e4:k=4
 ·rw[ag e4];exact⟨jk (gn h hk b oA) 12 oD f,a,hl⟩
 rw[ae e4];by_cases e5:k=5
 ·rw[ag e5];have hi:=jk (gn h hk b oA) 11 oD (f:Int);have j:nds (nkP p f)+1=nds p:=d.2 (by rw[hk,e5]);have l:f<p.kinds.length:=(List.getElem?_eq_some_iff.1 hk).1;obtain⟨a1,e,g⟩:=wi (m:=m) (f:=f) i 16 (fgP 11 (nkP p f) f) (by show nds (nkP p f)<m;omega) hi (by show f*16+16<=p.IH.length;have:=h.IH;omega);exact⟨a1,aB e a,g.trans hl⟩
 rw[ae e5];by_cases e6:k=6
 ·rw[ag e6];refine⟨AR (gn h hk b oA) f,?_,?_⟩
  ·show (etP (nkP p f) f).kinds.count 5<=_;rw[jz];exact a
  ·rw[jz];exact hl
 rw[ae e6];refine⟨wJ (mE (lI h hk b) f),?_,?_⟩
 ·show (dsP (nkP p f) f).kinds.count 5<=_;rw[iu];exact a
 ·show (dsP (nkP p f) f).kinds.length=_;rw[iu];exact hl
theorem nV:∀(m:Nat) (p:PW) (s:Nat),nds p<m->Inv p->s<p.IH.length->(p.IH.getD s eS) 0≠0->Inv (drF m p s)∧nds (drF m p s)<=nds p∧(drF m p s).kinds.length=p.kinds.length
 |0,p,_,hn,_,_,_=>absurd hn (dG _)
 |m+1,p,s,hn,h,hs,h0=>by
  unfold drF;by_cases a:(p.IH.getD s eS) 0=1∨gX (drA p s) ((p.IH.getD s eS) 0) ((p.IH.getD s eS) 1)=true
  ·rw[ag a];exact⟨iP h s,aq _,rfl⟩
  ·rw[ae a];obtain⟨b,c,hk, -, -⟩:=sL h hs h0 (fun e=>a (.inl e));rw[c,ah];have d:gX (drA p s) ((p.IH.getD s eS) 0) b=false:=by
    cases e:gX (drA p s) ((p.IH.getD s eS) 0) b with
    |false=>rfl
    |true=>exact absurd (.inr (by rw[c];exact e)) a
   exact AZ (m:=m) (nV m) (iP h s) hn hk d
def mj (m:Nat):Prop:=∀(p:PW) (s:Nat) (W:World) (wb:Nat) (tag:Nat->Nat) (V:Nat->Value),nds p<m->Inv p->s<p.IH.length->(p.IH.getD s eS) 0≠0->cb W wb tag V p->Calls Tryz.prog 81 #[.pointer (some ⟨wb,0,none⟩),.int .i64 s] W fun r W'=>r=.returned (.tuple #[])∧∃tag',cb W' wb tag' V (drF m p s)∧Kt tag tag' W W'
theorem Be {W:World} {wb:Nat} {tag:Nat->Nat} {V:Nat->Value} {p:PW} (h:cb W wb tag V p) (x:Nat):cb W wb (gR tag W.heap.size x) V p∧Kt tag (gR tag W.heap.size x) W W:=
 ⟨h.kp (T:=fun _=>False) (aV _ _) (fun _ _ e=>e.elim) (fun _ hk=>dO hk),Kt.of (T:=fun _=>False) (aV _ _) (fun _ e=>e.elim) (fun _ hk=>dO hk)⟩
theorem gI {p:PW} {s:Nat} (a:s<p.IH.length):p.IH.getD s eS=p.IH[s]:=by rw[aa,ac a];rfl
theorem cb.Jy {W:World} {wb:Nat} {tag:Nat->Nat} {V:Nat->Value} {p:PW} (h:cb W wb tag V p) {g cap:Nat} (e:V 2=.slice (some ⟨g,0,none⟩) p.IH.length cap) {i:Nat} (hi:i<p.IH.length):W.cell? ⟨g,i*7,none⟩=some (.int .i64 ((p.IH.getD i eS) 0)):=by
 have a:=h.I0 e hi (show 0<7 by omega);rw[bu] at a;rw[gI hi];exact a
theorem AW:(Tryz.prog.info? 32).map (·.size)=some 6:=oK
theorem Br {ops:Array Oper} {rest:List Oper} {op:Oper} {a:Act} {w:World} {Q:Exit->Act->World->Prop} (d:op.guard=none) (x y:Operand) (e:op.op=.store 32 x y)
  (b o:Nat) (g:a.eval x=.pointer (some ⟨b,o,none⟩)) (cs:List Value) (i:a.eval y=.agg cs.toArray) (hl:cs.length=6) (c:∀v∈cs,v.oneCell'=true) (f:w.there b o 6)
  (h:wpList Tryz.prog ops Q rest (a.put op.dst undef) (w.setCells b o cs)):wpList Tryz.prog ops Q (op::rest) a w:=
 wpList_store_mid d 32 x y e b o cs.toArray g i (by simpa [hl] using f) (by rw[AW];simp[hl]) (all_oneCell_toArray c) (by simpa using h)
theorem Bq {ops:Array Oper} {rest:List Oper} {op:Oper} {a:Act} {w:World} {Q:Exit->Act->World->Prop} (d:op.guard=none) (x:Operand) (e:op.op=.load 32 x)
  (b o:Nat) (f:a.eval x=.pointer (some ⟨b,o,none⟩)) (cs:List Value) (hl:cs.length=6) (c:w.rangeAt b o cs)
  (h:wpList Tryz.prog ops Q rest (a.put op.dst (.agg cs.toArray)) w):wpList Tryz.prog ops Q (op::rest) a w:=
 wpList_load_mid d 32 x e b o f cs _ c Tryz.underlying32 rfl (by rw[AW,hl]) h
theorem yt {W:World} {b o:Nat} {f:Nat->Int} (h:W.rangeAt b o (cf 7 f)):W.rangeAt b o (cf 6 f):=fun j v hv=>h j v (by
 have a:j<6:=by
  have:=(List.getElem?_eq_some_iff.1 hv).1
  rwa [ay] at this
 rw[dk 6 f j a] at hv;rw[dk 7 f j oA];exact hv)
theorem cb.Jg {W:World} {wb:Nat} {tag:Nat->Nat} {V:Nat->Value} {p:PW} (h:cb W wb tag V p) {g cap:Nat} (e:V 2=.slice (some ⟨g,0,none⟩) p.IH.length cap) (o m:Nat) (b:o+m<=p.IH.length*7):W.there g o m:=by
 have a:=h.o.IH;rw[e] at a;exact a.there o m b
theorem su {m:Nat} (C:mj m) (p:PW) (f:Nat) (W:World) (wb:Nat) (tag:Nat->Nat) (V:Nat->Value) (b:nds p<m) (hi:Inv p) (M:f<p.kinds.length) (bt:cb W wb tag V p):
  Calls Tryz.prog 215 #[.pointer (some ⟨wb,0,none⟩),.int .i64 f] W fun r W'=>r=.returned (.tuple #[])∧∃tag',cb W' wb tag' V (daF (drF m) f 16 p)∧Kt tag tag' W W':=by
 have E:=hi.IH;have L:=hi.Jf;have S:(p.IH.length:Int)<=1000:=oA;have R:(f:Int)<=23:=oA;have I:=hid (show f*16+16<=p.IH.length by omega);obtain⟨B,cap2,e2⟩:=bt.o.IH.form (show 0<p.IH.length by omega);have x:=hid e2;have H:=hid C;have G:=hid (show ∃q tg,cb W wb tg V q∧Kt tag tg W W∧Inv q∧nds q<m∧q.IH.length=p.IH.length∧daF (drF m) f 16 q=daF (drF m) f 16 p from⟨p,tag,bt,ew _ _,hi,b,rfl,rfl⟩);clear bt hi b C e2 E L M;go_enter Tryz.func215,Tryz.ntmps215
 go_wp2_with fail
 go_loopw [4] (fun i wr=>∃(a:Nat) (v:Int),i=.int .i64 v∧Hid (v=(a:Int) - 1∧a<=16∧∃q tg,cb wr wb tg V q∧Kt tag tg W wr∧Inv q∧nds q<m∧q.IH.length=p.IH.length∧daF (drF m) f a q=daF (drF m) f 16 p)) (fun i _=>(intOf i+1).toNat)
 case atStart=>exact⟨16,15,rfl,hid ⟨rfl,aq _,G.out⟩⟩
 case round=>
  obtain⟨a,v,rfl,l⟩:=hrel;obtain⟨hv,t,q,tg,bt,kt,hi,b,e,h⟩:=l.out
  cases a with
  |zero=>
   obtain rfl:v= -1:=oA;have z:=hid bt;have n:=hid kt;have J:=hid h;clear bt kt hi b e h hv t l;go_wp2_with fail
   exact aH (aF rfl _ _ _) rfl ⟨rfl,tg,by rw[<-J.out,gB];exact z,n.out⟩
  |succ a=>
   obtain rfl:v=(a:Int):=oA;obtain⟨sl,w⟩:∃sl:Nat,f*16+a=sl:=⟨_,rfl⟩
   have E:(f:Int)*16+(a:Int)=(sl:Int):=oA;have j:sl<q.IH.length:=by have:=I.out;omega
   have T:(sl:Int)<(p.IH.length:Int):=oA;have P:0<=(a:Int):=oA;have Q:(a:Int)<=15:=oA;have u:V 2=.slice (some ⟨B,0,none⟩) q.IH.length cap2:=by rw[e];exact x
   have c2:wr.cell? ⟨wb,2,none⟩=some (.slice (some ⟨B,0,none⟩) p.IH.length cap2):=by rw[ai bt.r (k:=2) rfl,x.out]
   have F:=bt.Jy u j;have z:=hid bt;have n:=hid kt;have d:daF (drF m) f a (if (q.IH.getD sl eS) 0=0 then q else drF m q sl)=daF (drF m) f 16 p:=by rw[<-h,gA,w]
   by_cases c:(q.IH.getD sl eS) 0=0
   ·rw[ag c] at d;rw[c] at F;have s:=hid (show (a<=16∧∃q tg,cb wr wb tg V q∧Kt tag tg W wr∧Inv q∧nds q<m∧q.IH.length=p.IH.length∧daF (drF m) f a q=daF (drF m) f 16 p) from⟨oA,q,tg,bt,kt,hi,b,e,d⟩);clear bt kt hi b e h d hv t l u j w c;go_wp2_with fail
    exact⟨⟨a,(a:Int) - 1,by first|rfl|go_num,hid ⟨rfl,s.out⟩⟩,by simp[intOf]<;>omega⟩
   ·rw[ae c] at d;have A:=hid (H.out q sl wr wb tg V b hi j c bt);obtain⟨i1,i2,i3⟩:=nV m q sl b hi j c;have D:(drF m q sl).IH.length=p.IH.length:=by rw[i1.IH,i3, <-hi.IH];exact e
    have g:=hid (show Inv (drF m q sl)∧nds (drF m q sl)<m∧(drF m q sl).IH.length=p.IH.length∧daF (drF m) f a (drF m q sl)=daF (drF m) f 16 p from⟨i1,oA,D,d⟩);have K:((q.IH.getD sl eS) 0 !=0)=true:=by simpa using c
    generalize (q.IH.getD sl eS) 0=y at F K;generalize drF m q sl=N at A g;clear bt kt hi b e h d hv t l u j w c i1 i2 i3 D;go_wp2_with fail
    refine A.mono ?_;rintro r w1 ⟨rfl,O,b2,k2⟩;have s:=hid (show (a<=16∧∃q tg,cb w1 wb tg V q∧Kt tag tg W w1∧Inv q∧nds q<m∧q.IH.length=p.IH.length∧daF (drF m) f a q=daF (drF m) f 16 p) from⟨oA,N,O,b2,n.trans k2,g.1,g.2.1,g.2.2.1,g.2.2.2⟩);clear b2 k2;go_wp2_with fail
    exact⟨⟨a,(a:Int) - 1,by first|rfl|go_num,hid ⟨rfl,s.out⟩⟩,by simp[intOf]<;>omega⟩
theorem zU {m:Nat} (s:mj m) (p:PW) (k:Int) (f:Nat) (W:World) (wb:Nat) (tag:Nat->Nat) (V:Nat->Value) (B:nds p<m+1) (hi:Inv p) (hk:p.kinds[f]? =some k) (q:gX p k f=false) (w:2<=k) (x:k<=8) (bt:cb W wb tag V p):
  Calls Tryz.prog 159 #[.pointer (some ⟨wb,0,none⟩),.int .i64 k,.int .i64 f] W fun r W'=>r=.returned (.tuple #[])∧∃tag',cb W' wb tag' V (lsF (drF m) p k f)∧Kt tag tag' W W':=by
 obtain⟨d,A⟩:=List.getElem?_eq_some_iff.1 hk;have l:=hi.Jf;have Y:(p.kinds.length:Int)<=1000:=oA;have U:(f:Int)<(p.kinds.length:Int):=oA;obtain⟨J,N,e1⟩:=bt.o.kinds.form (show 0<p.kinds.length by omega);have c1:W.cell? ⟨wb,1,none⟩=some (.slice (some ⟨J,0,none⟩) p.kinds.length N):=by rw[ai bt.r (k:=1) rfl,e1]
 obtain⟨Z,x1⟩:∃y,W.cell? ⟨J,f,none⟩=some y:=⟨_,bt.IZ e1 d⟩
 have C:=bt.I9 e1 f;obtain⟨b1,k1⟩:=bt.IW e1 f 0;have t:=hid (show cb (W.setCell ⟨J,f,none⟩ (.int .i64 0)) wb tag V (nkP p f) from b1);have v:=hid k1;have hh:=lI hi hk q;have c:(nkP p f).kinds.length=p.kinds.length:=au ..;have S:=hid (show f<(nkP p f).kinds.length by rw[c];exact d);have T:=hid hh;clear b1 k1 e1 bt;rcases (show k=2∨k=3∨k=4∨k=5∨k=6∨k=7∨k=8 by omega) with rfl|rfl|rfl|rfl|rfl|rfl|rfl
 ·have i:=hid (show lsF (drF m) p 2 f=utP (nkP p f) f by unfold lsF;rw[ag (.inl rfl)]);have a:=hid (oI wb tag V (nkP p f) f _ t oA (by rw[c];exact l) hh.IL);clear hi hk q B s w x d A l hh c;go_enter Tryz.func159,Tryz.ntmps159
  go_upto_region 1 with fail
  generalize World.setCell _ _ _=D at*;clear c1 x1 C;go_wp2_with fail
  refine a.mono ?_;rintro r E ⟨rfl,b9,b⟩;have g:=hid b9;have j:=hid (v.trans b);clear b9 b a;go_wp2_with fail
  exact aH (aF rfl _ _ _) rfl ⟨rfl,tag,by rw[i.out];exact g,j.out⟩
 ·have i:=hid (show lsF (drF m) p 3 f=utP (nkP p f) f by unfold lsF;rw[ag (.inr rfl)]);have a:=hid (oI wb tag V (nkP p f) f _ t oA (by rw[c];exact l) hh.IL);clear hi hk q B s w x d A l hh c;go_enter Tryz.func159,Tryz.ntmps159
  go_upto_region 1 with fail
  generalize World.setCell _ _ _=D at*;clear c1 x1 C;go_wp2_with fail
  refine a.mono ?_;rintro r E ⟨rfl,b9,b⟩;have g:=hid b9;have j:=hid (v.trans b);clear b9 b a;go_wp2_with fail
  exact aH (aF rfl _ _ _) rfl ⟨rfl,tag,by rw[i.out];exact g,j.out⟩
 ·have i:=hid (show lsF (drF m) p 4 f=fgP 12 (nkP p f) f by unfold lsF;rw[ae oD,ag rfl]);have a:=hid (sC wb tag V (nkP p f) f _ t hh.fits.II);clear hi hk q B s w x d A l hh c;go_enter Tryz.func159,Tryz.ntmps159
  go_upto_region 1 with fail
  generalize World.setCell _ _ _=D at*;clear c1 x1 C;go_wp2_with fail
  refine a.mono ?_;rintro r E ⟨rfl,b9,b⟩;have g:=hid b9;have j:=hid (v.trans b);clear b9 b a;go_wp2_with fail
  exact aH (aF rfl _ _ _) rfl ⟨rfl,tag,by rw[i.out];exact g,j.out⟩
 ·have i:=hid (show lsF (drF m) p 5 f=daF (drF m) f 16 (fgP 11 (nkP p f) f) by unfold lsF;rw[ae oD,ae oD,ag rfl]);have a:=hid (vf wb tag V (nkP p f) f _ t hh.fits.II);have M:=jk (gn hi hk q oD) 11 oD (f:Int);have O:nds (nkP p f)+1=nds p:=(ji p.kinds f).2 hk;have L:=hid (fun X (h:cb X wb tag V (fgP 11 (nkP p f) f))=>su s (fgP 11 (nkP p f) f) f X wb tag V (by show nds (nkP p f)<m;omega) M (by show f<(nkP p f).kinds.length;rw[c];exact d) h);clear M O;clear hi hk q B s w x d A l hh c;go_enter Tryz.func159,Tryz.ntmps159
  go_upto_region 1 with fail
  generalize World.setCell _ _ _=D at*;clear c1 x1 C;go_wp2_with fail
  refine a.mono ?_;rintro r w2 ⟨rfl,b2,k2⟩;have F:=hid b2;have H:=hid (v.trans k2);clear b2 k2 a;go_wp2_with fail
  refine (L.out _ F).mono ?_;rintro r E ⟨rfl,R,b9,b⟩;have g:=hid b9;have j:=hid (H.trans b);clear b9 b L;go_wp2_with fail
  exact aH (aF rfl _ _ _) rfl ⟨rfl,R,by rw[i.out];exact g,j.out⟩
 ·have i:=hid (show lsF (drF m) p 6 f=etP (nkP p f) f by unfold lsF;rw[ae oD,ae oD,ae oD,ag rfl]);have I:f<(nkP p f).II.length:=by rw[hh.II,c];exact d
  have a:=hid (sx wb tag V (nkP p f) f _ t hh.fits I (by
   rcases hh.Jj ((nkP p f).II.getD f bl) (by rw[aa,ac I];exact av I) with e|⟨u,Q,P⟩
   ·exact .inl e
   ·exact .inr ⟨u,P,Q⟩))
  clear I;clear hi hk q B s w x d A l hh c;go_enter Tryz.func159,Tryz.ntmps159
  go_upto_region 1 with fail
  generalize World.setCell _ _ _=D at*;clear c1 x1 C;go_wp2_with fail
  refine a.mono ?_;rintro r E ⟨rfl,b9,b⟩;have g:=hid b9;have j:=hid (v.trans b);clear b9 b a;go_wp2_with fail
  exact aH (aF rfl _ _ _) rfl ⟨rfl,tag,by rw[i.out];exact g,j.out⟩
 ·have i:=hid (show lsF (drF m) p 7 f=fgP 13 (dsP (nkP p f) f) f by unfold lsF;rw[ae oD,ae oD,ae oD,ae oD]);have n:f<(nkP p f).lines.length:=by rw[hh.lines,c];exact d
  have a:=hid (lD wb tag V (nkP p f) f _ t hh.fits n (by rw[hh.bits,c];exact d) (fun z K=>hh.line _ (by rw[aa,ac n];exact av n) z K));have G:=hid (fun X (h:cb X wb tag V (dsP (nkP p f) f))=>nZ wb tag V (dsP (nkP p f) f) f X h (mE hh f).fits.II);clear n;clear hi hk q B s w x d A l hh c;go_enter Tryz.func159,Tryz.ntmps159
  go_upto_region 1 with fail
  generalize World.setCell _ _ _=D at*;clear c1 x1 C;go_wp2_with fail
  refine a.mono ?_;rintro r w2 ⟨rfl,b2,k2⟩;have F:=hid b2;have H:=hid (v.trans k2);clear b2 k2 a;go_wp2_with fail
  refine (G.out _ F).mono ?_;rintro r E ⟨rfl,b9,b⟩;have g:=hid b9;have j:=hid (H.trans b);clear b9 b G;go_wp2_with fail
  exact aH (aF rfl _ _ _) rfl ⟨rfl,tag,by rw[i.out];exact g,j.out⟩
 ·have i:=hid (show lsF (drF m) p 8 f=fgP 13 (dsP (nkP p f) f) f by unfold lsF;rw[ae oD,ae oD,ae oD,ae oD]);have n:f<(nkP p f).lines.length:=by rw[hh.lines,c];exact d
  have a:=hid (lD wb tag V (nkP p f) f _ t hh.fits n (by rw[hh.bits,c];exact d) (fun z K=>hh.line _ (by rw[aa,ac n];exact av n) z K));have G:=hid (fun X (h:cb X wb tag V (dsP (nkP p f) f))=>nZ wb tag V (dsP (nkP p f) f) f X h (mE hh f).fits.II);clear n;clear hi hk q B s w x d A l hh c;go_enter Tryz.func159,Tryz.ntmps159
  go_upto_region 1 with fail
  generalize World.setCell _ _ _=D at*;clear c1 x1 C;go_wp2_with fail
  refine a.mono ?_;rintro r w2 ⟨rfl,b2,k2⟩;have F:=hid b2;have H:=hid (v.trans k2);clear b2 k2 a;go_wp2_with fail
  refine (G.out _ F).mono ?_;rintro r E ⟨rfl,b9,b⟩;have g:=hid b9;have j:=hid (H.trans b);clear b9 b G;go_wp2_with fail
  exact aH (aF rfl _ _ _) rfl ⟨rfl,tag,by rw[i.out];exact g,j.out⟩
theorem wk {m:Nat} (hd:mj m):mj (m+1):=by
 intro p s W wb tag V hn hi F h0 ap;obtain⟨bt,kr⟩:=Be ap 0;have KR:=hid kr;have T0:=hid (fun x (h:W.heap.size<=x)=>show gR tag W.heap.size 0 x=0 from ae oA);generalize gR tag W.heap.size 0=tg at*;clear ap kr;have az:=hi.IH;have ax:=hi.Jf;have aB:(p.IH.length:Int)<=1000:=oA;have aC:(s:Int)<(p.IH.length:Int):=oA;obtain⟨g,B,e2⟩:=bt.o.IH.form (show 0<p.IH.length by omega);have J:=hid e2;have HS:=hid F;have c2:W.cell? ⟨wb,2,none⟩=some (.slice (some ⟨g,0,none⟩) p.IH.length B):=by rw[ai bt.r (k:=2) rfl,e2]
 obtain⟨f,w⟩:∃f,p.IH.getD s eS=f:=⟨_,rfl⟩
 have RS:=hid (show W.rangeAt g (s*7) (cf 7 f) from by
  have C:=bt.o.IH;rw[e2] at C;have h3:=C.range F;rw[<-gI F,w] at h3;exact h3)
 have l:=hid (aP W zV 34 W.heap.size 7 rfl oD);have R:=hid (show Below W.heap.size W ((W.alloc (.cells zV 34)).setCells W.heap.size 0 (cf 7 f)) from bT (bal (af W.heap.size W) (.cells zV 34)) (aq _) _ 0);have aa:=hid (World.rangeAt_setCells_same (W.alloc (.cells zV 34)) W.heap.size 0 (cf 7 f) (by rw[ay];exact l));have T4:=hid (T0.out W.heap.size (aq _));have HB:=hid bt;have HQ:=hid (show drA p s={p with IH:=hnd s (f 6) (p.IH.set s eS)} by unfold drA;rw[w]);have al:=hid (fun X (h:cb X wb tg V {p with IH:=p.IH.set s eS})=>zD wb tg V {p with IH:=p.IH.set s eS} s (f 6) X h (by show (p.IH.set s eS).length<=1000;rw[au];omega));have ad:=iP hi s;have t:=hid (show drF (m+1) p s=if f 0=1∨gX (drA p s) (f 0) (f 1)=true then drA p s else lsF (drF m) (drA p s) (f 0) (f 1).toNat by
  show (if _ then _ else _)=_
  rw[w])
 have M:=hid (fun X y (h:cb X wb y V (drA p s))=>qQ wb V (drA p s) (f 0) (f 1) X h.r (jr h.o.IH.1) (by rw[ad.IH];show p.kinds.length*16<=1000;omega));have L:=hid (show f 0≠1->gX (drA p s) (f 0) (f 1)=false->∃b:Nat,f 1=b∧∀X y,cb X wb y V (drA p s)->Calls Tryz.prog 159 #[.pointer (some ⟨wb,0,none⟩),.int .i64 (f 0),.int .i64 b] X fun r W'=>r=.returned (.tuple #[])∧∃tag',cb W' wb tag' V (lsF (drF m) (drA p s) (f 0) b)∧Kt y tag' X W' from fun i ho=>by
  obtain⟨b,a,hk,C,h8⟩:=sL hi F h0 (by rw[w];exact i);rw[w] at a hk C h8;rw[a] at ho;exact⟨b,a,fun X y h=>zU hd (drA p s) (f 0) b X wb y V hn ad hk ho C h8 h⟩)
 clear bt hi F h0 hn hd e2 az ax w ad T0;go_enter Tryz.func81,Tryz.ntmps81
 go_upto_region 1 with (first|((with_reducible refine gld 34 ?_);refine yM rfl _ rfl g (s*7) rfl (cf 7 f) (ay _ _) RS ?_)|((with_reducible refine gst 34 ?_);refine nC rfl _ _ rfl W.heap.size 0 rfl (cf 7 f) rfl (ay _ _) (bQ _ _) l ?_))
 generalize World.setCells _ _ _ _=d at*;obtain⟨kb,av⟩:∃kb,W.heap.size=kb:=⟨_,rfl⟩
 rw[av] at aa T4 ⊢;clear av c2 RS l;have H:=hid (HB.below R);have K1:=hid (show Kt tag tg W d from KR.trans (.below R));clear HB KR R;have Q:Hid (Below d.heap.size d d.drew):=hid (aD d 1);have KS:=hid (fun X (h:Below d.heap.size d X)=>show X.cell? ⟨wb,2,none⟩=some (.slice (some ⟨g,0,none⟩) p.IH.length B) from by rw[ai (H.below h).r (k:=2) rfl,J.out]);have an:=hid (fun X (h:Below d.heap.size d X)=>(H.below h).I1 J HS eS);have ao:=hid (fun X (h:Below d.heap.size d X)=>(H.below h).Jg J (s*7) 7 (by have:=HS.out;omega));refine wp_region_held_drew (S:=fun X=>X.cell? ⟨wb,2,none⟩=some (.slice (some ⟨g,0,none⟩) p.IH.length B)) oK (KS.out _ Q) (fun D=>?_);have u:=hid D;clear D;refine tk 0 (.pointer (some ⟨wb,0,none⟩)) rfl u ?_;simp only[jj];refine tk 1 (.pointer (some ⟨wb,0,none⟩)) rfl u ?_;simp only[jj];refine tk 2 (.pointer (some ⟨wb,2,none⟩)) rfl u ?_;simp only[jj];refine Mem.tg 3 (.slice (some ⟨g,0,none⟩) p.IH.length B) rfl (Or.inl ⟨oR,fun W h=>by have h3:=h;clear h;go_simp⟩) u ?_;simp only[jj];refine tk 4 (.int .i64 s) rfl u ?_;simp only[jj];refine wpAnyH_ready (rs:=[5]) oK oS (AllReadyH.cons rfl (fun K E=>?_) AllReadyH.nil);go_simp
 refine (wz _).mono ?_;rintro q x1 ⟨rfl,a⟩;have A:=hid (btr Q a);clear a;go_wp2_with fail
 refine E _ _ (KS.out _ A) (fun D=>?_);have ar:=hid D;clear E K D
 try simp only[Act.put,jD,jE,jF]
 refine tk 6 (.pointer (some ⟨g,s*7,none⟩)) rfl ar ?_;simp only[jj];obtain⟨b2,k2⟩:=an.out _ A;have O:=hid b2;have U:=(bp A:Kt tg tg d x1).trans k2;have K2:=hid (K1.trans U);have ab:=hid (show (x1.setCells g (s*7) (cf 7 eS)).rangeAt kb 0 (cf 7 f) from fun o v hv=>U.cell (aa.out o v hv) T4);have SX:=hid (show (x1.setCells g (s*7) (cf 7 eS)).cell? ⟨wb,2,none⟩=some (.slice (some ⟨g,0,none⟩) p.IH.length B) from by rw[ai O.r (k:=2) rfl,J.out]);clear b2 k2 U;refine wpAnyH_ready (rs:=[7]) oK oS (AllReadyH.cons rfl (fun K E=>?_) AllReadyH.nil);refine wp_store_mid 34 _ _ rfl g (s*7) (cf 7 eS).toArray rfl rfl (by rw[eE,ay];exact ao _ A) (by rw[lH];rfl) (all_oneCell_toArray (bQ 7 _)) ?_;refine E _ _ SX (fun _=>?_);clear E K u ar
 try simp only[Act.put]
 refine dw oK ?_ _;clear KS an ao SX Q A H K1 aa;generalize World.setCells _ _ _ _=W2 at*;have y6:=ai ab (k:=6) (v:=.int .i64 (f 6)) (dk 7 _ 6 oA);go_wp2_with fail
 refine (al.out _ O).mono ?_;rintro r c ⟨rfl,b3,k3⟩;have B3:=hid (show cb c wb tg V (drA p s) by rw[HQ.out];exact b3);have K3:=hid (K2.trans k3);have am:=hid (yt (show c.rangeAt kb 0 (cf 7 f) from fun o v hv=>k3.cell (ab.out o v hv) T4));clear b3 k3 y6 al O K2 ab HQ;have l:=hid (aP c zK 32 c.heap.size 6 rfl oD);have T:=hid (show Below c.heap.size c ((c.alloc (.cells zK 32)).setCells c.heap.size 0 (cf 6 f)) from bT (bal (af c.heap.size c) (.cells zK 32)) (aq _) _ 0);have ac:=hid (World.rangeAt_setCells_same (c.alloc (.cells zK 32)) c.heap.size 0 (cf 6 f) (by rw[ay];exact l));go_upto_region 4 with (first|((with_reducible refine gld 32 ?_);refine Bq rfl _ rfl kb 0 rfl (cf 6 f) (ay _ _) am ?_)|((with_reducible refine gst 32 ?_);refine Br rfl _ _ rfl c.heap.size 0 rfl (cf 6 f) rfl (ay _ _) (bQ _ _) l ?_))
 generalize World.setCells _ _ _ _=W4 at*;generalize c.heap.size=kc at ac ⊢;have I:=hid (B3.below T);have Y:=hid (K3.trans (.below T));clear l T B3 K3 am;have z:=ai ac (k:=0) (v:=.int .i64 (f 0)) (dk 6 _ 0 oA);have G:=ai ac (k:=1) (v:=.int .i64 (f 1)) (dk 6 _ 1 oA);by_cases i:f 0=1
 ·have n:=hid (show drF (m+1) p s=drA p s by rw[t.out,ag (.inl i)]);have N:(f 0 !=1)=false:=by rw[i];rfl
  generalize f 0=z0 at z N;clear i L M t;go_wp2_with fail
  exact aH (aF rfl _ _ _) rfl ⟨rfl,tg,by rw[n.out];exact I,Y.out⟩
 have N:(f 0 !=1)=true:=by simpa using i
 have j:=hid (M.out _ _ I)
 cases hop:gX (drA p s) (f 0) (f 1) with
 |true=>
  have n:=hid (show drF (m+1) p s=drA p s by rw[t.out,ag (.inr hop)]);rw[hop] at j;generalize f 0=z0 at z N j;generalize f 1=z1 at G j;clear i L M t hop;go_wp2_with fail
  refine j.mono ?_;rintro r w5 ⟨rfl,a⟩;have P:=hid (I.below a);have Z:=hid (Y.trans (.below a));clear a;go_wp2_with fail
  exact aH (aF rfl _ _ _) rfl ⟨rfl,tg,by rw[n.out];exact P,Z.out⟩
 |false=>
  obtain⟨b,a,aw⟩:=L.out i hop;have n:=hid (show drF (m+1) p s=lsF (drF m) (drA p s) (f 0) b by rw[t.out,ae (by rintro (e|e);exact i e;rw[hop] at e;cases e),a,ah]);rw[hop] at j;rw[a] at G j;have HL:=hid aw;generalize f 0=z0 at z N j HL n;clear i L M t hop a aw;go_wp2_with fail
  refine j.mono ?_;rintro r w5 ⟨rfl,a⟩;have P:=hid (I.below a);have Z:=hid (Y.trans (.below a));have aE:=(a.cell (aj _ _ z)).trans z;have aG:=(a.cell (aj _ _ G)).trans G;clear a z G j;go_wp2_with fail
  refine (HL.out _ _ P).mono ?_;rintro r w9 ⟨rfl,aA,b9,k9⟩;have B9:=hid b9;have K9:=hid (Z.trans k9);clear b9 k9;go_wp2_with fail
  exact aH (aF rfl _ _ _) rfl ⟨rfl,aA,by rw[n.out];exact B9,K9.out⟩
theorem tM:∀m,mj m
 |0=>fun _ _ _ _ _ _ a=>absurd a (dG _)
 |m+1=>wk (tM m)
