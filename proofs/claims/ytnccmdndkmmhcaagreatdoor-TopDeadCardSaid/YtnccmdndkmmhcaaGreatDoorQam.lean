/- Qam -/
import Derived.Deep.RegionHeld3
import Derived.BigQuiet
import Derived.Test.YtnccmdndkmmhcaaGreatDoorQal
set_option maxRecDepth 100000
set_option maxHeartbeats 16000000
namespace Go.Proofs.YtnccmdndkmmhcaaGreatDoor
namespace Mmu
open Go.RowKit Mem Bw Nums
theorem nO (t:Int) (wr:Bool) (w:World):
  Calls Tryz.prog 250 #[.int .i64 t,.bool wr] w fun e w'=>e=.returned (.tuple #[.int .i64 (if 0<=t∧t<=23 then 32768+t+(if wr=true then 16384 else 0) else 0),wA (if 0<=t∧t<=23 then 0 else 2)])∧w=w':=by
 by_cases h:0<=t∧t<=23
 ·obtain⟨h0,a⟩:=h;have c:=Ix t h0 oA;have b:=Iw t h0 oA
  cases wr with
  |true=>
   go_enter Tryz.func250,Tryz.ntmps250
   go_wp2_with fail
   go_ret2
   refine⟨?_,rfl⟩;show Ending.returned (.tuple #[.int .i64 (49152+t),.nilIface])=.returned (.tuple #[.int .i64 (32768+t+16384),.nilIface])
   rw[show (49152:Int)+t=32768+t+16384 by omega]
  |false=>
   go_enter Tryz.func250,Tryz.ntmps250
   go_wp2_with fail
   go_ret2
   refine⟨?_,rfl⟩;rfl
 ·simp only[ae h];by_cases h0:t<0
  ·clear h;go_enter Tryz.func250,Tryz.ntmps250
   go_wp2_with fail
   go_ret2
   exact⟨rfl,rfl⟩
  ·have a:24<=t:=oA;clear h;go_enter Tryz.func250,Tryz.ntmps250
   go_wp2_with fail
   go_ret2
   exact⟨rfl,rfl⟩
end Mmu
namespace Wd
open Go.RowKit Mem Bw Nums Mmu
theorem Ib (f:Nat->Int):(cf 7 f).toArray=#[.int .i64 (f 0),.int .i64 (f 1),.int .i64 (f 2),.int .i64 (f 3),.int .i64 (f 4),.int .i64 (f 5),.int .i64 (f 6)]:=rfl
theorem GP (c1 c2:Nat) (k g:Int) (f:Nat->Int) (w:World) (e:w.cell? ⟨c1,0,none⟩=some (.int .i64 k)) (i:w.cell? ⟨c2,0,none⟩=some (.int .i64 g)):
  Calls Tryz.prog 210 #[.agg (cf 7 f).toArray,.pointer (some ⟨c1,0,none⟩),.pointer (some ⟨c2,0,none⟩)] w fun r w'=>r=.returned (.bool (f 0==k&&f 1==g))∧Below w.heap.size w w':=by
 rw[Ib];have a:=hid (bal (af w.heap.size w) (.cells #[.int .i64 (f 0),.int .i64 (f 1),.int .i64 (f 2),.int .i64 (f 3),.int .i64 (f 4),.int .i64 (f 5),.int .i64 (f 6)] 34));have q:=cq w #[.int .i64 (f 0),.int .i64 (f 1),.int .i64 (f 2),.int .i64 (f 3),.int .i64 (f 4),.int .i64 (f 5),.int .i64 (f 6)] 34 0;have k1:=cq w #[.int .i64 (f 0),.int .i64 (f 1),.int .i64 (f 2),.int .i64 (f 3),.int .i64 (f 4),.int .i64 (f 5),.int .i64 (f 6)] 34 1;have o:=(a.cell (aj _ _ e)).trans e;have p:=(a.cell (aj _ _ i)).trans i;clear e i;by_cases h:f 0=k
 ·have j:(f 0==k)=true:=by simpa using h
  have b:=hid (show (f 0==k&&f 1==g)=(f 1==g) by rw[j];rfl);by_cases c:f 1=g
  ·have l:(f 1==g)=true:=by simpa using c
   have d:=hid l;clear h c;generalize f 0=m at*;generalize f 1=n at*;go_enter Tryz.func210,Tryz.ntmps210
   go_wp2_with fail
   go_ret
   exact⟨by rw[b.out,d.out];rfl,a.out⟩
  ·have l:(f 1==g)=false:=by simpa using c
   have d:=hid l;clear h c;generalize f 0=m at*;generalize f 1=n at*;go_enter Tryz.func210,Tryz.ntmps210
   go_wp2_with fail
   go_ret
   exact⟨by rw[b.out,d.out];rfl,a.out⟩
 ·have j:(f 0==k)=false:=by simpa using h
  have b:=hid (show (f 0==k&&f 1==g)=false by rw[j];rfl);generalize f 0=m at*;go_enter Tryz.func210,Tryz.ntmps210
  go_wp2_with fail
  go_ret
  exact⟨by rw[b.out];rfl,a.out⟩
theorem pz (c1 c2:Nat) (k g:Int) (v:Value) (fs:List (Nat->Int)) (w:World) (hv:RowsIn 7 w v fs) (hl:fs.length<=1000) (d:w.cell? ⟨c1,0,none⟩=some (.int .i64 k)∧w.cell? ⟨c2,0,none⟩=some (.int .i64 g)):
  Calls Tryz.prog 219 #[v,.func (.func 210) #[] #[.pointer (some ⟨c1,0,none⟩),.pointer (some ⟨c2,0,none⟩)]] w fun r w'=>(∃i:Int,r=.returned (.int .i64 i)∧decide (0<=i)=fs.any (fun f=>f 0==k&&f 1==g))∧Below w.heap.size w w':=by
 have G:=hid hv;obtain⟨q,b,off,cap,rfl,A, -⟩:=hv;have M:(fs.length:Int)<=1000:=oA;have E:=hid A;have F:=hid (fun X (h:Below w.heap.size w X) (f:Nat->Int)=>GP c1 c2 k g f X ((h.cell (aj _ _ d.1)).trans d.1) ((h.cell (aj _ _ d.2)).trans d.2));clear A d;go_enter Tryz.func219,Tryz.ntmps219
 go_wp2_with fail
 go_loopw [8] (fun i wr=>∃(a:Nat),a<=fs.length∧i=.int .i64 a∧Hid (Below w.heap.size w wr∧∀j (c:j<fs.length),j<a->(fs[j] 0==k&&fs[j] 1==g)=false)) (fun i _=>fs.length - (intOf i).toNat)
 case atStart=>exact⟨0,oA,rfl,hid ⟨af _ _,fun j _ h=>oA⟩⟩
 case round=>
  obtain⟨a,hk,rfl,m⟩:=hrel;have l:=hid m.1;have s:=hid m.2;clear m;by_cases z:a<fs.length
  ·have N:(a:Int)<(fs.length:Int):=oA;have I:=E.out oA;subst I;obtain⟨P,b2,O,K,e2,B,C⟩:=G.below l;have u:=hid (C a z);have H:=B oA;subst H
   cases e2
   obtain⟨f,o⟩:∃f,fs[a]=f:=⟨_,rfl⟩
   rw[o] at u;have t:=hid o;clear o C B;go_wp2_with (first|((with_reducible refine gld 34 ?_);refine yL rfl _ rfl b (off+a*7) rfl (cf 7 f) (ay _ _) u ?_))
   refine (F.out _ l f).mono ?_;rintro r w1 ⟨rfl,y⟩;have p:=hid (btr l y);clear y
   cases hyt:(f 0==k&&f 1==g) with
   |true=>
    have n:=hid (show decide (0<=(a:Int))=fs.any (fun f=>f 0==k&&f 1==g) by
     rw[az oA];exact (List.any_eq_true.2 ⟨f,by rw[<-t.out];exact av z,hyt⟩).symm)
    go_wp2_with fail
    go_ret
    exact⟨⟨_,rfl,n.out⟩,p.out⟩
   |false=>
    have D:=hid (show Below w.heap.size w w1∧∀j (c:j<fs.length),j<a+1->(fs[j] 0==k&&fs[j] 1==g)=false from⟨p.out,fun j c h=>by
     by_cases e:j=a
     ·subst e;rw[t.out];exact hyt
     ·exact s j c oA⟩)
    go_wp2_with fail
    exact⟨⟨a+1,oA,by go_num,D⟩,by simp[intOf];omega⟩
  ·obtain rfl:a=fs.length:=oA;have L:¬((fs.length:Int)<(fs.length:Int)):=oA;have n:=hid (show decide (0<=(-1:Int))=fs.any (fun f=>f 0==k&&f 1==g) by
    rw[aw oA];symm;rw[bP];intro x J;obtain⟨j,c,rfl⟩:=dD J;rw[s.out j c c]
    decide)
   go_wp2_with fail
   go_ret
   exact⟨⟨_,rfl,n.out⟩,l.out⟩
theorem vt (c1 c2:Nat) (k g:Int) (v:Value) (fs:List (Nat->Int)) (w:World) (hv:RowsIn 7 w v fs) (hl:fs.length<=1000) (e:w.cell? ⟨c1,0,none⟩=some (.int .i64 k)∧w.cell? ⟨c2,0,none⟩=some (.int .i64 g)):
  Calls Tryz.prog 160 #[v,.func (.func 210) #[] #[.pointer (some ⟨c1,0,none⟩),.pointer (some ⟨c2,0,none⟩)]] w fun r w'=>r=.returned (.bool (fs.any (fun f=>f 0==k&&f 1==g)))∧Below w.heap.size w w':=by
 have c:=hid (pz c1 c2 k g v fs w hv hl e);clear hv hl e;go_enter Tryz.func160,Tryz.ntmps160
 go_wp2_with fail
 refine c.mono ?_;rintro r w1 ⟨⟨i,rfl,hi⟩,h⟩;have b:=hid h;have d:=hid hi;clear h c hi;by_cases h0:0<=i
 ·have a:=hid (az h0);go_wp2_with fail
  go_ret
  exact⟨by rw[<-d.out,a.out];rfl,b.out⟩
 ·have a:=hid (aw h0);go_wp2_with fail
  go_ret
  exact⟨by rw[<-d.out,a.out];rfl,b.out⟩
def ig (p:PW) (k g:Int):Bool:=p.IA.any (fun f=>f 0==k&&f 1==g)
theorem qA (vb:Nat) (V:Nat->Value) (p:PW) (k g:Int) (w:World) (d:w.rangeAt vb 0 (de V).toList) (hv:RowsIn 7 w (V 2) p.IA) (hl:p.IA.length<=1000):
  Calls Tryz.prog 158 #[.pointer (some ⟨vb,0,none⟩),.int .i64 k,.int .i64 g] w fun r w'=>r=.returned (.bool (ig p k g))∧Below w.heap.size w w':=by
 have a:=hid (bal (bal (af w.heap.size w) (.cells #[.int .i64 k] 3)) (.cells #[.int .i64 g] 3));have e:=(fh (cq w #[.int .i64 k] 3) oS (.cells #[.int .i64 g] 3)) 0;have h:=iq (w.alloc (.cells #[.int .i64 k] 3)) #[.int .i64 g] 3 (w.heap.size+1) oS 0;have c2:((w.alloc (.cells #[.int .i64 k] 3)).alloc (.cells #[.int .i64 g] 3)).cell? ⟨vb,2,none⟩=some (V 2):=ai (cW d a) (k:=2) rfl;have b:=hid (vt w.heap.size (w.heap.size+1) k g (V 2) p.IA _ (hv.below a) hl ⟨e,h⟩);have j:=hid (show p.IA.any (fun f=>f 0==k&&f 1==g)=ig p k g from rfl);rw[j.out] at b;clear hv d hl e h;go_enter Tryz.func158,Tryz.ntmps158
 go_wp2_with fail
 refine b.mono ?_;rintro r w1 ⟨rfl,c⟩;have i:=hid (btr a c);clear c;go_wp2_with fail
 go_ret
 exact⟨rfl,i.out⟩
def fg1 (c:Nat) (f:Int) (g:Nat->Int):Nat->Int:=if g c=f then upd g c (-1) else g
def fgP (c:Nat) (p:PW) (f:Int):PW:={p with IB:=p.IB.map (fg1 c f)}
theorem wM (g o:Nat) (w:World):Calls Tryz.prog 213 #[.pointer (some ⟨g,o,none⟩)] w fun r w'=>r=.returned (.pointer (some ⟨g,o+12,none⟩))∧w=w':=by
 go_enter Tryz.func213,Tryz.ntmps213
 go_wp2_with fail
 go_ret
 exact⟨rfl,rfl⟩
theorem mz {N c:Nat} (u:c<20) (I:∀s (W:World),(callFunc N s).run Tryz.prog W=.ok (.enter N s) W) (v:∀(g o:Nat) (w:World),Calls Tryz.prog N #[.pointer (some ⟨g,o,none⟩)] w fun r w'=>r=.returned (.pointer (some ⟨g,o+c,none⟩))∧w=w') (wb:Nat) (tag:Nat->Nat) (V:Nat->Value) (p:PW) (f:Int) (W:World) (bt:cb W wb tag V p) (hl:p.IB.length<=1000):
  Calls Tryz.prog 212 #[.pointer (some ⟨wb,0,none⟩),.int .i64 f,.func (.func N) #[] #[]] W fun r W'=>r=.returned (.tuple #[])∧cb W' wb tag V (fgP c p f)∧Kt tag tag W W':=by
 obtain⟨H,g,cap,m,A⟩:=bt.o.IB.shape;have t:W.cell? ⟨wb,3,none⟩=some (.slice H p.IB.length cap):=by rw[ai bt.r (k:=3) rfl,m]
 have B:=hid bt;have D:=hid A;have q:=hid m;have K:(p.IB.length:Int)<=1000:=oA;clear bt A m;go_enter Tryz.func212,Tryz.ntmps212
 go_wp2_with fail
 clear t
 go_loopw [13] (fun i wr=>∃(k:Nat),k<=p.IB.length∧i=.int .i64 k∧Hid (cb wr wb tag V {p with IB:=ff (fg1 c f) k p.IB})∧Hid (Kt tag tag W wr)) (fun i _=>p.IB.length - (intOf i).toNat)
 case atStart=>exact⟨0,oA,rfl,hid (by rw[fj];exact B),hid (en _ _)⟩
 case round=>
  obtain⟨k,hk,rfl,a,l⟩:=hrel;by_cases e:k<p.IB.length
  ·have L:(k:Int)<(p.IB.length:Int):=oA;have G:=D.out oA;subst G;have b:k<(ff (fg1 c f) k p.IB).length:=by rw[cK];exact e
   have j:V 3=.slice (some ⟨g,0,none⟩) (ff (fg1 c f) k p.IB).length cap:=by rw[cK];exact q
   have t:wr.cell? ⟨wb,3,none⟩=some (.slice (some ⟨g,0,none⟩) p.IB.length cap):=by rw[ai a.r (k:=3) rfl,q.out]
   have n:=a.IW j b u;have E:=a.II j (k*20+c);simp only[dY (fg1 c f) k p.IB e b] at n;by_cases d:p.IB[k] c=f
   ·obtain⟨z,x⟩:=a.IK j b u (-1);have h:=hid (show cb (wr.setCell ⟨g,k*20+c,none⟩ (.int .i64 (-1))) wb tag V {p with IB:=ff (fg1 c f) (k+1) p.IB} by
     rw[ep (fg1 c f) k p.IB e,show fg1 c f p.IB[k]=upd p.IB[k] c (-1) from ag d, <-dY (fg1 c f) k p.IB e b];exact z)
    have C:=hid (l.trans x);rw[d] at n;clear z x j d b a;go_wp2_with fail
    refine (v g (k*20) wr).mono ?_;rintro r w1 ⟨rfl,rfl⟩;go_wp2_with fail
    exact⟨⟨k+1,oA,by go_num,h,C⟩,by simp[intOf];omega⟩
   ·have h:=hid (show cb wr wb tag V {p with IB:=ff (fg1 c f) (k+1) p.IB} by
     rw[ep (fg1 c f) k p.IB e,show fg1 c f p.IB[k]=p.IB[k] from ae d, <-dY (fg1 c f) k p.IB e b,bV];exact a)
    have F:(p.IB[k] c==f)=false:=by simpa using d
    generalize p.IB[k] c=y at n F;clear j d b a E;go_wp2_with fail
    refine (v g (k*20) wr).mono ?_;rintro r w1 ⟨rfl,rfl⟩;go_wp2_with fail
    exact⟨⟨k+1,oA,by go_num,h,l⟩,by simp[intOf];omega⟩
  ·obtain rfl:k=p.IB.length:=oA;have J:¬((p.IB.length:Int)<(p.IB.length:Int)):=oA;have h:=hid (show cb wr wb tag V (fgP c p f) by unfold fgP;rw[<-fG];exact a);clear a;go_wp2_with fail
   exact aI (aF rfl _ _ _) rfl ⟨rfl,h.out,l.out⟩
theorem si (wb:Nat) (tag:Nat->Nat) (V:Nat->Value) (p:PW) (f:Int) (W:World) (bt:cb W wb tag V p) (hl:p.IB.length<=1000):
  Calls Tryz.prog 212 #[.pointer (some ⟨wb,0,none⟩),.int .i64 f,.func (.func 213) #[] #[]] W fun r W'=>r=.returned (.tuple #[])∧cb W' wb tag V (fgP 12 p f)∧Kt tag tag W W':=
 mz oD (fun _ _=>by go_simp) wM wb tag V p f W bt hl
theorem zw (g o:Nat) (w:World):Calls Tryz.prog 214 #[.pointer (some ⟨g,o,none⟩)] w fun r w'=>r=.returned (.pointer (some ⟨g,o+11,none⟩))∧w=w':=by
 go_enter Tryz.func214,Tryz.ntmps214
 go_wp2_with fail
 go_ret
 exact⟨rfl,rfl⟩
theorem ve (wb:Nat) (tag:Nat->Nat) (V:Nat->Value) (p:PW) (f:Int) (W:World) (bt:cb W wb tag V p) (hl:p.IB.length<=1000):
  Calls Tryz.prog 212 #[.pointer (some ⟨wb,0,none⟩),.int .i64 f,.func (.func 214) #[] #[]] W fun r W'=>r=.returned (.tuple #[])∧cb W' wb tag V (fgP 11 p f)∧Kt tag tag W W':=
 mz oD (fun _ _=>by go_simp) zw wb tag V p f W bt hl
theorem zv (g o:Nat) (w:World):Calls Tryz.prog 218 #[.pointer (some ⟨g,o,none⟩)] w fun r w'=>r=.returned (.pointer (some ⟨g,o+13,none⟩))∧w=w':=by
 go_enter Tryz.func218,Tryz.ntmps218
 go_wp2_with fail
 go_ret
 exact⟨rfl,rfl⟩
theorem nQ (wb:Nat) (tag:Nat->Nat) (V:Nat->Value) (p:PW) (f:Int) (W:World) (bt:cb W wb tag V p) (hl:p.IB.length<=1000):
  Calls Tryz.prog 212 #[.pointer (some ⟨wb,0,none⟩),.int .i64 f,.func (.func 218) #[] #[]] W fun r W'=>r=.returned (.tuple #[])∧cb W' wb tag V (fgP 13 p f)∧Kt tag tag W W':=
 mz oD (fun _ _=>by go_simp) zv wb tag V p f W bt hl
def idK (F:Nat->Int->Int) (k:Nat) (l:List Int):List Int:=(l.mapIdx F).take k++l.drop k
theorem kV (F:Nat->Int->Int) (k:Nat) (l:List Int):(idK F k l).length=l.length:=by
 unfold idK;rw[ax,bD,eJ,dW];omega
theorem tQ (F:Nat->Int->Int) (l:List Int):idK F 0 l=l:=by simp[idK]
theorem wW (F:Nat->Int->Int) (l:List Int):idK F l.length l=l.mapIdx F:=by
 unfold idK;rw[List.drop_length,dT,List.take_of_length_le (by rw[dW];exact aq _)]
theorem sp (F:Nat->Int->Int) (k:Nat) (l:List Int) (i:Nat):(idK F k l)[i]? =if i<k then (l[i]?).map (F i) else l[i]? :=by
 unfold idK;by_cases hi:i<k
 ·rw[ag hi];by_cases hl:i<l.length
  ·rw[List.getElem?_append_left (by rw[bD,dW];omega),List.getElem?_take,ag hi,List.getElem?_mapIdx]
  ·rw[dQ (by rw[bD,dW];omega),bD,dW,dK,aK oA,aK oA];rfl
 ·rw[ae hi,dQ (by rw[bD,dW];omega),bD,dW,dK];by_cases hl:k<=l.length
  ·rw[show k+(i - min k l.length)=i by omega]
  ·rw[aK oA,aK oA]
theorem wX {F:Nat->Int->Int} {k:Nat} {l:List Int} (hk:k<l.length) (h:k<(idK F k l).length):(idK F k l)[k]=l[k]:=by
 have a:=sp F k l k;rw[ae oA,ac hk,ac h] at a;exact aL a
theorem jw {F:Nat->Int->Int} {k:Nat} {l:List Int} (hk:k<l.length):idK F (k+1) l=(idK F k l).set k (F k l[k]):=by
 apply List.ext_getElem?;intro i;rw[sp,List.getElem?_set,sp];by_cases h:k=i
 ·subst h;rw[ag oA,ag rfl,ag (by rw[kV];exact hk),ac hk];rfl
 ·rw[ae h];by_cases a:i<k
  ·rw[ag oA,ag a]
  ·rw[ae oA,ae a]
theorem lT {F:Nat->Int->Int} {k:Nat} {l:List Int} (hk:k<l.length) (hF:F k l[k]=l[k]):idK F (k+1) l=idK F k l:=by
 have hl:k<(idK F k l).length:=by rw[kV];exact hk
 rw[jw hk,hF, <-wX (F:=F) hk hl,bV]
def ut1 (ks:List Int) (f:Int) (i:Nat) (x:Int):Int:=if (ks.getD (i/16) 0=3∨ks.getD (i/16) 0=4)∧(x=32768+f∨x=49152+f) then 0 else x
def utP (p:PW) (f:Int):PW:={p with IE:=p.IE.mapIdx (ut1 p.kinds f)}
theorem cb.JN {W:World} {wb:Nat} {tag:Nat->Nat} {V:Nat->Value} {p:PW} (h:cb W wb tag V p) {g cap:Nat} (e:V 0=.slice (some ⟨g,0,none⟩) p.IE.length cap) {i:Nat} (hi:i<p.IE.length):W.cell? ⟨g,i,none⟩=some (.int .i64 p.IE[i]):=by
 have a:=h.o.IE;rw[e] at a;exact a.int hi
theorem cb.JO {W:World} {wb:Nat} {tag:Nat->Nat} {V:Nat->Value} {p:PW} (h:cb W wb tag V p) {g cap:Nat} (e:V 0=.slice (some ⟨g,0,none⟩) p.IE.length cap) (o:Nat):W.frozen? ⟨g,o,none⟩=false:=by
 have a:=h.o.IE;rw[e] at a;exact a.frozen o
theorem cb.IT {W:World} {wb:Nat} {tag:Nat->Nat} {V:Nat->Value} {p:PW} (h:cb W wb tag V p) {g cap:Nat} (e:V 1=.slice (some ⟨g,0,none⟩) p.kinds.length cap) {i:Nat} (hi:i<p.kinds.length):W.cell? ⟨g,i,none⟩=some (.int .i64 p.kinds[i]):=by
 have a:=h.o.kinds;rw[e] at a;exact a.int hi
theorem cb.I1 {W:World} {wb:Nat} {tag:Nat->Nat} {V:Nat->Value} {p:PW} (h:cb W wb tag V p) {g cap:Nat} (e:V 1=.slice (some ⟨g,0,none⟩) p.kinds.length cap) (o:Nat):W.frozen? ⟨g,o,none⟩=false:=by
 have a:=h.o.kinds;rw[e] at a;exact a.frozen o
theorem ou (wb:Nat) (tag:Nat->Nat) (V:Nat->Value) (p:PW) (f:Nat) (W:World) (bt:cb W wb tag V p) (Y:f<=23) (hk:p.kinds.length<=24) (O:p.IE.length=p.kinds.length*16):
  Calls Tryz.prog 211 #[.pointer (some ⟨wb,0,none⟩),.int .i64 f] W fun r W'=>r=.returned (.tuple #[])∧cb W' wb tag V (utP p f)∧Kt tag tag W W':=by
 obtain⟨q0,g,cap,B,N⟩:=bt.o.IE.shape;have c0:W.cell? ⟨wb,0,none⟩=some (.slice q0 p.IE.length cap):=by rw[ai bt.r (k:=0) rfl,B]
 have R:=hid bt;have T:=hid N;have K:=hid B;have an:(p.IE.length:Int)<=1000:=oA;have ao:(p.kinds.length:Int)<=1000:=oA;have U:=hid O;have z:=hid (Mmu.nO f false W);have A:=hid (Mmu.nO f true W);rw[ag (show 0<=(f:Int)∧(f:Int)<=23 by omega)] at z A;obtain⟨e1,D⟩:∃e1:Int,32768+(f:Int)+(if false=true then 16384 else 0)=e1:=⟨_,rfl⟩
 obtain⟨e2,E⟩:∃e2:Int,32768+(f:Int)+(if true=true then 16384 else 0)=e2:=⟨_,rfl⟩
 rw[D] at z;rw[E] at A;have w:=hid (show e1=32768+(f:Int) by rw[<-D,ae oD];omega);have x:=hid (show e2=49152+(f:Int) by rw[<-E,ag rfl];omega);generalize Mmu.wA _=v1 at z;generalize Mmu.wA _=v2 at A;have S:=hid (fun (h:0<p.kinds.length)=>bt.o.kinds.form h);clear bt N B Y hk O D E;go_enter Tryz.func211,Tryz.ntmps211
 go_wp2_with fail
 refine z.mono ?_;rintro r w1 ⟨rfl,rfl⟩;go_wp2_with fail
 refine A.mono ?_;rintro r w1 ⟨rfl,rfl⟩;go_wp2_with fail
 clear c0
 go_loopw [26] (fun i wr=>∃(k:Nat),k<=p.IE.length∧i=.int .i64 k∧Hid (cb wr wb tag V {p with IE:=idK (ut1 p.kinds f) k p.IE})∧Hid (Kt tag tag W wr)) (fun i _=>p.IE.length - (intOf i).toNat)
 case atStart=>exact⟨0,oA,rfl,hid (by rw[tQ];exact R),hid (en _ _)⟩
 case round=>
  obtain⟨k,hk,rfl,a,s⟩:=hrel;by_cases m:k<p.IE.length
  ·have ap:(k:Int)<(p.IE.length:Int):=oA;have aj:=T.out oA;subst aj;have l:k<(idK (ut1 p.kinds f) k p.IE).length:=by rw[kV];exact m
   have d:V 0=.slice (some ⟨g,0,none⟩) (idK (ut1 p.kinds f) k p.IE).length cap:=by rw[kV];exact K
   have c0:wr.cell? ⟨wb,0,none⟩=some (.slice (some ⟨g,0,none⟩) p.IE.length cap):=by rw[ai a.r (k:=0) rfl,K.out]
   have Q:=a.JN d l;have fr:=a.JO d k;simp only[wX m l] at Q;have F:k/16<p.kinds.length:=by have:=U.out;omega
   have af:((k:Int)/16)=((k/16:Nat):Int):=oA;have ah:((k/16:Nat):Int)<(p.kinds.length:Int):=oA;obtain⟨L,X,C⟩:=S.out oA;have c1:wr.cell? ⟨wb,1,none⟩=some (.slice (some ⟨L,0,none⟩) p.kinds.length X):=by rw[ai a.r (k:=1) rfl,C]
   have P:=a.IT C F;have M:p.kinds.getD (k/16) 0=p.kinds[k/16]:=by rw[aa,ac F];rfl
   obtain⟨kd,G⟩:∃kd,p.kinds[k/16]=kd:=⟨_,rfl⟩
   obtain⟨y,J⟩:∃y,p.IE[k]=y:=⟨_,rfl⟩
   have u:=hid (M.trans G);have v:=hid J;rw[J] at Q;have al:wr.cell? ⟨L,k/16,none⟩=some (.int .i64 kd):=by rw[<-G];exact P
   generalize k/16=kq at af ah al ⊢;clear P M G J C F;by_cases b:kd=3
   ·have Z:(kd==3)=true:=by simpa using b
    by_cases n:y=e1
    ·have H:(y==e1)=true:=by simpa using n
     obtain⟨j,e⟩:=a.IJ d k 0;have c:=hid (show cb (wr.setCell ⟨g,k,none⟩ (.int .i64 0)) wb tag V {p with IE:=idK (ut1 p.kinds f) (k+1) p.IE} by
      rw[jw m,show ut1 p.kinds f k p.IE[k]=0 by unfold ut1;rw[ag (by rw[u.out,v.out];exact⟨.inl b,.inl (n.trans w)⟩)]];exact j)
     have t:=hid (s.trans e);clear j e d l a b;go_wp2_with fail
     exact⟨⟨k+1,oA,by go_num,c,t⟩,by simp[intOf];omega⟩
    ·have H:(y==e1)=false:=by simpa using n
     by_cases q:y=e2
     ·have I:(y==e2)=true:=by simpa using q
      obtain⟨j,e⟩:=a.IJ d k 0;have c:=hid (show cb (wr.setCell ⟨g,k,none⟩ (.int .i64 0)) wb tag V {p with IE:=idK (ut1 p.kinds f) (k+1) p.IE} by
       rw[jw m,show ut1 p.kinds f k p.IE[k]=0 by unfold ut1;rw[ag (by rw[u.out,v.out];exact⟨.inl b,.inr (q.trans x)⟩)]];exact j)
      have t:=hid (s.trans e);clear j e d l a b;go_wp2_with fail
      exact⟨⟨k+1,oA,by go_num,c,t⟩,by simp[intOf];omega⟩
     ·have I:(y==e2)=false:=by simpa using q
      have c:=hid (show cb wr wb tag V {p with IE:=idK (ut1 p.kinds f) (k+1) p.IE} by
       rw[lT m (by unfold ut1;rw[ae (by rw[u.out,v.out, <-w.out, <-x.out];rintro⟨-,h|h⟩;exact n h;exact q h)])];exact a)
      clear d l a b;go_wp2_with fail
      exact⟨⟨k+1,oA,by go_num,c,s⟩,by simp[intOf];omega⟩
   ·have Z:(kd==3)=false:=by simpa using b
    have ad:=hid b;clear b;by_cases b:kd=4
    ·have ab:(kd==4)=true:=by simpa using b
     by_cases n:y=e1
     ·have H:(y==e1)=true:=by simpa using n
      obtain⟨j,e⟩:=a.IJ d k 0;have c:=hid (show cb (wr.setCell ⟨g,k,none⟩ (.int .i64 0)) wb tag V {p with IE:=idK (ut1 p.kinds f) (k+1) p.IE} by
       rw[jw m,show ut1 p.kinds f k p.IE[k]=0 by unfold ut1;rw[ag (by rw[u.out,v.out];exact⟨.inr b,.inl (n.trans w)⟩)]];exact j)
      have t:=hid (s.trans e);clear j e d l a b;go_wp2_with fail
      exact⟨⟨k+1,oA,by go_num,c,t⟩,by simp[intOf];omega⟩
     ·have H:(y==e1)=false:=by simpa using n
      by_cases q:y=e2
      ·have I:(y==e2)=true:=by simpa using q
       obtain⟨j,e⟩:=a.IJ d k 0;have c:=hid (show cb (wr.setCell ⟨g,k,none⟩ (.int .i64 0)) wb tag V {p with IE:=idK (ut1 p.kinds f) (k+1) p.IE} by
        rw[jw m,show ut1 p.kinds f k p.IE[k]=0 by unfold ut1;rw[ag (by rw[u.out,v.out];exact⟨.inr b,.inr (q.trans x)⟩)]];exact j)
       have t:=hid (s.trans e);clear j e d l a b;go_wp2_with fail
       exact⟨⟨k+1,oA,by go_num,c,t⟩,by simp[intOf];omega⟩
      ·have I:(y==e2)=false:=by simpa using q
       have c:=hid (show cb wr wb tag V {p with IE:=idK (ut1 p.kinds f) (k+1) p.IE} by
        rw[lT m (by unfold ut1;rw[ae (by rw[u.out,v.out, <-w.out, <-x.out];rintro⟨-,h|h⟩;exact n h;exact q h)])];exact a)
       clear d l a b;go_wp2_with fail
       exact⟨⟨k+1,oA,by go_num,c,s⟩,by simp[intOf];omega⟩
    ·have ab:(kd==4)=false:=by simpa using b
     have c:=hid (show cb wr wb tag V {p with IE:=idK (ut1 p.kinds f) (k+1) p.IE} by
      rw[lT m (by unfold ut1;rw[ae (by rw[u.out];rintro⟨h|h, -⟩;exact ad h;exact b h)])];exact a)
     clear d l a b;go_wp2_with fail
     exact⟨⟨k+1,oA,by go_num,c,s⟩,by simp[intOf];omega⟩
  ·obtain rfl:k=p.IE.length:=oA;have am:¬((p.IE.length:Int)<(p.IE.length:Int)):=oA;have c:=hid (show cb wr wb tag V (utP p f) by unfold utP;rw[<-wW];exact a);clear a;go_wp2_with fail
   exact aI (aF rfl _ _ _) rfl ⟨rfl,c.out,s.out⟩
theorem gA:(Tryz.prog.info? 37).map (·.size)=some 20:=oK
def etP (p:PW) (t:Nat):PW:={(if p.IB.getD t bl 17= -1 then stP p t else (stP p t).task (p.IB.getD t bl 17).toNat 9 0) with IB:=(if p.IB.getD t bl 17= -1 then stP p t else (stP p t).task (p.IB.getD t bl 17).toNat 9 0).IB.set t bl}
theorem Bj (p:PW) (t:Nat):(stP p t).IB.length=p.IB.length:=by
 show ((PW.task (PW.task _ t 9 0) t 14 (-1))).IB.length=_
 rw[ap,ap];exact bO _
theorem cb.IZ {W:World} {wb:Nat} {tag:Nat->Nat} {V:Nat->Value} {p:PW} (h:cb W wb tag V p) {g cap:Nat} (e:V 3=.slice (some ⟨g,0,none⟩) p.IB.length cap) (o m:Nat) (b:o+m<=p.IB.length*20):W.there g o m:=by
 have a:=h.o.IB;rw[e] at a;exact a.there o m b
theorem se (wb:Nat) (tag:Nat->Nat) (V:Nat->Value) (p:PW) (t:Nat) (W:World) (bt:cb W wb tag V p) (M:p.Fits) (H:t<p.IB.length) (j:p.IB.getD t bl 17= -1∨∃u:Nat,u<p.IB.length∧p.IB.getD t bl 17=u):
  Calls Tryz.prog 216 #[.pointer (some ⟨wb,0,none⟩),.int .i64 t] W fun r W'=>r=.returned (.tuple #[])∧cb W' wb tag V (etP p t)∧Kt tag tag W W':=by
 have I:=hid (Av wb tag V p t W bt M H);have aa:(p.IB.length:Int)<=1000:=by have:=M.IB;omega
 have ab:(t:Int)<(p.IB.length:Int):=oA;obtain⟨b,cap3,E⟩:=bt.o.IB.form oA;have l:=hid E;have J:=hid H;have L:W.cell? ⟨wb,3,none⟩=some (.slice (some ⟨b,0,none⟩) p.IB.length cap3):=by rw[ai bt.r (k:=3) rfl,E]
 have N:=bt.IH E H (show 17<20 by omega);have A:=hid (Bj p t);rcases j with j|⟨u,Y,j⟩
 ·rw[j] at N;have O:=hid (show etP p t={stP p t with IB:=(stP p t).IB.set t bl} by unfold etP;rw[ag j]);clear bt M H E j;go_enter Tryz.func216,Tryz.ntmps216
  go_wp2_with fail
  refine I.mono ?_;rintro r a ⟨rfl,m,n⟩;have s:=hid m;have P:=hid n;clear m n I L N;have x:=A;generalize stP p t=R at*;go_upto_region 4 with fail
  have d:V 3=.slice (some ⟨b,0,none⟩) R.IB.length cap3:=by rw[x.out];exact l
  have v:Hid (Below a.heap.size a a.drew):=hid (aB a 1);have w:=hid (fun X (h:Below a.heap.size a X)=>show X.cell? ⟨wb,3,none⟩=some (.slice (some ⟨b,0,none⟩) p.IB.length cap3) from by rw[ai (s.below h).r (k:=3) rfl,l.out]);have B:=hid (fun X (h:Below a.heap.size a X)=>(s.below h).I5 d (i:=t) (by rw[x.out];exact J) bl);have D:=hid (fun X (h:Below a.heap.size a X)=>(s.below h).IZ d (t*20) 20 (by have:=J.out;rw[x.out];omega));clear d;refine wp_region_held_drew (S:=fun X=>X.cell? ⟨wb,3,none⟩=some (.slice (some ⟨b,0,none⟩) p.IB.length cap3)) oK (w.out _ v) (fun f=>?_);have c:=hid f;clear f;refine tk 0 (.pointer (some ⟨wb,0,none⟩)) rfl c ?_;simp only[jj];refine tk 1 (.pointer (some ⟨wb,0,none⟩)) rfl c ?_;simp only[jj];refine tk 2 (.pointer (some ⟨wb,3,none⟩)) rfl c ?_;simp only[jj];refine eE 3 (.slice (some ⟨b,0,none⟩) p.IB.length cap3) rfl (Or.inl ⟨oR,fun W h=>by have h3:=h;clear h;go_simp⟩) c ?_;simp only[jj];refine tk 4 (.int .i64 t) rfl c ?_;simp only[jj];refine wpAnyH_ready (rs:=[5]) oK oS (AllReadyH.cons rfl (fun K g=>?_) AllReadyH.nil);go_simp
  refine (mf _).mono ?_;rintro q x1 ⟨rfl,G⟩;have e:=hid (btr v G);clear G;go_wp2_with fail
  refine g _ _ (w.out _ e) (fun f=>?_);have F:=hid f;clear g K f
  try simp only[Act.put,jD,jE,jF]
  refine tk 6 (.pointer (some ⟨b,t*20,none⟩)) rfl F ?_;simp only[jj];obtain⟨b1,k1⟩:=B.out _ e;have z:=hid b1;have Q:=hid (P.trans ((bj e:Kt tag tag a x1).trans k1));have C:=hid (show (x1.setCells b (t*20) (cf 20 bl)).cell? ⟨wb,3,none⟩=some (.slice (some ⟨b,0,none⟩) p.IB.length cap3) from by rw[ai z.r (k:=3) rfl,l.out]);clear b1 k1;refine wpAnyH_ready (rs:=[7]) oK oS (AllReadyH.cons rfl (fun K g=>?_) AllReadyH.nil);refine wp_store_mid 37 _ _ rfl b (t*20) (cf 20 bl).toArray rfl rfl (by rw[eB,ay];exact D _ e) (by rw[gA];rfl) (all_oneCell_toArray (bQ 20 _)) ?_;refine g _ _ C (fun _=>?_);clear g K c F
  try simp only[Act.put]
  refine dc oK ?_ _;clear w B D C v e;generalize World.setCells _ _ _ _=Z at*;go_wp2_with fail
  exact aI (aF rfl _ _ _) rfl ⟨rfl,by rw[O.out];exact z,Q.out⟩
 ·rw[j] at N;have T:=hid Y;have ac:(u:Int)<(p.IB.length:Int):=oA;have ad:((u:Int)== -1)=false:=oS;have O:=hid (show etP p t={(stP p t).task u 9 0 with IB:=((stP p t).task u 9 0).IB.set t bl} by unfold etP;rw[ae (by rw[j];omega),j,ah]);clear bt M H E j Y;go_enter Tryz.func216,Tryz.ntmps216
  go_wp2_with fail
  refine I.mono ?_;rintro r w8 ⟨rfl,m,n⟩;have y:=hid m;have U:=hid n;clear m n I L N;have d:V 3=.slice (some ⟨b,0,none⟩) (stP p t).IB.length cap3:=by rw[A.out];exact l
  have L:w8.cell? ⟨wb,3,none⟩=some (.slice (some ⟨b,0,none⟩) p.IB.length cap3):=by rw[ai y.r (k:=3) rfl,l.out]
  have xa:=y.IH d (i:=u) (by rw[A.out];exact T) (show 9<20 by omega);have fa:=y.II d (u*20+9);obtain⟨m,n⟩:=y.task d (i:=u) (by rw[A.out];exact T) (show 9<20 by omega) 0;have s:=hid m;have P:=hid (U.trans n);clear m n d;go_upto_region 4 with fail
  generalize World.setCell _ _ _=a at*;clear L xa fa y U;have x:=hid (show ((stP p t).task u 9 0).IB.length=p.IB.length by rw[ap];exact A);generalize (stP p t).task u 9 0=R at*;have d:V 3=.slice (some ⟨b,0,none⟩) R.IB.length cap3:=by rw[x.out];exact l
  have v:Hid (Below a.heap.size a a.drew):=hid (aB a 1);have w:=hid (fun X (h:Below a.heap.size a X)=>show X.cell? ⟨wb,3,none⟩=some (.slice (some ⟨b,0,none⟩) p.IB.length cap3) from by rw[ai (s.below h).r (k:=3) rfl,l.out]);have B:=hid (fun X (h:Below a.heap.size a X)=>(s.below h).I5 d (i:=t) (by rw[x.out];exact J) bl);have D:=hid (fun X (h:Below a.heap.size a X)=>(s.below h).IZ d (t*20) 20 (by have:=J.out;rw[x.out];omega));clear d;refine wp_region_held_drew (S:=fun X=>X.cell? ⟨wb,3,none⟩=some (.slice (some ⟨b,0,none⟩) p.IB.length cap3)) oK (w.out _ v) (fun f=>?_);have c:=hid f;clear f;refine tk 0 (.pointer (some ⟨wb,0,none⟩)) rfl c ?_;simp only[jj];refine tk 1 (.pointer (some ⟨wb,0,none⟩)) rfl c ?_;simp only[jj];refine tk 2 (.pointer (some ⟨wb,3,none⟩)) rfl c ?_;simp only[jj];refine eE 3 (.slice (some ⟨b,0,none⟩) p.IB.length cap3) rfl (Or.inl ⟨oR,fun W h=>by have h3:=h;clear h;go_simp⟩) c ?_;simp only[jj];refine tk 4 (.int .i64 t) rfl c ?_;simp only[jj];refine wpAnyH_ready (rs:=[5]) oK oS (AllReadyH.cons rfl (fun K g=>?_) AllReadyH.nil);go_simp
  refine (mf _).mono ?_;rintro q x1 ⟨rfl,G⟩;have e:=hid (btr v G);clear G;go_wp2_with fail
  refine g _ _ (w.out _ e) (fun f=>?_);have F:=hid f;clear g K f
  try simp only[Act.put,jD,jE,jF]
  refine tk 6 (.pointer (some ⟨b,t*20,none⟩)) rfl F ?_;simp only[jj];obtain⟨b1,k1⟩:=B.out _ e;have z:=hid b1;have Q:=hid (P.trans ((bj e:Kt tag tag a x1).trans k1));have C:=hid (show (x1.setCells b (t*20) (cf 20 bl)).cell? ⟨wb,3,none⟩=some (.slice (some ⟨b,0,none⟩) p.IB.length cap3) from by rw[ai z.r (k:=3) rfl,l.out]);clear b1 k1;refine wpAnyH_ready (rs:=[7]) oK oS (AllReadyH.cons rfl (fun K g=>?_) AllReadyH.nil);refine wp_store_mid 37 _ _ rfl b (t*20) (cf 20 bl).toArray rfl rfl (by rw[eB,ay];exact D _ e) (by rw[gA];rfl) (all_oneCell_toArray (bQ 20 _)) ?_;refine g _ _ C (fun _=>?_);clear g K c F
  try simp only[Act.put]
  refine dc oK ?_ _;clear w B D C v e;generalize World.setCells _ _ _ _=Z at*;go_wp2_with fail
  exact aI (aF rfl _ _ _) rfl ⟨rfl,by rw[O.out];exact z,Q.out⟩
def ds1 (p:PW) (z:Int):PW:=(p.task z.toNat 9 0).task z.toNat 14 (-1)
def dsP (p:PW) (f:Nat):PW:={(p.lines.getD f []).foldl ds1 p with lines:=p.lines.set f [],bits:=p.bits.set f 0}
theorem Ce (p:PW) (z:Int):(ds1 p z).IB.length=p.IB.length:=by unfold ds1;rw[ap,ap]
theorem wq:∀(l:List Int) (p:PW),(l.foldl ds1 p).IB.length=p.IB.length
 |[],_=>rfl
 |z::l,p=>by rw[eg,wq l,Ce]
theorem fW:∀(l:List Int) (p:PW),l.foldl ds1 p={p with IB:=(l.foldl ds1 p).IB}
 |[],_=>rfl
 |z::l,p=>by
  rw[eg,fW l (ds1 p z)];rfl
theorem wt (l:List Int) (k:Nat) (hk:k<l.length) (p:PW):(l.take (k+1)).foldl ds1 p=ds1 ((l.take k).foldl ds1 p) l[k]:=by
 rw[bH hk,List.foldl_append];rfl
theorem cb.Jx {W:World} {wb:Nat} {tag:Nat->Nat} {V:Nat->Value} {p:PW} (h:cb W wb tag V p) {g:Nat} (e:V 4=.slice (some ⟨g,0,none⟩) p.lines.length p.lines.length) {j:Nat} (d:j<p.lines.length):
  cb (W.setCell ⟨g,j,none⟩ (.slice none 0 0)) wb tag V {p with lines:=p.lines.set j []}∧Kt tag tag W (W.setCell ⟨g,j,none⟩ (.slice none 0 0)):=by
 have a:=h.o.lines;rw[e] at a;obtain⟨f,b⟩:=a.put d (by intro i;omega) (aV _ W) (fun _ _=>rfl) (u:=.slice none 0 0) (c:=(0,[])) ⟨⟨rfl,.inl ⟨rfl,rfl⟩⟩,fun k hk=>by cases hk⟩;refine⟨h.lines b (fun _ _=>rfl) ?_,.of b (fun k e=>by rcases e with e|⟨i,e⟩<;>omega) (fun _ _=>rfl)⟩;rw[au,e,jM p.lines j d []];exact f
theorem cb.JA {W:World} {wb:Nat} {tag:Nat->Nat} {V:Nat->Value} {p:PW} (h:cb W wb tag V p) {g cap:Nat} (e:V 5=.slice (some ⟨g,0,none⟩) p.bits.length cap) (o:Nat):W.frozen? ⟨g,o,none⟩=false:=by
 have a:=h.o.bits;rw[e] at a;exact a.frozen o
theorem cb.Jw {W:World} {wb:Nat} {tag:Nat->Nat} {V:Nat->Value} {p:PW} (h:cb W wb tag V p) {g cap:Nat} (e:V 5=.slice (some ⟨g,0,none⟩) p.bits.length cap) {i:Nat} (hi:i<p.bits.length):W.cell? ⟨g,i,none⟩=some (.int .i64 p.bits[i]):=by
 have a:=h.o.bits;rw[e] at a;exact a.int hi
theorem ly (wb:Nat) (tag:Nat->Nat) (V:Nat->Value) (p:PW) (f:Nat) (W:World) (bt:cb W wb tag V p) (L:p.Fits) (J:f<p.lines.length) (hb:f<p.bits.length) (v:∀z∈p.lines.getD f [],∃u:Nat,z=u∧u<p.IB.length):
  Calls Tryz.prog 217 #[.pointer (some ⟨wb,0,none⟩),.int .i64 f] W fun r W'=>r=.returned (.tuple #[])∧cb W' wb tag V (dsP p f)∧Kt tag tag W W':=by
 have aK:(p.lines.length:Int)<=1000:=by have:=L.lines;omega
 have aJ:(p.IB.length:Int)<=1000:=by have:=L.IB;omega
 have aM:(p.bits.length:Int)<=1000:=by have:=L.bits;omega
 have aG:(f:Int)<(p.lines.length:Int):=oA;have aE:(f:Int)<(p.bits.length:Int):=oA;obtain⟨b,eL⟩:=bt.o.lines.form;have U:=hid eL;have HF:=hid J;have au:=hid hb;obtain⟨l,hl⟩:∃l,p.lines.getD f []=l:=⟨_,rfl⟩
 rw[hl] at v;have aN:l.length<=1000:=by
  have h1:=L.line _ (av J);rw[aa,ac J,aR] at hl;rw[hl] at h1;exact h1
 have aO:(l.length:Int)<=1000:=oA;have aj:=hid (fun X q (h:cb X wb tag V q) (e:q.lines=p.lines)=>show ∃u,X.cell? ⟨b,f,none⟩=some u∧InT X tag (12+3*f) 3 1 u (l.length,d6 l) from by
  have h2:=h.o.lines;rw[e,eL] at h2;obtain⟨u,cu,B⟩:=h2.at J;unfold ci at B;rw[hl] at B;exact⟨u,cu,B⟩)
 obtain⟨u,cu,B⟩:=aj.out W p bt rfl;obtain⟨q,gu,am,rfl,hq⟩:=B.shape;have c4:W.cell? ⟨wb,4,none⟩=some (.slice (some ⟨b,0,none⟩) p.lines.length p.lines.length):=by rw[ai bt.r (k:=4) rfl,eL]
 have HB:=hid bt;have HZ:=hid v;have HQ:=hid hq;have HL:=hid hl;have aA:=hid cu;have ay:=hid (fun (h:0<p.IB.length)=>bt.o.IB.form h);have az:=hid (bt.o.bits.form oA);clear bt L J hb hl v hq B;go_enter Tryz.func217,Tryz.ntmps217
 go_wp2_with fail
 clear c4 cu
 go_loopw [14] (fun i wr=>∃(k:Nat),k<=l.length∧i=.int .i64 k∧Hid (cb wr wb tag V ((l.take k).foldl ds1 p))∧Hid (Kt tag tag W wr)∧Hid (wr.cell? ⟨b,f,none⟩=some (.slice q l.length am))) (fun i _=>l.length - (intOf i).toNat)
 case atStart=>exact⟨0,oA,rfl,HB,hid (en _ _),aA⟩
 case round=>
  obtain⟨k,hk,rfl,w,HK,O⟩:=hrel;have ad:=hid (fW (l.take k) p);have LT:=hid (wq (l.take k) p);by_cases af:k<l.length
  ·have aP:(k:Int)<(l.length:Int):=oA;have aD:=HQ.out oA;subst aD;obtain⟨z,v,M⟩:=HZ.out l[k] (av af);have aC:=hid v;have aS:(z:Int)<(p.IB.length:Int):=oA;obtain⟨u2,an,ag⟩:=aj.out wr _ w (by rw[ad.out]);have e2:=aL (an.symm.trans O);rw[e2] at ag;have T:=ag.int af;rw[v] at T;obtain⟨g3,cap3,P⟩:=ay.out oA;have E3:=hid P;have n:=hid (fun X q (h:cb X wb tag V q)=>show X.cell? ⟨wb,3,none⟩=some (.slice (some ⟨g3,0,none⟩) p.IB.length cap3) from by rw[ai h.r (k:=3) rfl,E3.out]);have I:V 3=.slice (some ⟨g3,0,none⟩) ((l.take k).foldl ds1 p).IB.length cap3:=by rw[LT.out];exact P
   have m:Hid (cb wr.drew wb tag V ((l.take k).foldl ds1 p)):=hid (w.below (aB wr 1));have E:Hid (Kt tag tag W wr.drew):=hid (HK.trans (.below (aB wr 1)));have xa:=m.IH I (i:=z) (by rw[LT.out];exact M) (show 9<20 by omega);have fa:=m.II I (z*20+9);obtain⟨b1,q1⟩:=m.task I (i:=z) (by rw[LT.out];exact M) (show 9<20 by omega) 0;have c:=hid (show cb (wr.setCell ⟨g3,z*20+9,none⟩ (.int .i64 0)).drew wb tag V (((l.take k).foldl ds1 p).task z 9 0) from b1);have D:=hid (show Kt tag tag W (wr.setCell ⟨g3,z*20+9,none⟩ (.int .i64 0)).drew from E.trans q1);have R:V 3=.slice (some ⟨g3,0,none⟩) (((l.take k).foldl ds1 p).task z 9 0).IB.length cap3:=by rw[ap];exact I
   have xb:=c.IH R (i:=z) (by rw[ap,LT.out];exact M) (show 14<20 by omega);have fb:=c.II R (z*20+14);obtain⟨b2,N⟩:=c.task R (i:=z) (by rw[ap,LT.out];exact M) (show 14<20 by omega) (-1);have C:=hid (show cb ((wr.setCell ⟨g3,z*20+9,none⟩ (.int .i64 0)).drew.setCell ⟨g3,z*20+14,none⟩ (.int .i64 (-1))) wb tag V ((l.take (k+1)).foldl ds1 p) by
    rw[wt l k af,aC.out];unfold ds1;rw[ah];exact b2)
   have Y:=hid (D.trans N);have ao:tag b=6:=(show fB wr tag 6 12 22 3 1 ((l.take k).foldl ds1 p).lines.length (.slice (some ⟨b,0,none⟩) ((l.take k).foldl ds1 p).lines.length ((l.take k).foldl ds1 p).lines.length) (ci ((l.take k).foldl ds1 p).lines) from by have A:=w.o.lines;rw[ad.out] at A ⊢;rw[U.out] at A;exact A).Jd.1;have CL:=hid (show ((wr.setCell ⟨g3,z*20+9,none⟩ (.int .i64 0)).drew.setCell ⟨g3,z*20+14,none⟩ (.int .i64 (-1))).cell? ⟨b,f,none⟩=some (.slice (some ⟨gu,0,none⟩) l.length am) from by
    have aq:b≠g3:=by
     intro e;have x:=w.o.IB;rw[P] at x;have h4:=x.2 g3 rfl;rw[<-e,ao] at h4
     cases h4
    rw[aQ _ _ _ _ (by intro e;cases e;exact aq rfl)];show (wr.setCell ⟨g3,z*20+9,none⟩ (.int .i64 0)).cell? ⟨b,f,none⟩=_
    rw[aQ _ _ _ _ (by intro e;cases e;exact aq rfl)];exact O)
   have s:=hid (n.out _ _ c);have G:=hid (n.out _ _ C);have F:=hid (n.out _ _ m);clear b1 q1 b2 N I R ao ag an e2 v P M;go_upto_region 3 with fail
   refine wp_region_held_drew (S:=fun X=>X.cell? ⟨wb,3,none⟩=some (.slice (some ⟨g3,0,none⟩) p.IB.length cap3)) oK F (fun H=>?_);have a:=hid H;clear H T;refine tk 0 (.pointer (some ⟨wb,0,none⟩)) rfl a ?_;simp only[jj];refine tk 1 (.pointer (some ⟨wb,0,none⟩)) rfl a ?_;simp only[jj];refine tk 2 (.pointer (some ⟨wb,3,none⟩)) rfl a ?_;simp only[jj];refine eE 3 (.slice (some ⟨g3,0,none⟩) p.IB.length cap3) rfl (Or.inl ⟨oR,fun W h=>by have x:=h;clear h;go_simp⟩) a ?_;simp only[jj];refine tk 4 (.int .i64 z) rfl a ?_;simp only[jj];refine tk 5 (.pointer (some ⟨wb,0,none⟩)) rfl a ?_;simp only[jj];refine tk 6 (.pointer (some ⟨wb,0,none⟩)) rfl a ?_;simp only[jj];refine tk 7 (.pointer (some ⟨wb,3,none⟩)) rfl a ?_;simp only[jj];refine eE 8 (.slice (some ⟨g3,0,none⟩) p.IB.length cap3) rfl (Or.inl ⟨oR,fun W h=>by have x:=h;clear h;go_simp⟩) a ?_;simp only[jj];refine tk 9 (.int .i64 z) rfl a ?_;simp only[jj];refine tk 10 (.pointer (some ⟨g3,z*20,none⟩)) rfl a ?_;simp only[jj];refine tk 11 (.pointer (some ⟨g3,z*20+9,none⟩)) rfl a ?_;simp only[jj];refine wpAnyH_ready (rs:=[12]) oK oS (AllReadyH.cons rfl (fun K d=>?_) AllReadyH.nil);go_simp
   refine d _ _ s (fun _=>?_);clear d K a xa fa
   try simp only[Act.put]
   generalize World.drew (World.setCell _ _ _)=W1 at*;refine tk 13 (.pointer (some ⟨g3,z*20,none⟩)) rfl s ?_;simp only[jj];refine tk 14 (.pointer (some ⟨g3,z*20+14,none⟩)) rfl s ?_;simp only[jj];refine wpAnyH_ready (rs:=[15]) oK oS (AllReadyH.cons rfl (fun K d=>?_) AllReadyH.nil);go_simp
   refine d _ _ G (fun _=>?_);clear d K xb fb
   try simp only[Act.put]
   refine dc oK ?_ _;generalize World.setCell _ _ _=W2 at*;clear F s G c D m E n;go_wp2_with fail
   exact⟨⟨k+1,oA,by go_num,C,Y,CL⟩,by simp[intOf];omega⟩
  ·obtain rfl:k=l.length:=oA;have aH:¬((l.length:Int)<(l.length:Int)):=oA;have ax:=hid (show cb wr wb tag V (l.foldl ds1 p) by have h:=w.out;rw[cM] at h;exact h);have al:=hid (fW l p);obtain⟨t,cap5,e5⟩:=az.out;have E5:=hid e5;generalize ar:l.foldl ds1 p=g at*;have aw:=hid ar;have ab:=hid (show g.lines=p.lines by rw[al.out]);have Z:=hid (show g.bits=p.bits by rw[al.out]);clear w ad LT ar;have m:Hid (cb wr.drew wb tag V g):=hid (ax.below (aB wr 1));have E:Hid (Kt tag tag W wr.drew):=hid (HK.trans (.below (aB wr 1)));have ae:V 4=.slice (some ⟨b,0,none⟩) g.lines.length g.lines.length:=by rw[ab.out];exact U
   have fl:wr.drew.frozen? ⟨b,f,none⟩=false:=by
    have A:=m.o.lines;rw[ae] at A;exact A.fr f
   obtain⟨yl,T⟩:∃y,wr.drew.cell? ⟨b,f,none⟩=some y:=⟨_,O.out⟩
   obtain⟨b1,q1⟩:=m.Jx ae (j:=f) (by rw[ab.out];exact HF);have c:=hid (show cb (wr.setCell ⟨b,f,none⟩ (.slice none 0 0)).drew wb tag V {g with lines:=g.lines.set f []} from b1);have D:=hid (show Kt tag tag W (wr.setCell ⟨b,f,none⟩ (.slice none 0 0)).drew from E.trans q1);have Q:V 5=.slice (some ⟨t,0,none⟩) ({g with lines:=g.lines.set f []}:PW).bits.length cap5:=by show V 5=.slice (some ⟨t,0,none⟩) g.bits.length cap5;rw[Z.out];exact e5
   obtain⟨yb,xb⟩:∃y,(wr.setCell ⟨b,f,none⟩ (.slice none 0 0)).drew.cell? ⟨t,f,none⟩=some y:=⟨_,c.Jw Q (i:=f) (by show f<g.bits.length;rw[Z.out];exact au)⟩
   have fb:=c.JA Q f;obtain⟨b2,N⟩:=c.I4 Q f 0;have C:=hid (show cb ((wr.setCell ⟨b,f,none⟩ (.slice none 0 0)).drew.setCell ⟨t,f,none⟩ (.int .i64 0)) wb tag V (dsP p f) by
    unfold dsP;rw[HL.out,aw.out, <-ab.out, <-Z.out];exact b2)
   have Y:=hid (D.trans N);have n:=hid (fun X q (h:cb X wb tag V q)=>show X.cell? ⟨wb,4,none⟩=some (.slice (some ⟨b,0,none⟩) p.lines.length p.lines.length)∧X.cell? ⟨wb,5,none⟩=some (.slice (some ⟨t,0,none⟩) p.bits.length cap5) from⟨by rw[ai h.r (k:=4) rfl,U.out],by rw[ai h.r (k:=5) rfl,E5.out]⟩);have F:=hid (n.out _ _ m);have s:=hid (n.out _ _ c);have G:=hid (n.out _ _ C);clear b1 q1 b2 N Q ae e5 O;go_upto_region 5 with fail
   refine wp_region_held_drew (S:=fun X=>X.cell? ⟨wb,4,none⟩=some (.slice (some ⟨b,0,none⟩) p.lines.length p.lines.length)∧X.cell? ⟨wb,5,none⟩=some (.slice (some ⟨t,0,none⟩) p.bits.length cap5)) oK F (fun H=>?_);have a:=hid H;clear H;refine tk 0 (.pointer (some ⟨wb,0,none⟩)) rfl a ?_;simp only[jj];refine tk 1 (.pointer (some ⟨wb,0,none⟩)) rfl a ?_;simp only[jj];refine tk 2 (.pointer (some ⟨wb,4,none⟩)) rfl a ?_;simp only[jj];refine eE 3 (.slice (some ⟨b,0,none⟩) p.lines.length p.lines.length) rfl (Or.inl ⟨oR,fun W h=>by have x:=h.1;clear h;go_simp⟩) a ?_;simp only[jj];refine tk 4 (.int .i64 f) rfl a ?_;simp only[jj];refine tk 5 (.pointer (some ⟨wb,0,none⟩)) rfl a ?_;simp only[jj];refine tk 6 (.pointer (some ⟨wb,0,none⟩)) rfl a ?_;simp only[jj];refine tk 7 (.pointer (some ⟨wb,5,none⟩)) rfl a ?_;simp only[jj];refine eE 8 (.slice (some ⟨t,0,none⟩) p.bits.length cap5) rfl (Or.inl ⟨oR,fun W h=>by have x:=h.2;clear h;go_simp⟩) a ?_;simp only[jj];refine tk 9 (.int .i64 f) rfl a ?_;simp only[jj];refine tk 10 (.pointer (some ⟨b,f,none⟩)) rfl a ?_;simp only[jj];refine wpAnyH_ready (rs:=[11]) oK oS (AllReadyH.cons rfl (fun K d=>?_) AllReadyH.nil);go_simp
   refine d _ _ s (fun _=>?_);clear d K a T fl
   try simp only[Act.put]
   generalize World.drew (World.setCell _ _ _)=W1 at*;refine tk 12 (.pointer (some ⟨t,f,none⟩)) rfl s ?_;simp only[jj];refine wpAnyH_ready (rs:=[13]) oK oS (AllReadyH.cons rfl (fun K d=>?_) AllReadyH.nil);go_simp
   refine d _ _ G (fun _=>?_);clear d K xb fb
   try simp only[Act.put]
   refine dc oK ?_ _;generalize World.setCell _ _ _=W2 at*;clear F s G c D m E n;go_wp2_with fail
   exact aI (aF rfl _ _ _) rfl ⟨rfl,C.out,Y.out⟩
def drA (p:PW) (s:Nat):PW:={p with IA:=hnd s ((p.IA.getD s eS) 6) (p.IA.set s eS)}
def daF (dr:PW->Nat->PW) (f:Nat) (a:Nat) (p:PW):PW:=if h:a=0 then p else daF dr f (a - 1) (if (p.IA.getD (f*16+(a - 1)) eS) 0=0 then p else dr p (f*16+(a - 1)))
theorem gU (dr:PW->Nat->PW) (f:Nat) (p:PW):daF dr f 0 p=p:=by rw[daF,dif_pos rfl]
theorem gT (dr:PW->Nat->PW) (f a:Nat) (p:PW):daF dr f (a+1) p=daF dr f a (if (p.IA.getD (f*16+a) eS) 0=0 then p else dr p (f*16+a)):=by rw[daF,dif_neg (Nat.succ_ne_zero a),Nat.add_sub_cancel]
def nkP (p:PW) (f:Nat):PW:={p with kinds:=p.kinds.set f 0}
def lsF (dr:PW->Nat->PW) (p:PW) (k:Int) (f:Nat):PW:=
 if k=2∨k=3 then utP (nkP p f) f else if k=4 then fgP 12 (nkP p f) f else if k=5 then daF dr f 16 (fgP 11 (nkP p f) f) else if k=6 then etP (nkP p f) f else fgP 13 (dsP (nkP p f) f) f
def drF:Nat->PW->Nat->PW
 |0,p,_=>p
 |m+1,p,s=>if (p.IA.getD s eS) 0=1∨ig (drA p s) ((p.IA.getD s eS) 0) ((p.IA.getD s eS) 1)=true then drA p s else lsF (drF m) (drA p s) ((p.IA.getD s eS) 0) ((p.IA.getD s eS) 1).toNat
def nds (p:PW):Nat:=p.kinds.count 5
structure Inv (p:PW):Prop where
 fits:p.Fits
 I8:p.kinds.length<=24
 IE:p.IE.length=p.kinds.length*16
 IA:p.IA.length=p.kinds.length*16
 IB:p.IB.length=p.kinds.length
 lines:p.lines.length=p.kinds.length
 bits:p.bits.length=p.kinds.length
 key:∀f∈p.IA,f 0=0∨f 0=1∨(2<=f 0∧f 0<=8∧∃b:Nat,f 1=b∧p.kinds[b]? =some (f 0))
 line:∀l∈p.lines,∀z∈l,∃u:Nat,z=u∧u<p.IB.length
 Jc:∀f∈p.IB,f 17= -1∨∃u:Nat,f 17=u∧u<p.IB.length
 JB:∀(i:Nat) (x k:Int),p.IE[i]? =some x->p.kinds[i/16]? =some k->(k=3∨k=4)->x=0∨∃f:Nat,f<1024∧(x=32768+f∨x=49152+f)
 Ja:∀f∈p.IB,f 13= -1∨∃u:Nat,f 13=u∧p.kinds[u]? =some 7
theorem Cl {a b:Int} {fs:List (Nat->Int)} {g:Nat->Int} (h:g∈hnd a b fs):∃f∈fs,g 0=f 0∧g 1=f 1:=by
 unfold hnd at h;obtain⟨f,d,rfl⟩:=List.mem_map.1 h;refine⟨f,d,?_⟩;unfold nA;by_cases c:f 6=a
 ·rw[ag c];exact⟨rfl,rfl⟩
 ·rw[ae c];exact⟨rfl,rfl⟩
theorem mD (a b:Int) (fs:List (Nat->Int)):(hnd a b fs).length=fs.length:=bO _
theorem jg {p:PW} (h:Inv p) (s:Nat):Inv (drA p s):=by
 have hl:(drA p s).IA.length=p.IA.length:=by
  show (hnd _ _ (p.IA.set s eS)).length=_
  rw[mD,au]
 exact⟨⟨h.fits.IE,h.fits.kinds,by rw[hl];exact h.fits.IA,h.fits.IB,h.fits.lines,h.fits.line,h.fits.bits,h.fits.IC,h.fits.ready,h.fits.next,h.fits.ID,h.fits.IG⟩,h.I8,h.IE,hl.trans h.IA,h.IB,h.lines,h.bits,fun g c=>by
  obtain⟨f,a,h0,b⟩:=Cl c;rw[h0,b];rcases aZ a with a|rfl
  ·exact h.key f a
  ·exact .inl rfl,h.line,h.Jc,h.JB,h.Ja⟩
theorem xT {p:PW} {k g:Int} (h:ig p k g=false):∀f∈p.IA,¬(f 0=k∧f 1=g):=fun f a e=>by
 unfold ig at h;rw[bP] at h;exact h f a (by simp[e.1,e.2])
structure oy (p:PW) (n:Int):Prop where
 fits:p.Fits
 I8:p.kinds.length<=24
 IE:p.IE.length=p.kinds.length*16
 IA:p.IA.length=p.kinds.length*16
 IB:p.IB.length=p.kinds.length
 lines:p.lines.length=p.kinds.length
 bits:p.bits.length=p.kinds.length
 key:∀f∈p.IA,f 0=0∨f 0=1∨(2<=f 0∧f 0<=8∧∃b:Nat,f 1=b∧p.kinds[b]? =some (f 0))
 line:∀l∈p.lines,∀z∈l,∃u:Nat,z=u∧u<p.IB.length
 Jc:∀f∈p.IB,f 17= -1∨∃u:Nat,f 17=u∧u<p.IB.length
 JB:∀(i:Nat) (x k:Int),p.IE[i]? =some x->p.kinds[i/16]? =some k->(k=3∨k=4)->x=0∨∃f:Nat,f<1024∧(x=32768+f∨x=49152+f)
 Ja:∀f∈p.IB,f 13= -1∨f 13=n∨∃u:Nat,f 13=u∧p.kinds[u]? =some 7
theorem xG {p:PW} {f b:Nat} {k:Int} (h:(nkP p f).kinds[b]? =some k) (hk:k≠0):p.kinds[b]? =some k∧b≠f:=by
 have a:(p.kinds.set f 0)[b]? =some k:=h;rw[List.getElem?_set] at a;by_cases e:f=b
 ·rw[ag e] at a;by_cases hl:b<p.kinds.length
  ·rw[ag oA] at a;exact absurd (aL a).symm hk
  ·rw[ae oA] at a;cases a
 ·rw[ae e] at a;exact⟨a,fun e2=>e e2.symm⟩
theorem xH {p:PW} {f b:Nat} {k:Int} (h:p.kinds[b]? =some k) (a:b≠f):(nkP p f).kinds[b]? =some k:=by
 show (p.kinds.set f 0)[b]? =some k
 rw[cQ (fun e=>a e.symm)];exact h
theorem lD {p:PW} (h:Inv p) {f:Nat} {k:Int} (hk:p.kinds[f]? =some k) (s:ig p k f=false):oy (nkP p f) f:=by
 have hl:(nkP p f).kinds.length=p.kinds.length:=au ..;refine⟨⟨h.fits.IE,by rw[hl];exact h.fits.kinds,h.fits.IA,h.fits.IB,h.fits.lines,h.fits.line,h.fits.bits,h.fits.IC,h.fits.ready,h.fits.next,h.fits.ID,h.fits.IG⟩,by rw[hl];exact h.I8,by rw[hl];exact h.IE,by rw[hl];exact h.IA,by rw[hl];exact h.IB,by rw[hl];exact h.lines,by rw[hl];exact h.bits,fun g a=>?_,h.line,h.Jc,fun i x k2 t q n=>?_,fun g a=>?_⟩
 ·rcases h.key g a with h0|c|⟨m,o,b,j,d⟩
  ·exact .inl h0
  ·exact .inr (.inl c)
  ·refine .inr (.inr ⟨m,o,b,j,xH d ?_⟩);rintro rfl;rw[hk] at d;exact xT s g a ⟨(aL d).symm,j⟩
 ·exact h.JB i x k2 t (xG q oA).1 n
 ·rcases h.Ja g a with c|⟨u,l,r⟩
  ·exact .inl c
  ·by_cases e:u=f
   ·exact .inr (.inl (by rw[l,e]))
   ·exact .inr (.inr ⟨u,l,xH r e⟩)
theorem oy.full {p:PW} {n:Int} (h:oy p n) (hh:∀f∈p.IB,f 13=n->f 13= -1):Inv p:=⟨h.fits,h.I8,h.IE,h.IA,h.IB,h.lines,h.bits,h.key,h.line,h.Jc,h.JB,fun f b=>by
 rcases h.Ja f b with a|a|a
 ·exact .inl a
 ·exact .inl (hh f b a)
 ·exact .inr a⟩
theorem gF {p:PW} (h:Inv p) {f:Nat} {k:Int} (hk:p.kinds[f]? =some k) (i:ig p k f=false) (c:k≠7):Inv (nkP p f):=
 (lD h hk i).full fun g d e=>by
  rcases h.Ja g d with b|⟨u,j,a⟩
  ·exact b
  ·have:u=f:=oA;subst this;rw[hk] at a;exact absurd (aL a) c
theorem Bm {p:PW} (h:Inv p) (f:Int):Inv (utP p f):=by
 have hl:(utP p f).IE.length=p.IE.length:=dW;refine⟨⟨by rw[hl];exact h.fits.IE,h.fits.kinds,h.fits.IA,h.fits.IB,h.fits.lines,h.fits.line,h.fits.bits,h.fits.IC,h.fits.ready,h.fits.next,h.fits.ID,h.fits.IG⟩,h.I8,hl.trans h.IE,h.IA,h.IB,h.lines,h.bits,h.key,h.line,h.Jc,fun i x k d hk c=>?_,h.Ja⟩;have a:(p.IE.mapIdx (ut1 p.kinds f))[i]? =some x:=d;rw[List.getElem?_mapIdx] at a
 cases e:p.IE[i]? with
 |none=>rw[e] at a;cases a
 |some y=>
  rw[e] at a;have b:=aL a;unfold ut1 at b;split at b
  ·exact .inl b.symm
  ·rw[<-b];exact h.JB i y k e hk c
theorem AT {p:PW} {n:Int} (h:oy p n) (c:Nat) (i:c≠17) (f:Int):oy (fgP c p f) n:=by
 have hl:(fgP c p f).IB.length=p.IB.length:=bO _;have d:∀g∈(fgP c p f).IB,∃a∈p.IB,g 17=a 17∧(g 13=a 13∨g 13= -1):=fun g b=>by
  obtain⟨a,h0,rfl⟩:=List.mem_map.1 (show g∈p.IB.map (fg1 c f) from b);refine⟨a,h0,?_⟩;unfold fg1;by_cases e:a c=f
  ·rw[ag e];unfold upd;refine⟨ae (fun e=>i e.symm),?_⟩;by_cases e2:13=c
   ·rw[ag e2];exact .inr rfl
   ·rw[ae e2];exact .inl rfl
  ·rw[ae e];exact⟨rfl,.inl rfl⟩
 refine⟨⟨h.fits.IE,h.fits.kinds,h.fits.IA,by rw[hl];exact h.fits.IB,h.fits.lines,h.fits.line,h.fits.bits,h.fits.IC,h.fits.ready,h.fits.next,h.fits.ID,h.fits.IG⟩,h.I8,h.IE,h.IA,hl.trans h.IB,h.lines,h.bits,h.key,fun l j z k=>by rw[hl];exact h.line l j z k,fun g b=>?_,h.JB,fun g b=>?_⟩
 ·obtain⟨a,h0,e, -⟩:=d g b;rw[e,hl];exact h.Jc a h0
 ·obtain⟨a,h0, -,e|e⟩:=d g b
  ·rw[e];exact h.Ja a h0
  ·exact .inl e
theorem Inv.h {p:PW} (h:Inv p) (n:Int):oy p n:=⟨h.fits,h.I8,h.IE,h.IA,h.IB,h.lines,h.bits,h.key,h.line,h.Jc,h.JB,fun f b=>by
 rcases h.Ja f b with a|a
 ·exact .inl a
 ·exact .inr (.inr a)⟩
theorem jT {p:PW} (h:Inv p) (c:Nat) (a:c≠17) (f:Int):Inv (fgP c p f):=(AT (h.h (-1)) c a f).full fun _ _ e=>e
theorem wH {p:PW} {n:Int} (h:oy p n):Inv (fgP 13 p n):=(AT h 13 oD n).full fun g b e=>by
 obtain⟨a,h0,rfl⟩:=List.mem_map.1 (show g∈p.IB.map (fg1 13 n) from b);unfold fg1 at e ⊢;by_cases e2:a 13=n
 ·rw[ag e2];exact ag rfl
 ·rw[ae e2] at e;exact absurd e e2
theorem kJ {p:PW} {n:Int} (h:oy p n) (t c:Nat) (x:Int) (j:c≠17) (i:c≠13):oy (p.task t c x) n:=by
 have hl:=ap p t c x;have f:∀g∈(p.task t c x).IB,∃a,(a∈p.IB∨a=bl)∧g 17=a 17∧g 13=a 13:=fun g b=>by
  rcases aZ (show g∈p.IB.set t (upd (p.IB.getD t bl) c x) from b) with d|d
  ·exact⟨g,.inl d,rfl,rfl⟩
  ·refine⟨p.IB.getD t bl,?_,?_,?_⟩
   ·rw[aa]
    cases e:p.IB[t]? with
    |none=>exact .inr rfl
    |some y=>exact .inl (dZ e)
   ·rw[d];exact ae (fun e=>j e.symm)
   ·rw[d];exact ae (fun e=>i e.symm)
 refine⟨⟨h.fits.IE,h.fits.kinds,h.fits.IA,by rw[hl];exact h.fits.IB,h.fits.lines,h.fits.line,h.fits.bits,h.fits.IC,h.fits.ready,h.fits.next,h.fits.ID,h.fits.IG⟩,h.I8,h.IE,h.IA,hl.trans h.IB,h.lines,h.bits,h.key,fun l k z m=>by rw[hl];exact h.line l k z m,fun g b=>?_,h.JB,fun g b=>?_⟩
 ·obtain⟨a,h0,e, -⟩:=f g b;rw[e,hl];rcases h0 with h0|rfl
  ·exact h.Jc a h0
  ·exact .inl rfl
 ·obtain⟨a,h0, -,e⟩:=f g b;rw[e];rcases h0 with h0|rfl
  ·exact h.Ja a h0
  ·exact .inl rfl
theorem AQ {n:Int}:∀(l:List Int) (p:PW),oy p n->oy (l.foldl ds1 p) n
 |[],_,h=>h
 |z::l,p,h=>by
  rw[eg];exact AQ l (ds1 p z) (kJ (kJ h z.toNat 9 0 oD oD) z.toNat 14 (-1) oD oD)
theorem mw {p:PW} {n:Int} (h:oy p n) (f:Nat):oy (dsP p f) n:=by
 have a:=AQ (p.lines.getD f []) p h;have e:=fW (p.lines.getD f []) p;unfold dsP;generalize (p.lines.getD f []).foldl ds1 p=q at a e;have hk:q.kinds=p.kinds:=by rw[e]
 refine⟨⟨a.fits.IE,a.fits.kinds,a.fits.IA,a.fits.IB,by show (p.lines.set f []).length<=1000;rw[au];exact h.fits.lines,fun l hl=>?_,by show (p.bits.set f 0).length<=1000;rw[au];exact h.fits.bits,a.fits.IC,a.fits.ready,a.fits.next,a.fits.ID,a.fits.IG⟩,a.I8,a.IE,a.IA,a.IB,by show (p.lines.set f []).length=q.kinds.length;rw[au,hk];exact h.lines,by show (p.bits.set f 0).length=q.kinds.length;rw[au,hk];exact h.bits,a.key,fun l hl z c=>?_,a.Jc,a.JB,a.Ja⟩
 ·rcases aZ (show l∈p.lines.set f [] from hl) with b|rfl
  ·exact h.fits.line l b
  ·exact bN _
 ·rcases aZ (show l∈p.lines.set f [] from hl) with b|rfl
  ·obtain⟨u,g,d⟩:=h.line l b z c;exact⟨u,g,by show u<q.IB.length;rw[a.IB,hk, <-h.IB];exact d⟩
  ·cases c
theorem sB {t:Int} {ls:List (List Int)} {l:List Int} (h:l∈lvs t ls):∃l0∈ls,(∀z∈l,z∈l0)∧l.length<=l0.length:=by
 unfold lvs at h;obtain⟨l0,h0,rfl⟩:=List.mem_map.1 h;unfold dx;exact⟨l0,h0,fun z a=>(List.mem_filter.1 a).1,dz _ _⟩
theorem Bi {p:PW} {n:Int} (h:oy p n) (t:Nat):oy (stP p t) n:=by
 have hl:(p.IB.map (nOw t)).length=p.IB.length:=bO _;have i:oy ({p with lines:=lvs t p.lines,ready:=lvs t p.ready,IC:=p.IC.map (noT t),IB:=p.IB.map (nOw t)}:PW) n:=by
  refine⟨⟨h.fits.IE,h.fits.kinds,h.fits.IA,by show (p.IB.map (nOw t)).length<=1000;rw[hl];exact h.fits.IB,by show (lvs t p.lines).length<=1000;rw[mM];exact h.fits.lines,fun l c=>?_,h.fits.bits,by show (p.IC.map (noT t)).length<=1000;rw[bO];exact h.fits.IC,by show (lvs t p.ready).length<=1000;rw[mM];exact h.fits.ready,fun l c=>?_,h.fits.ID,h.fits.IG⟩,h.I8,h.IE,h.IA,by show (p.IB.map (nOw t)).length=_;rw[hl];exact h.IB,by show (lvs t p.lines).length=_;rw[mM];exact h.lines,h.bits,h.key,fun l c z m=>?_,fun g d=>?_,h.JB,fun g d=>?_⟩
  ·obtain⟨l0,h0, -,b⟩:=sB c;exact aD b (h.fits.line l0 h0)
  ·obtain⟨l0,h0, -,b⟩:=sB c;exact aD b (h.fits.next l0 h0)
  ·obtain⟨l0,h0,b, -⟩:=sB c;obtain⟨u,k,j⟩:=h.line l0 h0 z (b z m);exact⟨u,k,by show u<(p.IB.map (nOw t)).length;rw[hl];exact j⟩
  ·obtain⟨a,h0,rfl⟩:=List.mem_map.1 (show g∈p.IB.map (nOw t) from d);show nOw t a 17= -1∨∃u:Nat,nOw t a 17=u∧u<(p.IB.map (nOw t)).length
   rw[hl];unfold nOw;by_cases e:a 17=t
   ·rw[ag e];exact .inl (ag rfl)
   ·rw[ae e];exact h.Jc a h0
  ·obtain⟨a,h0,rfl⟩:=List.mem_map.1 (show g∈p.IB.map (nOw t) from d);have f:nOw t a 13=a 13:=by
    unfold nOw;by_cases e:a 17=t
    ·rw[ag e];exact ae oD
    ·rw[ae e]
   rw[f];exact h.Ja a h0
 exact kJ (kJ i t 9 0 oD oD) t 14 (-1) oD oD
theorem Dj {p:PW} {n:Int} (h:oy p n) (t:Nat):oy ({p with IB:=p.IB.set t bl}:PW) n:=by
 have hl:(p.IB.set t bl).length=p.IB.length:=au ..;refine⟨⟨h.fits.IE,h.fits.kinds,h.fits.IA,by show (p.IB.set t bl).length<=1000;rw[hl];exact h.fits.IB,h.fits.lines,h.fits.line,h.fits.bits,h.fits.IC,h.fits.ready,h.fits.next,h.fits.ID,h.fits.IG⟩,h.I8,h.IE,h.IA,hl.trans h.IB,h.lines,h.bits,h.key,fun l c z f=>by
  obtain⟨u,e,d⟩:=h.line l c z f;exact⟨u,e,by show u<(p.IB.set t bl).length;rw[hl];exact d⟩,fun g b=>?_,h.JB,fun g b=>?_⟩
 ·show g 17= -1∨∃u:Nat,g 17=u∧u<(p.IB.set t bl).length
  rw[hl];rcases aZ (show g∈p.IB.set t bl from b) with a|rfl
  ·exact h.Jc g a
  ·exact .inl rfl
 ·rcases aZ (show g∈p.IB.set t bl from b) with a|rfl
  ·exact h.Ja g a
  ·exact .inl rfl
theorem AR {p:PW} (h:Inv p) (t:Nat):Inv (etP p t):=by
 have a:oy (if p.IB.getD t bl 17= -1 then stP p t else (stP p t).task (p.IB.getD t bl 17).toNat 9 0) (-1):=by
  split
  ·exact Bi (h.h (-1)) t
  ·exact kJ (Bi (h.h (-1)) t) _ 9 0 oD oD
 exact (Dj a t).full fun _ _ e=>e
theorem ky (p:PW) (t:Nat):(etP p t).kinds=p.kinds:=by
 unfold etP;split<;>rfl
theorem iP (p:PW) (f:Nat):(dsP p f).kinds=p.kinds:=by
 have e:=fW (p.lines.getD f []) p;show ((p.lines.getD f []).foldl ds1 p).kinds=p.kinds
 rw[e]
theorem jR:∀(l:List Int) (f:Nat),(l.set f 0).count 5<=l.count 5∧(l[f]? =some 5->(l.set f 0).count 5+1=l.count 5)
 |[],f=>⟨aq _,fun h=>by simp at h⟩
 |x::l,0=>by
  rw[List.set_cons_zero,List.count_cons,List.count_cons];refine⟨oS,fun h=>?_⟩;have:x=5:=by simpa using h
  rw[this];simp
 |x::l,f+1=>by
  obtain⟨b,a⟩:=jR l f;rw[List.set_cons_succ,List.count_cons,List.count_cons];refine⟨oA,fun h=>?_⟩;have:=a (by simpa using h);omega
theorem wg {m:Nat} {dr:PW->Nat->PW} {f:Nat} (b:∀p s,nds p<m->Inv p->s<p.IA.length->(p.IA.getD s eS) 0≠0->Inv (dr p s)∧nds (dr p s)<=nds p∧(dr p s).kinds.length=p.kinds.length):∀(a:Nat) (p:PW),nds p<m->Inv p->f*16+a<=p.IA.length->Inv (daF dr f a p)∧nds (daF dr f a p)<=nds p∧(daF dr f a p).kinds.length=p.kinds.length
 |0,p,_,h,_=>by
  rw[gU];exact⟨h,aq _,rfl⟩
 |a+1,p,hn,h,hl=>by
  rw[gT];by_cases h0:(p.IA.getD (f*16+a) eS) 0=0
  ·rw[ag h0];exact wg b a p hn h oA
  ·rw[ae h0];obtain⟨c,g,d⟩:=b p (f*16+a) hn h oA h0;have k:(dr p (f*16+a)).IA.length=p.IA.length:=by rw[c.IA,d,h.IA]
   obtain⟨e,i,j⟩:=wg (m:=m) (f:=f) b a (dr p (f*16+a)) oA c oA;exact⟨e,oA,oA⟩
theorem At {p:PW} {s:Nat} (a:s<p.IA.length):p.IA.getD s eS∈p.IA:=by
 rw[aa,ac a];exact av a
theorem vo {p:PW} (h:Inv p) {s:Nat} (g:s<p.IA.length) (h0:(p.IA.getD s eS) 0≠0) (a:¬(p.IA.getD s eS) 0=1):∃b:Nat,(p.IA.getD s eS) 1=b∧p.kinds[b]? =some ((p.IA.getD s eS) 0)∧2<=(p.IA.getD s eS) 0∧(p.IA.getD s eS) 0<=8:=by
 rcases h.key _ (At g) with e|e|⟨c,d,b,f,hk⟩
 ·exact absurd e h0
 ·exact absurd e a
 ·exact⟨b,f,hk,c,d⟩
theorem AY {m:Nat} {dr:PW->Nat->PW} (i:∀p s,nds p<m->Inv p->s<p.IA.length->(p.IA.getD s eS) 0≠0->Inv (dr p s)∧nds (dr p s)<=nds p∧(dr p s).kinds.length=p.kinds.length) {p:PW} (h:Inv p) (n:nds p<m+1) {k:Int} {f:Nat} (hk:p.kinds[f]? =some k) (b:ig p k f=false):Inv (lsF dr p k f)∧nds (lsF dr p k f)<=nds p∧(lsF dr p k f).kinds.length=p.kinds.length:=by
 have hl:(nkP p f).kinds.length=p.kinds.length:=au ..;have d:=jR p.kinds f;have a:=d.1;unfold lsF;by_cases c:k=2∨k=3
 ·rw[ag c];exact⟨Bm (gF h hk b oA) f,a,hl⟩
 rw[ae c];by_cases e4:k=4
 ·rw[ag e4];exact⟨jT (gF h hk b oA) 12 oD f,a,hl⟩
 rw[ae e4];by_cases e5:k=5
 ·rw[ag e5];have hi:=jT (gF h hk b oA) 11 oD (f:Int);have j:nds (nkP p f)+1=nds p:=d.2 (by rw[hk,e5]);have l:f<p.kinds.length:=(List.getElem?_eq_some_iff.1 hk).1;obtain⟨a1,e,g⟩:=wg (m:=m) (f:=f) i 16 (fgP 11 (nkP p f) f) (by show nds (nkP p f)<m;omega) hi (by show f*16+16<=p.IA.length;have:=h.IA;omega);exact⟨a1,aD e a,g.trans hl⟩
 rw[ae e5];by_cases e6:k=6
 ·rw[ag e6];refine⟨AR (gF h hk b oA) f,?_,?_⟩
  ·show (etP (nkP p f) f).kinds.count 5<=_;rw[ky];exact a
  ·rw[ky];exact hl
 rw[ae e6];refine⟨wH (mw (lD h hk b) f),?_,?_⟩
 ·show (dsP (nkP p f) f).kinds.count 5<=_;rw[iP];exact a
 ·show (dsP (nkP p f) f).kinds.length=_;rw[iP];exact hl
theorem tx:∀(m:Nat) (p:PW) (s:Nat),nds p<m->Inv p->s<p.IA.length->(p.IA.getD s eS) 0≠0->Inv (drF m p s)∧nds (drF m p s)<=nds p∧(drF m p s).kinds.length=p.kinds.length
 |0,p,_,hn,_,_,_=>absurd hn (ex _)
 |m+1,p,s,hn,h,hs,h0=>by
  unfold drF;by_cases a:(p.IA.getD s eS) 0=1∨ig (drA p s) ((p.IA.getD s eS) 0) ((p.IA.getD s eS) 1)=true
  ·rw[ag a];exact⟨jg h s,aq _,rfl⟩
  ·rw[ae a];obtain⟨b,c,hk, -, -⟩:=vo h hs h0 (fun e=>a (.inl e));rw[c,ah];have d:ig (drA p s) ((p.IA.getD s eS) 0) b=false:=by
    cases e:ig (drA p s) ((p.IA.getD s eS) 0) b with
    |false=>rfl
    |true=>exact absurd (.inr (by rw[c];exact e)) a
   exact AY (m:=m) (tx m) (jg h s) hn hk d
def ma (m:Nat):Prop:=∀(p:PW) (s:Nat) (W:World) (wb:Nat) (tag:Nat->Nat) (V:Nat->Value),nds p<m->Inv p->s<p.IA.length->(p.IA.getD s eS) 0≠0->cb W wb tag V p->Calls Tryz.prog 81 #[.pointer (some ⟨wb,0,none⟩),.int .i64 s] W fun r W'=>r=.returned (.tuple #[])∧∃tag',cb W' wb tag' V (drF m p s)∧Kt tag tag' W W'
theorem Be {W:World} {wb:Nat} {tag:Nat->Nat} {V:Nat->Value} {p:PW} (h:cb W wb tag V p) (x:Nat):cb W wb (gy tag W.heap.size x) V p∧Kt tag (gy tag W.heap.size x) W W:=
 ⟨h.kp (T:=fun _=>False) (aV _ _) (fun _ _ e=>e.elim) (fun _ hk=>dB hk),Kt.of (T:=fun _=>False) (aV _ _) (fun _ e=>e.elim) (fun _ hk=>dB hk)⟩
theorem gK {p:PW} {s:Nat} (a:s<p.IA.length):p.IA.getD s eS=p.IA[s]:=by rw[aa,ac a];rfl
theorem cb.Jr {W:World} {wb:Nat} {tag:Nat->Nat} {V:Nat->Value} {p:PW} (h:cb W wb tag V p) {g cap:Nat} (e:V 2=.slice (some ⟨g,0,none⟩) p.IA.length cap) {i:Nat} (hi:i<p.IA.length):W.cell? ⟨g,i*7,none⟩=some (.int .i64 ((p.IA.getD i eS) 0)):=by
 have a:=h.IU e hi (show 0<7 by omega);rw[bz] at a;rw[gK hi];exact a
theorem AV:(Tryz.prog.info? 32).map (·.size)=some 6:=oK
theorem Bq {ops:Array Oper} {rest:List Oper} {op:Oper} {a:Act} {w:World} {Q:Exit->Act->World->Prop} (d:op.guard=none) (x y:Operand) (e:op.op=.store 32 x y)
  (b o:Nat) (g:a.eval x=.pointer (some ⟨b,o,none⟩)) (cs:List Value) (i:a.eval y=.agg cs.toArray) (hl:cs.length=6) (c:∀v∈cs,v.oneCell'=true) (f:w.there b o 6)
  (h:wpList Tryz.prog ops Q rest (a.put op.dst undef) (w.setCells b o cs)):wpList Tryz.prog ops Q (op::rest) a w:=
 wpList_store_mid d 32 x y e b o cs.toArray g i (by simpa [hl] using f) (by rw[AV];simp[hl]) (all_oneCell_toArray c) (by simpa using h)
theorem Bp {ops:Array Oper} {rest:List Oper} {op:Oper} {a:Act} {w:World} {Q:Exit->Act->World->Prop} (d:op.guard=none) (x:Operand) (e:op.op=.load 32 x)
  (b o:Nat) (f:a.eval x=.pointer (some ⟨b,o,none⟩)) (cs:List Value) (hl:cs.length=6) (c:w.rangeAt b o cs)
  (h:wpList Tryz.prog ops Q rest (a.put op.dst (.agg cs.toArray)) w):wpList Tryz.prog ops Q (op::rest) a w:=
 wpList_load_mid d 32 x e b o f cs _ c Tryz.underlying32 rfl (by rw[AV,hl]) h
theorem yp {W:World} {b o:Nat} {f:Nat->Int} (h:W.rangeAt b o (cf 7 f)):W.rangeAt b o (cf 6 f):=fun j v hv=>h j v (by
 have a:j<6:=by
  have:=(List.getElem?_eq_some_iff.1 hv).1
  rwa [ay] at this
 rw[dk 6 f j a] at hv;rw[dk 7 f j oA];exact hv)
theorem cb.I9 {W:World} {wb:Nat} {tag:Nat->Nat} {V:Nat->Value} {p:PW} (h:cb W wb tag V p) {g cap:Nat} (e:V 2=.slice (some ⟨g,0,none⟩) p.IA.length cap) (o m:Nat) (b:o+m<=p.IA.length*7):W.there g o m:=by
 have a:=h.o.IA;rw[e] at a;exact a.there o m b
theorem sc {m:Nat} (B:ma m) (p:PW) (f:Nat) (W:World) (wb:Nat) (tag:Nat->Nat) (V:Nat->Value) (b:nds p<m) (hi:Inv p) (L:f<p.kinds.length) (bt:cb W wb tag V p):
  Calls Tryz.prog 215 #[.pointer (some ⟨wb,0,none⟩),.int .i64 f] W fun r W'=>r=.returned (.tuple #[])∧∃tag',cb W' wb tag' V (daF (drF m) f 16 p)∧Kt tag tag' W W':=by
 have D:=hi.IA;have K:=hi.I8;have R:(p.IA.length:Int)<=1000:=oA;have Q:(f:Int)<=23:=oA;have H:=hid (show f*16+16<=p.IA.length by omega);obtain⟨A,cap2,e2⟩:=bt.o.IA.form (show 0<p.IA.length by omega);have w:=hid e2;have G:=hid B;have F:=hid (show ∃q tg,cb W wb tg V q∧Kt tag tg W W∧Inv q∧nds q<m∧q.IA.length=p.IA.length∧daF (drF m) f 16 q=daF (drF m) f 16 p from⟨p,tag,bt,en _ _,hi,b,rfl,rfl⟩);clear bt hi b B e2 D K L;go_enter Tryz.func215,Tryz.ntmps215
 go_wp2_with fail
 go_loopw [4] (fun i wr=>∃(a:Nat) (v:Int),i=.int .i64 v∧Hid (v=(a:Int) - 1∧a<=16∧∃q tg,cb wr wb tg V q∧Kt tag tg W wr∧Inv q∧nds q<m∧q.IA.length=p.IA.length∧daF (drF m) f a q=daF (drF m) f 16 p)) (fun i _=>(intOf i+1).toNat)
 case atStart=>exact⟨16,15,rfl,hid ⟨rfl,aq _,F.out⟩⟩
 case round=>
  obtain⟨a,v,rfl,j⟩:=hrel;obtain⟨hv,s,q,tg,bt,kt,hi,b,d,g⟩:=j.out
  cases a with
  |zero=>
   obtain rfl:v= -1:=oA;have x:=hid bt;have l:=hid kt;have I:=hid g;clear bt kt hi b d g hv s j;go_wp2_with fail
   exact aI (aF rfl _ _ _) rfl ⟨rfl,tg,by rw[<-I.out,gU];exact x,l.out⟩
  |succ a=>
   obtain rfl:v=(a:Int):=oA;obtain⟨sl,u⟩:∃sl:Nat,f*16+a=sl:=⟨_,rfl⟩
   have D:(f:Int)*16+(a:Int)=(sl:Int):=oA;have h:sl<q.IA.length:=by have:=H.out;omega
   have S:(sl:Int)<(p.IA.length:Int):=oA;have O:0<=(a:Int):=oA;have P:(a:Int)<=15:=oA;have t:V 2=.slice (some ⟨A,0,none⟩) q.IA.length cap2:=by rw[d];exact w
   have c2:wr.cell? ⟨wb,2,none⟩=some (.slice (some ⟨A,0,none⟩) p.IA.length cap2):=by rw[ai bt.r (k:=2) rfl,w.out]
   have E:=bt.Jr t h;have x:=hid bt;have l:=hid kt;have c:daF (drF m) f a (if (q.IA.getD sl eS) 0=0 then q else drF m q sl)=daF (drF m) f 16 p:=by rw[<-g,gT,u]
   by_cases h0:(q.IA.getD sl eS) 0=0
   ·rw[ag h0] at c;rw[h0] at E;have n:=hid (show (a<=16∧∃q tg,cb wr wb tg V q∧Kt tag tg W wr∧Inv q∧nds q<m∧q.IA.length=p.IA.length∧daF (drF m) f a q=daF (drF m) f 16 p) from⟨oA,q,tg,bt,kt,hi,b,d,c⟩);clear bt kt hi b d g c hv s j t h u h0;go_wp2_with fail
    exact⟨⟨a,(a:Int) - 1,by first|rfl|go_num,hid ⟨rfl,n.out⟩⟩,by simp[intOf]<;>omega⟩
   ·rw[ae h0] at c;have z:=hid (G.out q sl wr wb tg V b hi h h0 bt);obtain⟨i1,i2,i3⟩:=tx m q sl b hi h h0;have C:(drF m q sl).IA.length=p.IA.length:=by rw[i1.IA,i3, <-hi.IA];exact d
    have e:=hid (show Inv (drF m q sl)∧nds (drF m q sl)<m∧(drF m q sl).IA.length=p.IA.length∧daF (drF m) f a (drF m q sl)=daF (drF m) f 16 p from⟨i1,oA,C,c⟩);have J:((q.IA.getD sl eS) 0 !=0)=true:=by simpa using h0
    generalize (q.IA.getD sl eS) 0=y at E J;generalize drF m q sl=M at z e;clear bt kt hi b d g c hv s j t h u h0 i1 i2 i3 C;go_wp2_with fail
    refine z.mono ?_;rintro r w1 ⟨rfl,N,b2,k2⟩;have n:=hid (show (a<=16∧∃q tg,cb w1 wb tg V q∧Kt tag tg W w1∧Inv q∧nds q<m∧q.IA.length=p.IA.length∧daF (drF m) f a q=daF (drF m) f 16 p) from⟨oA,M,N,b2,l.trans k2,e.1,e.2.1,e.2.2.1,e.2.2.2⟩);clear b2 k2;go_wp2_with fail
    exact⟨⟨a,(a:Int) - 1,by first|rfl|go_num,hid ⟨rfl,n.out⟩⟩,by simp[intOf]<;>omega⟩
theorem zY {m:Nat} (s:ma m) (p:PW) (k:Int) (f:Nat) (W:World) (wb:Nat) (tag:Nat->Nat) (V:Nat->Value) (B:nds p<m+1) (hi:Inv p) (hk:p.kinds[f]? =some k) (q:ig p k f=false) (w:2<=k) (x:k<=8) (bt:cb W wb tag V p):
  Calls Tryz.prog 159 #[.pointer (some ⟨wb,0,none⟩),.int .i64 k,.int .i64 f] W fun r W'=>r=.returned (.tuple #[])∧∃tag',cb W' wb tag' V (lsF (drF m) p k f)∧Kt tag tag' W W':=by
 obtain⟨d,A⟩:=List.getElem?_eq_some_iff.1 hk;have l:=hi.I8;have Y:(p.kinds.length:Int)<=1000:=oA;have U:(f:Int)<(p.kinds.length:Int):=oA;obtain⟨J,N,e1⟩:=bt.o.kinds.form (show 0<p.kinds.length by omega);have c1:W.cell? ⟨wb,1,none⟩=some (.slice (some ⟨J,0,none⟩) p.kinds.length N):=by rw[ai bt.r (k:=1) rfl,e1]
 obtain⟨Z,x1⟩:∃y,W.cell? ⟨J,f,none⟩=some y:=⟨_,bt.IT e1 d⟩
 have C:=bt.I1 e1 f;obtain⟨b1,k1⟩:=bt.IM e1 f 0;have t:=hid (show cb (W.setCell ⟨J,f,none⟩ (.int .i64 0)) wb tag V (nkP p f) from b1);have v:=hid k1;have hh:=lD hi hk q;have c:(nkP p f).kinds.length=p.kinds.length:=au ..;have S:=hid (show f<(nkP p f).kinds.length by rw[c];exact d);have T:=hid hh;clear b1 k1 e1 bt;rcases (show k=2∨k=3∨k=4∨k=5∨k=6∨k=7∨k=8 by omega) with rfl|rfl|rfl|rfl|rfl|rfl|rfl
 ·have i:=hid (show lsF (drF m) p 2 f=utP (nkP p f) f by unfold lsF;rw[ag (.inl rfl)]);have a:=hid (ou wb tag V (nkP p f) f _ t oA (by rw[c];exact l) hh.IE);clear hi hk q B s w x d A l hh c;go_enter Tryz.func159,Tryz.ntmps159
  go_upto_region 1 with fail
  generalize World.setCell _ _ _=D at*;clear c1 x1 C;go_wp2_with fail
  refine a.mono ?_;rintro r E ⟨rfl,b9,b⟩;have g:=hid b9;have j:=hid (v.trans b);clear b9 b a;go_wp2_with fail
  exact aI (aF rfl _ _ _) rfl ⟨rfl,tag,by rw[i.out];exact g,j.out⟩
 ·have i:=hid (show lsF (drF m) p 3 f=utP (nkP p f) f by unfold lsF;rw[ag (.inr rfl)]);have a:=hid (ou wb tag V (nkP p f) f _ t oA (by rw[c];exact l) hh.IE);clear hi hk q B s w x d A l hh c;go_enter Tryz.func159,Tryz.ntmps159
  go_upto_region 1 with fail
  generalize World.setCell _ _ _=D at*;clear c1 x1 C;go_wp2_with fail
  refine a.mono ?_;rintro r E ⟨rfl,b9,b⟩;have g:=hid b9;have j:=hid (v.trans b);clear b9 b a;go_wp2_with fail
  exact aI (aF rfl _ _ _) rfl ⟨rfl,tag,by rw[i.out];exact g,j.out⟩
 ·have i:=hid (show lsF (drF m) p 4 f=fgP 12 (nkP p f) f by unfold lsF;rw[ae oD,ag rfl]);have a:=hid (si wb tag V (nkP p f) f _ t hh.fits.IB);clear hi hk q B s w x d A l hh c;go_enter Tryz.func159,Tryz.ntmps159
  go_upto_region 1 with fail
  generalize World.setCell _ _ _=D at*;clear c1 x1 C;go_wp2_with fail
  refine a.mono ?_;rintro r E ⟨rfl,b9,b⟩;have g:=hid b9;have j:=hid (v.trans b);clear b9 b a;go_wp2_with fail
  exact aI (aF rfl _ _ _) rfl ⟨rfl,tag,by rw[i.out];exact g,j.out⟩
 ·have i:=hid (show lsF (drF m) p 5 f=daF (drF m) f 16 (fgP 11 (nkP p f) f) by unfold lsF;rw[ae oD,ae oD,ag rfl]);have a:=hid (ve wb tag V (nkP p f) f _ t hh.fits.IB);have M:=jT (gF hi hk q oD) 11 oD (f:Int);have O:nds (nkP p f)+1=nds p:=(jR p.kinds f).2 hk;have L:=hid (fun X (h:cb X wb tag V (fgP 11 (nkP p f) f))=>sc s (fgP 11 (nkP p f) f) f X wb tag V (by show nds (nkP p f)<m;omega) M (by show f<(nkP p f).kinds.length;rw[c];exact d) h);clear M O;clear hi hk q B s w x d A l hh c;go_enter Tryz.func159,Tryz.ntmps159
  go_upto_region 1 with fail
  generalize World.setCell _ _ _=D at*;clear c1 x1 C;go_wp2_with fail
  refine a.mono ?_;rintro r w2 ⟨rfl,b2,k2⟩;have F:=hid b2;have H:=hid (v.trans k2);clear b2 k2 a;go_wp2_with fail
  refine (L.out _ F).mono ?_;rintro r E ⟨rfl,R,b9,b⟩;have g:=hid b9;have j:=hid (H.trans b);clear b9 b L;go_wp2_with fail
  exact aI (aF rfl _ _ _) rfl ⟨rfl,R,by rw[i.out];exact g,j.out⟩
 ·have i:=hid (show lsF (drF m) p 6 f=etP (nkP p f) f by unfold lsF;rw[ae oD,ae oD,ae oD,ag rfl]);have I:f<(nkP p f).IB.length:=by rw[hh.IB,c];exact d
  have a:=hid (se wb tag V (nkP p f) f _ t hh.fits I (by
   rcases hh.Jc ((nkP p f).IB.getD f bl) (by rw[aa,ac I];exact av I) with e|⟨u,Q,P⟩
   ·exact .inl e
   ·exact .inr ⟨u,P,Q⟩))
  clear I;clear hi hk q B s w x d A l hh c;go_enter Tryz.func159,Tryz.ntmps159
  go_upto_region 1 with fail
  generalize World.setCell _ _ _=D at*;clear c1 x1 C;go_wp2_with fail
  refine a.mono ?_;rintro r E ⟨rfl,b9,b⟩;have g:=hid b9;have j:=hid (v.trans b);clear b9 b a;go_wp2_with fail
  exact aI (aF rfl _ _ _) rfl ⟨rfl,tag,by rw[i.out];exact g,j.out⟩
 ·have i:=hid (show lsF (drF m) p 7 f=fgP 13 (dsP (nkP p f) f) f by unfold lsF;rw[ae oD,ae oD,ae oD,ae oD]);have n:f<(nkP p f).lines.length:=by rw[hh.lines,c];exact d
  have a:=hid (ly wb tag V (nkP p f) f _ t hh.fits n (by rw[hh.bits,c];exact d) (fun z K=>hh.line _ (by rw[aa,ac n];exact av n) z K));have G:=hid (fun X (h:cb X wb tag V (dsP (nkP p f) f))=>nQ wb tag V (dsP (nkP p f) f) f X h (mw hh f).fits.IB);clear n;clear hi hk q B s w x d A l hh c;go_enter Tryz.func159,Tryz.ntmps159
  go_upto_region 1 with fail
  generalize World.setCell _ _ _=D at*;clear c1 x1 C;go_wp2_with fail
  refine a.mono ?_;rintro r w2 ⟨rfl,b2,k2⟩;have F:=hid b2;have H:=hid (v.trans k2);clear b2 k2 a;go_wp2_with fail
  refine (G.out _ F).mono ?_;rintro r E ⟨rfl,b9,b⟩;have g:=hid b9;have j:=hid (H.trans b);clear b9 b G;go_wp2_with fail
  exact aI (aF rfl _ _ _) rfl ⟨rfl,tag,by rw[i.out];exact g,j.out⟩
 ·have i:=hid (show lsF (drF m) p 8 f=fgP 13 (dsP (nkP p f) f) f by unfold lsF;rw[ae oD,ae oD,ae oD,ae oD]);have n:f<(nkP p f).lines.length:=by rw[hh.lines,c];exact d
  have a:=hid (ly wb tag V (nkP p f) f _ t hh.fits n (by rw[hh.bits,c];exact d) (fun z K=>hh.line _ (by rw[aa,ac n];exact av n) z K));have G:=hid (fun X (h:cb X wb tag V (dsP (nkP p f) f))=>nQ wb tag V (dsP (nkP p f) f) f X h (mw hh f).fits.IB);clear n;clear hi hk q B s w x d A l hh c;go_enter Tryz.func159,Tryz.ntmps159
  go_upto_region 1 with fail
  generalize World.setCell _ _ _=D at*;clear c1 x1 C;go_wp2_with fail
  refine a.mono ?_;rintro r w2 ⟨rfl,b2,k2⟩;have F:=hid b2;have H:=hid (v.trans k2);clear b2 k2 a;go_wp2_with fail
  refine (G.out _ F).mono ?_;rintro r E ⟨rfl,b9,b⟩;have g:=hid b9;have j:=hid (H.trans b);clear b9 b G;go_wp2_with fail
  exact aI (aF rfl _ _ _) rfl ⟨rfl,tag,by rw[i.out];exact g,j.out⟩
theorem wk {m:Nat} (hd:ma m):ma (m+1):=by
 intro p s W wb tag V hn hi F h0 ap;obtain⟨bt,kr⟩:=Be ap 0;have KR:=hid kr;have T0:=hid (fun x (h:W.heap.size<=x)=>show gy tag W.heap.size 0 x=0 from ae oA);generalize gy tag W.heap.size 0=tg at*;clear ap kr;have az:=hi.IA;have ax:=hi.I8;have aC:(p.IA.length:Int)<=1000:=oA;have aD:(s:Int)<(p.IA.length:Int):=oA;obtain⟨g,B,e2⟩:=bt.o.IA.form (show 0<p.IA.length by omega);have J:=hid e2;have HS:=hid F;have c2:W.cell? ⟨wb,2,none⟩=some (.slice (some ⟨g,0,none⟩) p.IA.length B):=by rw[ai bt.r (k:=2) rfl,e2]
 obtain⟨f,w⟩:∃f,p.IA.getD s eS=f:=⟨_,rfl⟩
 have RS:=hid (show W.rangeAt g (s*7) (cf 7 f) from by
  have C:=bt.o.IA;rw[e2] at C;have h3:=C.range F;rw[<-gK F,w] at h3;exact h3)
 have l:=hid (aP W zV 34 W.heap.size 7 rfl oD);have R:=hid (show Below W.heap.size W ((W.alloc (.cells zV 34)).setCells W.heap.size 0 (cf 7 f)) from bR (bal (af W.heap.size W) (.cells zV 34)) (aq _) _ 0);have aa:=hid (World.rangeAt_setCells_same (W.alloc (.cells zV 34)) W.heap.size 0 (cf 7 f) (by rw[ay];exact l));have T4:=hid (T0.out W.heap.size (aq _));have HB:=hid bt;have HQ:=hid (show drA p s={p with IA:=hnd s (f 6) (p.IA.set s eS)} by unfold drA;rw[w]);have al:=hid (fun X (h:cb X wb tg V {p with IA:=p.IA.set s eS})=>zD wb tg V {p with IA:=p.IA.set s eS} s (f 6) X h (by show (p.IA.set s eS).length<=1000;rw[au];omega));have ad:=jg hi s;have t:=hid (show drF (m+1) p s=if f 0=1∨ig (drA p s) (f 0) (f 1)=true then drA p s else lsF (drF m) (drA p s) (f 0) (f 1).toNat by
  show (if _ then _ else _)=_
  rw[w])
 have M:=hid (fun X y (h:cb X wb y V (drA p s))=>qA wb V (drA p s) (f 0) (f 1) X h.r (jm h.o.IA.1) (by rw[ad.IA];show p.kinds.length*16<=1000;omega));have L:=hid (show f 0≠1->ig (drA p s) (f 0) (f 1)=false->∃b:Nat,f 1=b∧∀X y,cb X wb y V (drA p s)->Calls Tryz.prog 159 #[.pointer (some ⟨wb,0,none⟩),.int .i64 (f 0),.int .i64 b] X fun r W'=>r=.returned (.tuple #[])∧∃tag',cb W' wb tag' V (lsF (drF m) (drA p s) (f 0) b)∧Kt y tag' X W' from fun i ho=>by
  obtain⟨b,a,hk,C,h8⟩:=vo hi F h0 (by rw[w];exact i);rw[w] at a hk C h8;rw[a] at ho;exact⟨b,a,fun X y h=>zY hd (drA p s) (f 0) b X wb y V hn ad hk ho C h8 h⟩)
 clear bt hi F h0 hn hd e2 az ax w ad T0;go_enter Tryz.func81,Tryz.ntmps81
 go_upto_region 1 with (first|((with_reducible refine gld 34 ?_);refine yL rfl _ rfl g (s*7) rfl (cf 7 f) (ay _ _) RS ?_)|((with_reducible refine gst 34 ?_);refine ni rfl _ _ rfl W.heap.size 0 rfl (cf 7 f) rfl (ay _ _) (bQ _ _) l ?_))
 generalize World.setCells _ _ _ _=d at*;obtain⟨kb,av⟩:∃kb,W.heap.size=kb:=⟨_,rfl⟩
 rw[av] at aa T4 ⊢;clear av c2 RS l;have H:=hid (HB.below R);have K1:=hid (show Kt tag tg W d from KR.trans (.below R));clear HB KR R;have Q:Hid (Below d.heap.size d d.drew):=hid (aB d 1);have KS:=hid (fun X (h:Below d.heap.size d X)=>show X.cell? ⟨wb,2,none⟩=some (.slice (some ⟨g,0,none⟩) p.IA.length B) from by rw[ai (H.below h).r (k:=2) rfl,J.out]);have an:=hid (fun X (h:Below d.heap.size d X)=>(H.below h).IV J HS eS);have ao:=hid (fun X (h:Below d.heap.size d X)=>(H.below h).I9 J (s*7) 7 (by have:=HS.out;omega));refine wp_region_held_drew (S:=fun X=>X.cell? ⟨wb,2,none⟩=some (.slice (some ⟨g,0,none⟩) p.IA.length B)) oK (KS.out _ Q) (fun D=>?_);have u:=hid D;clear D;refine tk 0 (.pointer (some ⟨wb,0,none⟩)) rfl u ?_;simp only[jj];refine tk 1 (.pointer (some ⟨wb,0,none⟩)) rfl u ?_;simp only[jj];refine tk 2 (.pointer (some ⟨wb,2,none⟩)) rfl u ?_;simp only[jj];refine eE 3 (.slice (some ⟨g,0,none⟩) p.IA.length B) rfl (Or.inl ⟨oR,fun W h=>by have h3:=h;clear h;go_simp⟩) u ?_;simp only[jj];refine tk 4 (.int .i64 s) rfl u ?_;simp only[jj];refine wpAnyH_ready (rs:=[5]) oK oS (AllReadyH.cons rfl (fun K E=>?_) AllReadyH.nil);go_simp
 refine (wu _).mono ?_;rintro q x1 ⟨rfl,a⟩;have A:=hid (btr Q a);clear a;go_wp2_with fail
 refine E _ _ (KS.out _ A) (fun D=>?_);have ar:=hid D;clear E K D
 try simp only[Act.put,jD,jE,jF]
 refine tk 6 (.pointer (some ⟨g,s*7,none⟩)) rfl ar ?_;simp only[jj];obtain⟨b2,k2⟩:=an.out _ A;have O:=hid b2;have U:=(bj A:Kt tg tg d x1).trans k2;have K2:=hid (K1.trans U);have ab:=hid (show (x1.setCells g (s*7) (cf 7 eS)).rangeAt kb 0 (cf 7 f) from fun o v hv=>U.cell (aa.out o v hv) T4);have SX:=hid (show (x1.setCells g (s*7) (cf 7 eS)).cell? ⟨wb,2,none⟩=some (.slice (some ⟨g,0,none⟩) p.IA.length B) from by rw[ai O.r (k:=2) rfl,J.out]);clear b2 k2 U;refine wpAnyH_ready (rs:=[7]) oK oS (AllReadyH.cons rfl (fun K E=>?_) AllReadyH.nil);refine wp_store_mid 34 _ _ rfl g (s*7) (cf 7 eS).toArray rfl rfl (by rw[eB,ay];exact ao _ A) (by rw[lC];rfl) (all_oneCell_toArray (bQ 7 _)) ?_;refine E _ _ SX (fun _=>?_);clear E K u ar
 try simp only[Act.put]
 refine dc oK ?_ _;clear KS an ao SX Q A H K1 aa;generalize World.setCells _ _ _ _=W2 at*;have y6:=ai ab (k:=6) (v:=.int .i64 (f 6)) (dk 7 _ 6 oA);go_wp2_with fail
 refine (al.out _ O).mono ?_;rintro r c ⟨rfl,b3,k3⟩;have B3:=hid (show cb c wb tg V (drA p s) by rw[HQ.out];exact b3);have K3:=hid (K2.trans k3);have am:=hid (yp (show c.rangeAt kb 0 (cf 7 f) from fun o v hv=>k3.cell (ab.out o v hv) T4));clear b3 k3 y6 al O K2 ab HQ;have l:=hid (aP c zK 32 c.heap.size 6 rfl oD);have T:=hid (show Below c.heap.size c ((c.alloc (.cells zK 32)).setCells c.heap.size 0 (cf 6 f)) from bR (bal (af c.heap.size c) (.cells zK 32)) (aq _) _ 0);have ac:=hid (World.rangeAt_setCells_same (c.alloc (.cells zK 32)) c.heap.size 0 (cf 6 f) (by rw[ay];exact l));go_upto_region 4 with (first|((with_reducible refine gld 32 ?_);refine Bp rfl _ rfl kb 0 rfl (cf 6 f) (ay _ _) am ?_)|((with_reducible refine gst 32 ?_);refine Bq rfl _ _ rfl c.heap.size 0 rfl (cf 6 f) rfl (ay _ _) (bQ _ _) l ?_))
 generalize World.setCells _ _ _ _=W4 at*;generalize c.heap.size=kc at ac ⊢;have I:=hid (B3.below T);have Y:=hid (K3.trans (.below T));clear l T B3 K3 am;have z:=ai ac (k:=0) (v:=.int .i64 (f 0)) (dk 6 _ 0 oA);have G:=ai ac (k:=1) (v:=.int .i64 (f 1)) (dk 6 _ 1 oA);by_cases i:f 0=1
 ·have n:=hid (show drF (m+1) p s=drA p s by rw[t.out,ag (.inl i)]);have N:(f 0 !=1)=false:=by rw[i];rfl
  generalize f 0=z0 at z N;clear i L M t;go_wp2_with fail
  exact aI (aF rfl _ _ _) rfl ⟨rfl,tg,by rw[n.out];exact I,Y.out⟩
 have N:(f 0 !=1)=true:=by simpa using i
 have j:=hid (M.out _ _ I)
 cases hop:ig (drA p s) (f 0) (f 1) with
 |true=>
  have n:=hid (show drF (m+1) p s=drA p s by rw[t.out,ag (.inr hop)]);rw[hop] at j;generalize f 0=z0 at z N j;generalize f 1=z1 at G j;clear i L M t hop;go_wp2_with fail
  refine j.mono ?_;rintro r w5 ⟨rfl,a⟩;have P:=hid (I.below a);have Z:=hid (Y.trans (.below a));clear a;go_wp2_with fail
  exact aI (aF rfl _ _ _) rfl ⟨rfl,tg,by rw[n.out];exact P,Z.out⟩
 |false=>
  obtain⟨b,a,aw⟩:=L.out i hop;have n:=hid (show drF (m+1) p s=lsF (drF m) (drA p s) (f 0) b by rw[t.out,ae (by rintro (e|e);exact i e;rw[hop] at e;cases e),a,ah]);rw[hop] at j;rw[a] at G j;have HL:=hid aw;generalize f 0=z0 at z N j HL n;clear i L M t hop a aw;go_wp2_with fail
  refine j.mono ?_;rintro r w5 ⟨rfl,a⟩;have P:=hid (I.below a);have Z:=hid (Y.trans (.below a));have aE:=(a.cell (aj _ _ z)).trans z;have aG:=(a.cell (aj _ _ G)).trans G;clear a z G j;go_wp2_with fail
  refine (HL.out _ _ P).mono ?_;rintro r w9 ⟨rfl,aA,b9,k9⟩;have B9:=hid b9;have K9:=hid (Z.trans k9);clear b9 k9;go_wp2_with fail
  exact aI (aF rfl _ _ _) rfl ⟨rfl,aA,by rw[n.out];exact B9,K9.out⟩
theorem tz:∀m,ma m
 |0=>fun _ _ _ _ _ _ a=>absurd a (ex _)
 |m+1=>wk (tz m)
