/- Qac -/
import Derived.BigQuiet
import Derived.Test.YtaejnmmpddbbjaaGreatDoorChecked
import Derived.WalkKit
import Derived.WalkSpells
import Derived.WalkLawsBesides
import Derived.Laws.EntriesVeiled
import Derived.Laws.BitsLemmas
import Derived.Laws.Bits64
import Derived.Test.YtaejnmmpddbbjaaGreatDoorQab
set_option maxRecDepth 100000
set_option maxHeartbeats 16000000
namespace Go.Proofs.YtaejnmmpddbbjaaGreatDoor
namespace Wd
open Go.RowKit Mem Bw Nums Mmu
def bl (k:Nat):Int:=[0,0,0,0,0,0,0,0,0,0,0, -1, -1, -1, -1,0,0, -1,0,0].getD k 0
theorem nT (w:World):Calls Tryz.prog 77 #[] w fun e w'=>e=.returned (.agg (cf 20 bl).toArray)∧Below w.heap.size w w':=by
 have a:=hid (aY w zT 45 w.heap.size 20 rfl oD);go_enter Tryz.func77,Tryz.ntmps77
 go_wp2_with (first
  |((with_reducible refine gst 45 ?_);refine gQ rfl _ _ rfl _ rfl (cf 20 bl) rfl (aA _ _) (bR _ _) a ?_;have E:=hid (World.rangeAt_setCells_same _ w.heap.size 0 (cf 20 bl) (by rw[aA];exact a));have b:=hid (dT (bal (ai w.heap.size w) (.cells zT 45)) (ar _) (cf 20 bl) 0)))
 refine aq (v:=.agg (cf 20 bl).toArray) (hU rfl rfl (fi _ _ (cf 20 bl) E (aA _ _))) rfl ⟨rfl,b.out⟩
def nd (z:Int):Bool:= !decide (0<=z∧z<=3)
structure gS (w:World) (vb:Nat) (V:Nat->Value) (p:PW):Prop where
 r:w.rangeAt vb 0 (dk V).toList
 v:jn w V p
 f:p.Fits
theorem gS.below {w w':World} {vb:Nat} {V:Nat->Value} {p:PW} (h:gS w vb V p) (a:Below w.heap.size w w'):gS w' vb V p:=⟨dV h.r a,h.v.below a,h.f⟩
def eX (p:PW) (f:Int):Option Int:=if 0<=f then p.kinds[f.toNat]? else none
def isB (p:PW) (f k:Int):Bool:=eX p f==some k
theorem gJ {p:PW} {j:Nat} (h:j<p.kinds.length):eX p (j:Int)=some p.kinds[j]:=by
 unfold eX;rw[af oA,ag,ac h]
theorem pV {p:PW} {f:Int} (h:¬(0<=f∧f<=(p.kinds.length:Int) - 1)):eX p f=none:=by
 unfold eX;split
 ·rw[aF oA]
 ·rfl
def frB (p:PW) (n:Int):Bool:=decide (0<=n∧n<=(p.kinds.length:Int) - 1)
def fB (p:PW) (f k:Int):Bool:=f== -1||isB p f k
theorem mx (V:Nat->Value) (p:PW) (f:Int) (w:World) (k:jn w V p) (h:p.Fits):
  Calls Tryz.prog 125 #[.agg (dk V),.int .i64 f] w fun r w'=>r=.returned (.int .i64 ((eX p f).getD (-1)))∧Below w.heap.size w w':=by
 have m:=cD w (dk V) 28;have c:=hid (bal (ai w.heap.size w) (.cells (dk V) 28));obtain⟨q,b,off,cap,e1,i,l⟩:=k.kinds;have hl:(p.kinds.length:Int)<=1000:=by have:=h.kinds;omega
 by_cases d:0<=f∧f<=(p.kinds.length:Int) - 1
 ·obtain⟨j,rfl⟩:∃j:Nat,f=j:=⟨f.toNat,oA⟩
  have e:j<p.kinds.length:=oA;have s:(j:Int)<(p.kinds.length:Int):=oA;obtain rfl:=i oA;have g:=(l.below c) j e;have a:=hid (show (eX p (j:Int)).getD (-1)=p.kinds[j] by rw[gJ e];rfl);generalize p.kinds[j]=z at g a;go_enter Tryz.func125,Tryz.ntmps125
  go_wp2_with fail
  go_ret
  exact⟨by rw[a.out];rfl,c.out⟩
 ·have a:=hid (show (eX p f).getD (-1)= -1 by rw[pV d];rfl);by_cases n:f<0
  ·clear d;go_enter Tryz.func125,Tryz.ntmps125
   go_wp2_with fail
   go_ret
   exact⟨by rw[a.out];rfl,c.out⟩
  ·have o:(p.kinds.length:Int)<=f:=oA;go_enter Tryz.func125,Tryz.ntmps125
   go_wp2_with fail
   go_ret
   exact⟨by rw[a.out];rfl,c.out⟩
def wB (v:Int):Bool:=decide (0<=v∧v<=65535)
def nwB (v:Int):Bool:= !wB v
theorem rG {w:World} {b o k:Nat} {cs:List Value} {v:Value} (h:w.rangeAt b o cs) (hk:cs[k]? =some v):w.cell? ⟨b,o+k,none⟩=some v:=h k v hk
theorem _root_.Go.Proofs.YtaejnmmpddbbjaaGreatDoor.eo:type_of% @rG:= @rG
theorem tX {p:PW} {f k:Int} (h:isB p f k=true):∃j:Nat,f=j∧j<p.kinds.length:=by
 unfold isB eX at h;split at h
 ·refine⟨f.toNat,oA,?_⟩;by_cases hl:f.toNat<p.kinds.length
  ·exact hl
  ·rw[aF oA] at h;exact absurd h oS
 ·exact absurd h oS
def nkB (k:Int):Bool:= !decide (0<=k∧k<=8)||k==1
def rdB (p:PW) (t core:Int):Bool:=isB p t 6&&(match p.DY[t.toNat]? with|some f=>f 9==1&&f 18==core|none=>false)
def bcB (p:PW) (core t:Int):Bool:= !(t== -1)&& !rdB p t core
theorem fO:(Tryz.prog.info? 28).map (·.size)=some 11:=oK
theorem lU {ops:Array Oper} {rest:List Oper} {op:Oper} {a:Act} {w:World} {Q:Exit->Act->World->Prop} (d:op.guard=none) (x:Operand) (e:op.op=.load 28 x)
  (b:Nat) (f:a.eval x=.pointer (some ⟨b,0,none⟩)) (V:Nat->Value) (c:w.rangeAt b 0 (dk V).toList)
  (h:wpList Tryz.prog ops Q rest (a.put op.dst (.agg (dk V))) w):wpList Tryz.prog ops Q (op::rest) a w:=
 wpList_load_mid d 28 x e b 0 f (dk V).toList _ c Tryz.underlying28 rfl fO h
theorem CE (w:World) (V:Nat->Value) (t:TypeId):(w.alloc (.cells (dk V) t)).rangeAt w.heap.size 0 (dk V).toList:=fun k v hk=>by
 rw[az,cD w (dk V) t k];simpa using hk
def rpB (p:PW) (t core prio:Int):Bool:=rdB p t core&&(decide (prio<0)||(match p.DY[t.toNat]? with|some f=>f 10==prio|none=>false))
theorem qQ {p:PW} {f k:Int} (hk:k≠ -1):isB p f k=((eX p f).getD (-1)==k):=by
 unfold isB
 cases eX p f with
 |none=>simp[Ne.symm hk]
 |some z=>simp
def brB (p:PW) (n:Nat) (zs:List Int):Bool:=zs.any fun t=> !rpB p t ((n:Int)/4) ((n:Int)%4)
def beB (p:PW) (k e:Int):Bool:=if k=4 then !(e==0)&& !isB p (e - 32768) 3 else if k=3 then !(e==0)&& !isB p (e - 32768) 2&& !isB p (e - 32768 - 16384) 2 else false
theorem qn {ops:Array Oper} {rest:List Oper} {op:Oper} {a:Act} {w:World} {Q:Exit->Act->World->Prop} (f:Region.wanted op (yielded ops a.tmps)=true) (x:Operand) (e:op.op=.load 28 x)
  (b:Nat) (g:a.eval x=.pointer (some ⟨b,0,none⟩)) (V:Nat->Value) (d:w.rangeAt b 0 (dk V).toList)
  (h:wpList Tryz.prog ops Q rest (a.put op.dst (.agg (dk V))) w):wpList Tryz.prog ops Q (op::rest) a w:=
 BigFrame.wpList_want f fun _ c=>wp_load_mid 28 x e b 0 g (dk V).toList _ d Tryz.underlying28 rfl fO (c _ _ h)
end Wd
namespace Mmu
open Go.RowKit Mem Bw Nums
def n16 (zs:List Int):Int:=(zs.length:Int)/16
def e1 (zs:List Int) (s a:Int):Int:=zs.getD (s*16+a/256).toNat 0
def e2 (zs:List Int) (t a:Int):Int:=zs.getD (t*16+a/16%16).toNat 0
def ei (zs:List Int) (s a:Int):Int×Bool×Int:=
 if ¬inb zs.length s a then (0,false,2)
 else if ¬isE (e1 zs s a) (n16 zs) then (0,false,9)
 else if ¬isE (e2 zs (e1 zs s a%1024) a) (n16 zs) then (0,false,9)
 else (e2 zs (e1 zs s a%1024) a%1024,decide (e2 zs (e1 zs s a%1024) a/16384%2=1),0)
def kX (k:Int):Value:=if k=0 then .nilIface else .iface 36 (.int .i64 k)
theorem oq {zs:List Int} {j:Nat} (h:j<zs.length):zs[j]? =some (zs.getD j 0):=by
 rw[ac h,aa,ac h];rfl
theorem iu {zs:List Int} {s a:Int} (h:¬inb zs.length s a):ei zs s a=(0,false,2):=by unfold ei;rw[af h]
theorem lR {zs:List Int} {s a:Int} (h:inb zs.length s a) (b:¬isE (e1 zs s a) (n16 zs)):ei zs s a=(0,false,9):=by unfold ei;rw[ae (fun k=>k h),af b]
theorem lS {zs:List Int} {s a:Int} (h:inb zs.length s a) (b:isE (e1 zs s a) (n16 zs)) (c:¬isE (e2 zs (e1 zs s a%1024) a) (n16 zs)):ei zs s a=(0,false,9):=by
 unfold ei;rw[ae (fun k=>k h),ae (fun k=>k b),af c]
theorem jK {zs:List Int} {s a:Int} (h:inb zs.length s a) (b:isE (e1 zs s a) (n16 zs)) (c:isE (e2 zs (e1 zs s a%1024) a) (n16 zs)):ei zs s a=(e2 zs (e1 zs s a%1024) a%1024,decide (e2 zs (e1 zs s a%1024) a/16384%2=1),0):=by
 unfold ei;rw[ae (fun k=>k h),ae (fun k=>k b),ae (fun k=>k c)]
theorem DF {zs:List Int} {s a:Int} (h:inb zs.length s a):0<=s∧0<=a/256∧s*16+a/256<zs.length:=by
 unfold inb at h;omega
theorem DG {zs:List Int} {s a:Int} (h:inb zs.length s a) (b:isE (e1 zs s a) (n16 zs)):0<=e1 zs s a%1024∧0<=a/16%16∧e1 zs s a%1024*16+a/16%16<zs.length:=by
 unfold inb at h;unfold isE n16 at b;omega
end Mmu
namespace Wd
open Go.RowKit Mem Bw Nums Mmu
structure nQ (w:World) (v:Value) (zs:List Int):Prop where
 row:∃q b off cap,v=.slice q zs.length cap∧(0<zs.length->q=some ⟨b,off,none⟩)∧fu w b off zs
 word:∀z∈zs,0<=z∧z<65536
 len:zs.length<=600
theorem nQ.below {w w':World} {v:Value} {zs:List Int} (h:nQ w v zs) (e:Below w.heap.size w w'):nQ w' v zs:=
 ⟨by obtain⟨q,b,off,cap,a,c,d⟩:=h.row;exact⟨q,b,off,cap,a,c,d.below e⟩,h.word,h.len⟩
theorem i6 (v:Value) (zs:List Int) (w:World) (a:nQ w v zs) (d:(zs.length:Int)%16=0) (f:(zs.length:Int)<=384):
  Calls Tryz.prog 130 #[v] w fun e w'=>e=.returned (.int .i64 ((zs.length:Int)/16))∧w=w':=by
 obtain⟨⟨q,b,off,cap,rfl,g,h⟩,_,hl⟩:=a;have c:¬(0<(zs.length:Int)%16):=oA;go_enter Tryz.func130,Tryz.ntmps130
 go_wp2_with fail
 go_ret
 exact⟨rfl,rfl⟩
theorem m9 (v:Value) (zs:List Int) (w:World) (a:nQ w v zs) (h:¬((zs.length:Int)%16=0∧(zs.length:Int)<=384)):
  Calls Tryz.prog 130 #[v] w fun e w'=>e=.returned (.int .i64 (-1))∧w=w':=by
 obtain⟨⟨q,b,off,cap,rfl,f,g⟩,_,hl⟩:=a;by_cases c:0<(zs.length:Int)%16
 ·clear h;go_enter Tryz.func130,Tryz.ntmps130
  go_wp2_with fail
  go_ret
  exact⟨rfl,rfl⟩
 ·have d:384<(zs.length:Int):=oA;go_enter Tryz.func130,Tryz.ntmps130
  go_wp2_with fail
  go_ret
  exact⟨rfl,rfl⟩
theorem kC (v:Value) (zs:List Int) (s a:Int) (w:World) (z:nQ w v zs):
  Calls Tryz.prog 81 #[v,.int .i64 s,.int .i64 a] w fun e w'=>e=.returned (.tuple #[.int .i64 (ei zs s a).1,.bool (ei zs s a).2.1,.int .i64 (ei zs s a).2.2])∧w=w':=by
 have u:=hid z;obtain⟨⟨q,b,off,cap,rfl,m,j⟩,i,hl⟩:=z;have o:=hid (Isa.eI a 4095 w);by_cases h:inb zs.length s a
 ·obtain⟨K,F,d1⟩:=DF h;have a0:0<=a:=by unfold inb at h;omega
  have a1:a<4096:=by unfold inb at h;omega
  have d:=hid (i6 _ zs w u (by unfold inb at h;omega) (by unfold inb at h;omega));have G:¬((zs.length:Int)/16<0):=oA;have I:¬(s<0):=oA;have J:¬((zs.length:Int)/16<=s):=by unfold inb at h;omega
  have l:Hid (decide (a<0∨4095<a)=false):=ax oA;have N:s<100:=oA;have p:(s*16+a/256).toNat<zs.length:=oA;have H:=m oA;subst H;have c1:=j _ p;have x:zs[(s*16+a/256).toNat]=e1 zs s a:=by unfold e1;rw[aa,ac p];rfl
  have w1:=i _ (aw p);rw[x] at c1 w1;obtain⟨A,B⟩:=w1;have i1:s*16+a/256<(zs.length:Int):=d1;have i0:0<=s*16+a/256:=oA;by_cases f:isE (e1 zs s a) (n16 zs)
  ·obtain⟨O,d2,L⟩:=DG h f;have r:(e1 zs s a%1024*16+a/16%16).toNat<zs.length:=oA;have c2:=j _ r;have y:zs[(e1 zs s a%1024*16+a/16%16).toNat]=e2 zs (e1 zs s a%1024) a:=by unfold e2;rw[aa,ac r];rfl
   have w2:=i _ (aw r);rw[y] at c2 w2;obtain⟨C,D⟩:=w2;have i2:0<=e1 zs s a%1024*16+a/16%16:=oA;have tn:¬(e1 zs s a%1024<0):=oA;have P:e1 zs s a%1024<1024:=oA;have n:=hid (og (e1 zs s a) ((zs.length:Int)/16) w A B f);by_cases k:isE (e2 zs (e1 zs s a%1024) a) (n16 zs)
   ·have t:=hid (og (e2 zs (e1 zs s a%1024) a) ((zs.length:Int)/16) w C D k);have c:=hid (jK h f k);have M:¬(e2 zs (e1 zs s a%1024) a%1024<0):=oA;have E:=hid (show (e2 zs (e1 zs s a%1024) a/16384%2==1)=decide (e2 zs (e1 zs s a%1024) a/16384%2=1) by rw[dy];simp);clear h f k p r F d1 d2 K x y m j i;go_enter Tryz.func81,Tryz.ntmps81
    go_wp2_with fail
    refine d.mono ?_;rintro e w' ⟨rfl,rfl⟩;go_wp2_with fail
    refine o.mono ?_;rintro e w' ⟨rfl,rfl⟩;rw[l.out];go_wp2_with fail
    refine n.mono ?_;rintro e w' ⟨rfl,rfl⟩;go_wp2_with fail
    refine t.mono ?_;rintro e w' ⟨rfl,rfl⟩;go_wp2_with fail
    go_ret3
    exact⟨by rw[c.out, <-E.out];rfl,rfl⟩
   ·have t:=hid (qD (e2 zs (e1 zs s a%1024) a) ((zs.length:Int)/16) w C D k);have c:=hid (lS h f k);go_enter Tryz.func81,Tryz.ntmps81
    go_wp2_with fail
    refine d.mono ?_;rintro e w' ⟨rfl,rfl⟩;go_wp2_with fail
    refine o.mono ?_;rintro e w' ⟨rfl,rfl⟩;rw[l.out];go_wp2_with fail
    refine n.mono ?_;rintro e w' ⟨rfl,rfl⟩;go_wp2_with fail
    refine t.mono ?_;rintro e w' ⟨rfl,rfl⟩;go_wp2_with fail
    go_ret3
    exact⟨by rw[c.out];rfl,rfl⟩
  ·have n:=hid (qD (e1 zs s a) ((zs.length:Int)/16) w A B f);have c:=hid (lR h f);go_enter Tryz.func81,Tryz.ntmps81
   go_wp2_with fail
   refine d.mono ?_;rintro e w' ⟨rfl,rfl⟩;go_wp2_with fail
   refine o.mono ?_;rintro e w' ⟨rfl,rfl⟩;rw[l.out];go_wp2_with fail
   refine n.mono ?_;rintro e w' ⟨rfl,rfl⟩;go_wp2_with fail
   go_ret3
   exact⟨by rw[c.out];rfl,rfl⟩
 ·have c:=hid (iu h);by_cases g:(zs.length:Int)%16=0∧(zs.length:Int)<=384
  ·have d:=hid (i6 _ zs w u g.1 g.2);have G:¬((zs.length:Int)/16<0):=oA;by_cases I:s<0
   ·clear h g m j i;go_enter Tryz.func81,Tryz.ntmps81
    go_wp2_with fail
    refine d.mono ?_;rintro e w' ⟨rfl,rfl⟩;go_wp2_with fail
    go_ret3
    exact⟨by rw[c.out];rfl,rfl⟩
   ·by_cases J:(zs.length:Int)/16<=s
    ·clear h g m j i;go_enter Tryz.func81,Tryz.ntmps81
     go_wp2_with fail
     refine d.mono ?_;rintro e w' ⟨rfl,rfl⟩;go_wp2_with fail
     go_ret3
     exact⟨by rw[c.out];rfl,rfl⟩
    ·have l:Hid (decide (a<0∨4095<a)=true):=aD (by unfold inb at h;omega);clear h g m j i;go_enter Tryz.func81,Tryz.ntmps81
     go_wp2_with fail
     refine d.mono ?_;rintro e w' ⟨rfl,rfl⟩;go_wp2_with fail
     refine o.mono ?_;rintro e w' ⟨rfl,rfl⟩;rw[l.out];go_wp2_with fail
     go_ret3
     exact⟨by rw[c.out];rfl,rfl⟩
  ·have d:=hid (m9 _ zs w u g);go_enter Tryz.func81,Tryz.ntmps81
   go_wp2_with fail
   refine d.mono ?_;rintro e w' ⟨rfl,rfl⟩;go_wp2_with fail
   go_ret3
   exact⟨by rw[c.out];rfl,rfl⟩
def eG (p:PW) (e:Ent):Bool:=isB p e.1 4&&decide (0<=e.2.1∧e.2.1<=255)&&((ei p.Eb e.1 (e.2.1*16)).2.2==0&&(ei p.Eb e.1 (e.2.1*16)).1==e.2.2.1&&(ei p.Eb e.1 (e.2.1*16)).2.1==e.2.2.2)
def fQ (p:PW) (n:Int):Bool:=decide (0<=n∧n<=(p.DZ.length:Int) - 1)
def eZ {α:Type} (f:α->Nat) (l:List α):Nat:=(l.map f).sum
theorem rS {α:Type} (f:α->Nat) {l:List α} {k:Nat} (h:k<l.length):eZ f (l.take (k+1))=eZ f (l.take k)+f l[k]:=by
 unfold eZ;rw[bu h];simp only[dR,List.sum_append,bP,ef,ep,List.sum_nil,bG]
theorem zM {α:Type} (f:α->Nat) (a b:List α):eZ f (a++b)=eZ f a+eZ f b:=by
 unfold eZ;rw[dR,List.sum_append]
theorem zL {α:Type} (f:α->Nat) (l:List α):eZ f (l.take l.length)=eZ f l:=by rw[cY]
def one (x:Int) (z:Int):Nat:=if z=x then 1 else 0
def cn (x:Int) (zs:List Int):Nat:=eZ (one x) zs
def cna (x:Int) (ls:List (List Int)):Nat:=eZ (cn x) ls
def inB (x:Int) (zs:List Int):Bool:=decide (0<cn x zs)
theorem A1 (x:Value) (zs:List Int) (n:Int) (w:World) (p:ey w x zs) (hl:zs.length<=1000):
  Calls Tryz.prog 42 #[.int .i64 n,x] w fun r w'=>r=.returned (.bool (inB n zs))∧w=w':=by
 obtain⟨q,b,off,cap,rfl,m,s⟩:=p;have A:(zs.length:Int)<=1000:=oA;have h:=hid m;have l:=hid s;go_enter Tryz.func42,Tryz.ntmps42
 go_wp2_with fail
 go_loopw [5] (fun i wr=>∃k:Nat,k<=zs.length∧i=.int .i64 k∧Hid (eZ (one n) (zs.take k)=0)∧Hid (w=wr)) (fun i _=>zs.length - (intOf i).toNat)
 case atStart=>exact⟨0,oA,rfl,hid rfl,hid rfl⟩
 case round=>
  obtain⟨k,hk,rfl,d,j⟩:=hrel;obtain rfl:=j.out;by_cases f:k<zs.length
  ·have B:(k:Int)<(zs.length:Int):=oA;have o:=h.out oA;subst o;have c0:=l.out k f;have e:=hid (show eZ (one n) (zs.take (k+1))=one n zs[k] by rw[rS _ f,d.out];omega);by_cases a:zs[k]=n
   ·have c:=hid (show inB n zs=true by
     refine aD ?_;have t:=e.out;have u:eZ (one n) zs=eZ (one n) (zs.take (k+1))+eZ (one n) (zs.drop (k+1)):=by
      rw[<-zM,List.take_append_drop]
     have v:one n zs[k]=1:=by unfold one;rw[af a]
     unfold cn;omega)
    generalize zs[k]=z at c0 a;subst a;go_wp2_with fail
    go_ret
    exact⟨by rw[c.out];rfl,rfl⟩
   ·have c:=hid (show eZ (one n) (zs.take (k+1))=0 by rw[e.out];unfold one;rw[ae a]);generalize zs[k]=z at c0 a;go_wp2_with fail
    exact⟨⟨k+1,oA,by go_num,c,hid oS⟩,by simp[intOf];omega⟩
  ·obtain rfl:k=zs.length:=oA;have y:¬((zs.length:Int)<(zs.length:Int)):=oA;have g:=hid (show inB n zs=false by
    refine ax ?_;have:=d.out;rw[zL] at this;unfold cn;omega)
   go_wp2_with fail
   go_ret
   exact⟨by rw[g.out];rfl,rfl⟩
structure LF (p:PW):Prop where
 k1:1<=p.kinds.length
 k2:p.kinds.length<=24
 c1:1<=p.D6.length
 c2:p.D6.length<=4
 d1:1<=p.Ee.length
 d2:p.Ee.length<=8
 Eb:p.Eb.length=p.kinds.length*16
 DZ:p.DZ.length=p.kinds.length*16
 DY:p.DY.length=p.kinds.length
 lines:p.lines.length=p.kinds.length
 bits:p.bits.length=p.kinds.length
 ready:p.ready.length=p.D6.length*4
 D9:p.D9.length=p.D6.length
def lfB (p:PW):Bool:=decide ((1<=(p.kinds.length:Int)∧(p.kinds.length:Int)<=24)∧(1<=(p.D6.length:Int)∧(p.D6.length:Int)<=4)∧(1<=(p.Ee.length:Int)∧(p.Ee.length:Int)<=8))
 &&((p.Eb.length:Int)==(p.kinds.length:Int)*16&&(p.DZ.length:Int)==(p.kinds.length:Int)*16)
 &&((p.DY.length:Int)==(p.kinds.length:Int)&&(p.lines.length:Int)==(p.kinds.length:Int)&&(p.bits.length:Int)==(p.kinds.length:Int))
 &&((p.ready.length:Int)==(p.D6.length:Int)*4&&(p.D9.length:Int)==(p.D6.length:Int))
theorem uc {p:PW} (h:lfB p=true):LF p:=by
 unfold lfB at h;simp only[al,aR,bh] at h;obtain⟨⟨⟨⟨⟨a,b⟩,⟨c,d⟩,⟨e,f⟩⟩,g,i⟩,⟨l,m⟩,n⟩,j,k⟩:=h;exact⟨oA,oA,oA,oA,oA,oA,oA,oA,oA,oA,oA,oA,oA⟩
def clI (n:Int) (s:Nat->Int):Bool:=s 0==1&&decide (s 1<=n∧n<=s 1+s 2 - 1)
def cl (n:Int) (s:Nat->Int):Nat:=if clI n s then 1 else 0
def un (n:Int) (s:Nat->Int):Bool:=clI n s&&decide (s 1+s 3<=n)
def opn (n:Int) (s:Nat->Int):Bool:=s 0 !=0&&s 0 !=1&&s 1==n
def bfB (p:PW) (n kind:Int):Bool:=decide (1<eZ (cl n) p.DZ)||(kind !=0&&(!(p.DZ.any (opn n))||p.DZ.any (un n)))
structure KB (s:Nat->Int):Prop where
 b0:0<=s 1
 b1:s 1<=100
 l0:0<=s 2
 l1:s 2<=100
 m0:0<=s 3
 m1:s 3<=100
 l2:s 0≠0->1<=s 2
end Wd
namespace KP
def pO (k b l m:Int):Bool:=
 if l<1∨24<l∨b<0∨24 - l<b then false
 else if k=1 then decide (0<=m∧m<=l) else decide (l=1∧m=0)
def kN (k g:Int):Bool:=
 if k=7∨k=8 then decide (0<=g∧g<=65535) else decide (g=0)
def chk (k b l m r g:Int):Int:=
 if k<0∨8<k then 3
 else if k=0 then (if b=0∧l=0∧m=0∧r=0∧g=0 then 0 else 2)
 else if pO k b l m=false then 2
 else if r<0∨7<r then 4
 else if kN k g=false then 2
 else 0
theorem mV {k b l m r g:Int} (h:chk k b l m r g=0):
  0<=k∧k<=8∧0<=b∧b<=23∧0<=l∧l<=24∧0<=m∧m<=24∧0<=r∧r<=7∧0<=g∧g<=65535:=by
 unfold chk at h;split at h
 ·omega
 split at h
 ·split at h<;>omega
 split at h
 ·omega
 rename_i h1 h2 h3;split at h
 ·omega
 split at h
 ·omega
 rename_i h4 h5;simp only[Bool.not_eq_false] at h3 h5;unfold pO at h3;unfold kN at h5;split at h3
 ·simp at h3
 rename_i h6;have a:(0<=m∧m<=l)∨(l=1∧m=0):=by
  split at h3
  ·exact Or.inl (of_decide_eq_true h3)
  ·exact Or.inr (of_decide_eq_true h3)
 have c:(0<=g∧g<=65535)∨g=0:=by
  split at h5
  ·exact Or.inl (of_decide_eq_true h5)
  ·exact Or.inr (of_decide_eq_true h5)
 omega
theorem tI (k b l m:Int):pO k b l m=true↔(1<=l∧l<=24∧0<=b∧b<=24 - l∧(k=1->0<=m∧m<=l)∧(k≠1->l=1∧m=0)):=by
 unfold pO;split
 ·simp;omega
 ·split<;>simp<;>omega
theorem se (k g:Int):kN k g=true↔(0<=g∧g<=65535∧(k≠7->k≠8->g=0)):=by
 unfold kN;split<;>simp<;>omega
theorem CG {b l m r g:Int} (h:b=0∧l=0∧m=0∧r=0∧g=0):chk 0 b l m r g=0:=by unfold chk;simp[h]
theorem CH {b l m r g:Int} (h:¬(b=0∧l=0∧m=0∧r=0∧g=0)):chk 0 b l m r g=2:=by unfold chk;rw[if_neg (by omega),if_pos rfl,if_neg h]
end KP
open Go.RowKit
theorem nE {a b:Bool} (h:a=b):Ending.returned (.bool a)=.returned (.bool b):=by rw[h]
theorem fj {W:World} {B:Nat} {a:Array Value} (h:∀o,W.cell? ⟨B,o,none⟩=a[o]?) (i:Nat) (hi:i<a.size) (v:Value):
  ∀o,(W.setCell ⟨B,i,none⟩ v).cell? ⟨B,o,none⟩=(a.setIfInBounds i v)[o]? :=by
 intro o;by_cases b:i=o
 ·subst b;rw[World.cell?_setCell_same W _ _ ((h i).trans (Array.getElem?_eq_getElem hi))];simp[hi]
 ·rw[World.cell?_setCell_other W _ _ _ (by intro e;cases e;exact b rfl),h o];simp[b]
theorem fV {W:World} {C:Nat} {a:Array Value} (h:∀o,W.cell? ⟨C,o,none⟩=a[o]?) (b:C<W.heap.size) (c:Obj):
  ∀o,(W.alloc c).cell? ⟨C,o,none⟩=a[o]? :=by
 intro o;rw[World.cell?_alloc_lt _ _ ⟨C,o,none⟩ b,h o]
theorem sq {W:World} {C:Nat} (h:∀o,W.frozen? ⟨C,o,none⟩=false) (a:C<W.heap.size) (b:Obj):
  ∀o,(W.alloc b).frozen? ⟨C,o,none⟩=false:=by
 intro o;rw[World.frozen?_alloc_old _ _ ⟨C,o,none⟩ (Nat.ne_of_lt a),h o]
