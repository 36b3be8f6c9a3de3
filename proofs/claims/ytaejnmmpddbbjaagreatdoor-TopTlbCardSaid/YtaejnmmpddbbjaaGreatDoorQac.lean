/- Qac -/
import Derived.BigQuiet
import Derived.Test.YtaejnmmpddbbjaaGreatDoorChecked
import Derived.WalkKit
import Derived.WalkSpells
import Derived.WalkLawsBesides
import Derived.Laws.EntriesVeiled
import Derived.Laws.BitsLemmas
import Derived.Laws.Bits64
import Derived.Test.YtaejnmmpddbbjaaGreatDoorProg
import Derived.LaidEql
import Derived.Stop.Asserts
import Derived.RowKitTokens
import Derived.Test.YtaejnmmpddbbjaaGreatDoorQab
namespace Go.Proofs.YtaejnmmpddbbjaaGreatDoor.Wd
open Go.RowKit Mem Bw Nums Mmu
structure RamIn (w:World) (v:Value) (zs:List Int):Prop where
 row:∃q b off cap,v=.slice q zs.length cap∧(0<zs.length→q=some ⟨b,off,none⟩)∧IntsAt w b off zs
 word:∀z∈zs,0≤z∧z<65536
 len:zs.length≤600
theorem RamIn.below {w w':World} {v:Value} {zs:List Int} (h:RamIn w v zs) (e:Below w.heap.size w w'):RamIn w' v zs:=
 ⟨by obtain⟨q,b,off,cap,a,c,d⟩:=h.row;exact⟨q,b,off,cap,a,c,d.below e⟩,h.word,h.len⟩
theorem framesOf_yes_o (v:Value) (zs:List Int) (w:World) (d:RamIn w v zs) (a:(zs.length:Int)%16=0) (h:(zs.length:Int)≤384):
  Calls Tryz.prog 130 #[v] w fun e w'=>e=.returned (.int .i64 ((zs.length:Int)/16))∧w=w':=by
 obtain⟨⟨q,b,off,cap,rfl,c,f⟩,_,hl⟩:=d;have g:¬(0<(zs.length:Int)%16):=by omega
 clear c f a;go_enter Tryz.func130,Tryz.ntmps130
 go_wp2_with fail
 go_ret
 exact⟨rfl,rfl⟩
theorem framesOf_no_o (v:Value) (zs:List Int) (w:World) (c:RamIn w v zs) (h:¬((zs.length:Int)%16=0∧(zs.length:Int)≤384)):
  Calls Tryz.prog 130 #[v] w fun e w'=>e=.returned (.int .i64 (-1))∧w=w':=by
 obtain⟨⟨q,b,off,cap,rfl,a,d⟩,_,hl⟩:=c;clear a d;by_cases f:0<(zs.length:Int)%16
 ·clear h;go_enter Tryz.func130,Tryz.ntmps130
  go_wp2_with fail
  go_ret
  exact⟨rfl,rfl⟩
 ·have g:384<(zs.length:Int):=by omega
  clear h;go_enter Tryz.func130,Tryz.ntmps130
  go_wp2_with fail
  go_ret
  exact⟨rfl,rfl⟩
set_option maxHeartbeats 2000000
theorem walked_any_o (v:Value) (zs:List Int) (s a:Int) (w:World) (B:RamIn w v zs):
  Calls Tryz.prog 81 #[v,.int .i64 s,.int .i64 a] w fun e w'=>e=.returned (.tuple #[.int .i64 (walkR zs s a).1,.bool (walkR zs s a).2.1,.int .i64 (walkR zs s a).2.2])∧w=w':=by
 have x:=hid B;obtain⟨⟨q,b,off,cap,rfl,j,i⟩,g,hl⟩:=B;have r:=hid (Isa.far_any a 4095 w);by_cases h:inb zs.length s a
 ·obtain⟨A,y,d1⟩:=idx1 h;have a0:0≤a:=by unfold inb at h;omega
  have a1:a<4096:=by unfold inb at h;omega
  have d:=hid (framesOf_yes_o _ zs w x (by unfold inb at h;omega) (by unfold inb at h;omega));have H:¬((zs.length:Int)/16<0):=by omega
  have J:¬(s<0):=by omega
  have K:¬((zs.length:Int)/16≤s):=by unfold inb at h;omega
  have n:Hid (decide (a<0∨4095<a)=false):=ay (by omega);have N:s<100:=by omega
  have m:(s*16+a/256).toNat<zs.length:=by omega
  have I:=j (by omega);subst I;have c1:=i _ m;have t:zs[(s*16+a/256).toNat]=e1 zs s a:=by unfold e1;rw[aa,ac m];rfl
  have w1:=g _ (aw m);rw[t] at c1 w1;obtain⟨C,D⟩:=w1;have i1:s*16+a/256<(zs.length:Int):=d1;have i0:0≤s*16+a/256:=by omega
  by_cases f:isE (e1 zs s a) (n16 zs)
  ·obtain⟨O,d2,L⟩:=idx2 h f;have o:(e1 zs s a%1024*16+a/16%16).toNat<zs.length:=by omega
   have c2:=i _ o;have z:zs[(e1 zs s a%1024*16+a/16%16).toNat]=e2 zs (e1 zs s a%1024) a:=by unfold e2;rw[aa,ac o];rfl
   have w2:=g _ (aw o);rw[z] at c2 w2;obtain⟨E,F⟩:=w2;have i2:0≤e1 zs s a%1024*16+a/16%16:=by omega
   have tn:¬(e1 zs s a%1024<0):=by omega
   have P:e1 zs s a%1024<1024:=by omega
   have p:=hid (entry_yes (e1 zs s a) ((zs.length:Int)/16) w C D f);by_cases l:isE (e2 zs (e1 zs s a%1024) a) (n16 zs)
   ·have u:=hid (entry_yes (e2 zs (e1 zs s a%1024) a) ((zs.length:Int)/16) w E F l);have c:=hid (walkR_yes h f l);have M:¬(e2 zs (e1 zs s a%1024) a%1024<0):=by omega
    have G:=hid (show (e2 zs (e1 zs s a%1024) a/16384%2==1)=decide (e2 zs (e1 zs s a%1024) a/16384%2=1) by rw[dF];simp);clear h f l m o y d1 d2 A t z j i g;go_enter Tryz.func81,Tryz.ntmps81
    go_wp2_with fail
    refine d.mono ?_;rintro e w' ⟨rfl,rfl⟩;go_wp2_with fail
    refine r.mono ?_;rintro e w' ⟨rfl,rfl⟩;rw[n.out];go_wp2_with fail
    refine p.mono ?_;rintro e w' ⟨rfl,rfl⟩;go_wp2_with fail
    refine u.mono ?_;rintro e w' ⟨rfl,rfl⟩;go_wp2_with fail
    go_ret3
    exact⟨by rw[c.out, ←G.out];rfl,rfl⟩
   ·have u:=hid (entry_no (e2 zs (e1 zs s a%1024) a) ((zs.length:Int)/16) w E F l);have c:=hid (walkR_no2 h f l);clear h f l m o y d1 d2 A t z j i g;go_enter Tryz.func81,Tryz.ntmps81
    go_wp2_with fail
    refine d.mono ?_;rintro e w' ⟨rfl,rfl⟩;go_wp2_with fail
    refine r.mono ?_;rintro e w' ⟨rfl,rfl⟩;rw[n.out];go_wp2_with fail
    refine p.mono ?_;rintro e w' ⟨rfl,rfl⟩;go_wp2_with fail
    refine u.mono ?_;rintro e w' ⟨rfl,rfl⟩;go_wp2_with fail
    go_ret3
    exact⟨by rw[c.out];rfl,rfl⟩
  ·have p:=hid (entry_no (e1 zs s a) ((zs.length:Int)/16) w C D f);have c:=hid (walkR_no1 h f);clear h f m y d1 A t j i g;go_enter Tryz.func81,Tryz.ntmps81
   go_wp2_with fail
   refine d.mono ?_;rintro e w' ⟨rfl,rfl⟩;go_wp2_with fail
   refine r.mono ?_;rintro e w' ⟨rfl,rfl⟩;rw[n.out];go_wp2_with fail
   refine p.mono ?_;rintro e w' ⟨rfl,rfl⟩;go_wp2_with fail
   go_ret3
   exact⟨by rw[c.out];rfl,rfl⟩
 ·have c:=hid (walkR_range h);by_cases k:(zs.length:Int)%16=0∧(zs.length:Int)≤384
  ·have d:=hid (framesOf_yes_o _ zs w x k.1 k.2);have H:¬((zs.length:Int)/16<0):=by omega
   by_cases J:s<0
   ·clear h k j i g;go_enter Tryz.func81,Tryz.ntmps81
    go_wp2_with fail
    refine d.mono ?_;rintro e w' ⟨rfl,rfl⟩;go_wp2_with fail
    go_ret3
    exact⟨by rw[c.out];rfl,rfl⟩
   ·by_cases K:(zs.length:Int)/16≤s
    ·clear h k j i g;go_enter Tryz.func81,Tryz.ntmps81
     go_wp2_with fail
     refine d.mono ?_;rintro e w' ⟨rfl,rfl⟩;go_wp2_with fail
     go_ret3
     exact⟨by rw[c.out];rfl,rfl⟩
    ·have n:Hid (decide (a<0∨4095<a)=true):=aF (by unfold inb at h;omega);clear h k j i g;go_enter Tryz.func81,Tryz.ntmps81
     go_wp2_with fail
     refine d.mono ?_;rintro e w' ⟨rfl,rfl⟩;go_wp2_with fail
     refine r.mono ?_;rintro e w' ⟨rfl,rfl⟩;rw[n.out];go_wp2_with fail
     go_ret3
     exact⟨by rw[c.out];rfl,rfl⟩
  ·have d:=hid (framesOf_no_o _ zs w x k);clear h k j i g;go_enter Tryz.func81,Tryz.ntmps81
   go_wp2_with fail
   refine d.mono ?_;rintro e w' ⟨rfl,rfl⟩;go_wp2_with fail
   go_ret3
   exact⟨by rw[c.out];rfl,rfl⟩
set_option maxHeartbeats 200000
def toldB (p:PW) (e:Ent):Bool:=isB p e.1 4&&decide (0≤e.2.1∧e.2.1≤255)&&((walkR p.ram e.1 (e.2.1*16)).2.2==0&&(walkR p.ram e.1 (e.2.1*16)).1==e.2.2.1&&(walkR p.ram e.1 (e.2.1*16)).2.1==e.2.2.2)
def slotB (p:PW) (n:Int):Bool:=decide (0≤n∧n≤(p.slots.length:Int) - 1)
def sumOf {α:Type} (f:α→Nat) (l:List α):Nat:=(l.map f).sum
theorem sum_next {α:Type} (f:α→Nat) {l:List α} {k:Nat} (h:k<l.length):sumOf f (l.take (k+1))=sumOf f (l.take k)+f l[k]:=by
 unfold sumOf;rw[bD h];simp only[dX,List.sum_append,bV,ep,eB,List.sum_nil,bz]
theorem sum_app {α:Type} (f:α→Nat) (a b:List α):sumOf f (a++b)=sumOf f a+sumOf f b:=by
 unfold sumOf;rw[dX,List.sum_append]
theorem sum_all {α:Type} (f:α→Nat) (l:List α):sumOf f (l.take l.length)=sumOf f l:=by rw[dg]
def one (x:Int) (z:Int):Nat:=if z=x then 1 else 0
def cn (x:Int) (zs:List Int):Nat:=sumOf (one x) zs
def cna (x:Int) (ls:List (List Int)):Nat:=sumOf (cn x) ls
def inB (x:Int) (zs:List Int):Bool:=decide (0<cn x zs)
theorem in_any (x:Value) (zs:List Int) (n:Int) (w:World) (s:IntsIn w x zs) (hl:zs.length≤1000):
  Calls Tryz.prog 42 #[.int .i64 n,x] w fun r w'=>r=.returned (.bool (inB n zs))∧w=w':=by
 obtain⟨q,b,off,cap,rfl,g,h⟩:=s;have A:(zs.length:Int)≤1000:=by omega
 have l:=hid g;have o:=hid h;clear g h;go_enter Tryz.func42,Tryz.ntmps42
 go_wp2_with fail
 go_loopw [5] (fun i wr=>∃k:Nat,k≤zs.length∧i=.int .i64 k∧Hid (sumOf (one n) (zs.take k)=0)∧Hid (w=wr)) (fun i _=>zs.length - (intOf i).toNat)
 case atStart=>exact⟨0,by omega,rfl,hid rfl,hid rfl⟩
 case round=>
  obtain⟨k,hk,rfl,d,m⟩:=hrel;obtain rfl:=m.out;by_cases f:k<zs.length
  ·have B:(k:Int)<(zs.length:Int):=by omega
   have p:=l.out (by omega);subst p;have c0:=o.out k f;have e:=hid (show sumOf (one n) (zs.take (k+1))=one n zs[k] by rw[sum_next _ f,d.out];omega);by_cases a:zs[k]=n
   ·have c:=hid (show inB n zs=true by
     refine aF ?_;have t:=e.out;have u:sumOf (one n) zs=sumOf (one n) (zs.take (k+1))+sumOf (one n) (zs.drop (k+1)):=by
      rw[←sum_app,List.take_append_drop]
     have v:one n zs[k]=1:=by unfold one;rw[ag a]
     unfold cn;omega)
    generalize zs[k]=z at c0 a;subst a;go_wp2_with fail
    go_ret
    exact⟨by rw[c.out];rfl,rfl⟩
   ·have c:=hid (show sumOf (one n) (zs.take (k+1))=0 by rw[e.out];unfold one;rw[ae a]);generalize zs[k]=z at c0 a;go_wp2_with fail
    exact⟨⟨k+1,by omega,by go_num,c,hid (by simp)⟩,by simp[intOf];omega⟩
  ·obtain rfl:k=zs.length:=by omega
   have y:¬((zs.length:Int)<(zs.length:Int)):=by omega
   have j:=hid (show inB n zs=false by
    refine ay ?_;have:=d.out;rw[sum_all] at this;unfold cn;omega)
   go_wp2_with fail
   go_ret
   exact⟨by rw[j.out];rfl,rfl⟩
structure LF (p:PW):Prop where
 k1:1≤p.kinds.length
 k2:p.kinds.length≤24
 c1:1≤p.cores.length
 c2:p.cores.length≤4
 d1:1≤p.doms.length
 d2:p.doms.length≤8
 ram:p.ram.length=p.kinds.length*16
 slots:p.slots.length=p.kinds.length*16
 tasks:p.tasks.length=p.kinds.length
 lines:p.lines.length=p.kinds.length
 bits:p.bits.length=p.kinds.length
 ready:p.ready.length=p.cores.length*4
 tlbs:p.tlbs.length=p.cores.length
def lfB (p:PW):Bool:=decide ((1≤(p.kinds.length:Int)∧(p.kinds.length:Int)≤24)∧(1≤(p.cores.length:Int)∧(p.cores.length:Int)≤4)∧(1≤(p.doms.length:Int)∧(p.doms.length:Int)≤8))
 &&((p.ram.length:Int)==(p.kinds.length:Int)*16&&(p.slots.length:Int)==(p.kinds.length:Int)*16)
 &&((p.tasks.length:Int)==(p.kinds.length:Int)&&(p.lines.length:Int)==(p.kinds.length:Int)&&(p.bits.length:Int)==(p.kinds.length:Int))
 &&((p.ready.length:Int)==(p.cores.length:Int)*4&&(p.tlbs.length:Int)==(p.cores.length:Int))
theorem lfB_in {p:PW} (h:lfB p=true):LF p:=by
 unfold lfB at h;simp only[am,aU,bp] at h;obtain⟨⟨⟨⟨⟨a,b⟩,⟨c,d⟩,⟨e,f⟩⟩,g,i⟩,⟨l,m⟩,n⟩,j,k⟩:=h;exact⟨by omega,by omega,by omega,by omega,by omega,by omega,by omega,by omega,by omega,by omega,by omega,by omega,by omega⟩
def clI (n:Int) (s:Nat→Int):Bool:=s 0==1&&decide (s 1≤n∧n≤s 1+s 2 - 1)
def cl (n:Int) (s:Nat→Int):Nat:=if clI n s then 1 else 0
def un (n:Int) (s:Nat→Int):Bool:=clI n s&&decide (s 1+s 3≤n)
def opn (n:Int) (s:Nat→Int):Bool:=s 0 !=0&&s 0 !=1&&s 1==n
def bfB (p:PW) (n kind:Int):Bool:=decide (1<sumOf (cl n) p.slots)||(kind !=0&&(!(p.slots.any (opn n))||p.slots.any (un n)))
structure KB (s:Nat→Int):Prop where
 b0:0≤s 1
 b1:s 1≤100
 l0:0≤s 2
 l1:s 2≤100
 m0:0≤s 3
 m1:s 3≤100
 l2:s 0≠0→1≤s 2
end Go.Proofs.YtaejnmmpddbbjaaGreatDoor.Wd
namespace Go.Proofs.YtaejnmmpddbbjaaGreatDoor
namespace KP
def fitsB (k b l m:Int):Bool:=
 if l<1∨24<l∨b<0∨24 - l<b then false
 else if k=1 then decide (0≤m∧m≤l) else decide (l=1∧m=0)
def badgeB (k g:Int):Bool:=
 if k=7∨k=8 then decide (0≤g∧g≤65535) else decide (g=0)
def chk (k b l m r g:Int):Int:=
 if k<0∨8<k then 3
 else if k=0 then (if b=0∧l=0∧m=0∧r=0∧g=0 then 0 else 2)
 else if fitsB k b l m=false then 2
 else if r<0∨7<r then 4
 else if badgeB k g=false then 2
 else 0
theorem chk_zero {k b l m r g:Int} (h:chk k b l m r g=0):
  0≤k∧k≤8∧0≤b∧b≤23∧0≤l∧l≤24∧0≤m∧m≤24∧0≤r∧r≤7∧0≤g∧g≤65535:=by
 unfold chk at h;split at h
 ·omega
 split at h
 ·split at h<;>omega
 split at h
 ·omega
 rename_i h1 h2 h3;split at h
 ·omega
 split at h
 ·omega
 rename_i h4 h5;simp only[Bool.not_eq_false] at h3 h5;unfold fitsB at h3;unfold badgeB at h5;split at h3
 ·simp at h3
 rename_i h6;have a:(0≤m∧m≤l)∨(l=1∧m=0):=by
  split at h3
  ·exact Or.inl (of_decide_eq_true h3)
  ·exact Or.inr (of_decide_eq_true h3)
 have c:(0≤g∧g≤65535)∨g=0:=by
  split at h5
  ·exact Or.inl (of_decide_eq_true h5)
  ·exact Or.inr (of_decide_eq_true h5)
 omega
theorem fitsB_iff (k b l m:Int):fitsB k b l m=true↔(1≤l∧l≤24∧0≤b∧b≤24 - l∧(k=1→0≤m∧m≤l)∧(k≠1→l=1∧m=0)):=by
 unfold fitsB;split
 ·simp;omega
 ·split<;>simp<;>omega
theorem badgeB_iff (k g:Int):badgeB k g=true↔(0≤g∧g≤65535∧(k≠7→k≠8→g=0)):=by
 unfold badgeB;split<;>simp<;>omega
theorem chk_2 {b l m r g:Int} (h:b=0∧l=0∧m=0∧r=0∧g=0):chk 0 b l m r g=0:=by unfold chk;simp[h]
theorem chk_3 {b l m r g:Int} (h:¬(b=0∧l=0∧m=0∧r=0∧g=0)):chk 0 b l m r g=2:=by unfold chk;rw[if_neg (by omega),if_pos rfl,if_neg h]
end KP
end Go.Proofs.YtaejnmmpddbbjaaGreatDoor
namespace Go.Proofs.YtaejnmmpddbbjaaGreatDoor
open Go.RowKit
theorem ret_bool {a b:Bool} (h:a=b):Ending.returned (.bool a)=.returned (.bool b):=by rw[h]
theorem cells_set {W:World} {B:Nat} {a:Array Value} (h:∀o,W.cell? ⟨B,o,none⟩=a[o]?) (i:Nat) (hi:i<a.size) (v:Value):
  ∀o,(W.setCell ⟨B,i,none⟩ v).cell? ⟨B,o,none⟩=(a.setIfInBounds i v)[o]? :=by
 intro o;by_cases b:i=o
 ·subst b;rw[World.cell?_setCell_same W _ _ ((h i).trans (Array.getElem?_eq_getElem hi))];simp[hi]
 ·rw[World.cell?_setCell_other W _ _ _ (by intro e;cases e;exact b rfl),h o];simp[b]
theorem cells_alloc {W:World} {C:Nat} {a:Array Value} (h:∀o,W.cell? ⟨C,o,none⟩=a[o]?) (b:C<W.heap.size) (c:Obj):
  ∀o,(W.alloc c).cell? ⟨C,o,none⟩=a[o]? :=by
 intro o;rw[World.cell?_alloc_lt _ _ ⟨C,o,none⟩ b,h o]
theorem froz_alloc {W:World} {C:Nat} (h:∀o,W.frozen? ⟨C,o,none⟩=false) (a:C<W.heap.size) (b:Obj):
  ∀o,(W.alloc b).frozen? ⟨C,o,none⟩=false:=by
 intro o;rw[World.frozen?_alloc_old _ _ ⟨C,o,none⟩ (Nat.ne_of_lt a),h o]
end Go.Proofs.YtaejnmmpddbbjaaGreatDoor
namespace Go.Proofs.YtaejnmmpddbbjaaGreatDoor
open Go.RowKit Go.Extern.Stop Go.Stop Go.Extern
theorem rlm (z:Sem Value) (f:TypeId→Addr→Nat→Nat→Sem Value) (v:Value):
  ReflectliteValue.method z f #[v]=(do match ←ReflectliteValue.parts v with|none=>z|some (t,a,fl)=>f t a fl (fl%32)):=rfl
theorem methodKind (h:Value) (w:World):(Go.method 347 150 (.agg #[h]) "Kind").run Tryz.prog w=.ok (199,h) w:=by kernel_rfl
theorem methodElem (h:Value) (w:World):(Go.method 347 150 (.agg #[h]) "Elem").run Tryz.prog w=.ok (211,.agg #[h]) w:=by kernel_rfl
theorem methodImplements (h:Value) (w:World):(Go.method 347 150 (.agg #[h]) "Implements").run Tryz.prog w=.ok (212,.agg #[h]) w:=by kernel_rfl
theorem methodAssignableTo (h:Value) (w:World):(Go.method 347 150 (.agg #[h]) "AssignableTo").run Tryz.prog w=.ok (209,.agg #[h]) w:=by kernel_rfl
theorem assignEF (w:World):(ReflectliteType.relation "AssignableTo" ReflectliteType.assignableTo #[.agg #[.pointer (some ⟨3,36,none⟩)],.iface 150 (.agg #[.pointer (some ⟨3,59,none⟩)])]).run Tryz.prog w=.ok (.bool false) w:=by kernel_rfl
theorem valueOfP_F (t:Addr) (w:World):(ReflectliteValue.unpack (.iface 61 (.pointer (some t)))).run Tryz.prog w
  =.ok (.agg #[.pointer (some ⟨3,61,none⟩),.pointer (some ⟨w.heap.size,0,none⟩),.int .u64 150]) (w.alloc (.cells #[.pointer (some t)] 61)):=by kernel_rfl
theorem typeP_F (a:Addr) (w:World):(ReflectliteValue.methodAny (ReflectliteValue.valueError "reflectlite.Value.Type" 0) (fun t _ _ _=>ReflectliteType.toType t) #[.agg #[.pointer (some ⟨3,61,none⟩),.pointer (some a),.int .u64 150]]).run Tryz.prog w
  =.ok (.iface 150 (.agg #[.pointer (some ⟨3,61,none⟩)])) w:=by kernel_rfl
theorem kindP_F (w:World):((ReflectliteType.abiMethod fun t=>(fun a:Nat=>Value.int IntKind.u8 (a:Int))<$>Rtype.kind t) #[.pointer (some ⟨3,61,none⟩)]).run Tryz.prog w=.ok (.int .u8 22) w:=by kernel_rfl
theorem kindE_F (w:World):((ReflectliteType.abiMethod fun t=>(fun a:Nat=>Value.int IntKind.u8 (a:Int))<$>Rtype.kind t) #[.pointer (some ⟨3,59,none⟩)]).run Tryz.prog w=.ok (.int .u8 22) w:=by kernel_rfl
theorem partsP_F (a:Addr) (w:World):(ReflectliteValue.parts (.agg #[.pointer (some ⟨3,61,none⟩),.pointer (some a),.int .u64 150])).run Tryz.prog w=.ok (some (61,a,150)) w:=by kernel_rfl
theorem isNilP_F (a p:Addr) (W:World) (b:W.cell? a=some (.pointer (some p))):
  (ReflectliteValue.method (ReflectliteValue.valueError "reflectlite.Value.IsNil" 0) ReflectliteValue.isNil #[.agg #[.pointer (some ⟨3,61,none⟩),.pointer (some a),.int .u64 150]]).run Tryz.prog W=.ok (.bool false) W:=by
 rw[rlm];simp only[Sem.run_bind,partsP_F,Result.andThen];simp[ReflectliteValue.isNil,loadVar,isAgg,underlying,Tryz.underlying61,b,Result.andThen]
theorem elemP_F (w:World):(ReflectliteType.method ReflectliteType.elem #[.agg #[.pointer (some ⟨3,61,none⟩)]]).run Tryz.prog w=.ok (.iface 150 (.agg #[.pointer (some ⟨3,59,none⟩)])) w:=by kernel_rfl
theorem implE_F (w:World):(ReflectliteType.relation "Implements" ReflectliteType.implements_ #[.agg #[.pointer (some ⟨3,59,none⟩)],.iface 150 (.agg #[.pointer (some ⟨3,33,none⟩)])]).run Tryz.prog w=.ok (.bool true) w:=by kernel_rfl
theorem valueOfP_E (t:Addr) (w:World):(ReflectliteValue.unpack (.iface 64 (.pointer (some t)))).run Tryz.prog w
  =.ok (.agg #[.pointer (some ⟨3,64,none⟩),.pointer (some ⟨w.heap.size,0,none⟩),.int .u64 150]) (w.alloc (.cells #[.pointer (some t)] 64)):=by kernel_rfl
theorem typeP_E (a:Addr) (w:World):(ReflectliteValue.methodAny (ReflectliteValue.valueError "reflectlite.Value.Type" 0) (fun t _ _ _=>ReflectliteType.toType t) #[.agg #[.pointer (some ⟨3,64,none⟩),.pointer (some a),.int .u64 150]]).run Tryz.prog w
  =.ok (.iface 150 (.agg #[.pointer (some ⟨3,64,none⟩)])) w:=by kernel_rfl
theorem kindP_E (w:World):((ReflectliteType.abiMethod fun t=>(fun a:Nat=>Value.int IntKind.u8 (a:Int))<$>Rtype.kind t) #[.pointer (some ⟨3,64,none⟩)]).run Tryz.prog w=.ok (.int .u8 22) w:=by kernel_rfl
theorem kindE_E (w:World):((ReflectliteType.abiMethod fun t=>(fun a:Nat=>Value.int IntKind.u8 (a:Int))<$>Rtype.kind t) #[.pointer (some ⟨3,36,none⟩)]).run Tryz.prog w=.ok (.int .u8 2) w:=by kernel_rfl
theorem partsP_E (a:Addr) (w:World):(ReflectliteValue.parts (.agg #[.pointer (some ⟨3,64,none⟩),.pointer (some a),.int .u64 150])).run Tryz.prog w=.ok (some (64,a,150)) w:=by kernel_rfl
theorem isNilP_E (a p:Addr) (W:World) (b:W.cell? a=some (.pointer (some p))):
  (ReflectliteValue.method (ReflectliteValue.valueError "reflectlite.Value.IsNil" 0) ReflectliteValue.isNil #[.agg #[.pointer (some ⟨3,64,none⟩),.pointer (some a),.int .u64 150]]).run Tryz.prog W=.ok (.bool false) W:=by
 rw[rlm];simp only[Sem.run_bind,partsP_E,Result.andThen];simp[ReflectliteValue.isNil,loadVar,isAgg,underlying,Tryz.underlying64,b,Result.andThen]
theorem elemP_E (w:World):(ReflectliteType.method ReflectliteType.elem #[.agg #[.pointer (some ⟨3,64,none⟩)]]).run Tryz.prog w=.ok (.iface 150 (.agg #[.pointer (some ⟨3,36,none⟩)])) w:=by kernel_rfl
theorem implE_E (w:World):(ReflectliteType.relation "Implements" ReflectliteType.implements_ #[.agg #[.pointer (some ⟨3,36,none⟩)],.iface 150 (.agg #[.pointer (some ⟨3,33,none⟩)])]).run Tryz.prog w=.ok (.bool true) w:=by kernel_rfl
theorem typeOfE_E (v:Value) (w:World):(ReflectliteType.typeOf #[.iface 36 v]).run Tryz.prog w=.ok (.iface 150 (.agg #[.pointer (some ⟨3,36,none⟩)])) w:=by kernel_rfl
theorem assignE_E (w:World):(ReflectliteType.relation "AssignableTo" ReflectliteType.assignableTo #[.agg #[.pointer (some ⟨3,36,none⟩)],.iface 150 (.agg #[.pointer (some ⟨3,36,none⟩)])]).run Tryz.prog w=.ok (.bool true) w:=by kernel_rfl
theorem elemOf_E (w:World):(Rtype.elem? 64).run Tryz.prog w=.ok (some 36) w:=by kernel_rfl
theorem mkE_E (p:Addr) (w:World):(ReflectliteValue.mk 36 p ReflectliteValue.flagAddr).run Tryz.prog w=.ok (.agg #[.pointer (some ⟨3,36,none⟩),.pointer (some p),.int .u64 386]) w:=by kernel_rfl
theorem elemV_E (a p:Addr) (W:World) (b:W.cell? a=some (.pointer (some p))):
  (ReflectliteValue.method (ReflectliteValue.valueError "reflectlite.Value.Elem" 0) ReflectliteValue.elem #[.agg #[.pointer (some ⟨3,64,none⟩),.pointer (some a),.int .u64 150]]).run Tryz.prog W
   =.ok (.agg #[.pointer (some ⟨3,36,none⟩),.pointer (some p),.int .u64 386]) W:=by
 rw[rlm];simp only[Sem.run_bind,partsP_E,Result.andThen];simp[ReflectliteValue.elem,loadVar,isAgg,underlying,Tryz.underlying64,b,Result.andThen,elemOf_E,mkE_E]
theorem partsA_E (a:Addr) (w:World):(ReflectliteValue.parts (.agg #[.pointer (some ⟨3,36,none⟩),.pointer (some a),.int .u64 386])).run Tryz.prog w=.ok (some (36,a,386)) w:=by kernel_rfl
theorem partsE_E (a:Addr) (w:World):(ReflectliteValue.parts (.agg #[.pointer (some ⟨3,36,none⟩),.pointer (some a),.int .u64 130])).run Tryz.prog w=.ok (some (36,a,130)) w:=by kernel_rfl
theorem directE_E (w:World):(Rtype.directlyAssignable 36 36).run Tryz.prog w=.ok true w:=by kernel_rfl
theorem valueOfE_E (n:Int) (w:World):(ReflectliteValue.unpack (.iface 36 (.int .i64 n))).run Tryz.prog w
  =.ok (.agg #[.pointer (some ⟨3,36,none⟩),.pointer (some ⟨w.heap.size,0,none⟩),.int .u64 130]) (w.alloc (.cells #[.int .i64 n] 36)):=by kernel_rfl
theorem setE_E (a b:Addr) (n:Int) (old:Value) (W:World) (c:W.cell? b=some (.int .i64 n)) (e:W.cell? a=some old) (d:W.frozen? a=false):
  (ReflectliteValue.set #[.agg #[.pointer (some ⟨3,36,none⟩),.pointer (some a),.int .u64 386],.agg #[.pointer (some ⟨3,36,none⟩),.pointer (some b),.int .u64 130]]).run Tryz.prog W
   =.ok (.tuple #[]) (W.setCell a (.int .i64 n)):=by
 show (ReflectliteValue.parts (.agg #[.pointer (some ⟨3,36,none⟩),.pointer (some a),.int .u64 386])>>=fun f=>ReflectliteValue.parts (.agg #[.pointer (some ⟨3,36,none⟩),.pointer (some b),.int .u64 130])>>=fun g=>_).run _ _=_
 simp only[Sem.run_bind,partsA_E,partsE_E,Result.andThen];simp[ReflectliteValue.flagAddr,loadVar,isAgg,underlying,Tryz.underlying36,c,Result.andThen,directE_E,storeVar,Value.cells,storeCells,Addr.add];rw[run_store Tryz.prog W a _ _ (by rfl)];simp[e,d]
theorem noAs_E (v:Value) (a:TypeId) (w:World):(Instr.typeAssert (.iface 36 v) a 155 true).run Tryz.prog w=.ok (.tuple #[.nilIface,.bool false]) w:=run_typeAssert_lacksB Tryz.underlying155 (by kernel_rfl) (by kernel_rfl) v a w
theorem noUn_E (v:Value) (a:TypeId) (w:World):(Instr.typeAssert (.iface 36 v) a 158 true).run Tryz.prog w=.ok (.tuple #[.nilIface,.bool false]) w:=run_typeAssert_lacksB Tryz.underlying158 (by kernel_rfl) (by kernel_rfl) v a w
theorem noUns_E (v:Value) (a:TypeId) (w:World):(Instr.typeAssert (.iface 36 v) a 160 true).run Tryz.prog w=.ok (.tuple #[.nilIface,.bool false]) w:=run_typeAssert_lacksB Tryz.underlying160 (by kernel_rfl) (by kernel_rfl) v a w
set_option maxHeartbeats 4000000
theorem as_F_errno (n:Int) (t:Addr) (w:World) (a:w.cell? ⟨0,0,none⟩=some (.iface 150 (.agg #[.pointer (some ⟨3,33,none⟩)]))):
  Calls Tryz.prog 23 #[.iface 36 (.int .i64 n),.iface 61 (.pointer (some t))] w fun c w'=>c=.returned (.bool false)∧Below w.heap.size w w':=by
 have v:= @run_callFunc_extern Tryz.prog 56 _ (fun b=>ReflectliteValue.unpack (b.getD 0 (.tuple #[]))) Tryz.func56 (by kernel_rfl) (by kernel_rfl) (by kernel_rfl) (by kernel_rfl);have x:= @run_callFunc_extern Tryz.prog 57 _ (ReflectliteValue.methodAny (ReflectliteValue.valueError "reflectlite.Value.Type" 0) (fun t _ _ _=>ReflectliteType.toType t)) Tryz.func57 (by kernel_rfl) (by kernel_rfl) (by kernel_rfl) (by kernel_rfl);have y:= @run_callFunc_extern Tryz.prog 58 _ (ReflectliteValue.method (ReflectliteValue.valueError "reflectlite.Value.IsNil" 0) ReflectliteValue.isNil) Tryz.func58 (by kernel_rfl) (by kernel_rfl) (by kernel_rfl) (by kernel_rfl);have z:= @run_callFunc_extern Tryz.prog 199 _ (ReflectliteType.abiMethod fun t=>do pure (.int .u8 (←Rtype.kind t))) Tryz.func199 (by kernel_rfl) (by kernel_rfl) (by kernel_rfl) (by kernel_rfl);have A:= @run_callFunc_extern Tryz.prog 211 _ (ReflectliteType.method ReflectliteType.elem) Tryz.func211 (by kernel_rfl) (by kernel_rfl) (by kernel_rfl) (by kernel_rfl);have B:= @run_callFunc_extern Tryz.prog 212 _ (ReflectliteType.relation "Implements" ReflectliteType.implements_) Tryz.func212 (by kernel_rfl) (by kernel_rfl) (by kernel_rfl) (by kernel_rfl);have C:= @run_callFunc_extern Tryz.prog 95 _ (ReflectliteType.typeOf) Tryz.func95 (by kernel_rfl) (by kernel_rfl) (by kernel_rfl) (by kernel_rfl);have D:= @run_callFunc_extern Tryz.prog 209 _ (ReflectliteType.relation "AssignableTo" ReflectliteType.assignableTo) Tryz.func209 (by kernel_rfl) (by kernel_rfl) (by kernel_rfl) (by kernel_rfl);have m:=methodKind;have k:=methodElem;have l:=methodImplements;have j:=methodAssignableTo;have u:=valueOfP_F;have s:=typeP_F;have i:=kindP_F;have h:=kindE_F;have e:=elemP_F;have g:=implE_F;have o:=isNilP_F ⟨w.heap.size,0,none⟩ t ((w.alloc (.cells #[.pointer (some t)] 61)).alloc (.cells #[.pointer (some ⟨3,61,none⟩),.pointer (some ⟨w.heap.size,0,none⟩),.int .u64 150] 102)) (by simp);have d:0<w.heap.size:=World.block_lt_of_cell? _ _ a;have f:((w.alloc (.cells #[.pointer (some t)] 61)).alloc (.cells #[.pointer (some ⟨3,61,none⟩),.pointer (some ⟨w.heap.size,0,none⟩),.int .u64 150] 102)).cell? ⟨0,0,none⟩=some (.iface 150 (.agg #[.pointer (some ⟨3,33,none⟩)])):=by
  rw[World.cell?_alloc_lt _ _ ⟨0,0,none⟩ (by simp<;>omega),World.cell?_alloc_lt _ _ ⟨0,0,none⟩ d];exact a
 have r:=typeOfE_E;have a1:=assignEF;have q1:=noAs_E;have p:=noUn_E;have q:=noUns_E;go_enter Tryz.func23,Tryz.ntmps23
 go_wp2
 refine wp_loop_rounds 1 ?_;rw[rounds_succ]
 go_wp2
 go_ret
 exact⟨rfl,(((Below.refl _ _).alloc (Nat.le_refl _) _).alloc (by simp) _).alloc (by simp<;>omega) _⟩
theorem as_E_errno (n:Int) (t:Addr) (old:Value) (w:World) (a:w.cell? ⟨0,0,none⟩=some (.iface 150 (.agg #[.pointer (some ⟨3,33,none⟩)]))) (b:w.cell? t=some old) (f:w.frozen? t=false):
  Calls Tryz.prog 23 #[.iface 36 (.int .i64 n),.iface 64 (.pointer (some t))] w fun e w'=>e=.returned (.bool true)∧w'=((((w.alloc (.cells #[.pointer (some t)] 64)).alloc (.cells #[.pointer (some ⟨3,64,none⟩),.pointer (some ⟨w.heap.size,0,none⟩),.int .u64 150] 102)).alloc (.cells #[.pointer (some ⟨3,64,none⟩),.pointer (some ⟨w.heap.size,0,none⟩),.int .u64 150] 102)).alloc (.cells #[.int .i64 n] 36)).setCell t (.int .i64 n):=by
 have y:= @run_callFunc_extern Tryz.prog 56 _ (fun d=>ReflectliteValue.unpack (d.getD 0 (.tuple #[]))) Tryz.func56 (by kernel_rfl) (by kernel_rfl) (by kernel_rfl) (by kernel_rfl);have A:= @run_callFunc_extern Tryz.prog 57 _ (ReflectliteValue.methodAny (ReflectliteValue.valueError "reflectlite.Value.Type" 0) (fun t _ _ _=>ReflectliteType.toType t)) Tryz.func57 (by kernel_rfl) (by kernel_rfl) (by kernel_rfl) (by kernel_rfl);have B:= @run_callFunc_extern Tryz.prog 58 _ (ReflectliteValue.method (ReflectliteValue.valueError "reflectlite.Value.IsNil" 0) ReflectliteValue.isNil) Tryz.func58 (by kernel_rfl) (by kernel_rfl) (by kernel_rfl) (by kernel_rfl);have C:= @run_callFunc_extern Tryz.prog 199 _ (ReflectliteType.abiMethod fun t=>do pure (.int .u8 (←Rtype.kind t))) Tryz.func199 (by kernel_rfl) (by kernel_rfl) (by kernel_rfl) (by kernel_rfl);have D:= @run_callFunc_extern Tryz.prog 211 _ (ReflectliteType.method ReflectliteType.elem) Tryz.func211 (by kernel_rfl) (by kernel_rfl) (by kernel_rfl) (by kernel_rfl);have E:= @run_callFunc_extern Tryz.prog 212 _ (ReflectliteType.relation "Implements" ReflectliteType.implements_) Tryz.func212 (by kernel_rfl) (by kernel_rfl) (by kernel_rfl) (by kernel_rfl);have F:= @run_callFunc_extern Tryz.prog 95 _ (ReflectliteType.typeOf) Tryz.func95 (by kernel_rfl) (by kernel_rfl) (by kernel_rfl) (by kernel_rfl);have G:= @run_callFunc_extern Tryz.prog 209 _ (ReflectliteType.relation "AssignableTo" ReflectliteType.assignableTo) Tryz.func209 (by kernel_rfl) (by kernel_rfl) (by kernel_rfl) (by kernel_rfl);have r:=methodKind;have p:=methodElem;have q:=methodImplements;have o:=methodAssignableTo;have x:=valueOfP_E;have v:=typeP_E;have m:=kindP_E;have l:=kindE_E;have h:=elemP_E;have k:=implE_E;have s:=isNilP_E ⟨w.heap.size,0,none⟩ t ((w.alloc (.cells #[.pointer (some t)] 64)).alloc (.cells #[.pointer (some ⟨3,64,none⟩),.pointer (some ⟨w.heap.size,0,none⟩),.int .u64 150] 102)) (by simp);have g:0<w.heap.size:=World.block_lt_of_cell? _ _ a;have j:((w.alloc (.cells #[.pointer (some t)] 64)).alloc (.cells #[.pointer (some ⟨3,64,none⟩),.pointer (some ⟨w.heap.size,0,none⟩),.int .u64 150] 102)).cell? ⟨0,0,none⟩=some (.iface 150 (.agg #[.pointer (some ⟨3,33,none⟩)])):=by
  rw[World.cell?_alloc_lt _ _ ⟨0,0,none⟩ (by simp<;>omega),World.cell?_alloc_lt _ _ ⟨0,0,none⟩ g];exact a
 have H:= @run_callFunc_extern Tryz.prog 96 _ (ReflectliteValue.method (ReflectliteValue.valueError "reflectlite.Value.Elem" 0) ReflectliteValue.elem) Tryz.func96 (by kernel_rfl) (by kernel_rfl) (by kernel_rfl) (by kernel_rfl);have z:= @run_callFunc_extern Tryz.prog 97 _ (ReflectliteValue.set) Tryz.func97 (by kernel_rfl) (by kernel_rfl) (by kernel_rfl) (by kernel_rfl);have u:=typeOfE_E;have a1:=assignE_E;have v1:=valueOfE_E;have c:t.block<w.heap.size:=World.block_lt_of_cell? _ _ b;have i:=elemV_E ⟨w.heap.size,0,none⟩ t (((w.alloc (.cells #[.pointer (some t)] 64)).alloc (.cells #[.pointer (some ⟨3,64,none⟩),.pointer (some ⟨w.heap.size,0,none⟩),.int .u64 150] 102)).alloc (.cells #[.pointer (some ⟨3,64,none⟩),.pointer (some ⟨w.heap.size,0,none⟩),.int .u64 150] 102)) (by rw[World.cell?_alloc_lt _ _ ⟨w.heap.size,0,none⟩ (by simp<;>omega)];simp);have st:=setE_E t ⟨w.heap.size+1+1+1,0,none⟩ n old ((((w.alloc (.cells #[.pointer (some t)] 64)).alloc (.cells #[.pointer (some ⟨3,64,none⟩),.pointer (some ⟨w.heap.size,0,none⟩),.int .u64 150] 102)).alloc (.cells #[.pointer (some ⟨3,64,none⟩),.pointer (some ⟨w.heap.size,0,none⟩),.int .u64 150] 102)).alloc (.cells #[.int .i64 n] 36))
  (by rw[World.cell?_alloc_at _ _ _ _ (by simp)];rfl)
  (by rw[World.cell?_alloc_lt _ _ t (by simp<;>omega),World.cell?_alloc_lt _ _ t (by simp<;>omega),World.cell?_alloc_lt _ _ t (by simp<;>omega),World.cell?_alloc_lt _ _ t c];exact b)
  (by rw[World.frozen?_alloc_old _ _ t (by simp<;>omega),World.frozen?_alloc_old _ _ t (by simp<;>omega),World.frozen?_alloc_old _ _ t (by simp<;>omega),World.frozen?_alloc_old _ _ t (Nat.ne_of_lt c)];exact f)
 go_enter Tryz.func23,Tryz.ntmps23
 go_wp2
 refine wp_loop_rounds 1 ?_;rw[rounds_succ]
 go_wp2
 go_ret
 exact⟨rfl,rfl⟩
set_option maxHeartbeats 200000
def ETok (w:World):Prop:=w.cell? ⟨0,0,none⟩=some (.iface 150 (.agg #[.pointer (some ⟨3,33,none⟩)]))
theorem ETok.lt {w:World} (h:ETok w):0<w.heap.size:=World.block_lt_of_cell? _ _ h
theorem ETok.below {w w':World} (h:ETok w) (a:Below w.heap.size w w'):ETok w':=(a.cell (p:=⟨0,0,none⟩) h.lt).trans h
theorem ETok.alloc {w:World} (h:ETok w) (o:Obj):ETok (w.alloc o):=(World.cell?_alloc_lt _ _ ⟨0,0,none⟩ h.lt).trans h
theorem bal {w w':World} (h:Below w.heap.size w w') (o:Obj):Below w.heap.size w (w'.alloc o):=h.alloc h.size o
theorem btr {w w1 w2:World} (h:Below w.heap.size w w1) (a:Below w1.heap.size w1 w2):Below w.heap.size w w2:=h.trans (a.mono h.size)
theorem tell_nil (w:World):Calls Tryz.prog 8 #[.nilIface] w fun e w'=>e=.returned (.tuple #[.int .i64 0,.int .i64 (-1)])∧Below w.heap.size w w':=by
 go_enter Tryz.func8,Tryz.ntmps8
 go_wp2
 go_ret2
 exact⟨rfl,Below.refl _ _⟩
set_option maxHeartbeats 1000000
theorem tell_errno (n:Int) (w:World) (c:ETok w):Calls Tryz.prog 8 #[.iface 36 (.int .i64 n)] w fun e w'=>e=.returned (.tuple #[.int .i64 n,.int .i64 (-1)])∧Below w.heap.size w w':=by
 have a:Hid (ETok w):=c;clear c;go_enter Tryz.func8,Tryz.ntmps8
 go_wp2_with fail
 refine (as_F_errno n _ _ (a.alloc _)).mono ?_;rintro e w1 ⟨rfl,b⟩;go_wp2_with fail
 have d:ETok w1:=(a.alloc _).below b;refine (as_E_errno n _ (.int .i64 0) _ (d.alloc _) (by simp) (by simp)).mono ?_;rintro e w2 ⟨rfl,rfl⟩;go_wp2_with fail
 go_ret2
 exact⟨rfl,bal (bal (bal (bal (bal (btr (bal (Below.refl _ _) _) b) _) _) _) _) _⟩
end Go.Proofs.YtaejnmmpddbbjaaGreatDoor
