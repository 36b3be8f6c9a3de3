/- Qaa -/
import Derived.WalkKit
import Derived.Laws.BitsLemmas
import Derived.OrdersHeld
import Derived.WalkSpells
import Derived.WalkLawsBesides
import Derived.Test.YtaejnmmpddbbjaaGreatDoorChecked
import Derived.Below
import Derived.Deep.QuietTactic
import Derived.BigQuiet
import Derived.OwnWalk
import Derived.Laws.OwnMore
set_option maxRecDepth 100000
set_option maxHeartbeats 16000000
namespace Go.Proofs.YtaejnmmpddbbjaaGreatDoor
namespace Bw
open Go.RowKit
theorem DU (n:Int) (i:Nat) (hi:i<=62):bits .and .i64 n ((2 ^ i - 1:Nat):Int)=n%((2 ^ i:Nat):Int):=by
 have d:2 ^ i<=2 ^ 62:=Nat.pow_le_pow_right (by decide) hi;have j:=Nat.two_pow_pos i;have c:(BitVec.ofInt 64 ((2 ^ i - 1:Nat):Int)).toNat=2 ^ i - 1:=by
  rw[BitVec.ofInt_natCast,BitVec.toNat_ofNat];exact Nat.mod_eq_of_lt (by have:(2:Nat) ^ 62<2 ^ 64:=(by decide);omega)
 have key:(BitVec.ofInt 64 n&&& BitVec.ofInt 64 ((2 ^ i - 1:Nat):Int)).toNat=(n%((2 ^ 64:Nat):Int)).toNat%2 ^ i:=by
  rw[BitVec.toNat_and,BitVec.toNat_ofInt,c,Nat.and_two_pow_sub_one_eq_mod]
 show IntKind.i64.wrap ((BitVec.ofInt 64 n&&& BitVec.ofInt 64 ((2 ^ i - 1:Nat):Int)).toNat:Nat)=n%((2 ^ i:Nat):Int)
 have b:((2 ^ i:Nat):Int) ∣ ((2 ^ 64:Nat):Int):=by
  rw[Int.natCast_dvd_natCast];exact Nat.pow_dvd_pow 2 (by omega)
 have a:(((n%((2 ^ 64:Nat):Int)).toNat%2 ^ i:Nat):Int)=n%((2 ^ i:Nat):Int):=by
  rw[Int.natCast_emod,Int.toNat_of_nonneg (Int.emod_nonneg _ (by decide)),Int.emod_emod_of_dvd _ b]
 rw[key,IntKind.wrap_i64,a];have e:0<=n%((2 ^ i:Nat):Int):=Int.emod_nonneg _ (by omega);have f:n%((2 ^ i:Nat):Int)<((2 ^ i:Nat):Int):=Int.emod_lt_of_pos _ (by omega);have g:=Int.ofNat_le.2 d;have h:((2 ^ 62:Nat):Int)=4611686018427387904:=by decide
 omega
theorem uo (n:Int):bits .and .i64 n 1023=n%1024:=DU n 10 (by decide)
theorem lV (n:Int) (a:0<=n) (b:n<2 ^ 62):IntKind.i64.wrap n=n:=by
 rw[IntKind.wrap_i64];have:(2:Int) ^ 62=4611686018427387904:=by decide
 omega
theorem _root_.Go.Proofs.YtaejnmmpddbbjaaGreatDoor.bZ:type_of% @lV:= @lV
def bw (o:Int) (a b:Nat):Nat:=if o=6 then a&&& b else if o=7 then a|||b else a ^^^ b
theorem Ct {a:Nat} (h:a<65536):a<2 ^ 62:=Nat.lt_of_lt_of_le h (by decide)
theorem sY (a b:Nat) (c:a<65536) (d:b<65536):bits .and .i64 (a:Int) (b:Int)=((a&&& b:Nat):Int):=
 (bits_nat .i64 62 (by decide) bZ a b (Ct c) (Ct d)).1
theorem xR (a b:Nat) (c:a<65536) (d:b<65536):bits .or .i64 (a:Int) (b:Int)=((a|||b:Nat):Int):=
 (bits_nat .i64 62 (by decide) bZ a b (Ct c) (Ct d)).2
theorem vC (o:Int) (a b:Nat) (d:a<65536) (c:b<65536):bw o a b<65536:=by
 unfold bw;split
 ·exact Nat.and_lt_two_pow (n:=16) a c
 split
 ·exact Nat.or_lt_two_pow (n:=16) d c
 ·exact Nat.xor_lt_two_pow (n:=16) d c
def bt (a k:Nat):Nat:=a/2 ^ k%2
theorem vB (a k:Nat):bt a k<=1:=by unfold bt;omega
theorem iE (a k:Nat):a.testBit k=decide (bt a k=1):=by rw[Nat.testBit_eq_decide_div_mod_eq];rfl
def hit (o:Int) (a b k:Nat):Bool:=decide (o=6∧bt a k+bt b k=2∨o=7∧0<bt a k+bt b k∨o=8∧bt a k+bt b k=1)
theorem yu (o:Int) (a b k:Nat) (f:o=6∨o=7∨o=8):(bw o a b).testBit k=hit o a b k:=by
 have g:=vB a k;have h:=vB b k;rcases f with rfl|rfl|rfl
 ·have e:bw 6 a b=a&&& b:=rfl;rw[e,Nat.testBit_and,iE,iE];unfold hit;rw[Bool.eq_iff_iff];simp;omega
 ·have e:bw 7 a b=a|||b:=rfl
  rw[e,Nat.testBit_or,iE,iE];unfold hit;rw[Bool.eq_iff_iff];simp;omega
 ·have e:bw 8 a b=a ^^^ b:=rfl;rw[e,Nat.testBit_xor,iE,iE];unfold hit;rw[Bool.eq_iff_iff];have c:bt a k=0∨bt a k=1:=by omega
  have d:bt b k=0∨bt b k=1:=by omega
  rcases c with c|c<;>rcases d with d|d<;>simp[c,d]
theorem yt (o:Int) (a b k:Nat) (d:o=6∨o=7∨o=8):bw o a b%2 ^ (k+1)=bw o a b%2 ^ k+if hit o a b k=true then 2 ^ k else 0:=by
 have h:=iE (bw o a b) k;rw[yu o a b k d] at h;have e:=vB (bw o a b) k;rw[Nat.mod_pow_succ,show bw o a b/2 ^ k%2=bt (bw o a b) k from rfl];rw[h];have c:bt (bw o a b) k=0∨bt (bw o a b) k=1:=by omega
 rcases c with c|c<;>simp[c]
theorem sZ (w:Nat) (i:Nat):w&&& 2 ^ i=bt w i*2 ^ i:=by
 have:=vB w i;have c:=iE w i;have a:bt w i=0∨bt w i=1:=by omega
 apply Nat.eq_of_testBit_eq;intro j;rw[Nat.testBit_and,Nat.testBit_two_pow];by_cases b:i=j
 ·subst b;rcases a with a|a<;>rw[c]<;>simp[a]
 ·rcases a with a|a<;>simp[a,b]
theorem CD (w:Nat) (h:w<65536):bits .and .i64 (w:Int) 32768=((w/32768%2*32768:Nat):Int):=by
 rw[show (32768:Int)=((2 ^ 15:Nat):Int) from by decide,sY w _ h (by decide),sZ];rfl
theorem CC (w:Nat) (h:w<65536):bits .and .i64 (w:Int) 16384=((w/16384%2*16384:Nat):Int):=by
 rw[show (16384:Int)=((2 ^ 14:Nat):Int) from by decide,sY w _ h (by decide),sZ];rfl
end Bw
namespace Mem
open Go.RowKit
theorem jD {α:Type} (l:List α) (i:Nat) (a:α):l.toArray.setIfInBounds i a=(l.set i a).toArray:=List.setIfInBounds_toArray ..
theorem jj:(∀(a:Act) (d:Tmp) (v:Value),a.put (some d) v={a with tmps:=a.tmps.setIfInBounds d v})∧(∀(a:Act) (v:Value),a.put none v=a)∧
  (∀{α:Type} {xs:List α} {i:Nat} (h:i<xs.toArray.size),xs.toArray[i]=xs[i]'(by simpa using h))∧
  (∀{α:Type} (a:α) (t:List α) (i:Nat) (h:i+1<(a::t).length),getElem (a::t) (i+1) h=getElem t i (Nat.lt_of_succ_lt_succ h))∧
  (∀{α:Type} (a:α) (t:List α) (h:0<(a::t).length),getElem (a::t) 0 h=a)∧
  (∀{α:Type} (l:List α) (i:Nat) (a:α),l.toArray.setIfInBounds i a=(l.set i a).toArray)∧
  (∀{α:Type} (a b:α) (t:List α),(a::t).set 0 b=b::t)∧(∀{α:Type} (a b:α) (t:List α) (n:Nat),(a::t).set (n+1) b=a::t.set n b):=
 ⟨fun _ _ _=>rfl,fun _ _=>rfl,fun h=>List.getElem_toArray h,fun _ _ _ _=>rfl,fun _ _ _=>rfl,fun _ _ _=>List.setIfInBounds_toArray ..,fun _ _ _=>rfl,fun _ _ _ _=>rfl⟩
section
variable {P : Program} {ops : Array Oper} {Q : Exit -> Act -> World -> Prop} {md : Region.Mode} {S : World -> Prop}
theorem tg (i:Nat) (v:Value) {d:Oper} {fuel:Nat} {b:Array Bool} {a:Act} {w:World} (hi:ops[i]? =some d) (l:YieldsIf P ops S d v a) (f:S w)
  (h:wpAnyH P md ops Q S fuel (b.setIfInBounds i true) (a.put d.dst v) w) (k:Region.noSelect ops=true:=by kernel_rfl) (g:Region.free md ops b i=true:=by kernel_rfl)
  (j:(Region.ready md ops b).contains i=true:=by kernel_rfl) (e:∀c a w,Q (.panic c) (a.put d.dst v) w->Q (.panic c) a w:=by exact fun _ _ _ h=>h):wpAnyH P md ops Q S (fuel+1) b a w:=
 wpAnyH_take hi k g j e l f h
theorem _root_.Go.Proofs.YtaejnmmpddbbjaaGreatDoor.dW:type_of% @tg:= @tg
theorem tk (i:Nat) (v:Value) {d:Oper} {fuel:Nat} {b:Array Bool} {a:Act} {w:World} (hi:ops[i]? =some d) (f:S w)
  (h:wpAnyH P md ops Q S fuel (b.setIfInBounds i true) (a.put d.dst v) w) (l:YieldsIf P ops S d v a:=by exact Or.inl ⟨by rfl,fun W h=>by clear h;go_simp⟩) (k:Region.noSelect ops=true:=by kernel_rfl)
  (g:Region.free md ops b i=true:=by kernel_rfl) (j:(Region.ready md ops b).contains i=true:=by kernel_rfl)
  (e:∀c a w,Q (.panic c) (a.put d.dst v) w->Q (.panic c) a w:=by exact fun _ _ _ h=>h):wpAnyH P md ops Q S (fuel+1) b a w:=
 wpAnyH_take hi k g j e l f h
end
theorem nE {a b:Bool} (h:a=b):Ending.returned (.bool a)=.returned (.bool b):=by rw[h]
theorem nF {k:IntKind} {a b:Int} (h:a=b):Ending.returned (.int k a)=.returned (.int k b):=by rw[h]
theorem Ax {W w1:World} (a:Below W.heap.size W w1):(∀b o,b<W.heap.size->w1.cell? ⟨b,o,none⟩=W.cell? ⟨b,o,none⟩)∧(∀b o,b<W.heap.size->w1.frozen? ⟨b,o,none⟩=W.frozen? ⟨b,o,none⟩):=
 ⟨fun b o h=>a.cell (p:=⟨b,o,none⟩) h,fun b o h=>a.frozen (p:=⟨b,o,none⟩) h⟩
theorem bal {w w':World} (h:Below w.heap.size w w') (o:Obj):Below w.heap.size w (w'.alloc o):=h.alloc h.size o
theorem btr {w w1 w2:World} (h:Below w.heap.size w w1) (a:Below w1.heap.size w1 w2):Below w.heap.size w w2:=h.trans (a.mono h.size)
theorem gz {w w':World} (h:Below w.heap.size w w') {b o:Nat} (a:w.heap.size<=b) (v:Value):Below w.heap.size w (w'.setCell ⟨b,o,none⟩ v):=h.setCell a v
theorem hid {p:Prop} (h:p):Hid p:=h
theorem fj {W:World} {B:Nat} {a:Array Value} (h:∀o,W.cell? ⟨B,o,none⟩=a[o]?) (i:Nat) (hi:i<a.size) (v:Value):
  ∀o,(W.setCell ⟨B,i,none⟩ v).cell? ⟨B,o,none⟩=(a.setIfInBounds i v)[o]? :=by
 intro o;by_cases b:i=o
 ·subst b;rw[World.cell?_setCell_same W _ _ ((h i).trans (Array.getElem?_eq_getElem hi))];simp[hi]
 ·rw[World.cell?_setCell_other W _ _ _ (by intro e;cases e;exact b rfl),h o];simp[b]
theorem gE {W:World} {B:Nat} {v0 v1 v2 v3 a b c d:Value} (h:∀o,W.cell? ⟨B,o,none⟩=(#[a,b,c,d]:Array Value)[o]?):
  ∀o,((((W.setCell ⟨B,0,none⟩ v0).setCell ⟨B,1,none⟩ v1).setCell ⟨B,2,none⟩ v2).setCell ⟨B,3,none⟩ v3).cell? ⟨B,o,none⟩=(#[v0,v1,v2,v3]:Array Value)[o]? :=
 fj (fj (fj (fj h 0 (by simp) v0) 1 (by simp) v1) 2 (by simp) v2) 3 (by simp) v3
theorem fV {W:World} {C:Nat} {a:Array Value} (h:∀o,W.cell? ⟨C,o,none⟩=a[o]?) (b:C<W.heap.size) (c:Obj):
  ∀o,(W.alloc c).cell? ⟨C,o,none⟩=a[o]? :=by
 intro o;rw[World.cell?_alloc_lt _ _ ⟨C,o,none⟩ b,h o]
theorem fp {W a:World} {C:Nat} {b:Array Value} (h:∀o,W.cell? ⟨C,o,none⟩=b[o]?) (d:C<W.heap.size) (c:Below W.heap.size W a):∀o,a.cell? ⟨C,o,none⟩=b[o]? :=
 fun o=>(c.cell (p:=⟨C,o,none⟩) d).trans (h o)
theorem nU (W:World) (a:Array Value) (t:TypeId):∀o,(W.alloc (.cells a t)).cell? ⟨W.heap.size,o,none⟩=a[o]? :=fun _=>World.cell?_alloc_at _ _ _ _ rfl
theorem _root_.Go.Proofs.YtaejnmmpddbbjaaGreatDoor.cD:type_of% @nU:= @nU
theorem mU (W:World) (a:Array Value) (t:TypeId) (n:Nat) (b:n=W.heap.size):∀o,(W.alloc (.cells a t)).cell? ⟨n,o,none⟩=a[o]? :=fun _=>World.cell?_alloc_at _ _ _ _ b
end Mem
namespace Nums
open Go.RowKit Mem
def fu (w:World) (b off:Nat) (zs:List Int):Prop:=∀j (h:j<zs.length),w.cell? ⟨b,off+j,none⟩=some (.int .i64 zs[j])
theorem fu.below {w w':World} {b off:Nat} {zs:List Int} (h:fu w b off zs) (c:Below w.heap.size w w'):fu w' b off zs:=
 fun j a=>(c.cell (World.block_lt_of_cell? _ _ (h j a))).trans (h j a)
theorem jP (w:World) (n:Nat):Below w.heap.size w (w.drewN n):=⟨rfl,rfl,rfl,Nat.le_refl _,fun _ _=>rfl⟩
theorem _root_.Go.Proofs.YtaejnmmpddbbjaaGreatDoor.aC:type_of% @jP:= @jP
end Nums
namespace Mem
open Go.RowKit
structure Kp (T:Nat->Prop) (w w':World):Prop where
 os:w'.os=w.os
 tape:w'.tape=w.tape
 output:w'.output=w.output
 size:w.heap.size<=w'.heap.size
 block:∀k,k<w.heap.size->¬T k->w'.heap[k]? =w.heap[k]?
theorem Kp.refl (T:Nat->Prop) (w:World):Kp T w w:=⟨rfl,rfl,rfl,Nat.le_refl _,fun _ _ _=>rfl⟩
theorem _root_.Go.Proofs.YtaejnmmpddbbjaaGreatDoor.aP:type_of% @Kp.refl:= @Kp.refl
theorem Kp.trans {T:Nat->Prop} {a b c:World} (h:Kp T a b) (k:Kp T b c):Kp T a c:=
 ⟨k.os.trans h.os,k.tape.trans h.tape,k.output.trans h.output,Nat.le_trans h.size k.size,fun i hi d=>(k.block i (Nat.lt_of_lt_of_le hi h.size) d).trans (h.block i hi d)⟩
theorem Kp.Ed {T:Nat->Prop} {w w':World} (h:Below w.heap.size w w'):Kp T w w':=⟨h.os,h.tape,h.output,h.size,fun k hk _=>h.block k hk⟩
theorem Kp.wider {T U:Nat->Prop} {w w':World} (h:Kp T w w') (c:∀k,k<w.heap.size->T k->U k):Kp U w w':=⟨h.os,h.tape,h.output,h.size,fun k hk a=>h.block k hk fun b=>a (c k hk b)⟩
theorem Kp.cell {T:Nat->Prop} {w w':World} (h:Kp T w w') {p:Addr} (b:p.block<w.heap.size) (a:¬T p.block):w'.cell? p=w.cell? p:=World.cell?_of_block (w:=w) (h.block p.block b a)
theorem Kp.frozen {T:Nat->Prop} {w w':World} (h:Kp T w w') {p:Addr} (b:p.block<w.heap.size) (a:¬T p.block):w'.frozen? p=w.frozen? p:=World.frozen?_of_block (w:=w) (h.block p.block b a)
theorem Kp.below {T:Nat->Prop} {w w':World} (h:Kp T w w') {B:Nat} {a:World} (b:Below B a w) (hB:B<=w.heap.size) (c:∀k,k<B->¬T k):Below B a w':=
 ⟨h.os.trans b.os,h.tape.trans b.tape,h.output.trans b.output,Nat.le_trans b.size h.size,fun k hk=>(h.block k (Nat.lt_of_lt_of_le hk hB) (c k hk)).trans (b.block k hk)⟩
theorem Kp.all {w w':World} (h:Kp (fun _=>False) w w'):Below w.heap.size w w':=⟨h.os,h.tape,h.output,h.size,fun k hk=>h.block k hk id⟩
theorem Kp.alloc {T:Nat->Prop} {w w':World} (h:Kp T w w') (o:Obj):Kp T w (w'.alloc o):=h.trans (.Ed (bal (Below.refl _ _) o))
theorem Kp.setCell {T:Nat->Prop} {w w':World} (h:Kp T w w') {b o:Nat} (a:T b∨w.heap.size<=b) (v:Value):Kp T w (w'.setCell ⟨b,o,none⟩ v):=
 ⟨h.os,h.tape,h.output,by simp[World.setCell];exact h.size,fun k hk c=>(Below.heap_setCell w' ⟨b,o,none⟩ v k (by intro e;simp at e;subst e;rcases a with a|a;exact c a;omega)).trans (h.block k hk c)⟩
end Mem
namespace Nums
open Go.RowKit Mem
theorem eH {P:Program} {t:TypeId} {z:Value} {s b:Nat} (h:(P.info? t).map (fun i=>(i.zero,i.size,i.bytes))=some (some z,s,b)):∃i0,P.info? t=some i0∧i0.zero=some z∧i0.size=s∧i0.bytes=b:=by
 cases hi:P.info? t with
 |none=>rw[hi] at h;cases h
 |some i0=>
  rw[hi] at h;simp at h;exact⟨i0,rfl,h.1,h.2.1,h.2.2⟩
theorem jY:(Tryz.prog.info? 3).map (fun i=>(i.zero,i.size,i.bytes))=some (some (.int .i64 0),1,8):=by kernel_rfl
theorem A5 (a:Int):∀x∈[Value.int .i64 a],x.oneCell'=true:=by
 intro x b;simp at b;subst b;rfl
theorem oO {w w':World} {B e size n:Nat} {v:Value} {xs:List Value} (h:w.ownsRow B e size v n xs) (i:Below w.heap.size w w'):w'.ownsRow B e size v n xs:=by
 refine⟨h.1,?_⟩;rcases h.2 with a|⟨g,cap,c,d,a,b,f⟩
 ·exact .inl a
 ·have hl:g<w.heap.size:=by
   by_cases hl:g<w.heap.size
   ·exact hl
   ·rw[Array.getElem?_eq_none (by omega)] at b;cases b
  exact .inr ⟨g,cap,c,d,a,(i.block g hl).trans b,f⟩
theorem _root_.Go.Proofs.YtaejnmmpddbbjaaGreatDoor.ex:type_of% @oO:= @oO
def ec (l:List Int):List Value:=l.map (.int .i64)
def mQ (w:World) (v:Value) (zs:List Int):Prop:=∃q b off cap,v=.slice q zs.length cap∧(0<zs.length->q=some ⟨b,off,none⟩)∧fu w b off zs∧∀z∈zs, -9223372036854775808<=z∧z<=9223372036854775807
theorem mQ.below {w w':World} {v:Value} {zs:List Int} (h:mQ w v zs) (f:Below w.heap.size w w'):mQ w' v zs:=by
 obtain⟨q,b,off,cap,a,c,d,e⟩:=h;exact⟨q,b,off,cap,a,c,d.below f,e⟩
end Nums
open Go.RowKit
theorem oA {p:Prop} (h:p:=by omega):p:=h
theorem oD {p:Prop} (h:p:=by decide):p:=h
theorem oK {p:Prop} (h:p:=by kernel_rfl):p:=h
theorem oR {p:Prop} (h:p:=by rfl):p:=h
theorem oS {p:Prop} (h:p:=by simp):p:=h
abbrev zW:Array Value:=#[.slice none 0 0,.slice none 0 0,.slice none 0 0,.slice none 0 0,.slice none 0 0,.slice none 0 0,.slice none 0 0,.slice none 0 0,.slice none 0 0,.slice none 0 0,.int .i64 0]
abbrev zT:Array Value:=#[.int .i64 0,.int .i64 0,.int .i64 0,.int .i64 0,.int .i64 0,.int .i64 0,.int .i64 0,.int .i64 0,.int .i64 0,.int .i64 0,.int .i64 0,.int .i64 0,.int .i64 0,.int .i64 0,.int .i64 0,.int .i64 0,.int .i64 0,.int .i64 0,.int .i64 0,.int .i64 0]
abbrev zK:Array Value:=#[.int .i64 0,.int .i64 0,.int .i64 0,.int .i64 0,.int .i64 0,.int .i64 0]
abbrev zQ:Array Value:=#[.int .i64 0,.int .i64 0,.int .i64 0,.int .i64 0]
abbrev zV:Array Value:=#[.int .i64 0,.int .i64 0,.int .i64 0,.int .i64 0,.int .i64 0,.int .i64 0,.int .i64 0]
abbrev zR:Array Value:=#[.int .i64 0,.int .i64 0,.int .i64 0,.int .i64 0,.int .i64 0,.int .i64 0,.int .i64 0,.int .i64 0]
theorem gst (t:TypeId) {P:Program} {ops:Array Oper} {Q:Exit->Act->World->Prop} {d x y ty po af gd} {rest:List Oper} {a:Act} {w:World} (h:wpList P ops Q (⟨d,.store t x y,ty,po,af,gd⟩::rest) a w):wpList P ops Q (⟨d,.store t x y,ty,po,af,gd⟩::rest) a w:=h
theorem gld (t:TypeId) {P:Program} {ops:Array Oper} {Q:Exit->Act->World->Prop} {d x ty po af gd} {rest:List Oper} {a:Act} {w:World} (h:wpList P ops Q (⟨d,.load t x,ty,po,af,gd⟩::rest) a w):wpList P ops Q (⟨d,.load t x,ty,po,af,gd⟩::rest) a w:=h
theorem aa:type_of% @List.getD_eq_getElem?_getD:= @List.getD_eq_getElem?_getD
theorem ac:type_of% @List.getElem?_eq_getElem:= @List.getElem?_eq_getElem
theorem ae:type_of% @if_neg:= @if_neg
theorem af:type_of% @if_pos:= @if_pos
theorem ag:type_of% @Int.toNat_natCast:= @Int.toNat_natCast
theorem ai:type_of% @Go.RowKit.Below.refl:= @Go.RowKit.Below.refl
theorem aj:type_of% @Go.World.block_lt_of_cell?:= @Go.World.block_lt_of_cell?
theorem al:type_of% @Bool.and_eq_true:= @Bool.and_eq_true
theorem aq:type_of% @Go.bodyPost_ret:= @Go.bodyPost_ret
theorem ar:type_of% @Nat.le_refl:= @Nat.le_refl
theorem au:type_of% @List.length_set:= @List.length_set
theorem av:type_of% @List.length_append:= @List.length_append
theorem aw:type_of% @List.getElem_mem:= @List.getElem_mem
theorem ax:type_of% @decide_eq_false:= @decide_eq_false
theorem ay:type_of% @of_decide_eq_true:= @of_decide_eq_true
theorem az:type_of% @Nat.zero_add:= @Nat.zero_add
theorem aB:type_of% @Nat.le_trans:= @Nat.le_trans
theorem aD:type_of% @decide_eq_true:= @decide_eq_true
theorem aE:type_of% @Nat.lt_of_lt_of_le:= @Nat.lt_of_lt_of_le
theorem aF:type_of% @List.getElem?_eq_none:= @List.getElem?_eq_none
theorem aH:type_of% @Option.some.inj:= @Option.some.inj
theorem aJ:type_of% @Go.World.cell?_setCell_other:= @Go.World.cell?_setCell_other
theorem aK:type_of% @Go.results_none:= @Go.results_none
theorem aL:type_of% @List.getElem?_cons_zero:= @List.getElem?_cons_zero
theorem aM:type_of% @List.getElem?_cons_succ:= @List.getElem?_cons_succ
theorem aN:type_of% @List.all_eq_true:= @List.all_eq_true
theorem aQ:type_of% @List.getElem?_toArray:= @List.getElem?_toArray
theorem aR:type_of% @decide_eq_true_eq:= @decide_eq_true_eq
theorem aS:type_of% @List.getElem_cons_zero:= @List.getElem_cons_zero
theorem aT:type_of% @Option.getD_some:= @Option.getD_some
theorem aU:type_of% @List.length_replicate:= @List.length_replicate
theorem aV:type_of% @Go.below_drewN:= @Go.below_drewN
theorem aW:type_of% @Go.wpList_append_own:= @Go.wpList_append_own
theorem aX:type_of% @Go.bodyPost_end:= @Go.bodyPost_end
theorem aZ:type_of% @Go.wp_region_quiet_lit:= @Go.wp_region_quiet_lit
theorem ba:type_of% @List.mem_or_eq_of_mem_set:= @List.mem_or_eq_of_mem_set
theorem bc:type_of% @List.getElem_cons_succ:= @List.getElem_cons_succ
theorem bh:type_of% @beq_iff_eq:= @beq_iff_eq
theorem bo:type_of% @Option.some.injEq:= @Option.some.injEq
theorem bp:type_of% @Go.run_callFunc_extern:= @Go.run_callFunc_extern
theorem bu:type_of% @List.take_succ_eq_append_getElem:= @List.take_succ_eq_append_getElem
theorem bF:type_of% @Nat.zero_le:= @Nat.zero_le
theorem bG:type_of% @Nat.add_zero:= @Nat.add_zero
theorem bI:type_of% @List.length_take:= @List.length_take
theorem bJ:type_of% @Go.World.cell?_alloc_lt:= @Go.World.cell?_alloc_lt
theorem bL:type_of% @List.length_map:= @List.length_map
theorem bM:type_of% @List.mem_cons:= @List.mem_cons
theorem bN:type_of% @Int.tdiv_eq_ediv_of_nonneg:= @Int.tdiv_eq_ediv_of_nonneg
theorem bP:type_of% @List.map_cons:= @List.map_cons
theorem bS:type_of% @List.any_eq_false:= @List.any_eq_false
theorem bT:type_of% @Bool.or_eq_true:= @Bool.or_eq_true
theorem bU:type_of% @List.mem_singleton:= @List.mem_singleton
theorem cd:type_of% @Nat.lt_or_ge:= @Nat.lt_or_ge
theorem cg:type_of% @List.mem_cons_self:= @List.mem_cons_self
theorem cq:type_of% @Bool.not_eq_false':= @Bool.not_eq_false'
theorem ct:type_of% @Array.getD_eq_getD_getElem?:= @Array.getD_eq_getD_getElem?
theorem cw:type_of% @List.set_getElem_self:= @List.set_getElem_self
theorem cy:type_of% @Go.wpQuiet_nil:= @Go.wpQuiet_nil
theorem cC:type_of% @Int.tmod_eq_emod_of_nonneg:= @Int.tmod_eq_emod_of_nonneg
theorem cE:type_of% @List.getElem_toArray:= @List.getElem_toArray
theorem cF:type_of% @List.getElem?_set_ne:= @List.getElem?_set_ne
theorem cG:type_of% @Decidable.byContradiction:= @Decidable.byContradiction
theorem cH:type_of% @of_decide_eq_false:= @of_decide_eq_false
theorem cJ:type_of% @List.getElem?_set_self:= @List.getElem?_set_self
theorem cM:type_of% @List.getElem?_map:= @List.getElem?_map
theorem cO:type_of% @Go.World.ownsRow_nil:= @Go.World.ownsRow_nil
theorem cR:type_of% @Go.World.cell?_setCell_same:= @Go.World.cell?_setCell_same
theorem cW:type_of% @List.getElem?_drop:= @List.getElem?_drop
theorem cX:type_of% @congrArg:= @congrArg
theorem cY:type_of% @List.take_length:= @List.take_length
theorem dc:type_of% @List.getElem?_append_right:= @List.getElem?_append_right
theorem dh:type_of% @Bool.not_eq_true':= @Bool.not_eq_true'
theorem dm:type_of% @List.getElem_of_mem:= @List.getElem_of_mem
theorem dt:type_of% @List.mem_append:= @List.mem_append
theorem du:type_of% @List.append_nil:= @List.append_nil
theorem dy:type_of% @Bool.eq_iff_iff:= @Bool.eq_iff_iff
theorem dz:type_of% @List.length_filter_le:= @List.length_filter_le
theorem dB:type_of% @List.not_mem_nil:= @List.not_mem_nil
theorem dC:type_of% @List.length_mapIdx:= @List.length_mapIdx
theorem dD:type_of% @List.length_drop:= @List.length_drop
theorem dF:type_of% @Go.World.ownsRow_made:= @Go.World.ownsRow_made
theorem dG:type_of% @List.mem_of_getElem?:= @List.mem_of_getElem?
theorem dH:type_of% @Go.World.cell?_alloc_at:= @Go.World.cell?_alloc_at
theorem dL:type_of% @List.foldl_cons:= @List.foldl_cons
theorem dM:type_of% @Go.Calls.quiet_of_same:= @Go.Calls.quiet_of_same
theorem dN:type_of% @Go.wpAnyH_done:= @Go.wpAnyH_done
theorem dO:type_of% @List.length_cons:= @List.length_cons
theorem dQ:type_of% @List.getElem_set_self:= @List.getElem_set_self
theorem dR:type_of% @List.map_append:= @List.map_append
theorem dS:type_of% @List.findIdx_getElem:= @List.findIdx_getElem
theorem dU:type_of% @Bool.or_eq_false_iff:= @Bool.or_eq_false_iff
theorem d9:type_of% @List.set_set:= @List.set_set
theorem ef:type_of% @List.map_nil:= @List.map_nil
theorem eg:type_of% @List.filter_append:= @List.filter_append
theorem eh:type_of% @Nat.not_lt_zero:= @Nat.not_lt_zero
theorem ep:type_of% @List.sum_cons:= @List.sum_cons
namespace Mmu
open Go.RowKit Mem Bw Nums
structure lY (w:World) (v:Value) (zs:List Int):Prop where
 row:∃q b cap,v=.slice q zs.length cap∧(0<zs.length->q=some ⟨b,0,none⟩)∧fu w b 0 zs
 word:∀z∈zs,0<=z∧z<65536
 len:zs.length<=600
theorem lY.below {w w':World} {v:Value} {zs:List Int} (h:lY w v zs) (e:Below w.heap.size w w'):lY w' v zs:=
 ⟨by obtain⟨q,b,cap,a,c,d⟩:=h.row;exact⟨q,b,cap,a,c,d.below e⟩,h.word,h.len⟩
abbrev inb (n s a:Int):Prop:=n%16=0∧n<=384∧0<=s∧s<n/16∧0<=a∧a<4096
abbrev isE (x n:Int):Prop:=x/32768%2=1∧x%1024<n
theorem og (x n:Int) (w:World) (c:0<=x) (d:x<65536) (h:isE x n):
  Calls Tryz.prog 131 #[.int .i64 x,.int .i64 n] w fun e w'=>e=.returned (.int .i64 (x%1024))∧w=w':=by
 unfold isE at h;have a:(x/32768%2==0)=false:=beq_eq_false_iff_ne.2 oA;have b:¬(n<=x%1024):=oA;go_enter Tryz.func131,Tryz.ntmps131
 go_wp2_with fail
 go_ret
 exact⟨rfl,rfl⟩
theorem qD (x n:Int) (w:World) (c:0<=x) (d:x<65536) (h:¬isE x n):
  Calls Tryz.prog 131 #[.int .i64 x,.int .i64 n] w fun e w'=>e=.returned (.int .i64 (-1))∧w=w':=by
 unfold isE at h;by_cases g:x/32768%2=0
 ·have a:=bh.2 g;go_enter Tryz.func131,Tryz.ntmps131
  go_wp2_with fail
  go_ret
  exact⟨rfl,rfl⟩
 ·have a:=beq_eq_false_iff_ne.2 g;have b:n<=x%1024:=oA;go_enter Tryz.func131,Tryz.ntmps131
  go_wp2_with fail
  go_ret
  exact⟨rfl,rfl⟩
theorem Aj (x:Int) (a:0<=x) (b:x<65536):bits .and .i64 x 32768=x/32768%2*32768:=by
 obtain⟨y,rfl⟩:=Int.eq_ofNat_of_zero_le a;rw[CD y oA];omega
theorem Ai (x:Int) (a:0<=x) (b:x<65536):bits .and .i64 x 16384=x/16384%2*16384:=by
 obtain⟨y,rfl⟩:=Int.eq_ofNat_of_zero_le a;rw[CC y oA];omega
theorem oC (x:Int) (w:World) (a:(bits .and .i64 x 32768==0)=false):
  Calls Tryz.prog 146 #[.int .i64 x] w fun e w'=>e=.returned (.tuple #[.int .i64 (x%1024),.bool (bits .and .i64 x 16384 !=0),.bool true])∧w=w':=by
 have e10:=uo x;go_enter Tryz.func146,Tryz.ntmps146
 go_wp2_with fail
 go_ret3
 exact⟨rfl,rfl⟩
theorem wk (x:Int) (w:World) (a:(bits .and .i64 x 32768==0)=true):
  Calls Tryz.prog 146 #[.int .i64 x] w fun e w'=>e=.returned (.tuple #[.int .i64 0,.bool false,.bool false])∧w=w':=by
 go_enter Tryz.func146,Tryz.ntmps146
 go_wp2_with fail
 go_ret3
 exact⟨rfl,rfl⟩
