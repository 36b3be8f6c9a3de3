/- Uaa -/
import Derived.WalkKit
import Derived.Laws.BitsLemmas
import Derived.OrdersHeld
import Derived.WalkSpells
import Derived.WalkLawsBesides
import Derived.Test.YtnccmdndkmmhcaaGreatDoorChecked
import Derived.Below
import Derived.Deep.QuietTactic
import Derived.BigQuiet
import Derived.OwnWalk
import Derived.Laws.OwnMore
import Derived.Laws.StructEq
set_option maxRecDepth 100000
set_option maxHeartbeats 16000000
namespace Go.Proofs.YtnccmdndkmmhcaaGreatDoor
namespace Bw
open Go.RowKit
theorem IA (n:Int) (i:Nat) (hi:i<=62):bits .and .i64 n ((2 ^ i - 1:Nat):Int)=n%((2 ^ i:Nat):Int):=by
 have d:2 ^ i<=2 ^ 62:=Nat.pow_le_pow_right (by decide) hi;have j:=Nat.two_pow_pos i;have c:(BitVec.ofInt 64 ((2 ^ i - 1:Nat):Int)).toNat=2 ^ i - 1:=by
  rw[BitVec.ofInt_natCast,BitVec.toNat_ofNat];exact Nat.mod_eq_of_lt (by have:(2:Nat) ^ 62<2 ^ 64:=(by decide);omega)
 have key:(BitVec.ofInt 64 n&&& BitVec.ofInt 64 ((2 ^ i - 1:Nat):Int)).toNat=(n%((2 ^ 64:Nat):Int)).toNat%2 ^ i:=by
  rw[BitVec.toNat_and,BitVec.toNat_ofInt,c,Nat.and_two_pow_sub_one_eq_mod]
 show IntKind.i64.wrap ((BitVec.ofInt 64 n&&& BitVec.ofInt 64 ((2 ^ i - 1:Nat):Int)).toNat:Nat)=n%((2 ^ i:Nat):Int)
 have b:((2 ^ i:Nat):Int) ∣ ((2 ^ 64:Nat):Int):=by
  rw[Int.natCast_dvd_natCast];exact Nat.pow_dvd_pow 2 (by omega)
 have a:(((n%((2 ^ 64:Nat):Int)).toNat%2 ^ i:Nat):Int)=n%((2 ^ i:Nat):Int):=by
  rw[Int.natCast_emod,Int.toNat_of_nonneg (Int.emod_nonneg _ (by decide)),Int.emod_emod_of_dvd _ b]
 rw[key,IntKind.wrap_i64,a];have e:0<=n%((2 ^ i:Nat):Int):=Int.emod_nonneg _ (by omega);have f:n%((2 ^ i:Nat):Int)<((2 ^ i:Nat):Int):=Int.emod_lt_of_pos _ (by omega);have g:=Int.ofNat_le.2 d;have h:((2 ^ 62:Nat):Int)=4611686018427387904:=by decide
 omega
theorem xD (n:Int):bits .and .i64 n 1023=n%1024:=IA n 10 (by decide)
theorem nD (n:Int) (a:0<=n) (b:n<2 ^ 62):IntKind.i64.wrap n=n:=by
 rw[IntKind.wrap_i64];have:(2:Int) ^ 62=4611686018427387904:=by decide
 omega
theorem _root_.Go.Proofs.YtnccmdndkmmhcaaGreatDoor.bZ:type_of% @nD:= @nD
def bw (o:Int) (a b:Nat):Nat:=if o=6 then a&&& b else if o=7 then a|||b else a ^^^ b
theorem Gh {a:Nat} (h:a<65536):a<2 ^ 62:=Nat.lt_of_lt_of_le h (by decide)
theorem vQ (a b:Nat) (c:a<65536) (d:b<65536):bits .and .i64 (a:Int) (b:Int)=((a&&& b:Nat):Int):=
 (bits_nat .i64 62 (by decide) bZ a b (Gh c) (Gh d)).1
theorem Bc (a b:Nat) (c:a<65536) (d:b<65536):bits .or .i64 (a:Int) (b:Int)=((a|||b:Nat):Int):=
 (bits_nat .i64 62 (by decide) bZ a b (Gh c) (Gh d)).2
theorem zd (o:Int) (a b:Nat) (d:a<65536) (c:b<65536):bw o a b<65536:=by
 unfold bw;split
 ·exact Nat.and_lt_two_pow (n:=16) a c
 split
 ·exact Nat.or_lt_two_pow (n:=16) d c
 ·exact Nat.xor_lt_two_pow (n:=16) d c
def bt (a k:Nat):Nat:=a/2 ^ k%2
theorem zc (a k:Nat):bt a k<=1:=by unfold bt;omega
theorem jg (a k:Nat):a.testBit k=decide (bt a k=1):=by rw[Nat.testBit_eq_decide_div_mod_eq];rfl
def hit (o:Int) (a b k:Nat):Bool:=decide (o=6∧bt a k+bt b k=2∨o=7∧0<bt a k+bt b k∨o=8∧bt a k+bt b k=1)
theorem BO (o:Int) (a b k:Nat) (f:o=6∨o=7∨o=8):(bw o a b).testBit k=hit o a b k:=by
 have g:=zc a k;have h:=zc b k;rcases f with rfl|rfl|rfl
 ·have e:bw 6 a b=a&&& b:=rfl;rw[e,Nat.testBit_and,jg,jg];unfold hit;rw[Bool.eq_iff_iff];simp;omega
 ·have e:bw 7 a b=a|||b:=rfl
  rw[e,Nat.testBit_or,jg,jg];unfold hit;rw[Bool.eq_iff_iff];simp;omega
 ·have e:bw 8 a b=a ^^^ b:=rfl;rw[e,Nat.testBit_xor,jg,jg];unfold hit;rw[Bool.eq_iff_iff];have c:bt a k=0∨bt a k=1:=by omega
  have d:bt b k=0∨bt b k=1:=by omega
  rcases c with c|c<;>rcases d with d|d<;>simp[c,d]
theorem BM (o:Int) (a b k:Nat) (d:o=6∨o=7∨o=8):bw o a b%2 ^ (k+1)=bw o a b%2 ^ k+if hit o a b k=true then 2 ^ k else 0:=by
 have h:=jg (bw o a b) k;rw[BO o a b k d] at h;have e:=zc (bw o a b) k;rw[Nat.mod_pow_succ,show bw o a b/2 ^ k%2=bt (bw o a b) k from rfl];rw[h];have c:bt (bw o a b) k=0∨bt (bw o a b) k=1:=by omega
 rcases c with c|c<;>simp[c]
theorem vR (w:Nat) (i:Nat):w&&& 2 ^ i=bt w i*2 ^ i:=by
 have:=zc w i;have c:=jg w i;have a:bt w i=0∨bt w i=1:=by omega
 apply Nat.eq_of_testBit_eq;intro j;rw[Nat.testBit_and,Nat.testBit_two_pow];by_cases b:i=j
 ·subst b;rcases a with a|a<;>rw[c]<;>simp[a]
 ·rcases a with a|a<;>simp[a,b]
theorem Gt (w:Nat) (h:w<65536):bits .and .i64 (w:Int) 32768=((w/32768%2*32768:Nat):Int):=by
 rw[show (32768:Int)=((2 ^ 15:Nat):Int) from by decide,vQ w _ h (by decide),vR];rfl
theorem Gs (w:Nat) (h:w<65536):bits .and .i64 (w:Int) 16384=((w/16384%2*16384:Nat):Int):=by
 rw[show (16384:Int)=((2 ^ 14:Nat):Int) from by decide,vQ w _ h (by decide),vR];rfl
theorem IE (t:Int) (a:0<=t) (b:t<1024):bits .or .i64 32768 t=32768+t:=
 bits_join .i64 62 (by decide) bZ 10 32768 t (by decide) (by decide) (by decide) a (by omega) (by omega)
theorem ID (t:Int) (a:0<=t) (b:t<1024):bits .or .i64 49152 t=49152+t:=
 bits_join .i64 62 (by decide) bZ 10 49152 t (by decide) (by decide) (by decide) a (by omega) (by omega)
end Bw
namespace Mem
open Go.RowKit
theorem jD {α:Type} (l:List α) (i:Nat) (a:α):l.toArray.setIfInBounds i a=(l.set i a).toArray:=List.setIfInBounds_toArray ..
theorem jj:(∀(a:Act) (d:Tmp) (v:Value),a.put (some d) v={a with tmps:=a.tmps.setIfInBounds d v})∧(∀(a:Act) (v:Value),a.put none v=a)∧
  (∀{α:Type} {xs:List α} {i:Nat} (h:i<xs.toArray.size),xs.toArray[i]=xs[i]'(by simpa using h))∧
  (∀{α:Type} (a:α) (t:List α) (i:Nat) (h:i+1<(a::t).length),getElem (a::t) (i+1) h=getElem t i (Nat.lt_of_succ_lt_succ h))∧
  (∀{α:Type} (a:α) (t:List α) (h:0<(a::t).length),getElem (a::t) 0 h=a)∧
  (∀{α:Type} (l:List α) (i:Nat) (a:α),l.toArray.setIfInBounds i a=(l.set i a).toArray)∧
  (∀{α:Type} (a b:α) (t:List α),(a::t).set 0 b=b::t)∧(∀{α:Type} (a b:α) (t:List α) (n:Nat),(a::t).set (n+1) b=a::t.set n b):=
 ⟨fun _ _ _=>rfl,fun _ _=>rfl,fun h=>List.getElem_toArray h,fun _ _ _ _=>rfl,fun _ _ _=>rfl,fun _ _ _=>List.setIfInBounds_toArray ..,fun _ _ _=>rfl,fun _ _ _ _=>rfl⟩
section
variable {P : Program} {ops : Array Oper} {Q : Exit -> Act -> World -> Prop} {md : Region.Mode} {S : World -> Prop}
theorem tg (i:Nat) (v:Value) {d:Oper} {fuel:Nat} {b:Array Bool} {a:Act} {w:World} (hi:ops[i]? =some d) (l:YieldsIf P ops S d v a) (f:S w)
  (h:wpAnyH P md ops Q S fuel (b.setIfInBounds i true) (a.put d.dst v) w) (k:Region.noSelect ops=true:=by kernel_rfl) (g:Region.free md ops b i=true:=by kernel_rfl)
  (j:(Region.ready md ops b).contains i=true:=by kernel_rfl) (e:∀c a w,Q (.panic c) (a.put d.dst v) w->Q (.panic c) a w:=by exact fun _ _ _ h=>h):wpAnyH P md ops Q S (fuel+1) b a w:=
 wpAnyH_take hi k g j e l f h
theorem tk (i:Nat) (v:Value) {d:Oper} {fuel:Nat} {b:Array Bool} {a:Act} {w:World} (hi:ops[i]? =some d) (f:S w)
  (h:wpAnyH P md ops Q S fuel (b.setIfInBounds i true) (a.put d.dst v) w) (l:YieldsIf P ops S d v a:=by exact Or.inl ⟨by rfl,fun W h=>by clear h;go_simp⟩) (k:Region.noSelect ops=true:=by kernel_rfl)
  (g:Region.free md ops b i=true:=by kernel_rfl) (j:(Region.ready md ops b).contains i=true:=by kernel_rfl)
  (e:∀c a w,Q (.panic c) (a.put d.dst v) w->Q (.panic c) a w:=by exact fun _ _ _ h=>h):wpAnyH P md ops Q S (fuel+1) b a w:=
 wpAnyH_take hi k g j e l f h
end
theorem gY {a b:Bool} (h:a=b):Ending.returned (.bool a)=.returned (.bool b):=by rw[h]
theorem pS {k:IntKind} {a b:Int} (h:a=b):Ending.returned (.int k a)=.returned (.int k b):=by rw[h]
theorem se {W w1:World} (a:Below W.heap.size W w1):(∀b o,b<W.heap.size->w1.cell? ⟨b,o,none⟩=W.cell? ⟨b,o,none⟩)∧(∀b o,b<W.heap.size->w1.frozen? ⟨b,o,none⟩=W.frozen? ⟨b,o,none⟩):=
 ⟨fun b o h=>a.cell (p:=⟨b,o,none⟩) h,fun b o h=>a.frozen (p:=⟨b,o,none⟩) h⟩
theorem bal {w w':World} (h:Below w.heap.size w w') (o:Obj):Below w.heap.size w (w'.alloc o):=h.alloc h.size o
theorem btr {w w1 w2:World} (h:Below w.heap.size w w1) (a:Below w1.heap.size w1 w2):Below w.heap.size w w2:=h.trans (a.mono h.size)
theorem iq {w w':World} (h:Below w.heap.size w w') {b o:Nat} (a:w.heap.size<=b) (v:Value):Below w.heap.size w (w'.setCell ⟨b,o,none⟩ v):=h.setCell a v
theorem hid {p:Prop} (h:p):Hid p:=h
theorem fM {W:World} {B:Nat} {a:Array Value} (h:∀o,W.cell? ⟨B,o,none⟩=a[o]?) (i:Nat) (hi:i<a.size) (v:Value):
  ∀o,(W.setCell ⟨B,i,none⟩ v).cell? ⟨B,o,none⟩=(a.setIfInBounds i v)[o]? :=by
 intro o;by_cases b:i=o
 ·subst b;rw[World.cell?_setCell_same W _ _ ((h i).trans (Array.getElem?_eq_getElem hi))];simp[hi]
 ·rw[World.cell?_setCell_other W _ _ _ (by intro e;cases e;exact b rfl),h o];simp[b]
theorem jA {W:World} {B:Nat} {v0 v1 v2 v3 a x1 x2 x3:Value} (h:∀o,W.cell? ⟨B,o,none⟩=(#[a,x1,x2,x3]:Array Value)[o]?):
  ∀o,((((W.setCell ⟨B,0,none⟩ v0).setCell ⟨B,1,none⟩ v1).setCell ⟨B,2,none⟩ v2).setCell ⟨B,3,none⟩ v3).cell? ⟨B,o,none⟩=(#[v0,v1,v2,v3]:Array Value)[o]? :=
 fM (fM (fM (fM h 0 (by simp) v0) 1 (by simp) v1) 2 (by simp) v2) 3 (by simp) v3
theorem fe {W:World} {C:Nat} {a:Array Value} (h:∀o,W.cell? ⟨C,o,none⟩=a[o]?) (b:C<W.heap.size) (c:Obj):
  ∀o,(W.alloc c).cell? ⟨C,o,none⟩=a[o]? :=by
 intro o;rw[World.cell?_alloc_lt _ _ ⟨C,o,none⟩ b,h o]
theorem nT {W a:World} {C:Nat} {b:Array Value} (h:∀o,W.cell? ⟨C,o,none⟩=b[o]?) (d:C<W.heap.size) (c:Below W.heap.size W a):∀o,a.cell? ⟨C,o,none⟩=b[o]? :=
 fun o=>(c.cell (p:=⟨C,o,none⟩) d).trans (h o)
theorem _root_.Go.Proofs.YtnccmdndkmmhcaaGreatDoor.cT:type_of% @nT:= @nT
theorem qi (W:World) (a:Array Value) (t:TypeId):∀o,(W.alloc (.cells a t)).cell? ⟨W.heap.size,o,none⟩=a[o]? :=fun _=>World.cell?_alloc_at _ _ _ _ rfl
theorem _root_.Go.Proofs.YtnccmdndkmmhcaaGreatDoor.cq:type_of% @qi:= @qi
theorem ir (W:World) (a:Array Value) (t:TypeId) (n:Nat) (b:n=W.heap.size):∀o,(W.alloc (.cells a t)).cell? ⟨n,o,none⟩=a[o]? :=fun _=>World.cell?_alloc_at _ _ _ _ b
end Mem
namespace Nums
open Go.RowKit Mem
def fW (w:World) (b off:Nat) (zs:List Int):Prop:=∀j (h:j<zs.length),w.cell? ⟨b,off+j,none⟩=some (.int .i64 zs[j])
theorem fW.below {w w':World} {b off:Nat} {zs:List Int} (h:fW w b off zs) (c:Below w.heap.size w w'):fW w' b off zs:=
 fun j a=>(c.cell (World.block_lt_of_cell? _ _ (h j a))).trans (h j a)
theorem kT (w:World) (n:Nat):Below w.heap.size w (w.drewN n):=⟨rfl,rfl,rfl,Nat.le_refl _,fun _ _=>rfl⟩
theorem _root_.Go.Proofs.YtnccmdndkmmhcaaGreatDoor.aD:type_of% @kT:= @kT
end Nums
namespace Mem
open Go.RowKit
structure Kp (T:Nat->Prop) (w w':World):Prop where
 os:w'.os=w.os
 tape:w'.tape=w.tape
 output:w'.output=w.output
 size:w.heap.size<=w'.heap.size
 block:∀k,k<w.heap.size->¬T k->w'.heap[k]? =w.heap[k]?
theorem Kp.refl (T:Nat->Prop) (w:World):Kp T w w:=⟨rfl,rfl,rfl,Nat.le_refl _,fun _ _ _=>rfl⟩
theorem _root_.Go.Proofs.YtnccmdndkmmhcaaGreatDoor.aV:type_of% @Kp.refl:= @Kp.refl
theorem Kp.trans {T:Nat->Prop} {a b c:World} (h:Kp T a b) (k:Kp T b c):Kp T a c:=
 ⟨k.os.trans h.os,k.tape.trans h.tape,k.output.trans h.output,Nat.le_trans h.size k.size,fun i hi d=>(k.block i (Nat.lt_of_lt_of_le hi h.size) d).trans (h.block i hi d)⟩
theorem Kp.IM {T:Nat->Prop} {w w':World} (h:Below w.heap.size w w'):Kp T w w':=⟨h.os,h.tape,h.output,h.size,fun k hk _=>h.block k hk⟩
theorem Kp.wider {T U:Nat->Prop} {w w':World} (h:Kp T w w') (c:∀k,k<w.heap.size->T k->U k):Kp U w w':=⟨h.os,h.tape,h.output,h.size,fun k hk a=>h.block k hk fun b=>a (c k hk b)⟩
theorem Kp.cell {T:Nat->Prop} {w w':World} (h:Kp T w w') {p:Addr} (b:p.block<w.heap.size) (a:¬T p.block):w'.cell? p=w.cell? p:=World.cell?_of_block (w:=w) (h.block p.block b a)
theorem Kp.frozen {T:Nat->Prop} {w w':World} (h:Kp T w w') {p:Addr} (b:p.block<w.heap.size) (a:¬T p.block):w'.frozen? p=w.frozen? p:=World.frozen?_of_block (w:=w) (h.block p.block b a)
theorem Kp.below {T:Nat->Prop} {w w':World} (h:Kp T w w') {B:Nat} {a:World} (b:Below B a w) (hB:B<=w.heap.size) (c:∀k,k<B->¬T k):Below B a w':=
 ⟨h.os.trans b.os,h.tape.trans b.tape,h.output.trans b.output,Nat.le_trans b.size h.size,fun k hk=>(h.block k (Nat.lt_of_lt_of_le hk hB) (c k hk)).trans (b.block k hk)⟩
theorem Kp.all {w w':World} (h:Kp (fun _=>False) w w'):Below w.heap.size w w':=⟨h.os,h.tape,h.output,h.size,fun k hk=>h.block k hk id⟩
theorem Kp.alloc {T:Nat->Prop} {w w':World} (h:Kp T w w') (o:Obj):Kp T w (w'.alloc o):=h.trans (.IM (bal (Below.refl _ _) o))
theorem Kp.setCell {T:Nat->Prop} {w w':World} (h:Kp T w w') {b o:Nat} (a:T b∨w.heap.size<=b) (v:Value):Kp T w (w'.setCell ⟨b,o,none⟩ v):=
 ⟨h.os,h.tape,h.output,by simp[World.setCell];exact h.size,fun k hk c=>(Below.heap_setCell w' ⟨b,o,none⟩ v k (by intro e;simp at e;subst e;rcases a with a|a;exact c a;omega)).trans (h.block k hk c)⟩
end Mem
namespace Nums
open Go.RowKit Mem
theorem fj {P:Program} {t:TypeId} {z:Value} {s b:Nat} (h:(P.info? t).map (fun i=>(i.zero,i.size,i.bytes))=some (some z,s,b)):∃i0,P.info? t=some i0∧i0.zero=some z∧i0.size=s∧i0.bytes=b:=by
 cases hi:P.info? t with
 |none=>rw[hi] at h;cases h
 |some i0=>
  rw[hi] at h;simp at h;exact⟨i0,rfl,h.1,h.2.1,h.2.2⟩
theorem kD:(Tryz.prog.info? 3).map (fun i=>(i.zero,i.size,i.bytes))=some (some (.int .i64 0),1,8):=by kernel_rfl
theorem Fb (a:Int):∀x∈[Value.int .i64 a],x.oneCell'=true:=by
 intro x b;simp at b;subst b;rfl
theorem fI {w w':World} {B e size n:Nat} {v:Value} {xs:List Value} (h:w.ownsRow B e size v n xs) (i:Below w.heap.size w w'):w'.ownsRow B e size v n xs:=by
 refine⟨h.1,?_⟩;rcases h.2 with a|⟨g,cap,c,d,a,b,f⟩
 ·exact .inl a
 ·have hl:g<w.heap.size:=by
   by_cases hl:g<w.heap.size
   ·exact hl
   ·rw[Array.getElem?_eq_none (by omega)] at b;cases b
  exact .inr ⟨g,cap,c,d,a,(i.block g hl).trans b,f⟩
def dU (l:List Int):List Value:=l.map (.int .i64)
def oN (w:World) (v:Value) (zs:List Int):Prop:=∃q b off cap,v=.slice q zs.length cap∧(0<zs.length->q=some ⟨b,off,none⟩)∧fW w b off zs∧∀z∈zs, -9223372036854775808<=z∧z<=9223372036854775807
theorem oN.below {w w':World} {v:Value} {zs:List Int} (h:oN w v zs) (f:Below w.heap.size w w'):oN w' v zs:=by
 obtain⟨q,b,off,cap,a,c,d,e⟩:=h;exact⟨q,b,off,cap,a,c,d.below f,e⟩
end Nums
open Go.RowKit
theorem oA {p:Prop} (h:p:=by omega):p:=h
theorem oD {p:Prop} (h:p:=by decide):p:=h
theorem oK {p:Prop} (h:p:=by kernel_rfl):p:=h
theorem oR {p:Prop} (h:p:=by rfl):p:=h
theorem oS {p:Prop} (h:p:=by simp):p:=h
abbrev zW:Array Value:=#[.slice none 0 0,.slice none 0 0,.slice none 0 0,.slice none 0 0,.slice none 0 0,.slice none 0 0,.slice none 0 0,.slice none 0 0,.slice none 0 0,.slice none 0 0,.int .i64 0]
abbrev zT:Array Value:=#[.int .i64 0,.int .i64 0,.int .i64 0,.int .i64 0,.int .i64 0,.int .i64 0,.int .i64 0,.int .i64 0,.int .i64 0,.int .i64 0,.int .i64 0,.int .i64 0,.int .i64 0,.int .i64 0,.int .i64 0,.int .i64 0,.int .i64 0,.int .i64 0,.int .i64 0,.int .i64 0]
abbrev zK:Array Value:=#[.int .i64 0,.int .i64 0,.int .i64 0,.int .i64 0,.int .i64 0,.int .i64 0]
abbrev zQ:Array Value:=#[.int .i64 0,.int .i64 0,.int .i64 0,.int .i64 0]
abbrev zV:Array Value:=#[.int .i64 0,.int .i64 0,.int .i64 0,.int .i64 0,.int .i64 0,.int .i64 0,.int .i64 0]
abbrev zR:Array Value:=#[.int .i64 0,.int .i64 0,.int .i64 0,.int .i64 0,.int .i64 0,.int .i64 0,.int .i64 0,.int .i64 0]
theorem gst (t:TypeId) {P:Program} {ops:Array Oper} {Q:Exit->Act->World->Prop} {d x y ty po af gd} {rest:List Oper} {a:Act} {w:World} (h:wpList P ops Q (⟨d,.store t x y,ty,po,af,gd⟩::rest) a w):wpList P ops Q (⟨d,.store t x y,ty,po,af,gd⟩::rest) a w:=h
theorem gld (t:TypeId) {P:Program} {ops:Array Oper} {Q:Exit->Act->World->Prop} {d x ty po af gd} {rest:List Oper} {a:Act} {w:World} (h:wpList P ops Q (⟨d,.load t x,ty,po,af,gd⟩::rest) a w):wpList P ops Q (⟨d,.load t x,ty,po,af,gd⟩::rest) a w:=h
theorem aa:type_of% @List.getD_eq_getElem?_getD:= @List.getD_eq_getElem?_getD
theorem ac:type_of% @List.getElem?_eq_getElem:= @List.getElem?_eq_getElem
theorem ae:type_of% @if_neg:= @if_neg
theorem af:type_of% @Go.RowKit.Below.refl:= @Go.RowKit.Below.refl
theorem ag:type_of% @if_pos:= @if_pos
theorem ah:type_of% @Int.toNat_natCast:= @Int.toNat_natCast
theorem aj:type_of% @Go.World.block_lt_of_cell?:= @Go.World.block_lt_of_cell?
theorem am:type_of% @Bool.and_eq_true:= @Bool.and_eq_true
theorem aq:type_of% @Nat.le_refl:= @Nat.le_refl
theorem ar:type_of% @Go.bodyPost_ret:= @Go.bodyPost_ret
theorem au:type_of% @List.length_set:= @List.length_set
theorem av:type_of% @List.getElem_mem:= @List.getElem_mem
theorem aw:type_of% @decide_eq_false:= @decide_eq_false
theorem ax:type_of% @List.length_append:= @List.length_append
theorem az:type_of% @decide_eq_true:= @decide_eq_true
theorem aA:type_of% @of_decide_eq_true:= @of_decide_eq_true
theorem aB:type_of% @Nat.le_trans:= @Nat.le_trans
theorem aC:type_of% @Nat.zero_add:= @Nat.zero_add
theorem aE:type_of% @Nat.lt_of_lt_of_le:= @Nat.lt_of_lt_of_le
theorem aF:type_of% @Go.results_none:= @Go.results_none
theorem aG:type_of% @Go.below_drewN:= @Go.below_drewN
theorem aH:type_of% @Go.bodyPost_end:= @Go.bodyPost_end
theorem aI:type_of% @List.getElem?_eq_none:= @List.getElem?_eq_none
theorem aK:type_of% @Option.some.inj:= @Option.some.inj
theorem aO:type_of% @Go.World.cell?_setCell_other:= @Go.World.cell?_setCell_other
theorem aS:type_of% @List.getElem?_toArray:= @List.getElem?_toArray
theorem aT:type_of% @Option.getD_some:= @Option.getD_some
theorem aU:type_of% @List.all_eq_true:= @List.all_eq_true
theorem aW:type_of% @List.getElem?_cons_zero:= @List.getElem?_cons_zero
theorem aX:type_of% @List.getElem?_cons_succ:= @List.getElem?_cons_succ
theorem aY:type_of% @Go.wpList_append_own:= @Go.wpList_append_own
theorem aZ:type_of% @List.mem_or_eq_of_mem_set:= @List.mem_or_eq_of_mem_set
theorem bg:type_of% @decide_eq_true_eq:= @decide_eq_true_eq
theorem bh:type_of% @List.getElem_cons_zero:= @List.getElem_cons_zero
theorem bj:type_of% @Go.wp_region_quiet_lit:= @Go.wp_region_quiet_lit
theorem bk:type_of% @List.length_replicate:= @List.length_replicate
theorem bu:type_of% @Nat.add_zero:= @Nat.add_zero
theorem bz:type_of% @beq_iff_eq:= @beq_iff_eq
theorem bC:type_of% @List.getElem_cons_succ:= @List.getElem_cons_succ
theorem bF:type_of% @Go.Calls.quiet_of_same:= @Go.Calls.quiet_of_same
theorem bG:type_of% @List.take_succ_eq_append_getElem:= @List.take_succ_eq_append_getElem
theorem bH:type_of% @List.length_take:= @List.length_take
theorem bJ:type_of% @Option.some.injEq:= @Option.some.injEq
theorem bK:type_of% @List.mem_cons:= @List.mem_cons
theorem bL:type_of% @List.length_map:= @List.length_map
theorem bO:type_of% @List.any_eq_false:= @List.any_eq_false
theorem bP:type_of% @Nat.zero_le:= @Nat.zero_le
theorem bR:type_of% @Int.tdiv_eq_ediv_of_nonneg:= @Int.tdiv_eq_ediv_of_nonneg
theorem bV:type_of% @List.set_getElem_self:= @List.set_getElem_self
theorem cd:type_of% @List.map_cons:= @List.map_cons
theorem ct:type_of% @Go.World.ownsRow_nil:= @Go.World.ownsRow_nil
theorem cD:type_of% @List.mem_cons_self:= @List.mem_cons_self
theorem cF:type_of% @Bool.or_eq_true:= @Bool.or_eq_true
theorem cH:type_of% @Go.World.cell?_setCells_out:= @Go.World.cell?_setCells_out
theorem cJ:type_of% @Go.wpQuiet_nil:= @Go.wpQuiet_nil
theorem cO:type_of% @List.take_length:= @List.take_length
theorem cP:type_of% @Nat.lt_or_ge:= @Nat.lt_or_ge
theorem cQ:type_of% @List.getElem?_set_self:= @List.getElem?_set_self
theorem cR:type_of% @List.getElem?_set_ne:= @List.getElem?_set_ne
theorem cU:type_of% @Bool.not_eq_false':= @Bool.not_eq_false'
theorem cV:type_of% @Array.getD_eq_getD_getElem?:= @Array.getD_eq_getD_getElem?
theorem cW:type_of% @List.length_filter_le:= @List.length_filter_le
theorem cY:type_of% @Bool.eq_iff_iff:= @Bool.eq_iff_iff
theorem cZ:type_of% @Int.tmod_eq_emod_of_nonneg:= @Int.tmod_eq_emod_of_nonneg
theorem db:type_of% @List.getElem?_map:= @List.getElem?_map
theorem dc:type_of% @List.getElem_toArray:= @List.getElem_toArray
theorem dg:type_of% @Decidable.byContradiction:= @Decidable.byContradiction
theorem dh:type_of% @of_decide_eq_false:= @of_decide_eq_false
theorem dm:type_of% @List.mem_singleton:= @List.mem_singleton
theorem du:type_of% @Go.World.cell?_setCell_same:= @Go.World.cell?_setCell_same
theorem dw:type_of% @Go.wpAnyH_done:= @Go.wpAnyH_done
theorem dy:type_of% @Go.World.ownsRow_made:= @Go.World.ownsRow_made
theorem dA:type_of% @List.not_mem_nil:= @List.not_mem_nil
theorem dC:type_of% @List.getElem_of_mem:= @List.getElem_of_mem
theorem dD:type_of% @Bool.not_eq_true':= @Bool.not_eq_true'
theorem dF:type_of% @congrArg:= @congrArg
theorem dG:type_of% @Nat.not_lt_zero:= @Nat.not_lt_zero
theorem dH:type_of% @List.mem_append:= @List.mem_append
theorem dJ:type_of% @List.append_nil:= @List.append_nil
theorem dL:type_of% @List.getElem?_drop:= @List.getElem?_drop
theorem dM:type_of% @Nat.lt_succ_self:= @Nat.lt_succ_self
theorem dS:type_of% @List.getElem?_append_right:= @List.getElem?_append_right
theorem dV:type_of% @List.getElem_set_self:= @List.getElem_set_self
theorem dX:type_of% @List.length_mapIdx:= @List.length_mapIdx
theorem dY:type_of% @List.length_cons:= @List.length_cons
theorem dZ:type_of% @Go.Sem.run_bind:= @Go.Sem.run_bind
theorem ef:type_of% @List.mem_of_getElem?:= @List.mem_of_getElem?
theorem eo:type_of% @List.foldl_cons:= @List.foldl_cons
theorem ep:type_of% @List.set_set:= @List.set_set
theorem ex:type_of% @List.sum_cons:= @List.sum_cons
theorem eC:type_of% @List.nil_append:= @List.nil_append
theorem eD:type_of% @List.map_append:= @List.map_append
theorem eE:type_of% @List.size_toArray:= @List.size_toArray
theorem eF:type_of% @Go.World.cell?_alloc_at:= @Go.World.cell?_alloc_at
theorem eG:type_of% @Bool.or_eq_false_iff:= @Bool.or_eq_false_iff
theorem eH:type_of% @Bool.true_and:= @Bool.true_and
theorem eI:type_of% @List.map_congr_left:= @List.map_congr_left
theorem eQ:type_of% @List.map_nil:= @List.map_nil
theorem eT:type_of% @List.filter_append:= @List.filter_append
theorem eU:type_of% @Bool.false_or:= @Bool.false_or
namespace Mmu
open Go.RowKit Mem Bw Nums
abbrev inb (n s a:Int):Prop:=n%16=0∧n<=384∧0<=s∧s<n/16∧0<=a∧a<4096
abbrev isE (x n:Int):Prop:=x/32768%2=1∧x%1024<n
theorem qB (x n:Int) (w:World) (c:0<=x) (x1:x<65536) (h:isE x n):
  Calls Tryz.prog 202 #[.int .i64 x,.int .i64 n] w fun e w'=>e=.returned (.int .i64 (x%1024))∧w=w':=by
 unfold isE at h;have a:(x/32768%2==0)=false:=beq_eq_false_iff_ne.2 oA;have b:¬(n<=x%1024):=oA;go_enter Tryz.func202,Tryz.ntmps202
 go_wp2_with fail
 go_ret
 exact⟨rfl,rfl⟩
theorem tN (x n:Int) (w:World) (c:0<=x) (x1:x<65536) (h:¬isE x n):
  Calls Tryz.prog 202 #[.int .i64 x,.int .i64 n] w fun e w'=>e=.returned (.int .i64 (-1))∧w=w':=by
 unfold isE at h;by_cases g:x/32768%2=0
 ·have a:=bz.2 g;go_enter Tryz.func202,Tryz.ntmps202
  go_wp2_with fail
  go_ret
  exact⟨rfl,rfl⟩
 ·have a:=beq_eq_false_iff_ne.2 g;have b:n<=x%1024:=oA;go_enter Tryz.func202,Tryz.ntmps202
  go_wp2_with fail
  go_ret
  exact⟨rfl,rfl⟩
theorem DV (x:Int) (a:0<=x) (x1:x<65536):bits .and .i64 x 32768=x/32768%2*32768:=by
 obtain⟨y,rfl⟩:=Int.eq_ofNat_of_zero_le a;rw[Gt y oA];omega
theorem DU (x:Int) (a:0<=x) (x1:x<65536):bits .and .i64 x 16384=x/16384%2*16384:=by
 obtain⟨y,rfl⟩:=Int.eq_ofNat_of_zero_le a;rw[Gs y oA];omega
theorem qT (x:Int) (w:World) (a:(bits .and .i64 x 32768==0)=false):
  Calls Tryz.prog 258 #[.int .i64 x] w fun e w'=>e=.returned (.tuple #[.int .i64 (x%1024),.bool (bits .and .i64 x 16384 !=0),.bool true])∧w=w':=by
 have e10:=xD x;go_enter Tryz.func258,Tryz.ntmps258
 go_wp2_with fail
 go_ret3
 exact⟨rfl,rfl⟩
theorem zN (x:Int) (w:World) (a:(bits .and .i64 x 32768==0)=true):
  Calls Tryz.prog 258 #[.int .i64 x] w fun e w'=>e=.returned (.tuple #[.int .i64 0,.bool false,.bool false])∧w=w':=by
 go_enter Tryz.func258,Tryz.ntmps258
 go_wp2_with fail
 go_ret3
 exact⟨rfl,rfl⟩
abbrev Ent:=Int×Int×Int×Bool
def gx (w:World) (b off:Nat) (l:List Ent):Prop:=
 ∀j (h:j<l.length),w.cell? ⟨b,off+j*4,none⟩=some (.int .i64 l[j].1)∧w.cell? ⟨b,off+j*4+1,none⟩=some (.int .i64 l[j].2.1)∧w.cell? ⟨b,off+j*4+2,none⟩=some (.int .i64 l[j].2.2.1)∧w.cell? ⟨b,off+j*4+3,none⟩=some (.bool l[j].2.2.2)
theorem gx.below {w w':World} {b off:Nat} {l:List Ent} (h:gx w b off l) (c:Below w.heap.size w w'):gx w' b off l:=fun j a=>
 ⟨(c.cell (aj _ _ (h j a).1)).trans (h j a).1,(c.cell (aj _ _ (h j a).2.1)).trans (h j a).2.1,(c.cell (aj _ _ (h j a).2.2.1)).trans (h j a).2.2.1,(c.cell (aj _ _ (h j a).2.2.2)).trans (h j a).2.2.2⟩
def jb (w:World) (v:Value) (l:List Ent):Prop:=∃q b off cap,v=.slice q l.length cap∧(0<l.length->q=some ⟨b,off,none⟩)∧gx w b off l∧l.length<=100
theorem jb.below {w w':World} {v:Value} {l:List Ent} (h:jb w v l) (f:Below w.heap.size w w'):jb w' v l:=by
 obtain⟨q,b,off,cap,a,c,d,e⟩:=h;exact⟨q,b,off,cap,a,c,d.below f,e⟩
def pg (s p:Int) (e:Ent):Bool:=e.1==s&&e.2.1==p
def DM (w:World) (h:Nat) (s p:Int):Prop:=w.cell? ⟨h,0,none⟩=some (.int .i64 s)∧w.cell? ⟨h+1,0,none⟩=some (.int .i64 p)
theorem DM.below {w w':World} {h:Nat} {s p:Int} (k:DM w h s p) (a:Below w.heap.size w w'):DM w' h s p:=
 ⟨(a.cell (aj _ _ k.1)).trans k.1,(a.cell (aj _ _ k.2)).trans k.2⟩
theorem vu (s p:Int) (w:World):
  Calls Tryz.prog 199 #[.int .i64 s,.int .i64 p] w fun e w'=>e=.returned (.func (.func 246) #[] #[.pointer (some ⟨w.heap.size,0,none⟩),.pointer (some ⟨w.heap.size+1,0,none⟩)])∧DM w' w.heap.size s p∧Below w.heap.size w w':=by
 have b:∀(a:Fn) (first cap:Array Value) (w:World),(Instr.makeFunc a first cap).run Tryz.prog w=.ok (.func a first cap) w:=fun _ _ _ _=>rfl;go_enter Tryz.func199,Tryz.ntmps199
 go_wp2_with fail
 go_ret
 exact⟨rfl,⟨fe (cq w #[.int .i64 s] 3) oS _ 0,ir (w.alloc (.cells #[.int .i64 s] 3)) #[.int .i64 p] 3 (w.heap.size+1) oS 0⟩,bal (bal (af _ _) _) _⟩
theorem Fe (e:Ent) (h:Nat) (s p:Int) (w:World) (b:DM w h s p):
  Calls Tryz.prog 246 #[.agg #[.int .i64 e.1,.int .i64 e.2.1,.int .i64 e.2.2.1,.bool e.2.2.2],.pointer (some ⟨h,0,none⟩),.pointer (some ⟨h+1,0,none⟩)] w fun r w'=>r=.returned (.bool (pg s p e))∧Below w.heap.size w w':=by
 obtain⟨x,y,z,u⟩:=e;have k:=b.below (bal (af _ _) (.cells #[.int .i64 x,.int .i64 y,.int .i64 z,.bool u] 40));obtain⟨c,k1⟩:=k;have a:=hid (show pg s p (x,y,z,u)=(x==s&&y==p) from rfl)
 cases hx:(x==s) with
 |true=>
  go_enter Tryz.func246,Tryz.ntmps246
  go_wp2_with fail
  go_ret
  exact⟨by rw[a.out,hx];rfl,bal (af _ _) _⟩
 |false=>
  go_enter Tryz.func246,Tryz.ntmps246
  go_wp2_with fail
  go_ret
  exact⟨by rw[a.out,hx];rfl,bal (af _ _) _⟩
def ixV (p:Ent->Bool) (l:List Ent):Int:=if l.findIdx p<l.length then (l.findIdx p:Int) else -1
theorem vi (v:Value) (l:List Ent) (h:Nat) (s p:Int) (w:World) (hv:jb w v l) (C:DM w h s p):
  Calls Tryz.prog 198 #[v,.func (.func 246) #[] #[.pointer (some ⟨h,0,none⟩),.pointer (some ⟨h+1,0,none⟩)]] w fun r w'=>r=.returned (.int .i64 (ixV (pg s p) l))∧Below w.heap.size w w':=by
 obtain⟨q,b,off,cap,rfl,E,H,hl⟩:=hv;have z:=hid E;have A:=hid H;have x:=hid C;have K:(l.length:Int)<=100:=oA;go_enter Tryz.func198,Tryz.ntmps198
 go_wp2_with fail
 go_loopw [8] (fun i wr=>∃k:Nat,k<=l.length∧i=.int .i64 k∧Hid ((∀j (c:j<l.length),j<k->pg s p l[j]=false)∧Below w.heap.size w wr)) (fun i _=>l.length - (intOf i).toNat)
 case atStart=>exact⟨0,oA,rfl,fun j _ h=>oA,af _ _⟩
 case round=>
  obtain⟨k,hk,rfl,a⟩:=hrel;by_cases m:k<l.length
  ·have d:(k:Int)<(l.length:Int):=oA;have F:=z.out oA;subst F;obtain⟨c0,c1,c2,B⟩:=(A.below a.2) k m;have t:=hid (fun W (g:Below w.heap.size w W)=>Fe l[k] h s p W (x.below g));have o:=hid (show pg s p l[k]=true->ixV (pg s p) l=k from fun G=>by
    have:l.findIdx (pg s p)=k:=(List.findIdx_eq m).2 ⟨G,fun j c=>a.1 j oA c⟩;unfold ixV;rw[this,ag m])
   have u:=hid (show pg s p l[k]=false->∀j (c:j<l.length),j<k+1->pg s p l[j]=false from fun D j c J=>by
    by_cases e:j=k
    ·subst e;exact D
    ·exact a.1 j c oA)
   generalize l[k]=e at c0 c1 c2 B t o u;go_wp2_with fail
   refine (t.out _ a.2).mono ?_;rintro r w1 ⟨rfl,g⟩;have n:=hid (btr a.2 g)
   cases hpe:pg s p e with
   |true=>
    have f:=hid (o.out hpe);go_wp2_with fail
    go_ret
    exact⟨by rw[f.out];rfl,n.out⟩
   |false=>
    have y:=hid (u.out hpe);go_wp2_with fail
    exact⟨⟨k+1,oA,by go_num,y.out,n.out⟩,by simp[intOf];omega⟩
  ·obtain rfl:k=l.length:=oA;have I:¬((l.length:Int)<(l.length:Int)):=oA;have f:=hid (show ixV (pg s p) l= -1 by
    unfold ixV;rw[ae];intro d;have:=List.findIdx_getElem (w:=d);rw[a.1 _ d d] at this
    cases this)
   go_wp2_with fail
   go_ret
   exact⟨by rw[f.out];rfl,a.2⟩
def jc (l:List Ent) (s p:Int):Ent×Bool:=if h:l.findIdx (pg s p)<l.length then (l[l.findIdx (pg s p)],true) else ((0,0,0,false),false)
def iF (r:Ent×Bool):Value:=.tuple #[.agg #[.int .i64 r.1.1,.int .i64 r.1.2.1,.int .i64 r.1.2.2.1,.bool r.1.2.2.2],.bool r.2]
theorem tP {l:List Ent} {s p:Int} {k:Nat} (hk:k<l.length) (h:l.findIdx (pg s p)=k):jc l s p=(l[k],true):=by
 subst h;unfold jc;rw[dif_pos hk]
theorem wO {l:List Ent} {s p:Int} (h:¬l.findIdx (pg s p)<l.length):jc l s p=((0,0,0,false),false):=by
 unfold jc;rw[dif_neg h]
theorem hQ (w:World):∀k,k<4->(w.alloc (.cells #[.int .i64 0,.int .i64 0,.int .i64 0,.bool false] 40)).frozen? ⟨w.heap.size,k,none⟩=false:=fun k _=>oS
theorem zu (v:Value) (l:List Ent) (s p:Int) (w:World) (hv:jb w v l):
  Calls Tryz.prog 148 #[v,.int .i64 s,.int .i64 p] w fun r w'=>r=.returned (iF (jc l s p))∧Below w.heap.size w w':=by
 have G:=hid hv;obtain⟨q,b,off,cap,rfl,K,M,hl⟩:=hv;have F:=hid K;have H:=hid M;have o:=hid (bal (af w.heap.size w) (.cells #[.int .i64 0,.int .i64 0,.int .i64 0,.bool false] 40));have i:=hid (cq w #[.int .i64 0,.int .i64 0,.int .i64 0,.bool false] 40);have s0:(w.alloc (.cells #[.int .i64 0,.int .i64 0,.int .i64 0,.bool false] 40)).heap.size=w.heap.size+1:=oS;have j:=hid (hQ w);go_enter Tryz.func148,Tryz.ntmps148
 go_wp2_with fail
 refine (vu s p _).mono ?_;generalize World.alloc _ _=W at o i s0 j ⊢;rintro r w1 ⟨rfl,D,f⟩;have I:=hid D;have t:=hid (btr o f);have A:=hid (cT i oA f);have J:=hid (fun k (hk:k<4)=>(f.frozen (p:=⟨w.heap.size,k,none⟩) (by simp;omega)).trans (j.out k hk));clear D f i j s0;go_wp2_with fail
 refine (vi _ l W.heap.size s p w1 (G.below t) I).mono ?_;rintro r w2 ⟨rfl,n⟩;have g:=hid (btr t n);have E:=aj w1 ⟨w.heap.size,0,none⟩ (A.out 0);have B:=cT A E n;have d:=hid (fun k (hk:k<4)=>(n.frozen (p:=⟨w.heap.size,k,none⟩) E).trans (J.out k hk));have z0:=d.out 0 oD;have P:=d.out 1 oD;have Q:=d.out 2 oD;have R:=d.out 3 oD;by_cases a:l.findIdx (pg s p)<l.length
 ·have L:=F.out oA;subst L;have h:=hid (show ixV (pg s p) l=(l.findIdx (pg s p):Int) by unfold ixV;rw[ag a]);have c:=hid (tP a rfl);obtain⟨c0,c1,c2,C⟩:=(H.below g) _ a;rw[h.out];generalize l[l.findIdx (pg s p)]=e at c c0 c1 c2 C;generalize l.findIdx (pg s p)=k at*;have N:(k:Int)<(l.length:Int):=oA;have O:¬((k:Int)<0):=oA;obtain⟨x,y,z,u⟩:=e;simp only at c0 c1 c2 C;go_wp2_with fail
  have m:=jA (v0:=.int .i64 x) (v1:=.int .i64 y) (v2:=.int .i64 z) (v3:=.bool u) B;refine ar (v:=iF ((x,y,z,u),true)) (by simp[iF,results,Tryz.results148,go_sem,m]) rfl ⟨by rw[c.out],?_⟩;exact iq (iq (iq (iq g (aq _) _) (aq _) _) (aq _) _) (aq _) _
 ·have h:=hid (show ixV (pg s p) l= -1 by unfold ixV;rw[ae a]);have c:=hid (wO a);rw[h.out];go_wp2_with fail
  have m:=jA (v0:=.int .i64 0) (v1:=.int .i64 0) (v2:=.int .i64 0) (v3:=.bool false) B;refine ar (v:=iF ((0,0,0,false),false)) (by simp[iF,results,Tryz.results148,go_sem,m]) rfl ⟨by rw[c.out],?_⟩;exact iq (iq (iq (iq g (aq _) _) (aq _) _) (aq _) _) (aq _) _
theorem mN:(Tryz.prog.info? 40).map (fun i=>(i.zero,i.size,i.bytes))=some (some (.agg #[.int .i64 0,.int .i64 0,.int .i64 0,.bool false]),4,32):=oK
def fo (l:List Ent):List Value:=l.flatMap fun q=>[.int .i64 q.1,.int .i64 q.2.1,.int .i64 q.2.2.1,.bool q.2.2.2]
theorem mw (q:Ent) (l:List Ent):fo (q::l)=.int .i64 q.1::.int .i64 q.2.1::.int .i64 q.2.2.1::.bool q.2.2.2::fo l:=rfl
theorem kU (l:List Ent):(fo l).length=l.length*4:=by
 induction l with
 |nil=>rfl
 |cons q l ih=>
  rw[mw];simp only[dY,ih];omega
theorem kx (l:List Ent) (j:Nat) (h:j<l.length):(fo l)[j*4]? =some (.int .i64 l[j].1)∧(fo l)[j*4+1]? =some (.int .i64 l[j].2.1)∧(fo l)[j*4+2]? =some (.int .i64 l[j].2.2.1)∧(fo l)[j*4+3]? =some (.bool l[j].2.2.2):=by
 induction l generalizing j with
 |nil=>simp at h
 |cons q l ih=>
  rw[mw]
  cases j with
  |zero=>exact⟨rfl,rfl,rfl,rfl⟩
  |succ j=>
   have:=ih j (by simpa using h);have e2:(j+1)*4=j*4+4:=oA;rw[e2];exact this
theorem fO (a b c:Int) (d:Bool):∀x∈[Value.int .i64 a,.int .i64 b,.int .i64 c,.bool d],x.oneCell'=true:=by
 intro x e;simp at e;rcases e with rfl|rfl|rfl|rfl<;>rfl
