/- Qad -/
import Derived.BigQuiet
import Derived.Deep.RegionHeld3
import Derived.BigGuard
import Derived.BigCall
import Derived.Test.YtaejnmmpddbbjaaGreatDoorChecked
import Derived.Test.YtaejnmmpddbbjaaGreatDoorQac
namespace Go.Proofs.YtaejnmmpddbbjaaGreatDoor
open Go.RowKit
theorem chk_plain (k b l m r g:Int):KP.chk k b l m r g=
  if k<0∨8<k then 3 else if k=0 then (if b=0∧l=0∧m=0∧r=0∧g=0 then 0 else 2)
  else if ¬(1≤l∧l≤24∧0≤b∧b≤24 - l∧(k=1→0≤m∧m≤l)∧(k≠1→l=1∧m=0)) then 2
  else if r<0∨7<r then 4
  else if ¬(0≤g∧g≤65535∧(k≠7→k≠8→g=0)) then 2 else 0:=by
 have a:=KP.fitsB_iff k b l m;have c:=KP.badgeB_iff k g;unfold KP.chk;simp only[←a, ←c,Bool.not_eq_true]
theorem far_any (v a:Int) (w:World):
  Calls Tryz.prog 33 #[.int .i64 v,.int .i64 a] w fun e w'=>e=.returned (.bool (decide (v<0∨a<v)))∧w=w':=by
 go_enter Tryz.func33,Tryz.ntmps33
 go_wp2
 all_goals
  go_ret
  exact⟨ret_bool (by first|rfl|simp|(rw[Bool.eq_iff_iff];simp;omega)),rfl⟩
end Go.Proofs.YtaejnmmpddbbjaaGreatDoor
namespace Go.Proofs.YtaejnmmpddbbjaaGreatDoor.Wd
open Go.RowKit Mem Bw Nums Mmu
def kv (s:Nat→Int):Array Value:=#[.int .i64 (s 0),.int .i64 (s 1),.int .i64 (s 2),.int .i64 (s 3),.int .i64 (s 4),.int .i64 (s 5)]
def kc (s:Nat→Int):Int:=KP.chk (s 0) (s 1) (s 2) (s 3) (s 4) (s 5)
def anB (x y:Int):Int:=bits .andNot .i64 x y
def cmB (f s:Nat→Int):Bool:=if f 0=1 then s 0 !=1&&decide (f 1≤s 1∧s 1≤f 1+f 3 - 1) else s 0==f 0&&s 1==f 1&&anB (s 4) (f 4)==0&&(f 5==0||s 5==f 5)
def up (p:PW):Nat→Int→Int
 |0,a=>a
 |n+1,a=>if slotB p a then up p n ((p.slots.getD a.toNat (fun _=> -1)) 6) else a
def endB (p:PW) (a:Int):Bool:=slotB p (up p p.slots.length a)
theorem up_no {p:PW} {a:Int} (h:slotB p a=false):∀n,up p n a=a
 |0=>rfl
 |n+1=>by unfold up;rw[h];rfl
theorem slotB_in {p:PW} {a:Int} (h:slotB p a=true):∃j:Nat,a=j∧j<p.slots.length:=by
 have b:=az h;exact⟨a.toNat,by omega,by omega⟩
theorem up_yes {p:PW} {j n:Nat} (a:j<p.slots.length):up p (n+1) j=up p n (p.slots[j] 6):=by
 have h:slotB p (j:Int)=true:=aF (by omega);rw[up,h,ag rfl,ah,aa,ac a];rfl
def opB (p:PW) (s:Nat→Int):Bool:=kc s==0&&decide (s 1+s 2≤(p.kinds.length:Int))&&(s 0==1||isB p (s 1) (s 0))
def fromV (p:PW) (s:Nat→Int):Nat→Int:=p.slots.getD (s 6).toNat fun _=> -1
def mdB (p:PW) (s:Nat→Int):Bool:=s 6== -1||(slotB p (s 6)&&(kc (fromV p s)==0&&cmB (fromV p s) s))
theorem range_at0 {W:World} {b o:Nat} {cs:List Value} {v:Value} (h:W.rangeAt b o cs) (a:cs[0]? =some v):W.cell? ⟨b,o,none⟩=some v:=by
 have:=ey h a
 rwa [bz] at this
def atV (p:PW) (t:Int):Int:=match p.tasks[t.toNat]? with|some f=>f 14|none=> -1
def wtB (p:PW) (t:Int):Bool:=match p.tasks[t.toNat]? with|some f=>f 9==4|none=>false
def tB (p:PW) (n z0 t:Int):Bool:= !(isB p t 6&&atV p t==n&&wtB p t==wtB p z0)
def hdB (k x:Int) (n:Nat):Bool:=(decide (0<n)&&k !=8&&k !=7)||(x !=0&&(k !=8||decide (0<n)|| !wB x))
def blB (p:PW) (n k x:Int) (zs:List Int):Bool:=hdB k x zs.length||zs.any (tB p n (zs.getD 0 0))
theorem tB_in {p:PW} {n a t:Int} (h:tB p n a t=false):isB p t 6=true:=by
 unfold tB at h;simp only[cD,am] at h;exact h.1.1
def within (a b z:Int):Bool:=decide (a≤z∧z≤b)
def regB (f:Nat→Int):Bool:=(List.range 8).all fun k=>wB (f k)
def nfB (p:PW) (f:Nat→Int):Bool:=regB f&&wB (f 8)&&wB (f 15)&&wB (f 16)&&within 0 6 (f 9)&&within 0 3 (f 10)&&within 0 ((p.cores.length:Int) - 1) (f 18)&&within 0 3 (f 19)
theorem reg_yes {f:Nat→Int} (h:∀k,k<8→wB (f k)=true):regB f=true:=aQ.2 fun k hk=>h k (List.mem_range.1 hk)
def ffB (p:PW) (f:Nat→Int):Bool:=isOrB p (f 11) 5&&isOrB p (f 12) 4&&isOrB p (f 13) 7&&isOrB p (f 17) 6
def ow (n:Int) (z:Nat→Int):Nat:=if z 17=n then 1 else 0
def stV (p:PW) (t:Int):Int:=match p.tasks[t.toNat]? with|some f=>f 9|none=> -1
theorem stV_at {p:PW} {j:Nat} (h:j<p.tasks.length):stV p j=p.tasks[j] 9:=by
 unfold stV;rw[ah,ac h]
def owB (p:PW) (f:Nat→Int):Bool:=f 17== -1||(stV p (f 17)==5&&f 9 !=4)
def dbB (p:PW) (n:Int) (f:Nat→Int):Bool:=owB p f&&(if f 9=5 then ((sumOf (ow n) p.tasks:Nat):Int)==1 else ((sumOf (ow n) p.tasks:Nat):Int)==0)
def pl (s:Int):Int:=if s=2∨s=3∨s=4 then 7 else if s=6 then 8 else 0
def rrB (p:PW) (n:Int) (f:Nat→Int):Bool:=if f 9=1 then ((cn n p.cores+cna n p.ready:Nat):Int)==1 else ((cn n p.cores+cna n p.ready:Nat):Int)==0
def zkB (s:Nat→Int):Bool:=decide (s 0=0∧s 1=0∧s 2=0∧s 3=0∧s 4=0∧s 5=0)
def bsB (p:PW) (kd:Int) (s:Nat→Int):Bool:=if zkB s then s 6 != -1 else !(kd==5&&opB p s&&mdB p s&& !endB p (s 6))
def srB (p:PW) (n:Int) (f:Nat→Int):Bool:=if pl (f 9)=0 then f 14== -1&&((cna n p.lines:Nat):Int)==0 else isB p (f 14) (pl (f 9))&&((cna n p.lines:Nat):Int)==1&&((cn n (p.lines.getD (f 14).toNat []):Nat):Int)==1
def blB20 (f:Nat→Int):Bool:=(List.range 20).all fun k=>f k==bl k
theorem blB20_iff {f:Nat→Int}:blB20 f=true↔∀k,k<20→f k=bl k:=by
 unfold blB20;rw[aQ];constructor
 ·intro h k hk;simpa using h k (List.mem_range.2 hk)
 ·intro h k hk;simpa using h k (List.mem_range.1 hk)
def btB (p:PW) (n kind:Int) (f:Nat→Int):Bool:=if kind=6 then !(nfB p f&&ffB p f&&dbB p n f&&srB p n f&&rrB p n f) else !blB20 f
theorem owes_in {p:PW} {f:Nat→Int} (c:p.tasks.length=p.kinds.length) (h:ffB p f=true):f 17= -1∨∃j:Nat,j<p.tasks.length∧f 17=j:=by
 unfold ffB at h;rw[am] at h;have a:=h.2;unfold isOrB at a;rw[cd] at a;rcases a with a|a
 ·exact .inl (by simpa using a)
 ·obtain⟨j,e,b⟩:=isB_in a;exact .inr ⟨j,by omega,e⟩
def emB (p:PW) (l:List Ent) (j:Nat) (e:Ent):Bool:=(l.take j).any (pg e.1 e.2.1)|| !toldB p e
def bmB (p:PW) (l:List Ent):Bool:=decide (4<l.length)||(List.range l.length).any fun j=>match l[j]? with|some e=>emB p l j e|none=>false
theorem emB_told {p:PW} {l:List Ent} {j:Nat} {e:Ent} (h:emB p l j e=false):toldB p e=true∧(l.take j).any (pg e.1 e.2.1)=false:=by
  unfold emB at h;rw[d6] at h;exact⟨by simpa using h.2,h.1⟩
def lk {α:Type} (bad:Nat→α→Bool) (l:List α):Option Nat:=(List.range l.length).find? fun k=>match l[k]? with|some x=>bad k x|none=>false
theorem lk_none {α:Type} {a:Nat→α→Bool} {l:List α} (h:∀k (hk:k<l.length),a k l[k]=false):lk a l=none:=by
 unfold lk;rw[List.find?_eq_none];intro k hk;have b:=List.mem_range.1 hk;rw[ac b];simp[h k b]
theorem _root_.Go.Proofs.YtaejnmmpddbbjaaGreatDoor.eC:type_of% @lk_none:= @lk_none
theorem getD_at {α:Type} {l:List α} {k:Nat} {d:α} (h:k<l.length):l.getD k d=l[k]:=by
 rw[aa,ac h];rfl
def firstOf:List (Int×Option Nat)→Int×Int
 |[]=>(0, -1)
 |(e,some k)::_=>(e,k)
 |(_,none)::r=>firstOf r
def looks (p:PW):List (Int×Option Nat):=[(1,lk (fun _ x=>nwB x) p.ram),(3,lk (fun _ x=>nkB x) p.kinds),(2,lk (fun _ x=>nd x) p.doms),(8,lk (fun k s=>bsB p (p.kinds.getD (k/16) 0) s) p.slots),(8,lk (fun k x=>bfB p k x) p.kinds),(8,lk (fun k f=>btB p k (p.kinds.getD k 0) f) p.tasks),(8,lk (fun k l=>blB p k (p.kinds.getD k 0) (p.bits.getD k 0) l) p.lines),(8,lk (fun k t=>bcB p k t) p.cores),(8,lk (fun k l=>brB p k l) p.ready),(9,lk (fun k x=>beB p (p.kinds.getD (k/16) 0) x) p.ram),(9,lk (fun _ l=>bmB p l) p.tlbs)]
def wmA (p:PW):Int×Int:=if lfB p&&within 0 1000000 p.time then firstOf (looks p) else (2, -1)
theorem kb_of {p:PW} {g:Nat→Int} (h:∀k (hk:k<p.slots.length),bsB p (g k) p.slots[k]=false):∀s∈p.slots,KB s:=fun s c=>by
 obtain⟨k,hk,rfl⟩:=List.mem_iff_getElem.1 c;have a:=h k hk;generalize p.slots[k]=s at a ⊢;have b:kc s=0:=by
  unfold bsB at a;split at a
  ·rename_i hz;have:=az hz;unfold kc;rw[this.1];exact KP.chk_2 this.2
  ·unfold opB at a;simp only[cD,am,bp] at a;exact a.1.1.2.1.1
 obtain⟨-, -,b0,b1,l0,l1,m0,m1, -, -, -, -⟩:=KP.chk_zero b;refine⟨b0,by omega,l0,by omega,m0,by omega,fun d=>?_⟩;have h:KP.chk (s 0) (s 1) (s 2) (s 3) (s 4) (s 5)=0:=b;rw[chk_plain] at h;split at h
 ·omega
 split at h
 ·omega
 split at h
 ·omega
 ·omega
theorem farW (v a:Int) (w:World):Calls Tryz.prog 33 #[.int .i64 v,.int .i64 a] w fun e w'=>e=.returned (.bool (!within 0 a v))∧w=w':=
 (Isa.far_any v a w).mono fun r w' h=>⟨by
  rw[h.1];unfold within;by_cases hh:0≤v∧v≤a
  ·rw[aF hh,ay (by omega)];rfl
  ·rw[ay hh,aF (by omega)];rfl,h.2⟩
end Go.Proofs.YtaejnmmpddbbjaaGreatDoor.Wd
namespace Go.Proofs.YtaejnmmpddbbjaaGreatDoor.Cpu
open Go.RowKit Mem Bw
set_option maxHeartbeats 4000000
theorem bitwise_any (o:Int) (i:o=6∨o=7∨o=8) (a b:Nat) (p:a<65536) (q:b<65536) (w:World):
  Calls Tryz.prog 34 #[.int .i64 a,.int .i64 b,.int .i64 o] w fun e w'=>e=.returned (.int .i64 (bw o a b:Nat))∧w=w':=by
 have l:=hid (bw_lt o a b p q);have n:=hid (fun k=>bw_step o a b k i);have m:=hid i;clear i;go_enter Tryz.func34,Tryz.ntmps34
 go_wp2_with fail
 go_loopw [7,8] (fun x d wr=>∃k D u:Nat,k≤16∧d=.int .i64 D∧x=.int .i64 u∧Hid (D=2 ^ k∧u=bw o a b%2 ^ k)∧wr=w) (fun _ d _=>65536*2 - (intOf d).toNat)
 case atStart=>exact⟨0,1,0,by omega,rfl,rfl,⟨rfl,by simp[Nat.mod_one]⟩,rfl⟩
 case round=>
  obtain⟨k,D,u,hk,rfl,rfl,c,rfl⟩:=hrel;have t:0<D:=by rw[c.1];exact Nat.two_pow_pos k
  have A:(D:Int)≠0:=by omega
  have E:u<65536:=by rw[c.2];exact Nat.lt_of_le_of_lt (Nat.mod_le _ _) l
  by_cases C:k<16
  ·have z:D≤32768:=by
    rw[c.1];exact aD (Nat.pow_le_pow_right (by decide) (by omega:k≤15)) (by decide)
   have v:(D:Int)<65536:=by omega
   have I:(a:Int).tdiv (D:Int)=((a/D:Nat):Int):=by rw[bR (by omega)];simp
   have J:(b:Int).tdiv (D:Int)=((b/D:Nat):Int):=by rw[bR (by omega)];simp
   have la:a/D<65536:=Nat.lt_of_le_of_lt (Nat.div_le_self _ _) p;have H:b/D<65536:=Nat.lt_of_le_of_lt (Nat.div_le_self _ _) q;have j:=hid (show hit o a b k=decide (o=6∧a/D%2+b/D%2=2∨o=7∧0<a/D%2+b/D%2∨o=8∧a/D%2+b/D%2=1) by unfold hit bt;rw[c.1]);generalize a/D=x at*;generalize b/D=y at*;have F:x%2<2:=Nat.mod_lt _ (by decide);have G:y%2<2:=Nat.mod_lt _ (by decide)
   cases hh:hit o a b k with
   |true=>
    have f:=hid (show D*2=2 ^ (k+1)∧u+D=bw o a b%2 ^ (k+1) from⟨by rw[c.1,Nat.pow_succ],by rw[n.out k,hh,ag rfl,c.2,c.1]⟩);have g:=j.out;rw[hh] at g;have h:=(decide_eq_true_iff.1 g.symm);clear hh g;rcases m with rfl|rfl|rfl
    ·have e1:((x:Int)%2+(y:Int)%2==2)=true:=bp.2 (by omega);clear h;go_wp2_with fail
     exact⟨⟨k+1,D*2,u+D,by omega,by go_num,by go_num,f.out,trivial⟩,by simp[intOf];omega⟩
    ·have e1:(0:Int)<(x:Int)%2+(y:Int)%2:=by omega
     clear h;go_wp2_with fail
     exact⟨⟨k+1,D*2,u+D,by omega,by go_num,by go_num,f.out,trivial⟩,by simp[intOf];omega⟩
    ·have e1:((x:Int)%2+(y:Int)%2==1)=true:=bp.2 (by omega);clear h;go_wp2_with fail
     exact⟨⟨k+1,D*2,u+D,by omega,by go_num,by go_num,f.out,trivial⟩,by simp[intOf];omega⟩
   |false=>
    have f:=hid (show D*2=2 ^ (k+1)∧u=bw o a b%2 ^ (k+1) from⟨by rw[c.1,Nat.pow_succ],by rw[n.out k,hh,ae (by decide),c.2,bz]⟩);have g:=j.out;rw[hh] at g;have h:=(decide_eq_false_iff_not.1 g.symm);clear hh g;rcases m with rfl|rfl|rfl
    ·have e1:((x:Int)%2+(y:Int)%2==2)=false:=beq_eq_false_iff_ne.2 (by omega);clear h;go_wp2_with fail
     exact⟨⟨k+1,D*2,u,by omega,by go_num,rfl,f.out,trivial⟩,by simp[intOf];omega⟩
    ·have e1:¬((0:Int)<(x:Int)%2+(y:Int)%2):=by omega
     clear h;go_wp2_with fail
     exact⟨⟨k+1,D*2,u,by omega,by go_num,rfl,f.out,trivial⟩,by simp[intOf];omega⟩
    ·have e1:((x:Int)%2+(y:Int)%2==1)=false:=beq_eq_false_iff_ne.2 (by omega);clear h;go_wp2_with fail
     exact⟨⟨k+1,D*2,u,by omega,by go_num,rfl,f.out,trivial⟩,by simp[intOf];omega⟩
  ·obtain rfl:k=16:=by omega
   have s:D=65536:=c.1;have B:¬((D:Int)<65536):=by omega
   have r:=hid (show u=bw o a b by rw[c.2];exact Nat.mod_eq_of_lt l);clear s;go_wp2_with fail
   go_ret
   exact⟨ret_int (by show ((u:Nat):Int)=_;rw[r.out]),rfl⟩
set_option maxHeartbeats 200000
theorem bitwise_int (o:Int) (d:o=6∨o=7∨o=8) (a b:Int) (w:World) (a0:0≤a) (a1:a<65536) (b0:0≤b) (b1:b<65536):
  Calls Tryz.prog 34 #[.int .i64 a,.int .i64 b,.int .i64 o] w fun e w'=>e=.returned (.int .i64 (bw o a.toNat b.toNat:Nat))∧w=w':=by
 have c:=bitwise_any o d a.toNat b.toNat (by omega) (by omega) w;rw[show ((a.toNat:Nat):Int)=a by omega,show ((b.toNat:Nat):Int)=b by omega] at c;exact c
end Go.Proofs.YtaejnmmpddbbjaaGreatDoor.Cpu
namespace Go.Proofs.YtaejnmmpddbbjaaGreatDoor.Wd
open Go.RowKit Mem Bw Nums Mmu
theorem key_bounds {s:Nat→Int} (a:kc s=0) (d:¬s 0=0):0≤s 1∧s 1≤23∧1≤s 2∧s 2≤24∧0≤s 4∧s 4≤7:=by
 have h:KP.chk (s 0) (s 1) (s 2) (s 3) (s 4) (s 5)=0:=a;obtain⟨e,k1,b0,b1,l0,l1,m0,m1,f,g,b,c⟩:=KP.chk_zero h;rw[chk_plain] at h;split at h
 ·omega
 split at h
 ·omega
 split at h
 ·omega
 ·omega
def bad0 (_p:PW) (_k:Nat) (x:Int):Bool:=nwB x
def bad1 (_p:PW) (_k:Nat) (x:Int):Bool:=nkB x
def bad2 (_p:PW) (_k:Nat) (x:Int):Bool:=nd x
def bad3 (p:PW) (k:Nat) (x:Nat→Int):Bool:=bsB p (p.kinds.getD (k/16) 0) x
def bad4 (p:PW) (k:Nat) (x:Int):Bool:=bfB p k x
def bad5 (p:PW) (k:Nat) (x:Nat→Int):Bool:=btB p k (p.kinds.getD k 0) x
def bad6 (p:PW) (k:Nat) (x:List Int):Bool:=blB p k (p.kinds.getD k 0) (p.bits.getD k 0) x
def bad7 (p:PW) (k:Nat) (x:Int):Bool:=bcB p k x
def bad8 (p:PW) (k:Nat) (x:List Int):Bool:=brB p k x
def bad9 (p:PW) (k:Nat) (x:Int):Bool:=beB p (p.kinds.getD (k/16) 0) x
def bad10 (p:PW) (_k:Nat) (x:List Ent):Bool:=bmB p x
theorem looks_eq (p:PW):looks p=[(1,lk (bad0 p) p.ram),(3,lk (bad1 p) p.kinds),(2,lk (bad2 p) p.doms),(8,lk (bad3 p) p.slots),(8,lk (bad4 p) p.kinds),(8,lk (bad5 p) p.tasks),(8,lk (bad6 p) p.lines),(8,lk (bad7 p) p.cores),(8,lk (bad8 p) p.ready),(9,lk (bad9 p) p.ram),(9,lk (bad10 p) p.tlbs)]:=rfl
theorem lfB_of {p:PW} (a1:¬(p.kinds.length:Int)<1) (a:¬(24:Int)<p.kinds.length) (b1:¬(p.cores.length:Int)<1) (b2:¬(4:Int)<p.cores.length) (c1:¬(p.doms.length:Int)<1) (c2:¬(8:Int)<p.doms.length) (b:(p.ram.length:Int)=(p.kinds.length:Int)*16) (d2:(p.slots.length:Int)=(p.kinds.length:Int)*16) (c:(p.tasks.length:Int)=p.kinds.length) (d:(p.lines.length:Int)=p.kinds.length) (e:(p.bits.length:Int)=p.kinds.length) (f:(p.ready.length:Int)=(p.cores.length:Int)*4) (g:(p.tlbs.length:Int)=p.cores.length):lfB p=true:=by
 unfold lfB;simp only[am,aU,bp];omega
def sndB (p:PW):Bool:=(wmA p).1==0
theorem firstOf_zero:∀l:List (Int×Option Nat),(∀x∈l,x.1≠0)→(firstOf l).1=0→∀x∈l,x.2=none
 |[],_,_=>fun _ h=>by cases h
 |(e,some k)::r,h,h0=>absurd h0 (h _ (cC ..))
 |(e,none)::r,h,h0=>fun x a=>by
  rcases bQ.1 a with rfl|a
  ·rfl
  ·exact firstOf_zero r (fun y b=>h y (List.mem_cons_of_mem _ b)) h0 x a
theorem lk_all {α:Type} {a:Nat→α→Bool} {l:List α} (h:lk a l=none):∀k (hk:k<l.length),a k l[k]=false:=fun k hk=>by
 unfold lk at h;rw[List.find?_eq_none] at h;have:=h k (List.mem_range.2 hk);rw[ac hk] at this;simpa using this
structure Snd (p:PW):Prop where
 lf:LF p
 tm:within 0 1000000 p.time=true
 b0:∀k (hk:k<p.ram.length),bad0 p k p.ram[k]=false
 b1:∀k (hk:k<p.kinds.length),bad1 p k p.kinds[k]=false
 b2:∀k (hk:k<p.doms.length),bad2 p k p.doms[k]=false
 b3:∀k (hk:k<p.slots.length),bad3 p k p.slots[k]=false
 b4:∀k (hk:k<p.kinds.length),bad4 p k p.kinds[k]=false
 b5:∀k (hk:k<p.tasks.length),bad5 p k p.tasks[k]=false
 b6:∀k (hk:k<p.lines.length),bad6 p k p.lines[k]=false
 b7:∀k (hk:k<p.cores.length),bad7 p k p.cores[k]=false
 b8:∀k (hk:k<p.ready.length),bad8 p k p.ready[k]=false
 b9:∀k (hk:k<p.ram.length),bad9 p k p.ram[k]=false
 b10:∀k (hk:k<p.tlbs.length),bad10 p k p.tlbs[k]=false
theorem snd_of {p:PW} (h:sndB p=true):Snd p:=by
 unfold sndB wmA at h
 cases hl:(lfB p&&within 0 1000000 p.time) with
 |false=>rw[hl] at h;cases h
 |true=>
  rw[hl,ag rfl,looks_eq] at h;have a:=hl;rw[am] at a;have b:=eq_of_beq h;have g:=firstOf_zero _ (by simp) b;exact⟨lfB_in a.1,a.2,lk_all (g (1,lk (bad0 p) p.ram) (by simp)),lk_all (g (3,lk (bad1 p) p.kinds) (by simp)),lk_all (g (2,lk (bad2 p) p.doms) (by simp)),lk_all (g (8,lk (bad3 p) p.slots) (by simp)),lk_all (g (8,lk (bad4 p) p.kinds) (by simp)),lk_all (g (8,lk (bad5 p) p.tasks) (by simp)),lk_all (g (8,lk (bad6 p) p.lines) (by simp)),lk_all (g (8,lk (bad7 p) p.cores) (by simp)),lk_all (g (8,lk (bad8 p) p.ready) (by simp)),lk_all (g (9,lk (bad9 p) p.ram) (by simp)),lk_all (g (9,lk (bad10 p) p.tlbs) (by simp))⟩
theorem snd_op {p:PW} (h:Snd p) {k:Nat} (hk:k<p.slots.length) (b:p.slots[k] 0≠0):opB p p.slots[k]=true:=by
 have a:bsB p (p.kinds.getD (k/16) 0) p.slots[k]=false:=h.b3 k hk;generalize p.slots[k]=s at b a ⊢;unfold bsB at a;rw[show zkB s=false from ay fun c=>b c.1,ae (by decide)] at a;simp only[cD,am] at a;exact a.1.1.2
theorem snd_kb {p:PW} (h:Snd p):∀s∈p.slots,KB s:=kb_of (g:=fun k=>p.kinds.getD (k/16) 0) h.b3
def sAt (p:PW) (n a:Int):Int×Int:=
 if isB p n 5 then (if within 0 255 a then (if a<16 then (n*16+a,0) else
  if (p.slots.getD (n*16+a/16).toNat (fun _=>0)) 0=5 then ((p.slots.getD (n*16+a/16).toNat (fun _=>0)) 1*16+a%16,0) else (0,3)) else (0,2)) else (0,3)
def nkey:Nat→Int:=fun _=>0
theorem snd_key {p:PW} (h:Snd p) {k:Nat} (hk:k<p.slots.length) (b:p.slots[k] 0≠0):0≤p.slots[k] 1∧1≤p.slots[k] 2∧p.slots[k] 1+p.slots[k] 2≤(p.kinds.length:Int)∧0≤p.slots[k] 4∧p.slots[k] 4≤7:=by
 have a:=snd_op h hk b;generalize p.slots[k]=s at b a ⊢;unfold opB at a;simp only[am,bp,aU] at a;obtain⟨b0,b1,l0,l1,c,d⟩:=key_bounds a.1.1 b;exact⟨b0,l0,a.1.2,c,d⟩
theorem sAt_in {p:PW} (h:Snd p) {n a:Int} (b:(sAt p n a).2=0):0≤(sAt p n a).1∧(sAt p n a).1<(p.slots.length:Int):=by
 unfold sAt at b ⊢;have hl:=h.lf.slots
 cases hi:isB p n 5 with
 |false=>rw[hi] at b;simp at b
 |true=>
  obtain⟨j,rfl,f⟩:=isB_in hi;rw[hi] at b;rw[ag rfl] at b ⊢
  cases hw:within 0 255 a with
  |false=>rw[hw] at b;simp at b
  |true=>
   have e:=az hw;rw[hw] at b;rw[ag rfl] at b ⊢;by_cases c:a<16
   ·rw[ag c];simp only;omega
   ·rw[ae c] at b ⊢;have d:((j:Int)*16+a/16).toNat<p.slots.length:=by omega
    rw[aa,ac d] at b ⊢;simp only[aS] at b ⊢;split at b
    ·rename_i h5;rw[ag h5];have:=snd_key h d (by omega);simp only;omega
    ·simp at b
set_option maxRecDepth 100000
set_option maxHeartbeats 4000000
theorem slotAt_ref (vb:Nat) (V:Nat→Value) (p:PW) (n a:Int) (w:World) (d:ViewAt w vb V p) (q:Snd p):
  Calls Tryz.prog 140 #[.pointer (some ⟨vb,0,none⟩),.int .i64 n,.int .i64 a] w fun r w'=>r=.returned (.tuple #[.int .i64 (sAt p n a).1,.int .i64 (sAt p n a).2])∧Below w.heap.size w w':=by
 have o:=hid d;have J:=hid q;have D:=hid d.r;have A:w.cell? ⟨vb,2,none⟩=some (V 2):=af d.r rfl;obtain⟨q2,b2,ad,Q,e2,F,I⟩:=d.v.slots;have Z:(p.slots.length:Int)≤1000:=by have:=d.f.slots;omega
 have Y:(p.kinds.length:Int)≤1000:=by have:=d.f.kinds;omega
 have G:p.slots.length=p.kinds.length*16:=q.lf.slots;have N:=q.lf.k1;obtain rfl:=F (by omega);have L:=hid I;have K:=hid G;clear d q F I G N
 cases hi:isB p n 5 with
 |false=>
  have b:=hid (show sAt p n a=(0,3) by unfold sAt;rw[hi];rfl);have z:¬(kindAt p n).getD (-1)=5:=fun e=>by
   rw[isB_kind (by decide),e] at hi;simp at hi
  have h:=hid (kindOf_any V p n w o.v o.f);clear hi;generalize (kindAt p n).getD (-1)=P at z h;have X:(P !=5)=true:=by simpa using z
  clear z;go_enter Tryz.func140,Tryz.ntmps140
  go_wp2_with (first|((with_reducible refine gld 28 ?_);refine wp_ldWg (by rfl) _ rfl _ rfl V D ?_))
  refine h.mono ?_;rintro r w1 ⟨rfl,l⟩;have g:=hid l;clear l;go_wp2_with fail
  go_ret2
  exact⟨by rw[b.out];rfl,g.out⟩
 |true=>
  obtain⟨j,rfl,U⟩:=isB_in hi;have x:=hid hi;have h:=hid (kindOf_any V p j w o.v o.f);rw[show (kindAt p j).getD (-1)=5 by simpa [isB_kind (p:=p) (f:=(j:Int)) (k:=5) (by decide)] using hi] at h;have W:(j:Int)<(p.kinds.length:Int):=by omega
  clear hi;go_enter Tryz.func140,Tryz.ntmps140
  go_wp2_with (first|((with_reducible refine gld 28 ?_);refine wp_ldWg (by rfl) _ rfl _ rfl V D ?_))
  refine h.mono ?_;rintro r w1 ⟨rfl,l⟩;have g:=hid l;have R:=(l.cell (p:=⟨vb,2,none⟩) (al _ _ A)).trans A;clear l A h;go_wp2_with fail
  refine (farW a 255 _).mono ?_;rintro r w2 ⟨rfl,rfl⟩
  cases hw:within 0 255 a with
  |false=>
   have b:=hid (show sAt p j a=(0,2) by unfold sAt;rw[x.out,hw];rfl);clear hw;go_wp2_with fail
   go_ret2
   exact⟨by rw[b.out];rfl,g.out⟩
  |true=>
   have H:=az hw;obtain⟨m,rfl⟩:∃m:Nat,a=m:=⟨a.toNat,by omega⟩
   have hm:(m:Int)≤255:=H.2;have C:=hid hw;clear hw H;by_cases E:(m:Int)<16
   ·have b:=hid (show sAt p j m=((j:Int)*16+m,0) by unfold sAt;rw[x.out,C.out,ag rfl,ag rfl,ag E]);go_wp2_with fail
    go_ret2
    exact⟨by rw[b.out];rfl,g.out⟩
   ·have t:j*16+m/16<p.slots.length:=by have:=K.out;omega
    have O:((j:Int)*16+(m:Int)/16)=((j*16+m/16:Nat):Int):=by omega
    have c:=range_belowO (L.out (j*16+m/16) t) g;have b:=hid (show sAt p j m=if p.slots[j*16+m/16] 0=5 then (p.slots[j*16+m/16] 1*16+(m:Int)%16,0) else (0,3) by
     unfold sAt;rw[x.out,C.out,ag rfl,ag rfl,ae E,O,ah,aa,ac t];rfl)
    have u:=hid (show KB p.slots[j*16+m/16] from snd_kb J _ (aw t));generalize hy:j*16+m/16=y at*;have ab:(y:Int)<(p.slots.length:Int):=by omega
    have x0:=range_at0 c (cf_at 7 _ 0 (by omega));have x1:=ey c (cf_at 7 _ 1 (by omega));have x2:=ey c (cf_at 7 _ 2 (by omega));have x3:=ey c (cf_at 7 _ 3 (by omega));have x4:=ey c (cf_at 7 _ 4 (by omega));have x5:=ey c (cf_at 7 _ 5 (by omega));generalize p.slots[y]=s at*;have S:=u.b0;have T:=u.b1;have B:=hid (bal g (.cells #[.int .i64 (s 0),.int .i64 (s 1),.int .i64 (s 2),.int .i64 (s 3),.int .i64 (s 4),.int .i64 (s 5)] 78));clear c t u;by_cases i:s 0=5
    ·have M:(s 0 !=5)=false:=by simpa using i
     rw[ag i] at b;clear i;go_wp2_with fail
     go_ret2
     exact⟨by rw[b.out];rfl,B.out⟩
    ·have M:(s 0 !=5)=true:=by simpa using i
     rw[ae i] at b;clear i;go_wp2_with fail
     go_ret2
     exact⟨by rw[b.out];rfl,B.out⟩
set_option maxRecDepth 512
set_option maxHeartbeats 200000
def kOf (s:Nat→Int) (k r:Int):(Nat→Int)×Int:=
 if s 0=0 then (nkey,6) else if s 0=k then (if bits .and .i64 (s 4) r=r then (s,0) else (nkey,4)) else (nkey,3)
def kAt (p:PW) (n a k r:Int):(Nat→Int)×Int:=
 if (sAt p n a).2=0 then kOf (p.slots.getD (sAt p n a).1.toNat nkey) k r else (nkey,(sAt p n a).2)
theorem six_set {W:World} {B:Nat} {v0 v1 v2 v3 v4 v5 a b c d e f:Value} (h:∀o,W.cell? ⟨B,o,none⟩=(#[a,b,c,d,e,f]:Array Value)[o]?):
  ∀o,((((((W.setCell ⟨B,0,none⟩ v0).setCell ⟨B,1,none⟩ v1).setCell ⟨B,2,none⟩ v2).setCell ⟨B,3,none⟩ v3).setCell ⟨B,4,none⟩ v4).setCell ⟨B,5,none⟩ v5).cell? ⟨B,o,none⟩=(#[v0,v1,v2,v3,v4,v5]:Array Value)[o]? :=
 cells_set (cells_set (cells_set (cells_set (cells_set (cells_set h 0 (by simp) v0) 1 (by simp) v1) 2 (by simp) v2) 3 (by simp) v3) 4 (by simp) v4) 5 (by simp) v5
theorem bset6 {w W:World} {v0 v1 v2 v3 v4 v5:Value} (h:Below w.heap.size w W):Below w.heap.size w ((((((W.setCell ⟨w.heap.size,0,none⟩ v0).setCell ⟨w.heap.size,1,none⟩ v1).setCell ⟨w.heap.size,2,none⟩ v2).setCell ⟨w.heap.size,3,none⟩ v3).setCell ⟨w.heap.size,4,none⟩ v4).setCell ⟨w.heap.size,5,none⟩ v5):=
 bset (bset (bset (bset (bset (bset h (au _) _) (au _) _) (au _) _) (au _) _) (au _) _) (au _) _
set_option maxRecDepth 100000
set_option maxHeartbeats 4000000
theorem keyAt_ref (vb:Nat) (V:Nat→Value) (p:PW) (n a k r:Int) (w:World) (j:ViewAt w vb V p) (F:Snd p):
  Calls Tryz.prog 135 #[.pointer (some ⟨vb,0,none⟩),.int .i64 n,.int .i64 a,.int .i64 k,.int .i64 r] w fun x w'=>x=.returned (.tuple #[.agg (kv (kAt p n a k r).1),.int .i64 (kAt p n a k r).2])∧Below w.heap.size w w':=by
 have H:=hid j;have L:=hid F;have ad:=hid j.r;have J:w.cell? ⟨vb,2,none⟩=some (V 2):=af j.r rfl;obtain⟨q2,b2,ap,ai,e2,P,R⟩:=j.v.slots;have ao:(p.slots.length:Int)≤1000:=by have:=j.f.slots;omega
 have an:(p.kinds.length:Int)≤1000:=by have:=j.f.kinds;omega
 have Q:p.slots.length=p.kinds.length*16:=F.lf.slots;have X:=F.lf.k1;obtain rfl:=P (by omega);have M:=hid R;have ab:=hid Q;clear j F P R Q X;have O:=hid (show ∀W:World,Below W.heap.size W (W.alloc (.cells #[.int .i64 0,.int .i64 0,.int .i64 0,.int .i64 0,.int .i64 0,.int .i64 0] 78)) from fun W=>bal (aj _ _) _);have D:=hid (fun W (g:Below w.heap.size w W)=>slotAt_ref vb V p n a W ⟨d9 H.r g,H.v.below g,H.f⟩ L);have u:=hid (fun h=>sAt_in L (n:=n) (a:=a) h);have l:=hid (show kAt p n a k r=if (sAt p n a).2=0 then kOf (p.slots.getD (sAt p n a).1.toNat nkey) k r else (nkey,(sAt p n a).2) from rfl);generalize (sAt p n a).1=t at D u l;generalize (sAt p n a).2=e at D u l;go_enter Tryz.func135,Tryz.ntmps135
 go_wp2_with fail
 refine (D.out _ (O.out w)).mono ?_;rintro r1 w1 ⟨rfl,g⟩;have z:=hid (btr (O.out w) g);have G:=cells_next (cJ w #[.int .i64 0,.int .i64 0,.int .i64 0,.int .i64 0,.int .i64 0,.int .i64 0] 78) (by simp) g;have K:∀o,w1.frozen? ⟨w.heap.size,o,none⟩=false:=fun o=>(g.frozen (p:=⟨w.heap.size,o,none⟩) (by simp)).trans (World.frozen?_alloc_at _ _ _ _ rfl);have N:=hid (show w.heap.size<w1.heap.size by have:=g.size;simp at this;omega);have g2:=(z.cell (p:=⟨vb,2,none⟩) (al _ _ J)).trans J;clear g J D;by_cases E:e=0
 rotate_left
 ·have am:(e !=0)=true:=by simpa using E
  have c:=hid (show kAt p n a k r=(nkey,e) by rw[l.out,ae E]);clear E l u;go_wp2_with fail
  have q:=six_set (v0:=.int .i64 0) (v1:=.int .i64 0) (v2:=.int .i64 0) (v3:=.int .i64 0) (v4:=.int .i64 0) (v5:=.int .i64 0) G;exact aq (v:=.tuple #[.agg (kv nkey),.int .i64 e]) (by simp[results,Tryz.results135,go_sem,kv,nkey,q 0,q 1,q 2,q 3,q 4,q 5]) rfl ⟨by rw[c.out],bset6 z⟩
 subst E;obtain⟨t0,t1⟩:=u.out rfl;obtain⟨y,rfl⟩:∃y:Nat,t=y:=⟨t.toNat,by omega⟩
 have I:y<p.slots.length:=by omega
 have i:=range_belowO (M.out y I) z;have C:=hid (show kAt p n a k r=kOf p.slots[y] k r by rw[l.out,ag rfl,ah,aa,ac I];rfl);have x0:=range_at0 i (cf_at 7 _ 0 (by omega));have x1:=ey i (cf_at 7 _ 1 (by omega));have x2:=ey i (cf_at 7 _ 2 (by omega));have x3:=ey i (cf_at 7 _ 3 (by omega));have x4:=ey i (cf_at 7 _ 4 (by omega));have x5:=ey i (cf_at 7 _ 5 (by omega));generalize p.slots[y]=s at*;have Y:=cJ w1 #[.int .i64 (s 0),.int .i64 (s 1),.int .i64 (s 2),.int .i64 (s 3),.int .i64 (s 4),.int .i64 (s 5)] 78;have B:=cells_alloc G N (.cells #[.int .i64 (s 0),.int .i64 (s 1),.int .i64 (s 2),.int .i64 (s 3),.int .i64 (s 4),.int .i64 (s 5)] 78);have Z:=froz_alloc K N (.cells #[.int .i64 (s 0),.int .i64 (s 1),.int .i64 (s 2),.int .i64 (s 3),.int .i64 (s 4),.int .i64 (s 5)] 78);have A:=hid (bal z (.cells #[.int .i64 (s 0),.int .i64 (s 1),.int .i64 (s 2),.int .i64 (s 3),.int .i64 (s 4),.int .i64 (s 5)] 78));clear i I l u G K M;by_cases b:s 0=0
 ·have S:(s 0==0)=true:=by simpa using b
  have c:=hid (show kAt p n a k r=(nkey,6) by rw[C.out];unfold kOf;rw[ag b]);clear b;go_wp2_with fail
  have q:=six_set (v0:=.int .i64 0) (v1:=.int .i64 0) (v2:=.int .i64 0) (v3:=.int .i64 0) (v4:=.int .i64 0) (v5:=.int .i64 0) B;exact aq (v:=.tuple #[.agg (kv nkey),.int .i64 6]) (by simp[results,Tryz.results135,go_sem,kv,nkey,q 0,q 1,q 2,q 3,q 4,q 5]) rfl ⟨by rw[c.out],bset6 A⟩
 have S:(s 0==0)=false:=by simpa using b
 by_cases d:s 0=k
 rotate_left
 ·have T:(s 0 !=k)=true:=by simpa using d
  have c:=hid (show kAt p n a k r=(nkey,3) by rw[C.out];unfold kOf;rw[ae b,ae d]);clear b d;go_wp2_with fail
  have q:=six_set (v0:=.int .i64 0) (v1:=.int .i64 0) (v2:=.int .i64 0) (v3:=.int .i64 0) (v4:=.int .i64 0) (v5:=.int .i64 0) B;exact aq (v:=.tuple #[.agg (kv nkey),.int .i64 3]) (by simp[results,Tryz.results135,go_sem,kv,nkey,q 0,q 1,q 2,q 3,q 4,q 5]) rfl ⟨by rw[c.out],bset6 A⟩
 have T:(s 0 !=k)=false:=by simpa using d
 by_cases m:bits .and .i64 (s 4) r=r
 rotate_left
 ·have U:(bits .and .i64 (s 4) r !=r)=true:=by simpa using m
  have c:=hid (show kAt p n a k r=(nkey,4) by rw[C.out];unfold kOf;rw[ae b,ag d,ae m]);clear b d m;go_wp2_with fail
  have q:=six_set (v0:=.int .i64 0) (v1:=.int .i64 0) (v2:=.int .i64 0) (v3:=.int .i64 0) (v4:=.int .i64 0) (v5:=.int .i64 0) B;exact aq (v:=.tuple #[.agg (kv nkey),.int .i64 4]) (by simp[results,Tryz.results135,go_sem,kv,nkey,q 0,q 1,q 2,q 3,q 4,q 5]) rfl ⟨by rw[c.out],bset6 A⟩
 have U:(bits .and .i64 (s 4) r !=r)=false:=by simpa using m
 have c:=hid (show kAt p n a k r=(s,0) by rw[C.out];unfold kOf;rw[ae b,ag d,ag m]);clear b d m;go_wp2_with fail
 have q:=six_set (v0:=.int .i64 (s 0)) (v1:=.int .i64 (s 1)) (v2:=.int .i64 (s 2)) (v3:=.int .i64 (s 3)) (v4:=.int .i64 (s 4)) (v5:=.int .i64 (s 5)) B;exact aq (v:=.tuple #[.agg (kv s),.int .i64 0]) (by simp[results,Tryz.results135,go_sem,kv,q 0,q 1,q 2,q 3,q 4,q 5]) rfl ⟨by rw[c.out],bset6 A⟩
set_option maxRecDepth 512
set_option maxHeartbeats 200000
theorem _root_.Go.Proofs.YtaejnmmpddbbjaaGreatDoor.eD:type_of% @keyAt_ref:= @keyAt_ref
end Go.Proofs.YtaejnmmpddbbjaaGreatDoor.Wd
