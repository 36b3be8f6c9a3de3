/- Qae -/
import Derived.Deep.RegionHeld3
import Derived.BigGuard
import Derived.BigCall
import Derived.BigQuiet
import Derived.Test.YtaejnmmpddbbjaaGreatDoorChecked
import Derived.Test.YtaejnmmpddbbjaaGreatDoorQad
set_option maxRecDepth 100000
set_option maxHeartbeats 16000000
namespace Go.Proofs.YtaejnmmpddbbjaaGreatDoor
namespace Wd
open Go.RowKit Mem Bw Nums Mmu
theorem DR (v a:Int) (w:World):Calls Tryz.prog 33 #[.int .i64 v,.int .i64 a] w fun e w'=>e=.returned (.bool (!ed 0 a v))∧w=w':=
 (Isa.eI v a w).mono fun r w' h=>⟨by
  rw[h.1];unfold ed;by_cases hh:0<=v∧v<=a
  ·rw[aD hh,ax oA];rfl
  ·rw[ax hh,aD oA];rfl,h.2⟩
end Wd
namespace Cpu
open Go.RowKit Mem Bw
theorem kO (o:Int) (i:o=6∨o=7∨o=8) (a b:Nat) (p:a<65536) (q:b<65536) (w:World):
  Calls Tryz.prog 34 #[.int .i64 a,.int .i64 b,.int .i64 o] w fun e w'=>e=.returned (.int .i64 (bw o a b:Nat))∧w=w':=by
 have l:=hid (vC o a b p q);have n:=hid (fun k=>yt o a b k i);have m:=hid i;clear i;go_enter Tryz.func34,Tryz.ntmps34
 go_wp2_with fail
 go_loopw [7,8] (fun x d wr=>∃k D u:Nat,k<=16∧d=.int .i64 D∧x=.int .i64 u∧Hid (D=2 ^ k∧u=bw o a b%2 ^ k)∧wr=w) (fun _ d _=>65536*2 - (intOf d).toNat)
 case atStart=>exact⟨0,1,0,oA,rfl,rfl,⟨rfl,by simp[Nat.mod_one]⟩,rfl⟩
 case round=>
  obtain⟨k,D,u,hk,rfl,rfl,c,rfl⟩:=hrel;have t:0<D:=by rw[c.1];exact Nat.two_pow_pos k
  have A:(D:Int)≠0:=oA;have E:u<65536:=by rw[c.2];exact Nat.lt_of_le_of_lt (Nat.mod_le _ _) l
  by_cases C:k<16
  ·have z:D<=32768:=by
    rw[c.1];exact aB (Nat.pow_le_pow_right oD (by omega:k<=15)) oD
   have v:(D:Int)<65536:=oA;have I:(a:Int).tdiv (D:Int)=((a/D:Nat):Int):=by rw[bN oA];simp
   have J:(b:Int).tdiv (D:Int)=((b/D:Nat):Int):=by rw[bN oA];simp
   have la:a/D<65536:=Nat.lt_of_le_of_lt (Nat.div_le_self _ _) p;have H:b/D<65536:=Nat.lt_of_le_of_lt (Nat.div_le_self _ _) q;have j:=hid (show hit o a b k=decide (o=6∧a/D%2+b/D%2=2∨o=7∧0<a/D%2+b/D%2∨o=8∧a/D%2+b/D%2=1) by unfold hit bt;rw[c.1]);generalize a/D=x at*;generalize b/D=y at*;have F:x%2<2:=Nat.mod_lt _ oD;have G:y%2<2:=Nat.mod_lt _ oD
   cases hh:hit o a b k with
   |true=>
    have f:=hid (show D*2=2 ^ (k+1)∧u+D=bw o a b%2 ^ (k+1) from⟨by rw[c.1,Nat.pow_succ],by rw[n.out k,hh,af rfl,c.2,c.1]⟩);have g:=j.out;rw[hh] at g;have h:=(decide_eq_true_iff.1 g.symm);clear hh g;rcases m.out with rfl|rfl|rfl
    ·have e1:((x:Int)%2+(y:Int)%2==2)=true:=bh.2 oA;clear h;go_wp2_with fail
     exact⟨⟨k+1,D*2,u+D,oA,by go_num,by go_num,f.out,trivial⟩,by simp[intOf];omega⟩
    ·have e1:(0:Int)<(x:Int)%2+(y:Int)%2:=oA;clear h;go_wp2_with fail
     exact⟨⟨k+1,D*2,u+D,oA,by go_num,by go_num,f.out,trivial⟩,by simp[intOf];omega⟩
    ·have e1:((x:Int)%2+(y:Int)%2==1)=true:=bh.2 oA;clear h;go_wp2_with fail
     exact⟨⟨k+1,D*2,u+D,oA,by go_num,by go_num,f.out,trivial⟩,by simp[intOf];omega⟩
   |false=>
    have f:=hid (show D*2=2 ^ (k+1)∧u=bw o a b%2 ^ (k+1) from⟨by rw[c.1,Nat.pow_succ],by rw[n.out k,hh,ae oD,c.2,bG]⟩);have g:=j.out;rw[hh] at g;have h:=(decide_eq_false_iff_not.1 g.symm);clear hh g;rcases m.out with rfl|rfl|rfl
    ·have e1:((x:Int)%2+(y:Int)%2==2)=false:=beq_eq_false_iff_ne.2 oA;clear h;go_wp2_with fail
     exact⟨⟨k+1,D*2,u,oA,by go_num,rfl,f.out,trivial⟩,by simp[intOf];omega⟩
    ·have e1:¬((0:Int)<(x:Int)%2+(y:Int)%2):=oA;clear h;go_wp2_with fail
     exact⟨⟨k+1,D*2,u,oA,by go_num,rfl,f.out,trivial⟩,by simp[intOf];omega⟩
    ·have e1:((x:Int)%2+(y:Int)%2==1)=false:=beq_eq_false_iff_ne.2 oA;clear h;go_wp2_with fail
     exact⟨⟨k+1,D*2,u,oA,by go_num,rfl,f.out,trivial⟩,by simp[intOf];omega⟩
  ·obtain rfl:k=16:=oA;have s:=c.1;have B:¬((D:Int)<65536):=oA;have r:=hid (show u=bw o a b by rw[c.2];exact Nat.mod_eq_of_lt l);go_wp2_with fail
   go_ret
   exact⟨nF (by show ((u:Nat):Int)=_;rw[r.out]),rfl⟩
theorem ia (o:Int) (d:o=6∨o=7∨o=8) (a b:Int) (w:World) (a0:0<=a) (a1:a<65536) (b0:0<=b) (b1:b<65536):
  Calls Tryz.prog 34 #[.int .i64 a,.int .i64 b,.int .i64 o] w fun e w'=>e=.returned (.int .i64 (bw o a.toNat b.toNat:Nat))∧w=w':=by
 have c:=kO o d a.toNat b.toNat oA oA w;rw[show ((a.toNat:Nat):Int)=a by omega,show ((b.toNat:Nat):Int)=b by omega] at c;exact c
end Cpu
namespace Wd
open Go.RowKit Mem Bw Nums Mmu
theorem mw {s:Nat->Int} (a:kc s=0) (d:¬s 0=0):0<=s 1∧s 1<=23∧1<=s 2∧s 2<=24∧0<=s 4∧s 4<=7:=by
 have h:KP.chk (s 0) (s 1) (s 2) (s 3) (s 4) (s 5)=0:=a;obtain⟨e,k1,b0,b1,l0,l1,m0,m1,f,g,b,c⟩:=KP.mV h;rw[nV] at h;split at h
 ·omega
 split at h
 ·omega
 split at h
 ·omega
 ·omega
def Ao (_p:PW) (_k:Nat) (x:Int):Bool:=nwB x
def Ap (_p:PW) (_k:Nat) (x:Int):Bool:=nkB x
def Aq (_p:PW) (_k:Nat) (x:Int):Bool:=nd x
def Ar (p:PW) (k:Nat) (x:Nat->Int):Bool:=bsB p (p.kinds.getD (k/16) 0) x
def As (p:PW) (k:Nat) (x:Int):Bool:=bfB p k x
def At (p:PW) (k:Nat) (x:Nat->Int):Bool:=btB p k (p.kinds.getD k 0) x
def Au (p:PW) (k:Nat) (x:List Int):Bool:=blB p k (p.kinds.getD k 0) (p.bits.getD k 0) x
def Av (p:PW) (k:Nat) (x:Int):Bool:=bcB p k x
def Aw (p:PW) (k:Nat) (x:List Int):Bool:=brB p k x
def Cp (p:PW) (k:Nat) (x:Int):Bool:=beB p (p.kinds.getD (k/16) 0) x
def vz (p:PW) (_k:Nat) (x:List Ent):Bool:=bmB p x
theorem nm (p:PW):A8 p=[(1,lk (Ao p) p.Eb),(3,lk (Ap p) p.kinds),(2,lk (Aq p) p.Ee),(8,lk (Ar p) p.DZ),(8,lk (As p) p.kinds),(8,lk (At p) p.DY),(8,lk (Au p) p.lines),(8,lk (Av p) p.D6),(8,lk (Aw p) p.ready),(9,lk (Cp p) p.Eb),(9,lk (vz p) p.D9)]:=rfl
theorem A6 {p:PW} (a1:¬(p.kinds.length:Int)<1) (a:¬(24:Int)<p.kinds.length) (b1:¬(p.D6.length:Int)<1) (b2:¬(4:Int)<p.D6.length) (c1:¬(p.Ee.length:Int)<1) (c2:¬(8:Int)<p.Ee.length) (b:(p.Eb.length:Int)=(p.kinds.length:Int)*16) (d2:(p.DZ.length:Int)=(p.kinds.length:Int)*16) (c:(p.DY.length:Int)=p.kinds.length) (d:(p.lines.length:Int)=p.kinds.length) (e:(p.bits.length:Int)=p.kinds.length) (f:(p.ready.length:Int)=(p.D6.length:Int)*4) (g:(p.D9.length:Int)=p.D6.length):lfB p=true:=by
 unfold lfB;simp only[al,aR,bh];omega
def wZ (p:PW):Bool:=(wmA p).1==0
theorem kl:∀l:List (Int×Option Nat),(∀x∈l,x.1≠0)->(pN l).1=0->∀x∈l,x.2=none
 |[],_,_=>fun _ h=>by cases h
 |(e,some k)::r,h,h0=>absurd h0 (h _ (cg ..))
 |(e,none)::r,h,h0=>fun x a=>by
  rcases bM.1 a with rfl|a
  ·rfl
  ·exact kl r (fun y b=>h y (List.mem_cons_of_mem _ b)) h0 x a
theorem iK {α:Type} {a:Nat->α->Bool} {l:List α} (h:lk a l=none):∀k (hk:k<l.length),a k l[k]=false:=fun k hk=>by
 unfold lk at h;rw[List.find?_eq_none] at h;have:=h k (List.mem_range.2 hk);rw[ac hk] at this;simpa using this
structure Snd (p:PW):Prop where
 lf:LF p
 tm:ed 0 1000000 p.time=true
 b0:∀k (hk:k<p.Eb.length),Ao p k p.Eb[k]=false
 b1:∀k (hk:k<p.kinds.length),Ap p k p.kinds[k]=false
 b2:∀k (hk:k<p.Ee.length),Aq p k p.Ee[k]=false
 b3:∀k (hk:k<p.DZ.length),Ar p k p.DZ[k]=false
 b4:∀k (hk:k<p.kinds.length),As p k p.kinds[k]=false
 b5:∀k (hk:k<p.DY.length),At p k p.DY[k]=false
 b6:∀k (hk:k<p.lines.length),Au p k p.lines[k]=false
 b7:∀k (hk:k<p.D6.length),Av p k p.D6[k]=false
 b8:∀k (hk:k<p.ready.length),Aw p k p.ready[k]=false
 b9:∀k (hk:k<p.Eb.length),Cp p k p.Eb[k]=false
 F6:∀k (hk:k<p.D9.length),vz p k p.D9[k]=false
theorem xW {p:PW} (h:wZ p=true):Snd p:=by
 unfold wZ wmA at h
 cases hl:(lfB p&&ed 0 1000000 p.time) with
 |false=>rw[hl] at h;cases h
 |true=>
  rw[hl,af rfl,nm] at h;have a:=hl;rw[al] at a;have b:=eq_of_beq h;have g:=kl _ oS b;exact⟨uc a.1,a.2,iK (g (1,lk (Ao p) p.Eb) oS),iK (g (3,lk (Ap p) p.kinds) oS),iK (g (2,lk (Aq p) p.Ee) oS),iK (g (8,lk (Ar p) p.DZ) oS),iK (g (8,lk (As p) p.kinds) oS),iK (g (8,lk (At p) p.DY) oS),iK (g (8,lk (Au p) p.lines) oS),iK (g (8,lk (Av p) p.D6) oS),iK (g (8,lk (Aw p) p.ready) oS),iK (g (9,lk (Cp p) p.Eb) oS),iK (g (9,lk (vz p) p.D9) oS)⟩
theorem xX {p:PW} (h:Snd p) {k:Nat} (hk:k<p.DZ.length) (b:p.DZ[k] 0≠0):opB p p.DZ[k]=true:=by
 have a:bsB p (p.kinds.getD (k/16) 0) p.DZ[k]=false:=h.b3 k hk;generalize p.DZ[k]=s at b a ⊢;unfold bsB at a;rw[show zkB s=false from ax fun c=>b c.1,ae oD] at a;simp only[cq,al] at a;exact a.1.1.2
theorem xV {p:PW} (h:Snd p):∀s∈p.DZ,KB s:=CZ (g:=fun k=>p.kinds.getD (k/16) 0) h.b3
def sAt (p:PW) (n a:Int):Int×Int:=
 if isB p n 5 then (if ed 0 255 a then (if a<16 then (n*16+a,0) else
  if (p.DZ.getD (n*16+a/16).toNat (fun _=>0)) 0=5 then ((p.DZ.getD (n*16+a/16).toNat (fun _=>0)) 1*16+a%16,0) else (0,3)) else (0,2)) else (0,3)
def eE:Nat->Int:=fun _=>0
theorem uZ {p:PW} (h:Snd p) {k:Nat} (hk:k<p.DZ.length) (b:p.DZ[k] 0≠0):0<=p.DZ[k] 1∧1<=p.DZ[k] 2∧p.DZ[k] 1+p.DZ[k] 2<=(p.kinds.length:Int)∧0<=p.DZ[k] 4∧p.DZ[k] 4<=7:=by
 have a:=xX h hk b;generalize p.DZ[k]=s at b a ⊢;unfold opB at a;simp only[al,bh,aR] at a;obtain⟨b0,b1,l0,l1,c,d⟩:=mw a.1.1 b;exact⟨b0,l0,a.1.2,c,d⟩
theorem BP {p:PW} (h:Snd p) {n a:Int} (b:(sAt p n a).2=0):0<=(sAt p n a).1∧(sAt p n a).1<(p.DZ.length:Int):=by
 unfold sAt at b ⊢;have hl:=h.lf.DZ
 cases hi:isB p n 5 with
 |false=>rw[hi] at b;simp at b
 |true=>
  obtain⟨j,rfl,f⟩:=tX hi;rw[hi] at b;rw[af rfl] at b ⊢
  cases hw:ed 0 255 a with
  |false=>rw[hw] at b;simp at b
  |true=>
   have e:=ay hw;rw[hw] at b;rw[af rfl] at b ⊢;by_cases c:a<16
   ·rw[af c];simp only;omega
   ·rw[ae c] at b ⊢;have d:((j:Int)*16+a/16).toNat<p.DZ.length:=oA;rw[aa,ac d] at b ⊢;simp only[aT] at b ⊢;split at b
    ·rename_i h5;rw[af h5];have:=uZ h d oA;simp only;omega
    ·simp at b
theorem iV (vb:Nat) (V:Nat->Value) (p:PW) (n a:Int) (w:World) (g:gS w vb V p) (t:Snd p):
  Calls Tryz.prog 140 #[.pointer (some ⟨vb,0,none⟩),.int .i64 n,.int .i64 a] w fun r w'=>r=.returned (.tuple #[.int .i64 (sAt p n a).1,.int .i64 (sAt p n a).2])∧Below w.heap.size w w':=by
 have l:=hid g;have F:=hid t;have B:=hid g.r;have E:=r11 2 g.r;obtain⟨q2,b2,ad,P,e2,J,N⟩:=g.v.DZ;have Z:(p.DZ.length:Int)<=1000:=by have:=g.f.DZ;omega
 have Y:(p.kinds.length:Int)<=1000:=by have:=g.f.kinds;omega
 have K:=t.lf.DZ;have W:=t.lf.k1;obtain rfl:=J oA;have H:=hid N;have G:=hid K
 cases hi:isB p n 5 with
 |false=>
  have b:=hid (show sAt p n a=(0,3) by unfold sAt;rw[hi];rfl);have D:¬(eX p n).getD (-1)=5:=fun e=>by
   rw[qQ oD,e] at hi;simp at hi
  have h:=hid (mx V p n w l.v l.f);generalize (eX p n).getD (-1)=O at D h;have X:(O !=5)=true:=by simpa using D
  go_enter Tryz.func140,Tryz.ntmps140
  go_wp2_with (first|((with_reducible refine gld 28 ?_);refine qn oR _ rfl _ rfl V B ?_))
  refine h.mono ?_;rintro r w1 ⟨rfl,o⟩;have c:=hid o;go_wp2_with fail
  go_ret2
  exact⟨by rw[b.out];rfl,c.out⟩
 |true=>
  obtain⟨j,rfl,T⟩:=tX hi;have q:=hid hi;have h:=hid (mx V p j w l.v l.f);rw[show (eX p j).getD (-1)=5 by simpa [qQ (p:=p) (f:=(j:Int)) (k:=5) oD] using hi] at h;have U:(j:Int)<(p.kinds.length:Int):=oA;go_enter Tryz.func140,Tryz.ntmps140
  go_wp2_with (first|((with_reducible refine gld 28 ?_);refine qn oR _ rfl _ rfl V B ?_))
  refine h.mono ?_;rintro r w1 ⟨rfl,o⟩;have c:=hid o;have Q:=(o.cell (p:=⟨vb,2,none⟩) (aj _ _ E)).trans E;go_wp2_with fail
  refine (DR a 255 _).mono ?_;rintro r w2 ⟨rfl,rfl⟩
  cases hw:ed 0 255 a with
  |false=>
   have b:=hid (show sAt p j a=(0,2) by unfold sAt;rw[q.out,hw];rfl);go_wp2_with fail
   go_ret2
   exact⟨by rw[b.out];rfl,c.out⟩
  |true=>
   have L:=ay hw;obtain⟨m,rfl⟩:∃m:Nat,a=m:=⟨a.toNat,oA⟩
   have hm:=L.2;have A:=hid hw;by_cases C:(m:Int)<16
   ·have b:=hid (show sAt p j m=((j:Int)*16+m,0) by unfold sAt;rw[q.out,A.out,af rfl,af rfl,af C]);go_wp2_with fail
    go_ret2
    exact⟨by rw[b.out];rfl,c.out⟩
   ·have u:j*16+m/16<p.DZ.length:=by have:=G.out;omega
    have M:((j:Int)*16+(m:Int)/16)=((j*16+m/16:Nat):Int):=oA;have d:=fJ (H.out (j*16+m/16) u) c;have b:=hid (show sAt p j m=if p.DZ[j*16+m/16] 0=5 then (p.DZ[j*16+m/16] 1*16+(m:Int)%16,0) else (0,3) by
     unfold sAt;rw[q.out,A.out,af rfl,af rfl,ae C,M,ag,aa,ac u];rfl)
    have z:=hid (xV F _ (aw u));generalize hy:j*16+m/16=y at*;have ab:(y:Int)<(p.DZ.length:Int):=oA;have x0:=iL d (dp 7 _ 0 oA);have x1:=eo d (dp 7 _ 1 oA);have x2:=eo d (dp 7 _ 2 oA);have x3:=eo d (dp 7 _ 3 oA);have x4:=eo d (dp 7 _ 4 oA);have x5:=eo d (dp 7 _ 5 oA);generalize p.DZ[y]=s at*;have R:=z.b0;have S:=z.b1;have x:=hid (bal c (.cells #[.int .i64 (s 0),.int .i64 (s 1),.int .i64 (s 2),.int .i64 (s 3),.int .i64 (s 4),.int .i64 (s 5)] 78));by_cases i:s 0=5
    ·have I:(s 0 !=5)=false:=by simpa using i
     rw[af i] at b;clear i;go_wp2_with fail
     go_ret2
     exact⟨by rw[b.out];rfl,x.out⟩
    ·have I:(s 0 !=5)=true:=by simpa using i
     rw[ae i] at b;go_wp2_with fail
     go_ret2
     exact⟨by rw[b.out];rfl,x.out⟩
def kOf (s:Nat->Int) (k r:Int):(Nat->Int)×Int:=
 if s 0=0 then (eE,6) else if s 0=k then (if bits .and .i64 (s 4) r=r then (s,0) else (eE,4)) else (eE,3)
def kAt (p:PW) (n a k r:Int):(Nat->Int)×Int:=
 if (sAt p n a).2=0 then kOf (p.DZ.getD (sAt p n a).1.toNat eE) k r else (eE,(sAt p n a).2)
theorem lK {W:World} {B:Nat} {v0 v1 v2 v3 v4 v5 a b c d e f:Value} (h:∀o,W.cell? ⟨B,o,none⟩=(#[a,b,c,d,e,f]:Array Value)[o]?):
  ∀o,((((((W.setCell ⟨B,0,none⟩ v0).setCell ⟨B,1,none⟩ v1).setCell ⟨B,2,none⟩ v2).setCell ⟨B,3,none⟩ v3).setCell ⟨B,4,none⟩ v4).setCell ⟨B,5,none⟩ v5).cell? ⟨B,o,none⟩=(#[v0,v1,v2,v3,v4,v5]:Array Value)[o]? :=
 fj (fj (fj (fj (fj (fj h 0 oS v0) 1 oS v1) 2 oS v2) 3 oS v3) 4 oS v4) 5 oS v5
theorem s6 {w W:World} {v0 v1 v2 v3 v4 v5:Value} (h:Below w.heap.size w W):Below w.heap.size w ((((((W.setCell ⟨w.heap.size,0,none⟩ v0).setCell ⟨w.heap.size,1,none⟩ v1).setCell ⟨w.heap.size,2,none⟩ v2).setCell ⟨w.heap.size,3,none⟩ v3).setCell ⟨w.heap.size,4,none⟩ v4).setCell ⟨w.heap.size,5,none⟩ v5):=
 gz (gz (gz (gz (gz (gz h (ar _) _) (ar _) _) (ar _) _) (ar _) _) (ar _) _) (ar _) _
theorem eM (vb:Nat) (V:Nat->Value) (p:PW) (n a k r:Int) (w:World) (l:gS w vb V p) (G:Snd p):
  Calls Tryz.prog 135 #[.pointer (some ⟨vb,0,none⟩),.int .i64 n,.int .i64 a,.int .i64 k,.int .i64 r] w fun x w'=>x=.returned (.tuple #[.agg (kv (kAt p n a k r).1),.int .i64 (kAt p n a k r).2])∧Below w.heap.size w w':=by
 have D:=hid l;have I:=hid G;have ab:=hid l.r;have M:=r11 2 l.r;obtain⟨q2,b2,ao,ad,e2,S,U⟩:=l.v.DZ;have an:(p.DZ.length:Int)<=1000:=by have:=l.f.DZ;omega
 have am:(p.kinds.length:Int)<=1000:=by have:=l.f.kinds;omega
 have T:=G.lf.DZ;have al:=G.lf.k1;obtain rfl:=S oA;have O:=hid U;have Z:=hid T;have K:=hid (show ∀W:World,Below W.heap.size W (W.alloc (.cells zK 78)) from fun W=>bal (ai _ _) _);have E:=hid (fun W (g:Below w.heap.size w W)=>iV vb V p n a W ⟨dV D.r g,D.v.below g,D.f⟩ I);have C:=hid (fun h=>BP I (n:=n) (a:=a) h);have A:=hid (show kAt p n a k r=if (sAt p n a).2=0 then kOf (p.DZ.getD (sAt p n a).1.toNat eE) k r else (eE,(sAt p n a).2) from rfl);generalize (sAt p n a).1=t at E C A;generalize (sAt p n a).2=e at E C A;go_enter Tryz.func135,Tryz.ntmps135
 go_wp2_with fail
 refine (E.out _ (K.out w)).mono ?_;rintro r1 w1 ⟨rfl,g⟩;have m:=hid (btr (K.out w) g);have H:=fp (cD w zK 78) oS g;have N:∀o,w1.frozen? ⟨w.heap.size,o,none⟩=false:=fun o=>(g.frozen (p:=⟨w.heap.size,o,none⟩) oS).trans (World.frozen?_alloc_at _ _ _ _ rfl);have J:=hid (show w.heap.size<w1.heap.size by have:=g.size;simp at this;omega);have g2:=(m.cell (p:=⟨vb,2,none⟩) (aj _ _ M)).trans M;by_cases F:e=0
 rotate_left
 ·have ah:(e !=0)=true:=by simpa using F
  have b:=hid (show kAt p n a k r=(eE,e) by rw[A.out,ae F]);go_wp2_with fail
  have q:=lK (v0:=.int .i64 0) (v1:=.int .i64 0) (v2:=.int .i64 0) (v3:=.int .i64 0) (v4:=.int .i64 0) (v5:=.int .i64 0) H;exact aq (v:=.tuple #[.agg (kv eE),.int .i64 e]) (by simp[results,Tryz.results135,go_sem,kv,eE,q 0,q 1,q 2,q 3,q 4,q 5]) rfl ⟨by rw[b.out],s6 m⟩
 subst F;obtain⟨t0,t1⟩:=C.out rfl;obtain⟨y,rfl⟩:∃y:Nat,t=y:=⟨t.toNat,oA⟩
 have L:y<p.DZ.length:=oA;have i:=fJ (O.out y L) m;have B:=hid (show kAt p n a k r=kOf p.DZ[y] k r by rw[A.out,af rfl,ag,aa,ac L];rfl);have x0:=iL i (dp 7 _ 0 oA);have x1:=eo i (dp 7 _ 1 oA);have x2:=eo i (dp 7 _ 2 oA);have x3:=eo i (dp 7 _ 3 oA);have x4:=eo i (dp 7 _ 4 oA);have x5:=eo i (dp 7 _ 5 oA);generalize p.DZ[y]=s at*;have X:=cD w1 #[.int .i64 (s 0),.int .i64 (s 1),.int .i64 (s 2),.int .i64 (s 3),.int .i64 (s 4),.int .i64 (s 5)] 78;have z:=fV H J (.cells #[.int .i64 (s 0),.int .i64 (s 1),.int .i64 (s 2),.int .i64 (s 3),.int .i64 (s 4),.int .i64 (s 5)] 78);have Y:=sq N J (.cells #[.int .i64 (s 0),.int .i64 (s 1),.int .i64 (s 2),.int .i64 (s 3),.int .i64 (s 4),.int .i64 (s 5)] 78);have u:=hid (bal m (.cells #[.int .i64 (s 0),.int .i64 (s 1),.int .i64 (s 2),.int .i64 (s 3),.int .i64 (s 4),.int .i64 (s 5)] 78));by_cases c:s 0=0
 ·have P:(s 0==0)=true:=by simpa using c
  have b:=hid (show kAt p n a k r=(eE,6) by rw[B.out];unfold kOf;rw[af c]);clear c;go_wp2_with fail
  have q:=lK (v0:=.int .i64 0) (v1:=.int .i64 0) (v2:=.int .i64 0) (v3:=.int .i64 0) (v4:=.int .i64 0) (v5:=.int .i64 0) z;exact aq (v:=.tuple #[.agg (kv eE),.int .i64 6]) (by simp[results,Tryz.results135,go_sem,kv,eE,q 0,q 1,q 2,q 3,q 4,q 5]) rfl ⟨by rw[b.out],s6 u⟩
 have P:(s 0==0)=false:=by simpa using c
 by_cases d:s 0=k
 rotate_left
 ·have Q:(s 0 !=k)=true:=by simpa using d
  have b:=hid (show kAt p n a k r=(eE,3) by rw[B.out];unfold kOf;rw[ae c,ae d]);go_wp2_with fail
  have q:=lK (v0:=.int .i64 0) (v1:=.int .i64 0) (v2:=.int .i64 0) (v3:=.int .i64 0) (v4:=.int .i64 0) (v5:=.int .i64 0) z;exact aq (v:=.tuple #[.agg (kv eE),.int .i64 3]) (by simp[results,Tryz.results135,go_sem,kv,eE,q 0,q 1,q 2,q 3,q 4,q 5]) rfl ⟨by rw[b.out],s6 u⟩
 have Q:(s 0 !=k)=false:=by simpa using d
 by_cases j:bits .and .i64 (s 4) r=r
 rotate_left
 ·have R:(bits .and .i64 (s 4) r !=r)=true:=by simpa using j
  have b:=hid (show kAt p n a k r=(eE,4) by rw[B.out];unfold kOf;rw[ae c,af d,ae j]);clear c d j;go_wp2_with fail
  have q:=lK (v0:=.int .i64 0) (v1:=.int .i64 0) (v2:=.int .i64 0) (v3:=.int .i64 0) (v4:=.int .i64 0) (v5:=.int .i64 0) z;exact aq (v:=.tuple #[.agg (kv eE),.int .i64 4]) (by simp[results,Tryz.results135,go_sem,kv,eE,q 0,q 1,q 2,q 3,q 4,q 5]) rfl ⟨by rw[b.out],s6 u⟩
 have R:(bits .and .i64 (s 4) r !=r)=false:=by simpa using j
 have b:=hid (show kAt p n a k r=(s,0) by rw[B.out];unfold kOf;rw[ae c,af d,af j]);clear c d j;go_wp2_with fail
 have q:=lK (v0:=.int .i64 (s 0)) (v1:=.int .i64 (s 1)) (v2:=.int .i64 (s 2)) (v3:=.int .i64 (s 3)) (v4:=.int .i64 (s 4)) (v5:=.int .i64 (s 5)) z;exact aq (v:=.tuple #[.agg (kv s),.int .i64 0]) (by simp[results,Tryz.results135,go_sem,kv,q 0,q 1,q 2,q 3,q 4,q 5]) rfl ⟨by rw[b.out],s6 u⟩
end Wd
namespace Mem
open Go.RowKit
section
variable {P : Program} {md : Region.Mode} {ops : Array Oper} {Q : Exit -> Act -> World -> Prop} {n1 N : Nat} {R : Nat -> Value -> World -> Prop} {w0 : World} {a0 : Act}
end
end Mem
namespace Wd
open Go.RowKit Mem Bw Nums Mmu
theorem qV (z:Value) (n k:Nat) (a:z.cells=#[z]) (h:k<n):(madeCells z.cells (n*1))[k]? =some z:=by
 unfold madeCells;rw[a];simp[h,Nat.mod_one]
theorem yS:(Tryz.prog.info? 22).map (fun i=>(i.zero,i.size,i.bytes))=some (some (.slice none 0 0),1,24):=oK
theorem A2:(Tryz.prog.info? 31).map (fun i=>(i.zero,i.size,i.bytes))=some (some (.slice none 0 0),1,24):=oK
theorem we (w:World):ey w (.slice none 0 0) []:=⟨none,0,0,0,rfl,fun e=>by simp at e,fun j a=>by simp at a⟩
theorem rC {w:World} {B:Nat} {v:Value} {zs:List Int} (h:w.ownsRow B 3 1 v zs.length (ec zs)):ey w v zs:=by
 rcases h.2 with ⟨rfl,a⟩|⟨g,cap,c,rfl,a,_⟩
 ·rw[List.length_eq_zero_iff.1 a];exact we w
 ·refine⟨some ⟨g,0,none⟩,g,0,cap,rfl,fun _=>rfl,fun j b=>?_⟩;rw[az,h.cellAt j oA];unfold ec;rw[cM,ac b];rfl
theorem _root_.Go.Proofs.YtaejnmmpddbbjaaGreatDoor.de:type_of% @rC:= @rC
theorem nh (zs:List Int):(ec zs).length=zs.length*1:=by simp[ec]
theorem qP (zs:List Int):∀u∈ec zs,u.oneCell'=true:=by
 intro u a;obtain⟨z,_,rfl⟩:=List.mem_map.1 a;rfl
theorem ints_at {w:World} {b off:Nat} {zs:List Int} (h:fu w b off zs):∀(j:Nat) (u:Value),(ec zs)[j]? =some u->w.cell? ((⟨b,off,none⟩:Addr).add j)=some u:=by
 intro j u a;have c:j<zs.length:=by have:=(List.getElem?_eq_some_iff.1 a).1;simpa [ec] using this
 rw[Addr.add_mid,h j c, <-a];simp[ec,c]
