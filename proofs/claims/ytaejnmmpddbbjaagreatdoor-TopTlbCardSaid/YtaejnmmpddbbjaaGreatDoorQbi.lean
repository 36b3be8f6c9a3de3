/- Qbi -/
import Derived.Test.YtaejnmmpddbbjaaGreatDoorQbh
namespace Go.Proofs.YtaejnmmpddbbjaaGreatDoor.Wd
open Go.RowKit Mem Bw Nums Mmu Hex
def fitB (p:PW):Bool:=decide (p.ram.length≤1000)&&(decide (p.kinds.length≤1000)&&(decide (p.slots.length≤1000)&&(decide (p.tasks.length≤1000)&&(decide (p.lines.length≤1000)&&(p.lines.all (fun l=>decide (l.length≤1000))&&(decide (p.bits.length≤1000)&&(decide (p.cores.length≤1000)&&(decide (p.ready.length≤1000)&&(p.ready.all (fun l=>decide (l.length≤1000))&&(decide (p.tlbs.length≤1000)&&(decide (p.doms.length≤1000)&&p.tlbs.all (fun l=>decide (l.length≤100)))))))))))))
theorem fit_of {p:PW} (h:fitB p=true):p.Fits∧∀l∈p.tlbs,l.length≤100:=by
 unfold fitB at h;simp only[am,aU,aQ] at h;obtain⟨a,f,g,i,j,k,m,n,o,b,c,d,e⟩:=h;exact⟨⟨a,f,g,i,j,k,m,n,o,b,c,d⟩,e⟩
def same (a b:ByteArray):Bool:=a.data.toList==b.data.toList
theorem same_eq {a b:ByteArray} (h:same a b=true):a=b:=bytes_ext (by unfold same at h;simpa using h)
theorem same_ne {a b:ByteArray} (h:same a b=false):a≠b:=fun e=>by subst e;unfold same at h;simp at h
def nat (t:ByteArray):Nat:=(Prs.decV t).toNat
def numN (t:ByteArray):Bool:=decide (0≤Prs.decV t)
theorem numN_of {t:ByteArray} (h:numN t=true):numOk t=true∧Prs.decV t=(nat t:Int):=by
 unfold numN at h;have:=az h;refine⟨?_,by unfold nat;omega⟩;unfold numOk;rw[cd];exact .inr h
theorem _root_.Go.Proofs.YtaejnmmpddbbjaaGreatDoor.dp:type_of% @numN_of:= @numN_of
def clC (p:PW) (s b n:Nat):Bool:=fitB p&&(decide (p.slots.length=p.kinds.length*16)&&(decide (s<p.slots.length)&&(decide (opE p s=0)&&(decide (1≤n)&&(decide (b+n≤p.kinds.length)&&((List.range n).all (fun d=>p.kinds.getD (b+d) 0==0)&&p.slots.all (fun s=>s 0 !=1)))))))
theorem clC_ok {p:PW} {b a c:ByteArray} (d:numN b=true) (e:numN a=true) (g:numN c=true) (h:clC p (nat b) (nat a) (nat c)=true):BLine p {p with slots:=p.slots.set (nat b) (clk (nat a) (nat c))} [⟨#[99,108,97,121]⟩,b,a,c]:=by
 unfold clC at h;simp only[am,aU,aQ,List.mem_range,bp,bne_iff_ne] at h;obtain⟨a1,k,l,m,n,o,q,r⟩:=h;obtain⟨u,hl⟩:=fit_of a1;refine bClay u hl (fun t j=>?_) (by simp only[bV,ep,(dp d).2,(dp e).2,(dp g).2]) k l m n o (fun f s b1 b2=>?_) (fun i hi=>r _ (aw hi))
 ·simp only[bQ,dJ,or_false] at j;rcases j with rfl|rfl|rfl
  ·exact (dp d).1
  ·exact (dp e).1
  ·exact (dp g).1
 ·have:=q (f - nat a) (by omega);rw[show nat a+(f - nat a)=f by omega,aa,ac s] at this;exact this
def mkC (p:PW) (kk:Nat) (xk:ByteArray) (n m t:Int):Bool:=fitB p&&(sndB p&&(decide (kk<knB.length)&&(same (knB.getD kk ByteArray.empty) xk&&((List.range kk).all (fun j=> !same (knB.getD j ByteArray.empty) xk)&&decide (mkE p n (2+(kk:Int)) m t=0)))))
theorem mkC_ok {p:PW} {f:Nat} {g a b c:ByteArray} (n:numOk a=true) (o:numOk b=true) (q:numOk c=true) (h:mkC p f g (Prs.decV a) (Prs.decV b) (Prs.decV c)=true):BLine p (mkP p (Prs.decV a) (2+(f:Int)) (Prs.decV b) (Prs.decV c)) [⟨#[109,97,107,101]⟩,g,a,b,c]:=by
 unfold mkC at h;simp only[am,aU,aQ,List.mem_range,dw] at h;obtain⟨a1,i,d,k,l,m⟩:=h;obtain⟨u,hl⟩:=fit_of a1;refine bMake u hl (snd_of i) d ?_ (fun j r s=>?_) (fun t e=>?_) rfl m
 ·have:=same_eq k;rw[aa,ac d] at this;exact this
 ·have:=same_ne (l j s);rw[aa,ac r] at this;exact this
 ·simp only[bQ,dJ,or_false] at e;rcases e with rfl|rfl|rfl
  ·exact n
  ·exact o
  ·exact q
def cpC (p:PW) (i j r g:Nat) (s:Nat→Int):Bool:=fitB p&&(decide (p.slots.length=p.kinds.length*16)&&(decide (boE p i j=0)&&(decide (i<p.slots.length)&&(decide (j<p.slots.length)&&(decide (s 0≠1)&&(decide (r≤7)&&(decide (g≤65535)&&((decide (g=0)||(decide (0<g)&&((decide (s 0=7)||decide (s 0=8))&&decide (s 5=0))))&&(decide (0≤s 4)&&decide (s 4≤7))))))))))
theorem cpC_ok {p:PW} {a b c d:ByteArray} (f:numN a=true) (g:numN b=true) (i:numN c=true) (j:numN d=true) (h:cpC p (nat a) (nat b) (nat c) (nat d) (p.slots.getD (nat a) nkey)=true):
  BLine p {p with slots:=p.slots.set (nat b) (kpS (p.slots.getD (nat a) nkey) (Bw.bw 6 ((p.slots.getD (nat a) nkey) 4).toNat (nat c):Nat) (nat d) (nat a))} [⟨#[99,111,112,121]⟩,a,b,c,d]:=by
 unfold cpC at h;simp only[am,cd,aU] at h;obtain⟨a1,l,m,e,n,o,q,r,s,v,w⟩:=h;obtain⟨u,hl⟩:=fit_of a1;refine bCopy u hl (fun t k=>?_) (by simp only[bV,ep,(dp f).2,(dp g).2,(dp i).2,(dp j).2]) l m e n (by rw[aa,ac e];rfl) o q r s (by omega) (by omega);simp only[bQ,dJ,or_false] at k;rcases k with rfl|rfl|rfl|rfl
 ·exact (dp f).1
 ·exact (dp g).1
 ·exact (dp i).1
 ·exact (dp j).1
def etC (p:PW) (s g f wr:Nat):Bool:=fitB p&&(decide (fmE p s 4=0)&&(decide (g≤255)&&(decide (wr≤1)&&(decide (f<p.kinds.length)&&(decide (p.ram.length=p.kinds.length*16)&&(decide (p.kinds.getD f 0=3)&&decide (p.ram.getD (s*16+g/16) 0=0)))))))
theorem etC_ok {p:PW} {a b c d:ByteArray} (e:numN a=true) (f:numN b=true) (g:numN c=true) (i:numN d=true) (h:etC p (nat a) (nat b) (nat c) (nat d)=true):
  BLine p {p with ram:=p.ram.set (nat a*16+nat b/16) (32768+(nat c:Int))} [⟨#[101,110,116,101,114]⟩,a,b,c,d]:=by
 unfold etC at h;simp only[am,aU] at h;obtain⟨a1,k,l,m,n,o,q,r⟩:=h;obtain⟨s,hl⟩:=fit_of a1;refine bEnterT s hl (fun t j=>?_) (by simp only[bV,ep,(dp e).2,(dp f).2,(dp g).2,(dp i).2]) k l m n o q r;simp only[bQ,dJ,or_false] at j;rcases j with rfl|rfl|rfl|rfl
 ·exact (dp e).1
 ·exact (dp f).1
 ·exact (dp g).1
 ·exact (dp i).1
def epC (p:PW) (s g f wr ev:Nat):Bool:=fitB p&&(decide (fmE p s 4=0)&&(decide (g≤255)&&(decide (wr≤1)&&(decide (f<p.kinds.length)&&(decide (p.ram.length=p.kinds.length*16)&&(decide (p.kinds.getD f 0=2)&&(decide (p.ram.getD (s*16+g/16) 0=(ev:Int))&&(decide (0<ev)&&(decide (ev≤65535)&&(decide (ev%1024*16+g%16<p.ram.length)&&decide (p.ram.getD (ev%1024*16+g%16) 0=0)))))))))))
theorem epC_ok {p:PW} {d a b c:ByteArray} {e:Nat} (f:numN d=true) (g:numN a=true) (i:numN b=true) (j:numN c=true) (h:epC p (nat d) (nat a) (nat b) (nat c) e=true):
  BLine p {p with ram:=p.ram.set (e%1024*16+nat a%16) (32768+(nat c:Int)*16384+(nat b:Int))} [⟨#[101,110,116,101,114]⟩,d,a,b,c]:=by
 unfold epC at h;simp only[am,aU] at h;obtain⟨a1,o,q,r,s,u,v,w,x,l,m,n⟩:=h;obtain⟨y,hl⟩:=fit_of a1;refine bEnterP y hl (fun t k=>?_) (by simp only[bV,ep,(dp f).2,(dp g).2,(dp i).2,(dp j).2]) o q r s u v w x l m n;simp only[bQ,dJ,or_false] at k;rcases k with rfl|rfl|rfl|rfl
 ·exact (dp f).1
 ·exact (dp g).1
 ·exact (dp i).1
 ·exact (dp j).1
def six (a b c d e f:ByteArray) (k:Nat):Int:=[0,Prs.decV a,Prs.decV b,Prs.decV c,Prs.decV d,Prs.decV e,Prs.decV f].getD k 0
def eqC (p:PW) (t:Nat) (N:Nat→Int):Bool:=fitB p&&(decide (fmE p t 6=0)&&(decide (t<p.tasks.length)&&((decide (N 1= -1)||decide (fmE p (N 1) (eqK 1)=0))&&((decide (N 2= -1)||decide (fmE p (N 2) (eqK 2)=0))&&((decide (N 3= -1)||decide (fmE p (N 3) (eqK 3)=0))&&(decide (0≤N 4)&&(decide (N 4<p.cores.length)&&(decide (0≤N 5)&&(decide (N 5≤3)&&(decide (0≤N 6)&&(decide (N 6≤3)&&decide ((p.tasks.getD t bl) 9=0))))))))))))
theorem eqC_ok {p:PW} {a b c d e f g:ByteArray} (m:numN a=true) (A:numOk b=true) (B:numOk c=true) (C:numOk d=true) (D:numOk e=true) (E:numOk f=true) (F:numOk g=true) (h:eqC p (nat a) (six b c d e f g)=true):
  BLine p (eqP p (nat a) (six b c d e f g)) [⟨#[101,113,117,105,112]⟩,a,b,c,d,e,f,g]:=by
 unfold eqC at h;simp only[am,cd,aU] at h;obtain⟨a1,s,l,u,v,w,x,y,z,o,q,r,j⟩:=h;obtain⟨H,hl⟩:=fit_of a1;refine bEquip H hl (fun t n=>?_) (by simp only[bV,ep,(dp m).2];rfl) s l (fun k k1 I i=>?_) x y z o q r (by rw[aa,ac l] at j;exact j)
 ·simp only[bQ,dJ,or_false] at n;rcases n with rfl|rfl|rfl|rfl|rfl|rfl|rfl
  ·exact (dp m).1
  ·exact A
  ·exact B
  ·exact C
  ·exact D
  ·exact E
  ·exact F
 ·have G:k=1∨k=2∨k=3:=by omega
  rcases G with rfl|rfl|rfl
  ·exact u.resolve_left i
  ·exact v.resolve_left i
  ·exact w.resolve_left i
def kIdx (x:ByteArray):Nat:=(knB.map (same x)).idxOf true
def stepL (p:PW):List ByteArray→Option PW
 |[x,a,b,c]=>if same ⟨#[99,108,97,121]⟩ x&&(numN a&&(numN b&&(numN c&&clC p (nat a) (nat b) (nat c)))) then some {p with slots:=p.slots.set (nat a) (clk (nat b) (nat c))} else none
 |[x,a,b,c,d]=>
  if same ⟨#[109,97,107,101]⟩ x then (if numOk b&&(numOk c&&(numOk d&&mkC p (kIdx a) a (Prs.decV b) (Prs.decV c) (Prs.decV d))) then some (mkP p (Prs.decV b) (2+(kIdx a:Int)) (Prs.decV c) (Prs.decV d)) else none)
  else if numN a&&(numN b&&(numN c&&numN d)) then
   (if same ⟨#[99,111,112,121]⟩ x then (if cpC p (nat a) (nat b) (nat c) (nat d) (p.slots.getD (nat a) nkey) then some {p with slots:=p.slots.set (nat b) (kpS (p.slots.getD (nat a) nkey) (Bw.bw 6 ((p.slots.getD (nat a) nkey) 4).toNat (nat c):Nat) (nat d) (nat a))} else none)
   else if same ⟨#[101,110,116,101,114]⟩ x then
    (if etC p (nat a) (nat b) (nat c) (nat d) then some {p with ram:=p.ram.set (nat a*16+nat b/16) (32768+(nat c:Int))}
    else if epC p (nat a) (nat b) (nat c) (nat d) (p.ram.getD (nat a*16+nat b/16) 0).toNat then some {p with ram:=p.ram.set ((p.ram.getD (nat a*16+nat b/16) 0).toNat%1024*16+nat b%16) (32768+(nat d:Int)*16384+(nat c:Int))} else none)
   else none)
  else none
 |[x,a,b,c,d,e,f,g]=>if same ⟨#[101,113,117,105,112]⟩ x&&(numN a&&(numOk b&&(numOk c&&(numOk d&&(numOk e&&(numOk f&&(numOk g&&eqC p (nat a) (six b c d e f g)))))))) then some (eqP p (nat a) (six b c d e f g)) else none
 |_=>none
theorem stepL_ok {p p':PW}:∀{xs:List ByteArray},stepL p xs=some p'→BLine p p' xs
 |[x,a,b,c],h=>by
  rw[stepL] at h;split at h
  ·rename_i hc;simp only[am] at hc;obtain⟨i,j,k,l,m⟩:=hc
   cases h
   rw[←same_eq i];exact clC_ok j k l m
  ·cases h
 |[x,a,b,c,d],h=>by
  rw[stepL] at h;split at h
  ·rename_i hx;split at h
   ·rename_i hc;simp only[am] at hc;obtain⟨i,j,k,l⟩:=hc
    cases h
    rw[←same_eq hx];exact mkC_ok i j k l
   ·cases h
  ·split at h
   ·rename_i hn;simp only[am] at hn;obtain⟨i,j,k,l⟩:=hn;split at h
    ·rename_i hx;split at h
     ·rename_i hc
      cases h
      rw[←same_eq hx];exact cpC_ok i j k l hc
     ·cases h
    ·split at h
     ·rename_i hx;split at h
      ·rename_i hc
       cases h
       rw[←same_eq hx];exact etC_ok i j k l hc
      ·split at h
       ·rename_i hc
        cases h
        rw[←same_eq hx];exact epC_ok i j k l hc
       ·cases h
     ·cases h
   ·cases h
 |[x,a,b,c,d,e,f,g],h=>by
  rw[stepL] at h;split at h
  ·rename_i hc;simp only[am] at hc;obtain⟨i,j,k,l,m,n,o,q,r⟩:=hc
   cases h
   rw[←same_eq i];exact eqC_ok j k l m n o q r
  ·cases h
 |[],h=>by cases h
 |[_],h=>by cases h
 |[_,_],h=>by cases h
 |[_,_,_],h=>by cases h
 |[_,_,_,_,_,_],h=>by cases h
 |[_,_,_,_,_,_,_],h=>by cases h
 |_::_::_::_::_::_::_::_::_::_,h=>by cases h
def runL:List (List ByteArray)→PW→Nat→Option PW
 |[],p,_=>some p
 |_::_,p,0=>some p
 |xs::r,p,n+1=>match stepL p xs with
  |some q=>runL r q n
  |none=>none
theorem runL_step:∀{a:List (List ByteArray)} {p p':PW} {n:Nat} {xs:List ByteArray},a[n]? =some xs→runL a p (n+1)=some p'→∃q,runL a p n=some q∧stepL q xs=some p'
 |[],_,_,_,_,h,_=>by simp at h
 |ys::r,p,p',0,xs,h,hr=>by
  simp at h;subst h;unfold runL at hr;split at hr
  ·rename_i q hq;have:q=p':=by cases r<;>(unfold runL at hr;cases hr;rfl)
   subst this;exact⟨p,by unfold runL;rfl,hq⟩
  ·cases hr
 |ys::r,p,p',n+1,xs,h,hr=>by
  simp only[aP] at h;unfold runL at hr;split at hr
  ·rename_i q hq;obtain⟨d,b,c⟩:=runL_step h hr;refine⟨d,?_,c⟩;unfold runL;rw[hq];exact b
  ·cases hr
theorem runL_all {b:List (List ByteArray)} {p:PW}:∀{n:Nat} {a:PW},n≤b.length→runL b p n=some a→∀m,m≤n→∃q,runL b p m=some q
 |0,a,_,h,m,hm=>by
  obtain rfl:m=0:=by omega
  exact⟨a,h⟩
 |n+1,a,hn,h,m,hm=>by
  by_cases e:m=n+1
  ·subst e;exact⟨a,h⟩
  ·obtain⟨q,c,_⟩:=runL_step (ac (show n<b.length by omega)) h;exact runL_all (by omega) c m (by omega)
def plainB:List ByteArray→Bool
 |x::_=> !same x ⟨#[119,111,114,108,100]⟩&& !same x ⟨#[99,111,100,101]⟩
 |[]=>false
def worldsOf (ls:List ByteArray) (p1:PW) (i:Nat):PW:=(runL ((ls.drop 1).map (cutB 32)) p1 (i - 1)).getD p1
theorem reads_of {ls:List ByteArray} {f c:Nat} {zs:List Int} {l:List ByteArray} (n0:0<ls.length) (nn:ls.length≤200) (sz:ls.all (fun t=>decide (t.size≤1000))=true) (e1:cutB 32 (ls.getD 0 ByteArray.empty)=⟨#[119,111,114,108,100]⟩::l) (n:∀t∈l,numOk t=true) (hl:l.length≤100) (m:l.map Prs.decV=(f:Int)::(c:Int)::zs)
  (num:1≤f∧f≤24∧1≤c∧c≤4∧1≤zs.length∧zs.length≤8∧∀z∈zs,0≤z∧z≤3) (o:((ls.drop 1).map (cutB 32)).all plainB=true) (p:(runL ((ls.drop 1).map (cutB 32)) (wlP f c zs) (ls.length - 1)).isSome=true):Reads ls (worldsOf ls (wlP f c zs)) f c zs:=by
 obtain⟨v,h⟩:=Option.isSome_iff_exists.1 p;have b:((ls.drop 1).map (cutB 32)).length=ls.length - 1:=by simp
 refine⟨n0,nn,fun t r=>az (aQ.1 sz t r),⟨l,e1,n,hl,m,?_⟩,num,fun i s d=>?_⟩
 ·unfold worldsOf;obtain⟨q,u⟩:=runL_all (by rw[b];exact au _) h 0 (by omega)
  cases hx:(ls.drop 1).map (cutB 32)<;>rfl
 ·have hi:i - 1<((ls.drop 1).map (cutB 32)).length:=by rw[b];omega
  have g:((ls.drop 1).map (cutB 32))[i - 1]? =some (cutB 32 (ls.getD i ByteArray.empty)):=by
   rw[cR,dc,show 1+(i - 1)=i by omega,ac d,aa,ac d];rfl
  obtain⟨p2,e⟩:=runL_all (by rw[b];exact au _) h (i - 1+1) (by omega);obtain⟨q,j,k⟩:=runL_step g e;have a:=aQ.1 o _ (dM g);have w1:worldsOf ls (wlP f c zs) i=q:=by unfold worldsOf;rw[j];rfl
  have w2:worldsOf ls (wlP f c zs) (i+1)=p2:=by unfold worldsOf;rw[show i+1 - 1=i - 1+1 by omega,e];rfl
  rw[w1,w2];generalize cutB 32 (ls.getD i ByteArray.empty)=xs at*
  cases xs with
  |nil=>unfold plainB at a;cases a
  |cons x l=>
   unfold plainB at a;simp only[am,dw] at a;exact⟨x,l,rfl,same_ne a.1,same_ne a.2,stepL_ok k⟩
def oneB:ByteArray:=⟨#[119,111,114,108,100,32,50,52,32,50,32,48,10,99,108,97,121,32,49,32,49,32,50,48,10,109,97,107,101,32,110,111,100,101,32,49,32,49,32,50,10,109,97,107,101,32,115,112,97,99,101,32,49,32,49,32,51,10,109,97,107,101,32,116,97,98,108,101,32,49,32,49,32,52,10,109,97,107,101,32,112,97,103,101,32,49,32,52,32,53,10,109,97,107,101,32,116,97,115,107,32,49,32,50,32,57,10,109,97,107,101,32,100,111,111,114,32,49,32,49,32,49,49,10,109,97,107,101,32,98,101,108,108,32,49,32,49,32,49,50,10,99,111,112,121,32,49,49,32,49,54,32,55,32,53,10,99,111,112,121,32,49,50,32,49,55,32,55,32,50,10,99,111,112,121,32,49,48,32,49,56,32,55,32,48,10,99,111,112,121,32,55,32,49,57,32,51,32,48,10,99,111,112,121,32,51,32,50,48,32,55,32,48,10,99,111,112,121,32,52,32,50,49,32,55,32,48,10,99,111,112,121,32,50,32,50,50,32,55,32,48,10,99,111,112,121,32,57,32,50,51,32,54,32,48,10,101,110,116,101,114,32,50,32,48,32,51,32,48,10,101,110,116,101,114,32,50,32,48,32,52,32,48,10,101,110,116,101,114,32,50,32,49,32,53,32,48,10,101,110,116,101,114,32,50,32,50,32,54,32,49,10,101,113,117,105,112,32,56,32,48,32,50,32,45,32,48,32,49,32,48,10,101,113,117,105,112,32,57,32,49,32,50,32,49,48,32,49,32,50,32,48,10]⟩
def oneP:PW:=worldsOf (Prs.linesB oneB) (wlP 24 2 [0]) (Prs.linesB oneB).length
theorem one_reads:Reads (Prs.linesB oneB) (worldsOf (Prs.linesB oneB) (wlP 24 2 [0])) 24 2 [0]:=
 reads_of (l:=[⟨#[50,52]⟩,⟨#[50]⟩,⟨#[48]⟩]) (az (by kernel_rfl)) (az (by kernel_rfl)) (by kernel_rfl) (by kernel_rfl) (by decide) (by decide) (by kernel_rfl) (by decide) (by kernel_rfl) (by kernel_rfl)
end Go.Proofs.YtaejnmmpddbbjaaGreatDoor.Wd
namespace Go.Proofs.YtaejnmmpddbbjaaGreatDoor.Nums
open Go.RowKit Mem
-- from Ints.tpl
def pickV (c n:Int):Int:=if c<0 then (-(c+1)).tmod n else c.tmod n
theorem pickV_bound (c n:Int) (a:0<n):0≤pickV c n∧pickV c n<n:=by
 unfold pickV;split
 ·have:0≤ -(c+1):=by omega
  rw[cH this];exact⟨Int.emod_nonneg _ (by omega),Int.emod_lt_of_pos _ a⟩
 ·have:0≤c:=by omega
  rw[cH this];exact⟨Int.emod_nonneg _ (by omega),Int.emod_lt_of_pos _ a⟩
theorem _root_.Go.Proofs.YtaejnmmpddbbjaaGreatDoor.bT:type_of% @pickV_bound:= @pickV_bound
theorem pick_eq (c n:Int) (w:World) (b: -9223372036854775808≤c) (d:c≤9223372036854775807) (f:0<n):
  Calls Tryz.prog 6 #[.int .i64 c,.int .i64 n] w fun e w'=>e=.returned (.int .i64 (pickV c n))∧w=w':=by
 have g:n≠0:=by omega
 by_cases a:c<0
 ·go_enter Tryz.func6,Tryz.ntmps6
  go_wp2_with fail
  go_ret
  refine⟨ret_int ?_,rfl⟩;unfold pickV;rw[ag a,Int.neg_tmod]
 ·go_enter Tryz.func6,Tryz.ntmps6
  go_wp2_with fail
  go_ret
  refine⟨ret_int ?_,rfl⟩;unfold pickV;rw[ae (by omega),cH (by omega)]
theorem _root_.Go.Proofs.YtaejnmmpddbbjaaGreatDoor.dQ:type_of% @pick_eq:= @pick_eq
end Go.Proofs.YtaejnmmpddbbjaaGreatDoor.Nums
namespace Go.Proofs.YtaejnmmpddbbjaaGreatDoor.Mad
open Go.RowKit Mem Nums Wd
-- from MadeIns.tpl
def InsAt (w:World) (b off:Nat) (zs:List (Int×Int×Int×Int)):Prop:=
 ∀j (h:j<zs.length),w.cell? ⟨b,off+j*4,none⟩=some (.int .i64 zs[j].1)∧w.cell? ⟨b,off+j*4+1,none⟩=some (.int .i64 zs[j].2.1)∧w.cell? ⟨b,off+j*4+2,none⟩=some (.int .i64 zs[j].2.2.1)∧w.cell? ⟨b,off+j*4+3,none⟩=some (.int .i64 zs[j].2.2.2)
theorem infoIns:(Tryz.prog.info? 131).map (fun i=>(i.zero,i.size,i.bytes))=some (some (.agg #[.int .i64 0,.int .i64 0,.int .i64 0,.int .i64 0]),4,32):=by kernel_rfl
def cells4 (l:List (Int×Int×Int×Int)):List Value:=l.flatMap fun q=>[.int .i64 q.1,.int .i64 q.2.1,.int .i64 q.2.2.1,.int .i64 q.2.2.2]
theorem cells4_at (l:List (Int×Int×Int×Int)) (j:Nat) (h:j<l.length):(cells4 l)[j*4]? =some (.int .i64 l[j].1)∧(cells4 l)[j*4+1]? =some (.int .i64 l[j].2.1)∧(cells4 l)[j*4+2]? =some (.int .i64 l[j].2.2.1)∧(cells4 l)[j*4+3]? =some (.int .i64 l[j].2.2.2):=by
 induction l generalizing j with
 |nil=>simp at h
 |cons q l ih=>
  have e:cells4 (q::l)=.int .i64 q.1::.int .i64 q.2.1::.int .i64 q.2.2.1::.int .i64 q.2.2.2::cells4 l:=rfl;rw[e]
  cases j with
  |zero=>exact⟨rfl,rfl,rfl,rfl⟩
  |succ j=>
   have:=ih j (by simpa using h);have e2:(j+1)*4=j*4+4:=by omega
   rw[e2];exact this
theorem cells4_snoc (l:List (Int×Int×Int×Int)) (q:Int×Int×Int×Int):cells4 (l++[q])=cells4 l++[.int .i64 q.1,.int .i64 q.2.1,.int .i64 q.2.2.1,.int .i64 q.2.2.2]:=by
 unfold cells4;rw[List.flatMap_append];rfl
theorem _root_.Go.Proofs.YtaejnmmpddbbjaaGreatDoor.dH:type_of% @cells4_snoc:= @cells4_snoc
theorem four_new (W:World) (a b c d:Value) (e:TypeId):∀(j:Nat) (x:Value),[a,b,c,d][j]? =some x→(W.alloc (.cells #[a,b,c,d] e)).cell? ((⟨W.heap.size,0,none⟩:Addr).add j)=some x:=by
 intro j x h;rw[show (⟨W.heap.size,0,none⟩:Addr).add j=⟨W.heap.size,j,none⟩ from by unfold Addr.add;split<;>simp_all,dh _ _ _ _ rfl];rw[←h];simp
theorem four_cell (a b c d:Int):∀x∈[Value.int .i64 a,.int .i64 b,.int .i64 c,.int .i64 d],x.oneCell'=true:=by
 intro x e;simp at e;rcases e with rfl|rfl|rfl|rfl<;>rfl
theorem _root_.Go.Proofs.YtaejnmmpddbbjaaGreatDoor.eh:type_of% @four_cell:= @four_cell
theorem own_ins {w:World} {B:Nat} {v:Value} {l:List (Int×Int×Int×Int)} (h:w.ownsRow B 131 4 v l.length (cells4 l)) (hl:l≠[]):∃b cap,v=.slice (some ⟨b,0,none⟩) l.length cap∧InsAt w b 0 l∧B≤b:=by
 rcases h.2 with ⟨rfl,a⟩|⟨g,cap,f,rfl,a,_⟩
 ·exact absurd (List.length_eq_zero_iff.1 a) hl
 ·refine⟨g,cap,rfl,fun j e=>?_,a⟩;obtain⟨c,e1,e2,d⟩:=cells4_at l j e;simp only[aC];rw[h.cellAt (j*4) (by omega),h.cellAt (j*4+1) (by omega),h.cellAt (j*4+2) (by omega),h.cellAt (j*4+3) (by omega)];exact⟨c,e1,e2,d⟩
set_option maxHeartbeats 1000000
theorem raw_any (v:Value) (zs:List Int) (i:Nat) (w:World) (s:RawIn w v zs) (hl:zs.length≤256) (hi:i≤200):
  Calls Tryz.prog 12 #[v,.int .i64 i] w fun e w'=>∃r:Int,e=.returned (.int .i64 r)∧0≤r∧r<3000000∧Below w.heap.size w w':=by
 obtain⟨q,b,off,cap,rfl,g,k,f⟩:=s
 cases zs with
 |nil=>
  go_enter Tryz.func12,Tryz.ntmps12
  go_wp2_with fail
  go_ret
  exact⟨(i:Int)*31,rfl,by omega,by omega,aj _ _⟩
 |cons z0 zr=>
  have c:0<(z0::zr).length:=by simp
  generalize z0::zr=zs at*;have p:=g c;subst p;have a:i%zs.length<zs.length:=Nat.mod_lt _ c;have o:=k (i%zs.length) a;have l:=f zs[i%zs.length] (aw a);generalize zs[i%zs.length]=z at o l;obtain⟨m,n⟩:=l;have t:(0:Int)<(zs.length:Int):=by omega
  have u:((zs.length:Int)==0)=false:=beq_eq_false_iff_ne.2 (by omega);have B:((i:Int).tmod (zs.length:Int))=((i%zs.length:Nat):Int):=by rw[cH (by omega)];simp
  have y:((i:Int).tdiv (zs.length:Int))=((i/zs.length:Nat):Int):=by rw[bR (by omega)];simp
  have x:i/zs.length≤200:=aD (Nat.div_le_self _ _) hi;obtain⟨C,D⟩:=bT z 1000003 (by decide);have A:((i%zs.length:Nat):Int)<(zs.length:Int):=Int.ofNat_lt.2 a;generalize i%zs.length=j at*;generalize i/zs.length=d at*;clear g k f;go_enter Tryz.func12,Tryz.ntmps12
  go_wp2_with fail
  go_quiet (first|(go_at_call 6;refine dT ((dQ _ _ _ m n (by decide)).mono fun _ _ h=>⟨h.1,h.2.symm⟩)))
  go_wp2_with fail
  go_ret
  exact⟨pickV z 1000003+(d:Int)*7919,by first|rfl|(simp;done),by omega,by omega,aA _ _⟩
set_option maxHeartbeats 200000
def GoodQ (q:Int×Int×Int×Int):Prop:=(0≤q.1∧q.1≤14)∧(0≤q.2.1∧q.2.1≤7)∧(0≤q.2.2.1∧q.2.2.1≤7)∧0≤q.2.2.2∧q.2.2.2≤49
theorem good_of {o a b i:Int} (e:0≤o∧o≤14) (c:0≤a∧a≤7) (d:0≤b∧b≤7) (hi:0≤i∧i≤49):GoodQ (o,a,b,i):=⟨e,c,d,hi⟩
theorem good_snoc {l:List (Int×Int×Int×Int)} {q:Int×Int×Int×Int} (h:∀x∈l,GoodQ x) (b:GoodQ q):∀x∈l++[q],GoodQ x:=by
 intro x a;rcases dA.1 a with a|a
 ·exact h x a
 ·simp at a;subst a;exact b
theorem _root_.Go.Proofs.YtaejnmmpddbbjaaGreatDoor.eg:type_of% @good_snoc:= @good_snoc
set_option maxRecDepth 100000
set_option maxHeartbeats 8000000
theorem codeFrom_any (v:Value) (rs:List Int) (a:Nat) (w:World) (N:RawIn w v rs) (S:rs.length≤256) (V:a<100) (cl:Nat) (R:0<(cl:Int)) (X:(cl:Int)≤18):
  Calls Tryz.prog 31 #[v,.int .i64 a,.int .i64 cl] w fun e w'=>∃b cap zs,e=.returned (.slice (some ⟨b,0,none⟩) zs.length cap)∧zs.length=16∧(∀q∈zs,GoodQ q)∧InsAt w' b 0 zs∧w.heap.size≤b∧Below w.heap.size w w':=by
 obtain⟨i0,hi,t,x,y⟩:=info_get infoIns;have P:=hid N;clear N;go_enter Tryz.func31,Tryz.ntmps31
 go_wp2_with fail
 go_loopw [7,8] (fun u i wr=>∃(k:Nat) (l:List (Int×Int×Int×Int)),k≤15∧i=.int .i64 k∧l.length=k∧(∀q∈l,GoodQ q)∧wr.ownsRow w.heap.size 131 4 u l.length (cells4 l)∧Below w.heap.size w wr) (fun _ i _=>15 - (intOf i).toNat)
 case atStart=>exact⟨0,[],by omega,rfl,rfl,fun q h=>by simp at h,cT _ _ _ _,aj _ _⟩
 case round=>
  obtain⟨k,l,hk,rfl,M,L,K,hB⟩:=hrel;have p:=hid L;have G:=hid K;have F:=hid hB;have s:=hid M;have aa:l.length≤15:=by omega
  clear L K hB M;by_cases ab:k<15
  ·have ac:(k:Int)<15:=by omega
   have I:=hid (show Calls Tryz.prog 12 #[v,.int .i64 ((a:Int)+(k:Int))] wr fun e w'=>∃r:Int,e=.returned (.int .i64 r)∧0≤r∧r<3000000∧Below wr.heap.size wr w' by
    have:=raw_any v rs (a+k) wr (P.below F) S (by omega);rw[Int.natCast_add] at this;exact this)
   go_wp2_with fail
   refine I.mono ?_;rintro e C ⟨c,rfl,R,W,H⟩;have n:=hid (eE G H);have g:=hid (btr F H);clear H I;go_wp2_with fail
   refine (dQ _ _ _ (by omega) (by omega) (by decide)).mono ?_;rintro e w' ⟨rfl,rfl⟩;obtain⟨Y,Z⟩:=bT (c/16) 32 (by decide);generalize pickV (c/16) 32=o at*;go_wp2_with fail
   refine (dQ _ _ _ (by omega) (by omega) (by decide)).mono ?_;rintro e w' ⟨rfl,rfl⟩;obtain⟨ad,ae⟩:=bT c 16 (by decide);generalize pickV c 16=B at*;have T:B=0∨B=1∨B=2∨B=3∨B=4∨B=5∨B=6∨B=7∨B=8∨B=9∨B=10∨B=11∨B=12∨B=13∨B=14∨B=15:=by omega
   rcases T with rfl|rfl|rfl|rfl|rfl|rfl|rfl|rfl|rfl|rfl|rfl|rfl|rfl|rfl|rfl|rfl
   ·go_wp2_with (at_builtin;refine bf _ rfl _ _ 75 rfl w.heap.size 131 i0 (.agg #[.int .i64 0,.int .i64 0,.int .i64 0,.int .i64 0]) 4 32 Tryz.underlying75 hi t x y rfl (by decide) _ _ _ rfl (n.alloc _) ⟨C.heap.size,0,none⟩ 1 1 [.int .i64 1,.int .i64 1,.int .i64 0,.int .i64 o] rfl rfl ?c1 (eh _ _ _ _) ?c3 ?c4 ?c5 ?_)
    case c1=>exact four_new _ _ _ _ _ _
    case c3=>unfold maxLen;omega
    case c4=>omega
    case c5=>have:=g.size;simp;omega
    intro z A f d _;have m:=hid ((bal g _).grown d (by have:=g.size;simp;omega) (fun k hk=>(n.lt k hk).1));have j:=hid f;clear f d;go_wp2_with fail
    refine⟨⟨k+1,l++[(1,1,0,o)],by omega,by go_num,by rw[av,s.out];rfl,eg p (good_of (by omega) (by omega) (by omega) (by omega)),?_,m.out⟩,by simp[intOf];omega⟩;rw[dH,av];exact j
   ·go_wp2_with (at_builtin;refine bf _ rfl _ _ 75 rfl w.heap.size 131 i0 (.agg #[.int .i64 0,.int .i64 0,.int .i64 0,.int .i64 0]) 4 32 Tryz.underlying75 hi t x y rfl (by decide) _ _ _ rfl (n.alloc _) ⟨C.heap.size,0,none⟩ 1 1 [.int .i64 1,.int .i64 1,.int .i64 0,.int .i64 o] rfl rfl ?c1 (eh _ _ _ _) ?c3 ?c4 ?c5 ?_)
    case c1=>exact four_new _ _ _ _ _ _
    case c3=>unfold maxLen;omega
    case c4=>omega
    case c5=>have:=g.size;simp;omega
    intro z A f d _;have m:=hid ((bal g _).grown d (by have:=g.size;simp;omega) (fun k hk=>(n.lt k hk).1));have j:=hid f;clear f d;go_wp2_with fail
    refine⟨⟨k+1,l++[(1,1,0,o)],by omega,by go_num,by rw[av,s.out];rfl,eg p (good_of (by omega) (by omega) (by omega) (by omega)),?_,m.out⟩,by simp[intOf];omega⟩;rw[dH,av];exact j
   ·go_wp2_with (at_builtin;refine bf _ rfl _ _ 75 rfl w.heap.size 131 i0 (.agg #[.int .i64 0,.int .i64 0,.int .i64 0,.int .i64 0]) 4 32 Tryz.underlying75 hi t x y rfl (by decide) _ _ _ rfl (n.alloc _) ⟨C.heap.size,0,none⟩ 1 1 [.int .i64 1,.int .i64 1,.int .i64 0,.int .i64 o] rfl rfl ?c1 (eh _ _ _ _) ?c3 ?c4 ?c5 ?_)
    case c1=>exact four_new _ _ _ _ _ _
    case c3=>unfold maxLen;omega
    case c4=>omega
    case c5=>have:=g.size;simp;omega
    intro z A f d _;have m:=hid ((bal g _).grown d (by have:=g.size;simp;omega) (fun k hk=>(n.lt k hk).1));have j:=hid f;clear f d;go_wp2_with fail
    refine⟨⟨k+1,l++[(1,1,0,o)],by omega,by go_num,by rw[av,s.out];rfl,eg p (good_of (by omega) (by omega) (by omega) (by omega)),?_,m.out⟩,by simp[intOf];omega⟩;rw[dH,av];exact j
   ·go_wp2_with (at_builtin;refine bf _ rfl _ _ 75 rfl w.heap.size 131 i0 (.agg #[.int .i64 0,.int .i64 0,.int .i64 0,.int .i64 0]) 4 32 Tryz.underlying75 hi t x y rfl (by decide) _ _ _ rfl (n.alloc _) ⟨C.heap.size,0,none⟩ 1 1 [.int .i64 1,.int .i64 2,.int .i64 0,.int .i64 o] rfl rfl ?c1 (eh _ _ _ _) ?c3 ?c4 ?c5 ?_)
    case c1=>exact four_new _ _ _ _ _ _
    case c3=>unfold maxLen;omega
    case c4=>omega
    case c5=>have:=g.size;simp;omega
    intro z A f d _;have m:=hid ((bal g _).grown d (by have:=g.size;simp;omega) (fun k hk=>(n.lt k hk).1));have j:=hid f;clear f d;go_wp2_with fail
    refine⟨⟨k+1,l++[(1,2,0,o)],by omega,by go_num,by rw[av,s.out];rfl,eg p (good_of (by omega) (by omega) (by omega) (by omega)),?_,m.out⟩,by simp[intOf];omega⟩;rw[dH,av];exact j
   ·go_wp2_with (at_builtin;refine bf _ rfl _ _ 75 rfl w.heap.size 131 i0 (.agg #[.int .i64 0,.int .i64 0,.int .i64 0,.int .i64 0]) 4 32 Tryz.underlying75 hi t x y rfl (by decide) _ _ _ rfl (n.alloc _) ⟨C.heap.size,0,none⟩ 1 1 [.int .i64 1,.int .i64 2,.int .i64 0,.int .i64 o] rfl rfl ?c1 (eh _ _ _ _) ?c3 ?c4 ?c5 ?_)
    case c1=>exact four_new _ _ _ _ _ _
    case c3=>unfold maxLen;omega
    case c4=>omega
    case c5=>have:=g.size;simp;omega
    intro z A f d _;have m:=hid ((bal g _).grown d (by have:=g.size;simp;omega) (fun k hk=>(n.lt k hk).1));have j:=hid f;clear f d;go_wp2_with fail
    refine⟨⟨k+1,l++[(1,2,0,o)],by omega,by go_num,by rw[av,s.out];rfl,eg p (good_of (by omega) (by omega) (by omega) (by omega)),?_,m.out⟩,by simp[intOf];omega⟩;rw[dH,av];exact j
   ·go_wp2_with fail
    refine (dQ _ _ _ (by omega) (by omega) (by decide)).mono ?_;rintro e w' ⟨rfl,rfl⟩;obtain⟨D,E⟩:=bT o 9 (by decide);generalize pickV o 9=r at*;go_wp2_with (at_builtin;refine bf _ rfl _ _ 75 rfl w.heap.size 131 i0 (.agg #[.int .i64 0,.int .i64 0,.int .i64 0,.int .i64 0]) 4 32 Tryz.underlying75 hi t x y rfl (by decide) _ _ _ rfl (n.alloc _) ⟨C.heap.size,0,none⟩ 1 1 [.int .i64 1,.int .i64 3,.int .i64 0,.int .i64 r] rfl rfl ?c1 (eh _ _ _ _) ?c3 ?c4 ?c5 ?_)
    case c1=>exact four_new _ _ _ _ _ _
    case c3=>unfold maxLen;omega
    case c4=>omega
    case c5=>have:=g.size;simp;omega
    intro z A f d _;have m:=hid ((bal g _).grown d (by have:=g.size;simp;omega) (fun k hk=>(n.lt k hk).1));have j:=hid f;clear f d;go_wp2_with fail
    refine⟨⟨k+1,l++[(1,3,0,r)],by omega,by go_num,by rw[av,s.out];rfl,eg p (good_of (by omega) (by omega) (by omega) (by omega)),?_,m.out⟩,by simp[intOf];omega⟩;rw[dH,av];exact j
   ·go_wp2_with fail
    refine (dQ _ _ _ (by omega) (by omega) (by decide)).mono ?_;rintro e w' ⟨rfl,rfl⟩;obtain⟨D,E⟩:=bT o 4 (by decide);generalize pickV o 4=r at*;go_wp2_with (at_builtin;refine bf _ rfl _ _ 75 rfl w.heap.size 131 i0 (.agg #[.int .i64 0,.int .i64 0,.int .i64 0,.int .i64 0]) 4 32 Tryz.underlying75 hi t x y rfl (by decide) _ _ _ rfl (n.alloc _) ⟨C.heap.size,0,none⟩ 1 1 [.int .i64 1,.int .i64 4,.int .i64 0,.int .i64 r] rfl rfl ?c1 (eh _ _ _ _) ?c3 ?c4 ?c5 ?_)
    case c1=>exact four_new _ _ _ _ _ _
    case c3=>unfold maxLen;omega
    case c4=>omega
    case c5=>have:=g.size;simp;omega
    intro z A f d _;have m:=hid ((bal g _).grown d (by have:=g.size;simp;omega) (fun k hk=>(n.lt k hk).1));have j:=hid f;clear f d;go_wp2_with fail
    refine⟨⟨k+1,l++[(1,4,0,r)],by omega,by go_num,by rw[av,s.out];rfl,eg p (good_of (by omega) (by omega) (by omega) (by omega)),?_,m.out⟩,by simp[intOf];omega⟩;rw[dH,av];exact j
   ·go_wp2_with fail
    refine (dQ _ _ _ (by omega) (by omega) (by decide)).mono ?_;rintro e w' ⟨rfl,rfl⟩;obtain⟨D,E⟩:=bT o 18 (by decide);generalize pickV o 18=r at*;go_wp2_with (at_builtin;refine bf _ rfl _ _ 75 rfl w.heap.size 131 i0 (.agg #[.int .i64 0,.int .i64 0,.int .i64 0,.int .i64 0]) 4 32 Tryz.underlying75 hi t x y rfl (by decide) _ _ _ rfl (n.alloc _) ⟨C.heap.size,0,none⟩ 1 1 [.int .i64 11,.int .i64 2,.int .i64 7,.int .i64 (32+r)] rfl rfl ?c1 (eh _ _ _ _) ?c3 ?c4 ?c5 ?_)
    case c1=>exact four_new _ _ _ _ _ _
    case c3=>unfold maxLen;omega
    case c4=>omega
    case c5=>have:=g.size;simp;omega
    intro z A f d _;have m:=hid ((bal g _).grown d (by have:=g.size;simp;omega) (fun k hk=>(n.lt k hk).1));have j:=hid f;clear f d;go_wp2_with fail
    refine⟨⟨k+1,l++[(11,2,7,(32+r))],by omega,by go_num,by rw[av,s.out];rfl,eg p (good_of (by omega) (by omega) (by omega) (by omega)),?_,m.out⟩,by simp[intOf];omega⟩;rw[dH,av];exact j
   ·go_wp2_with fail
    refine (dQ _ _ _ (by omega) (by omega) (by decide)).mono ?_;rintro e w' ⟨rfl,rfl⟩;obtain⟨D,E⟩:=bT o 20 (by decide);generalize pickV o 20=r at*;go_wp2_with (at_builtin;refine bf _ rfl _ _ 75 rfl w.heap.size 131 i0 (.agg #[.int .i64 0,.int .i64 0,.int .i64 0,.int .i64 0]) 4 32 Tryz.underlying75 hi t x y rfl (by decide) _ _ _ rfl (n.alloc _) ⟨C.heap.size,0,none⟩ 1 1 [.int .i64 10,.int .i64 5,.int .i64 7,.int .i64 (30+r)] rfl rfl ?c1 (eh _ _ _ _) ?c3 ?c4 ?c5 ?_)
    case c1=>exact four_new _ _ _ _ _ _
    case c3=>unfold maxLen;omega
    case c4=>omega
    case c5=>have:=g.size;simp;omega
    intro z A f d _;have m:=hid ((bal g _).grown d (by have:=g.size;simp;omega) (fun k hk=>(n.lt k hk).1));have j:=hid f;clear f d;go_wp2_with fail
    refine⟨⟨k+1,l++[(10,5,7,(30+r))],by omega,by go_num,by rw[av,s.out];rfl,eg p (good_of (by omega) (by omega) (by omega) (by omega)),?_,m.out⟩,by simp[intOf];omega⟩;rw[dH,av];exact j
   ·go_wp2_with fail
    refine (dQ _ _ _ (by omega) (by omega) (by decide)).mono ?_;rintro e w' ⟨rfl,rfl⟩;obtain⟨D,E⟩:=bT o 7 (by decide);generalize pickV o 7=r at*;go_wp2_with (at_builtin;refine bf _ rfl _ _ 75 rfl w.heap.size 131 i0 (.agg #[.int .i64 0,.int .i64 0,.int .i64 0,.int .i64 0]) 4 32 Tryz.underlying75 hi t x y rfl (by decide) _ _ _ rfl (n.alloc _) ⟨C.heap.size,0,none⟩ 1 1 [.int .i64 (3+r),.int .i64 5,.int .i64 2,.int .i64 0] rfl rfl ?c1 (eh _ _ _ _) ?c3 ?c4 ?c5 ?_)
    case c1=>exact four_new _ _ _ _ _ _
    case c3=>unfold maxLen;omega
    case c4=>omega
    case c5=>have:=g.size;simp;omega
    intro z A f d _;have m:=hid ((bal g _).grown d (by have:=g.size;simp;omega) (fun k hk=>(n.lt k hk).1));have j:=hid f;clear f d;go_wp2_with fail
    refine⟨⟨k+1,l++[((3+r),5,2,0)],by omega,by go_num,by rw[av,s.out];rfl,eg p (good_of (by omega) (by omega) (by omega) (by omega)),?_,m.out⟩,by simp[intOf];omega⟩;rw[dH,av];exact j
   ·go_wp2_with fail
    refine (dQ _ _ _ (by omega) (by omega) (by decide)).mono ?_;rintro e w' ⟨rfl,rfl⟩;obtain⟨D,E⟩:=bT o 15 (by decide);generalize pickV o 15=r at*;go_wp2_with (at_builtin;refine bf _ rfl _ _ 75 rfl w.heap.size 131 i0 (.agg #[.int .i64 0,.int .i64 0,.int .i64 0,.int .i64 0]) 4 32 Tryz.underlying75 hi t x y rfl (by decide) _ _ _ rfl (n.alloc _) ⟨C.heap.size,0,none⟩ 1 1 [.int .i64 13,.int .i64 0,.int .i64 0,.int .i64 (2*r)] rfl rfl ?c1 (eh _ _ _ _) ?c3 ?c4 ?c5 ?_)
    case c1=>exact four_new _ _ _ _ _ _
    case c3=>unfold maxLen;omega
    case c4=>omega
    case c5=>have:=g.size;simp;omega
    intro z A f d _;have m:=hid ((bal g _).grown d (by have:=g.size;simp;omega) (fun k hk=>(n.lt k hk).1));have j:=hid f;clear f d;go_wp2_with fail
    refine⟨⟨k+1,l++[(13,0,0,(2*r))],by omega,by go_num,by rw[av,s.out];rfl,eg p (good_of (by omega) (by omega) (by omega) (by omega)),?_,m.out⟩,by simp[intOf];omega⟩;rw[dH,av];exact j
   ·go_wp2_with fail
    refine (dQ _ _ _ (by omega) (by omega) (by omega)).mono ?_;rintro e w' ⟨rfl,rfl⟩;obtain⟨D,E⟩:=bT o cl (by omega);generalize pickV o cl=r at*;go_wp2_with (at_builtin;refine bf _ rfl _ _ 75 rfl w.heap.size 131 i0 (.agg #[.int .i64 0,.int .i64 0,.int .i64 0,.int .i64 0]) 4 32 Tryz.underlying75 hi t x y rfl (by decide) _ _ _ rfl (n.alloc _) ⟨C.heap.size,0,none⟩ 1 1 [.int .i64 14,.int .i64 0,.int .i64 0,.int .i64 r] rfl rfl ?c1 (eh _ _ _ _) ?c3 ?c4 ?c5 ?_)
    case c1=>exact four_new _ _ _ _ _ _
    case c3=>unfold maxLen;omega
    case c4=>omega
    case c5=>have:=g.size;simp;omega
    intro z A f d _;have m:=hid ((bal g _).grown d (by have:=g.size;simp;omega) (fun k hk=>(n.lt k hk).1));have j:=hid f;clear f d;go_wp2_with fail
    refine⟨⟨k+1,l++[(14,0,0,r)],by omega,by go_num,by rw[av,s.out];rfl,eg p (good_of (by omega) (by omega) (by omega) (by omega)),?_,m.out⟩,by simp[intOf];omega⟩;rw[dH,av];exact j
   ·go_wp2_with fail
    refine (dQ _ _ _ (by omega) (by omega) (by omega)).mono ?_;rintro e w' ⟨rfl,rfl⟩;obtain⟨D,E⟩:=bT o cl (by omega);generalize pickV o cl=r at*;go_wp2_with (at_builtin;refine bf _ rfl _ _ 75 rfl w.heap.size 131 i0 (.agg #[.int .i64 0,.int .i64 0,.int .i64 0,.int .i64 0]) 4 32 Tryz.underlying75 hi t x y rfl (by decide) _ _ _ rfl (n.alloc _) ⟨C.heap.size,0,none⟩ 1 1 [.int .i64 14,.int .i64 0,.int .i64 0,.int .i64 r] rfl rfl ?c1 (eh _ _ _ _) ?c3 ?c4 ?c5 ?_)
    case c1=>exact four_new _ _ _ _ _ _
    case c3=>unfold maxLen;omega
    case c4=>omega
    case c5=>have:=g.size;simp;omega
    intro z A f d _;have m:=hid ((bal g _).grown d (by have:=g.size;simp;omega) (fun k hk=>(n.lt k hk).1));have j:=hid f;clear f d;go_wp2_with fail
    refine⟨⟨k+1,l++[(14,0,0,r)],by omega,by go_num,by rw[av,s.out];rfl,eg p (good_of (by omega) (by omega) (by omega) (by omega)),?_,m.out⟩,by simp[intOf];omega⟩;rw[dH,av];exact j
   ·go_wp2_with fail
    refine (dQ _ _ _ (by omega) (by omega) (by omega)).mono ?_;rintro e w' ⟨rfl,rfl⟩;obtain⟨D,E⟩:=bT o cl (by omega);generalize pickV o cl=r at*;go_wp2_with (at_builtin;refine bf _ rfl _ _ 75 rfl w.heap.size 131 i0 (.agg #[.int .i64 0,.int .i64 0,.int .i64 0,.int .i64 0]) 4 32 Tryz.underlying75 hi t x y rfl (by decide) _ _ _ rfl (n.alloc _) ⟨C.heap.size,0,none⟩ 1 1 [.int .i64 14,.int .i64 0,.int .i64 0,.int .i64 r] rfl rfl ?c1 (eh _ _ _ _) ?c3 ?c4 ?c5 ?_)
    case c1=>exact four_new _ _ _ _ _ _
    case c3=>unfold maxLen;omega
    case c4=>omega
    case c5=>have:=g.size;simp;omega
    intro z A f d _;have m:=hid ((bal g _).grown d (by have:=g.size;simp;omega) (fun k hk=>(n.lt k hk).1));have j:=hid f;clear f d;go_wp2_with fail
    refine⟨⟨k+1,l++[(14,0,0,r)],by omega,by go_num,by rw[av,s.out];rfl,eg p (good_of (by omega) (by omega) (by omega) (by omega)),?_,m.out⟩,by simp[intOf];omega⟩;rw[dH,av];exact j
   ·go_wp2_with fail
    refine (dQ _ _ _ (by omega) (by omega) (by omega)).mono ?_;rintro e w' ⟨rfl,rfl⟩;obtain⟨D,E⟩:=bT o cl (by omega);generalize pickV o cl=r at*;go_wp2_with (at_builtin;refine bf _ rfl _ _ 75 rfl w.heap.size 131 i0 (.agg #[.int .i64 0,.int .i64 0,.int .i64 0,.int .i64 0]) 4 32 Tryz.underlying75 hi t x y rfl (by decide) _ _ _ rfl (n.alloc _) ⟨C.heap.size,0,none⟩ 1 1 [.int .i64 14,.int .i64 0,.int .i64 0,.int .i64 r] rfl rfl ?c1 (eh _ _ _ _) ?c3 ?c4 ?c5 ?_)
    case c1=>exact four_new _ _ _ _ _ _
    case c3=>unfold maxLen;omega
    case c4=>omega
    case c5=>have:=g.size;simp;omega
    intro z A f d _;have m:=hid ((bal g _).grown d (by have:=g.size;simp;omega) (fun k hk=>(n.lt k hk).1));have j:=hid f;clear f d;go_wp2_with fail
    refine⟨⟨k+1,l++[(14,0,0,r)],by omega,by go_num,by rw[av,s.out];rfl,eg p (good_of (by omega) (by omega) (by omega) (by omega)),?_,m.out⟩,by simp[intOf];omega⟩;rw[dH,av];exact j
   ·go_wp2_with fail
    refine (dQ _ _ _ (by omega) (by omega) (by omega)).mono ?_;rintro e w' ⟨rfl,rfl⟩;obtain⟨D,E⟩:=bT o cl (by omega);generalize pickV o cl=r at*;go_wp2_with (at_builtin;refine bf _ rfl _ _ 75 rfl w.heap.size 131 i0 (.agg #[.int .i64 0,.int .i64 0,.int .i64 0,.int .i64 0]) 4 32 Tryz.underlying75 hi t x y rfl (by decide) _ _ _ rfl (n.alloc _) ⟨C.heap.size,0,none⟩ 1 1 [.int .i64 14,.int .i64 0,.int .i64 0,.int .i64 r] rfl rfl ?c1 (eh _ _ _ _) ?c3 ?c4 ?c5 ?_)
    case c1=>exact four_new _ _ _ _ _ _
    case c3=>unfold maxLen;omega
    case c4=>omega
    case c5=>have:=g.size;simp;omega
    intro z A f d _;have m:=hid ((bal g _).grown d (by have:=g.size;simp;omega) (fun k hk=>(n.lt k hk).1));have j:=hid f;clear f d;go_wp2_with fail
    refine⟨⟨k+1,l++[(14,0,0,r)],by omega,by go_num,by rw[av,s.out];rfl,eg p (good_of (by omega) (by omega) (by omega) (by omega)),?_,m.out⟩,by simp[intOf];omega⟩;rw[dH,av];exact j
  ·obtain rfl:k=15:=by omega
   go_wp2_with (at_builtin;refine bf _ rfl _ _ 75 rfl w.heap.size 131 i0 (.agg #[.int .i64 0,.int .i64 0,.int .i64 0,.int .i64 0]) 4 32 Tryz.underlying75 hi t x y rfl (by decide) _ _ _ rfl (G.alloc _) ⟨wr.heap.size,0,none⟩ 1 1 [.int .i64 12,.int .i64 0,.int .i64 0,.int .i64 0] rfl rfl ?c1 (eh _ _ _ _) ?c3 ?c4 ?c5 ?_)
   case c1=>exact four_new _ _ _ _ _ _
   case c3=>unfold maxLen;omega
   case c4=>omega
   case c5=>have:=F.size;simp;omega
   intro z A f d _;have m:=hid ((bal F _).grown d (by have:=F.size;simp;omega) (fun k hk=>(G.lt k hk).1));have j:A.ownsRow w.heap.size 131 4 z (l++[(12,0,0,0)]).length (cells4 (l++[(12,0,0,0)])):=by
    rw[dH,av];exact f
   obtain⟨b,cap,U,J,Q⟩:=own_ins j (by simp);subst U;have O:=hid J;clear f d j J;go_wp2_with fail
   go_ret
   exact⟨b,cap,l++[(12,0,0,0)],rfl,by rw[av,s.out];rfl,eg p (good_of (by omega) (by omega) (by omega) (by omega)),O.out,Q,m.out⟩
end Go.Proofs.YtaejnmmpddbbjaaGreatDoor.Mad
